import PyProof.Rows.All
import Wide.All
import OpenK.AllK
import Wide.FinOn
import Lean
import PyProof.EqAt
import PyProof.EqKinds
import PyProof.TupleCall
import PyProof.NeData
import PyProof.ZipIter
import KE.KIntText
import PyProof.Rows.StrSplitAre
import PyProof.Rows.StrJoin2
import PyProof.StrWalks
import PyProof.StrLawsChain
import PyProof.StrLawsTight
import PyProof.Rows.StrItems
import PyProof.Rows.ReprOcc
import PyProof.EnumMake
import PyProof.EnumFor
import KE.KMinKey
import KE.KUnpack
import KE.KNestM
import PyProof.AssignAttr
import KE.KLam
import PySem.Challenge.RW_rimhouse_k41_hundreds_of_desk_deeds
set_option Elab.async false
set_option maxHeartbeats 16000000
set_option linter.all false
set_option maxRecDepth 100000
open Array renaming length_toList->gB,append_assoc->iQ,toList->iR,getElem?_toList->iY
open Bool renaming false_ne_true->bI,and_eq_true->cY,eq_iff_iff->dR,eq_false_iff->dZ,or_false->hW,false_eq_true->jB,or_eq_true->jC,noConfusion->jG
open Char renaming toNat->iF
open Classical renaming byContradiction->fD
open False renaming elim->bN
open ForInStep renaming yield->gH
open Iff renaming rfl->gO
open Int renaming mul_comm->aV,le_of_lt->aX,mul_assoc->aY,mul_zero->bA,toNat_natCast->bR,le_refl->cD,mul_nonneg->cO,mul_neg->cW,add_mul->cX,mul_le_mul_of_nonneg_right->dO,add_zero->dP,mul_pos->eA,neg_mul->eD,zero_mul->eO,mul_one->eW,mul_add->fA,mul_sub->fB,mul_le_mul_of_nonneg_left->fC,emod_nonneg->fE,emod_lt_of_pos->fF,eq_ofNat_of_zero_le->fX,one_mul->gM,mul_eq_zero->gN,lt_of_le_of_lt->gR,gcd->iG,natAbs_mul->iH,eq_of_mul_eq_mul_right->iI,le_of_mul_le_mul_right->iJ,zero_add->iK,fdiv_eq_ediv_of_nonneg->iS,natCast_nonneg->jN,le_of_dvd->jO,dvd_mul_of_dvd_left->jP,mul_ediv_cancel_left->jQ,mul_ediv_cancel'->jR,mul_dvd_mul_left->jS,natAbs_dvd_natAbs->jT,natAbs_neg->kJ,lt_of_lt_of_le->kO
open List renaming length_map->aA,getElem?_map->aE,getElem?_eq_getElem->aG,range->aH,length_append->aI,replicate->aL,getD_eq_getElem?_getD->aM,mem_cons->aO,mem_singleton->aQ,mem_cons_of_mem->aU,map_map->aW,mem_map->aZ,mem_cons_self->bB,size_toArray->bC,map_cons->bD,mem_of_getElem?->bE,getElem?_range->bF,zipWith->bG,getElem?_eq_none->bH,mem_append->bK,getElem?_set_ne->bM,cons_append->bO,map_append->bP,getElem?_eq_some_iff->bQ,sum_cons->bU,getElem?_append_left->bV,length_replicate->bW,ext_getElem?->bX,getElem?_set_self->bZ,mem_append_right->cA,length_set->cC,length_cons->cG,length_take->cI,nil_append->cJ,lookup_cons->cK,zipWith_cons_cons->cN,getElem?_append_right->cP,append_assoc->cQ,not_mem_nil->cS,map_congr_left->cU,mem_range->cV,length_singleton->cZ,all_eq_true->dB,getElem_mem->dH,mem_append_left->dI,append_nil->dJ,length_drop->dL,lookup->dU,getElem?_replicate->dW,replicate_succ->dX,length_zipWith->eN,set_comm->eV,any_cons->eX,map_nil->eY,any_map->fG,flatten_cons->fJ,any_eq_true->fL,length_nil->fN,length_range->fO,getElem?_of_mem->fU,mem_of_mem_take->fV,mem_of_mem_drop->fW,mem_filter->gA,nodup_cons->gD,of_mem_zip->gE,length->gF,forIn_cons->gG,getElem?_zipWith->gQ,eq_nil_of_length_eq_zero->gS,filterMap_cons->hU,mem_filterMap->hV,foldl->hX,forIn_nil->iC,take_of_length_le->iD,eq_nil_or_concat->iN,concat_eq_append->iO,getElem?_eq_none_iff->iP,getElem?_take_of_lt->iV,all_cons->iX,getElem_of_mem->jE,take_succ->jF,map_eq_nil_iff->jK,zipIdx_cons->jL,zipIdx_nil->jM,range_succ_eq_map->jV,getElem?_drop->jW,set_set->jX,map_set->jZ,range_succ->kC,dropLast_concat_getLast->kK,map->kM,append_inj'->kW
open List.Pairwise renaming nil->lW
open List.cons renaming inj->gL
open Nat renaming le_refl->aF,le_trans->aK,lt_of_lt_of_le->aT,ne_of_lt->bJ,lt_irrefl->bL,zero_le->cF,ne_of_gt->dG,le_of_lt->dQ,lt_of_le_of_lt->dY,lt_succ_self->eL,toDigits->eM,le_add_right->eZ,lt_succ_of_lt->fK,log2_lt->fM,sub_self->fP,add_sub_cancel_left->fT,add_le_add_right->fY,min_le_left->fZ,pow_le_pow_right->gP,succ_mul->hZ,le_of_not_lt->iA,pow_pos->iM,le_of_eq->iT,le_succ->iU,mul_comm->iZ,lt_of_succ_le->jD,strongRecOn->jH,digitChar->jI,toDigits_ne_nil->jJ,min_eq_left->jU,le_antisymm->jY,pow_add->kH
open Ne renaming symm->aS
open Option renaming getD_some->dN,map_eq_some_iff->eF,map_some->eP,getD_none->iW,none->jA
open Option.some renaming inj->aJ
open Or renaming inl->aC,inr->dM
open PyProof.Rows renaming envOfC->bY,boot_str->dC,boot_isinstance->dE,boot_list->eE,callWith_type1->gC,boot_tuple->gW,boot_int->iL,boot_range->kF,boot_any->kP,boot_all->kQ,callWith_builtin1->lU,callWith_kw->lX,boot_bool->mG,part_short->mI,split_weight->mJ
open PyProof.Rows.Boot renaming abs->lY
open PySem renaming Paired->aN,boot_len->aR,Str->bS,Pos->eU,mem_of_lookup->fH,Fin->gJ,Within->gZ,call->iB,ofString_length->iE
open PySem.EqMixed renaming eq_bool_str->lC,eq_int_str->lE,eq_str_bool->lG,eq_str_int->lH,ne_bool_str->lN,ne_int_str->lP,ne_str_bool->lR,ne_str_int->lS
open PySem.EqNone renaming eq_none_none->kX,eq_none_bool->kY,eq_none_int->kZ,eq_none_str->lA,eq_bool_none->lB,eq_int_none->lD,eq_str_none->lF,ne_none_none->lI,ne_none_bool->lJ,ne_none_int->lK,ne_none_str->lL,ne_bool_none->lM,ne_int_none->lO,ne_str_none->lQ
open PySem.F renaming plainAttrs_str->eG,plainAttrs_list->eQ,slot_list_append->fQ,type_list_append->fR,slot_str_join->gT,type_str_join->gU,slot_str_split->gX,type_str_split->gY,slot_list_pop->kS,type_list_pop->kU
open PySem.IsL renaming update->lV
open PySem.NumText renaming digitsVal->mD,AllDigits->mF
open PySem.Str renaming mk->gK
open PySem.StrLaws renaming join_length_le->lZ
open PySem.Within renaming cons->lT
open Sum renaming inl->eI,inr->eJ
open True renaming intro->eK
namespace L2
open PySem PySem.Spec PyProof.Rows
abbrev Key:=Sum Int Str
def b2Z:Key->Value->Bool
 | .inl k,v=>Value.isInt k v
 | .inr x,v=>Value.isStrOf x v
def b6N (w:World):Key->Int
 | .inl k=>hashInt k
 | .inr x=>hashStr w x
theorem A7:∀ {k:Key} {v:Value},b2Z k v=true->(∃ i t,k=eI i/\v=Value.int i t)\/(∃ x t,k=eJ x/\v=Value.str x t)
 | .inl i,v,h=>by
  obtain ⟨t,e⟩:=Value.isInt_shape (k:=i) (v:=v) h;exact .inl ⟨i,t,rfl,e⟩
 | .inr x,v,h=>by
  obtain ⟨t,e⟩:=Value.isStrOf_shape (x:=x) (v:=v) h;exact .inr ⟨x,t,rfl,e⟩
theorem b3U (a b:Int):decide ((eI a:Key)=eI b)=(a==b):=by
 by_cases e:a=b
 ·subst e; simp
 ·have h:¬ (eI a:Key)=eI b:=λ q=>e (Sum.inl.inj q)
  rw [decide_eq_false h];exact (beq_eq_false_iff_ne.mpr e).symm
theorem b3W (a b:Str):decide ((eJ a:Key)=eJ b)=decide (a=b):=by
 by_cases e:a=b
 ·subst e; simp
 ·have h:¬ (eJ a:Key)=eJ b:=λ q=>e (Sum.inr.inj q)
  rw [decide_eq_false h,decide_eq_false e]
theorem b4A (a:Int) (b:Str):decide ((eI a:Key)=eJ b)=false:=decide_eq_false (λ q=>nomatch q)
theorem b4s (a:Str) (b:Int):decide ((eJ a:Key)=eI b)=false:=decide_eq_false (λ q=>nomatch q)
def a4r (prog:Program) (w:World):PySem.KeyKind prog w Key where
 is:=b2Z
 hash:=b6N w
 inj:=λ v a b ha hb=>by
  rcases A7 ha with ⟨i,t,rfl,rfl⟩ | ⟨x,t,rfl,rfl⟩
  ·rcases A7 hb with ⟨j,u,rfl,e⟩ | ⟨y,u,rfl,e⟩
   ·injection e with e1 _; rw [e1]
   ·exact nomatch e
  ·rcases A7 hb with ⟨j,u,rfl,e⟩ | ⟨y,u,rfl,e⟩
   ·exact nomatch e
   ·injection e with e1 _; rw [e1]
 byValue:=λ k v h=>by
  rcases A7 h with ⟨i,t,rfl,rfl⟩ | ⟨x,t,rfl,rfl⟩ <;> rfl
 pyHash:=λ hv h=>by
  rcases A7 hv with ⟨i,t,rfl,rfl⟩ | ⟨x,t,rfl,rfl⟩
  ·exact wpAny_pyHash_int h
  ·exact wpAny_pyHash_str h
 eqBool:=λ hu hv h=>by
  rcases A7 hu with ⟨i,t,rfl,rfl⟩ | ⟨x,t,rfl,rfl⟩
  ·rcases A7 hv with ⟨j,u,rfl,rfl⟩ | ⟨y,u,rfl,rfl⟩
   ·rw [b3U] at h; exact wpAny_eqBool_int h
   ·rw [b4A] at h; exact SeqAt.EqAt.int_str i t y u _ _ _ _ h
  ·rcases A7 hv with ⟨j,u,rfl,rfl⟩ | ⟨y,u,rfl,rfl⟩
   ·rw [b4s] at h; exact SeqAt.EqAt.str_int x t j u _ _ _ _ h
   ·rw [b3W] at h; exact wpAny_eqBool_str h
 «strs»:=λ k x t v h=>by
  rcases A7 h with ⟨i,u,rfl,e⟩ | ⟨y,u,rfl,e⟩
  ·exact nomatch e
  ·injection e with e1 _
   subst e1
   cases v <;> rfl
inductive V where
 | non | bl (b:Bool) | int (i:Int) | str (x:Str) | byt (b:Array UInt8) | flt (b:UInt64) | ref (a:Addr) | ty (n:String)
 deriving DecidableEq
def RelV:V->Value->Prop
 | .non,u=>u=Value.none
 | .bl b,u=>u=Value.bool b
 | .int i,u=>∃ t,u=Value.int i t
 | .str x,u=>∃ t,u=Value.str x t
 | .byt b,u=>∃ t,u=Value.bytes b t
 | .flt b,u=>∃ t,u=Value.float b t
 | .ref a,u=>u=Value.ref a
 | .ty n,u=>u=Value.type n
abbrev Vals:List V->List Value->Prop:=Paired RelV
theorem Vals.length {xs:List V} {us:List Value} (r:Vals xs us):xs.length=us.length:=Paired.length r
theorem Vals.get:∀ {xs:List V} {us:List Value} {i:Nat} {x:V},Vals xs us->xs[i]?=some x->∃ u,us[i]?=some u/\RelV x u
 | _,_,_,_,.nil,e=>by simp at e
 | _,_,0,_,.cons r _,e=>by simp at e; subst e; exact ⟨_,rfl,r⟩
 | _,_,i+1,x,.cons _ t,e=>by
  obtain ⟨u,h1,h2⟩:=Vals.get (i:=i) (x:=x) t (by simpa using e);exact ⟨u,by simpa using h1,h2⟩
theorem Vals.set {x:V} {u:Value} (r:RelV x u):∀ {xs:List V} {us:List Value} (i:Nat),Vals xs us->Vals (xs.set i x) (us.set i u)
 | _,_,_,.nil=>.nil
 | _,_,0,.cons _ t=>.cons r t
 | _,_,i+1,.cons q t=>.cons q (Vals.set r i t)
theorem Vals.append:∀ {xs ys:List V} {us ws:List Value},Vals xs us->Vals ys ws->Vals (xs++ys) (us++ws)
 | _,_,_,_,.nil,s=>s
 | _,_,_,_,.cons r t,s=>.cons r (Vals.append t s)
theorem Vals.take:∀ {xs:List V} {us:List Value} (n:Nat),Vals xs us->Vals (xs.take n) (us.take n)
 | _,_,0,_=>.nil
 | _,_,_+1,.nil=>.nil
 | _,_,n+1,.cons r t=>.cons r (Vals.take n t)
theorem Vals.drop:∀ {xs:List V} {us:List Value} (n:Nat),Vals xs us->Vals (xs.drop n) (us.drop n)
 | _,_,0,r=>r
 | _,_,_+1,.nil=>.nil
 | _,_,n+1,.cons _ t=>Vals.drop n t
theorem Vals.none_of:∀ {xs:List V} {us:List Value} {i:Nat},Vals xs us->xs[i]?=none->us[i]?=none:=λ {xs us i} r e=>by
 have h1:=r.length;have h2:xs.length<=i:=iP.mp e;exact iP.mpr (by omega)
def RelO:Option V->Option Value->Prop
 | some v,some u=>RelV v u
 | none,none=>True
 | _,_=>False
def KV {κ:Type}:List (κ×V)->List (κ×Value)->Prop:=Paired λ (p:κ×V) (q:κ×Value)=>p.1=q.1/\RelV p.2 q.2
def kV:Key->V
 | .inl i=>.int i
 | .inr x=>.str x
inductive HO where
  | lst (xs:List V)
  | tup (xs:List V)
  | dK (kvs:List (Key×V)) | dT (kvs:List (List Key×V))
  | set (S:Int->Bool) (n:Nat)
  | ins (C dx:Addr) (fs:List (Str×V))
  | own (x:Addr)
  | xd (fs:List (Str×V))
  | met (f x:Addr)
  | rng (lo hi:Int)
  | frz (o:Obj) (u:HO)
  | tbl (ps:Array Value)
  | ext (φ:Heap->Prop)
abbrev Hp:=Addr->Option HO
def r9 (H:Hp) (a:Addr) (o:HO):Hp:=λ b=>if b=a then some o else H b
theorem upd_same {H:Hp} {a:Addr} {o:HO}:r9 H a o a=some o:=by unfold r9; rw [if_pos rfl]
theorem c9 {H:Hp} {a b:Addr} {o:HO} (h:b≠a):r9 H a o b=H b:=by unfold r9; rw [if_neg h]
theorem V5 {H:Hp} {a:Addr} {o u:HO}:r9 (r9 H a o) a u=r9 H a u:=by
 funext b; unfold r9; split <;> rfl
theorem A5 {H:Hp} {a b:Addr} {o u:HO} (h:H a=some o) (h':H b=some u) (d:o≠u):a≠b:=by
 intro e; subst e; rw [h] at h'; exact d (aJ h')
theorem c8 {H:Hp} {a b:Addr} {o:HO} (h:H a=some o) (h':H b=none):a≠b:=by
 intro e; subst e; rw [h] at h'; cases h'
section
variable (P:Program) (w:World)
def ObjOk (H:Hp) (h:Heap) (a:Addr):HO->Prop
 | .lst xs=>xs.length<=sizeLine/\∃ (its:List Value) (n:Nat),Vals xs its/\h.get? a=some { cls:=.type "list",data:=.seq its.toArray n }
 | .tup xs=>xs.length<=sizeLine/\∃ its:List Value,Vals xs its/\IsTup h a its.toArray
 | .dK kvs=>kvs.length<=sizeLine/\(a==sysModules)=false/\∃ vs,KV kvs vs/\h.DictOf (a4r P w) a vs
 | .dT kvs=>kvs.length<=sizeLine/\(a==sysModules)=false/\∃ xs:List (List Key×Addr×Value),
   Paired (λ (p:List Key×V) (q:List Key×Addr×Value)=>p.1=q.1/\H q.2.1=some (.tup (p.1.map kV))/\RelV p.2 q.2.2) kvs xs ∧
   ∃ o es ep,h.get? a=some o/\o.ExactDict/\o.data=.dict es ep/\es.toList=xs.map (entryOfKey (tupleKind (a4r P w)))/\(xs.map (·.1)).Nodup
 | .set S n=>h.SetOf (intKind P w) a S n
 | .ins C dx fs=>H dx=some (.own a)/\fs.length<=1000/\dx≠a/\h.get? a=some (W.instObj C dx) ∧
   ∃ mA,h.Ns1 dx mA/\(∀ f,RelO (fs.lookup f) (mA f))/\gZ mA (fs.map (·.1))
 | .own _=>∃ o,h.get? a=some o
 | .xd fs=>∃ mA,h.Ns1 a mA/\∀ f,RelO (fs.lookup f) (mA f)
 | .rng lo hi=>∃ t u v,h.get? a=some { cls:=.type "range",data:=.fields #[.int lo t,.int hi u,.int 1 v] }
 | .frz o u=>h.get? a=some o/\ObjOk H h a u
 | .tbl ps=>h.get? a=some { cls:=.none,data:=.fields ps }
 | .met f x=>h.get? a=some (W.methodObj (.ref f) (.ref x))
 | .ext φ=>φ h/\(∃ o,h.get? a=some o)/\∀ h1 h2:Heap,φ h1->(∀ o,h1.get? a=some o->h2.get? a=some o)->φ h2
def HOk (H:Hp) (h:Heap):Prop:=∀ a o,H a=some o->ObjOk P w H h a o
end
section
variable {P:Program} {w:World} {H H':Hp} {h h':Heap} {a:Addr} {o:HO}
theorem ObjOk.lt (x:ObjOk P w H h a o):a<h.objs.size:=by
 cases o with
 | lst xs=>obtain ⟨_,_,_,_,e⟩:=x; exact Heap.lt_size e
 | tup xs=>obtain ⟨_,_,_,p⟩:=x; exact p.lt
 | dK kvs=>obtain ⟨_,_,_,_,o,_,_,e,_⟩:=x; exact Heap.lt_size e
 | dT kvs=>obtain ⟨_,_,_,_,o,_,_,e,_⟩:=x; exact Heap.lt_size e
 | set S n=>obtain ⟨o,_,_,_,e,_⟩:=x; exact Heap.lt_size e
 | ins C dx fs=>obtain ⟨_,_,_,e,_⟩:=x; exact Heap.lt_size e
 | own y=>obtain ⟨_,e⟩:=x; exact Heap.lt_size e
 | xd fs=>obtain ⟨_,⟨_,_,_,e,_⟩,_⟩:=x; exact Heap.lt_size e
 | rng lo hi=>obtain ⟨_,_,_,e⟩:=x; exact Heap.lt_size e
 | frz ob u=>obtain ⟨e,_⟩:=x; exact Heap.lt_size e
 | tbl ps=>exact Heap.lt_size (show h.get? a=some _ from x)
 | met f y=>exact Heap.lt_size (show h.get? a=some _ from x)
 | ext φ=>obtain ⟨_,⟨_,e⟩,_⟩:=x; exact Heap.lt_size e
theorem Paired.mapP {α β:Type} {F G:α->β->Prop}:∀ {l₁:List α} {l₂:List β},Paired F l₁ l₂->(∀ a b,F a b->G a b)->Paired G l₁ l₂
 | _,_,.nil,_=>.nil
 | _,_,.cons r t,f=>.cons (f _ _ r) (Paired.mapP t f)
theorem Paired.imp' {α β:Type} {F G:α->β->Prop} (f:∀ a b,F a b->G a b) {l₁:List α} {l₂:List β} (r:Paired F l₁ l₂):Paired G l₁ l₂:=Paired.mapP r f
theorem ObjOk.stay (x:ObjOk P w H h a o) (k:∀ b u,(b=a\/H b=some (.own a))->h.get? b=some u->h'.get? b=some u)
  (ho:∀ b,H b=some (.own a)->H' b=some (.own a)) (ht:∀ b xs,H b=some (.tup xs)->H' b=some (.tup xs)):ObjOk P w H' h' a o:=by
 induction o with
 | lst xs=>obtain ⟨z,its,n,r,e⟩:=x; exact ⟨z,its,n,r,k _ _ (.inl rfl) e⟩
 | tup xs=>obtain ⟨z,its,r,ob,e,c⟩:=x; exact ⟨z,its,r,ob,k _ _ (.inl rfl) e,c⟩
 | dK kvs=>obtain ⟨z,y,vs,r,ob,es,ep,e,c⟩:=x; exact ⟨z,y,vs,r,ob,es,ep,k _ _ (.inl rfl) e,c⟩
 | dT kvs =>
  obtain ⟨z,y,xs,r,ob,es,ep,e,c⟩:=x;exact ⟨z,y,xs,Paired.mapP r λ p q z=>⟨z.1,ht _ _ z.2.1,z.2.2⟩,ob,es,ep,k _ _ (.inl rfl) e,c⟩
 | set S n=>obtain ⟨ob,es,ep,t,e,c⟩:=x; exact ⟨ob,es,ep,t,k _ _ (.inl rfl) e,c⟩
 | ins C dx fs =>
  obtain ⟨d,z,ne,e,mA,⟨od,es,ep,e2,c⟩,r⟩:=x;exact ⟨ho _ d,z,ne,k _ _ (.inl rfl) e,mA,⟨od,es,ep,k _ _ (.inr d) e2,c⟩,r⟩
 | own y=>obtain ⟨ob,e⟩:=x; exact ⟨ob,k _ _ (.inl rfl) e⟩
 | xd fs=>obtain ⟨mA,⟨od,es,ep,e,c⟩,r⟩:=x; exact ⟨mA,⟨od,es,ep,k _ _ (.inl rfl) e,c⟩,r⟩
 | rng lo hi=>obtain ⟨t,u,v,e⟩:=x; exact ⟨t,u,v,k _ _ (.inl rfl) e⟩
 | frz ob u ih=>obtain ⟨e,q⟩:=x; exact ⟨k _ _ (.inl rfl) e,ih q⟩
 | tbl ps =>
  have e:h.get? a=some { cls:=.none,data:=.fields ps }:=x
  show h'.get? a=some { cls:=.none,data:=.fields ps }
  exact k a _ (.inl rfl) e
 | met f y =>
  have e:h.get? a=some (W.methodObj (.ref f) (.ref y)):=x
  show h'.get? a=some (W.methodObj (.ref f) (.ref y))
  exact k a _ (.inl rfl) e
 | ext φ=>obtain ⟨p,⟨o,e⟩,st⟩:=x; exact ⟨st _ _ p λ o q=>k _ _ (.inl rfl) q,⟨o,k _ _ (.inl rfl) e⟩,st⟩
theorem HOk.lt (x:HOk P w H h) (e:H a=some o):a<h.objs.size:=(x a o e).lt
theorem HOk.fresh (x:HOk P w H h) (e:h.objs.size<=a):H a=none:=by
 cases q:H a with
 | none=>rfl
 | some u=>exact absurd (aT (x.lt q) e) (bL _)
theorem HOk.kept (x:HOk P w H h) (k:∀ b u,h.get? b=some u->h'.get? b=some u):HOk P w H h':=λ a o e =>
 (x a o e).stay (λ b u _ q=>k b u q) (λ _ q=>q) λ _ _ q=>q
theorem HOk.laid (x:HOk P w H h) (k:∀ b u,h.get? b=some u->h'.get? b=some u) (hp:h.objs.size<=a) (new:ObjOk P w (r9 H a o) h' a o):HOk P w (r9 H a o) h':=λ b u e=>by
 have hn:=x.fresh hp
 by_cases hb:b=a
 ·subst hb; rw [upd_same] at e; cases e; exact new
 ·rw [c9 hb] at e
  exact (x b u e).stay (λ c v _ q=>k c v q) (λ c q=>by rw [c9 (c8 q hn)]; exact q) λ c xs q=>by rw [c9 (c8 q hn)]; exact q
end
def Rd (H:Hp) (a:Addr) (u:HO):Prop:=H a=some u\/∃ o,H a=some (.frz o u)
theorem Rd.ok {P:Program} {w:World} {H:Hp} {h:Heap} {a:Addr} {u:HO} (r:Rd H a u) (x:HOk P w H h):ObjOk P w H h a u:=by
 rcases r with r | ⟨o,r⟩
 ·exact x a u r
 ·obtain ⟨_,q⟩:=x a _ r
  exact q
def Mut:Option HO->Prop
 | some (.lst _)=>True
 | some (.dK _)=>True
 | some (.dT _)=>True
 | some (.set _ _)=>True
 | some (.ins _ _ _)=>True
 | some (.ext _)=>True
 | _=>False
section
variable {P:Program} {w:World} {H:Hp} {h h':Heap} {x e:Addr} {o':HO}
theorem HOk.write (ok:HOk P w H h) (mu:Mut (H x)) (he:e=x\/H e=some (.own x)) (k:∀ b u,b≠e->h.get? b=some u->h'.get? b=some u) (heo:∃ u,h'.get? e=some u)
  (new:ObjOk P w (r9 H x o') h' x o'):HOk P w (r9 H x o') h':=λ b u q=>by
 have nown:∀ c y,H c=some (.own y)->c≠x:=λ c y r z=>by subst z; rw [r] at mu; exact mu
 have ntup:∀ c xs,H c=some (.tup xs)->c≠x:=λ c xs r z=>by subst z; rw [r] at mu; exact mu
 by_cases hb:b=x
 ·subst hb; rw [upd_same] at q; cases q; exact new
 ·rw [c9 hb] at q
  by_cases hbe:b=e
  ·have q':H b=some (.own x):=by
    rcases he with z | z
    ·exact absurd (hbe.trans z) hb
    ·rw [hbe]; exact z
   rw [q] at q'; cases q';obtain ⟨v,hv⟩:=heo;exact ⟨v,by rw [hbe]; exact hv⟩
  ·refine (ok b u q).stay (λ c v hc r=>k c v ?_ r) (λ c r=>by rw [c9 (nown c b r)]; exact r) λ c xs r=>by rw [c9 (ntup c xs r)]; exact r
   rcases hc with rfl | hc
   ·exact hbe
   ·rintro rfl
    rcases he with z | z
    ·exact nown c b hc z
    ·rw [hc] at z; cases z; exact hb rfl
end
structure Un (fs ex:List Addr) (H H':Hp) (h h':Heap):Prop where
 keep:∀ b o,h.get? b=some o->H b=none->b ∉ fs->b ∉ ex->h'.get? b=some o
 slot:∀ b o,h.get? b=some o->H b=none->b∈fs->b ∉ ex->∃ sl,h'.get? b=some { o with slots:=sl }
 free:∀ b o,h.get? b=some o->H b=none->b ∉ ex->H' b=none
 there:∀ b o,h.get? b=some o->b ∉ ex->∃ o',h'.get? b=some o'
 tups:∀ b xs,H b=some (.tup xs)->H' b=some (.tup xs)
 frzs:∀ b o u,H b=some (.frz o u)->H' b=some (.frz o u)
 tbls:∀ b ps,H b=some (.tbl ps)->∃ more,H' b=some (.tbl (ps++more))
section
variable {fs fs' ex ex':List Addr} {H H1 H2:Hp} {h h1 h2 h':Heap} {a x e:Addr} {o:HO}
theorem Un.any (u:Un fs ex H H1 h h1) {b:Addr} {ob:Obj} (q:h.get? b=some ob) (n:H b=none) (hx:b ∉ ex):∃ sl,h1.get? b=some { ob with slots:=sl }:=by
 by_cases hb:b∈fs
 ·exact u.slot b ob q n hb hx
 ·exact ⟨ob.slots,u.keep b ob q n hb hx⟩
theorem Un.kept (k:∀ b u,h.get? b=some u->h'.get? b=some u):Un fs ex H H h h' :=
 ⟨λ b ob q _ _ _=>k b ob q,λ b ob q _ _ _=>⟨ob.slots,k b ob q⟩,λ _ _ _ n _=>n,λ b ob q _=>⟨ob,k b ob q⟩,λ _ _ q=>q,λ _ _ _ q=>q,λ _ ps q=>⟨#[],by rw [q]; simp⟩⟩
theorem Un.refl:Un fs ex H H h h:=Un.kept λ _ _ q=>q
theorem Un.laid (k:∀ b u,h.get? b=some u->h'.get? b=some u) (hp:h.objs.size<=a) (hn:H a=none):Un fs ex H (r9 H a o) h h' where
 keep:=λ b u q _ _ _=>k b u q
 slot:=λ b u q _ _ _=>⟨u.slots,k b u q⟩
 free:=λ b u q n _=>by rw [c9 (bJ (aT (Heap.lt_size q) hp))]; exact n
 there:=λ b u q _=>⟨u,k b u q⟩
 tups:=λ b xs q=>by rw [c9 (c8 q hn)]; exact q
 frzs:=λ b u xs q=>by rw [c9 (c8 q hn)]; exact q
 tbls:=λ b ps q=>⟨#[],by rw [c9 (c8 q hn),q]; simp⟩
theorem Un.write (mu:Mut (H x)) (he:e=x\/H e=some (.own x)) (k:∀ b u,b≠e->h.get? b=some u->h'.get? b=some u) (heo:∃ u,h'.get? e=some u):Un fs ex H (r9 H x o) h h':=by
 have hx:∀ b,H b=none->b≠x:=λ b n z=>by subst z; rw [n] at mu; exact mu
 have hb:∀ b,H b=none->b≠e:=λ b n z=>by
  subst z;rcases he with r | r
  ·exact hx b n r
  ·rw [n] at r; cases r
 have hm:∀ b u,H b=some u->¬ Mut (some u)->b≠x:=λ b u q nm z=>by subst z; rw [q] at mu; exact nm mu
 refine ⟨λ b u q n _ _=>k b u (hb b n) q,λ b u q n _ _=>⟨u.slots,k b u (hb b n) q⟩,λ b u q n _=>by rw [c9 (hx b n)]; exact n,λ b u q _=>?_,
  λ b xs q=>by rw [c9 (hm b _ q λ z=>z)]; exact q,λ b u xs q=>by rw [c9 (hm b _ q λ z=>z)]; exact q,λ b ps q=>⟨#[],by rw [c9 (hm b _ q λ z=>z),q]; simp⟩⟩
 by_cases hbe:b=e
 ·subst hbe; exact heo
 ·exact ⟨u,k b u hbe q⟩
end
def trk (h:Heap) (H:Hp):List Addr:=(aH h.objs.size).filter λ a=>(H a).isSome
def a2Z (h:Heap) (H:Hp):Heap:=W.hideAll h (trk h H)
theorem a8a (h:Heap) (H:Hp):(a2Z h H).objs.size=h.objs.size:=W.hideAll_size _ _
theorem b0O {h:Heap} {H:Hp} {b:Addr} {o:Obj} (e:h.get? b=some o) (n:H b=none):(a2Z h H).get? b=some o :=
 W.hideAll_get _ e λ hm=>by
  have q:(H b).isSome=true:=(gA.mp hm).2;rw [n] at q; simp at q
theorem b1C {h:Heap} {H:Hp} {b:Addr} {o:Obj} (e:(a2Z h H).get? b=some o):h.get? b=some o/\H b=none:=by
 have e':h.get? b=some o:=W.of_hideAll (trk h H) e;refine ⟨e',?_⟩
 cases q:H b with
 | none=>rfl
 | some x =>
  have hm:b∈trk h H:=gA.mpr ⟨List.mem_range.mpr (Heap.lt_size e'),by simp [q]⟩;have z:(a2Z h H).get? b=none:=W.hideAll_none (trk h H) hm;rw [z] at e; cases e
def b2F (g h:Heap) (L:Addr):List (Addr×Obj):=(aH h.objs.size).filterMap λ a=>if a=L\/(g.get? a).isSome=true then none else (h.get? a).map λ o=>(a,o)
def rest (g h:Heap) (L d:Addr):List (Addr×Obj):=(b2F g h L).filter λ p=>decide (p.1≠d)
structure Mod (K:W.Frag) (mg:Str->Option Value) (base:Heap):Prop where
 kin:K.In base
 glob:base.Ns mainGlobals mg
 blt:∃ mb,base.Ns builtinsNs mb/\∀ x:Str,x≠"__name__"->mb x=bootBuiltins x
 nolimit:base.NoLimit
structure Cx where
 prog:Program
 w:World
 K:W.Frag
 mg:Str->Option Value
 base:Heap
 A:Around
 N:List Str
 s₀:Shared
 H₀:Hp
 env:Env
 outer:List Env
 stack:List Env
 ex:List Addr
 fn:Str->Bool
 calm:Bool
 pn:List (Addr×Obj)
 xe:Value->Shared->Prop
def frs (l:List Env):List Addr:=l.filterMap (·.frame)
abbrev Cx.fs (X:Cx):List Addr:=frs X.outer
def Vis (sc:Scope) (x:Str):Prop:=sc.names.lookup x=some .local\/sc.names.lookup x=some .cell\/sc.names.lookup x=some .free
def Loc (sc:Scope) (x:Str):Prop:=sc.names.lookup x=some .local\/sc.names.lookup x=some .cell
def b6p (env:Env) (h:Heap) (m:Str->Option Value) (x:Str) (u:Value):Prop :=
 (env.kindOf x=some .local/\m x=some u)\/((env.kindOf x=some .cell\/env.kindOf x=some .free)/\∃ c,env.cells.lookup x=some c/\h.IsCell c (some u))
structure Cx.Ok (X:Cx):Prop where
 mod:Mod X.K X.mg X.base
 kind:X.env.scope.kind=.function
 glob:X.env.globals=mainGlobals
 blt:X.env.builtins=builtinsNs
 above:X.s₀.heap.objs.size<=X.env.locals
 inj:∀ x y c,X.env.cells.lookup x=some c->X.env.cells.lookup y=some c->x=y
 has:∀ x,(X.env.kindOf x=some .cell\/X.env.kindOf x=some .free)->∃ c,X.env.cells.lookup x=some c
 cab:∀ x c,X.fn x=true->X.env.cells.lookup x=some c->X.s₀.heap.objs.size<=c
 hd:X.calm=true->X.A.handled=none
 frames:X.A.frames=some X.stack
 stk:X.stack=X.outer\/(X.stack=X.env::X.outer/\X.env.frame=some X.env.locals)
 exf:∀ b∈X.ex,b≠X.env.locals/\∀ x c,X.env.cells.lookup x=some c->c≠b
 bs:∀ b o,X.base.get? b=some o->X.s₀.heap.get? b=some o/\X.H₀ b=none
 bsz:X.base.objs.size<=X.s₀.heap.objs.size
 noex:∀ b o,X.base.get? b=some o->b ∉ X.ex
 exfs:∀ b∈X.ex,b ∉ X.fs
 funs:X.s₀.heap.FunFrames X.base X.outer
 frf:∀ b∈X.fs,X.H₀ b=none
structure Inv (X:Cx) (pins:List (Addr×Obj)) (σ:List (Option V)) (H:Hp) (s:Shared):Prop where
 ok:X.Ok
 os:s.os=X.s₀.os
 bare:AllBare s.gens
 base:Un X.fs X.ex X.H₀ H X.s₀.heap s.heap
 loc:∃ m,s.heap.Ns X.env.locals m/\∀ (i:Nat) (x:Str) (v:V),X.N[i]?=some x->σ[i]?=some (some v)->Vis X.env.scope x->∃ u,RelV v u/\b6p X.env s.heap m x u
 cell:∀ x c,X.env.cells.lookup x=some c->∃ v,s.heap.IsCell c v
 free:H X.env.locals=none
 freeC:∀ x c,X.env.cells.lookup x=some c->H c=none
 pin:∀ p∈X.pn++pins,s.heap.get? p.1=some p.2/\H p.1=none/\p.1≠X.env.locals/\p.1 ∉ X.fs/\∀ v,p.2.data≠.cell v
 hok:HOk X.prog X.w H s.heap
 len:σ.length=X.N.length
section
variable {X:Cx} {pins:List (Addr×Obj)} {σ:List (Option V)} {H H':Hp} {s:Shared} {h':Heap}
theorem Cx.Ok.nofr (ok:X.Ok) {b:Addr} {o:Obj} (e:X.base.get? b=some o):b ∉ X.fs:=λ hb=>by
 have:=(ok.funs.mem hb).1;rw [e] at this; cases this
theorem Inv.bs (I:Inv X pins σ H s):∀ b o,X.base.get? b=some o->s.heap.get? b=some o/\H b=none:=λ b o e =>
 ⟨I.base.keep b o (I.ok.bs b o e).1 (I.ok.bs b o e).2 (I.ok.nofr e) (I.ok.noex b o e),I.base.free b o (I.ok.bs b o e).1 (I.ok.bs b o e).2 (I.ok.noex b o e)⟩
theorem Inv.bk (I:Inv X pins σ H s):∀ b o,X.base.get? b=some o->s.heap.get? b=some o:=λ b o e=>(I.bs b o e).1
theorem Inv.mod (I:Inv X pins σ H s):Mod X.K X.mg X.base:=I.ok.mod
theorem Inv.kIn (I:Inv X pins σ H s):X.K.In s.heap:=I.ok.mod.kin.keeps I.bk
theorem Inv.nolimit (I:Inv X pins σ H s):s.heap.NoLimit:=I.ok.mod.nolimit.keeps I.bk
theorem Inv.fr (I:Inv X pins σ H s):∃ m,Fr X.base X.env.locals s.heap m :=
 let ⟨m,hn,_⟩:=I.loc
 ⟨m,hn,I.bk,aK I.ok.bsz I.ok.above⟩
theorem Inv.lt (I:Inv X pins σ H s):X.env.locals<s.heap.objs.size:=let ⟨_,hn,_⟩:=I.loc; hn.lt
theorem Inv.sz (I:Inv X pins σ H s):X.s₀.heap.objs.size<=s.heap.objs.size:=aK I.ok.above (dQ I.lt)
theorem Inv.nofs (I:Inv X pins σ H s) {a:Addr} (h:s.heap.objs.size<=a):a ∉ X.fs:=λ hb=>by
 obtain ⟨_,o,ho,_⟩:=I.ok.funs.mem hb;exact absurd (aT (Heap.lt_size ho) (aK I.sz h)) (bL _)
theorem Inv.cne (I:Inv X pins σ H s):∀ x c,X.env.cells.lookup x=some c->c≠X.env.locals:=λ x c e z=>by
 obtain ⟨v,o,ho,hd⟩:=I.cell x c e;obtain ⟨m,⟨o',es,ep,ho',hd',_⟩,_⟩:=I.loc;rw [z,ho'] at ho; cases ho; rw [hd'] at hd; cases hd
theorem Inv.funs (I:Inv X pins σ H s):s.heap.FunFrames X.base X.outer:=by
 have all:∀ (l:List Env),(∀ b∈frs l,b∈X.fs)->X.s₀.heap.FunFrames X.base l->s.heap.FunFrames X.base l:=by
  intro l
  induction l with
  | nil=>intro _ _; trivial
  | cons env r ih =>
   intro hs hl;obtain ⟨hk,⟨L,o,hf,hn,ho,hd⟩,hr⟩:=hl;have hL:L∈X.fs:=hs L (by unfold frs; rw [hU,hf]; exact bB);obtain ⟨sl,e⟩:=I.base.slot L o ho (I.ok.frf L hL) hL λ z=>I.ok.exfs L z hL;exact ⟨hk,⟨L,_,hf,hn,e,hd⟩,ih (λ b hb=>hs b (by unfold frs; rw [hU,hf]; exact aU _ hb)) hr⟩
 exact all X.outer (λ _ hb=>hb) I.ok.funs
theorem Inv.stack (I:Inv X pins σ H s):s.heap.FunFrames X.base X.stack:=by
 rcases I.ok.stk with e | ⟨e,hf⟩
 ·rw [e]; exact I.funs
 ·rw [e]
  obtain ⟨m,hn,_⟩:=I.loc;refine .cons (by rw [I.ok.kind]; decide) hf hn ?_ I.funs;exact Heap.get?_none_of_le (aK I.ok.bsz I.ok.above)
theorem Inv.stkSub (I:Inv X pins σ H s):∀ b∈frs X.stack,b∈X.env.locals::X.fs:=λ b hb=>by
 rcases I.ok.stk with e | ⟨e,hf⟩
 ·rw [e] at hb; exact aU _ hb
 ·rw [e] at hb
  unfold frs at hb;rw [hU,hf] at hb;exact hb
theorem Inv.stkFree (I:Inv X pins σ H s):∀ b∈frs X.stack,H b=none:=λ b hb=>by
 rcases aO.mp (I.stkSub b hb) with e | hb
 ·rw [e]; exact I.free
 ·obtain ⟨_,o,ho,_⟩:=I.ok.funs.mem hb
  exact I.base.free b o ho (I.ok.frf b hb) λ z=>I.ok.exfs b z hb
theorem Inv.step {g':Array GenState} {t':Nat} {d':Drawn} {ch:List Addr} (I:Inv X pins σ H s)
  (hch:∀ b∈ch,(b∈X.ex\/X.s₀.heap.objs.size<=b)/\b≠X.env.locals/\(∀ x c,X.env.cells.lookup x=some c->c≠b)/\∀ p∈X.pn++pins,p.1≠b)
  (keep:∀ b o,b≠X.env.locals->b ∉ X.fs->b ∉ ch->s.heap.get? b=some o->H b=none->h'.get? b=some o)
  (slot:∀ b o,b≠X.env.locals->b∈X.fs->b ∉ ch->s.heap.get? b=some o->H b=none->∃ sl,h'.get? b=some { o with slots:=sl }) (free:∀ b o,b ∉ ch->s.heap.get? b=some o->H b=none->H' b=none)
  (there:∀ b o,b ∉ ch->s.heap.get? b=some o->∃ o',h'.get? b=some o')
  (tups:∀ b xs,H b=some (.tup xs)->H' b=some (.tup xs)) (frzs:∀ b o u,H b=some (.frz o u)->H' b=some (.frz o u)) (tbls:∀ b ps,H b=some (.tbl ps)->∃ more,H' b=some (.tbl (ps++more)))
  (ns:∀ m,s.heap.Ns X.env.locals m->h'.Ns X.env.locals m) (hok:HOk X.prog X.w H' h') (hg:AllBare g') :
  Inv X pins σ H' { s with heap:=h',gens:=g',drawn:=d',toks:=t' }:=by
 have neL:∀ b o,X.s₀.heap.get? b=some o->b≠X.env.locals:=λ b o e=>bJ (aT (Heap.lt_size e) I.ok.above);have neC:∀ b o,X.s₀.heap.get? b=some o->b ∉ X.ex->b ∉ ch:=λ b o e hx hb=>by
  rcases (hch b hb).1 with z | z
  ·exact hx z
  ·exact absurd (aT (Heap.lt_size e) z) (bL _)
 have cellK:∀ x c,X.env.cells.lookup x=some c->∀ v,s.heap.IsCell c v->h'.IsCell c v:=λ x c e v ⟨o,ho,hd⟩=>by
  have nch:c ∉ ch:=λ z=>(hch c z).2.2.1 x c e rfl
  by_cases hc:c∈X.fs
  ·obtain ⟨sl,q⟩:=slot c o (I.cne x c e) hc nch ho (I.freeC x c e)
   exact ⟨_,q,hd⟩
  ·exact ⟨o,keep c o (I.cne x c e) hc nch ho (I.freeC x c e),hd⟩
 refine ⟨I.ok,I.os,hg,⟨λ b o e n hb hx=>?_,λ b o e n hb hx=>?_,λ b o e n hx=>?_,λ b o e hx=>?_,λ b xs e=>tups b xs (I.base.tups b xs e),λ b o xs e=>frzs b o xs (I.base.frzs b o xs e),λ b ps e=>?_⟩,?_,λ x c e=>?_,?_,λ x c e=>?_,λ p hp=>?_,hok,I.len⟩
 ·exact keep b o (neL b o e) hb (neC b o e hx) (I.base.keep b o e n hb hx) (I.base.free b o e n hx)
 ·obtain ⟨sl,e1⟩:=I.base.slot b o e n hb hx
  obtain ⟨sl',e2⟩:=slot b _ (neL b o e) hb (neC b o e hx) e1 (I.base.free b o e n hx);exact ⟨sl',e2⟩
 ·obtain ⟨o',e1⟩:=I.base.there b o e hx
  exact free b o' (neC b o e hx) e1 (I.base.free b o e n hx)
 ·obtain ⟨o',e1⟩:=I.base.there b o e hx
  exact there b o' (neC b o e hx) e1
 ·obtain ⟨m1,e1⟩:=I.base.tbls b ps e
  obtain ⟨m2,e2⟩:=tbls b _ e1;exact ⟨m1++m2,by rw [e2,iQ]⟩
 ·obtain ⟨m,hn,hl⟩:=I.loc
  refine ⟨m,ns m hn,λ i x v e1 e2 e3=>?_⟩;obtain ⟨u,r,l⟩:=hl i x v e1 e2 e3;refine ⟨u,r,?_⟩;rcases l with l | ⟨k,c,e,z⟩
  ·exact .inl l
  ·exact .inr ⟨k,c,e,cellK x c e _ z⟩
 ·obtain ⟨v,z⟩:=I.cell x c e
  exact ⟨v,cellK x c e v z⟩
 ·obtain ⟨m,⟨o,_,_,ho,_⟩,_⟩:=I.loc
  exact free _ o (λ z=>(hch _ z).2.1 rfl) ho I.free
 ·obtain ⟨v,o,ho,hd⟩:=I.cell x c e
  exact free c o (λ z=>(hch c z).2.2.1 x c e rfl) ho (I.freeC x c e)
 ·obtain ⟨e,n,ne,nf,d⟩:=I.pin p hp
  have nch:p.1 ∉ ch:=λ z=>(hch p.1 z).2.2.2 p hp rfl;exact ⟨keep p.1 p.2 ne nf nch e n,free p.1 p.2 nch e n,ne,nf,d⟩
theorem Inv.un {t':Nat} (I:Inv X pins σ H s) (u:Un X.fs [] H H' s.heap h') (hok:HOk X.prog X.w H' h'):Inv X pins σ H' { s with heap:=h',toks:=t' }:=by
 obtain ⟨m,⟨o,es,ep,ho,r⟩,_⟩:=id I.loc;obtain ⟨sl,hL⟩:=u.any ho I.free (by simp);exact I.step (g':=s.gens) (d':=s.drawn) (ch:=[]) (λ _ z=>nomatch z) (λ b o _ hb _ e n=>u.keep b o e n hb (by simp)) (λ b o _ hb _ e n=>u.slot b o e n hb (by simp)) (λ b o _ e n=>u.free b o e n (by simp)) (λ b o _ e=>u.there b o e (by simp)) u.tups u.frzs u.tbls (λ m' hm=>by
  obtain ⟨o',es',ep',ho',r'⟩:=hm;rw [ho] at ho'; cases ho';exact ⟨_,es',ep',hL,r'⟩) hok I.bare
theorem Inv.call {g':Array GenState} {t':Nat} {d':Drawn} {ch:List Addr} (I:Inv X pins σ H s) (u:Un (frs X.stack) ch H H' s.heap h') (hok:HOk X.prog X.w H' h') (hg:AllBare g')
  (hch:∀ b∈ch,(b∈X.ex\/X.s₀.heap.objs.size<=b)/\b≠X.env.locals/\(∀ x c,X.env.cells.lookup x=some c->c≠b)/\∀ p∈X.pn++pins,p.1≠b) :
  Inv X pins σ H' { s with heap:=h',gens:=g',drawn:=d',toks:=t' }:=by
 obtain ⟨m,⟨o,es,ep,ho,r⟩,_⟩:=id I.loc;obtain ⟨sl,hL⟩:=u.any ho I.free λ z=>(hch _ z).2.1 rfl;exact I.step (ch:=ch) hch (λ b o hL hb hc e n=>u.keep b o e n (λ z=>(aO.mp (I.stkSub b z)).elim hL hb) hc) (λ b o _ _ hc e n=>u.any e n hc) (λ b o hc e n=>u.free b o e n hc) (λ b o hc e=>u.there b o e hc) u.tups u.frzs u.tbls (λ m' hm=>by
  obtain ⟨o',es',ep',ho',r'⟩:=hm;rw [ho] at ho'; cases ho';exact ⟨_,es',ep',hL,r'⟩) hok hg
theorem Inv.turned {t':Nat} {it:Addr} (I:Inv X pins σ H s) (k:∀ b o,b≠it->s.heap.get? b=some o->h'.get? b=some o) (hn:H it=none) (hL:it≠X.env.locals)
  (h1:it∈X.ex\/X.s₀.heap.objs.size<=it) (h2:∀ x c,X.env.cells.lookup x=some c->c≠it) (h3:∀ p∈X.pn++pins,p.1≠it):Inv X pins σ H { s with heap:=h',toks:=t' }:=by
 have nit:∀ b u,H b=some u->b≠it:=λ b u e z=>by rw [z,hn] at e; cases e
 refine I.step (g':=s.gens) (d':=s.drawn) (ch:=[it]) (λ b hb=>?_) (λ b o _ _ hc e _=>k b o (λ z=>hc (by simp [z])) e) (λ b o _ _ hc e _=>⟨o.slots,k b o (λ z=>hc (by simp [z])) e⟩) (λ _ _ _ _ n=>n)
  (λ b o hc e=>⟨o,k b o (λ z=>hc (by simp [z])) e⟩) (λ _ _ e=>e) (λ _ _ _ e=>e) (λ b ps e=>⟨#[],by rw [e]; simp⟩) (λ m hm=>?_) (λ b u e=>?_) I.bare
 ·have e:b=it:=by simpa using hb
  subst e;exact ⟨h1,hL,h2,h3⟩
 ·obtain ⟨o,es,ep,ho,r⟩:=hm
  exact ⟨o,es,ep,k _ o (aS hL) ho,r⟩
 ·refine (I.hok b u e).stay (λ c v hc q=>k c v ?_ q) (λ _ q=>q) λ _ _ q=>q
  rcases hc with z | z
  ·rw [z]; exact nit b u e
  ·exact nit c _ z
theorem Inv.tok (I:Inv X pins σ H s) (t:Nat):Inv X pins σ H { s with toks:=t }:=I.un (h':=s.heap) (t':=t) Un.refl I.hok
theorem Inv.kept {t':Nat} (I:Inv X pins σ H s) (k:∀ b u,s.heap.get? b=some u->h'.get? b=some u):Inv X pins σ H { s with heap:=h',toks:=t' }:=I.un (Un.kept k) (I.hok.kept k)
theorem Inv.laid {a:Addr} {o:HO} {t':Nat} (I:Inv X pins σ H s) (k:∀ b u,s.heap.get? b=some u->h'.get? b=some u) (hp:s.heap.objs.size<=a) (new:ObjOk X.prog X.w (r9 H a o) h' a o) :
  Inv X pins σ (r9 H a o) { s with heap:=h',toks:=t' }:=I.un (Un.laid k hp (I.hok.fresh hp)) (I.hok.laid k hp new)
theorem Inv.write {x e:Addr} {o:HO} {t':Nat} (I:Inv X pins σ H s) (mu:Mut (H x)) (he:e=x\/H e=some (.own x)) (k:∀ b u,b≠e->s.heap.get? b=some u->h'.get? b=some u) (heo:∃ u,h'.get? e=some u)
  (new:ObjOk X.prog X.w (r9 H x o) h' x o):Inv X pins σ (r9 H x o) { s with heap:=h',toks:=t' }:=I.un (Un.write mu he k heo) (I.hok.write mu he k heo new)
theorem Inv.weak {σ':List (Option V)} (I:Inv X pins σ H s) (hl:σ'.length=σ.length) (w:∀ (i:Nat) v,σ'[i]?=some (some v)->σ[i]?=some (some v)):Inv X pins σ' H s :=
 ⟨I.ok,I.os,I.bare,I.base,let ⟨m,hn,hl'⟩:=I.loc; ⟨m,hn,λ i x v e1 e2 e3=>hl' i x v e1 (w i v e2) e3⟩,I.cell,I.free,I.freeC,I.pin,I.hok,hl.trans I.len⟩
theorem Inv.pins_of {pins':List (Addr×Obj)} (I:Inv X pins σ H s) (h:∀ p∈pins',s.heap.get? p.1=some p.2/\H p.1=none/\p.1≠X.env.locals/\p.1 ∉ X.fs/\∀ v,p.2.data≠.cell v):Inv X pins' σ H s :=
 ⟨I.ok,I.os,I.bare,I.base,I.loc,I.cell,I.free,I.freeC,λ p hp=>(bK.mp hp).elim (λ z=>I.pin p (dI _ z)) (h p),I.hok,I.len⟩
theorem a2g {N:List Str} (hN:N.Nodup) {i j:Nat} {x:Str} (a:N[i]?=some x) (b:N[j]?=some x):i=j:=by
 obtain ⟨h1,e1⟩:=bQ.mp a;obtain ⟨h2,e2⟩:=bQ.mp b;exact (List.getElem_inj hN).mp (e1.trans e2.symm)
theorem a1n {M:Model} {A:Around} {E:Value->Shared->Prop} {i:Nat} {x:Str} {v:V} {u:Value} {Q:Unit->Shared->Prop} (I:Inv X pins σ H s) (hN:X.N.Nodup) (hi:X.N[i]?=some x) (hx:Loc X.env.scope x) (r:RelV v u)
  (h:∀ s',Inv X pins (σ.set i (some v)) H s'->(∃ a,Heap.SameBut a s.heap s'.heap/\(a=X.env.locals\/X.env.cells.lookup x=some a))->Q () s') (hf:X.fn x=true\/X.env.scope.names.lookup x=some .local:=by first | exact .inl rfl | exact .inr rfl | assumption):wpAny M A (storeName X.env x u) Q E s:=by
 obtain ⟨m,hn,hl⟩:=id I.loc;have hcls:(X.env.scope.kind==.class || (X.env.scope.kind==.module&&X.env.locals != X.env.globals))=false:=by rw [I.ok.kind]; rfl
 have hiσ:i<σ.length:=by rw [I.len]; exact (bQ.mp hi).1
 have cne:=I.cne;have tracked:∀ {a:Addr} {h':Heap},(∃ o,s.heap.get? a=some o/\H a=none)->Heap.SameBut a s.heap h'->HOk X.prog X.w H h':=λ {a h'} ha hs b ob e=>by
  obtain ⟨_,_,hfree⟩:=ha;refine (I.hok b ob e).stay (λ c w' hc q=>(hs.2 c ?_).trans q) (λ _ q=>q) λ _ _ q=>q;rintro rfl;rcases hc with rfl | hc
  ·rw [hfree] at e; cases e
  ·rw [hfree] at hc; cases hc
 rcases hx with hk | hk
 ·refine wpAny_storeName_local hk hn (λ h' hn' hs=>?_) hcls
  obtain ⟨oL,_,_,hoL,_⟩:=id hn;refine h _ ⟨I.ok,I.os,I.bare,⟨λ b o e n hb hx=>?_,λ b o e n hb hx=>?_,I.base.free,λ b o e hx=>?_,I.base.tups,I.base.frzs,I.base.tbls⟩,⟨_,hn',λ j y v' e1 e2 e3=>?_⟩,λ y c e=>?_,I.free,I.freeC,λ p hp=>?_,tracked ⟨oL,hoL,I.free⟩ hs,by simpa using I.len⟩ ⟨_,hs,.inl rfl⟩
  ·exact (hs.2 b (bJ (aT (Heap.lt_size e) I.ok.above))).trans (I.base.keep b o e n hb hx)
  ·obtain ⟨sl,e1⟩:=I.base.slot b o e n hb hx
   exact ⟨sl,(hs.2 b (bJ (aT (Heap.lt_size e) I.ok.above))).trans e1⟩
  ·obtain ⟨o',e1⟩:=I.base.there b o e hx
   exact ⟨o',(hs.2 b (bJ (aT (Heap.lt_size e) I.ok.above))).trans e1⟩
  ·by_cases hj:j=i
   ·subst hj
    rw [hi] at e1; cases e1;rw [bZ hiσ] at e2
    cases e2;exact ⟨u,r,.inl ⟨hk,by simp⟩⟩
   ·rw [bM (aS hj)] at e2
    obtain ⟨u',r',q⟩:=hl j y v' e1 e2 e3;refine ⟨u',r',?_⟩;rcases q with ⟨k,e⟩ | ⟨k,c,e,z⟩
    ·refine .inl ⟨k,?_⟩
     have:y≠x:=λ e=>hj (a2g hN e1 (e ▸ hi));simp [this,e]
    ·exact .inr ⟨k,c,e,z.sameBut hs (cne y c e)⟩
  ·obtain ⟨w',z⟩:=I.cell y c e
   exact ⟨w',z.sameBut hs (cne y c e)⟩
  ·obtain ⟨e,n,ne,nf,d⟩:=I.pin p hp
   exact ⟨(hs.2 p.1 ne).trans e,n,ne,nf,d⟩
 ·have hfn:X.fn x=true:=by
   rcases hf with z | z
   ·exact z
   ·rw [z] at hk; cases hk
  obtain ⟨c,hc⟩:=I.ok.has x (.inl hk);obtain ⟨w',z⟩:=I.cell x c hc;refine wpAny_storeName_cell I.ok.kind hk hc z (λ h' hc' hs=>?_);obtain ⟨oc,hoc,hocd⟩:=id z;refine h { s with heap:=h' } ⟨I.ok,I.os,I.bare,⟨λ b o e n hb hx=>?_,λ b o e n hb hx=>?_,I.base.free,λ b o e hx=>?_,I.base.tups,I.base.frzs,I.base.tbls⟩,⟨m,hn.sameBut hs (aS (cne x c hc)),λ j y v' e1 e2 e3=>?_⟩,λ y c' e=>?_,I.free,I.freeC,λ p hp=>?_,tracked ⟨oc,hoc,I.freeC x c hc⟩ hs,by simpa using I.len⟩ ⟨c,hs,.inr hc⟩
  ·exact (hs.2 b (bJ (aT (Heap.lt_size e) (I.ok.cab x c hfn hc)))).trans (I.base.keep b o e n hb hx)
  ·obtain ⟨sl,e1⟩:=I.base.slot b o e n hb hx
   exact ⟨sl,(hs.2 b (bJ (aT (Heap.lt_size e) (I.ok.cab x c hfn hc)))).trans e1⟩
  ·obtain ⟨o',e1⟩:=I.base.there b o e hx
   exact ⟨o',(hs.2 b (bJ (aT (Heap.lt_size e) (I.ok.cab x c hfn hc)))).trans e1⟩
  ·by_cases hj:j=i
   ·subst hj
    rw [hi] at e1; cases e1;rw [bZ hiσ] at e2
    cases e2;exact ⟨u,r,.inr ⟨.inl hk,c,hc,hc'⟩⟩
   ·rw [bM (aS hj)] at e2
    obtain ⟨u',r',q⟩:=hl j y v' e1 e2 e3;refine ⟨u',r',?_⟩;rcases q with q | ⟨k,c',e,z'⟩
    ·exact .inl q
    ·refine .inr ⟨k,c',e,z'.sameBut hs ?_⟩
     rintro rfl;exact hj (a2g hN e1 (I.ok.inj _ _ _ e hc ▸ hi))
  ·by_cases hcc:c'=c
   ·subst hcc; exact ⟨_,hc'⟩
   ·obtain ⟨w2,z2⟩:=I.cell y c' e
    exact ⟨w2,z2.sameBut hs hcc⟩
  ·obtain ⟨e,n,ne,nf,d⟩:=I.pin p hp
   refine ⟨(hs.2 p.1 ?_).trans e,n,ne,nf,d⟩;intro q;rw [q,hoc] at e;have q':oc=p.2:=aJ e;exact d w' (by rw [<- q']; exact hocd)
theorem X2 {M:Model} {A:Around} {E:Value->Shared->Prop} {i:Nat} {x:Str} {v:V} {u:Value} {Q:Unit->Shared->Prop} (I:Inv X pins σ H s) (hN:X.N.Nodup) (hi:X.N[i]?=some x) (hx:Loc X.env.scope x) (r:RelV v u)
  (h:∀ s',Inv X pins (σ.set i (some v)) H s'->Q () s') (hf:X.fn x=true\/X.env.scope.names.lookup x=some .local:=by first | exact .inl rfl | exact .inr rfl | assumption):wpAny M A (storeName X.env x u) Q E s :=
 a1n I hN hi hx r (λ s' I' _=>h s' I') hf
theorem Inv.call' {s':Shared} {ch:List Addr} (I:Inv X pins σ H s) (ho:s'.os=s.os) (u:Un (frs X.stack) ch H H' s.heap s'.heap) (hok:HOk X.prog X.w H' s'.heap) (hg:AllBare s'.gens)
  (hch:∀ b∈ch,(b∈X.ex\/X.s₀.heap.objs.size<=b)/\b≠X.env.locals/\(∀ x c,X.env.cells.lookup x=some c->c≠b)/\∀ p∈X.pn++pins,p.1≠b):Inv X pins σ H' s':=by
 obtain ⟨h',g',d',t',o'⟩:=s';have e:o'=s.os:=ho;subst e;exact I.call (g':=g') (t':=t') (d':=d') u hok hg hch
end
abbrev XK:=Value->Option Addr->Hp->Prop
abbrev St:=List (Option V)
abbrev VK:=V->Hp->Prop
abbrev TE:=St->Hp->VK->Prop
abbrev TT:=St->Hp->(Bool->Hp->Prop)->Prop
abbrev TA:=St->Hp->(List V->Hp->Prop)->Prop
structure Ends where
 nx:St->Hp->Prop
 rt:VK
 bk:St->Hp->Prop:=λ _ _=>False
 ct:St->Hp->Prop:=λ _ _=>False
abbrev TS:=Ends->St->Hp->Prop
def EP (X:Cx) (pins:List (Addr×Obj)) (σ:St) (Q:VK) (u:Value) (s':Shared):Prop:=∃ v H',Inv X pins σ H' s'/\RelV v u/\Q v H'
def TP (X:Cx) (pins:List (Addr×Obj)) (σ:St) (Q:Bool->Hp->Prop) (b:Bool) (s':Shared):Prop:=∃ H',Inv X pins σ H' s'/\Q b H'
def AP (X:Cx) (pins:List (Addr×Obj)) (σ:St) (Q:List V->Hp->Prop) (us:List Value) (s':Shared):Prop:=∃ vs H',Inv X pins σ H' s'/\Vals vs us/\Q vs H'
def SP (X:Cx) (pins:List (Addr×Obj)) (D:Ends) (f:Flow) (s':Shared):Prop :=
 match f with
 | .next=>∃ σ' H',Inv X pins σ' H' s'/\D.nx σ' H'
 | .brk=>∃ σ' H',Inv X pins σ' H' s'/\D.bk σ' H'
 | .cont=>∃ σ' H',Inv X pins σ' H' s'/\D.ct σ' H'
 | .ret u=>∃ v σ' H',Inv X pins σ' H' s'/\RelV v u/\D.rt v H'
def PE (X:Cx) (e:Expr) (t:TE):Prop :=
 ∀ (pins:List (Addr×Obj)) (s:Shared) (σ:St) (H:Hp) (Q:VK),Inv X pins σ H s->t σ H Q->wpAny (model X.prog X.w) X.A (eval e X.env) (EP X pins σ Q) X.xe s
def PT (X:Cx) (e:Expr) (t:TT):Prop :=
 ∀ (pins:List (Addr×Obj)) (s:Shared) (σ:St) (H:Hp) (Q:Bool->Hp->Prop),Inv X pins σ H s->t σ H Q->wpAny (model X.prog X.w) X.A (isTrue e X.env (eval e X.env)) (TP X pins σ Q) X.xe s
def PW (X:Cx) (e:Expr) (t:TT):Prop :=
 ∀ (whole:Sem Value) (pins:List (Addr×Obj)) (s:Shared) (σ:St) (H:Hp) (Q:Bool->Hp->Prop),Inv X pins σ H s->t σ H Q->wpAny (model X.prog X.w) X.A (isTrue e X.env whole) (TP X pins σ Q) X.xe s
theorem PW.pt {X:Cx} {e:Expr} {t:TT} (h:PW X e t):PT X e t:=h _
def PA (X:Cx) (es:List Expr) (t:TA):Prop :=
 ∀ (pos:Pos) (pins:List (Addr×Obj)) (s:Shared) (σ:St) (H:Hp) (Q:List V->Hp->Prop),Inv X pins σ H s->t σ H Q->wpAny (model X.prog X.w) X.A (spliced (backTo pos (starEach es X.env))) (AP X pins σ Q) X.xe s
def PS (X:Cx) (st:Stmt) (t:TS):Prop :=
 ∀ (pins:List (Addr×Obj)) (s:Shared) (σ:St) (H:Hp) (D:Ends),Inv X pins σ H s->t D σ H->wpAny (model X.prog X.w) X.A (exec st X.env) (SP X pins D) X.xe s
def PSs (X:Cx) (st:List Stmt) (t:TS):Prop :=
 ∀ (pins:List (Addr×Obj)) (s:Shared) (σ:St) (H:Hp) (D:Ends),Inv X pins σ H s->t D σ H->wpAny (model X.prog X.w) X.A (execs st X.env) (SP X pins D) X.xe s
theorem y9 {α:Type} {t:Sem α} {Q Q':α->Shared->Prop} {M:Model} {A:Around} {E:Value->Shared->Prop} {s:Shared} (h:wpAny M A t Q E s) (hQ:∀ a s,Q a s->Q' a s):wpAny M A t Q' E s:=wpAny_mono h hQ λ _ _ x=>x
section
variable {X:Cx}
theorem bin {a b:Expr} {ta tb:TE} (ha:PE X a ta) (hb:PE X b tb) {pins:List (Addr×Obj)} {s:Shared} {σ:St} {H:Hp} {R:V->V->Hp->Prop} (I:Inv X pins σ H s) (h:ta σ H λ x H1=>tb σ H1 λ y H2=>R x y H2)
  {α:Type} {Q:α->Shared->Prop} {f:Value->Value->Sem α}
  (hf:∀ v u s2 x y H2,Inv X pins σ H2 s2->RelV x v->RelV y u->R x y H2->wpAny (model X.prog X.w) X.A (f v u) Q X.xe s2) :
  wpAny (model X.prog X.w) X.A (eval a X.env) (λ v s₁=>wpAny (model X.prog X.w) X.A (eval b X.env) (λ u s₂=>wpAny (model X.prog X.w) X.A (f v u) Q X.xe s₂) X.xe s₁) X.xe s:=by
 refine y9 (ha pins s σ H _ I h) λ v s1 ⟨x,H1,I1,r1,q1⟩=>?_;refine y9 (hb pins s1 σ H1 _ I1 q1) λ u s2 ⟨y,H2,I2,r2,q2⟩=>?_;exact hf v u s2 x y H2 I2 r1 r2 q2
def b2b (i:Nat):TE:=λ σ H Q=>∃ v,σ[i]?=some (some v)/\Q v H
def tC (v:V):TE:=λ _ H Q=>Q v H
theorem b3A {i:Nat} {x:Str} {pos:Pos} (hN:X.N[i]?=some x) (hv:Vis X.env.scope x) (hd:(x==("__debug__":Str))=false:=by decide) (hcd:(x==("__classdict__":Str))=false:=by decide):PE X (.Name x pos) (b2b i):=by
 intro pins s σ H Q I h;obtain ⟨v,e,h⟩:=h;obtain ⟨m,hn,hl⟩:=I.loc;obtain ⟨u,r,l⟩:=hl i x v hN e hv;have fin:EP X pins σ Q u s:=⟨v,H,I,r,h⟩;rcases l with ⟨hk,hm⟩ | ⟨hk,c,hc,hcell⟩
 ·exact wpAny_Name (wpAny_loadName_local I.ok.kind hk hn hm fin) hd
 ·rcases hk with hk | hk
  ·exact wpAny_Name (wpAny_loadName_cell I.ok.kind hk hc hcell fin) hd
  ·exact wpAny_Name (wpAny_loadName_free I.ok.kind hk hc hcell fin hcd) hd
theorem e8 {i j pos}:PE X (.Constant (.int i) j pos) (tC (.int i)):=λ _ _ _ H _ I h=>wpAny_Constant_int ⟨.int i,H,I.tok _,⟨_,rfl⟩,h⟩
theorem a3I {b j pos}:PE X (.Constant (.bool b) j pos) (tC (.bl b)):=λ _ _ _ H _ I h=>Constant_bool ⟨.bl b,H,I,rfl,h⟩
theorem B9 {j pos}:PE X (.Constant .none j pos) (tC .non):=λ _ _ _ H _ I h=>Constant_none ⟨.non,H,I,rfl,h⟩
theorem j9 {x j pos}:PE X (.Constant (.str x) j pos) (tC (.str x)):=λ _ _ _ H _ I h=>Calls.Constant_str ⟨.str x,H,I.tok _,⟨_,rfl⟩,h⟩
def Gl (X:Cx) (x:Str):Prop:=X.env.kindOf x=some .globalImplicit
theorem Z4 {E:Value->Shared->Prop} {pins:List (Addr×Obj)} {s:Shared} {σ:St} {H:Hp} {x:Str} {u:Value} {pos:Pos} {Q:Value->Shared->Prop} (I:Inv X pins σ H s) (hg:Gl X x) (hm:X.mg x=some u) (h:Q u s)
  (hd:(x==("__debug__":Str))=false:=by decide):wpAny (model X.prog X.w) X.A (eval (.Name x pos) X.env) Q E s :=
 Calls.Name_function_global I.ok.kind hg (Calls.loadGlobal_global (by rw [I.ok.glob]; exact I.mod.glob.keeps I.bk) hm h) hd
theorem a0B {E:Value->Shared->Prop} {pins:List (Addr×Obj)} {s:Shared} {σ:St} {H:Hp} {x:Str} {u:Value} {pos:Pos} {Q:Value->Shared->Prop} (I:Inv X pins σ H s) (hg:Gl X x) (hm:X.mg x=none) (hv:bootBuiltins x=some u) (h:Q u s)
  (hn:x≠"__name__":=by decide) (hd:(x==("__debug__":Str))=false:=by decide):wpAny (model X.prog X.w) X.A (eval (.Name x pos) X.env) Q E s:=by
 obtain ⟨mb,h1,h2⟩:=I.mod.blt;exact Calls.Name_function_global I.ok.kind hg (Calls.loadGlobal_builtin (by rw [I.ok.glob]; exact I.mod.glob.keeps I.bk) hm (by rw [I.ok.blt]; exact h1.keeps I.bk) ((h2 x hn).trans hv) h) hd
theorem x5 {x:Str} {v:V} {u:Value} {pos:Pos} (hg:Gl X x) (hm:X.mg x=some u) (r:RelV v u) (hd:(x==("__debug__":Str))=false:=by decide):PE X (.Name x pos) (tC v) :=
 λ _ _ _ H _ I h=>Z4 I hg hm ⟨v,H,I,r,h⟩ hd
theorem a1d {x:Str} {v:V} {u:Value} {pos:Pos} (hg:Gl X x) (hm:X.mg x=none) (hv:bootBuiltins x=some u) (r:RelV v u) (hn:x≠"__name__":=by decide) (hd:(x==("__debug__":Str))=false:=by decide):PE X (.Name x pos) (tC v) :=
 λ _ _ _ H _ I h=>a0B I hg hm hv ⟨v,H,I,r,h⟩ hn hd
variable {a b:Expr} {ta tb:TE} {pos:Pos}
def tB (t:TE):TT:=λ σ H Q=>t σ H λ x H1=>∃ c,x=.bl c/\Q c H1
theorem S2 {e:Expr} {t:TE} (h:PE X e t) (he:∀ whole,isTrue e X.env whole=(do let v <- whole; standAt e.pos; holding [v] (truthy v)):=by intro _; rfl):PT X e (tB t):=by
 intro pins s σ H Q I hw;refine isTrue_plain (y9 (h pins s σ H _ I hw) λ v s1 ⟨x,H1,I1,r1,q1⟩=>?_) (he _);obtain ⟨d,rfl,q⟩:=q1
 cases r1;exact wpAny_truthy_bool ⟨H1,I1,q⟩
variable {tA tB':TT} {rest:List Expr}
def b6W (t u:TT):TT:=λ σ H Q=>t σ H λ c H1=>if c=true then u σ H1 Q else Q false H1
def tOr (t u:TT):TT:=λ σ H Q=>t σ H λ c H1=>if c=true then Q true H1 else u σ H1 Q
def b6V (t:TT):TT:=λ σ H Q=>t σ H λ c H1=>Q (!c) H1
theorem R0 (ha:PT X a tA):PW X (.BoolOp .And [a] pos) tA:=by
 intro wh pins s σ H Q I h;refine isTrue_and (y9 (ha pins s σ H Q I h) λ c s1 e=>?_)
 cases c with
 | true=>exact isTrue_and_nil e
 | false=>exact e
theorem V0 (ha:PT X a tA):PW X (.BoolOp .Or [a] pos) tA:=by
 intro wh pins s σ H Q I h;refine isTrue_or (y9 (ha pins s σ H Q I h) λ c s1 e=>?_)
 cases c with
 | false=>exact isTrue_or_nil e
 | true=>exact e
theorem W6 (ha:PT X a tA) (hb:PW X (.BoolOp .And (b::rest) pos) tB'):PW X (.BoolOp .And (a::b::rest) pos) (b6W tA tB'):=by
 intro wh pins s σ H Q I h;refine isTrue_and (y9 (ha pins s σ H _ I h) λ c s1 ⟨H1,I1,q1⟩=>?_)
 cases c with
 | true=>exact hb wh pins s1 σ H1 Q I1 q1
 | false=>exact ⟨H1,I1,q1⟩
theorem a0Z (ha:PT X a tA) (hb:PW X (.BoolOp .Or (b::rest) pos) tB'):PW X (.BoolOp .Or (a::b::rest) pos) (tOr tA tB'):=by
 intro wh pins s σ H Q I h;refine isTrue_or (y9 (ha pins s σ H _ I h) λ c s1 ⟨H1,I1,q1⟩=>?_)
 cases c with
 | true=>exact ⟨H1,I1,q1⟩
 | false=>exact hb wh pins s1 σ H1 Q I1 q1
theorem J4 (ha:PT X a tA):PT X (.UnaryOp .Not a pos) (b6V tA):=by
 intro pins s σ H Q I h;exact isTrue_not (ha pins s σ H (λ c H1=>Q (!c) H1) I h)
def b4N (ta tb:TE):TE:=λ σ H Q=>ta σ H λ x H1=>∃ c,x=.bl c/\if c=true then tb σ H1 Q else Q (.bl false) H1
def b5t (ta:TE):TE:=λ σ H Q=>ta σ H λ x H1=>∃ c,x=.bl c/\Q (.bl (!c)) H1
theorem b0t {op} {t:TE} (h:PE X a t):PE X (.BoolOp op [a] pos) t:=λ pins s σ H Q I hw=>BoolOp_one (h pins s σ H Q I hw)
theorem a9w (ha:PE X a ta) (hb:PE X (.BoolOp .And (b::rest) pos) tb):PE X (.BoolOp .And (a::b::rest) pos) (b4N ta tb):=by
 intro pins s σ H Q I h;refine BoolOp_and (y9 (ha pins s σ H _ I h) λ v s1 ⟨x,H1,I1,r1,q1⟩=>?_);obtain ⟨c,rfl,q1⟩:=q1
 cases r1;refine wpAny_truthy_bool ?_
 cases c with
 | true=>exact hb pins s1 σ H1 Q I1 q1
 | false=>exact ⟨.bl false,H1,I1,rfl,q1⟩
theorem b4b (ha:PE X a ta):PE X (.UnaryOp .Not a pos) (b5t ta):=by
 intro pins s σ H Q I h;refine UnaryOp_ (y9 (ha pins s σ H _ I h) λ v s1 ⟨x,H1,I1,r1,q1⟩=>?_);obtain ⟨c,rfl,q1⟩:=q1
 cases r1;exact not_of (wpAny_truthy_bool ⟨.bl (!c),H1,I1,rfl,q1⟩)
def tIf (t:TT) (ta tb:TE):TE:=λ σ H Q=>t σ H λ c H1=>if c=true then ta σ H1 Q else tb σ H1 Q
theorem a0N {c:Expr} (hc:PT X c tA) (ha:PE X a ta) (hb:PE X b tb):PE X (.IfExp c a b pos) (tIf tA ta tb):=by
 intro pins s σ H Q I h;refine wpAny_IfExp (y9 (hc pins s σ H _ I h) λ d s1 ⟨H1,I1,q1⟩=>?_)
 cases d with
 | true=>exact ha pins s1 σ H1 Q I1 q1
 | false=>exact hb pins s1 σ H1 Q I1 q1
end
def SqL (K:W.Frag) (H:Hp) (a:Addr) (xs:List V):Prop :=
 Rd H a (.lst xs) ∨
  ∃ (o:Obj) (its:Array Value) (n:Nat),K.lookup a=some o/\o.cls=.type "list"/\o.dict=none/\o.data=.seq its n/\its.size<=sizeLine/\Vals xs its.toList
def SqT (K:W.Frag) (H:Hp) (a:Addr) (xs:List V):Prop :=
 Rd H a (.tup xs) ∨
  ∃ (o:Obj) (its:Array Value) (n:Nat),K.lookup a=some o/\o.cls=.type "tuple"/\o.data=.seq its n/\its.size<=sizeLine/\Vals xs its.toList
def b6M:Value->Option V
 | .none=>some .non
 | .bool b=>some (.bl b)
 | .int i _=>some (.int i)
 | .str x _=>some (.str x)
 | .bytes b _=>some (.byt b)
 | .float b _=>some (.flt b)
 | .ref a=>some (.ref a)
 | .type n=>some (.ty n)
 | _=>none
theorem RelV.abs {x:V} {u:Value} (r:RelV x u):b6M u=some x:=by
 cases x with
 | non=>cases r; rfl
 | bl _=>cases r; rfl
 | int _=>obtain ⟨t,rfl⟩:=r; rfl
 | str _=>obtain ⟨t,rfl⟩:=r; rfl
 | byt _=>obtain ⟨t,rfl⟩:=r; rfl
 | flt _=>obtain ⟨t,rfl⟩:=r; rfl
 | ref _=>cases r; rfl
 | ty _=>cases r; rfl
theorem RelV.inj {x y:V} {u:Value} (r:RelV x u) (q:RelV y u):x=y:=aJ (r.abs.symm.trans q.abs)
theorem Vals.inj:∀ {xs ys:List V} {us:List Value},Vals xs us->Vals ys us->xs=ys
 | _,_,_,.nil,.nil=>rfl
 | _,_,_,.cons r t,.cons r' t'=>by rw [r.inj r',Vals.inj t t']
section
variable {X:Cx} {pins:List (Addr×Obj)} {σ:St} {H:Hp} {s:Shared} {a:Addr} {xs ys:List V}
theorem SqL.of {K:W.Frag} (h:H a=some (.lst xs)):SqL K H a xs:=.inl (.inl h)
theorem SqT.of {K:W.Frag} (h:H a=some (.tup xs)):SqT K H a xs:=.inl (.inl h)
theorem Inv.list (I:Inv X pins σ H s) (h:SqL X.K H a xs):∃ its:List Value,Vals xs its/\PlainL s.heap a its.toArray/\xs.length<=sizeLine:=by
 rcases h with h | ⟨o,its,n,hk,hc,hd,hs,hz,r⟩
 ·obtain ⟨z,its,n,r,e⟩:=h.ok I.hok
  exact ⟨its,r,⟨_,n,e,rfl,rfl,rfl⟩,z⟩
 ·refine ⟨its.toList,r,⟨o,n,I.kIn a o hk,hc,hd,by simpa using hs⟩,?_⟩
  have e:=r.length;simp only [gB] at e;omega
theorem Inv.tuple (I:Inv X pins σ H s) (h:SqT X.K H a xs):∃ its:List Value,Vals xs its/\IsTup s.heap a its.toArray/\xs.length<=sizeLine:=by
 rcases h with h | ⟨o,its,n,hk,hc,hs,hz,r⟩
 ·obtain ⟨z,its,r,p⟩:=h.ok I.hok
  exact ⟨its,r,p,z⟩
 ·refine ⟨its.toList,r,⟨o,I.kIn a o hk,hc,n,by simpa using hs⟩,?_⟩
  have e:=r.length;simp only [gB] at e;omega
theorem Inv.list_inj (I:Inv X pins σ H s) (h:SqL X.K H a xs) (h':SqL X.K H a ys):xs=ys:=by
 obtain ⟨its,r,⟨o,n,e,_,_,d⟩,_⟩:=I.list h;obtain ⟨its',r',⟨o',n',e',_,_,d'⟩,_⟩:=I.list h';rw [e] at e'; cases e';rw [d] at d';injection d' with d1 _
 have:its=its':=by simpa using congrArg iR d1
 subst this;exact r.inj r'
theorem Inv.tuple_inj (I:Inv X pins σ H s) (h:SqT X.K H a xs) (h':SqT X.K H a ys):xs=ys:=by
 obtain ⟨its,r,⟨o,e,_,n,d⟩,_⟩:=I.tuple h;obtain ⟨its',r',⟨o',e',_,n',d'⟩,_⟩:=I.tuple h';rw [e] at e'; cases e';rw [d] at d';injection d' with d1 _
 have:its=its':=by simpa using congrArg iR d1
 subst this;exact r.inj r'
end
abbrev Cx.wish (X:Cx) (E:Value->Shared->Prop):Cx:={ X with xe:=E }
abbrev Cx.nox (X:Cx):Cx:=X.wish λ _ _=>False
theorem Cx.Ok.wish {X:Cx} (ok:X.Ok) (E:Value->Shared->Prop):(X.wish E).Ok :=
 ⟨ok.mod,ok.kind,ok.glob,ok.blt,ok.above,ok.inj,ok.has,ok.cab,ok.hd,ok.frames,ok.stk,ok.exf,ok.bs,ok.bsz,ok.noex,ok.exfs,ok.funs,ok.frf⟩
theorem Cx.Ok.unwish {X:Cx} {E:Value->Shared->Prop} (ok:(X.wish E).Ok):X.Ok :=
 ⟨ok.mod,ok.kind,ok.glob,ok.blt,ok.above,ok.inj,ok.has,ok.cab,ok.hd,ok.frames,ok.stk,ok.exf,ok.bs,ok.bsz,ok.noex,ok.exfs,ok.funs,ok.frf⟩
section
variable {X:Cx} {pins:List (Addr×Obj)} {σ:St} {H:Hp} {s:Shared} {E:Value->Shared->Prop}
theorem Inv.wish (I:Inv X pins σ H s) (E:Value->Shared->Prop):Inv (X.wish E) pins σ H s:=⟨I.ok.wish E,I.os,I.bare,I.base,I.loc,I.cell,I.free,I.freeC,I.pin,I.hok,I.len⟩
theorem Inv.unwish (I:Inv (X.wish E) pins σ H s):Inv X pins σ H s:=⟨I.ok.unwish,I.os,I.bare,I.base,I.loc,I.cell,I.free,I.freeC,I.pin,I.hok,I.len⟩
theorem SP.unwish {D:Ends} {f:Flow} {s':Shared} (h:SP (X.wish E) pins D f s'):SP X pins D f s':=by
 cases f with
 | next=>obtain ⟨σ',H',I,q⟩:=h; exact ⟨σ',H',I.unwish,q⟩
 | brk=>obtain ⟨σ',H',I,q⟩:=h; exact ⟨σ',H',I.unwish,q⟩
 | cont=>obtain ⟨σ',H',I,q⟩:=h; exact ⟨σ',H',I.unwish,q⟩
 | ret u=>obtain ⟨v,σ',H',I,r,q⟩:=h; exact ⟨v,σ',H',I.unwish,r,q⟩
theorem PSs.nox {st:List Stmt} {t:TS} (h:PSs X.nox st t):PSs X st t:=λ pins s σ H D I hw =>
 wpAny_mono (h pins s σ H D (I.wish _) hw) (λ _ _ q=>q.unwish) λ _ _ z=>bN z
end
section
variable {X:Cx} {st:Stmt} {rest:List Stmt} {t u:TS} {e:Expr} {te:TE} {pos:Pos}
def b5a:TS:=λ D σ H=>D.nx σ H
def b7p (t u:TS):TS:=λ D σ H=>t { D with nx:=u D } σ H
theorem m7:PSs X [] b5a:=λ _ _ σ H _ I h=>wpAny_execs_nil ⟨σ,H,I,h⟩
theorem d9 (h1:PS X st t) (h2:PSs X rest u):PSs X (st::rest) (b7p t u):=by
 intro pins s σ H D I h;refine wpAny_execs_cons (y9 (h1 pins s σ H { D with nx:=u D } I h) λ f s1 q=>?_)
 cases f with
 | next =>
  obtain ⟨σ',H',I',q⟩:=q;exact h2 pins s1 σ' H' D I' q
 | ret v=>exact q
 | brk=>exact q
 | cont=>exact q
theorem e7 (h1:PS X st t):PSs X [st] t:=by
 intro pins s σ H D I h;refine wpAny_execs_cons (y9 (h1 pins s σ H D I h) λ f s1 q=>?_)
 cases f with
 | next=>exact wpAny_execs_nil q
 | ret v=>exact q
 | brk=>exact q
 | cont=>exact q
theorem Inv.quiet {pins:List (Addr×Obj)} {σ:St} {H:Hp} {s:Shared} (I:Inv X pins σ H s):interactive X.env=false:=by simp [interactive,I.ok.kind]
def b5F (te:TE):TS:=λ D σ H=>te σ H λ _ H1=>D.nx σ H1
theorem J5 (he:PE X e te) (hs:swapsWith e none pos.line X.env=pure false:=by rfl):PS X (.Expr e pos) (b5F te):=by
 intro pins s σ H D I h;exact wpAny_Expr_any (y9 (he pins s σ H _ I h) λ v s1 ⟨x,H1,I1,r1,q1⟩=>⟨σ,H1,I1,q1⟩) I.quiet hs
def b7a (te:TE):TS:=λ D σ H=>te σ H D.rt
theorem j6 (he:PE X e te):PS X (.Return (some e) pos) (b7a te):=by
 intro pins s σ H D I h;exact wpAny_Return_some (y9 (he pins s σ H _ I h) λ v s1 ⟨x,H1,I1,r1,q1⟩=>⟨x,σ,H1,I1,r1,q1⟩)
def b7e (c:TT) (t u:TS):TS:=λ D σ H=>c σ H λ b H1=>if b=true then t D σ H1 else u D σ H1
theorem w4 {c:Expr} {a b:List Stmt} {tc:TT} (hc:PT X c tc) (ha:PSs X a t) (hb:PSs X b u):PS X (.If c a b pos) (b7e tc t u):=by
 intro pins s σ H D I h;refine wpAny_If (y9 (hc pins s σ H _ I h) λ d s1 ⟨H1,I1,q1⟩=>?_)
 cases d with
 | true=>exact ha pins s1 σ H1 D I1 q1
 | false=>exact hb pins s1 σ H1 D I1 q1
def b4h:TS:=λ _ _ _=>False
theorem a3r {sts:List Stmt}:PSs X sts b4h:=λ _ _ _ _ _ _ h=>h.elim
end
abbrev TG:=V->St->Hp->(St->Hp->Prop)->Prop
abbrev TGs:=List V->St->Hp->(St->Hp->Prop)->Prop
def PG (X:Cx) (target:Expr) (t:TG):Prop :=
 ∀ (pins:List (Addr×Obj)) (s:Shared) (σ:St) (H:Hp) (v:V) (u:Value) (Q:St->Hp->Prop),Inv X pins σ H s->RelV v u->t v σ H Q →
  wpAny (model X.prog X.w) X.A (assign target X.env u) (λ _ s'=>∃ σ' H',Inv X pins σ' H' s'/\Q σ' H') X.xe s
def PGs (X:Cx) (ts:List Expr) (t:TGs):Prop :=
 ∀ (pins:List (Addr×Obj)) (s:Shared) (σ:St) (H:Hp) (vs:List V) (us:List Value) (Q:St->Hp->Prop),Inv X pins σ H s->Vals vs us->t vs σ H Q →
  wpAny (model X.prog X.w) X.A (assignInOrder ((assignEach ts X.env).map (·.2)) us) (λ _ s'=>∃ σ' H',Inv X pins σ' H' s'/\Q σ' H') X.xe s
abbrev b4g:=V->V->V->Hp->(Hp->Prop)->Prop
def b5q (X:Cx) (t:b4g):Prop :=
 ∀ (pins:List (Addr×Obj)) (s:Shared) (σ:St) (H:Hp) (o i v:V) (ov iv u:Value) (Q:Hp->Prop),Inv X pins σ H s->RelV o ov->RelV i iv->RelV v u->t o i v H Q →
  wpAny (model X.prog X.w) X.A (setItem ov iv u) (λ _ s'=>∃ H',Inv X pins σ H' s'/\Q H') X.xe s
section
variable {X:Cx} {pos:Pos}
def Q5 (i:Nat):TG:=λ v σ H Q=>Q (σ.set i (some v)) H
theorem j0 {i:Nat} {x:Str} (hN:X.N.Nodup) (hi:X.N[i]?=some x) (hx:Loc X.env.scope x) (hf:X.fn x=true\/X.env.scope.names.lookup x=some .local:=by first | exact .inl rfl | exact .inr rfl | assumption):PG X (.Name x pos) (Q5 i):=by
 intro pins s σ H v u Q I r h;exact wpAny_assign_Name (X2 I hN hi hx r (λ s' I'=>⟨_,H,I',h⟩) hf)
def b2E:TGs:=λ vs σ H Q=>vs=[]/\Q σ H
def a2s (t:TG) (u:TGs):TGs:=λ vs σ H Q=>∃ v r,vs=v::r/\t v σ H λ σ' H'=>u r σ' H' Q
theorem y4:PGs X [] b2E:=by
 intro pins s σ H vs us Q I r h;obtain ⟨e,h⟩:=h;subst e
 cases r;exact assignInOrder_nil ⟨σ,H,I,h⟩
theorem j5 {e:Expr} {es:List Expr} {t:TG} {u:TGs} (h1:PG X e t) (h2:PGs X es u)
  (hs:(assignEach (e::es) X.env).map (·.2)=assign e X.env::(assignEach es X.env).map (·.2):=by rfl):PGs X (e::es) (a2s t u):=by
 intro pins s σ H vs us Q I r h;obtain ⟨v,vr,e1,h⟩:=h;subst e1
 cases r with
 | cons r rr =>
  rw [hs];refine assignInOrder_cons (y9 (h1 pins s σ H _ _ _ I r h) λ _ s1 ⟨σ1,H1,I1,q1⟩=>?_);exact h2 pins s1 σ1 H1 _ _ Q I1 rr q1
def a9W (K:W.Frag) (n:Nat) (t:TGs):TG:=λ v σ H Q=>∃ a xs,v=.ref a/\SqT K H a xs/\xs.length=n/\t xs σ H Q
theorem E4 {es:List Expr} {k:Nat} {t:TGs} {n:Nat} (hc:X.calm=true) (h:PGs X es t)
  (hn:(assignEach es X.env).length=n:=by rfl) (hst:(assignEach es X.env).findIdx? (·.1)=none:=by rfl):PG X (.Tuple es k pos) (a9W X.K n t):=by
 intro pins s σ H v u Q I r hw;obtain ⟨a,xs,e1,hq,hl,hw⟩:=hw;subst e1
 cases r;obtain ⟨its,rv,ht,hz⟩:=I.tuple hq;refine assign_Tuple_tuple (I.ok.hd hc) ht (by simp [hn,<- hl,rv.length]) hst λ h' hx=>?_;have I1:Inv X pins σ H { s with heap:=h' }:=I.kept (t':=s.toks) λ b o e=>hx b o (bJ (Heap.lt_size e)) e;exact h pins _ σ H xs _ Q I1 (by simpa using rv) hw
def b6E (to ti:TE) (t:b4g):TG:=λ v σ H Q=>to σ H λ o H1=>ti σ H1 λ i H2=>t o i v H2 λ H3=>Q σ H3
theorem a1x {o i:Expr} {to ti:TE} {t:b4g} (ho:PE X o to) (hi:PE X i ti) (hs:b5q X t)
  (ha:∀ v,assign (.Subscript o i pos) X.env v=(do
   let ov <- holding [v] (eval o X.env)
   let iv <- holding [v,ov] (eval i X.env)
   standAt pos
   holding [v,ov,iv] (setItem ov iv v)
   release [v,ov,iv] []):=by intro _; rfl):PG X (.Subscript o i pos) (b6E to ti t):=by
 intro pins s σ H v u Q I r h;rw [ha];refine wpAny_bind (wpAny_holding (y9 (ho pins s σ H _ I h) λ ov s1 ⟨x,H1,I1,r1,q1⟩=>?_));refine wpAny_bind (wpAny_holding (y9 (hi pins s1 σ H1 _ I1 q1) λ iv s2 ⟨y,H2,I2,r2,q2⟩=>?_));refine wpAny_bind (wpAny_standAt (wpAny_bind (wpAny_holding (y9 (hs pins s2 σ H2 x y v ov iv u _ I2 r1 r2 r q2) λ _ s3 ⟨H3,I3,q3⟩=>?_))));exact wpAny_release ⟨σ,H3,I3,q3⟩
def a4A (te:TE) (g:TG):TS:=λ D σ H=>te σ H λ x H1=>g x σ H1 D.nx
theorem C3 {tg e:Expr} {te:TE} {g:TG} (he:PE X e te) (hg:PG X tg g) (hs:swapsWithSole [tg] e pos.line X.env=pure false:=by rfl) (hw:swappedStores [tg] e X.env=pure none:=by rfl)
  (h1:(assignEach [tg] X.env).map (·.2)=[assign tg X.env]:=by rfl):PS X (.Assign [tg] e pos) (a4A te g):=by
 intro pins s σ H D I h;refine wpAny_Assign_stores (y9 (he pins s σ H _ I h) λ v s1 ⟨x,H1,I1,r1,q1⟩=>?_) hs hw;rw [h1];exact y9 (hg pins s1 σ H1 x v _ I1 r1 q1) λ _ s2 q=>q
theorem p7 {i:Nat} {x:Str} {e:Expr} {te:TE} {pos':Pos} (hN:X.N.Nodup) (hi:X.N[i]?=some x) (hx:Loc X.env.scope x) (he:PE X e te) (hs:swapsWith e (some (.Name x pos')) pos.line X.env=pure false:=by rfl) (hf:X.fn x=true\/X.env.scope.names.lookup x=some .local:=by first | exact .inl rfl | exact .inr rfl | assumption) :
  PS X (.Assign [.Name x pos'] e pos) (a4A te (Q5 i)):=by
 intro pins s σ H D I h;refine wpAny_Assign_Name (y9 (he pins s σ H _ I h) λ v s1 ⟨y,H1,I1,r1,q1⟩=>?_) hs;exact X2 I1 hN hi hx r1 (λ s2 I2=>⟨_,H1,I2,q1⟩) hf
def b7n (i j:Nat) (ta:TA):TS:=λ D σ H=>ta σ H λ vs H1=>∃ v w,vs=[v,w]/\D.nx ((σ.set i (some v)).set j (some w)) H1
theorem b3R {i j:Nat} {x y:Str} {a b:Expr} {ta:TA} {px py pt:Pos} {kt k2 pt2} (hc:X.calm=true) (hN:X.N.Nodup) (hi:X.N[i]?=some x) (hj:X.N[j]?=some y) (hij:i≠j)
  (hx:X.env.scope.names.lookup x=some .local) (hy:X.env.scope.names.lookup y=some .local) (ha:PA X [a,b] ta)
  (hw:swappedStores [.Tuple [.Name x px,.Name y py] kt pt] (.Tuple [a,b] k2 pt2) X.env=pure (some [x,y]))
  (hs:swapsWithSole [.Tuple [.Name x px,.Name y py] kt pt] (.Tuple [a,b] k2 pt2) pos.line X.env=pure false:=by rfl) :
  PS X (.Assign [.Tuple [.Name x px,.Name y py] kt pt] (.Tuple [a,b] k2 pt2) pos) (b7n i j ta):=by
 intro pins s σ H D I h;rw [exec_Assign_arm];refine wpAny_bind (wpAny_standAt ?_);rw [hs];refine wpAny_bind (wpAny_pure ?_);rw [if_neg (by decide)];refine wpAny_bind (Tuple_ (y9 (ha _ pins s σ H _ I h) λ us s1 ⟨vs,H1,I1,r1,q1⟩=>?_));obtain ⟨v,w,e1,q1⟩:=q1;subst e1;obtain ⟨u1,u2,rfl,rv,rw'⟩:∃ u1 u2,us=[u1,u2]/\RelV v u1/\RelV w u2:=by
  cases r1 with
  | cons p q =>
   cases q with
   | cons p' q' =>
    cases q';exact ⟨_,_,rfl,p,p'⟩
 refine wpAny_newObj_type ?_ (by show 2<=sizeLine; decide);have I2:Inv X pins σ H1 { s1 with heap:=s1.heap.push { cls:=.type "tuple",data:=.seq [u1,u2].toArray } }:=I1.kept (t':=s1.toks) λ b o e=>Heap.get?_push_of_some _ e;rw [hw];refine wpAny_bind (wpAny_pure ?_)
 show wpAny (model X.prog X.w) X.A (do rule "assign.swapped-stores"; let items <- unpackItems (.ref s1.heap.objs.size) 2 none; assignInOrder [λ v=>bindName X.env y v,λ v=>bindName X.env x v] items.reverse; pure Flow.next) _ _ _
 refine wpAny_bind (wpAny_rule (wpAny_bind (unpackItems_tuple (items:=#[u1,u2]) (I.ok.hd hc) (IsTup.new s1.heap _) λ h' hx'=>?_)));have I3:=I2.kept (h':=h') (t':=s1.toks) λ b o e=>hx' b o (bJ (Heap.lt_size e)) e
 show wpAny _ _ (assignInOrder [λ v=>bindName X.env y v,λ v=>bindName X.env x v] [u2,u1] >>= λ _=>pure Flow.next) _ _ _
 refine wpAny_bind (assignInOrder_cons (wpAny_bindName (X2 I3 hN hj (.inl hy) rw' (λ s2 I4=>?_) (.inr hy))));refine assignInOrder_cons (wpAny_bindName (X2 I4 hN hi (.inl hx) rv (λ s3 I5=>assignInOrder_nil (wpAny_pure ?_)) (.inr hx)));rw [eV _ _ (aS hij)] at I5;exact ⟨_,H1,I5,q1⟩
end
section
variable {X:Cx} {pos:Pos}
def a9I (c:TT) (tb:TS):TS:=λ D σ H=>∃ W:Nat->St->Hp->Prop,(∃ m,W m σ H)/\∀ m σ H,W m σ H →
 c σ H λ b H1=>if b=true then ∃ N:St->Hp->Prop,(∀ σ' H',N σ' H'->∃ m',m'<m/\W m' σ' H')/\tb { D with nx:=N,ct:=N,bk:=D.nx } σ H1 else D.nx σ H1
theorem a2T {c:Expr} {body:List Stmt} {tc:TT} {tb:TS} (hp:PassesOwn (model X.prog X.w) X.A X.env X.xe) (hc:PT X c tc) (hb:PSs X body tb):PS X (.While c body [] pos) (a9I tc tb):=by
 intro pins s σ H D I h;obtain ⟨W,⟨m0,w0⟩,turn⟩:=h;refine wpAny_While (codeAny_whileLoop (λ n s'=>∃ σ' H',Inv X pins σ' H' s'/\W n σ' H') ?_ m0 ⟨σ,H,I,w0⟩);rintro n s1 ⟨σ1,H1,I1,w1⟩;refine wpAny_passesOwn hp (y9 (hc pins s1 σ1 H1 _ I1 (turn n σ1 H1 w1)) λ b s2 ⟨H2,I2,q2⟩=>?_)
 cases b with
 | true =>
  obtain ⟨N,hN,q2⟩:=q2;rw [if_pos rfl];refine wpAny_passesOwn hp (y9 (hb pins s2 σ1 H2 _ I2 q2) λ f s3 q3=>?_)
  cases f with
  | next =>
   obtain ⟨σ3,H3,I3,n3⟩:=q3;obtain ⟨m',hm,w3⟩:=hN σ3 H3 n3;exact ⟨m',hm,σ3,H3,I3,w3⟩
  | cont =>
   obtain ⟨σ3,H3,I3,n3⟩:=q3;obtain ⟨m',hm,w3⟩:=hN σ3 H3 n3;exact ⟨m',hm,σ3,H3,I3,w3⟩
  | brk=>exact q3
  | ret v=>exact q3
 | false =>
  rw [if_neg bI];exact wpAny_execs_nil ⟨σ1,H2,I2,q2⟩
end
structure It where
 go:Nat->Hp->Prop
 yld:Nat->Hp->V->Hp->Prop
 stop:Nat->Hp->Prop
def W2 (X:Cx) (pins:List (Addr×Obj)) (H:Hp) (b:Addr):Prop :=
 H b=none/\b≠X.env.locals/\b ∉ X.fs/\(b∈X.ex\/X.s₀.heap.objs.size<=b)/\(∀ x c,X.env.cells.lookup x=some c->c≠b)/\∀ p∈X.pn++pins,p.1≠b
theorem Inv.fpOk {X:Cx} {pins:List (Addr×Obj)} {σ:St} {H H':Hp} {s:Shared} {b:Addr} (I:Inv X pins σ H s) (hb:s.heap.objs.size<=b) (hn:H' b=none):W2 X pins H' b:=by
 refine ⟨hn,dG (aT I.lt hb),I.nofs hb,.inr (aK I.sz hb),λ x c e z=>?_,λ p hp z=>?_⟩
 ·obtain ⟨v,q⟩:=I.cell x c e
  exact absurd (aT q.lt (by rw [z]; exact hb)) (bL _)
 ·exact absurd (aT (Heap.lt_size (I.pin p hp).1) (by rw [z]; exact hb)) (bL _)
structure a6i (P:Program) (w:World) (K:W.Frag) (tg:Expr) (J:It) (fp:List Addr) (it:Addr) (tn:Nat->Heap->Prop):Prop where
 mem:it∈fp
 obj:∀ i h,tn i h->∀ b∈fp,∃ o,h.get? b=some o/\∀ v,o.data≠.cell v
 keep:∀ i h h',tn i h->(∀ b∈fp,∀ o,h.get? b=some o->h'.get? b=some o)->tn i h'
 item:∀ (X:Cx),X.prog=P->X.w=w->X.K=K->X.calm=true->∀ (i:Nat) (pins:List (Addr×Obj)) (s:Shared) (σ:St) (H:Hp) (E:Value->Shared->Prop),Inv X pins σ H s->(∀ b∈fp,W2 X pins H b)->tn i s.heap->J.go i H →
  wpAny (model P w) X.A (pyNext (.ref it)) (λ r s1=>∃ u,r=some u ∧
   wpAny (model P w) X.A (letOwnedTupleGo tg (.ref it) u) (λ _ s2=>∃ x H',Inv X pins σ H' s2/\RelV x u/\J.yld i H x H'/\tn (i+1) s2.heap/\∀ b∈fp,H' b=none) E s1) E s
 done:∀ (X:Cx),X.prog=P->X.w=w->X.K=K->X.calm=true->∀ (i:Nat) (pins:List (Addr×Obj)) (s:Shared) (σ:St) (H:Hp) (E:Value->Shared->Prop),Inv X pins σ H s->(∀ b∈fp,W2 X pins H b)->tn i s.heap->J.stop i H →
  wpAny (model P w) X.A (pyNext (.ref it)) (λ r s1=>r=none/\Inv X pins σ H s1) E s
 self:∀ (A:Around) (i:Nat) (s:Shared) (Q:Value->Shared->Prop) (E:Value->Shared->Prop),tn i s.heap->Q (.ref it) s->wpAny (model P w) A (pyIter (.ref it)) Q E s
abbrev TI:=St->Hp->(It->Hp->Prop)->Prop
def PIE (X:Cx) (pins:List (Addr×Obj)) (σ:St) (tg:Expr) (R:It->Hp->Prop) (itv:Value) (s2:Shared):Prop :=
 ∃ (it:Addr) (fp:List Addr) (tn:Nat->Heap->Prop) (J:It) (H':Hp),itv=.ref it/\Inv X pins σ H' s2/\a6i X.prog X.w X.K tg J fp it tn/\tn 0 s2.heap/\(∀ b∈fp,W2 X pins H' b)/\R J H'
def PI (X:Cx) (tg iter:Expr) (wi:TI):Prop :=
 ∀ (pins:List (Addr×Obj)) (s:Shared) (σ:St) (H:Hp) (R:It->Hp->Prop),Inv X pins σ H s->wi σ H R →
  wpAny (model X.prog X.w) X.A (eval iter X.env) (λ v s1=>wpAny (model X.prog X.w) X.A (pyIter v) (PIE X pins σ tg R) X.xe s1) X.xe s
theorem a4N {M:Model} {A:Around} {E:Value->Shared->Prop} {s:Shared} {tg:Expr} {it:Addr} {u:Value} {o:Obj} {n:String} {vs:Array Value} {Q:Unit->Shared->Prop} (ho:s.heap.get? it=some o) (hc:o.cls=.type n) (hd:o.data=.fields vs)
    (hn:["enumerate","zip","dict_itemiterator","dict_reverseitemiterator","odict_iterator","itertools.zip_longest","itertools.pairwise"].contains n=false) (hQ:Q () s):wpAny M A (letOwnedTupleGo tg (.ref it) u) Q E s:=by
  unfold letOwnedTupleGo
  cases tg <;> first
    | exact wpAny_pure hQ
    | (cases u <;> first
        | exact wpAny_pure hQ
        | (refine wpAny_bind (wpAny_load ho ?_)
           rw [hc,hd]
           show wpAny M A (if (["enumerate","zip","dict_itemiterator","dict_reverseitemiterator","odict_iterator","itertools.zip_longest","itertools.pairwise"].contains n&&vs[0]?==some (rawInt _))=true then _ else _) Q E s
           rw [if_neg (by intro h; rw [hn,Bool.false_and] at h; cases h)];exact wpAny_pure hQ))
def Itl (K:W.Frag) (a:Addr):It :=
 ⟨λ i H=>∃ xs x,SqL K H a xs/\xs[i]?=some x,λ i H x H'=>H'=H/\∀ xs,SqL K H a xs->xs[i]?=some x,λ i H=>∃ xs,SqL K H a xs/\xs.length<=i⟩
def Itt (K:W.Frag) (a:Addr):It :=
 ⟨λ i H=>∃ xs x,SqT K H a xs/\xs[i]?=some x,λ i H x H'=>H'=H/\∀ xs,SqT K H a xs->xs[i]?=some x,λ i H=>∃ xs,SqT K H a xs/\xs.length<=i⟩
def Itr (lo:Int) (n:Nat):It:=⟨λ i _=>i<n,λ i H x H'=>H'=H/\x=.int (lo+i),λ i _=>n<=i⟩
theorem a8x {P:Program} {w:World} {K:W.Frag} {tg:Expr} (a it:Addr):a6i P w K tg (Itl K a) [it] it (λ i h=>h.IsListIter it a i) where
 mem:=by simp
 obj:=λ i h st b hb=>by
  have e:b=it:=by simpa using hb
  subst e;obtain ⟨o,e,c,d⟩:=st;exact ⟨o,e,λ v z=>by rw [d] at z; cases z⟩
 keep:=λ i h h' st k=>st.at λ o e=>k it (by simp) o e
 item:=by
  intro X hP hw hK hc i pins s σ H E I hf st hg;subst hP hw hK;obtain ⟨xs,x,hq,hx⟩:=hg;obtain ⟨its,rv,p,hz⟩:=I.list hq;obtain ⟨u,hu,ru⟩:=rv.get hx;obtain ⟨f0,f1,f2,f3,f4,f5⟩:=hf it (by simp);refine wpAny_pyNext_list_item st p.isList (x:=u) (by simpa using hu) λ h' st' sb=>?_;have I1:Inv X pins σ H { s with heap:=h' }:=I.turned (t':=s.toks) (λ b o hb e=>(sb.2 b hb).trans e) f0 f1 f3 f4 f5;obtain ⟨o,e,c,d⟩:=id st';exact ⟨u,rfl,a4N (s:={ s with heap:=h' }) e c d (by decide) ⟨x,H,I1,ru,⟨rfl,λ ys hy=>by rw [I.list_inj hy hq]; exact hx⟩,st',λ b hb=>(hf b hb).1⟩⟩
 done:=by
  intro X hP hw hK hc i pins s σ H E I hf st hg;subst hP hw hK;obtain ⟨xs,hq,hx⟩:=hg;obtain ⟨its,rv,p,hz⟩:=I.list hq;obtain ⟨f0,f1,f2,f3,f4,f5⟩:=hf it (by simp);have hl:=rv.length;exact wpAny_pyNext_list_end (I.ok.hd hc) st p.isList (by simp; omega) λ h' eb=>⟨rfl,I.turned (t':=s.toks) (λ b o hb e=>eb b o hb e) f0 f1 f3 f4 f5⟩
 self:=λ _ _ _ _ _ st h=>wpAny_pyIter_listiter st h
theorem a5L {P:Program} {w:World} {K:W.Frag} {tg:Expr} (a it:Addr):a6i P w K tg (Itt K a) [it] it (λ i h=>h.IsTupleIter it a i) where
 mem:=by simp
 obj:=λ i h st b hb=>by
  have e:b=it:=by simpa using hb
  subst e;obtain ⟨o,e,c,d⟩:=st;exact ⟨o,e,λ v z=>by rw [d] at z; cases z⟩
 keep:=λ i h h' st k=>st.at λ o e=>k it (by simp) o e
 item:=by
  intro X hP hw hK hc i pins s σ H E I hf st hg;subst hP hw hK;obtain ⟨xs,x,hq,hx⟩:=hg;obtain ⟨its,rv,p,hz⟩:=I.tuple hq;obtain ⟨u,hu,ru⟩:=rv.get hx;obtain ⟨f0,f1,f2,f3,f4,f5⟩:=hf it (by simp);refine wpAny_pyNext_tuple_item st (show s.heap.IsTuple a its.toArray from p) (x:=u) (by simpa using hu) λ h' st' sb=>?_;have I1:Inv X pins σ H { s with heap:=h' }:=I.turned (t':=s.toks) (λ b o hb e=>(sb.2 b hb).trans e) f0 f1 f3 f4 f5;obtain ⟨o,e,c,d⟩:=id st';exact ⟨u,rfl,a4N (s:={ s with heap:=h' }) e c d (by decide) ⟨x,H,I1,ru,⟨rfl,λ ys hy=>by rw [I.tuple_inj hy hq]; exact hx⟩,st',λ b hb=>(hf b hb).1⟩⟩
 done:=by
  intro X hP hw hK hc i pins s σ H E I hf st hg;subst hP hw hK;obtain ⟨xs,hq,hx⟩:=hg;obtain ⟨its,rv,p,hz⟩:=I.tuple hq;obtain ⟨f0,f1,f2,f3,f4,f5⟩:=hf it (by simp);have hl:=rv.length;exact wpAny_pyNext_tuple_end (I.ok.hd hc) st (show s.heap.IsTuple a its.toArray from p) (by simp; omega) λ h' eb=>⟨rfl,I.turned (t':=s.toks) (λ b o hb e=>eb b o hb e) f0 f1 f3 f4 f5⟩
 self:=λ _ _ _ _ _ st h=>wpAny_pyIter_tupleiter st h
theorem a6j {P:Program} {w:World} {K:W.Frag} {tg:Expr} (it:Addr) (lo:Int) (n:Nat):a6i P w K tg (Itr lo n) [it] it (λ i h=>IsRangeIter h it (lo+(i:Nat)*1) ((n:Int) - (i:Nat)) 1) where
 mem:=by simp
 obj:=λ i h st b hb=>by
  have e:b=it:=by simpa using hb
  subst e;exact ⟨_,st,λ v z=>by
   have z':Data.fields _=Data.cell v:=z
   cases z'⟩
 keep:=λ i h h' st k=>k it (by simp) _ st
 item:=by
  intro X hP hw hK hc i pins s σ H E I hf st hg;subst hP hw hK;obtain ⟨f0,f1,f2,f3,f4,f5⟩:=hf it (by simp);have W:=Walks.range (prog:=X.prog) (w:=X.w) (I.ok.hd hc) it lo 1 n;refine W.item i s _ _ hg st λ v h' tk hv st' kk=>?_;obtain ⟨t,rfl⟩:=hv;have I1:Inv X pins σ H { s with heap:=h',toks:=tk }:=I.turned (λ b o hb e=>kk b o (by simpa using hb) e) f0 f1 f3 f4 f5;refine ⟨_,rfl,a4N (s:={ s with heap:=h',toks:=tk }) (n:="range_iterator") st' rfl rfl (by decide) ⟨.int (lo+i),H,I1,⟨t,?_⟩,⟨rfl,rfl⟩,st',λ b hb=>(hf b hb).1⟩⟩;rw [eW]
 done:=by
  intro X hP hw hK hc i pins s σ H E I hf st hg;subst hP hw hK;obtain ⟨f0,f1,f2,f3,f4,f5⟩:=hf it (by simp);exact wpAny_pyNext_range_end (I.ok.hd hc) st (by have:n<=i:=hg; omega) λ h' eb=>⟨rfl,I.turned (t':=s.toks) (λ b o hb e=>eb b o hb e) f0 f1 f3 f4 f5⟩
 self:=λ _ _ _ _ _ st h=>wpAny_pyIter_rangeiter st h
section
variable {X:Cx} {tg:Expr}
def b4U (K:W.Frag) (tl:TE):TI:=λ σ H R=>tl σ H λ x H1=>∃ a,x=.ref a/\(∃ xs,SqL K H1 a xs)/\R (Itl K a) H1
def b5x (K:W.Frag) (tl:TE):TI:=λ σ H R=>tl σ H λ x H1=>∃ a,x=.ref a/\(∃ xs,SqT K H1 a xs)/\R (Itt K a) H1
theorem G2 {l:Expr} {tl:TE} (hl:PE X l tl):PI X tg l (b4U X.K tl):=by
 intro pins s σ H R I h;refine y9 (hl pins s σ H _ I h) λ v s1 ⟨x,H1,I1,r1,q1⟩=>?_;obtain ⟨a,e,⟨xs,hq⟩,q⟩:=q1;subst e
 cases r1;obtain ⟨its,rv,p,hz⟩:=I1.list hq;refine wpAny_pyIter_list p.isList ?_;refine ⟨s1.heap.objs.size,[s1.heap.objs.size],_,_,H1,rfl,I1.kept (t':=s1.toks) λ b o e=>Heap.get?_push_of_some _ e,a8x a _,⟨_,Heap.get?_push_size _ rfl,rfl,rfl⟩,λ b hb=>?_,q⟩;have e:b=s1.heap.objs.size:=by simpa using hb
 subst e;exact I1.fpOk (aF _) (I1.hok.fresh (aF _))
theorem a4f {l:Expr} {tl:TE} (hl:PE X l tl):PI X tg l (b5x X.K tl):=by
 intro pins s σ H R I h;refine y9 (hl pins s σ H _ I h) λ v s1 ⟨x,H1,I1,r1,q1⟩=>?_;obtain ⟨a,e,⟨xs,hq⟩,q⟩:=q1;subst e
 cases r1;obtain ⟨its,rv,p,hz⟩:=I1.tuple hq;refine wpAny_pyIter_tuple (show s1.heap.IsTuple a its.toArray from p) ?_;refine ⟨s1.heap.objs.size,[s1.heap.objs.size],_,_,H1,rfl,I1.kept (t':=s1.toks) λ b o e=>Heap.get?_push_of_some _ e,a5L a _,⟨_,Heap.get?_push_size _ rfl,rfl,rfl⟩,λ b hb=>?_,q⟩;have e:b=s1.heap.objs.size:=by simpa using hb
 subst e;exact I1.fpOk (aF _) (I1.hok.fresh (aF _))
theorem a9b {pins:List (Addr×Obj)} {σ:St} {H:Hp} {s:Shared} {R:It->Hp->Prop} {E:Value->Shared->Prop} {lo hi:Int} {t u v:Tok} {tk:Nat} (I:Inv X pins σ H s) (h1:-(2 ^ 62)<=lo) (h2:lo<2 ^ 62) (h3:-(2 ^ 62)<=hi) (h4:hi<2 ^ 62)
  (q:R (Itr lo (hi - lo).toNat) H):wpAny (model X.prog X.w) X.A (pyIter (.ref s.heap.objs.size)) (PIE X pins σ tg R) E { s with heap:=s.heap.push { cls:=.type "range",data:=.fields #[.int lo t,.int hi u,.int 1 v] },toks:=tk }:=by
 refine wpAny_pyIter_range (IsRange.new ..) (small_one h1 h2 h3 h4) ?_;have I1:Inv X pins σ H { s with heap:=s.heap.push { cls:=.type "range",data:=.fields #[.int lo t,.int hi u,.int 1 v] },toks:=tk }:=I.kept λ b o e=>Heap.get?_push_of_some _ e;refine ⟨(s.heap.push { cls:=.type "range",data:=.fields #[.int lo t,.int hi u,.int 1 v] }).objs.size,[(s.heap.push { cls:=.type "range",data:=.fields #[.int lo t,.int hi u,.int 1 v] }).objs.size],_,_,H,rfl,
  I1.kept (t':=tk) λ b o e=>Heap.get?_push_of_some _ e,a6j _ lo (hi - lo).toNat,?_,λ b hb=>?_,q⟩
 ·have e1:lo+((0:Nat):Int)*1=lo:=by simp
  have e2:(((hi - lo).toNat:Nat):Int) - ((0:Nat):Int)=Builtin.Range.rangeSize lo hi 1:=by rw [rangeSize_one]; split <;> omega
  show IsRangeIter _ _ (lo+((0:Nat):Int)*1) ((((hi - lo).toNat:Nat):Int) - ((0:Nat):Int)) 1
  rw [e1,e2];exact Heap.get?_push_size _ rfl
 ·have e:b=(s.heap.push { cls:=.type "range",data:=.fields #[.int lo t,.int hi u,.int 1 v] }).objs.size:=by simpa using hb
  subst e;exact I1.fpOk (aF _) (I1.hok.fresh (aF _))
def b5H (ta:TA):TI:=λ σ H R=>ta σ H λ vs H1=>∃ j:Int,vs=[.int j]/\-(2 ^ 62)<=j/\j<2 ^ 62/\R (Itr 0 j.toNat) H1
theorem a0c {a:Expr} {ta:TA} {p pos:Pos} (hg:Gl X "range") (hm:X.mg "range"=none) (ha:PA X [a] ta) (hs:starEach [a] X.env=[(false,eval a X.env)]:=by rfl):PI X tg (.Call (.Name "range" p) [a] [] pos) (b5H ta):=by
 intro pins s σ H R I h;refine Call_ (a0B I hg hm boot_range (gC (y9 (ha pos pins s σ H _ I h) λ us s1 ⟨vs,H1,I1,r1,q1⟩=>?_) hs rfl));obtain ⟨j,e,q1,q2,q⟩:=q1;subst e
 cases r1 with
 | cons r rr =>
  cases rr;obtain ⟨t,rfl⟩:=r;exact call_range_1 (a9b I1 (by omega) (by omega) q1 q2 (by simpa using q))
def b0U (wi:TI) (g:TG) (tb:TS):TS:=λ D σ H=>wi σ H λ J H1=>∃ W:Nat->Nat->St->Hp->Prop,(∃ m,W 0 m σ H1)/\∀ i m σ H,W i m σ H →
 (J.stop i H/\D.nx σ H)\/(J.go i H/\∃ N:St->Hp->Prop,(∀ σ' H',N σ' H'->∃ m',m'<m/\W (i+1) m' σ' H')/\∀ x H',J.yld i H x H'->g x σ H' λ σ2 H2=>tb { D with nx:=N,ct:=N,bk:=D.nx } σ2 H2)
def a2w (fp:List Addr) (h:Heap):List (Addr×Obj):=fp.filterMap λ b=>(h.get? b).map λ o=>(b,o)
theorem V7 {fp:List Addr} {h:Heap} {b:Addr} {o:Obj} (hb:b∈fp) (e:h.get? b=some o):(b,o)∈a2w fp h:=hV.mpr ⟨b,hb,by rw [e]; rfl⟩
theorem a8z {fp:List Addr} {h:Heap} {p:Addr×Obj} (hp:p∈a2w fp h):p.1∈fp/\h.get? p.1=some p.2:=by
 obtain ⟨b,hb,e⟩:=hV.mp hp
 cases q:h.get? b with
 | none=>rw [q] at e; cases e
 | some o =>
  rw [q] at e;have e':(b,o)=p:=aJ e;subst e';exact ⟨hb,q⟩
theorem Inv.pinned {pins:List (Addr×Obj)} {σ:St} {H:Hp} {s:Shared} {fp:List Addr} (I:Inv X pins σ H s) (hf:∀ b∈fp,W2 X pins H b) (ho:∀ b∈fp,∃ o,s.heap.get? b=some o/\∀ v,o.data≠.cell v):Inv X (pins++a2w fp s.heap) σ H s :=
 I.pins_of λ p hp=>(bK.mp hp).elim (λ z=>I.pin p (cA _ z)) λ z=>by
  obtain ⟨hb,e⟩:=a8z z;obtain ⟨f0,f1,f2,_⟩:=hf p.1 hb;obtain ⟨o,e',d⟩:=ho p.1 hb;rw [e] at e'; cases e';exact ⟨e,f0,f1,f2,d⟩
theorem Inv.unpinned {pins pl:List (Addr×Obj)} {σ:St} {H:Hp} {s:Shared} (I:Inv X (pins++pl) σ H s):Inv X pins σ H s:=I.pins_of λ p hp=>I.pin p (cA _ (dI _ hp))
theorem a1s {iter:Expr} {body:List Stmt} {wi:TI} {g:TG} {tb:TS} {pos:Pos} (hp:PassesOwn (model X.prog X.w) X.A X.env X.xe) (hc:X.calm=true) (hi:PI X tg iter wi) (hg:PG X tg g) (hb:PSs X body tb)
  (hs:∀ x,foldedSetIterable iter X.env x=pure x:=by intro _; rfl):PS X (.For tg iter body [] pos) (b0U wi g tb):=by
 intro pins s σ H D I h;refine wpAny_For (y9 (hi pins s σ H _ I h) λ v s1 h1=>y9 h1 λ itv s2 h2=>?_) hs;obtain ⟨it,fp,tn,J,H2,e,I2,T,st2,f2,W,⟨m0,w0⟩,turn⟩:=h2;subst e;have stat:∀ {H':Hp},(∀ b∈fp,H' b=none)->∀ b∈fp,W2 X pins H' b:=λ hn b hb=>⟨hn b hb,(f2 b hb).2⟩;refine codeAny_forLoop_any (λ n s'=>∃ i σ' H',Inv X pins σ' H' s'/\tn i s'.heap/\(∀ b∈fp,H' b=none)/\W i n σ' H') ?_ m0 ⟨0,σ,H2,I2,st2,λ b hb=>(f2 b hb).1,w0⟩;rintro n s3 ⟨i,σ3,H3,I3,st3,fr3,w3⟩;rcases turn i n σ3 H3 w3 with ⟨stop,qn⟩ | ⟨go,N,hN,step⟩
 ·refine wpAny_passesOwn hp (y9 (T.done X rfl rfl rfl hc i pins s3 σ3 H3 X.xe I3 (stat fr3) st3 stop) λ r s4 ⟨hr,I4⟩=>?_)
  subst hr;exact wpAny_execs_nil ⟨σ3,H3,I4,qn⟩
 ·refine wpAny_passesOwn hp (y9 (T.item X rfl rfl rfl hc i pins s3 σ3 H3 X.xe I3 (stat fr3) st3 go) λ r s4 ⟨u,hr,h4⟩=>?_)
  subst hr;refine wpAny_passesOwn hp (y9 h4 λ _ s5 ⟨x,H5,I5,r5,y5,st5,fr5⟩=>?_);have I5':=I5.pinned (stat fr5) (T.obj _ _ st5);refine wpAny_passesOwn hp (y9 (hg _ s5 σ3 H5 x u _ I5' r5 (step x H5 y5)) λ _ s6 ⟨σ6,H6,I6,q6⟩=>?_);refine wpAny_passesOwn hp (y9 (hb _ s6 σ6 H6 _ I6 q6) λ f s7 q7=>?_);have again:∀ {σ7:St} {H7:Hp},Inv X (pins++a2w fp s5.heap) σ7 H7 s7->N σ7 H7->∃ m,m<n/\∃ i σ' H',Inv X pins σ' H' s7/\tn i s7.heap/\(∀ b∈fp,H' b=none)/\W i m σ' H':=λ {σ7 H7} I7 n7=>by
   obtain ⟨m',hm,w7⟩:=hN σ7 H7 n7;refine ⟨m',hm,i+1,σ7,H7,I7.unpinned,T.keep _ _ _ st5 λ b hb o e=>(I7.pin (b,o) (cA _ (cA _ (V7 hb e)))).1,λ b hb=>?_,w7⟩;obtain ⟨o,e,d⟩:=T.obj _ _ st5 b hb;exact (I7.pin (b,o) (cA _ (cA _ (V7 hb e)))).2.1
  cases f with
  | next=>obtain ⟨σ7,H7,I7,n7⟩:=q7; exact again I7 n7
  | cont=>obtain ⟨σ7,H7,I7,n7⟩:=q7; exact again I7 n7
  | brk=>obtain ⟨σ7,H7,I7,q7⟩:=q7; exact ⟨σ7,H7,I7.unpinned,q7⟩
  | ret v=>obtain ⟨x7,σ7,H7,I7,r7,q7⟩:=q7; exact ⟨x7,σ7,H7,I7.unpinned,r7,q7⟩
end
theorem b0H {K:W.Frag} {a:Addr} {xs:List V} {g:TG} {tb:TS} {D:Ends} {σ:St} {H:Hp} (Pv:Nat->St->Hp->Prop) (h0:Pv 0 σ H) (hl:∀ i σ H,i<=xs.length->Pv i σ H->SqL K H a xs)
  (hs:∀ i x σ H,xs[i]?=some x->Pv i σ H->g x σ H λ σ2 H2=>tb { D with nx:=Pv (i+1),ct:=Pv (i+1),bk:=D.nx } σ2 H2) (hd:∀ σ H,Pv xs.length σ H->D.nx σ H) :
  ∃ W:Nat->Nat->St->Hp->Prop,(∃ m,W 0 m σ H)/\∀ i m σ H,W i m σ H →
   ((Itl K a).stop i H/\D.nx σ H)\/((Itl K a).go i H/\∃ N:St->Hp->Prop,(∀ σ' H',N σ' H'->∃ m',m'<m/\W (i+1) m' σ' H')/\∀ x H',(Itl K a).yld i H x H'->g x σ H' λ σ2 H2=>tb { D with nx:=N,ct:=N,bk:=D.nx } σ2 H2):=by
 refine ⟨λ i m σ H=>m=xs.length - i/\i<=xs.length/\Pv i σ H,⟨xs.length,by simp,cF _,h0⟩,?_⟩;rintro i m σ H ⟨rfl,hi,p⟩;have q:=hl i σ H hi p
 by_cases hlt:i<xs.length
 ·refine .inr ⟨⟨xs,xs[i],q,by simp [hlt]⟩,Pv (i+1),λ σ' H' p'=>⟨xs.length - (i+1),by omega,rfl,hlt,p'⟩,λ x H' y=>?_⟩
  obtain ⟨e,y⟩:=y;subst e;exact hs i x σ _ (y xs q) p
 ·have e:i=xs.length:=by omega
  subst e;exact .inl ⟨⟨xs,q,aF _⟩,hd σ H p⟩
theorem a1j {lo:Int} {n:Nat} {g:TG} {tb:TS} {D:Ends} {σ:St} {H:Hp} (Pv:Nat->St->Hp->Prop) (h0:Pv 0 σ H)
  (hs:∀ i σ H,i<n->Pv i σ H->g (.int (lo+i)) σ H λ σ2 H2=>tb { D with nx:=Pv (i+1),ct:=Pv (i+1),bk:=D.nx } σ2 H2) (hd:∀ σ H,Pv n σ H->D.nx σ H) :
  ∃ W:Nat->Nat->St->Hp->Prop,(∃ m,W 0 m σ H)/\∀ i m σ H,W i m σ H →
   ((Itr lo n).stop i H/\D.nx σ H)\/((Itr lo n).go i H/\∃ N:St->Hp->Prop,(∀ σ' H',N σ' H'->∃ m',m'<m/\W (i+1) m' σ' H')/\∀ x H',(Itr lo n).yld i H x H'->g x σ H' λ σ2 H2=>tb { D with nx:=N,ct:=N,bk:=D.nx } σ2 H2):=by
 refine ⟨λ i m σ H=>m=n - i/\i<=n/\Pv i σ H,⟨n,by simp,cF _,h0⟩,?_⟩;rintro i m σ H ⟨rfl,hi,p⟩
 by_cases hlt:i<n
 ·refine .inr ⟨hlt,Pv (i+1),λ σ' H' p'=>⟨n - (i+1),by omega,rfl,hlt,p'⟩,λ x H' y=>?_⟩
  obtain ⟨e,y⟩:=y;subst e y;exact hs i σ _ hlt p
 ·have e:i=n:=by omega
  subst e;exact .inl ⟨Nat.le_refl _,hd σ H p⟩
theorem b0g {c:TT} {tb:TS} {D:Ends} {σ:St} {H:Hp} (Pv:St->Hp->Prop) (μ:St->Hp->Nat) (h0:Pv σ H)
  (hs:∀ σ H,Pv σ H->c σ H λ b H1=>if b=true then tb { D with nx:=λ σ' H'=>Pv σ' H'/\μ σ' H'<μ σ H,ct:=λ σ' H'=>Pv σ' H'/\μ σ' H'<μ σ H,bk:=D.nx } σ H1 else D.nx σ H1)
  (mono:∀ σ H Q Q',(∀ b H1,Q b H1->Q' b H1)->c σ H Q->c σ H Q'):a9I c tb D σ H:=by
 refine ⟨λ m σ H=>m=μ σ H/\Pv σ H,⟨_,rfl,h0⟩,?_⟩;rintro m σ H ⟨rfl,p⟩;refine mono σ H _ _ (λ b H1 q=>?_) (hs σ H p)
 cases b with
 | true=>exact ⟨_,λ σ' H' ⟨p',l⟩=>⟨_,l,rfl,p'⟩,q⟩
 | false=>exact q
abbrev R2:=V->V->Hp->VK->Prop
def W5 (X:Cx) (f:Value->Value->Sem Value) (r:R2):Prop :=
 ∀ (pins:List (Addr×Obj)) (s:Shared) (σ:St) (H:Hp) (x y:V) (v u:Value) (Q:VK),Inv X pins σ H s->RelV x v->RelV y u->r x y H Q →
  wpAny (model X.prog X.w) X.A (f v u) (EP X pins σ Q) X.xe s
def UnR (X:Cx) (f:Value->Sem Value) (r:V->Hp->VK->Prop):Prop :=
 ∀ (pins:List (Addr×Obj)) (s:Shared) (σ:St) (H:Hp) (x:V) (v:Value) (Q:VK),Inv X pins σ H s->RelV x v->r x H Q →
  wpAny (model X.prog X.w) X.A (f v) (EP X pins σ Q) X.xe s
def G9 (X:Cx) (f:Value) (r:List V->Hp->VK->Prop):Prop :=
 ∀ (pins:List (Addr×Obj)) (s:Shared) (σ:St) (H:Hp) (xs:List V) (us:List Value) (Q:VK),Inv X pins σ H s->Vals xs us->r xs H Q →
  wpAny (model X.prog X.w) X.A (call f us) (EP X pins σ Q) X.xe s
def b7c (X:Cx) (r:V->Hp->(Bool->Hp->Prop)->Prop):Prop :=
 ∀ (pins:List (Addr×Obj)) (s:Shared) (σ:St) (H:Hp) (x:V) (v:Value) (Q:Bool->Hp->Prop),Inv X pins σ H s->RelV x v->r x H Q →
  wpAny (model X.prog X.w) X.A (truthy v) (TP X pins σ Q) X.xe s
def tOp (r:R2) (ta tb:TE):TE:=λ σ H Q=>ta σ H λ x H1=>tb σ H1 λ y H2=>r x y H2 Q
def tUn (r:V->Hp->VK->Prop) (ta:TE):TE:=λ σ H Q=>ta σ H λ x H1=>r x H1 Q
def rI (C:Int->Int->Prop) (g:Int->Int->V):R2:=λ x y H Q=>∃ i j,x=.int i/\y=.int j/\C i j/\Q (g i j) H
def rI0 (g:Int->Int->V):R2:=λ x y H Q=>∃ i j,x=.int i/\y=.int j/\Q (g i j) H
def rU (g:Int->V):V->Hp->VK->Prop:=λ x H Q=>∃ i,x=.int i/\Q (g i) H
section
variable {X:Cx} {a b c:Expr} {ta tb tc:TE} {pos:Pos}
theorem b4y (ha:PE X a ta) (hb:PE X b tb) {pins:List (Addr×Obj)} {s:Shared} {σ:St} {H:Hp} {R:V->V->Hp->Prop} (I:Inv X pins σ H s)
  (h:ta σ H λ x H1=>tb σ H1 λ y H2=>R x y H2) {Q:Value->Shared->Prop} {f:Value->Value->Sem Value}
  (hf:∀ v u s2 x y H2,Inv X pins σ H2 s2->RelV x v->RelV y u->R x y H2->wpAny (model X.prog X.w) X.A (f v u) Q X.xe s2) :
  wpAny (model X.prog X.w) X.A (eval a X.env) (λ v s₁=>wpAny (model X.prog X.w) X.A (eval b X.env) (λ u s₂=>wpAny (model X.prog X.w) X.A (f v u) Q X.xe s₂) X.xe s₁) X.xe s:=by
 refine y9 (ha pins s σ H _ I h) λ v s1 ⟨x,H1,I1,r1,q1⟩=>?_;refine y9 (hb pins s1 σ H1 _ I1 q1) λ u s2 ⟨y,H2,I2,r2,q2⟩=>?_;exact hf v u s2 x y H2 I2 r1 r2 q2
theorem j7 {op:Operator} {r:R2} (ho:W5 X (binaryOp op) r) (ha:PE X a ta) (hb:PE X b tb):PE X (.BinOp a op b pos) (tOp r ta tb):=by
 intro pins s σ H Q I h;exact wpAny_BinOp (b4y ha hb I h λ v u s2 x y H2 I2 rx ry q=>ho pins s2 σ H2 x y v u Q I2 rx ry q)
theorem P4 {op:UnaryOp} {r:V->Hp->VK->Prop} (ho:UnR X (unaryOp op) r) (ha:PE X a ta):PE X (.UnaryOp op a pos) (tUn r ta):=by
 intro pins s σ H Q I h;exact UnaryOp_ (y9 (ha pins s σ H _ I h) λ v s1 ⟨x,H1,I1,r1,q1⟩=>ho pins s1 σ H1 x v Q I1 r1 q1)
theorem opI {f:Value->Value->Sem Value} {C:Int->Int->Prop} {g:Int->Int->Int}
  (rule:∀ (i j:Int) (t u:Tok) (s:Shared) (Q:Value->Shared->Prop) (E:Value->Shared->Prop),C i j->Q (.int (g i j) s.toks) { s with toks:=s.toks+1 }->wpAny (model X.prog X.w) X.A (f (.int i t) (.int j u)) Q E s) :
  W5 X f (rI C λ i j=>.int (g i j)):=by
 intro pins s σ H x y v u Q I rx ry h;obtain ⟨i,j,rfl,rfl,hc,q⟩:=h;obtain ⟨t,rfl⟩:=rx;obtain ⟨t',rfl⟩:=ry;exact rule i j t t' s _ _ hc ⟨.int (g i j),H,I.tok _,⟨_,rfl⟩,q⟩
theorem b4Y {f:Value->Value->Sem Value} {g:Int->Int->Int}
  (rule:∀ (i j:Int) (t u:Tok) (s:Shared) (Q:Value->Shared->Prop) (E:Value->Shared->Prop),Q (.int (g i j) s.toks) { s with toks:=s.toks+1 }->wpAny (model X.prog X.w) X.A (f (.int i t) (.int j u)) Q E s) :
  W5 X f (rI0 λ i j=>.int (g i j)):=by
 intro pins s σ H x y v u Q I rx ry h;obtain ⟨i,j,rfl,rfl,q⟩:=h;obtain ⟨t,rfl⟩:=rx;obtain ⟨t',rfl⟩:=ry;exact rule i j t t' s _ _ ⟨.int (g i j),H,I.tok _,⟨_,rfl⟩,q⟩
theorem b2d {f:Value->Value->Sem Value} {g:Int->Int->Bool}
  (rule:∀ (i j:Int) (t u:Tok) (s:Shared) (Q:Value->Shared->Prop) (E:Value->Shared->Prop),Q (.bool (g i j)) s->wpAny (model X.prog X.w) X.A (f (.int i t) (.int j u)) Q E s) :
  W5 X f (rI0 λ i j=>.bl (g i j)):=by
 intro pins s σ H x y v u Q I rx ry h;obtain ⟨i,j,rfl,rfl,q⟩:=h;obtain ⟨t,rfl⟩:=rx;obtain ⟨t',rfl⟩:=ry;exact rule i j t t' s _ _ ⟨.bl (g i j),H,I,rfl,q⟩
def b6K (i j:Int):Prop:=0<j/\j<1073741824
def b6F (i j:Int):Prop:=0<=j/\j<=1000000/\i.natAbs<2 ^ 64
def CMul (i j:Int):Prop:=(-(2 ^ 64)<i/\i<2 ^ 64)\/(-(2 ^ 64)<j/\j<2 ^ 64)
theorem CMul.ok {i j:Int} (h:CMul i j):IntMulOk i j:=by
 rcases h with ⟨h1,h2⟩ | ⟨h1,h2⟩
 ·exact .of_left (intBits_le_64 h1 h2)
 ·exact .of_right (intBits_le_64 h1 h2)
theorem G4:W5 X (binaryOp .Add) (rI0 λ i j=>.int (i+j)):=b4Y λ _ _ _ _ _ _ _ q=>add_int q
theorem a6g:W5 X (binaryOp .Sub) (rI0 λ i j=>.int (i - j)):=b4Y λ _ _ _ _ _ _ _ q=>sub_int q
theorem a5X:W5 X (binaryOp .Mult) (rI CMul λ i j=>.int (i*j)):=opI λ _ _ _ _ _ _ _ hc q=>mul_int q hc.ok
theorem a0X:W5 X (binaryOp .FloorDiv) (rI b6K λ i j=>.int (i / j)):=opI λ i j _ _ _ _ _ hc q=>by
 have h1:(0:Int)<j:=hc.1;have h2:j<1073741824:=hc.2;exact floordiv_int (by omega) (by rw [iS i (by omega)]; exact q) (.inl (PyProof.noPylong_small (by omega)))
theorem E5:W5 X (binaryOp .Mod) (rI (λ _ j=>0<j) λ i j=>.int (i % j)):=opI λ i j _ _ _ _ _ hc q=>by
 have h1:(0:Int)<j:=hc;exact mod_int' (by omega) (by rw [Int.fmod_eq_emod_of_nonneg i (by omega)]; exact q)
theorem a8V:W5 X (binaryOp .Pow) (rI b6F λ i j=>.int (i ^ j.toNat)):=opI λ _ _ _ _ _ _ _ hc q=>pow_int_small hc.1 hc.2.1 hc.2.2 q
theorem unI {f:Value->Sem Value} {g:Int->Int}
  (rule:∀ (i:Int) (t:Tok) (s:Shared) (Q:Value->Shared->Prop) (E:Value->Shared->Prop),Q (.int (g i) s.toks) { s with toks:=s.toks+1 }->wpAny (model X.prog X.w) X.A (f (.int i t)) Q E s) :
  UnR X f (rU λ i=>.int (g i)):=by
 intro pins s σ H x v Q I rx h;obtain ⟨i,rfl,q⟩:=h;obtain ⟨t,rfl⟩:=rx;exact rule i t s _ _ ⟨.int (g i),H,I.tok _,⟨_,rfl⟩,q⟩
theorem G7:UnR X (unaryOp .USub) (rU λ i=>.int (-i)):=unI λ _ _ _ _ _ q=>neg_int q
end
def b4Z:V->V->Bool
 | .non,.non=>true | .non,.int _=>true | .int _,.non=>true | .non,.bl _=>true | .bl _,.non=>true | .non,.str _=>true | .str _,.non=>true
 | .int _,.int _=>true | .bl _,.bl _=>true | .str _,.str _=>true | .byt _,.byt _=>true
 | .int _,.str _=>true | .str _,.int _=>true | .bl _,.str _=>true | .str _,.bl _=>true
 | _,_=>false
def rEq:R2:=λ x y H Q=>b4Z x y=true/\Q (.bl (decide (x=y))) H
def rNe:R2:=λ x y H Q=>b4Z x y=true/\Q (.bl (!decide (x=y))) H
theorem a7j {i j:Int}:decide (V.int i=V.int j)=(i==j):=by
 rw [dR];simp
theorem a8Q {i j:Bool}:decide (V.bl i=V.bl j)=(i==j):=by
 rw [dR];simp
theorem a6v {i j:Str}:decide (V.str i=V.str j)=(i==j):=by
 rw [dR];simp
theorem a6K {i j:Array UInt8}:decide (V.byt i=V.byt j)=(i.toList==j.toList):=by
 rw [dR]
 cases i
 cases j;simp
section
variable {X:Cx} {a b c:Expr} {ta tb tc:TE} {pos:Pos}
theorem v8 {pins:List (Addr×Obj)} {σ:St} {H:Hp} {s:Shared} {Q:VK} {k k':Bool} (I:Inv X pins σ H s) (q:Q (.bl k) H) (e:k=k'):EP X pins σ Q (.bool k') s:=by
 subst e;exact ⟨.bl k,H,I,rfl,q⟩
theorem Z1:W5 X (compareOp .Eq) rEq:=by
 intro pins s σ H x y v u Q I rx ry h;obtain ⟨hs,q⟩:=h
 cases x with
 | non =>
  cases rx
  cases y with
  | non=>cases ry; exact kX (v8 I q (by simp))
  | bl j=>cases ry; exact kY (v8 I q (by simp))
  | int j=>obtain ⟨t',rfl⟩:=ry; exact kZ (v8 I q (by simp))
  | str j=>obtain ⟨t',rfl⟩:=ry; exact lA (v8 I q (by simp))
  | _=>exact absurd (show false=true from hs) bI
 | bl i =>
  cases rx
  cases y with
  | non=>cases ry; exact lB (v8 I q (by simp))
  | bl j=>cases ry; exact eq_bool (v8 I q a8Q)
  | str j=>obtain ⟨t',rfl⟩:=ry; exact lC (v8 I q (by simp))
  | _=>exact absurd (show false=true from hs) bI
 | int i =>
  obtain ⟨t,rfl⟩:=rx
  cases y with
  | non=>cases ry; exact lD (v8 I q (by simp))
  | int j=>obtain ⟨t',rfl⟩:=ry; exact eq_int (v8 I q a7j)
  | str j=>obtain ⟨t',rfl⟩:=ry; exact lE (v8 I q (by simp))
  | _=>exact absurd (show false=true from hs) bI
 | str i =>
  obtain ⟨t,rfl⟩:=rx
  cases y with
  | non=>cases ry; exact lF (v8 I q (by simp))
  | bl j=>cases ry; exact lG (v8 I q (by simp))
  | int j=>obtain ⟨t',rfl⟩:=ry; exact lH (v8 I q (by simp))
  | str j=>obtain ⟨t',rfl⟩:=ry; exact eq_str (v8 I q a6v)
  | _=>exact absurd (show false=true from hs) bI
 | byt i =>
  obtain ⟨t,rfl⟩:=rx
  cases y with
  | byt j=>obtain ⟨t',rfl⟩:=ry; exact W.eq_bytes (v8 I q a6K)
  | _=>exact absurd (show false=true from hs) bI
 | _=>cases y <;> exact absurd (show false=true from hs) bI
theorem a3E:W5 X (compareOp .NotEq) rNe:=by
 intro pins s σ H x y v u Q I rx ry h;obtain ⟨hs,q⟩:=h
 cases x with
 | non =>
  cases rx
  cases y with
  | non=>cases ry; exact lI (v8 I q (by simp))
  | bl j=>cases ry; exact lJ (v8 I q (by simp))
  | int j=>obtain ⟨t',rfl⟩:=ry; exact lK (v8 I q (by simp))
  | str j=>obtain ⟨t',rfl⟩:=ry; exact lL (v8 I q (by simp))
  | _=>exact absurd (show false=true from hs) bI
 | bl i =>
  cases rx
  cases y with
  | non=>cases ry; exact lM (v8 I q (by simp))
  | bl j=>cases ry; exact ne_bool (v8 I q (congrArg not a8Q))
  | str j=>obtain ⟨t',rfl⟩:=ry; exact lN (v8 I q (by simp))
  | _=>exact absurd (show false=true from hs) bI
 | int i =>
  obtain ⟨t,rfl⟩:=rx
  cases y with
  | non=>cases ry; exact lO (v8 I q (by simp))
  | int j=>obtain ⟨t',rfl⟩:=ry; exact ne_int (v8 I q (congrArg not a7j))
  | str j=>obtain ⟨t',rfl⟩:=ry; exact lP (v8 I q (by simp))
  | _=>exact absurd (show false=true from hs) bI
 | str i =>
  obtain ⟨t,rfl⟩:=rx
  cases y with
  | non=>cases ry; exact lQ (v8 I q (by simp))
  | bl j=>cases ry; exact lR (v8 I q (by simp))
  | int j=>obtain ⟨t',rfl⟩:=ry; exact lS (v8 I q (by simp))
  | str j=>obtain ⟨t',rfl⟩:=ry; exact ne_str (v8 I q (congrArg not a6v))
  | _=>exact absurd (show false=true from hs) bI
 | byt i =>
  obtain ⟨t,rfl⟩:=rx
  cases y with
  | byt j=>obtain ⟨t',rfl⟩:=ry; exact W.ne_bytes (v8 I q (congrArg not a6K))
  | _=>exact absurd (show false=true from hs) bI
 | _=>cases y <;> exact absurd (show false=true from hs) bI
theorem a0S:W5 X (compareOp .Lt) (rI0 λ i j=>.bl (decide (i<j))):=b2d λ _ _ _ _ _ _ _ q=>lt_int q
theorem W7:W5 X (compareOp .LtE) (rI0 λ i j=>.bl (decide (i<=j))):=b2d λ _ _ _ _ _ _ _ q=>le_int q
theorem a1H:W5 X (compareOp .Gt) (rI0 λ i j=>.bl (decide (j<i))):=b2d λ _ _ _ _ _ _ _ q=>gt_int q
theorem a9B:W5 X (compareOp .GtE) (rI0 λ i j=>.bl (decide (j<=i))):=b2d λ _ _ _ _ _ _ _ q=>ge_int q
theorem a6o:W5 X (compareOp .Is) (λ x y H Q=>y=.non/\Q (.bl (decide (x=.non))) H):=by
 intro pins s σ H x y v u Q I rx ry h;obtain ⟨rfl,q⟩:=h
 cases ry;refine is_none_gen (v8 I q ?_)
 cases x <;> first
  | (cases rx; rfl)
  | (obtain ⟨t,rfl⟩:=rx; rfl)
theorem b1Z:W5 X (compareOp .IsNot) (λ x y H Q=>y=.non/\Q (.bl (!decide (x=.non))) H):=by
 intro pins s σ H x y v u Q I rx ry h;obtain ⟨rfl,q⟩:=h
 cases ry;refine isnot_none_gen (v8 I q ?_)
 cases x <;> first
  | (cases rx; rfl)
  | (obtain ⟨t,rfl⟩:=rx; rfl)
theorem a4o:W5 X (compareOp .NotIn) (λ x y H Q=>∃ i j,x=.str i/\y=.str j/\Q (.bl (!(!(Builtin.Str.occurrences j i 0 j.length 1).isEmpty))) H):=by
 intro pins s σ H x y v u Q I rx ry h;obtain ⟨i,j,rfl,rfl,q⟩:=h;obtain ⟨t,rfl⟩:=rx;obtain ⟨t',rfl⟩:=ry;exact notIn_str (v8 I q rfl)
theorem m9 (b:Expr) {op:CmpOp} (h:op≠.In:=by decide) (h2:op≠.NotIn:=by decide):behindInMarks op b=false:=by
 have e1:(op==CmpOp.In)=false:=by cases op <;> first | rfl | exact absurd rfl h
 have e2:(op==CmpOp.NotIn)=false:=by cases op <;> first | rfl | exact absurd rfl h2
 cases b <;> simp [behindInMarks,e1,e2]
theorem Q6 {op:CmpOp} {r:R2} (ho:W5 X (compareOp op) r) (ha:PE X a ta) (hb:PE X b tb) (hm:behindInMarks op b=false):PE X (.Compare a [op] [b] pos) (tOp r ta tb):=by
 intro pins s σ H Q I h;exact wpAny_Compare1 (b4y ha hb I h λ v u s2 x y H2 I2 rx ry q=>ho pins s2 σ H2 x y v u Q I2 rx ry q) hm
def b2O (t:TE):TT:=λ σ H Q=>t σ H λ x H'=>∃ k,x=.bl k/\Q k H'
theorem j8 {op:CmpOp} {r:R2} (ho:W5 X (compareOp op) r) (ha:PE X a ta) (hb:PE X b tb) (hm:behindInMarks op b=false):PT X (.Compare a [op] [b] pos) (b2O (tOp r ta tb)):=by
 intro pins s σ H Q I h;refine wpAny_isTrue_Compare1 (y9 (ha pins s σ H _ I h) λ v s1 ⟨x,H1,I1,r1,q1⟩=>y9 (hb pins s1 σ H1 _ I1 q1) λ u s2 ⟨y,H2,I2,r2,q2⟩ =>
  y9 (ho pins s2 σ H2 x y v u _ I2 r1 r2 q2) λ c s3 ⟨z,H3,I3,r3,k,e,q3⟩=>?_) hm
 subst e
 cases r3;exact wpAny_truthy_bool ⟨H3,I3,q3⟩
def a9n (r r':R2) (ta tb tc:TE):TE:=λ σ H Q=>ta σ H λ x H1=>tb σ H1 λ y H2=>r x y H2 λ z H3=>∃ k,z=.bl k ∧
 (if k=true then tc σ H3 λ w' H4=>r' y w' H4 Q else Q (.bl false) H3)
theorem b0l {op op':CmpOp} {r r':R2} (ho:W5 X (compareOp op) r) (ho':W5 X (compareOp op') r') (ha:PE X a ta) (hb:PE X b tb) (hc:PE X c tc)
  (hm:lastMarks [op,op'] [b,c]=false:=by with_unfolding_all rfl):PE X (.Compare a [op,op'] [b,c] pos) (a9n r r' ta tb tc):=by
 intro pins s σ H Q I h;refine Compare_chain (y9 (ha pins s σ H _ I h) λ v s1 ⟨x,H1,I1,r1,q1⟩=>chain_link (y9 (hb pins s1 σ H1 _ I1 q1) λ u s2 ⟨y,H2,I2,r2,q2⟩ =>
  y9 (ho pins s2 σ H2 x y v u _ I2 r1 r2 q2) λ d s3 ⟨z,H3,I3,r3,k,e,q3⟩=>?_)) hm
 subst e
 cases r3;refine wpAny_truthy_bool ?_
 cases k with
 | false=>exact ite_ff ⟨.bl false,H3,I3,rfl,q3⟩
 | true=>exact ite_tt (chain_last (y9 (hc pins s3 σ H3 _ I3 q3) λ w' s4 ⟨z',H4,I4,r4,q4⟩=>ho' pins s4 σ H4 y z' u w' Q I4 r2 r4 q4))
theorem Y4 {op op':CmpOp} {r r':R2} (ho:W5 X (compareOp op) r) (ho':W5 X (compareOp op') r') (ha:PE X a ta) (hb:PE X b tb) (hc:PE X c tc)
  (hm:lastMarks [op,op'] [b,c]=false:=by with_unfolding_all rfl):PT X (.Compare a [op,op'] [b,c] pos) (b2O (a9n r r' ta tb tc)):=by
 intro pins s σ H Q I h;refine isTrue_chain (y9 (ha pins s σ H _ I h) λ v s1 ⟨x,H1,I1,r1,q1⟩=>test_link (y9 (hb pins s1 σ H1 _ I1 q1) λ u s2 ⟨y,H2,I2,r2,q2⟩ =>
  y9 (ho pins s2 σ H2 x y v u _ I2 r1 r2 q2) λ d s3 ⟨z,H3,I3,r3,k,e,q3⟩=>?_)) hm
 subst e
 cases r3;refine wpAny_truthy_bool ?_
 cases k with
 | false =>
  obtain ⟨k',e',q'⟩:=q3
  cases e';exact ite_ff ⟨H3,I3,q'⟩
 | true =>
  refine ite_tt (test_last (y9 (hc pins s3 σ H3 _ I3 q3) λ w' s4 ⟨z',H4,I4,r4,q4⟩=>y9 (ho' pins s4 σ H4 y z' u w' _ I4 r2 r4 q4) λ d' s5 ⟨z2,H5,I5,r5,k2,e2,q5⟩=>?_));subst e2
  cases r5;exact wpAny_truthy_bool ⟨H5,I5,q5⟩
def b5C (K:W.Frag) (x:V) (H:Hp) (k:Bool):Prop :=
 match x with
 | .non=>k=false
 | .bl b=>k=b
 | .int i=>k=(i != 0)
 | .str y=>y.length<=sizeLine/\k=((y.length:Int) != 0)
 | .byt y=>y.size<=sizeLine/\k=((y.size:Int) != 0)
 | .ref p=>(∃ xs,SqL K H p xs/\k=!xs.isEmpty)\/(∃ xs,SqT K H p xs/\k=!xs.isEmpty)\/∃ kvs,H p=some (.dK kvs)/\k=!kvs.isEmpty
 | _=>False
theorem a5Z {κ:Type} {kvs:List (κ×V)} {vs:List (κ×Value)} (r:KV kvs vs):(!vs.isEmpty)=!kvs.isEmpty:=by
 cases r <;> rfl
theorem a2F {xs:List V} {its:List Value} (r:Vals xs its):(!its.toArray.isEmpty)=!xs.isEmpty:=by
 cases r <;> simp
theorem a0A:(sizeLine:Nat)<2 ^ 63:=by rw [sizeLine_eq]; decide
theorem b3J:b7c X (λ x H Q=>∃ k,b5C X.K x H k/\Q k H):=by
 intro pins s σ H x v Q I rx h;obtain ⟨k,e,q⟩:=h;have hl:=a0A;have hs:sizeLine=16777216:=sizeLine_eq
 cases x with
 | non =>
  cases rx;have e':k=false:=e;subst e';exact truthy_none ⟨H,I,q⟩
 | bl b =>
  cases rx;have e':k=b:=e;subst e';exact wpAny_truthy_bool ⟨H,I,q⟩
 | int i =>
  obtain ⟨t,rfl⟩:=rx;have e':k=(i != 0):=e;subst e';exact PySem.P.truthy_int ⟨H,I,q⟩
 | str y =>
  obtain ⟨t,rfl⟩:=rx;obtain ⟨hy,e'⟩:y.length<=sizeLine/\k=((y.length:Int) != 0):=e;subst e';exact PySem.P.truthy_str (by omega) ⟨H,I.tok _,q⟩
 | byt y =>
  obtain ⟨t,rfl⟩:=rx;obtain ⟨hy,e'⟩:y.size<=sizeLine/\k=((y.size:Int) != 0):=e;subst e';exact W.truthy_bytes (by omega) ⟨H,I.tok _,q⟩
 | ref p =>
  cases rx;have e':(∃ xs,SqL X.K H p xs/\k=!xs.isEmpty)\/(∃ xs,SqT X.K H p xs/\k=!xs.isEmpty)\/∃ kvs,H p=some (.dK kvs)/\k=!kvs.isEmpty:=e;rcases e' with ⟨xs,hx,e'⟩ | ⟨xs,hx,e'⟩ | ⟨kvs,hx,e'⟩
  ·subst e'
   obtain ⟨its,r,pl,hz⟩:=I.list hx;have hlen:=r.length;exact wpAny_truthy_list pl.isList (by simp only [bC]; omega) ⟨H,I.tok _,by rw [a2F r]; exact q⟩
  ·subst e'
   obtain ⟨its,r,pl,hz⟩:=I.tuple hx;have hlen:=r.length;exact truthy_tuple pl (by simp only [bC]; omega) ⟨H,I.tok _,by rw [a2F r]; exact q⟩
  ·subst e'
   obtain ⟨hz,hS,vs,r,m⟩:kvs.length<=sizeLine/\(p==sysModules)=false/\∃ vs,KV kvs vs/\s.heap.DictOf (a4r X.prog X.w) p vs:=I.hok p _ hx;have hlen:kvs.length=vs.length:=Paired.length r;exact wpAny_truthy_dict hS m (by omega) ⟨H,I.tok _,by rw [a5Z r]; exact q⟩
 | _=>exact (show False from e).elim
theorem a0I (ha:PE X a ta) (he:∀ whole,isTrue a X.env whole=(do let v <- whole; standAt a.pos; holding [v] (truthy v))) :
  PT X a (λ σ H Q=>ta σ H λ x H'=>∃ k,b5C X.K x H' k/\Q k H'):=by
 intro pins s σ H Q I h;exact isTrue_plain (y9 (ha pins s σ H _ I h) λ v s1 ⟨x,H1,I1,r1,q1⟩=>b3J pins s1 σ H1 x v Q I1 r1 q1) (he _)
theorem B6:W5 X (binaryOp .Add) (λ x y H Q=>∃ i j,x=.str i/\y=.str j/\i.length+j.length<=sizeLine/\Q (.str (i++j)) H):=by
 intro pins s σ H x y v u Q I rx ry h;obtain ⟨i,j,rfl,rfl,hz,q⟩:=h;obtain ⟨t,rfl⟩:=rx;obtain ⟨t',rfl⟩:=ry;exact add_str (λ t' tk=>⟨.str (i++j),H,I.tok _,⟨_,rfl⟩,q⟩) hz
theorem Q8 {x:V} {us:List Value} (r:Vals [x] us):∃ u,us=[u]/\RelV x u:=by
 cases r with
 | cons r1 r2=>cases r2; exact ⟨_,rfl,r1⟩
theorem a5f {x y:V} {us:List Value} (r:Vals [x,y] us):∃ u w',us=[u,w']/\RelV x u/\RelV y w':=by
 cases r with
 | cons r1 r2 =>
  cases r2 with
  | cons r3 r4=>cases r4; exact ⟨_,_,rfl,r1,r3⟩
theorem a8U:G9 X (.builtin "abs") (λ xs H Q=>∃ i,xs=[.int i]/\Q (.int (if i<0 then -i else i)) H):=by
 intro pins s σ H xs us Q I r h;obtain ⟨i,rfl,q⟩:=h;obtain ⟨u,rfl,t,rfl⟩:=Q8 r;exact call_abs_int λ u tk=>⟨.int (if i<0 then -i else i),H,I.tok _,⟨_,rfl⟩,q⟩
theorem a7A:G9 X (.type "int") (λ xs H Q=>(∃ i,xs=[.int i]/\Q (.int i) H)\/∃ k,xs=[.bl k]/\Q (.int (if k then 1 else 0)) H):=by
 intro pins s σ H xs us Q I r h;rcases h with ⟨i,rfl,q⟩ | ⟨k,rfl,q⟩
 ·obtain ⟨u,rfl,t,rfl⟩:=Q8 r
  exact call_int_int ⟨.int i,H,I,⟨_,rfl⟩,q⟩
 ·obtain ⟨u,rfl,r1⟩:=Q8 r
  cases r1;exact call_int_bool ⟨.int (if k then 1 else 0),H,I.tok _,⟨_,rfl⟩,q⟩
theorem x9:G9 X (.type "str") (λ xs H Q=>∃ i,xs=[.int i]/\i.natAbs.log2<1920/\Q (.str (toString i)) H):=by
 intro pins s σ H xs us Q I r h;obtain ⟨i,rfl,hz,q⟩:=h;obtain ⟨u,rfl,t,rfl⟩:=Q8 r;exact PySem.P.str_of_int hz ⟨.str _,H,I.tok _,⟨_,rfl⟩,q⟩
end
structure ObjM (h:Heap) (x dx C:Addr) (mA:Str->Option Value):Prop where
 obj:h.get? x=some (W.instObj C dx)
 ns:h.Ns1 dx mA
 ne:dx≠x
theorem a7E {h:Heap} {dx:Addr} {mA:Str->Option Value} (n:h.Ns1 dx mA):∃ od,h.get? dx=some od/\∀ name,W.lookIn name od=some (mA name):=by
 obtain ⟨o,es,ep,ho,hd,hk,_,hm⟩:=n;refine ⟨o,ho,λ name=>?_⟩;have e:=hm name;unfold nsFind findBy at e;rw [<- Array.find?_toList] at e;unfold W.lookIn;rw [hd];dsimp only
 split
 ·rename_i y q
  rw [q] at e;exact congrArg some e
 ·rename_i q
  rw [q] at e;have a:es.toList.any (·.refKey)=false:=by
   rw [List.any_eq_false];intro y hy;obtain ⟨z,t,hkey⟩:=hk y (Array.mem_toList_iff.mp hy);simp [DictEntry.refKey,hkey]
  have a':¬ es.toList.any (·.refKey)=true:=by rw [a]; exact bI
  rw [if_neg a'];exact congrArg some e
theorem ObjM.look {h:Heap} {x dx C:Addr} {mA:Str->Option Value} (I:ObjM h x dx C mA):∃ od,W.InstAt h x (W.instObj C dx) C (some od)/\∀ name,W.lookIn name od=some (mA name) :=
 let ⟨od,ho,hl⟩:=a7E I.ns
 ⟨od,⟨I.obj,rfl,rfl,ho⟩,hl⟩
section
variable {prog:Program} {w:World} {A:Around} {E:Value->Shared->Prop} {s:Shared} {K:W.Frag} {x dx C f:Addr} {mA:Str->Option Value} {name:Str} {v:Value}
theorem b2r {expr:Bool} {Q:Value->Shared->Prop} (X:K.In s.heap) (I:ObjM s.heap x dx C mA) (hg:W.plainGet K C name=true) (hh:W.hasDictIn K C=true)
  (ha:W.findIn K (.ref C) name=some none) (hv:mA name=some v) (hv':W.handedIn v=true) (h:Q v { s with toks:=s.toks+1 }) :
  wpAny (model prog w) A (getAttr (.ref x) name expr) Q E s:=by
 obtain ⟨od,J,hl⟩:=I.look;exact W.get_value X J (W.plainGet_of hg).1 (W.findObj_own hh ha rfl (by rw [hl,hv])) hv' h
theorem b0Q {pl:Sem Bool} {Q:Value×List Value->Shared->Prop} (X:K.In s.heap) (I:ObjM s.heap x dx C mA) (hg:W.plainGet K C name=true)
  (hf:W.findIn K (.ref C) name=some (some (.ref f))) (ht:W.isFn K (.ref f)=true) (hv:mA name=none) (h:Q (.ref f,[.ref x]) s) :
  wpAny (model prog w) A (getMethod (.ref x) name pl) Q E s:=by
 obtain ⟨od,J,hl⟩:=I.look;exact W.method_fn X J (W.plainGet_of hg).1 (W.plainGet_of hg).2 hf (beq_iff_eq.mp ht) (by show (W.lookIn name od).map (·.isSome)=some false; rw [hl,hv]; rfl) h
theorem b2j {ns:List Str} {Q:Unit->Shared->Prop} (X:K.In s.heap) (I:ObjM s.heap x dx C mA)
  (hs:W.findIn K (.ref C) "__setattr__"=some (some (.builtin "object.__setattr__"))) (hp:W.plainOver K C=true) (ht:W.takerIn K C name=some none) (hh:W.hasDictIn K C=true)
  (hw:gZ mA ns) (hsz:ns.length<=sizeLine)
  (h:∀ h',ObjM h' x dx C (λ y=>if y=name then some v else mA y)->Heap.SameBut dx s.heap h'->Q () { s with heap:=h',toks:=s.toks+2 }) :
  wpAny (model prog w) A (setAttr (.ref x) name v) Q E s:=by
 obtain ⟨od,J,hl⟩:=I.look;refine W.set_plain X J hs (W.osa_open (s:={ s with toks:=s.toks+1 }) (r:=none) X J hp ht λ b=>?_);obtain ⟨cd,hc,hd'⟩:=W.any_some hh;have hx:s.heap.get? x=some ⟨.ref C,some dx,.plain,#[]⟩:=I.obj;refine wpAny_bind (wpAny_pure (wpAny_bind (wpAny_bind (wpAny_loadPart hx (wpAny_bind (W.Looks.here (s:={ s with toks:=s.toks+1 }) (W.looks_clsIn X hc) ?_))))));rw [hd'];refine wpAny_pure (a:=some dx) (wpAny_bind (wpAny_pure (wpAny_bind ?_)));refine wpAny_nsSet1 (s:={ s with toks:=s.toks+1 }) I.ns λ h' hn2 hs2=>?_;obtain ⟨oD,esD,epD,hoD,hdD,hcD⟩:=hn2.count (lT name v hw);refine wpAny_bind (wpAny_lookBehind hoD (by rw [hdD]; exact pastItsLine_dict (aK hcD (by rw [cG]; omega))) ?_);exact wpAny_pure (h _ ⟨(hs2.2 _ (aS I.ne)).trans I.obj,hn2,I.ne⟩ hs2)
theorem b0u {R:Result->Shared->Prop} {vs:List Value} {kw:List (Str×Value)} (X:K.In s.heap) (hm:W.makesIn K C=true)
  (hi:W.findIn K (.ref C) "__init__"=some (some (.ref f))) (hf:W.typeIn K (.ref f)=some (.type "function"))
  (h:codeAny (model prog w) (A.under (.builtin "type.__call__" ⟨.ref C::vs,kw⟩)) (.call (.ref f) ⟨.ref (s.heap.objs.size+1)::vs,kw⟩) (W.InitBack (s.heap.objs.size+1) R)
   { s with heap:=(s.heap.push W.emptyDict).push (W.instObj C s.heap.objs.size) }) :
  codeAny (model prog w) A (.call (.ref C) ⟨vs,kw⟩) R s:=by
 obtain ⟨hh,g,d,t,os⟩:=s;exact W.make_core (W.makes_of X hm) (W.looks_findIn X hi) (λ self=>W.bind_fn X self hf) (.inl rfl) h
end
def S8 (f:Str) (v:V):List (Str×V)->List (Str×V)
 | []=>[(f,v)]
 | (g,x)::r=>if g=f then (g,v)::r else (g,x)::S8 f v r
theorem a1E (f g:Str) (v:V):∀ fs:List (Str×V),(S8 f v fs).lookup g=if g=f then some v else fs.lookup g
 | []=>by
  show dU g [(f,v)]=_
  by_cases h:g=f
  ·have hb:(g==f)=true:=beq_iff_eq.mpr h
   simp only [dU,hb,if_pos h]
  ·have hb:(g==f)=false:=beq_eq_false_iff_ne.mpr h
   simp only [dU,hb,if_neg h]
 | (k,x)::r=>by
  have ih:=a1E f g v r;rw [show S8 f v ((k,x)::r)=(if k=f then (k,v)::r else (k,x)::S8 f v r) from rfl]
  by_cases hk:k=f
  ·rw [if_pos hk]
   by_cases h:g=k
   ·have hb:(g==k)=true:=beq_iff_eq.mpr h
    simp only [dU,hb,if_pos (h.trans hk)]
   ·have hb:(g==k)=false:=beq_eq_false_iff_ne.mpr h
    simp only [dU,hb,if_neg (λ e:g=f=>h (e.trans hk.symm))]
  ·rw [if_neg hk]
   by_cases h:g=k
   ·have hb:(g==k)=true:=beq_iff_eq.mpr h
    simp only [dU,hb,if_neg (λ e:g=f=>hk (h.symm.trans e))]
   ·have hb:(g==k)=false:=beq_eq_false_iff_ne.mpr h
    simp only [dU,hb];exact ih
theorem a1t (f:Str) (v:V):∀ fs:List (Str×V),f∈(S8 f v fs).map (·.1)/\∀ g,g∈fs.map (·.1)->g∈(S8 f v fs).map (·.1)
 | []=>⟨by simp [S8],λ g h=>by simp at h⟩
 | (k,x)::r=>by
  obtain ⟨i1,i2⟩:=a1t f v r;rw [show S8 f v ((k,x)::r)=(if k=f then (k,v)::r else (k,x)::S8 f v r) from rfl]
  by_cases hk:k=f
  ·rw [if_pos hk]
   subst hk;exact ⟨by simp,λ g h=>by simpa using h⟩
  ·rw [if_neg hk]
   refine ⟨?_,λ g h=>?_⟩
   ·rw [bD]
    exact aU _ i1
   ·rw [bD] at h ⊢
    rcases aO.mp h with e | e
    ·exact aO.mpr (.inl e)
    ·exact aU _ (i2 g e)
theorem a1D (f:Str) (v:V):∀ fs:List (Str×V),(S8 f v fs).length<=fs.length+1
 | []=>by simp [S8]
 | (k,x)::r=>by
  have ih:=a1D f v r;rw [show S8 f v ((k,x)::r)=(if k=f then (k,v)::r else (k,x)::S8 f v r) from rfl]
  by_cases hk:k=f
  ·rw [if_pos hk,cG,cG]; omega
  ·rw [if_neg hk,cG,cG]; omega
theorem RelO.some_of {v:V} {o:Option Value} (r:RelO (some v) o):∃ u,o=some u/\RelV v u:=by
 cases o with
 | none=>exact (show False from r).elim
 | some u=>exact ⟨u,rfl,r⟩
theorem RelO.none_of {o:Option Value} (r:RelO none o):o=none:=by
 cases o with
 | none=>rfl
 | some u=>exact (show False from r).elim
theorem a7I {v:V} {u:Value} (r:RelV v u):W.handedIn u=true:=by
 cases v with
 | non=>cases (show u=Value.none from r); rfl
 | bl b=>cases (show u=Value.bool b from r); rfl
 | int i=>obtain ⟨t,e⟩:=(show ∃ t,u=Value.int i t from r); cases e; rfl
 | str x=>obtain ⟨t,e⟩:=(show ∃ t,u=Value.str x t from r); cases e; rfl
 | byt b=>obtain ⟨t,e⟩:=(show ∃ t,u=Value.bytes b t from r); cases e; rfl
 | flt b=>obtain ⟨t,e⟩:=(show ∃ t,u=Value.float b t from r); cases e; rfl
 | ref a=>cases (show u=Value.ref a from r); rfl
 | ty n=>cases (show u=Value.type n from r); rfl
section
variable {P:Program} {w:World} {H H':Hp} {h h':Heap} {a C dx:Addr} {fs fs':List (Str×V)}
theorem a2b (hok:HOk P w H h) (e:H a=some (.ins C dx fs)):∃ mA,ObjM h a dx C mA/\(∀ f,RelO (fs.lookup f) (mA f))/\gZ mA (fs.map (·.1))/\fs.length<=1000/\H dx=some (.own a):=by
 obtain ⟨d,z,ne,ob,mA,n,r,q⟩:=(show ObjOk P w H h a (.ins C dx fs) from hok a _ e);exact ⟨mA,⟨ob,n,ne⟩,r,q,z,d⟩
end
structure Cls (K:W.Frag) (C:Addr):Prop where
 pg:W.plainGet K C Str.empty=true
 hd:W.hasDictIn K C=true
 po:W.plainOver K C=true
 sa:W.findIn K (.ref C) "__setattr__"=some (some (.builtin "object.__setattr__"))
theorem Cls.get {K:W.Frag} {C:Addr} (c:Cls K C) (f:Str):W.plainGet K C f=true:=c.pg
def NoAttr (K:W.Frag) (C:Addr) (f:Str):Prop:=W.findIn K (.ref C) f=some none
theorem NoAttr.taker {K:W.Frag} {C:Addr} {f:Str} (n:NoAttr K C f):W.takerIn K C f=some none:=by
 unfold W.takerIn;rw [show W.findIn K (.ref C) f=some none from n];rfl
structure Con (K:W.Frag) (C:Addr) (f:Str) (v:V) (u:Value):Prop where
 at_:W.findIn K (.ref C) f=some (some u)
 rel:RelV v u
 get:W.specialIn K u "__get__"=some none
 cp:W.copiedNames.contains f=false
structure a7H (K:W.Frag) (C:Addr) (m:Str) (f:Addr):Prop where
 at_:W.findIn K (.ref C) m=some (some (.ref f))
 fn:W.isFn K (.ref f)=true
 kp:W.keepIn K (.ref f)=true
section
variable {X:Cx} {pins:List (Addr×Obj)} {σ:St} {H:Hp} {s:Shared} {a C dx:Addr} {fs:List (Str×V)} {f:Str} {v:V} {A:Around} {E:Value->Shared->Prop}
theorem a6u {b:Bool} {Q:Value->Shared->Prop} (I:Inv X pins σ H s) (e:H a=some (.ins C dx fs)) (c:Cls X.K C) (n:NoAttr X.K C f) (l:fs.lookup f=some v)
  (h:∀ u s',Inv X pins σ H s'->RelV v u->Q u s'):wpAny (model X.prog X.w) A (getAttr (.ref a) f b) Q E s:=by
 obtain ⟨mA,O,r,_,_,_⟩:=a2b I.hok e;obtain ⟨u,hu,ru⟩:=RelO.some_of (v:=v) (o:=mA f) (by rw [<- l]; exact r f);exact b2r I.kIn O (c.get f) c.hd n hu (a7I ru) (h u _ (I.tok _) ru)
theorem a0v {m:Str} {g:Addr} {pl:Sem Bool} {Q:Value×List Value->Shared->Prop} (I:Inv X pins σ H s) (e:H a=some (.ins C dx fs)) (c:Cls X.K C) (k:a7H X.K C m g) (l:fs.lookup m=none)
  (h:Q (.ref g,[.ref a]) s):wpAny (model X.prog X.w) A (getMethod (.ref a) m pl) Q E s:=by
 obtain ⟨mA,O,r,_,_,_⟩:=a2b I.hok e;have hn:mA m=none:=RelO.none_of (by rw [<- l]; exact r m);exact b0Q I.kIn O (c.get m) k.at_ k.fn hn h
theorem a2p {y:V} {u:Value} {Q:Unit->Shared->Prop} (I:Inv X pins σ H s) (e:H a=some (.ins C dx fs)) (c:Cls X.K C) (n:NoAttr X.K C f) (hl:fs.length<1000) (ry:RelV y u)
  (h:∀ s',Inv X pins σ (r9 H a (.ins C dx (S8 f y fs))) s'->Q () s'):wpAny (model X.prog X.w) A (setAttr (.ref a) f u) Q E s:=by
 obtain ⟨mA,O,r,wi,_,ho⟩:=a2b I.hok e;have hz:(fs.map (·.1)).length<=sizeLine:=by rw [aA,sizeLine_eq]; omega
 refine b2j I.kIn O c.sa c.po n.taker c.hd wi hz λ h' O' sb=>h _ ?_;have hd:∃ o,h'.get? dx=some o:=let ⟨o,_,_,e',_⟩:=O'.ns; ⟨o,e'⟩
 refine I.write (x:=a) (e:=dx) (by rw [e]; exact eK) (.inr ho) (λ b q hb z=>(sb.2 b hb).trans z) hd ?_;refine ⟨by rw [c9 O.ne]; exact ho,?_,O.ne,O'.obj,_,O'.ns,λ g=>?_,λ g hg=>?_⟩
 ·have:=a1D f y fs; omega
 ·show RelO ((S8 f y fs).lookup g) (if g=f then some u else mA g)
  rw [a1E]
  by_cases q:g=f
  ·rw [if_pos q,if_pos q]; exact ry
  ·rw [if_neg q,if_neg q]; exact r g
 ·by_cases q:g=f
  ·rw [q]; exact (a1t f y fs).1
  ·refine (a1t f y fs).2 g (wi g λ z=>hg ?_)
   show (if g=f then some u else mA g)=none
   rw [if_neg q]; exact z
theorem Inv.made (I:Inv X pins σ H s):Inv X pins σ (r9 (r9 H s.heap.objs.size (.own (s.heap.objs.size+1))) (s.heap.objs.size+1) (.ins C s.heap.objs.size []))
  { s with heap:=(s.heap.push W.emptyDict).push (W.instObj C s.heap.objs.size) }:=by
 have e1:(s.heap.push W.emptyDict).get? s.heap.objs.size=some W.emptyDict:=Heap.get?_push_size s.heap rfl;have e2:((s.heap.push W.emptyDict).push (W.instObj C s.heap.objs.size)).get? (s.heap.objs.size+1)=some (W.instObj C s.heap.objs.size):=by
  have:=Heap.get?_push_size (s.heap.push W.emptyDict) (o:=W.instObj C s.heap.objs.size) rfl
  rwa [Heap.size_push] at this
 have e3:(s.heap.push W.emptyDict).Ns s.heap.objs.size (λ _=>none):=⟨W.emptyDict,#[],_,e1,rfl,(λ e he=>absurd he (by simp)),λ _=>rfl⟩;have I1:=I.laid (a:=s.heap.objs.size) (o:=.own (s.heap.objs.size+1)) (h':=s.heap.push W.emptyDict) (t':=s.toks) (λ b u q=>Heap.get?_push_of_some _ q) (aF _) ⟨_,e1⟩;refine I1.laid (a:=s.heap.objs.size+1) (o:=.ins C s.heap.objs.size []) (t':=s.toks) (λ b u q=>Heap.get?_push_of_some _ q) (iT (Heap.size_push _ _)) ?_;have ne:s.heap.objs.size≠s.heap.objs.size+1:=bJ (eL _);refine ⟨by rw [c9 ne,upd_same],cF _,ne,e2,λ _=>none,(Heap.Ns1.of_empty e3).at λ o q=>Heap.get?_push_of_some _ q,λ _=>eK,λ y hy=>absurd rfl hy⟩
theorem b2o {prog:Program} {w:World} {env:Env} {e:Expr} {f:Str} {pos:Pos} {s:Shared} {Q:Value->Shared->Prop} (hb:attributeBase e f env (eval e env)=eval e env)
  (h:wpAny (model prog w) A (eval e env) (λ o s₁=>wpAny (model prog w) A (getAttr o f true) Q E s₁) E s):wpAny (model prog w) A (eval (.Attribute e f pos) env) Q E s :=
 Attribute_any_ h (by rw [arm_eval_Attribute,hb])
end
def b5c (K:W.Frag) (ta:TE) (f:Str):TE:=λ σ H Q=>ta σ H λ x H1=>∃ a C dx fs v,x=.ref a/\H1 a=some (.ins C dx fs)/\Cls K C/\NoAttr K C f/\fs.lookup f=some v/\Q v H1
def b6Q (K:W.Frag) (ta tv:TE) (f:Str):TS:=λ D σ H=>tv σ H λ y H1=>ta σ H1 λ x H2=>∃ a C dx fs,x=.ref a/\H2 a=some (.ins C dx fs)/\Cls K C/\NoAttr K C f/\fs.length<1000 ∧
 D.nx σ (r9 H2 a (.ins C dx (S8 f y fs)))
section
variable {X:Cx} {o e value:Expr} {f:Str} {pos pos' tpos:Pos} {ta tv:TE}
theorem r8 (he:PE X e ta) (hb:attributeBase e f X.env (eval e X.env)=eval e X.env):PE X (.Attribute e f pos) (b5c X.K ta f):=by
 intro pins s σ H Q I h;refine b2o hb (y9 (he pins s σ H _ I h) λ u s1 ⟨x,H1,I1,rx,a,C,dx,fs,v,ex,ea,c,n,l,q⟩=>?_);subst ex;obtain rfl:u=Value.ref a:=rx;exact a6u I1 ea c n l λ u' s2 I2 ru=>⟨v,H1,I2,ru,q⟩
theorem R9 (ha:PE X o ta) (hv:PE X value tv) (hs:swapsWith value (some (.Attribute o f pos')) pos.line X.env=pure false):PS X (.Assign [.Attribute o f pos'] value pos) (b6Q X.K ta tv f):=by
 intro pins s σ H D I h;refine plainObj_wpAny_Assign_Attribute (y9 (hv pins s σ H _ I h) λ u s1 ⟨y,H1,I1,ry,q⟩=>y9 (ha pins s1 σ H1 _ I1 q) λ ov s2 ⟨x,H2,I2,rx,a,C,dx,fs,ex,ea,c,n,l,q2⟩=>?_) hs;subst ex;obtain rfl:ov=Value.ref a:=rx;exact a2p I2 ea c n l ry λ s3 I3=>⟨σ,_,I3,q2⟩
end
section
variable {X:Cx} {pins:List (Addr×Obj)} {σ:St} {H:Hp} {s:Shared} {A:Around} {E:Value->Shared->Prop} {Q:Value->Shared->Prop} {c:Value} {b:Bool}
inductive a1m (K:W.Frag) (H:Hp):V->Value->Prop where
 | non:a1m K H .non (.type "NoneType")
 | bl (x:Bool):a1m K H (.bl x) (.type "bool")
 | int (i:Int):a1m K H (.int i) (.type "int")
 | str (x:Str):a1m K H (.str x) (.type "str")
 | flt (x:UInt64):a1m K H (.flt x) (.type "float")
 | lst {a:Addr} {xs:List V} (e:H a=some (.lst xs)):a1m K H (.ref a) (.type "list")
 | frz {a:Addr} {o:Obj} {xs:List V} (e:H a=some (.frz o (.lst xs))):a1m K H (.ref a) (.type "list")
 | tup {a:Addr} {xs:List V} (e:H a=some (.tup xs)):a1m K H (.ref a) (.type "tuple")
 | dK {a:Addr} {kvs:List (Key×V)} (e:H a=some (.dK kvs)):a1m K H (.ref a) (.type "dict")
 | dT {a:Addr} {kvs:List (List Key×V)} (e:H a=some (.dT kvs)):a1m K H (.ref a) (.type "dict")
 | ins {a C dx:Addr} {fs:List (Str×V)} (e:H a=some (.ins C dx fs)) (cl:Cls K C) (ha:W.findIn K (.ref C) "__class__"=some (some (.builtin "object.__class__")))
   (hn:W.specialIn K (.builtin "object.__class__") "__get__"=some (some (.builtin "getset_descriptor.__get__"))) (htk:W.takesIn K (.builtin "object.__class__")=some true)
   (hm:W.mroIn K C (.type "object")=some true):a1m K H (.ref a) (.ref C)
theorem a8q {x:V} {u t:Value} (I:Inv X pins σ H s) (rx:RelV x u) (ty:a1m X.K H x t) (e:W.kitOne X.K t c=some b) (h:∀ tk,Q (.bool b) { s with toks:=tk }) :
  wpAny (model X.prog X.w) A (call (.builtin "isinstance") [u,c]) Q E s:=by
 cases ty with
 | non=>cases (show u=Value.none from rx); exact W.kia_one W.kitx_none I.kIn eK e (λ z=>nomatch z) h
 | bl y=>cases (show u=Value.bool y from rx); exact W.kia_one W.kitx_bool I.kIn eK e (λ z=>nomatch z) h
 | int i=>obtain ⟨t,q⟩:=(show ∃ t,u=Value.int i t from rx); cases q; exact W.kia_one W.kitx_int I.kIn eK e (λ z=>nomatch z) h
 | str y=>obtain ⟨t,q⟩:=(show ∃ t,u=Value.str y t from rx); cases q; exact W.kia_one W.kitx_str I.kIn eK e (λ z=>nomatch z) h
 | flt y=>obtain ⟨t,q⟩:=(show ∃ t,u=Value.float y t from rx); cases q; exact W.kia_one W.kitx_float I.kIn eK e (λ z=>nomatch z) h
 | @lst a xs ea =>
  cases (show u=Value.ref a from rx);obtain ⟨_,_,n,_,h1⟩:=(show ObjOk X.prog X.w H s.heap a (.lst xs) from I.hok a _ ea);exact W.kia_one W.kitx_list I.kIn ⟨_,h1,rfl⟩ e (λ z=>nomatch z) h
 | @frz a ob xs ea =>
  cases (show u=Value.ref a from rx);obtain ⟨_,_,_,n,_,h1⟩:=(show ObjOk X.prog X.w H s.heap a (.frz ob (.lst xs)) from I.hok a _ ea);exact W.kia_one W.kitx_list I.kIn ⟨_,h1,rfl⟩ e (λ z=>nomatch z) h
 | @tup a xs ea =>
  cases (show u=Value.ref a from rx);obtain ⟨_,_,_,p⟩:=(show ObjOk X.prog X.w H s.heap a (.tup xs) from I.hok a _ ea);obtain ⟨o,h1,h2,_⟩:=p;exact W.kia_one W.kitx_tuple I.kIn ⟨o,h1,h2⟩ e (λ z=>nomatch z) h
 | @dK a kvs ea =>
  cases (show u=Value.ref a from rx);obtain ⟨_,_,vs,_,p⟩:=(show ObjOk X.prog X.w H s.heap a (.dK kvs) from I.hok a _ ea);obtain ⟨o,es,ep,h1,h2,_⟩:=p;exact W.kia_one W.kitx_dict I.kIn ⟨o,h1,h2.1⟩ e (λ z=>nomatch z) h
 | @dT a kvs ea =>
  cases (show u=Value.ref a from rx);obtain ⟨_,_,xs,_,o,es,ep,h1,h2,_⟩:=(show ObjOk X.prog X.w H s.heap a (.dT kvs) from I.hok a _ ea);exact W.kia_one W.kitx_dict I.kIn ⟨o,h1,h2.1⟩ e (λ z=>nomatch z) h
 | @ins a C dx fs ea cl ha hn htk hm =>
  cases (show u=Value.ref a from rx);obtain ⟨mA,O,_⟩:=a2b I.hok ea;obtain ⟨od,J,_⟩:=O.look;exact W.kia_one (W.kitx_own (cl.get _) cl.hd ha hn htk hm) I.kIn J e (λ z=>nomatch z) h
end
structure Room (k:Nat) (A:Around):Prop where
 hd:A.handled=none
 dp:A.depth+3*k+5<recursionLimit
 un:A.units+16*k+200<cLine
theorem Room.mono {j k:Nat} {A:Around} (r:Room k A) (h:j<=k):Room j A:=⟨r.hd,by have:=r.dp; omega,by have:=r.un; omega⟩
theorem Room.deeper {k:Nat} {A:Around} (r:Room (k+1) A) (env:Env):Room k (A.deeper env) :=
 ⟨r.hd,by have:=r.dp; show A.depth+1+3*k+5<_; omega,by have:=r.un; show A.units+3+16*k+200<_; omega⟩
theorem Room.in1 {k:Nat} {A:Around} (r:Room (k+1) A):Room k A.in1 :=
 ⟨r.hd,by have:=r.dp; show A.depth+3*k+5<_; omega,by have:=r.un; show A.units+1+16*k+200<_; omega⟩
theorem a5A {A:Around} {C:Addr} {us:List Value} {kw:List (Str×Value)}:(A.under (.builtin "type.__call__" ⟨.ref C::us,kw⟩)).depth=A.depth+1:=by
 first | rfl | simp [Around.under,Code.weight,Code.isCreation,Code.isGuard,Code.isCaller,Code.frames,Code.isFrame,guardIds]
theorem a5H {A:Around} {C:Addr} {us:List Value} {kw:List (Str×Value)}:(A.under (.builtin "type.__call__" ⟨.ref C::us,kw⟩)).units=A.units+1:=by
 first | rfl | simp [Around.under,Code.cUnits,Code.frames,Code.isFrame]
theorem Room.make {k:Nat} {A:Around} (r:Room (k+1) A) (C:Addr) (us:List Value) (kw:List (Str×Value)):Room k (A.under (.builtin "type.__call__" ⟨.ref C::us,kw⟩)) :=
 ⟨r.hd,by have:=r.dp; rw [a5A]; omega,by have:=r.un; rw [a5H]; omega⟩
theorem Room.depth {k:Nat} {A:Around} (r:Room k A):A.depth<recursionLimit:=by have:=r.dp; omega
theorem Room.units {k:Nat} {A:Around} (r:Room k A):A.units+64<cLine:=by have:=r.un; omega
def G6:TA:=λ _ H Q=>Q [] H
def A3 (ta:TE) (tr:TA):TA:=λ σ H Q=>ta σ H λ x H1=>tr σ H1 λ xs H2=>Q (x::xs) H2
section
variable {X:Cx} {e:Expr} {es:List Expr} {te:TE} {t:TA} {pos:Pos}
theorem c7:PA X [] G6:=λ _ _ _ _ H Q I h=>Calls.spliced_nil ⟨[],H,I,.nil,h⟩
theorem c6 (ha:PE X e te) (hr:PA X es t) (hs:starEach (e::es) X.env=(false,eval e X.env)::starEach es X.env:=by rfl):PA X (e::es) (A3 te t):=by
 intro pos pins s σ H Q I h;rw [hs]
 show wpAny _ _ (spliced ((false,eval e X.env)::backTo pos (starEach es X.env))) _ _ s
 refine Calls.spliced_cons (y9 (ha pins s σ H _ I h) λ u s1 ⟨x,H1,I1,r1,q1⟩=>?_);exact y9 (hr pos pins s1 σ H1 _ I1 q1) λ us s2 ⟨xs,H2,I2,r2,q2⟩=>⟨x::xs,H2,I2,.cons r1 r2,q2⟩
def a2k (t:TA):TE:=λ σ H Q=>t σ H λ xs H1=>xs.length<=sizeLine/\∀ p,H1 p=none->Q (.ref p) (r9 H1 p (.tup xs))
def a7M (t:TA):TE:=λ σ H Q=>t σ H λ xs H1=>xs.length<=sizeLine/\∀ p,H1 p=none->Q (.ref p) (r9 H1 p (.lst xs))
theorem v9 {x1} (h:PA X es t):PE X (.Tuple es x1 pos) (a2k t):=by
 intro pins s σ H Q I hq;refine wpAny_Tuple_spliced (y9 (h pos pins s σ H _ I hq) λ us s1 ⟨xs,H1,I1,r,z,q⟩=>⟨by rw [<- r.length]; exact z,?_⟩);have hf:H1 s1.heap.objs.size=none:=I1.hok.fresh (aF _);refine ⟨.ref s1.heap.objs.size,r9 H1 s1.heap.objs.size (.tup xs),I1.laid (t':=s1.toks) (λ b u e=>Heap.get?_push_of_some _ e) (aF _) ?_,rfl,q _ hf⟩;exact ⟨z,us,r,⟨_,Heap.get?_push_size _ rfl,rfl,_,rfl⟩⟩
theorem x4 (h:PA X es t):PE X (.List es pos) (a7M t):=by
 intro pins s σ H Q I hq;refine wpAny_List_spliced (y9 (h pos pins s σ H _ I hq) λ us s1 ⟨xs,H1,I1,r,z,q⟩=>⟨by rw [<- r.length]; exact z,?_⟩);have hf:H1 s1.heap.objs.size=none:=I1.hok.fresh (aF _);refine ⟨.ref s1.heap.objs.size,r9 H1 s1.heap.objs.size (.lst xs),I1.laid (t':=s1.toks) (λ b u e=>Heap.get?_push_of_some _ e) (aF _) ?_,rfl,q _ hf⟩;exact ⟨z,us,0,r,Heap.get?_push_size _ rfl⟩
end
abbrev Sp:=List V->Hp->VK->XK->Prop
abbrev CXT:=List Env->Hp->Shared->XK->Value->Shared->Prop
structure Env0 (P:Program) (w:World) (K:W.Frag) (mg:Str->Option Value) (base:Heap) (A:Around) (outer:List Env) (s:Shared) (H:Hp):Prop where
 frames:A.frames=some outer
 mod:Mod K mg base
 bs:∀ b o,base.get? b=some o->s.heap.get? b=some o/\H b=none
 bsz:base.objs.size<=s.heap.objs.size
 funs:s.heap.FunFrames base outer
 frf:∀ b∈frs outer,H b=none
 hok:HOk P w H s.heap
 bare:AllBare s.gens
def CE (outer:List Env) (P:Program) (w:World) (H:Hp) (s:Shared) (Q:VK) (u:Value) (s':Shared):Prop :=
 ∃ v H',s'.os=s.os/\AllBare s'.gens/\Un (frs outer) [] H H' s.heap s'.heap/\HOk P w H' s'.heap/\RelV v u/\Q v H'
def CR (CX:CXT) (outer:List Env) (P:Program) (w:World) (H:Hp) (s:Shared) (Q:VK) (E:XK) (r:Result) (s':Shared):Prop :=
 match r with
 | .ok (.ret u)=>CE outer P w H s Q u s'
 | .ok _=>False
 | .error e=>CX outer H s E e s'
structure FnOk (P:Program) (w:World) (K:W.Frag) (mg:Str->Option Value) (base:Heap) (CX:CXT) (k:Nat) (f:Addr) (fd:FuncData) (ps:List Str) (sp:Sp):Prop where
 len:∀ vs H Q E,sp vs H Q E->vs.length=ps.length
 run:∀ (A:Around) (outer:List Env) (s:Shared) (H:Hp) (args:Args) (us:List Value) (vs:List V) (Q:VK) (E:XK),Room k A->Env0 P w K mg base A outer s H->BindsTo s fd args (ps.zip us)->Vals vs us->sp vs H Q E →
  codeAny (model P w) A (.call (.ref f) args) (CR CX outer P w H s Q E) s
theorem FnOk.imp {P:Program} {w:World} {K:W.Frag} {mg:Str->Option Value} {base:Heap} {CX:CXT} {k:Nat} {f:Addr} {fd:FuncData} {ps:List Str} {sp sp':Sp} (F:FnOk P w K mg base CX k f fd ps sp)
  (h:∀ vs H Q E,sp' vs H Q E->sp vs H Q E):FnOk P w K mg base CX k f fd ps sp' :=
 ⟨λ vs H Q E q=>F.len vs H Q E (h _ _ _ _ q),λ A outer s H args us vs Q E hr he hb hv hs=>F.run A outer s H args us vs Q E hr he hb hv (h _ _ _ _ hs)⟩
theorem Env0.make {P:Program} {w:World} {K:W.Frag} {mg:Str->Option Value} {base:Heap} {A:Around} {outer:List Env} {s:Shared} {H:Hp} (e:Env0 P w K mg base A outer s H) (C:Addr) (us:List Value) (kw:List (Str×Value)) :
  Env0 P w K mg base (A.under (.builtin "type.__call__" ⟨.ref C::us,kw⟩)) outer s H:=⟨by first | exact e.frames | (simpa [Around.under,Code.envs,Code.isFrame,pushEnvs] using e.frames),e.mod,e.bs,e.bsz,e.funs,e.frf,e.hok,e.bare⟩
section
variable {X:Cx} {pins:List (Addr×Obj)} {σ:St} {H:Hp} {s s':Shared}
theorem Inv.env0 (I:Inv X pins σ H s):Env0 X.prog X.w X.K X.mg X.base X.A X.stack s H :=
 ⟨I.ok.frames,I.ok.mod,I.bs,aK I.ok.bsz I.sz,I.stack,I.stkFree,I.hok,I.bare⟩
theorem Inv.after {Q:VK} {u:Value} (I:Inv X pins σ H s) (h:CE X.stack X.prog X.w H s Q u s'):EP X pins σ Q u s':=by
 obtain ⟨v,H',os,bare,un,hok,r,q⟩:=h;obtain ⟨hh,g,d,t,os'⟩:=s';obtain rfl:os'=s.os:=os;exact ⟨v,H',I.call (h':=hh) (g':=g) (d':=d) (t':=t) (ch:=[]) un hok bare (λ b z=>absurd z (by simp)),r,q⟩
end
def a7x (sp:Sp) (dvs:List V) (E:XK) (t:TA):TE:=λ σ H Q=>t σ H λ vs H1=>sp (vs++dvs) H1 Q E
def b3a (C:Addr) (m:Str) (sp:Sp) (dvs:List V) (E:XK) (ta:TE) (t:TA):TE:=λ σ H Q=>ta σ H λ x H1=>∃ a dx fs,x=.ref a/\H1 a=some (.ins C dx fs)/\fs.lookup m=none ∧
 t σ H1 λ vs H2=>sp (x::(vs++dvs)) H2 Q E
def b5b (C:Addr) (sp:Sp) (dvs:List V) (E:XK) (t:TA):TE:=λ σ H Q=>t σ H λ vs H1=>∀ x dx,H1 x=none->H1 dx=none->dx≠x →
 sp (.ref x::(vs++dvs)) (r9 (r9 H1 dx (.own x)) x (.ins C dx [])) (λ v H2=>v=.non/\Q (.ref x) H2) E
def Binds (K:W.Frag) (fd:FuncData) (ps:List Str) (ds:List Value):Prop :=
 ∀ (s:Shared) (us:List Value),K.In s.heap->(us++ds).length=ps.length->BindsTo s fd ⟨us,[]⟩ (ps.zip (us++ds))
theorem Binds.all {K:W.Frag} {fd:FuncData} {ps:List Str} (h:∀ us:List Value,us.length=ps.length->bindArgs fd ⟨us,[]⟩=pure (ps.zip us)):Binds K fd ps []:=λ s us _ hl=>by
 rw [dJ] at hl ⊢;exact .of_eq (h us hl)
def R5 (CX:CXT) (X:Cx) (E:XK):Prop:=∀ (pins:List (Addr×Obj)) (σ:St) (H:Hp) (s:Shared) (e:Value) (s':Shared),Inv X pins σ H s->CX X.stack H s E e s'->X.xe e s'
section
variable {X:Cx} {CX:CXT} {k:Nat} {f C:Addr} {fd:FuncData} {ps:List Str} {sp:Sp} {dvs:List V} {ds:List Value} {E:XK} {x m:Str} {p pos apos:Pos} {e o:Expr} {es:List Expr} {ta:TE} {t:TA}
theorem a4e {pins:List (Addr×Obj)} {σ:St} {H:Hp} {s:Shared} {Q:VK} {us:List Value} {vs:List V} (F:FnOk X.prog X.w X.K X.mg X.base CX k f fd ps sp) (hr:Room k X.A) (hb:Binds X.K fd ps ds) (hd:Vals dvs ds) (hx:R5 CX X E)
  (I:Inv X pins σ H s) (r:Vals vs us) (h:sp (vs++dvs) H Q E):wpAny (model X.prog X.w) X.A (call (.ref f) us) (EP X pins σ Q) X.xe s:=by
 have r2:Vals (vs++dvs) (us++ds):=r.append hd;have hl:(us++ds).length=ps.length:=by rw [<- r2.length]; exact F.len _ _ _ _ h
 refine wpAny_call (codeAny_mono (F.run X.A X.stack s H ⟨us,[]⟩ (us++ds) (vs++dvs) Q E hr I.env0 (hb s us I.kIn hl) r2 h) λ r s' hq=>?_)
 cases r with
 | error e=>exact hx pins σ H s e s' I hq
 | ok fl =>
  cases fl with
  | ret u=>exact I.after hq
  | next=>exact bN hq
  | brk=>exact bN hq
  | cont=>exact bN hq
theorem j4 (F:FnOk X.prog X.w X.K X.mg X.base CX k f fd ps sp) (hr:Room k X.A) (hg:Gl X x) (hm:X.mg x=some (.ref f)) (hk:W.keepIn X.K (.ref f)=true) (hb:Binds X.K fd ps ds) (hd:Vals dvs ds) (hx:R5 CX X E)
  (ha:PA X (e::es) t) (hdb:(x==("__debug__":Str))=false:=by decide) (he:starEach (e::es) X.env=(false,eval e X.env)::starEach es X.env:=by rfl) (hpl:(backTo pos (starEach es X.env)).any (·.1)=false:=by rfl) :
  PE X (.Call (.Name x p) (e::es) [] pos) (a7x sp dvs E t):=by
 intro pins s σ H Q I h;refine wpAny_Call_Name_kw (Z4 I hg hm ?_ hdb);refine W.callWith_K (h₀:=X.base) I.ok.mod.kin hk (y9 (ha pos pins s σ H _ I h) λ us s1 ⟨vs,H1,I1,r,q⟩=>⟨I1.kIn,?_⟩) he hpl;exact a4e F hr hb hd hx I1 r q
theorem a3O {pl:Sem Bool} (he:PE X o ta) (c:Cls X.K C) (hm:a7H X.K C m f) (F:FnOk X.prog X.w X.K X.mg X.base CX k f fd ps sp) (hr:Room k X.A) (hb:Binds X.K fd ps ds) (hd:Vals dvs ds) (hx:R5 CX X E) (ha:PA X (e::es) t)
  (hst:starEach (e::es) X.env=(false,eval e X.env)::starEach es X.env:=by rfl) (hpl:(backTo pos (starEach es X.env)).any (·.1)=false:=by rfl)
  (ht:eval (.Call (.Attribute o m apos) (e::es) [] pos) X.env=(do
   let ov <- eval o X.env
   standAt apos.atName
   let (f,first) <- holding [ov] (getMethod ov m pl)
   callWith pos f first (backTo pos (starEach (e::es) X.env)) (backToKw pos (keywordEach [] X.env))):=by rfl) :
  PE X (.Call (.Attribute o m apos) (e::es) [] pos) (b3a C m sp dvs E ta t):=by
 intro pins s σ H Q I h;refine W.methodCall_KW (pl:=pl) (y9 (he pins s σ H _ I h) λ u s1 ⟨x,H1,I1,rx,a,dx,fs,ex,ea,l,q⟩=>?_) ht;subst ex;obtain rfl:u=Value.ref a:=rx;refine a0v I1 ea c hm l ?_;refine W.callWith_K (first:=[.ref a]) (h₀:=X.base) I.ok.mod.kin hm.kp (y9 (ha pos pins s1 σ H1 _ I1 q) λ us s2 ⟨vs,H2,I2,r,q2⟩=>⟨I2.kIn,?_⟩) hst hpl;exact a4e (us:=.ref a::us) (vs:=.ref a::vs) F hr hb hd hx I2 (.cons rfl r) q2
theorem Y3 {pl:Sem Bool} (he:PE X o ta) (c:Cls X.K C) (hm:a7H X.K C m f) (F:FnOk X.prog X.w X.K X.mg X.base CX k f fd ps sp) (hr:Room k X.A) (hb:Binds X.K fd ps ds) (hd:Vals dvs ds) (hx:R5 CX X E)
  (ht:eval (.Call (.Attribute o m apos) [] [] pos) X.env=(do
   let ov <- eval o X.env
   standAt apos.atName
   let (f,first) <- holding [ov] (getMethod ov m pl)
   callWith pos f first (backTo pos (starEach [] X.env)) (backToKw pos (keywordEach [] X.env))):=by rfl) :
  PE X (.Call (.Attribute o m apos) [] [] pos) (b3a C m sp dvs E ta G6):=by
 intro pins s σ H Q I h;refine W.methodCall_KW (pl:=pl) (y9 (he pins s σ H _ I h) λ u s1 ⟨x,H1,I1,rx,a,dx,fs,ex,ea,l,q⟩=>?_) ht;subst ex;obtain rfl:u=Value.ref a:=rx;refine a0v I1 ea c hm l ?_;exact W.callWith_K0 (first:=[.ref a]) I1.kIn hm.kp (a4e (us:=[.ref a]) (vs:=[.ref a]) F hr hb hd hx I1 (.cons rfl .nil) q)
structure Mk (K:W.Frag) (C f:Addr):Prop where
 makes:W.makesIn K C=true
 init:W.findIn K (.ref C) "__init__"=some (some (.ref f))
 fn:W.isFn K (.ref f)=true
 kp:W.keepIn K (.ref C)=true
theorem a9V {pins:List (Addr×Obj)} {σ:St} {H:Hp} {s:Shared} {Q:VK} {us:List Value} {vs:List V} (M:Mk X.K C f) (F:FnOk X.prog X.w X.K X.mg X.base CX k f fd ps sp) (hr:Room (k+1) X.A) (hb:Binds X.K fd ps ds) (hd:Vals dvs ds)
  (hx:R5 CX X E) (I:Inv X pins σ H s) (r:Vals vs us)
  (h:∀ x dx,H x=none->H dx=none->dx≠x->sp (.ref x::(vs++dvs)) (r9 (r9 H dx (.own x)) x (.ins C dx [])) (λ v H2=>v=.non/\Q (.ref x) H2) E) :
  wpAny (model X.prog X.w) X.A (call (.ref C) us) (EP X pins σ Q) X.xe s:=by
 have hq:=h (s.heap.objs.size+1) s.heap.objs.size (I.hok.fresh (iU _)) (I.hok.fresh (aF _)) (bJ (eL _));have I2:=Inv.made (C:=C) I;have r2:Vals (V.ref (s.heap.objs.size+1)::(vs++dvs)) (Value.ref (s.heap.objs.size+1)::(us++ds)):=.cons rfl (r.append hd);have hl:(Value.ref (s.heap.objs.size+1)::us++ds).length=ps.length:=by
  have e:=r2.length;rw [F.len _ _ _ _ hq] at e;exact e.symm
 refine wpAny_call (b0u (f:=f) I.kIn M.makes M.init (beq_iff_eq.mp M.fn) (codeAny_mono (F.run _ X.stack _ _ ⟨Value.ref (s.heap.objs.size+1)::us,[]⟩ (Value.ref (s.heap.objs.size+1)::(us++ds)) _ _ E (hr.make C us [])
  (I2.env0.make C us []) (hb _ (Value.ref (s.heap.objs.size+1)::us) I2.kIn hl) r2 hq) λ r s' hq'=>?_))
 cases r with
 | error e=>exact hx pins σ _ _ e s' I2 hq'
 | ok fl =>
  cases fl with
  | ret u =>
   obtain ⟨v,H',I3,rv,ev,q3⟩:=I2.after hq';subst ev;exact ⟨rv,⟨V.ref (s.heap.objs.size+1),H',I3,rfl,q3⟩⟩
  | next=>exact bN hq'
  | brk=>exact bN hq'
  | cont=>exact bN hq'
theorem a6L (M:Mk X.K C f) (F:FnOk X.prog X.w X.K X.mg X.base CX k f fd ps sp) (hr:Room (k+1) X.A) (hg:Gl X x) (hm:X.mg x=some (.ref C)) (hb:Binds X.K fd ps ds) (hd:Vals dvs ds) (hx:R5 CX X E)
  (ha:PA X (e::es) t) (hdb:(x==("__debug__":Str))=false:=by decide) (he:starEach (e::es) X.env=(false,eval e X.env)::starEach es X.env:=by rfl) (hpl:(backTo pos (starEach es X.env)).any (·.1)=false:=by rfl) :
  PE X (.Call (.Name x p) (e::es) [] pos) (b5b C sp dvs E t):=by
 intro pins s σ H Q I h;refine wpAny_Call_Name_kw (Z4 I hg hm ?_ hdb);refine W.callWith_K (h₀:=X.base) I.ok.mod.kin M.kp (y9 (ha pos pins s σ H _ I h) λ us s1 ⟨vs,H1,I1,r,q⟩=>⟨I1.kIn,?_⟩) he hpl;exact a9V M F hr hb hd hx I1 r q
end
section
variable {X:Cx} {CX:CXT} {k:Nat} {f C:Addr} {fd:FuncData} {ps ks:List Str} {sp:Sp} {E:XK} {x m:Str} {p pos apos kpos:Pos} {e o:Expr} {es:List Expr} {kws:List Keyword} {te ta:TE} {t tk:TA} {nm:Option Str}
structure b6r (K:W.Frag) (fd:FuncData) (ps ks:List Str) (g:List Value->List Value->List Value) (gV:List V->List V->List V):Prop where
 to:∀ (s:Shared) (us ws:List Value),K.In s.heap->(g us ws).length=ps.length->BindsTo s fd ⟨us,ks.zip ws⟩ (ps.zip (g us ws))
 rel:∀ {vs:List V} {us:List Value} {zs:List V} {ws:List Value},Vals vs us->Vals zs ws->Vals (gV vs zs) (g us ws)
variable {g:List Value->List Value->List Value} {gV:List V->List V->List V}
end
structure i9 (N P:List Str) (sc:Scope):Prop where
 kind:sc.kind=.function
 co:sc.isCoroutine=false
 gen:sc.isGenerator=false
 nd:N.Nodup
 pre:N.take P.length=P
 par:∀ x∈P,sc.names.lookup x=some .local\/sc.names.lookup x=some .cell
 nofree:∀ y∈sc.names,y.2≠.free
theorem a3D {kindOf:Str->Option NameKind} {x:Str}:∀ {binds:List (Str×Value)} {m:Str->Option Value},(∀ v,(x,v) ∉ binds)->bindL kindOf binds m x=m x
 | [],_,_=>rfl
 | (n,v)::r,m,h=>by
  unfold bindL;rw [a3D λ w hw=>h w (aU _ hw)]
  split
  ·have:x≠n:=by rintro rfl; exact h v bB
   simp [this]
  ·rfl
theorem a3j {kindOf:Str->Option NameKind} {x:Str}:∀ {binds:List (Str×Value)} {m:Str->Option Value},(∀ v,(x,v) ∉ binds)->bindC kindOf binds m x=m x
 | [],_,_=>rfl
 | (n,v)::r,m,h=>by
  unfold bindC;rw [a3j λ w hw=>h w (aU _ hw)]
  split
  ·rfl
  ·have:x≠n:=by rintro rfl; exact h v bB
   simp [this]
theorem a3l {kindOf:Str->Option NameKind} {x:Str} {v:Value}:∀ {P:List Str} {vs:List Value} {i:Nat} {m:Str->Option Value},P.Nodup->P[i]?=some x->vs[i]?=some v->kindOf x=some .local →
  bindL kindOf (P.zip vs) m x=some v
 | [],_,_,_,_,h,_,_=>by simp at h
 | _::_,[],_,_,_,_,h,_=>by simp at h
 | p::P,w::vs,0,m,nd,h1,h2,hk=>by
  simp at h1 h2; subst h1; subst h2
  show bindL kindOf ((p,w)::P.zip vs) m p=_
  unfold bindL;rw [a3D λ v hv=>(gD.mp nd).1 (gE hv).1,if_pos hk];simp
 | p::P,w::vs,i+1,m,nd,h1,h2,hk=>by
  show bindL kindOf ((p,w)::P.zip vs) m x=_
  unfold bindL;exact a3l (i:=i) (gD.mp nd).2 (by simpa using h1) (by simpa using h2) hk
theorem a3G {kindOf:Str->Option NameKind} {x:Str} {v:Value}:∀ {P:List Str} {vs:List Value} {i:Nat} {m:Str->Option Value},P.Nodup->P[i]?=some x->vs[i]?=some v->kindOf x≠some .local →
  bindC kindOf (P.zip vs) m x=some v
 | [],_,_,_,_,h,_,_=>by simp at h
 | _::_,[],_,_,_,_,h,_=>by simp at h
 | p::P,w::vs,0,m,nd,h1,h2,hk=>by
  simp at h1 h2; subst h1; subst h2
  show bindC kindOf ((p,w)::P.zip vs) m p=_
  unfold bindC;rw [a3j λ v hv=>(gD.mp nd).1 (gE hv).1,if_neg hk];simp
 | p::P,w::vs,i+1,m,nd,h1,h2,hk=>by
  show bindC kindOf ((p,w)::P.zip vs) m x=_
  unfold bindC;exact a3G (i:=i) (gD.mp nd).2 (by simpa using h1) (by simpa using h2) hk
def N9 (N:List Str) (vs:List V):St:=vs.map some++aL (N.length - vs.length) none
def M3 (CX:CXT) (P:Program) (w:World) (K:W.Frag) (mg:Str->Option Value) (base:Heap) (N:List Str) (qual:Str) (scope:Scope) (f:Addr) (cd:Value) (A:Around) (outer:List Env) (s:Shared) (H:Hp) (E:XK):Cx where
 prog:=P
 w:=w
 K:=K
 mg:=mg
 base:=base
 A:=A.deeper (envOfC qual scope s.heap.objs.size f cd)
 N:=N
 s₀:=s
 H₀:=H
 env:=envOfC qual scope s.heap.objs.size f cd
 outer:=outer
 stack:=envOfC qual scope s.heap.objs.size f cd::outer
 ex:=[]
 calm:=true
 fn:=λ _=>true
 pn:=[]
 xe:=λ e s'=>wpAny (model P w) (A.deeper (envOfC qual scope s.heap.objs.size f cd)) (leaving (envOfC qual scope s.heap.objs.size f cd) e) (λ _ s''=>CX outer H s E e s'') (λ e' s''=>CX outer H s E e' s'') s'
theorem a5n {sc:Scope} {n:Nat} {x:Str} (h:sc.names.lookup x=some .cell):∃ c,(cellsFrom n sc.names []).lookup x=some c:=by
 have q:=W.cellsFrom_some sc.names n [] (.inl h);exact Option.isSome_iff_exists.mp q
theorem a3h {CX:CXT} {P:Program} {w:World} {K:W.Frag} {mg:Str->Option Value} {base:Heap} {N ps:List Str} {qual:Str} {scope:Scope} {f:Addr} {cd:Value} {A:Around} {outer:List Env} {s s1:Shared} {H:Hp} {E:XK} {us:List Value} {vs:List V}
  (S:i9 N ps scope) (hd:A.handled=none) (e0:Env0 P w K mg base A outer s H) (hl:vs.length=ps.length) (r:Vals vs us)
  (x:InCallC s s.heap.objs.size (bindL (envOfC qual scope s.heap.objs.size f cd).kindOf (ps.zip us) λ _=>none) (cellsFrom (s.heap.objs.size+1) scope.names []) (bindC (envOfC qual scope s.heap.objs.size f cd).kindOf (ps.zip us) λ _=>none) s1) :
  Inv (M3 CX P w K mg base N qual scope f cd A outer s H E) [] (N9 N vs) H s1:=by
 have hpl:ps.length<=N.length:=by have:=congrArg gF S.pre; rw [cI] at this; omega
 obtain ⟨h1,tk,rfl,hk⟩:=x.done;have noA:∀ b:Addr,b ∉ (M3 CX P w K mg base N qual scope f cd A outer s H E).ex:=λ b z=>absurd (show b∈([]:List Addr) from z) (by simp);refine ⟨⟨e0.mod,S.kind,rfl,rfl,aF _,λ y z c h1 h2=>?_,λ y hy=>?_,λ y c _ h=>?_,λ _=>hd,Around.frames_deeper e0.frames,.inr ⟨rfl,rfl⟩,λ b z=>absurd z (noA b),e0.bs,e0.bsz,λ b _ _=>noA b,λ b z=>absurd z (noA b),e0.funs,e0.frf⟩,
  rfl,e0.bare,Un.kept hk,⟨_,x.toInCall.ns,λ i y v h1 h2 h3=>?_⟩,λ y c h=>⟨_,x.cell y c h⟩,e0.hok.fresh (aF _),λ y c h=>?_,λ p hp=>absurd (show p∈([]:List (Addr×Obj)) from hp) (by simp),e0.hok.kept hk,?_⟩
 ·exact name_of_addr x.apart (fH h1) (fH h2)
 ·have hy:scope.names.lookup y=some .cell\/scope.names.lookup y=some .free:=hy
  rcases hy with hy | hy
  ·exact a5n hy
  ·exact absurd rfl (S.nofree _ (fH hy))
 ·exact dQ (x.above y c (fH h))
 ·have hi:i<vs.length:=by
   unfold N9 at h2
   by_cases hi:i<vs.length
   ·exact hi
   ·rw [cP (by simpa using hi)] at h2
    rw [dW] at h2
    split at h2 <;> cases h2
  have ha:vs[i]?=some v:=by
   unfold N9 at h2;rw [bV (by simpa using hi),aE] at h2
   cases e:vs[i]? with
   | none=>rw [e] at h2; cases h2
   | some a=>rw [e] at h2; cases h2; rfl
  obtain ⟨u,hu,rv⟩:=r.get ha;have hp:ps[i]?=some y:=by
   rw [<- S.pre,iV (by omega)]; exact h1
  have ndP:ps.Nodup:=by rw [<- S.pre]; exact S.nd.sublist (List.take_sublist _ _)
  refine ⟨u,rv,?_⟩;rcases S.par y (bE hp) with k | k
  ·exact .inl ⟨k,a3l ndP hp hu k⟩
  ·obtain ⟨c,e⟩:=a5n (n:=s.heap.objs.size+1) k
   refine .inr ⟨.inl k,c,e,?_⟩;have q:=x.cell y c e;rw [a3G ndP hp hu (by show scope.names.lookup y≠_; rw [k]; decide)] at q;exact q
 ·exact e0.hok.fresh (dQ (x.above y c (fH h)))
 ·unfold N9
  show _=N.length
  rw [aI,aA,bW];omega
theorem a9K {CX:CXT} {P:Program} {w:World} {K:W.Frag} {mg:Str->Option Value} {base:Heap} {k:Nat} {f:Addr} {name qual:Str} {params:Arguments} {body:List Stmt} {scope:Scope} {dV kV doc pm cdv ct oc:Value} {an od:Option Addr}
  {osl:Array (Option Value)} {N ps:List Str} {sp:Sp} (lk:K.lookup f=some ⟨oc,od,.func (W.fnOf name qual params body scope dV kV doc pm an cdv ct),osl⟩) (hcd:W.codeIn K cdv qual=true) (S:i9 N ps scope)
  (len:∀ vs H Q E,sp vs H Q E->vs.length=ps.length)
  (hbody:∀ (A:Around) (outer:List Env) (s:Shared) (H:Hp) (vs:List V) (Q:VK) (E:XK),Room k (A.deeper (envOfC qual scope s.heap.objs.size f cdv))->sp vs H Q E →
   ∃ t,PSs (M3 CX P w K mg base N qual scope f cdv A outer s H E) body t/\t { nx:=λ _ H'=>Q .non H',rt:=Q } (N9 N vs) H) :
  FnOk P w K mg base CX (k+1) f (W.fnOf name qual params body scope dV kV doc pm an cdv ct) ps sp:=by
 refine ⟨len,λ A outer s H args us vs Q E hr e0 hb r hsp=>?_⟩;have hl:=len _ _ _ _ hsp;have KX:K.In s.heap:=e0.mod.kin.keeps λ b o e=>(e0.bs b o e).1;have lim:s.heap.NoLimit:=e0.mod.nolimit.keeps λ b o e=>(e0.bs b o e).1;have hkind:∀ y∈ps.zip us,scope.names.lookup y.1=some .local\/(scope.names.lookup y.1=some .cell/\((cellsFrom (s.heap.objs.size+1) scope.names []).lookup y.1).isSome=true):=λ ⟨n,v⟩ hy=>by
  rcases S.par n (gE hy).1 with q | q
  ·exact .inl q
  ·exact .inr ⟨q,W.cellsFrom_some _ _ _ (.inl q)⟩
 refine codeAny_call_function hr.depth (KX _ _ lk) rfl S.co S.gen rfl (W.codeRec_of KX hcd) (hb _ _ _ _ ?_);refine wpAny_newFunctionEnv_cells S.kind hkind λ env he s1 x=>?_;subst he;refine ⟨lim.keeps x.toInCall.keep,codeAny_func ?_⟩;obtain ⟨t,ht,hq⟩:=hbody A outer s H vs Q E (hr.deeper _) hsp;have I:Inv (M3 CX P w K mg base N qual scope f cdv A outer s H E) [] (N9 N vs) H s1:=a3h S hr.hd e0 hl r x;refine wpAny_mono (ht [] s1 (N9 N vs) H _ I hq) (λ fl s' hs=>?_) λ e s' hs=>hs;have fin:∀ {σ':St} {H':Hp} {v:V} {u:Value},Inv (M3 CX P w K mg base N qual scope f cdv A outer s H E) [] σ' H' s'->RelV v u->Q v H'->CE outer P w H s Q u s' :=
  λ {σ' H' v u} J rv q=>⟨v,H',J.os,J.bare,J.base,J.hok,rv,q⟩
 cases fl with
 | ret u =>
  obtain ⟨v,σ',H',J,rv,q⟩:=hs;exact fin J rv q
 | next =>
  obtain ⟨σ',H',J,q⟩:=hs;exact fin (v:=V.non) (u:=Value.none) J rfl q
 | brk =>
  obtain ⟨_,_,_,q⟩:=hs;exact bN q
 | cont =>
  obtain ⟨_,_,_,q⟩:=hs;exact bN q
section
variable {X:Cx} {x:Str} {p pos:Pos} {e:Expr} {es:List Expr} {t:TA} {id T:String} {r:List V->Hp->VK->Prop}
def tCB (r:List V->Hp->VK->Prop) (t:TA):TE:=λ σ H Q=>t σ H λ vs H1=>r vs H1 Q
theorem i8 (hc:G9 X (.builtin id) r) (hg:Gl X x) (hm:X.mg x=none) (hv:bootBuiltins x=some (.builtin id)) (ha:PA X (e::es) t) (hn:x≠"__name__":=by decide) (hdb:(x==("__debug__":Str))=false:=by decide)
  (he:starEach (e::es) X.env=(false,eval e X.env)::starEach es X.env:=by rfl) (hpl:(backTo pos (starEach es X.env)).any (·.1)=false:=by rfl):PE X (.Call (.Name x p) (e::es) [] pos) (tCB r t):=by
 intro pins s σ H Q I h;refine wpAny_Call_Name_kw (a0B I hg hm hv ?_ hn hdb);exact lU (y9 (ha pos pins s σ H _ I h) λ us s1 ⟨vs,H1,I1,r1,q1⟩=>hc pins s1 σ H1 vs us Q I1 r1 q1) he hpl
theorem p8 (hc:G9 X (.type T) r) (hg:Gl X x) (hm:X.mg x=none) (hv:bootBuiltins x=some (.type T)) (ha:PA X (e::es) t) (hn:x≠"__name__":=by decide) (hdb:(x==("__debug__":Str))=false:=by decide)
  (he:starEach (e::es) X.env=(false,eval e X.env)::starEach es X.env:=by rfl) (hpl:(backTo pos (starEach es X.env)).any (·.1)=false:=by rfl):PE X (.Call (.Name x p) (e::es) [] pos) (tCB r t):=by
 intro pins s σ H Q I h;refine wpAny_Call_Name_kw (a0B I hg hm hv ?_ hn hdb);exact gC (y9 (ha pos pins s σ H _ I h) λ us s1 ⟨vs,H1,I1,r1,q1⟩=>hc pins s1 σ H1 vs us Q I1 r1 q1) he hpl
end
end L2
namespace HT
open PySem PyProof.Rows
section
open PySem.SeqAt
open PySem.AutoSeq1 (wpAny_loadPart')
open PySem.MeetsSeq PySem.MeetsSeq2 PySem.MeetsSeq3
end
section
variable {prog:Program} {w:World} {A:Around} {E:Value->Shared->Prop} {s:Shared}
def sIx (n d:Nat):Option Int->Nat
 | none=>d
 | some v=>if v<0 then (v+(n:Int)).toNat else min v.toNat n
theorem sIx_none (n d:Nat):sIx n d none=d:=rfl
theorem sIx_nat (n d k:Nat):sIx n d (some (k:Int))=min k n:=by
 show (if (k:Int)<0 then ((k:Int)+(n:Int)).toNat else min (k:Int).toNat n)=min k n
 rw [if_neg (by omega),bR]
end
end HT
namespace L2
open PySem PySem.Spec PyProof.Rows
abbrev TO:=St->Hp->(Option Int->Hp->Prop)->Prop
def PO (X:Cx) (e:Option Expr) (t:TO):Prop :=
 ∀ (pins:List (Addr×Obj)) (s:Shared) (σ:St) (H:Hp) (Q:Option Int->Hp->Prop),Inv X pins σ H s->t σ H Q →
  wpAny (model X.prog X.w) X.A (evalPart e X.env) (λ u s'=>∃ o H',Inv X pins σ H' s'/\IsPart u o/\Q o H') X.xe s
def b1h:TO:=λ _ H Q=>Q none H
def b5h (t:TE):TO:=λ σ H Q=>t σ H λ x H1=>∃ i,x=.int i/\Q (some i) H1
section
variable {X:Cx} {e:Expr} {te:TE} {lo hi:Option Expr} {tl th:TO} {pos p2:Pos}
theorem F0:PO X none b1h:=by
 intro pins s σ H Q I h;rw [evalPart_none];exact wpAny_pure ⟨none,H,I,.none,h⟩
theorem E8 (h:PE X e te):PO X (some e) (b5h te):=by
 intro pins s σ H Q I hw;rw [evalPart_some];refine y9 (h pins s σ H _ I hw) λ u s1 ⟨x,H1,I1,r1,q1⟩=>?_;obtain ⟨i,rfl,q⟩:=q1;obtain ⟨t,rfl⟩:=r1;exact ⟨some i,H1,I1,.int i t,q⟩
def SlR (X:Cx) (r:V->Option Int->Option Int->Hp->VK->Prop):Prop :=
 ∀ (pins:List (Addr×Obj)) (s:Shared) (σ:St) (H:Hp) (x:V) (v vl vu:Value) (lo hi:Option Int) (sl:Addr) (Q:VK),Inv X pins σ H s->RelV x v->s.heap.IsSliceOf sl vl vu .none->IsPart vl lo->IsPart vu hi->r x lo hi H Q →
  ∃ T id,typeLookup (.type T) "__getitem__"=pure (some (.builtin id))/\s.TypeIs v T/\wpAny (model X.prog X.w) X.A (getItem v (.ref sl)) (EP X pins σ Q) X.xe s
def tSl (r:V->Option Int->Option Int->Hp->VK->Prop) (te:TE) (tl th:TO):TE:=λ σ H Q=>te σ H λ x H1=>tl σ H1 λ l H2=>th σ H2 λ u H3=>r x l u H3 Q
theorem C6 {r:V->Option Int->Option Int->Hp->VK->Prop} (hr:SlR X r) (he:PE X e te) (hl:PO X lo tl) (hu:PO X hi th):PE X (.Subscript e (.Slice lo hi none p2) pos) (tSl r te tl th):=by
 intro pins s σ H Q I h;refine Subscript_ (y9 (he pins s σ H _ I h) λ v s1 ⟨x,H1,I1,r1,q1⟩=>?_);refine wpAny_Slice (y9 (hl pins s1 σ H1 _ I1 q1) λ vl s2 ⟨l,H2,I2,pl,q2⟩=>y9 (hu pins s2 σ H2 _ I2 q2) λ vu s3 ⟨u,H3,I3,pu,q3⟩=>?_);rw [evalPart_none];refine wpAny_pure ?_;have I4:Inv X pins σ H3 { s3 with heap:=s3.heap.push { cls:=.type "slice",data:=.fields #[vl,vu,.none] } }:=I3.kept (t':=s3.toks) λ b ob q=>Heap.get?_push_of_some _ q;obtain ⟨T,id,hT,ht,hg⟩:=hr pins { s3 with heap:=s3.heap.push { cls:=.type "slice",data:=.fields #[vl,vu,.none] } } σ H3 x v vl vu l u s3.heap.objs.size Q I4 r1 (Heap.IsSliceOf.new ..) pl pu q3
 show wpAny (model X.prog X.w) X.A (subscriptTail e (.Slice lo hi none p2) v (.ref s3.heap.objs.size)) (EP X pins σ Q) X.xe { s3 with heap:=s3.heap.push { cls:=.type "slice",data:=.fields #[vl,vu,.none] } }
 exact tail_any (ops:=[.ref s3.heap.objs.size,v]) ht hT hg (by with_unfolding_all rfl)
def U2 (xs:List V) (lo hi:Option Int):List V:=(xs.drop (HT.sIx xs.length 0 lo)).take (HT.sIx xs.length xs.length hi - HT.sIx xs.length 0 lo)
theorem a4P (xs:List V) (lo hi:Option Int):(U2 xs lo hi).length<=xs.length:=by
 unfold U2;rw [cI,dL];omega
end
def ixN (n:Nat) (i:Int):Option Nat:=if 0<=i then (if i<n then some i.toNat else none) else if -(n:Int)<=i then some (i+n).toNat else none
def atI {α:Type} (xs:List α) (i:Int):Option α:=(ixN xs.length i).bind λ j=>xs[j]?
theorem a6z {n:Nat} {i:Int} {j:Nat} (h:ixN n i=some j):seqIndex? i n=some j/\j<n/\-(n:Int)<=i/\i<n:=by
 unfold ixN at h
 by_cases h0:0<=i
 ·rw [if_pos h0] at h
  by_cases h1:i<n
  ·rw [if_pos h1] at h
   have e:i.toNat=j:=aJ h;exact ⟨by rw [seqIndex_of h0 h1,e],by omega,by omega,h1⟩
  ·rw [if_neg h1] at h; cases h
 ·rw [if_neg h0] at h
  by_cases h1:-(n:Int)<=i
  ·rw [if_pos h1] at h
   have e:(i+n).toNat=j:=aJ h;exact ⟨by rw [seqIndex_neg (by omega) h1,e],by omega,h1,by omega⟩
  ·rw [if_neg h1] at h; cases h
theorem a4C {α:Type} {xs:List α} {i:Int} {v:α} (h:atI xs i=some v):∃ j,seqIndex? i xs.length=some j/\xs[j]?=some v/\j<xs.length/\-(xs.length:Int)<=i/\i<xs.length:=by
 unfold atI at h
 cases e:ixN xs.length i with
 | none=>rw [e] at h; cases h
 | some j =>
  rw [e] at h;obtain ⟨h1,h2,h3,h4⟩:=a6z e;exact ⟨j,h1,h,h2,h3,h4⟩
theorem y8 {α:Type} {xs:List α} {j:Nat} {v:α} (h:xs[j]?=some v):atI xs (j:Int)=some v:=by
 have hj:j<xs.length:=(bQ.mp h).1;have e:ixN xs.length (j:Int)=some j:=by
  unfold ixN;rw [if_pos (by omega),if_pos (by omega)]; simp
 unfold atI; rw [e]; exact h
theorem a9f {α:Type} (xs:List α) (v:α):atI (xs++[v]) (-1)=some v:=by
 have hl:(xs++[v]).length=xs.length+1:=by simp
 have e:ixN (xs++[v]).length (-1)=some xs.length:=by
  unfold ixN;rw [hl,if_neg (by decide),if_pos (by omega)]
  congr 1
  omega
 unfold atI;rw [e]
 show (xs++[v])[xs.length]?=some v
 simp
def b1o (b:Expr):Prop:=∀ o i,subscripted b false o i=operate [o,i] (getItem o i)
def IxR (X:Cx) (r:R2):Prop :=
 ∀ (value slice:Expr) (pins:List (Addr×Obj)) (s:Shared) (σ:St) (H:Hp) (x y:V) (v u:Value) (Q:VK),Inv X pins σ H s->RelV x v->RelV y u->r x y H Q →
  subscripted slice false v u=operate [v,u] (getItem v u)->wpAny (model X.prog X.w) X.A (subscriptTail value slice v u) (EP X pins σ Q) X.xe s
def MtR (X:Cx) (id:String) (r:V->List V->Hp->VK->Prop):Prop :=
 ∀ (pins:List (Addr×Obj)) (s:Shared) (σ:St) (H:Hp) (x:V) (xs:List V) (v:Value) (us:List Value) (Q:VK),Inv X pins σ H s->RelV x v->Vals xs us->r x xs H Q →
  wpAny (model X.prog X.w) X.A (call (.builtin id) (v::us)) (EP X pins σ Q) X.xe s
section
variable {X:Cx} {a b:Expr} {ta tb:TE} {pos:Pos}
theorem p6 {r:R2} (hr:IxR X r) (ha:PE X a ta) (hb:PE X b tb) (hs:b1o b):PE X (.Subscript a b pos) (tOp r ta tb):=by
 intro pins s σ H Q I h;exact Subscript_ (b4y ha hb I h λ v u s2 x y H2 I2 rx ry q=>hr a b pins s2 σ H2 x y v u Q I2 rx ry q (hs _ _))
def b5p (K:W.Frag):R2:=λ x y H Q=>∃ p xs i v,x=.ref p/\y=.int i/\SqL K H p xs/\atI xs i=some v/\Q v H
def b5k (K:W.Frag):R2:=λ x y H Q=>∃ p xs i v,x=.ref p/\y=.int i/\SqT K H p xs/\atI xs i=some v/\Q v H
def b7f:R2:=λ x y H Q=>∃ z i c,x=.str z/\y=.int i/\z.length<=sizeLine/\atI z.cps.toList i=some c/\Q (.str ⟨#[c]⟩) H
theorem m6:IxR X (b5p X.K):=by
 intro value slice pins s σ H x y v u Q I rx ry h hs;obtain ⟨p,xs,i,z,rfl,rfl,hq,he,q⟩:=h
 cases rx;obtain ⟨t,rfl⟩:=ry;obtain ⟨its,r,pl,hz⟩:=I.list hq;obtain ⟨j,h1,h2,h3,h4,h5⟩:=a4C he;obtain ⟨w,ew,rw'⟩:=r.get h2;have hl:=r.length;have hn:=a0A;have fin:EP X pins σ Q w s:=⟨z,H,I,rw',q⟩
 by_cases h0:0<=i
 ·have hj:i.toNat=j:=by
   rw [seqIndex_of h0 h5] at h1;exact aJ h1
  exact item_listR pl.isList h0 (by omega) (by rw [hj]; simpa using ew) fin hs
 ·have hj:(i+(its.toArray.size:Int)).toNat=j:=by
   rw [seqIndex_neg (by omega) h4] at h1;rw [bC,<- hl];exact aJ h1
  exact subscriptTail_builtinR (x:=w) pl.isList.typeIs slot_list_getitem.lookup
   (wpAny_getItem_list_neg (Q:=λ r s'=>r=w/\EP X pins σ Q r s') pl.isList (by omega) (by rw [bC] <;> omega) (by omega) (by rw [hj]; simpa using ew) ⟨rfl,fin⟩) hs
theorem V3:IxR X (b5k X.K):=by
 intro value slice pins s σ H x y v u Q I rx ry h hs;obtain ⟨p,xs,i,z,rfl,rfl,hq,he,q⟩:=h
 cases rx;obtain ⟨t,rfl⟩:=ry;obtain ⟨its,r,pl,hz⟩:=I.tuple hq;obtain ⟨j,h1,h2,h3,h4,h5⟩:=a4C he;obtain ⟨w,ew,rw'⟩:=r.get h2;have hl:=r.length;have hn:=a0A;have fin:EP X pins σ Q w s:=⟨z,H,I,rw',q⟩;exact subscriptTail_builtinR (x:=w) pl.typeIs slot_tuple_getitem.lookup
  (getItem_tuple (j:=j) (Q:=λ r s'=>r=w/\EP X pins σ Q r s') pl (by omega) (by omega) (by rw [bC,<- hl]; exact h1) (by simpa using ew) ⟨rfl,fin⟩) hs
theorem b4z:IxR X b7f:=by
 intro value slice pins s σ H x y v u Q I rx ry h hs;obtain ⟨z,i,c,rfl,rfl,hz,he,q⟩:=h;obtain ⟨t,rfl⟩:=rx;obtain ⟨t',rfl⟩:=ry;obtain ⟨j,h1,h2,h3,h4,h5⟩:=a4C he;have hl:z.cps.toList.length=z.length:=by simp [Str.length]
 rw [hl] at h1 h4 h5;have hn:=a0A;exact tail_any (typeIs_str s z t) slot_str_getitem.lookup (getItem_str (c:=c) (by
  have e1:decide (i < -(2 ^ 63:Int))=false:=decide_eq_false (by omega);have e2:decide (i ≥ 2 ^ 63)=false:=decide_eq_false (by omega);rw [e1,e2,hW]) (by rw [h1]; simpa using h2) ⟨.str ⟨#[c]⟩,H,I.tok _,⟨_,rfl⟩,q⟩) hs
theorem a6q (its:List Value) (n j:Nat) (u:Value):Obj.mapSeq (·.setIfInBounds j u) { cls:=.type "list",data:=.seq its.toArray n }={ cls:=.type "list",data:=.seq (its.set j u).toArray n }:=by
 simp [Obj.mapSeq]
theorem Inv.lst {pins:List (Addr×Obj)} {σ:St} {H:Hp} {s:Shared} {p:Addr} {xs:List V} (I:Inv X pins σ H s) (h:H p=some (.lst xs)) :
  ∃ (its:List Value) (n:Nat),Vals xs its/\s.heap.get? p=some { cls:=.type "list",data:=.seq its.toArray n }/\xs.length<=sizeLine:=by
 obtain ⟨z,its,n,r,e⟩:=I.hok p _ h;exact ⟨its,n,r,e,z⟩
theorem Inv.lstUpd {pins:List (Addr×Obj)} {σ:St} {H:Hp} {s:Shared} {p:Addr} {xs ys:List V} {its its':List Value} {n n':Nat} {f:Obj->Obj} (I:Inv X pins σ H s) (h:H p=some (.lst xs))
  (ho:s.heap.get? p=some { cls:=.type "list",data:=.seq its.toArray n }) (hf:f { cls:=.type "list",data:=.seq its.toArray n }={ cls:=.type "list",data:=.seq its'.toArray n' }) (r:Vals ys its') (hz:ys.length<=sizeLine) (t:Nat) :
  Inv X pins σ (r9 H p (.lst ys)) { s with heap:=s.heap.update p f,toks:=t }:=by
 have e:(s.heap.update p f).get? p=some { cls:=.type "list",data:=.seq its'.toArray n' }:=by
  rw [Heap.get?_update_self f ho (by rw [hf] <;> rfl),hf]
 refine I.write (x:=p) (e:=p) (by rw [h]; trivial) (.inl rfl) (λ b u hb q=>(Heap.get?_update_other _ _ (aS hb)).trans q) ⟨_,e⟩ ?_;exact ⟨hz,its',n',r,e⟩
def b5O:V->V->V->Hp->(Hp->Prop)->Prop:=λ o i v H Q=>∃ p xs k j,o=.ref p/\i=.int k/\H p=some (.lst xs)/\ixN xs.length k=some j/\Q (r9 H p (.lst (xs.set j v)))
theorem T0:b5q X b5O:=by
 intro pins s σ H o i v ov iv u Q I ro ri rv h;obtain ⟨p,xs,k,j,rfl,rfl,hp,hj,q⟩:=h
 cases ro;obtain ⟨t,rfl⟩:=ri;obtain ⟨its,n,r,ho,hz⟩:=I.lst hp;obtain ⟨h1,h2,h3,h4⟩:=a6z hj;have hl:=r.length;have hn:=a0A;have I':Inv X pins σ (r9 H p (.lst (xs.set j v))) { s with heap:=s.heap.update p (Obj.mapSeq (·.setIfInBounds j u)) } :=
  I.lstUpd hp ho (a6q its n j u) (r.set rv j) (by rw [cC]; exact hz) s.toks
 by_cases h0:0<=k
 ·have hk:k.toNat=j:=by
   rw [seqIndex_of h0 h4] at h1;exact aJ h1
  exact W.ki_setAt ho h0 (by omega) (by rw [bC,<- hl]; exact h4) (by rw [hk]; exact ⟨_,I',q⟩)
 ·have hk:(k+(its.toArray.size:Int)).toNat=j:=by
   rw [seqIndex_neg (by omega) h3] at h1;rw [bC,<- hl];exact aJ h1
  exact W.ki_setBack ho (by omega) (by rw [bC,<- hl]; exact h3) (by omega) (by rw [hk]; exact ⟨_,I',q⟩)
theorem a3S (lo hi:Option Int) (n:Nat):(sliceBounds lo hi none n).1=((HT.sIx n 0 lo:Nat):Int)/\(sliceBounds lo hi none n).2.1=((HT.sIx n n hi:Nat):Int)/\(sliceBounds lo hi none n).2.2=1:=by
 refine ⟨?_,?_,rfl⟩
 ·cases lo with
  | none=>simp [sliceBounds,HT.sIx]
  | some i =>
   simp only [sliceBounds,HT.sIx,iW,show (1:Int)>0 by decide,if_true]
   by_cases h:i<0
   ·simp only [h,if_true] <;> omega
   ·simp only [h,if_false] <;> omega
 ·cases hi with
  | none=>simp [sliceBounds,HT.sIx]
  | some i =>
   simp only [sliceBounds,HT.sIx,iW,show (1:Int)>0 by decide,if_true]
   by_cases h:i<0
   ·simp only [h,if_true] <;> omega
   ·simp only [h,if_false] <;> omega
theorem a2Y (its:List Value) (lo hi:Option Int):slicePick its.toArray lo hi none=((its.drop (HT.sIx its.length 0 lo)).take (HT.sIx its.length its.length hi - HT.sIx its.length 0 lo)).toArray:=by
 obtain ⟨h1,h2,h3⟩:=a3S lo hi its.toArray.size;unfold slicePick;rw [h1,h2,h3];simp only [sliceRange_one,pick_run,bC] <;> rfl
def b6Z (K:W.Frag):V->Option Int->Option Int->Hp->VK->Prop:=λ x lo hi H Q=>∃ a xs,x=.ref a/\SqL K H a xs/\∀ p,H p=none->Q (.ref p) (r9 H p (.lst (U2 xs lo hi)))
theorem G1:SlR X (b6Z X.K):=by
 intro pins s σ H x v vl vu lo hi sl Q I rx hs pl pu h;obtain ⟨a,xs,rfl,hx,q⟩:=h
 cases rx;obtain ⟨its,r,ht,hz⟩:=I.list hx;have hlen:=r.length;refine ⟨"list",_,slot_list_getitem.lookup,ht.isList.typeIs,?_⟩;refine wpAny_getItem_list_slice ht.isList hs pl pu .none (by simp) ?_ (by rw [bC] <;> omega);rw [a2Y,<- hlen];refine ⟨.ref s.heap.objs.size,_,I.laid (t':=s.toks) (o:=.lst (U2 xs lo hi)) (λ b ob q=>Heap.get?_push_of_some _ q) (aF _) ?_,rfl,q _ (I.hok.fresh (aF _))⟩;exact ⟨Nat.le_trans (a4P xs lo hi) hz,_,0,(r.drop (HT.sIx xs.length 0 lo)).take (HT.sIx xs.length xs.length hi - HT.sIx xs.length 0 lo),Heap.get?_push_size _ rfl⟩
def a0P:V->Bool
 | .non=>true
 | .bl _=>true
 | .int _=>true
 | .str _=>true
 | _=>false
def eqV:V->V->Bool
 | .non,.non=>true
 | .bl a,.bl b=>a==b
 | .bl a,.int b=>(if a then 1 else 0)==b
 | .int a,.bl b=>a==(if b then 1 else 0)
 | .int a,.int b=>a==b
 | .str a,.str b=>a==b
 | _,_=>false
theorem b4o {A:Around} {s:Shared} {y x:V} {u v:Value} (ry:RelV y u) (rx:RelV x v) (fy:a0P y=true) (fx:a0P x=true):SeqAt.EqAt A s u v (eqV y x):=by
 cases y with
 | non =>
  cases ry
  cases x with
  | non=>cases rx; exact SeqAt.EqAt.same _
  | bl b=>cases rx; exact SeqAt.EqAt.none_bool b
  | int b=>obtain ⟨t,rfl⟩:=rx; exact SeqAt.EqAt.none_int b t
  | str b=>obtain ⟨t,rfl⟩:=rx; exact SeqAt.EqAt.none_str b t
  | _=>exact absurd (show false=true from fx) bI
 | bl a =>
  cases ry
  cases x with
  | non=>cases rx; exact SeqAt.EqAt.bool_none a
  | bl b=>cases rx; exact SeqAt.EqAt.bool_bool a b
  | int b=>obtain ⟨t,rfl⟩:=rx; exact SeqAt.EqAt.bool_int a b t
  | str b=>obtain ⟨t,rfl⟩:=rx; exact SeqAt.EqAt.bool_str a b t
  | _=>exact absurd (show false=true from fx) bI
 | int a =>
  obtain ⟨t',rfl⟩:=ry
  cases x with
  | non=>cases rx; exact SeqAt.EqAt.int_none a t'
  | bl b=>cases rx; exact SeqAt.EqAt.int_bool a t' b
  | int b=>obtain ⟨t,rfl⟩:=rx; exact SeqAt.EqAt.int_int a t' b t
  | str b=>obtain ⟨t,rfl⟩:=rx; exact SeqAt.EqAt.int_str a t' b t
  | _=>exact absurd (show false=true from fx) bI
 | str a =>
  obtain ⟨t',rfl⟩:=ry
  cases x with
  | non=>cases rx; exact SeqAt.EqAt.str_none a t'
  | bl b=>cases rx; exact SeqAt.EqAt.str_bool a t' b
  | int b=>obtain ⟨t,rfl⟩:=rx; exact SeqAt.EqAt.str_int a t' b t
  | str b=>obtain ⟨t,rfl⟩:=rx; exact SeqAt.EqAt.str_str a t' b t
  | _=>exact absurd (show false=true from fx) bI
 | _=>exact absurd (show false=true from fy) bI
def eqU (x:V) (u:Value):Bool:=match u with
 | .none=>eqV .non x
 | .bool b=>eqV (.bl b) x
 | .int i _=>eqV (.int i) x
 | .str z _=>eqV (.str z) x
 | _=>false
theorem a9r {x y:V} {u:Value} (r:RelV y u) (f:a0P y=true):eqU x u=eqV y x:=by
 cases y with
 | non=>cases r; rfl
 | bl b=>cases r; rfl
 | int i=>obtain ⟨t,rfl⟩:=r; rfl
 | str z=>obtain ⟨t,rfl⟩:=r; rfl
 | _=>exact absurd (show false=true from f) bI
theorem a4E {x:V}:∀ {xs:List V} {us:List Value},Vals xs us->xs.all a0P=true->us.any (eqU x)=xs.any λ y=>eqV y x
 | _,_,.nil,_=>rfl
 | y::xs,u::us,.cons r t,f=>by
  rw [iX,cY] at f;rw [eX,eX,a9r r f.1,a4E t f.2]
theorem a2y {A:Around} {s:Shared} {x:V} {v:Value} (rx:RelV x v) (fx:a0P x=true):∀ {xs:List V} {us:List Value},Vals xs us->xs.all a0P=true->∀ u∈us,SeqAt.EqAt A s u v (eqU x u)
 | _,_,.nil,_=>λ u hu=>by cases hu
 | y::xs,u::us,.cons r t,f=>λ u' hu=>by
  rw [iX,cY] at f;rcases aO.mp hu with rfl | hu
  ·rw [a9r r f.1]; exact b4o r rx f.1 fx
  ·exact a2y rx fx t f.2 u' hu
def inV (x:V) (xs:List V):Bool:=xs.any λ y=>eqV y x
def rIn (K:W.Frag) (neg:Bool):R2:=λ x y H Q=>∃ p xs,y=.ref p/\(SqL K H p xs\/SqT K H p xs)/\a0P x=true/\xs.all a0P=true/\Q (.bl (if neg then !inV x xs else inV x xs)) H
theorem a3a:W5 X (compareOp .In) (rIn X.K false):=by
 intro pins s σ H x y v u Q I rx ry h;obtain ⟨p,xs,rfl,hq,fx,fs,q⟩:=h
 cases ry;rcases hq with hq | hq
 ·obtain ⟨its,r,pl,hz⟩:=I.list hq
  refine SeqAt.in_listAt (eqU x) pl.isList (λ w hw=>a2y rx fx r fs w (by simpa using hw)) ⟨.bl _,H,I,rfl,?_⟩;rw [show its.toArray.any (eqU x)=its.any (eqU x) by simp,a4E r fs];exact q
 ·obtain ⟨its,r,pl,hz⟩:=I.tuple hq
  refine SeqAt.in_tupleAt (eqU x) pl (λ w hw=>a2y rx fx r fs w (by simpa using hw)) ⟨.bl _,H,I,rfl,?_⟩;rw [show its.toArray.any (eqU x)=its.any (eqU x) by simp,a4E r fs];exact q
theorem i7:G9 X (.builtin "len") (λ xs H Q=>∃ p ys,xs=[.ref p]/\(SqL X.K H p ys\/SqT X.K H p ys)/\Q (.int ys.length) H):=by
 intro pins s σ H xs us Q I r h;obtain ⟨p,ys,rfl,hq,q⟩:=h;obtain ⟨u,rfl,rx⟩:=Q8 r
 cases rx;have hn:=a0A;rcases hq with hq | hq
 ·obtain ⟨its,r',pl,hz⟩:=I.list hq
  have hlen:=r'.length;exact Calls.call_len_list pl.isList (by simp only [bC] <;> omega) ⟨.int ys.length,H,I.tok _,⟨s.toks+1,by rw [bC,hlen]⟩,q⟩
 ·obtain ⟨its,r',pl,hz⟩:=I.tuple hq
  have hlen:=r'.length;exact len_tuple pl (by simp only [bC] <;> omega) ⟨.int ys.length,H,I.tok _,⟨s.toks+1,by rw [bC,hlen]⟩,q⟩
theorem a4n:G9 X (.builtin "len") (λ xs H Q=>∃ z,xs=[.str z]/\z.length<=sizeLine/\Q (.int z.length) H):=by
 intro pins s σ H xs us Q I r h;obtain ⟨z,rfl,hz,q⟩:=h;obtain ⟨u,rfl,t,rfl⟩:=Q8 r;have hn:=a0A;exact len_str (by omega) ⟨.int z.length,H,I.tok _,⟨_,rfl⟩,q⟩
theorem J6:G9 X (.type "list") (λ xs H Q=>∃ p ys,xs=[.ref p]/\(SqL X.K H p ys\/SqT X.K H p ys)/\∀ l,H l=none->Q (.ref l) (r9 H l (.lst ys))):=by
 intro pins s σ H xs us Q I r h;obtain ⟨p,ys,rfl,hq,q⟩:=h;obtain ⟨u,rfl,rx⟩:=Q8 r
 cases rx;have fin:∀ (its:List Value),Vals ys its->ys.length<=sizeLine->∀ (h':Heap) (c':Nat),(∀ b o',s.heap.get? b=some o'->h'.get? b=some o') →
   h'.get? s.heap.objs.size=some { cls:=.type "list",dict:=none,data:=.seq its.toArray c',slots:=#[] }->EP X pins σ Q (.ref s.heap.objs.size) { s with heap:=h' }:=λ its r' hz h' c' kp e =>
  ⟨.ref s.heap.objs.size,_,I.laid (t':=s.toks) kp (aF _) (show ObjOk X.prog X.w _ h' _ (.lst ys) from ⟨hz,its,c',r',e⟩),rfl,q _ (I.hok.fresh (aF _))⟩
 rcases hq with hq | hq
 ·obtain ⟨its,r',pl,hz⟩:=I.list hq
  have hlen:=r'.length;obtain ⟨o,ho,hc,n,hd⟩:=pl.isList;exact call_list_seq p (.inl rfl) ho hc hd (λ h' c' kp e=>fin its r' hz h' c' kp e) (by simp only [bC] <;> omega)
 ·obtain ⟨its,r',pl,hz⟩:=I.tuple hq
  have hlen:=r'.length;obtain ⟨o,ho,hc,n,hd⟩:=pl;exact call_list_seq p (.inr rfl) ho hc hd (λ h' c' kp e=>fin its r' hz h' c' kp e) (by simp only [bC] <;> omega)
theorem a0m:G9 X (.type "tuple") (λ xs H Q=>∃ p ys,xs=[.ref p]/\((SqL X.K H p ys/\∀ l,H l=none->Q (.ref l) (r9 H l (.tup ys)))\/(SqT X.K H p ys/\Q (.ref p) H))):=by
 intro pins s σ H xs us Q I r h;obtain ⟨p,ys,rfl,h⟩:=h;obtain ⟨u,rfl,rx⟩:=Q8 r
 cases rx;rcases h with ⟨hq,q⟩ | ⟨hq,q⟩
 ·obtain ⟨its,r',pl,hz⟩:=I.list hq
  have hlen:=r'.length;refine call_tuple_list pl.isList (λ h' kp=>?_) (by simp only [bC] <;> omega);have I1:Inv X pins σ H { s with heap:=h' }:=I.kept (t':=s.toks) kp;have I2:Inv X pins σ (r9 H h'.objs.size (.tup ys)) { s with heap:=h'.push { cls:=.type "tuple",data:=.seq its.toArray } } :=
   I1.laid (t':=s.toks) (λ b o e=>Heap.get?_push_of_some _ e) (aF _) (show ObjOk X.prog X.w _ _ _ (.tup ys) from ⟨hz,its,r',IsTup.new _ _⟩)
  exact ⟨.ref h'.objs.size,_,I2,rfl,q _ (I1.hok.fresh (aF _))⟩
 ·obtain ⟨its,r',pl,hz⟩:=I.tuple hq
  exact call_tuple_same pl ⟨.ref p,H,I,rfl,q⟩
def tyV (K:W.Frag) (T:String) (x:V) (H:Hp):Prop:=match x with
 | .str _=>T="str"
 | .int _=>T="int"
 | .ref p=>(T="list"/\∃ xs,SqL K H p xs)\/(T="tuple"/\∃ o,K.lookup p=some o/\o.cls=.type "tuple"/\o.dict=none) ∨
   (T="dict"/\((∃ kvs,H p=some (.dK kvs))\/∃ kvs,H p=some (.dT kvs)))\/(T="set"/\∃ S n,H p=some (.set S n))
 | _=>False
theorem b0z {pins:List (Addr×Obj)} {σ:St} {H:Hp} {s:Shared} {T:String} {x:V} {v:Value} (I:Inv X pins σ H s) (r:RelV x v) (ty:tyV X.K T x H) :
  s.TypeIs v T/\∀ a,v=.ref a->∃ ob,s.heap.get? a=some ob/\ob.dict=none:=by
 cases x with
 | str z =>
  obtain ⟨t,rfl⟩:=r
  cases (show T="str" from ty);exact ⟨typeIs_str s z t,λ _ e=>nomatch e⟩
 | int i =>
  obtain ⟨t,rfl⟩:=r
  cases (show T="int" from ty);exact ⟨typeIs_int s i t,λ _ e=>nomatch e⟩
 | ref p =>
  cases r;rcases ty with ⟨rfl,xs,hq⟩ | ⟨rfl,o,hk,hc,hd⟩ | ⟨rfl,hk⟩ | ⟨rfl,S,n,hk⟩
  ·obtain ⟨its,_,pl,_⟩:=I.list hq
   refine ⟨pl.isList.typeIs,λ a e=>?_⟩
   cases e;obtain ⟨o,n,e,c,hd,_⟩:=pl;exact ⟨o,e,hd⟩
  ·refine ⟨⟨o,I.kIn p o hk,hc⟩,λ a e=>?_⟩
   cases e;exact ⟨o,I.kIn _ o hk,hd⟩
  ·have z:∃ o,s.heap.get? p=some o/\o.ExactDict:=by
    rcases hk with ⟨kvs,hk⟩ | ⟨kvs,hk⟩
    ·obtain ⟨_,_,_,_,o,_,_,e,ex,_⟩:=I.hok p _ hk
     exact ⟨o,e,ex⟩
    ·obtain ⟨_,_,_,_,o,_,_,e,ex,_⟩:=I.hok p _ hk
     exact ⟨o,e,ex⟩
   obtain ⟨o,e,ex⟩:=z;refine ⟨⟨o,e,ex.1⟩,λ a e2=>?_⟩
   cases e2;exact ⟨o,e,ex.2.1⟩
  ·obtain ⟨o,_,_,_,e,ex,_⟩:=I.hok p _ hk
   refine ⟨⟨o,e,ex.1⟩,λ a e2=>?_⟩
   cases e2;exact ⟨o,e,ex.2.1⟩
 | _=>exact bN ty
def b6O (K:W.Frag) (T:String) (r:V->List V->Hp->VK->Prop) (to:TE):TE:=λ σ H Q=>to σ H λ x H1=>tyV K T x H1/\r x [] H1 Q
def tBM (K:W.Frag) (T:String) (r:V->List V->Hp->VK->Prop) (to:TE) (t:TA):TE:=λ σ H Q=>to σ H λ x H1=>tyV K T x H1/\t σ H1 λ xs H2=>r x xs H2 Q
variable {o e:Expr} {es:List Expr} {to:TE} {t:TA} {name:Str} {apos cpos:Pos} {T id:String} {r:V->List V->Hp->VK->Prop}
theorem a9S (pa:PlainAttrs T) (slot:Slot T name id) (hty:typeOf (.builtin id)=pure (.type "method_descriptor")) (hm:MtR X id r) (ho:PE X o to)
  (hbase:attributeBase o name X.env (eval o X.env)=eval o X.env:=by rfl) (hline:(apos.endLine==cpos.line)=true:=by rfl):PE X (.Call (.Attribute o name apos) [] [] cpos) (b6O X.K T r to):=by
 intro pins s σ H Q I h;refine wpAny_Call_method0_late hbase hline (y9 (ho pins s σ H _ I h) λ v s1 ⟨x,H1,I1,r1,ty,q1⟩=>?_);obtain ⟨h1,h2⟩:=b0z I1 r1 ty;exact ⟨T,id,pa,slot,hty,h1,h2,Calls.callWith_builtin rfl (PySem.evalArgs_none (hm pins s1 σ H1 x [] v [] Q I1 r1 .nil q1))⟩
theorem T8 (pa:PlainAttrs T) (slot:Slot T name id) (hty:typeOf (.builtin id)=pure (.type "method_descriptor")) (hm:MtR X id r) (ho:PE X o to) (ha:PA X (e::es) t)
    (hbase:attributeBase o name X.env (eval o X.env)=eval o X.env:=by rfl)
    (hfew:((backTo cpos (starEach (e::es) X.env)).all (λ x=>!x.1)&&(backToKw cpos (keywordEach [] X.env)).all (λ x=>x.1.isSome)
     &&decide ((e::es).length+([]:List Keyword).length+(if ([]:List Keyword).isEmpty then 0 else 1)<30))=true:=by rfl)
    (hline:(apos.endLine==cpos.line)=true:=by rfl) (hs:starEach (e::es) X.env=(false,eval e X.env)::starEach es X.env:=by rfl) (hplain:(backTo cpos (starEach es X.env)).any (·.1)=false:=by rfl) :
    PE X (.Call (.Attribute o name apos) (e::es) [] cpos) (tBM X.K T r to t):=by
  intro pins s σ H Q I h;refine wpAny_Call_method_late hbase hfew hline rfl (y9 (ho pins s σ H _ I h) λ v s1 ⟨x,H1,I1,r1,ty,q1⟩=>?_);obtain ⟨h1,h2⟩:=b0z I1 r1 ty;refine ⟨T,id,pa,slot,hty,h1,h2,?_⟩;have hA:=ha cpos pins s1 σ H1 _ I1 q1;rw [hs] at hA ⊢;refine Calls.callWith_builtin (by show (false || (backTo cpos (starEach es X.env)).any (·.1))=false; rw [hplain] <;> rfl) (Calls.evalArgs_plain ?_);exact y9 hA λ us s2 ⟨vs,H2,I2,r2,q2⟩=>hm pins s2 σ H2 x vs v us Q I2 r1 r2 q2
/- xs.append(e),list.index on a module's tuple .. are MtR facts of 06m -/
end
def MtM (X:Cx) (id:String) (r:V->List V->Hp->VK->Prop):Prop :=
 ∀ (pins:List (Addr×Obj)) (s:Shared) (σ:St) (H:Hp) (x:V) (xs:List V) (v:Value) (us:List Value) (Q:VK),Inv X pins σ H s->RelV x v->Vals xs us->r x xs H Q →
  wpAny (model X.prog X.w) X.A (call (.builtin id) (v::us)) (EP X pins σ Q) X.xe s
theorem Vals.one:∀ {x:V} {us:List Value},Vals [x] us->∃ u,us=[u]/\RelV x u
 | _,_,.cons r .nil=>⟨_,rfl,r⟩
theorem Vals.zero:∀ {us:List Value},Vals [] us->us=[]
 | _,.nil=>rfl
theorem Vals.dropLast {xs:List V} {us:List Value} (h:Vals xs us):Vals xs.dropLast us.dropLast:=by
 induction h with
 | nil=>exact .nil
 | cons r t ih =>
  cases t with
  | nil=>exact .nil
  | cons q t'=>exact .cons r ih
theorem Vals.rep {xs:List V} {us:List Value} (h:Vals xs us):∀ k:Nat,Vals (aL k xs).flatten (aL k us).flatten
 | 0=>.nil
 | k+1=>by
  rw [dX,dX,fJ,fJ];exact Vals.append h (Vals.rep h k)
theorem a6d {α:Type} (l:List α):l.eraseIdx (l.length - 1)=l.dropLast:=by
 induction l with
 | nil=>rfl
 | cons a r ih =>
  cases r with
  | nil=>rfl
  | cons b r =>
   have e:(a::b::r).length - 1=((b::r).length - 1)+1:=by
    have h1:(a::b::r).length=r.length+2:=rfl;have h2:(b::r).length=r.length+1:=rfl;omega
   rw [e,List.eraseIdx_cons_succ,ih]
   all_goals rfl
theorem a3c (its:List Value):∀ (k:Nat) (acc:List Value),
  hX (λ x1 x2=>x1++x2) acc.toArray (aL k its.toArray)=(acc++(aL k its).flatten).toArray
 | 0,acc=>by simp
 | k+1,acc=>by
  have e:acc.toArray++its.toArray=(acc++its).toArray:=by simp
  have e2:(acc++its)++(aL k its).flatten=acc++(aL (k+1) its).flatten:=by
   rw [dX,fJ,cQ]
  rw [<- e2,<- a3c its k (acc++its),<- e,dX,List.foldl_cons]
section
variable {X:Cx} {pins:List (Addr×Obj)} {σ:St} {H:Hp} {s:Shared} {l b:Addr} {xs ys zs:List V}
theorem Inv.lset {its its':List Value} {n:Nat} {f:Array Value->Array Value} {t':Nat} (I:Inv X pins σ H s) (hH:H l=some (.lst xs))
  (e:s.heap.get? l=some { cls:=.type "list",data:=.seq its.toArray n }) (hf:f its.toArray=its'.toArray) (hv:Vals ys its') (hz:ys.length<=sizeLine) :
  Inv X pins σ (r9 H l (.lst ys)) { s with heap:=s.heap.update l (Obj.mapSeq f),toks:=t' }:=by
 have q:=lV e f;rw [hf] at q;refine I.write (x:=l) (e:=l) (by rw [hH]; exact trivial) (.inl rfl) (λ b' u hb hu=>(Heap.get?_update_other s.heap (Obj.mapSeq f) (aS hb)).trans hu) ⟨_,q⟩ ?_;exact ⟨hz,its',_,hv,q⟩
theorem Inv.lnew {its:List Value} {t':Nat} (I:Inv X pins σ H s) (hv:Vals ys its) (hz:ys.length<=sizeLine) :
  Inv X pins σ (r9 H s.heap.objs.size (.lst ys)) { s with heap:=s.heap.push { cls:=.type "list",data:=.seq its.toArray },toks:=t' } :=
 I.laid (λ _ _ q=>Heap.get?_push_of_some _ q) (aF _) ⟨hz,its,0,hv,Heap.get?_push_size _ rfl⟩
theorem Inv.fresh (I:Inv X pins σ H s):H s.heap.objs.size=none:=I.hok.fresh (aF _)
theorem Inv.lstM (I:Inv X pins σ H s) (hH:H l=some (.lst xs)):xs.length<=sizeLine/\∃ (its:List Value) (n:Nat),Vals xs its/\xs.length=its.length/\s.heap.get? l=some { cls:=.type "list",data:=.seq its.toArray n }:=by
 obtain ⟨z,its,n,r,e⟩:=I.hok l _ hH;exact ⟨z,its,n,r,r.length,e⟩
theorem a9O {n:Nat} (h:n<=sizeLine):Builtin.List.listTooLong n=false:=by
 unfold Builtin.List.listTooLong;exact decide_eq_false (by omega)
end
section
variable {X:Cx}
def b1O:V->List V->Hp->VK->Prop:=λ x vs H Q=>∃ l xs y,x=.ref l/\vs=[y]/\H l=some (.lst xs)/\xs.length<sizeLine/\Q .non (r9 H l (.lst (xs++[y])))
theorem O4:MtM X "list.append" b1O:=by
 intro pins s σ H x vs v us Q I rx rv h;obtain ⟨l,xs,y,rfl,rfl,hH,hz,q⟩:=h
 cases rx;obtain ⟨u,rfl,ru⟩:=rv.one;obtain ⟨z,its,n,r,hl,e⟩:=I.lstM hH;refine call_meets F.slot_list_append ⟨_,e,rfl⟩ F.entry_list_append (F.args_list_append_2 _ _) (PySem.list_append l its.toArray n u (by rw [bC]; omega)) ⟨e,?_⟩;refine ⟨.non,_,I.lset (its':=its++[u]) hH e (by simp) (r.append (.cons ru .nil)) ?_,rfl,q⟩;rw [aI,cZ];omega
def b6R:V->List V->Hp->VK->Prop:=λ x vs H Q=>∃ l xs y,x=.ref l/\vs=[]/\H l=some (.lst xs)/\xs[xs.length - 1]?=some y/\Q y (r9 H l (.lst xs.dropLast))
theorem a9N:MtM X "list.pop" b6R:=by
 intro pins s σ H x vs v us Q I rx rv h;obtain ⟨l,xs,y,rfl,rfl,hH,hy,q⟩:=h
 cases rx;have hus:=rv.zero;subst hus;obtain ⟨z,its,n,r,hl,e⟩:=I.lstM hH;obtain ⟨u,hu,ru⟩:=r.get hy;have hy':its.toArray[its.toArray.size - 1]?=some u:=by
  show its.toArray[its.length - 1]?=some u
  rw [<- iY,<- hl];exact hu
 refine call_meets F.slot_list_pop ⟨_,e,rfl⟩ F.entry_list_pop (F.args_list_pop_1 _) (MeetsSeq.list_pop_last l its.toArray n u hy' (by rw [bC]; omega)) ⟨e,?_⟩;refine ⟨y,_,I.lset (its':=its.dropLast) hH e ?_ r.dropLast ?_,ru,q⟩
 ·show its.toArray.eraseIdxIfInBounds (its.toArray.size - 1)=its.dropLast.toArray
  rw [bC,List.eraseIdxIfInBounds_toArray,a6d]
 ·rw [List.length_dropLast]
  omega
def b6H:R2:=λ x y H Q=>∃ l b xs zs,x=.ref l/\y=.ref b/\H l=some (.lst xs)/\H b=some (.lst zs)/\xs.length+zs.length<=sizeLine/\∀ p,H p=none->Q (.ref p) (r9 H p (.lst (xs++zs)))
theorem A6:W5 X (binaryOp .Add) b6H:=by
 intro pins s σ H x y v u Q I rx ry h;obtain ⟨l,b,xs,zs,rfl,rfl,hH,hB,hz,q⟩:=h
 cases rx
 cases ry;obtain ⟨z,its,n,r,hl,e⟩:=I.lstM hH;obtain ⟨z2,its2,n2,r2,hl2,e2⟩:=I.lstM hB;refine PySem.P.add_list e e2 ?_ (by rw [bC,bC]; omega);have ea:its.toArray++its2.toArray=(its++its2).toArray:=by simp
 rw [ea];exact ⟨.ref _,_,I.lnew (t':=s.toks) (r.append r2) (by rw [aI]; omega),rfl,q _ I.fresh⟩
def b6x:R2:=λ x y H Q=>∃ l k xs,x=.ref l/\y=.int k/\H l=some (.lst xs)/\-(2 ^ 63)<=k/\k<2 ^ 63/\xs.length*k.toNat<=sizeLine ∧
 ∀ p,H p=none->Q (.ref p) (r9 H p (.lst (aL k.toNat xs).flatten))
theorem b1n {α:Type} (xs:List α) (k:Nat):(aL k xs).flatten.length=k*xs.length:=by
 induction k with
 | zero=>simp
 | succ k ih=>rw [dX,fJ,aI,ih,hZ,Nat.add_comm]
theorem a1q:W5 X (binaryOp .Mult) b6x:=by
 intro pins s σ H x y v u Q I rx ry h;obtain ⟨l,k,xs,rfl,rfl,hH,h1,h2,hz,q⟩:=h
 cases rx;obtain ⟨t,rfl⟩:=ry;obtain ⟨z,its,n,r,hl,e⟩:=I.lstM hH;have hlen:its.toArray.size*k.toNat<=sizeLine:=by rw [bC,<- hl]; exact hz
 have hcap:¬ its.toArray.size*k.toNat>(2 ^ 63 - 1) / 8:=by
  have:(sizeLine:Nat)<=(2 ^ 63 - 1) / 8:=by decide
  omega
 have hfit:¬ (!Builtin.List.listFitsIndex k)=true:=by
  rw [fitsIndex_both h1 h2];exact bI
 have hlong:¬ Builtin.List.listTooLong (its.toArray.size*k.toNat)=true:=by
  rw [a9O hlen];exact bI
 have hnew:hX (λ x1 x2=>x1++x2) #[] (aL (if its.toArray.isEmpty=true then 0 else k.toNat) its.toArray)=(aL k.toNat its).flatten.toArray:=by
  have f0:∀ m:Nat,hX (λ x1 x2=>x1++x2) #[] (aL m its.toArray)=(aL m its).flatten.toArray:=λ m=>by
   have:=a3c its m [];rw [cJ] at this;exact this
  rw [f0]
  cases its with
  | nil=>simp
  | cons a r'=>rw [if_neg (by simp)]
 refine wpAny_binaryOp_repeat_ref (T:="list") (U:="int") (by decide) ⟨_,e,rfl⟩ (λ s'=>typeIs_int s' k t) noFill_list_mul F.fills_int_mul F.slot_int_rmul repeat_list F.slot_int_index.lookup
  (call_meets F.slot_int_rmul (typeIs_int s k t) F.entry_int_rmul (F.args_int_rmul_2 _ _) (int___rmul___int_list k t l its.toArray n)
   ⟨e,rfl,⟨_,e,rfl⟩,call_meets F.slot_list_mul ⟨_,e,rfl⟩ F.entry_list_mul (F.args_list_mul_2 _ _) (AutoListH.list___mul___list_int_3 l its.toArray n k t hfit hcap hlong) ⟨e,?_⟩⟩)
 rw [hnew];exact ⟨.ref _,_,I.lnew (t':=s.toks) (r.rep k.toNat) (by rw [b1n,iZ]; exact hz),rfl,q _ I.fresh⟩
end
section
variable {prog:Program} {w:World} {A:Around} {E:Value->Shared->Prop} {s:Shared}
end
section
variable {X:Cx}
end
end L2
namespace Att
open PySem PySem.W PySem.Calls PyProof.Rows
theorem a1O {P:Params} {h:Heap}:∀ (ns:List Int) (vs:List Value),WellAll P h vs (ns.map WData.int)->IntsAre vs ns:=by
 intro ns
 induction ns with
 | nil =>
  intro vs w;rw [eY] at w
  cases w;exact .nil
 | cons n ns ih =>
  intro vs w;rw [bD] at w
  cases w with
  | cons a b =>
   cases a;exact .cons _ _ (ih _ b)
theorem a7Q {l:OpenLaw} {n:Nat} (hn:l.most=some n) {P:Params} {h:Heap} {args:List WData} {vals:List Value}
  (hpre:l.row.toRowW.claim.pre args=true) (hwl:WellAll P h vals args) :
  ∃ a vs ns,vals=[Value.ref a]/\args=[WData.list (ns.map WData.int)]/\h.get? a=some { cls:=.type "list",data:=.seq vs.toArray }/\IntsAre vs ns/\ns.length<=n:=by
 have hsh:WShape.hasAll [] args [.list .int]=true:=(pre_splitW hpre).1;have hc:l.pre.holds [] { args:=args }=true:=(pre_splitW hpre).2;obtain ⟨d,r,rfl,h1,h2⟩:=hasAllW_cons hsh;obtain rfl:=hasAllW_nil h2;obtain ⟨xs,rfl,h3⟩:=hasW_list h1;obtain ⟨ns,rfl⟩:=items_int h3;have hlen:ns.length<=n:=by
  unfold OpenLaw.pre at hc;have h4:(WTm.not (.lt (.lit (.int (n:Int))) (.len (.arg 0)))).holds [] { args:=[.list (ns.map .int)] }=true:=by
   have h4:=(holds_andW hc).1;rw [hn] at h4;exact h4
  have h5:=condW_of h4 (w_not (w_lt w_lit (w_len_list (w_arg rfl))));rw [aA] at h5;refine iA λ q=>?_;have q':(n:Int)<((ns.length:Nat):Int):=by omega
  first
   | (rw [decide_eq_true q'] at h5; exact absurd h5 (by decide))
   | (simp at h5; omega)
 cases hwl with
 | cons w1 w2 =>
  cases w2
  cases w1 with
  | list ho hall=>exact ⟨_,_,ns,rfl,rfl,ho,a1O ns _ hall,hlen⟩
theorem a8t (l:OpenLaw) (args:List WData):l.row.toRowW.claim.post args (.bool true) args=true :=
 postW_of (r:=l.row.toRowW) (X:=(true==true))
  (show WShape.has [] (.bool true) .bool=true by first | rfl | decide | simp [WShape.has,WShape.arms,WShape.armsAll])
  (show (WTm.eq .res (.lit (.bool true))).value [] { args:=args,res:=some (.bool true),after:=args }=some (.bool (true==true)) from w_eq_bool (w_res rfl) w_lit) rfl
theorem attach_call {l:OpenLaw} {n:Nat} {q:Program} {loose:List Str} {XP:(Str->Option Value)->Heap->Prop} {YP:World->Heap->Prop} {d:DefRec}
  (hn:l.most=some n) (hdf:d.params.defaults=[])
  (call:∀ (w:World) (s₀ s₁:Shared) (mg mb:Str->Option Value) (fa:Addr) (o:Obj) (pm cd doc:Value) (a:Addr) (vs:List Value) (ns:List Int),
   Ground q loose [] XP w s₀ mg mb s₁.heap->YP w s₁.heap →
   s₁.heap.get? fa=some o->o.data=.func (docDef d.name d.params d.body d.scope pm cd doc)->s₁.heap.CodeRec cd d.name->mg d.name=some (.ref fa) →
   s₁.heap.get? a=some { cls:=.type "list",data:=.seq vs.toArray }->IntsAre vs ns->ns.length<=n->s₁.gens=#[] →
   codeAny (model l.prog w) callerA (.call (.ref fa) ⟨[.ref a],[]⟩) (λ r s'=>r=.ok (.ret (.bool true))/\OldK s₁.heap s'.heap/\s'.os=s₁.os/\AllBare s'.gens) s₁) :
  WalkO q loose XP YP l.row.toRowW d [] (λ f vs=>iB f vs):=by
 intro w s₀ s₁ mg mb G Y fa o pm cd doc dV kV ho hd hcd hD hmg hg args vals as hpre hlay hrd hwl hlo;obtain rfl:dV=.none:=Dflts.none hD hdf;obtain rfl:kV=.none:=Dflts.noKw hD;obtain ⟨a,vs,ns,rfl,rfl,hobj,hints,hlen⟩:=a7Q hn hpre hwl;refine enter_call (codeAny_mono (call w s₀ s₁ mg mb fa o pm cd doc a vs ns G Y ho (fd_plain hd) hcd hmg hobj hints hlen hg) λ r s' hq=>?_);obtain ⟨rfl,h2,h3,h4⟩:=hq;exact ⟨.inl ⟨.bool true,.bool true,[],rfl,λ _=>rfl,.bool true,a8t l _,λ _=>⟨List.Pairwise.nil,λ _ hm=>(nomatch hm)⟩⟩,h2,h3,h4⟩
section
variable {prog:Program} {w:World} {A:Around} {E:Value->Shared->Prop} {s:Shared} {K:Frag}
end
end Att
namespace L2
open PySem PySem.Spec PyProof.Rows
theorem a3f:∀ {vs:List Value} {ns:List Int},IntsAre vs ns->Vals (ns.map V.int) vs
 | _,_,.nil=>.nil
 | _,_,.cons n t h=>.cons ⟨t,rfl⟩ (a3f h)
def M6 (s:Stmt) (j:Nat):Stmt:=match s with
 | .ClassDef _ _ _ body _ _ _ _ _ _ _=>body.getD j (.Pass ⟨0,0,0,0⟩)
 | _=>.Pass ⟨0,0,0,0⟩
def E2 (s:Stmt):Arguments:=match s with
 | .FunctionDef _ a _ _ _ _ _ _ _ _=>a
 | _=>{ posonlyargs:=[],args:=[],vararg:=none,kwonlyargs:=[],kw_defaults:=[],kwarg:=none,defaults:=[] }
def t9 (s:Stmt):List Stmt:=match s with
 | .FunctionDef _ _ b _ _ _ _ _ _ _=>b
 | _=>[]
def d0 (s:Stmt):Scope:=match s with
 | .FunctionDef _ _ _ _ _ _ sc _ _ _=>sc
 | _=>{ kind:=.function,names:=[],isGenerator:=false,isCoroutine:=false }
abbrev K5:CXT:=λ _ _ _ _ _ _=>False
abbrev E0:XK:=λ _ _ _=>False
theorem r6 {X:Cx}:R5 K5 X E0:=λ _ _ _ _ _ _ _ h=>h.elim
structure Fun (K:W.Frag) (x qual:Str) (st:Stmt) (f:Addr) (fd:FuncData):Prop where
 ex:∃ (oc:Value) (od:Option Addr) (kV doc pm:Value) (an:Option Addr) (cdv ct:Value) (osl:Array (Option Value)),
  fd=W.fnOf x qual (E2 st) (t9 st) (d0 st) .none kV doc pm an cdv ct/\K.lookup f=some ⟨oc,od,.func fd,osl⟩/\W.codeIn K cdv qual=true
 kp:W.keepIn K (.ref f)=true
section
variable {P:Program} {w:World} {K:W.Frag} {mg:Str->Option Value} {base:Heap}
theorem Fun.ok {x qual:Str} {st:Stmt} {f:Addr} {fd:FuncData} {N ps:List Str} {k:Nat} {sp:Sp} (F:Fun K x qual st f fd) (S:i9 N ps (d0 st)) (len:∀ vs H Q E,sp vs H Q E->vs.length=ps.length)
  (hbody:∀ (cdv:Value) (A:Around) (outer:List Env) (s:Shared) (H:Hp) (vs:List V) (Q:VK) (E:XK),Room k (A.deeper (envOfC qual (d0 st) s.heap.objs.size f cdv))->sp vs H Q E →
   ∃ t,PSs (M3 K5 P w K mg base N qual (d0 st) f cdv A outer s H E).nox (t9 st) t/\t { nx:=λ _ H'=>Q .non H',rt:=Q } (N9 N vs) H):FnOk P w K mg base K5 (k+1) f fd ps sp:=by
 obtain ⟨oc,od,kV,doc,pm,an,cdv,ct,osl,rfl,lk,hcd⟩:=F.ex;refine a9K lk hcd S len λ A outer s H vs Q E hr hsp=>?_;obtain ⟨t,h,q⟩:=hbody cdv A outer s H vs Q E hr hsp;exact ⟨t,h.nox,q⟩
theorem Fun.binds {x qual:Str} {st:Stmt} {f:Addr} {fd:FuncData} {ps:List Str} (F:Fun K x qual st f fd)
  (h:∀ (kV doc pm:Value) (an:Option Addr) (cdv ct:Value) (us:List Value),us.length=ps.length->bindArgs (W.fnOf x qual (E2 st) (t9 st) (d0 st) .none kV doc pm an cdv ct) ⟨us,[]⟩=pure (ps.zip us)):Binds K fd ps []:=by
 obtain ⟨oc,od,kV,doc,pm,an,cdv,ct,osl,rfl,lk,hcd⟩:=F.ex;exact .all (h kV doc pm an cdv ct)
theorem b0C {x qual:Str} {st:Stmt} {f:Addr} {oc:Value} {od an:Option Addr} {osl:Array (Option Value)} {kV doc pm cdv ct:Value} (l:K.lookup f=some ⟨oc,od,.func (W.fnOf x qual (E2 st) (t9 st) (d0 st) .none kV doc pm an cdv ct),osl⟩)
  (c:W.codeIn K cdv qual=true) (k:W.keepIn K (.ref f)=true):Fun K x qual st f (W.fnOf x qual (E2 st) (t9 st) (d0 st) .none kV doc pm an cdv ct):=⟨⟨oc,od,kV,doc,pm,an,cdv,ct,osl,rfl,l,c⟩,k⟩
end
theorem m8 {n:Nat} (h:n<=1000):n<sizeLine:=dY h (by decide)
section
variable {X:Cx}
theorem pv (i:Nat) {x:Str} {pos:Pos} (hN:X.N[i]?=some x:=by rfl) (hv:Vis X.env.scope x:=by first | exact aC rfl | exact dM (aC rfl) | exact dM (dM rfl)) (hd:(x==("__debug__":Str))=false:=by decide)
  (hcd:(x==("__classdict__":Str))=false:=by decide):PE X (.Name x pos) (b2b i):=b3A hN hv hd hcd
end
theorem D6 {A B:Prop} (h:B):if false=true then A else B:=by
 rw [if_neg bI];exact h
theorem G5 {A B:Prop} (h:A):if true=true then A else B:=by
 rw [if_pos rfl];exact h
theorem A2 {c A B:Prop} [Decidable c] (h1:c->A) (h2:¬ c->B):if c then A else B:=by
 by_cases h:c
 ·rw [if_pos h]
  exact h1 h
 ·rw [if_neg h]
  exact h2 h
theorem b5f {c A B:Prop} [Decidable c] (hc:c) (h:B):if (!decide c)=true then A else B:=by
 rw [decide_eq_true hc];exact D6 h
def Same (H H':Hp):Prop:=∀ b o,H b=some o->H' b=some o
theorem Same.refl (H:Hp):Same H H:=λ _ _ h=>h
theorem Same.trans {H H1 H2:Hp} (a:Same H H1) (b:Same H1 H2):Same H H2:=λ c o h=>b c o (a c o h)
theorem Same.free {H H':Hp} (e:Same H H') {l:Addr} (h:H' l=jA):H l=jA:=by
 cases q:H l with
 | none=>rfl
 | some o =>
  rw [e l o q] at h
  cases h
theorem Same.seq {K:W.Frag} {H H':Hp} {a:Addr} {xs:List V} (e:Same H H') (h:SqL K H a xs):SqL K H' a xs:=by
 rcases h with (h | ⟨o,h⟩) | h
 ·exact .inl (.inl (e _ _ h))
 ·exact .inl (.inr ⟨o,e _ _ h⟩)
 ·exact .inr h
def clo (env:Env):List (Str×NameKind)->List (Str×Addr)->List (Str×Addr)
 | [],cs=>cs
 | (n,k)::r,cs=>if k==.free then (match env.cells.lookup n with | some a=>clo env r ((n,a)::cs) | none=>clo env r cs) else clo env r cs
theorem K4 {scope:Scope} {env:Env} (h:∀ n,(n,NameKind.free)∈scope.names->∃ c,env.cells.lookup n=some c):closureFor scope env=pure (clo env scope.names []):=by
 simp only [closureFor];generalize ([]:List (Str×Addr))=cs
 revert h
 generalize scope.names=l;intro h
 induction l generalizing cs with
 | nil=>rfl
 | cons x r ih =>
  obtain ⟨n,k⟩:=x;have hr:∀ n,(n,NameKind.free)∈r->∃ c,env.cells.lookup n=some c:=λ n hn=>h n (aU _ hn)
  by_cases hk:k=.free
  ·subst hk
   obtain ⟨c,hc⟩:=h n bB;have q:=ih ((n,c)::cs) hr;simp only [gG,clo,hc,beq_self_eq_true,if_true,cellOf];exact q
  ·have hb:(k==NameKind.free)=false:=by simpa using hk
   have q:=ih cs hr;simp only [gG,clo,hb,jB,if_false];exact q
theorem a0Q {env:Env} {x:Str} {c:Addr}:∀ {l:List (Str×NameKind)} {cs:List (Str×Addr)},(∀ x c,cs.lookup x=some c->env.cells.lookup x=some c)->(clo env l cs).lookup x=some c->env.cells.lookup x=some c
 | [],_,h,e=>h x c e
 | (n,k)::r,cs,h,e=>by
  unfold clo at e
  by_cases hk:(k==NameKind.free)=true
  ·rw [if_pos hk] at e
   cases q:env.cells.lookup n with
   | none=>rw [q] at e; exact a0Q h e
   | some a =>
    rw [q] at e;refine a0Q (cs:=(n,a)::cs) (λ y d z=>?_) e;rw [cK] at z
    cases hy:y==n with
    | true =>
     rw [hy] at z;have:y=n:=by simpa using hy
     subst this;rw [q]; exact z
    | false=>rw [hy] at z; exact h y d z
  ·rw [if_neg hk] at e
   exact a0Q h e
theorem a1V {env:Env} {x:Str} {c:Addr}:∀ {l:List (Str×NameKind)} {cs:List (Str×Addr)},(x,c)∈clo env l cs->(env.cells.lookup x=some c/\(x,NameKind.free)∈l)\/(x,c)∈cs
 | [],_,e=>.inr e
 | (n,k)::r,cs,e=>by
  unfold clo at e
  by_cases hk:(k==NameKind.free)=true
  ·rw [if_pos hk] at e
   have hk':k=.free:=by simpa using hk
   cases q:env.cells.lookup n with
   | none =>
    rw [q] at e;exact (a1V e).imp (λ z=>⟨z.1,aU _ z.2⟩) id
   | some a =>
    rw [q] at e;rcases a1V (cs:=(n,a)::cs) e with z | z
    ·exact .inl ⟨z.1,aU _ z.2⟩
    ·rcases aO.mp z with z | z
     ·cases z
      exact .inl ⟨q,by rw [hk']; exact bB⟩
     ·exact .inr z
  ·rw [if_neg hk] at e
   exact (a1V e).imp (λ z=>⟨z.1,aU _ z.2⟩) id
theorem v6:∀ (names:List (Str×NameKind)) (n:Nat) (acc:List (Str×Addr)),cellsFrom n names acc=cellsFrom n names []++acc
 | [],_,_=>rfl
 | (x,k)::r,n,acc=>by
  unfold cellsFrom
  split
  ·rw [v6 r (n+1) ((x,n)::acc),v6 r (n+1) [(x,n)],cQ]; rfl
  ·exact v6 r n acc
theorem J1 {x:Str} {c:Addr}:∀ {names:List (Str×NameKind)} {n:Nat},(x,c)∈cellsFrom n names []->(x,NameKind.cell)∈names
 | [],_,e=>by cases e
 | (y,k)::r,n,e=>by
  unfold cellsFrom at e
  by_cases hk:(k==NameKind.cell)=true
  ·rw [if_pos hk,v6] at e
   have hk':k=.cell:=by simpa using hk
   rcases bK.mp e with z | z
   ·exact aU _ (J1 z)
   ·rw [aQ] at z
    cases z;rw [hk']; exact bB
  ·rw [if_neg hk] at e
   exact aU _ (J1 e)
theorem S7 {x:Str}:∀ {names:List (Str×NameKind)} {n:Nat},(x,NameKind.cell)∈names->∃ c,(x,c)∈cellsFrom n names []
 | (y,k)::r,n,e=>by
  unfold cellsFrom;rcases aO.mp e with z | z
  ·cases z
   rw [if_pos (by rfl),v6];exact ⟨n,cA _ bB⟩
  ·split
   ·rw [v6]
    obtain ⟨c,hc⟩:=S7 (n:=n+1) z;exact ⟨c,dI _ hc⟩
   ·exact S7 z
theorem a2n {α:Type} {x:Str}:∀ {l₁ l₂:List (Str×α)},(l₁++l₂).lookup x=match l₁.lookup x with | some c=>some c | none=>l₂.lookup x
 | [],_=>rfl
 | (n,c)::r,l₂=>by
  rw [bO,cK,cK]
  cases hx:x==n with
  | true=>rfl
  | false=>exact a2n (l₁:=r)
theorem a0k {α:Type} {x:Str} {c:α}:∀ {l:List (Str×α)},(x,c)∈l->∃ c',l.lookup x=some c'
 | (n,d)::r,h=>by
  rw [cK]
  cases hx:x==n with
  | true=>exact ⟨d,rfl⟩
  | false =>
   rcases aO.mp h with z | z
   ·cases z; simp at hx
   ·exact a0k z
theorem a0f {env:Env} {x:Str}:∀ {l:List (Str×NameKind)} {cs:List (Str×Addr)},(∃ c,cs.lookup x=some c)->∃ c,(clo env l cs).lookup x=some c
 | [],_,h=>h
 | (n,k)::r,cs,h=>by
  unfold clo
  split
  ·split
   ·refine a0f ?_
    rw [cK]
    cases hy:x==n with
    | true=>exact ⟨_,rfl⟩
    | false=>exact h
   ·exact a0f h
  ·exact a0f h
theorem Z8 {env:Env} {x:Str} (hx:∃ c,env.cells.lookup x=some c):∀ {l:List (Str×NameKind)} {cs:List (Str×Addr)},(x,NameKind.free)∈l->∃ c,(clo env l cs).lookup x=some c
 | (n,k)::r,cs,h=>by
  rcases aO.mp h with e | e
  ·cases e
   obtain ⟨c,hc⟩:=hx;unfold clo;rw [if_pos (by rfl),hc];refine a0f ⟨c,?_⟩;simp [cK]
  ·unfold clo
   split
   ·split
    ·exact Z8 hx e
    ·exact Z8 hx e
   ·exact Z8 hx e
def S4 (env:Env) (scope:Scope) (C:Addr):List (Str×Addr):=cellsFrom (C+1) scope.names (clo env scope.names [])
theorem D7 {env:Env} {scope:Scope} {C:Addr} {x:Str} {c:Addr} (h:(S4 env scope C).lookup x=some c) :
  ((x,c)∈cellsFrom (C+1) scope.names []/\(x,NameKind.cell)∈scope.names)\/(env.cells.lookup x=some c/\(x,NameKind.free)∈scope.names):=by
 have m:=mem_of_lookup h;unfold S4 at m;rw [v6] at m;rcases bK.mp m with z | z
 ·exact .inl ⟨z,J1 z⟩
 ·rcases a1V z with y | y
  ·exact .inr y
  ·cases y
theorem a1K {env:Env} {scope:Scope} {C:Addr} {x:Str} (hx:∃ c,env.cells.lookup x=some c) (hf:(x,NameKind.free)∈scope.names) (hn:(x,NameKind.cell) ∉ scope.names):(S4 env scope C).lookup x=env.cells.lookup x:=by
 obtain ⟨c,hc⟩:=Z8 (env:=env) (cs:=[]) hx hf;have hc':=a0Q (env:=env) (λ _ _ z=>by simp at z) hc;unfold S4;rw [v6,a2n]
 cases q:(cellsFrom (C+1) scope.names []).lookup x with
 | some d=>exact absurd (J1 (mem_of_lookup q)) hn
 | none=>rw [hc',<- hc]
def blk (X:Cx) (os:List Str) (fr:List Nat) (scope:Scope) (C:Addr) (fp:List Addr) (s₀:Shared) (H₀:Hp):Cx :=
 { X with N:=os++fr.map (λ j=>X.N.getD j ""),s₀:=s₀,H₀:=H₀,env:=compEnvC scope (S4 X.env scope C) C X.env,outer:=X.stack,ex:=fp,fn:=λ x=>scope.names.lookup x==some .cell,pn:=[],xe:=λ _ _=>False }
def frv (fr:List Nat) (σ:St):St:=fr.map λ j=>(σ[j]?).join
def blkσ (n:Nat) (fr:List Nat) (σ:St):St:=aL n none++frv fr σ
def Wk (σ0 σ2:St):Prop:=σ2.length=σ0.length/\∀ (i:Nat) v,σ0[i]?=some (some v)->σ2[i]?=some (some v)
def a1v (outer:Scope) (scope:Scope) (N:List Str) (fr:List Nat):Bool :=
 (scope.names.all λ p=>(scope.names.lookup p.1==some p.2)&&(p.2 != .free || outer.names.lookup p.1==some .cell)) &&
 (fr.all λ j=>decide (j<N.length)&&(outer.names.lookup (N.getD j "")==some .cell)&&(scope.names.lookup (N.getD j "")==some .free))
theorem G3 {x:Str} {k:NameKind}:∀ {l:List (Str×NameKind)},l.lookup x=some k->(x,k)∈l
 | (n,j)::r,h=>by
  rw [cK] at h
  cases hx:x==n with
  | true =>
   rw [hx] at h;have:x=n:=by simpa using hx
   subst this
   cases h;exact bB
  | false=>rw [hx] at h; exact aU _ (G3 h)
theorem O2 {env:Env} {x:Str} {k:NameKind}:∀ {names:List (Str×NameKind)},
  (names.map λ (n,k)=>if (k==NameKind.free&&env.scope.kind==.function&&env.kindOf n==some .cell) then (n,NameKind.cell) else (n,k)).lookup x=some k →
  (x,k)∈names\/(x,NameKind.free)∈names
 | [],h=>by simp at h
 | (n,j)::r,h=>by
  rw [bD] at h;dsimp only at h
  by_cases hc:(j==NameKind.free&&env.scope.kind==.function&&env.kindOf n==some .cell)=true
  ·rw [if_pos hc,cK] at h
   have hj:j=.free:=by
    have:=(cY _ _ ▸ (cY _ _ ▸ hc).1).1
    simpa using this
   cases hx:x==n with
   | true =>
    have:x=n:=by simpa using hx
    subst this;subst hj;exact .inr bB
   | false =>
    rw [hx] at h;exact (O2 h).imp (aU _) (aU _)
  ·rw [if_neg hc,cK] at h
   cases hx:x==n with
   | true =>
    rw [hx] at h;have:x=n:=by simpa using hx
    subst this
    cases h;exact .inl bB
   | false =>
    rw [hx] at h;exact (O2 h).imp (aU _) (aU _)
section
variable {X:Cx} {os:List Str} {fr:List Nat} {scope:Scope}
theorem T9 (h:a1v X.env.scope scope X.N fr=true):∀ p∈scope.names,scope.names.lookup p.1=some p.2/\(p.2=.free->X.env.scope.names.lookup p.1=some .cell):=λ p hp=>by
 have q:=dB.mp (cY _ _ ▸ h).1 p hp;simp only [cY,bne_iff_ne,jC,beq_iff_eq,ne_eq] at q;refine ⟨q.1,λ e=>?_⟩;rcases q.2 with z | z
 ·exact absurd e z
 ·exact z
theorem a5J (h:a1v X.env.scope scope X.N fr=true) {x:Str} {a b:NameKind} (ha:(x,a)∈scope.names) (hb:(x,b)∈scope.names):a=b:=by
 have h1:=(T9 h _ ha).1;have h2:=(T9 h _ hb).1;rw [h1] at h2;exact aJ h2
theorem b2Y (h:a1v X.env.scope scope X.N fr=true):∀ j∈fr,j<X.N.length/\X.env.scope.names.lookup (X.N.getD j "")=some .cell/\scope.names.lookup (X.N.getD j "")=some .free:=λ j hj=>by
 have q:=dB.mp (cY _ _ ▸ h).2 j hj;simp only [cY,beq_iff_eq,decide_eq_true_eq] at q;exact ⟨q.1.1,q.1.2,q.2⟩
theorem Z7 {pins:List (Addr×Obj)} {σ:St} {H:Hp} {s:Shared} (I:Inv X pins σ H s) (h:a1v X.env.scope scope X.N fr=true):∀ n,(n,NameKind.free)∈scope.names->∃ c,X.env.cells.lookup n=some c:=λ n hn =>
 I.ok.has n (.inl ((T9 h _ hn).2 rfl))
theorem Inv.block {pins:List (Addr×Obj)} {σ:St} {H:Hp} {s:Shared} {fp:List Addr} {h₁:Heap} {t':Nat} (I:Inv X pins σ H s) (hk:scope.kind=.function) (h:a1v X.env.scope scope X.N fr=true)
  (hf:∀ b∈fp,W2 X pins H b) (ho:∀ b∈fp,∃ o,s.heap.get? b=some o) (hns:h₁.Ns s.heap.objs.size λ _=>none) (hkeep:∀ b o,s.heap.get? b=some o->h₁.get? b=some o)
  (hcl:CellsOk h₁ (s.heap.objs.size+1) (cellsFrom (s.heap.objs.size+1) scope.names [])) :
  Inv (blk X os fr scope s.heap.objs.size fp s H) [] (blkσ os.length fr σ) H { s with heap:=h₁,toks:=t' } where
 ok:={
  mod:=I.ok.mod
  kind:=hk
  glob:=I.ok.glob
  blt:=I.ok.blt
  above:=aF _
  inj:=λ x y c e1 e2=>by
   have old:∀ {z:Str},X.env.cells.lookup z=some c->c<s.heap.objs.size:=λ {z} e=>by
    obtain ⟨v,q⟩:=I.cell z c e;exact q.lt
   rcases D7 e1 with z1 | z1 <;> rcases D7 e2 with z2 | z2
   ·exact name_of_addr hcl.apart z1.1 z2.1
   ·exact absurd (aT (fK (old z2.1)) (hcl.empty _ _ z1.1).2) (bL _)
   ·exact absurd (aT (fK (old z1.1)) (hcl.empty _ _ z2.1).2) (bL _)
   ·exact I.ok.inj x y c z1.1 z2.1
  has:=λ x hx=>by
   have hm:(x,NameKind.cell)∈scope.names\/(x,NameKind.free)∈scope.names:=by
    rcases hx with e | e
    ·exact O2 e
    ·rcases O2 e with z | z
     ·exact .inr z
     ·exact .inr z
   rcases hm with z | z
   ·obtain ⟨c,hc⟩:=S7 (n:=s.heap.objs.size+1) z
    refine a0k (c:=c) ?_
    show (x,c)∈S4 _ _ _
    unfold S4;rw [v6];exact dI _ hc
   ·obtain ⟨c,hc⟩:=Z7 I h x z
    refine ⟨c,?_⟩
    show (S4 _ _ _).lookup x=_
    rw [a1K ⟨c,hc⟩ z (λ w=>by cases a5J h z w)];exact hc
  cab:=λ x c hx e=>by
   have hx':scope.names.lookup x=some .cell:=by simpa using (show (scope.names.lookup x==some .cell)=true from hx)
   rcases D7 e with z | z
   ·exact dQ (jD (hcl.empty _ _ z.1).2)
   ·cases a5J h (G3 hx') z.2
  hd:=I.ok.hd
  frames:=I.ok.frames
  stk:=.inl rfl
  exf:=λ b hb=>by
   obtain ⟨o,e⟩:=ho b hb;refine ⟨Nat.ne_of_lt (Heap.lt_size e),λ x c e1=>?_⟩;rcases D7 e1 with z | z
   ·intro w
    have:=(hcl.empty _ _ z.1).2;rw [w] at this;exact absurd (aT (fK (Heap.lt_size e)) this) (bL _)
   ·exact (hf b hb).2.2.2.2.1 x c z.1
  bs:=I.bs
  bsz:=aK I.ok.bsz I.sz
  noex:=λ b o e hb=>by
   rcases (hf b hb).2.2.2.1 with z | z
   ·exact I.ok.noex b o e z
   ·exact absurd (aT (Heap.lt_size e) (aK I.ok.bsz z)) (bL _)
  exfs:=λ b hb hz=>by
   rcases aO.mp (I.stkSub b hz) with e | e
   ·exact (hf b hb).2.1 e
   ·exact (hf b hb).2.2.1 e
  funs:=I.stack
  frf:=I.stkFree }
 os:=rfl
 bare:=I.bare
 base:=Un.kept hkeep
 loc:=by
  refine ⟨_,hns,λ i x v e1 e2 _=>?_⟩;have hi:os.length<=i:=by
   refine iA λ hlt=>?_;unfold blkσ at e2;rw [bV (by simpa using hlt)] at e2;rw [dW] at e2
   split at e2 <;> cases e2
  have e1':(fr.map λ j=>X.N.getD j "")[i - os.length]?=some x:=by
   rw [<- cP (l₁:=os) hi]; exact e1
  have e2':(fr.map λ j=>(σ[j]?).join)[i - os.length]?=some (some v):=by
   have z:(aL os.length (none:Option V)).length<=i:=by simpa using hi
   unfold blkσ at e2;rw [cP z,bW] at e2;exact e2
  rw [aE] at e1' e2'
  cases q:fr[i - os.length]? with
  | none=>rw [q] at e1'; cases e1'
  | some j =>
   rw [q] at e1' e2';have hj:j∈fr:=bE q;obtain ⟨hjl,hjc,hjf⟩:=b2Y h j hj;have ex:X.N.getD j ""=x:=aJ e1';have ev:(σ[j]?).join=some v:=aJ e2';have hN:X.N[j]?=some x:=by
    rw [<- ex,aM,aG hjl]; rfl
   have hσ:σ[j]?=some (some v):=by
    cases r:σ[j]? with
    | none=>rw [r] at ev; cases ev
    | some y=>rw [r] at ev; exact congrArg some ev
   rw [ex] at hjc hjf;obtain ⟨m,_,hl⟩:=I.loc;obtain ⟨u,r,lk⟩:=hl j x v hN hσ (.inr (.inl hjc));refine ⟨u,r,?_⟩;have kc:Env.kindOf X.env x=some .cell:=hjc;rcases lk with ⟨k1,_⟩ | ⟨_,c,ec,z⟩
   ·rw [kc] at k1; cases k1
   ·have hfm:=G3 hjf
    have ec':(S4 X.env scope s.heap.objs.size).lookup x=some c:=by
     rw [a1K ⟨c,ec⟩ hfm (λ w=>by cases a5J h hfm w)]; exact ec
    refine .inr ⟨?_,c,ec',?_⟩
    ·have kk:∀ {names:List (Str×NameKind)},names.lookup x=some .free->(names.map λ (n,k)=>if (k==NameKind.free&&X.env.scope.kind==.function&&X.env.kindOf n==some .cell) then (n,NameKind.cell) else (n,k)).lookup x=some .cell:=by
      intro names
      induction names with
      | nil=>intro e; simp at e
      | cons p r ih =>
       obtain ⟨n,k⟩:=p;intro e;rw [cK] at e;rw [bD];dsimp only
       cases hx:x==n with
       | true =>
        rw [hx] at e
        cases e;have hxn:x=n:=by simpa using hx
        subst hxn;rw [if_pos (by rw [I.ok.kind,kc]; rfl),cK];simp
       | false =>
        rw [hx] at e
        by_cases hc:(k==NameKind.free&&X.env.scope.kind==.function&&X.env.kindOf n==some .cell)=true
        ·rw [if_pos hc,cK,hx]; exact ih e
        ·rw [if_neg hc,cK,hx]; exact ih e
     exact .inl (kk hjf)
    ·obtain ⟨o,ho',hd⟩:=z
     exact ⟨o,hkeep _ _ ho',hd⟩
 cell:=λ x c e=>by
  rcases D7 e with z | z
  ·exact ⟨_,(hcl.empty _ _ z.1).1⟩
  ·obtain ⟨v,o,ho',hd⟩:=I.cell x c z.1
   exact ⟨v,o,hkeep _ _ ho',hd⟩
 free:=I.hok.fresh (aF _)
 freeC:=λ x c e=>by
  rcases D7 e with z | z
  ·exact I.hok.fresh (dQ (jD (hcl.empty _ _ z.1).2))
  ·exact I.freeC x c z.1
 pin:=λ p hp=>nomatch hp
 hok:=I.hok.kept hkeep
 len:=by simp [blkσ,frv,blk]
theorem Inv.unblock {pins:List (Addr×Obj)} {σ σ':St} {H H':Hp} {s s':Shared} {fp:List Addr} {C:Addr} (I:Inv X pins σ H s) (hf:∀ b∈fp,W2 X pins H b) (J:Inv (blk X os fr scope C fp s H) [] σ' H' s'):Inv X pins σ H' s' :=
 I.call' J.os J.base J.hok J.bare λ b hb=>⟨(hf b hb).2.2.2.1,(hf b hb).2.1,(hf b hb).2.2.2.2.1,(hf b hb).2.2.2.2.2⟩
theorem Inv.letgo {pins:List (Addr×Obj)} {σ:St} {H H₀:Hp} {s s₀:Shared} {C:Addr} {h':Heap} (I₀:Inv X pins σ₀ H₀ s₀) (I:Inv X pins σ H s) (hn:H C=none) (hC:s₀.heap.objs.size<=C) (hs:Heap.SameBut C s.heap h'):Inv X pins σ H { s with heap:=h' } :=
 I.turned (t':=s.toks) (it:=C) (λ b o hb e=>(hs.2 b hb).trans e) hn (dG (aT I₀.lt hC)) (.inr (aK I₀.sz hC))
  (λ x c e z=>by
   obtain ⟨v,q⟩:=I₀.cell x c e;exact absurd (aT q.lt (by rw [z]; exact hC)) (bL _))
  λ p hp z=>absurd (aT (Heap.lt_size (I₀.pin p hp).1) (by rw [z]; exact hC)) (bL _)
end
def b3V (X:Cx) (ifs:List Expr) (t:TT):Prop :=
 ∀ (pins:List (Addr×Obj)) (s:Shared) (σ:St) (H:Hp) (Q:Bool->Hp->Prop),Inv X pins σ H s->t σ H Q →
  wpAny (model X.prog X.w) X.A (forIn ifs true λ c r=>if r=true then do let ok <- isTrue c X.env (eval c X.env); pure (gH ok) else pure (gH r)) (TP X pins σ Q) X.xe s
def a9a:TT:=λ _ H Q=>Q true H
theorem a5v {X:Cx}:b3V X [] a9a:=λ _ _ _ H _ I h=>wpAny_tests_nil ⟨H,I,h⟩
theorem a9i {X:Cx} {c:Expr} {t:TT} (h:PT X c t):b3V X [c] t:=λ pins s σ H Q I q=>wpAny_tests_one (h pins s σ H Q I q)
theorem a4a {M:Model} {A:Around} {E:Value->Shared->Prop} {s:Shared} {scope:Scope} {globals:Addr} {closure:List (Str×Addr)} {qual:Str} {env:Env} {Q:Env->Shared->Prop}
  (hQ:Q { scope,locals:=s.heap.objs.size,globals,cells:=cellsFrom (s.heap.objs.size+1) scope.names closure,qual,func:=none,code:=env.code,frame:=env.frame,builtins:=env.builtins } { s with heap:=pushCells (s.heap.push { cls:=.type "dict",data:=.dict #[] }) scope.names }) :
  wpAny M A (newFunctionEnv scope globals closure [] qual none .none (some env)) Q E s:=by
 simp only [newFunctionEnv,Option.isSome_some,if_true];refine wpAny_bind (wpAny_alloc ?_);refine wpAny_bind (wpAny_layCells _ (λ name kind cells=>by cases hkc:kind==NameKind.cell <;> simp [hkc]) _ _ _ _ ?_);rw [show ({ s with heap:=s.heap.push { cls:=.type "dict",data:=.dict #[] } }:Shared).heap.objs.size=s.heap.objs.size+1 from Heap.size_push ..];simp only [iC];exact wpAny_bind (wpAny_pure (wpAny_pure hQ))
theorem a4j {prog:Program} {w:World} {A:Around} {R:Result->Shared->Prop} {s:Shared} {elt target iter:Expr} {ifs:List Expr} {scope:Scope} {pos:Pos} {it acc:Value} {env:Env} (I:Nat->Shared->Prop)
  (turn:∀ n s,I n s->wpAny (model prog w) A (pyNext it) (λ r s₁=>match r with
   | none=>R (.ok .next) s₁
   | some v=>wpAny (model prog w) A (letOwnedTupleGo target it v) (λ _ s₀=>wpAny (model prog w) A (assign target env v) (λ _ s₂ =>
     wpAny (model prog w) A (forIn ifs true λ c r=>if r=true then do let ok <- isTrue c env (eval c env); pure (gH ok) else pure (gH r)) (λ ok s₃ =>
      if ok=true then wpAny (model prog w) A (eval elt env) (λ x s₄ =>
       wpAny (model prog w) A (call (.builtin "list.append") [acc,x]) (λ _ s₅=>∃ m,m<n/\I m s₅) (λ _ _=>False) s₄) (λ _ _=>False) s₃
      else ∃ m,m<n/\I m s₃) (λ _ _=>False) s₂) (λ _ _=>False) s₀) (λ _ _=>False) s₁) (λ _ _=>False) s)
  (n:Nat) (h:I n s) :
  codeAny (model prog w) A (.compLoop (.ListComp elt [⟨target,iter,ifs,0⟩] scope pos) 0 it acc env) R s:=by
 refine codeAny_loop rfl I (λ n s hI=>?_) n h
 show wpAny _ A ((compTurn (.ListComp elt [⟨target,iter,ifs,0⟩] scope pos) 0 it acc env).onRaise (λ x=>do noteFrame x env; theTreesLotGoes x)) _ _ s
 refine wpAny_noted ?_;rw [compTurn_list];refine wpAny_bind (wpAny_standAt (wpAny_bind (wpAny_mono (turn n s hI) (λ r s₁ h₁=>?_) λ _ _ h'=>h'.elim)))
 cases r with
 | none=>exact wpAny_pure h₁
 | some v =>
  refine wpAny_bind (wpAny_mono h₁ (λ _ s₀ h₀=>?_) λ _ _ h'=>h'.elim);refine wpAny_bind (wpAny_mono h₀ (λ _ s₂ h₂=>wpAny_bind (wpAny_mono h₂ (λ ok s₃ h₃=>?_) λ _ _ h'=>h'.elim)) λ _ _ h'=>h'.elim)
  cases ok with
  | false=>exact wpAny_pure ⟨rfl,h₃⟩
  | true =>
   exact wpAny_bind (wpAny_bind (wpAny_mono h₃ (λ x s₄ h₄=>wpAny_bind (wpAny_mono h₄ (λ _ s₅ h₅=>wpAny_pure (wpAny_pure ⟨rfl,h₅⟩)) λ _ _ h'=>h'.elim)) λ _ _ h'=>h'.elim))
def lcW (n:Nat) (fr:List Nat) (g:TG) (te:TE) (σ:St) (J:It) (H1:Hp) (p:Addr) (D:Hp->Prop):Prop :=
 ∃ W:Nat->Nat->List V->Hp->Prop,(∃ m,W 0 m [] (r9 H1 p (.lst [])))/\∀ i m ys H,W i m ys H →
  (J.stop i H/\D H)\/(J.go i H/\∀ x H',J.yld i H x H'->g x (blkσ n fr σ) H' λ σ2 H2=>Wk (blkσ n fr σ) σ2/\te σ2 H2 λ v H3=>H3 p=some (.lst ys)/\ys.length<sizeLine/\∃ m',m'<m/\W (i+1) m' (ys++[v]) (r9 H3 p (.lst (ys++[v]))))
def tLC (n:Nat) (fr:List Nat) (wi:TI) (g:TG) (te:TE):TE:=λ σ H Q=>wi σ H λ J H1=>∀ p,H1 p=none->lcW n fr g te σ J H1 p (Q (.ref p))
def lcI (n:Nat) (fr:List Nat) (g:TG) (tc:TT) (te:TE) (σ:St) (J:It) (H1:Hp) (p:Addr) (D:Hp->Prop):Prop :=
 ∃ W:Nat->Nat->List V->Hp->Prop,(∃ m,W 0 m [] (r9 H1 p (.lst [])))/\∀ i m ys H,W i m ys H →
  (J.stop i H/\D H)\/(J.go i H/\∀ x H',J.yld i H x H'->g x (blkσ n fr σ) H' λ σ2 H2=>Wk (blkσ n fr σ) σ2/\tc σ2 H2 λ ok H2' =>
   if ok=true then te σ2 H2' λ v H3=>H3 p=some (.lst ys)/\ys.length<sizeLine/\∃ m',m'<m/\W (i+1) m' (ys++[v]) (r9 H3 p (.lst (ys++[v]))) else ∃ m',m'<m/\W (i+1) m' ys H2')
def b6A (n:Nat) (fr:List Nat) (wi:TI) (g:TG) (tc:TT) (te:TE):TE:=λ σ H Q=>wi σ H λ J H1=>∀ p,H1 p=none->lcI n fr g tc te σ J H1 p (Q (.ref p))
theorem a4R {n:Nat} {fr:List Nat} {g:TG} {te:TE} {σ:St} {J:It} {H1:Hp} {p:Addr} {D:Hp->Prop}:lcI n fr g a9a te σ J H1 p D=lcW n fr g te σ J H1 p D:=by
 unfold lcI lcW a9a;simp only [if_true]
section
variable {X:Cx} {os:List Str} {fr:List Nat} {scope:Scope} {elt tg iter:Expr} {pos:Pos} {wi:TI} {g:TG} {te:TE}
theorem a2O {ifs:List Expr} {tc:TT} {pins:List (Addr×Obj)} {σ:St} {s2:Shared} {D:Addr->Hp->Prop} {itv:Value} {RR:Value->Addr->Result->Shared->Prop}
  (hc:X.calm=true) (hg:∀ C fp s₀ H₀,PG (blk X os fr scope C fp s₀ H₀) tg g) (ht:∀ C fp s₀ H₀,b3V (blk X os fr scope C fp s₀ H₀) ifs tc) (he:∀ C fp s₀ H₀,PE (blk X os fr scope C fp s₀ H₀) elt te)
  (hk:scope.kind=.function) (hok:a1v X.env.scope scope X.N fr=true)
  (h2:PIE X pins σ tg (λ J H1=>∀ p,H1 p=none->lcI os.length fr g tc te σ J H1 p (D p)) itv s2)
  (hRR:∀ p C s3 H3 s' H',Inv X pins σ H3 s3->s3.heap.objs.size=C->H' C=none->Inv X pins σ H' s'->(∃ m,s'.heap.Ns C m)->D p H'->RR (.ref p) C (.ok .next) s') :
  wpAny (model X.prog X.w) X.A (newList []) (λ acc s₃=>wpAny (model X.prog X.w) X.A (newFunctionEnv scope X.env.globals (clo X.env scope.names []) [] X.env.qual none .none (some X.env)) (λ cenv s₄ =>
   codeAny (model X.prog X.w) X.A (.compStart (.ListComp elt [⟨tg,iter,ifs,0⟩] scope pos) 0 itv acc { cenv with scope:=relabel scope X.env }) (RR acc cenv.locals) s₄) X.xe s₃) X.xe s2:=by
 obtain ⟨it,fp,tn,J,H2,e,I2,T,st2,f2,hR⟩:=h2;subst e;refine wpAny_newObj_type ?_;have fresh:H2 s2.heap.objs.size=none:=I2.fresh;obtain ⟨W,⟨m0,w0⟩,turn⟩:=hR s2.heap.objs.size fresh;have I3:Inv X pins σ (r9 H2 s2.heap.objs.size (.lst [])) { s2 with heap:=s2.heap.push { cls:=.type "list",dict:=none,data:=.seq ([]:List Value).toArray } }:=I2.lnew (ys:=[]) (its:=[]) (t':=s2.toks) .nil (cF _);have obj2:=T.obj _ _ st2;have ne2:∀ b∈fp,b≠s2.heap.objs.size:=λ b hb=>by
  obtain ⟨o,e,_⟩:=obj2 b hb;exact bJ (Heap.lt_size e)
 have st3:tn 0 (s2.heap.push { cls:=.type "list",dict:=none,data:=.seq ([]:List Value).toArray }):=T.keep _ _ _ st2 λ b hb o e=>Heap.get?_push_of_some _ e;have f3:∀ b∈fp,W2 X pins (r9 H2 s2.heap.objs.size (.lst [])) b:=λ b hb=>⟨by rw [c9 (ne2 b hb)]; exact (f2 b hb).1,(f2 b hb).2⟩;generalize hs3:({ s2 with heap:=s2.heap.push { cls:=.type "list",dict:=none,data:=.seq ([]:List Value).toArray } }:Shared)=s3 at I3 ⊢;have st3':tn 0 s3.heap:=by rw [<- hs3]; exact st3
 generalize s2.heap.objs.size=p at *;refine a4a ?_;have hns:(pushCells (s3.heap.push { cls:=.type "dict",data:=.dict #[] }) scope.names).Ns s3.heap.objs.size λ _=>none:=(Heap.Ns.new s3.heap (.type "dict")).keeps (pushCells_keeps _ _);have hkeep:∀ b o,s3.heap.get? b=some o->(pushCells (s3.heap.push { cls:=.type "dict",data:=.dict #[] }) scope.names).get? b=some o:=λ b o e=>pushCells_keeps _ _ b o (Heap.get?_push_of_some _ e);have hcl:=cellsFrom_ok scope.names (s3.heap.push { cls:=.type "dict",data:=.dict #[] }) (s3.heap.objs.size+1) [] ⟨λ _ _ hm=>(nomatch hm),lW⟩ (by rw [Heap.size_push]; exact aF _);rw [Heap.size_push] at hcl;generalize pushCells (s3.heap.push { cls:=.type "dict",data:=.dict #[] }) scope.names=h₁ at hns hkeep hcl ⊢;have obj3:∀ b∈fp,∃ o,s3.heap.get? b=some o:=λ b hb=>by
  obtain ⟨o,e,_⟩:=T.obj _ _ st3' b hb;exact ⟨o,e⟩
 have J0:=I3.block (os:=os) (t':=s3.toks) hk hok f3 obj3 (h₁:=h₁) hns hkeep hcl;have ok0:=J0.ok;have fpY:∀ {H':Hp},(∀ b∈fp,H' b=none)->∀ b∈fp,W2 (blk X os fr scope s3.heap.objs.size fp s3 (r9 H2 p (.lst []))) [] H' b:=λ hn b hb =>
  ⟨hn b hb,(ok0.exf b hb).1,ok0.exfs b hb,.inl hb,(ok0.exf b hb).2,λ q hq=>nomatch hq⟩
 have st4:tn 0 h₁:=T.keep _ _ _ st3' λ b hb o e=>hkeep b o e;have fr0:∀ b∈fp,r9 H2 p (.lst []) b=none:=λ b hb=>(f3 b hb).1;have loop:∀ s4:Shared,s4={ s3 with heap:=h₁,toks:=s3.toks } →
   codeAny (model X.prog X.w) X.A (.compLoop (.ListComp elt [⟨tg,iter,ifs,0⟩] scope pos) 0 (.ref it) (.ref p) (compEnvC scope (S4 X.env scope s3.heap.objs.size) s3.heap.objs.size X.env)) (RR (.ref p) s3.heap.objs.size) s4:=by
  rintro s4 rfl;refine a4j (λ n s'=>∃ i ys H',Inv (blk X os fr scope s3.heap.objs.size fp s3 (r9 H2 p (.lst []))) [] (blkσ os.length fr σ) H' s'/\tn i s'.heap/\(∀ b∈fp,H' b=none)/\W i n ys H') ?_ m0 ⟨0,[],_,J0,st4,fr0,w0⟩;rintro n s5 ⟨i,ys,H5,I5,st5,fr5,w5⟩;rcases turn i n ys H5 w5 with ⟨stop,qd⟩ | ⟨go,step⟩
  ·refine y9 (T.done (blk X os fr scope s3.heap.objs.size fp s3 (r9 H2 p (.lst []))) rfl rfl rfl hc i [] s5 _ H5 (λ _ _=>False) I5 (fpY fr5) st5 stop) λ r s6 ⟨hr,I6⟩=>?_
   subst hr;exact hRR p _ s3 _ s6 H5 I3 rfl I6.free (I3.unblock f3 I6) (let ⟨m,hm,_⟩:=I6.loc; ⟨m,hm⟩) qd
  ·refine y9 (T.item (blk X os fr scope s3.heap.objs.size fp s3 (r9 H2 p (.lst []))) rfl rfl rfl hc i [] s5 _ H5 (λ _ _=>False) I5 (fpY fr5) st5 go) λ r s6 ⟨u,hr,h6⟩=>?_
   subst hr;refine y9 h6 λ _ s7 ⟨x,H7,I7,r7,y7,st7,fr7⟩=>?_;have I7':=I7.pinned (fpY fr7) (T.obj _ _ st7);refine y9 (hg _ _ _ _ _ s7 _ H7 x u _ I7' r7 (step x H7 y7)) λ _ s8 ⟨σ8,H8,I8,wk8,q8⟩=>?_;have again:∀ {H':Hp} {s':Shared} {zs:List V} {m':Nat},Inv (blk X os fr scope s3.heap.objs.size fp s3 (r9 H2 p (.lst []))) ([]++a2w fp s7.heap) σ8 H' s'->m'<n->W (i+1) m' zs H' →
     ∃ m,m<n/\∃ i ys H',Inv (blk X os fr scope s3.heap.objs.size fp s3 (r9 H2 p (.lst []))) [] (blkσ os.length fr σ) H' s'/\tn i s'.heap/\(∀ b∈fp,H' b=none)/\W i m ys H':=λ {H' s' zs m'} J' hm' w'=>by
    refine ⟨m',hm',i+1,zs,H',(J'.weak wk8.1.symm λ i v e=>wk8.2 i v e).unpinned,T.keep _ _ _ st7 λ b hb o e=>(J'.pin (b,o) (cA _ (cA _ (V7 hb e)))).1,λ b hb=>?_,w'⟩;obtain ⟨o,e,d⟩:=T.obj _ _ st7 b hb;exact (J'.pin (b,o) (cA _ (cA _ (V7 hb e)))).2.1
   refine y9 (ht _ _ _ _ _ s8 σ8 H8 _ I8 q8) λ ok s9 ⟨H9,I9,q9⟩=>?_
   cases ok with
   | false =>
    obtain ⟨m',hm',w9⟩:=q9;exact again I9 hm' w9
   | true =>
    refine y9 (he _ _ _ _ _ s9 σ8 H9 _ I9 q9) λ y s10 ⟨v,H10,I10,r10,hp10,hz10,m',hm',w10⟩=>?_;refine y9 (O4 (X:=blk X os fr scope s3.heap.objs.size fp s3 (r9 H2 p (.lst []))) _ s10 σ8 H10 (.ref p) [v] (.ref p) [y] (λ _ H'=>H'=r9 H10 p (.lst (ys++[v]))) I10 rfl (.cons r10 .nil) ⟨p,ys,v,rfl,rfl,hp10,hz10,rfl⟩) λ _ s11 ⟨_,H11,I11,_,e11⟩=>?_;subst e11;exact again I11 hm' w10
 exact codeAny_compStart_list (loop _ rfl) (T.self _ 0 _ _ _ st4 (loop _ rfl))
theorem R1 (os:List Str) (fr:List Nat) (hc:X.calm=true) (hi:PI X tg iter wi) (hg:∀ C fp s₀ H₀,PG (blk X os fr scope C fp s₀ H₀) tg g) (he:∀ C fp s₀ H₀,PE (blk X os fr scope C fp s₀ H₀) elt te)
  (hk:scope.kind=.function:=by rfl) (hok:a1v X.env.scope scope X.N fr=true:=by rfl) (hs:∀ x,foldedSetIterable iter X.env x=pure x:=by intro _; rfl) :
  PE X (.ListComp elt [⟨tg,iter,[],0⟩] scope pos) (tLC os.length fr wi g te):=by
 intro pins s σ H Q I h;unfold tLC at h;simp only [<- a4R] at h;rw [eval_ListComp];refine wpAny_comprehension_free (use:=none) rfl hs (K4 (Z7 I hok)) hk (λ x hx hl=>by have:=(T9 hok x hx).1; rw [hl] at this; exact this) (y9 (hi pins s σ H _ I h) λ v s1 h1=>y9 h1 λ itv s2 h2=>?_);refine a2O (os:=os) (D:=λ p H'=>Q (.ref p) H') (RR:=λ acc C=>compPost (model X.prog X.w) X.A X.xe none (EP X pins σ Q) acc C) hc hg (λ _ _ _ _=>a5v) he hk hok h2 ?_;intro p C s3 H3 s' H' I3 eC hn I' ⟨m,hm⟩ q;refine ⟨m,hm,λ h' hs'=>⟨.ref p,H',I3.letgo I' hn (by omega) hs',rfl,q⟩⟩
theorem a5x {i:Nat} {x:Str} {pos' spos:Pos} (os:List Str) (fr:List Nat) (hN:X.N.Nodup) (hi':X.N[i]?=some x) (hx:X.env.scope.names.lookup x=some .local)
  (hc:X.calm=true) (hi:PI X tg iter wi) (hg:∀ C fp s₀ H₀,PG (blk X os fr scope C fp s₀ H₀) tg g) (he:∀ C fp s₀ H₀,PE (blk X os fr scope C fp s₀ H₀) elt te)
  (hsw:swapsWith (.ListComp elt [⟨tg,iter,[],0⟩] scope pos) (some (.Name x pos')) spos.line X.env=pure true:=by rfl)
  (hk:scope.kind=.function:=by rfl) (hok:a1v X.env.scope scope X.N fr=true:=by rfl) (hs:∀ x,foldedSetIterable iter X.env x=pure x:=by intro _; rfl) :
  PS X (.Assign [.Name x pos'] (.ListComp elt [⟨tg,iter,[],0⟩] scope pos) spos) (a4A (tLC os.length fr wi g te) (Q5 i)):=by
 intro pins s σ H D I h;unfold a4A tLC at h;simp only [<- a4R] at h;rw [exec_Assign_Name_used _ _ _ _ hsw];refine wpAny_bind (wpAny_standAt (wpAny_bind ?_))
 show wpAny _ X.A (do let _ <- comprehension (.ListComp elt [⟨tg,iter,[],0⟩] scope pos) scope X.env _ (newList []) false (eval iter X.env) (some (assign (.Name x pos') X.env))) _ _ s
 refine wpAny_bind (wpAny_mono (wpAny_comprehension_free (use:=some (assign (.Name x pos') X.env)) (Q:=λ _ s'=>SP X pins D .next s') rfl hs (K4 (Z7 I hok)) hk (λ x hx hl=>by have:=(T9 hok x hx).1; rw [hl] at this; exact this)
  (y9 (hi pins s σ H _ I h) λ v s1 h1=>y9 h1 λ itv s2 h2=>?_)) (λ _ s' hq=>wpAny_pure (wpAny_pure hq)) λ _ _ e=>e)
 refine a2O (os:=os) (D:=λ p H'=>D.nx (σ.set i (some (.ref p))) H') (RR:=λ acc C=>compPost (model X.prog X.w) X.A X.xe (some (assign (.Name x pos') X.env)) (λ _ s'=>SP X pins D .next s') acc C) hc hg (λ _ _ _ _=>a5v) he hk hok h2 ?_;intro p C s3 H3 s' H' I3 eC hn I' ⟨m,hm⟩ q
 show wpAny _ X.A (assign (.Name x pos') X.env (.ref p)) _ _ _
 refine wpAny_assign_Name (a1n (v:=.ref p) I' hN hi' (.inl hx) rfl (λ s'' I'' ⟨a,hsa,ha⟩=>?_) (.inr hx));have hCa:C≠a:=by
  rcases ha with e | e
  ·rw [e]; exact dG (by rw [<- eC]; exact I3.lt)
  ·obtain ⟨v,z⟩:=I3.cell x a e
   exact dG (by rw [<- eC]; exact z.lt)
 exact ⟨m,hm.sameBut hsa hCa,λ h' hs'=>⟨_,H',I3.letgo I'' hn (by omega) hs',q⟩⟩
end
section
variable {X:Cx} {pins:List (Addr×Obj)} {σ:St} {H:Hp} {s:Shared} {a:Addr} {xs:List V}
abbrev SqA (K:W.Frag) (H:Hp) (a:Addr) (xs:List V):Prop:=SqL K H a xs\/SqT K H a xs
theorem a7f {h':Heap} {o:Obj} {h:Heap} (hk:∀ b x,b ∉ [h.objs.size]->(h.push o).get? b=some x->h'.get? b=some x):∀ b x,h.get? b=some x->h'.get? b=some x :=
 λ b x e=>hk b x (λ hm=>by rw [aQ.mp hm] at e; exact bL _ (Heap.lt_size e)) (Heap.get?_push_of_some _ e)
theorem a4Z (hc:X.calm=true) (I:Inv X pins σ H s) (h:SqA X.K H a xs):∃ its:List Value,Vals xs its/\∀ (Q:Value->Shared->Prop) (E:Value->Shared->Prop),
  (∀ (o:Obj) (St:Nat->Heap->Prop),Walks X.prog X.w X.A.in1 s.heap.objs.size [s.heap.objs.size,a] [s.heap.objs.size] its.toArray.size (λ i v=>its.toArray[i]?=some v) St->St 0 (s.heap.push o) →
   (∀ b∈[s.heap.objs.size,a],b<(s.heap.push o).objs.size)->Q (.ref s.heap.objs.size) { s with heap:=s.heap.push o })->wpAny (model X.prog X.w) X.A.in1 (pyIter (.ref a)) Q E s:=by
 have hh:=I.ok.hd hc;have lt2:∀ (o:Obj),a<s.heap.objs.size->∀ b∈[s.heap.objs.size,a],b<(s.heap.push o).objs.size:=λ o hlt b hb=>by
  rw [Heap.size_push];rcases aO.mp hb with rfl | hb
  ·exact eL _
  ·rw [aQ.mp hb]; exact fK hlt
 rcases h with h | h
 ·obtain ⟨its,r,p,hz⟩:=I.list h
  have hl:=p.isList;have hlt:a<s.heap.objs.size:=by obtain ⟨_,e,_⟩:=hl; exact Heap.lt_size e
  refine ⟨its,r,λ Q E hQ=>wpAny_pyIter_list hl ?_⟩;exact hQ _ _ (Walks.list (A:=X.A.in1) hh _ a (bJ hlt) its.toArray) ⟨⟨_,Heap.get?_push_size _ rfl,rfl,rfl⟩,hl.push _⟩ (lt2 _ hlt)
 ·obtain ⟨its,r,p,hz⟩:=I.tuple h
  have hl:s.heap.IsTuple a its.toArray:=p;have hlt:a<s.heap.objs.size:=by obtain ⟨_,e,_⟩:=hl; exact Heap.lt_size e
  refine ⟨its,r,λ Q E hQ=>wpAny_pyIter_tuple hl ?_⟩;exact hQ _ _ (Walks.tuple (A:=X.A.in1) hh _ a (bJ hlt) its.toArray) ⟨⟨_,Heap.get?_push_size _ rfl,rfl,rfl⟩,hl.push _⟩ (lt2 _ hlt)
theorem a6x {ys:List V} {its:List Value} (r:Vals ys its) {i:Nat} {v:Value} (e:its.toArray[i]?=some v):∃ y,ys[i]?=some y/\RelV y v:=by
 have e':its[i]?=some v:=by simpa using e
 cases q:ys[i]? with
 | none=>rw [r.none_of q] at e'; cases e'
 | some y =>
  obtain ⟨u,h1,h2⟩:=r.get q;rw [e'] at h1; cases h1;exact ⟨y,rfl,h2⟩
theorem a5E (bs:List Bool):((aH bs.length).all λ i=>(bs[i]?).getD true)=bs.all id:=by
 rw [dR,dB,dB];constructor
 ·intro h b hb
  obtain ⟨i,hi,e⟩:=jE hb;have:=h i (cV.mpr hi);simp only [aG hi,dN,e] at this;exact this
 ·intro h i hi
  have hi':=cV.mp hi;simp only [aG hi',dN];exact h _ (dH hi')
theorem a5F (bs:List Bool):((aH bs.length).any λ i=>(bs[i]?).getD false)=bs.any id:=by
 rw [dR,fL,fL];constructor
 ·rintro ⟨i,hi,e⟩
  have hi':=cV.mp hi;simp only [aG hi',dN] at e;exact ⟨_,dH hi',e⟩
 ·rintro ⟨b,hb,e⟩
  obtain ⟨i,hi,rfl⟩:=jE hb;exact ⟨i,cV.mpr hi,by simp only [aG hi,dN]; exact e⟩
end
section
variable {X:Cx}
theorem a5k (hc:X.calm=true):G9 X (.builtin "all") (λ vs H Q=>∃ (a:Addr) (bs:List Bool),vs=[.ref a]/\SqA X.K H a (bs.map V.bl)/\Q (.bl (bs.all id)) H):=by
 intro pins s σ H vs us Q I r h;obtain ⟨a,bs,rfl,hs,q⟩:=h;obtain ⟨u,rfl,ru⟩:=Q8 r
 cases ru;obtain ⟨its,rv,walk⟩:=a4Z hc I hs;have hlen:its.toArray.size=bs.length:=by rw [bC,<- rv.length,aA]
 refine call_all_walk (walk _ _ λ o St W st fp=>?_);refine ⟨_,_,_,_,_,_,λ i=>(bs[i]?).getD true,rfl,W,st,λ i v s' Q' E' hP hQ=>?_,λ h' tk hk=>?_⟩
 ·obtain ⟨y,e,ry⟩:=a6x rv hP
  rw [aE] at e
  cases eb:bs[i]? with
  | none=>rw [eb] at e; cases e
  | some b =>
   rw [eb] at e; cases e
   cases ry;simp only [eb,dN] at hQ;exact wpAny_truthy_bool hQ
 ·rw [hlen,a5E bs]
  exact ⟨.bl _,H,I.kept (a7f hk),rfl,q⟩
theorem a5h (hc:X.calm=true):G9 X (.builtin "any") (λ vs H Q=>∃ (a:Addr) (bs:List Bool),vs=[.ref a]/\SqA X.K H a (bs.map V.bl)/\Q (.bl (bs.any id)) H):=by
 intro pins s σ H vs us Q I r h;obtain ⟨a,bs,rfl,hs,q⟩:=h;obtain ⟨u,rfl,ru⟩:=Q8 r
 cases ru;obtain ⟨its,rv,walk⟩:=a4Z hc I hs;have hlen:its.toArray.size=bs.length:=by rw [bC,<- rv.length,aA]
 refine call_any_walk (walk _ _ λ o St W st fp=>?_);refine ⟨_,_,_,_,_,_,λ i=>(bs[i]?).getD false,rfl,W,st,λ i v s' Q' E' hP hQ=>?_,λ h' tk hk=>?_⟩
 ·obtain ⟨y,e,ry⟩:=a6x rv hP
  rw [aE] at e
  cases eb:bs[i]? with
  | none=>rw [eb] at e; cases e
  | some b =>
   rw [eb] at e; cases e
   cases ry;simp only [eb,dN] at hQ;exact wpAny_truthy_bool hQ
 ·rw [hlen,a5F bs]
  exact ⟨.bl _,H,I.kept (a7f hk),rfl,q⟩
theorem a1I:G9 X (.builtin "isinstance") (λ vs H Q=>∃ x t n b,vs=[x,.ty n]/\a1m X.K H x t/\W.kitOne X.K t (.type n)=some b/\Q (.bl b) H):=by
 intro pins s σ H vs us Q I r h;obtain ⟨x,t,n,b,rfl,ty,e,q⟩:=h;obtain ⟨u,v,rfl,ru,rv⟩:=a5f r
 cases rv;exact a8q I ru ty e λ tk=>⟨.bl b,H,I.tok _,rfl,q⟩
end
mutual
inductive Dp (K:W.Frag) (H:Hp):V->PyData->Prop
 | non:Dp K H .non .none
 | bl (b:Bool):Dp K H (.bl b) (.bool b)
 | int (i:Int):Dp K H (.int i) (.int i)
 | str (x:Str):Dp K H (.str x) (.str x)
 | lst {a:Addr} {xs:List V} {ds:List PyData}:SqL K H a xs->Dps K H xs ds->Dp K H (.ref a) (.list ds)
 | tup {a:Addr} {xs:List V} {ds:List PyData}:SqT K H a xs->Dps K H xs ds->Dp K H (.ref a) (.tuple ds)
inductive Dps (K:W.Frag) (H:Hp):List V->List PyData->Prop
 | nil:Dps K H [] []
 | cons {x:V} {xs:List V} {d:PyData} {ds:List PyData}:Dp K H x d->Dps K H xs ds->Dps K H (x::xs) (d::ds)
end
theorem Same.tseq {K:W.Frag} {H H':Hp} {a:Addr} {xs:List V} (e:Same H H') (h:SqT K H a xs):SqT K H' a xs:=by
 rcases h with (h | ⟨o,h⟩) | h
 ·exact .inl (.inl (e _ _ h))
 ·exact .inl (.inr ⟨o,e _ _ h⟩)
 ·exact .inr h
mutual
theorem Dp.same {K:W.Frag} {H H':Hp} (e:Same H H'):∀ {x:V} {d:PyData},Dp K H x d->Dp K H' x d
 | _,_,.non=>.non
 | _,_,.bl b=>.bl b
 | _,_,.int i=>.int i
 | _,_,.str x=>.str x
 | _,_,.lst h r=>.lst (e.seq h) (Dps.same e r)
 | _,_,.tup h r=>.tup (e.tseq h) (Dps.same e r)
theorem Dps.same {K:W.Frag} {H H':Hp} (e:Same H H'):∀ {xs:List V} {ds:List PyData},Dps K H xs ds->Dps K H' xs ds
 | _,_,.nil=>.nil
 | _,_,.cons a r=>.cons (Dp.same e a) (Dps.same e r)
end
section
variable {X:Cx} {pins:List (Addr×Obj)} {σ:St} {H:Hp} {s:Shared}
mutual
theorem Dp.reads (I:Inv X pins σ H s):∀ {x:V} {d:PyData},Dp X.K H x d->∀ {u:Value},RelV x u->∃ as,Reads s.heap u d as
 | _,_,.non,u,r=>by cases r; exact ⟨_,.none⟩
 | _,_,.bl b,u,r=>by cases r; exact ⟨_,.bool b⟩
 | _,_,.int i,u,r=>by obtain ⟨t,rfl⟩:=r; exact ⟨_,.int i t⟩
 | _,_,.str x,u,r=>by obtain ⟨t,rfl⟩:=r; exact ⟨_,.str x t⟩
 | _,_,.lst h q,u,r=>by
  cases r;obtain ⟨its,rv,p,hz⟩:=I.list h;obtain ⟨o,e1,e2,n,e3⟩:=p.isList;obtain ⟨as,ra⟩:=Dps.reads I q rv;exact ⟨_,.list e1 e2 e3 (by simpa using ra)⟩
 | _,_,.tup h q,u,r=>by
  cases r;obtain ⟨its,rv,p,hz⟩:=I.tuple h;obtain ⟨o,e1,e2,n,e3⟩:=(show s.heap.IsTuple _ its.toArray from p);obtain ⟨as,ra⟩:=Dps.reads I q rv;exact ⟨_,.tuple e1 e2 e3 (by simpa using ra)⟩
theorem Dps.reads (I:Inv X pins σ H s):∀ {xs:List V} {ds:List PyData},Dps X.K H xs ds->∀ {us:List Value},Vals xs us->∃ as,ReadsAll s.heap us ds as
 | _,_,.nil,us,r=>by cases r; exact ⟨_,.nil⟩
 | _,_,.cons a q,us,r=>by
  cases r with
  | cons r1 r2 =>
   obtain ⟨as,h1⟩:=Dp.reads I a r1;obtain ⟨bs,h2⟩:=Dps.reads I q r2;exact ⟨_,.cons h1 h2⟩
end
end
section
variable {X:Cx}
def b5I (K:W.Frag):R2:=λ x y H Q=>∃ d e,Dp K H x d/\Dp K H y e/\d.canLay0=true/\e.canLay0=true/\min d.depth e.depth<=60/\Q (.bl (PyData.eqv d e)) H
def b3G (K:W.Frag):R2:=λ x y H Q=>∃ d e,Dp K H x d/\Dp K H y e/\d.canLay0=true/\e.canLay0=true/\min d.depth e.depth<=60/\Q (.bl (!PyData.eqv d e)) H
theorem b0E {k:Nat} (hr:Room k X.A):W5 X (compareOp .Eq) (b5I X.K):=by
 intro pins s σ H x y v u Q I rx ry h;obtain ⟨d,e,h1,h2,c1,c2,hd,q⟩:=h;obtain ⟨as,r1⟩:=h1.reads I rx;obtain ⟨bs,r2⟩:=h2.reads I ry;exact SeqAt.compareEq_reads r1 r2 c1 c2 (by have:=hr.units; omega) ⟨.bl _,H,I,rfl,q⟩
theorem a0s {k:Nat} (hr:Room k X.A):W5 X (compareOp .NotEq) (b3G X.K):=by
 intro pins s σ H x y v u Q I rx ry h;obtain ⟨d,e,h1,h2,c1,c2,hd,q⟩:=h;obtain ⟨as,r1⟩:=h1.reads I rx;obtain ⟨bs,r2⟩:=h2.reads I ry;exact SeqAt.compareNe_reads r1 r2 c1 c2 (by have:=hr.units; omega) ⟨.bl _,H,I,rfl,q⟩
end
theorem Same.new {H:Hp} {p:Addr} (h:H p=none) (o:HO):Same H (r9 H p o):=λ b u q=>by rw [c9 (c8 q h)]; exact q
theorem Wk.set {n:Nat} {fr:List Nat} {σ:St} {i:Nat} {v:V} (hi:i<n):Wk (blkσ n fr σ) ((blkσ n fr σ).set i (some v)):=by
 refine ⟨by simp,λ j w e=>?_⟩
 by_cases hj:j=i
 ·subst hj
  unfold blkσ at e;rw [bV (by simpa using hi),dW] at e
  split at e <;> cases e
 ·rw [bM (aS hj)]; exact e
structure a5T (J:It) (H1:Hp) (xs:List V):Prop where
 go:∀ i H,Same H1 H->i<xs.length->J.go i H
 yld:∀ i H x H',Same H1 H->i<xs.length->J.yld i H x H'->H'=H/\xs[i]?=some x
 stop:∀ H,Same H1 H->J.stop xs.length H
theorem C2 {K:W.Frag} {a:Addr} {xs:List V} {H1:Hp} (h:SqL K H1 a xs):a5T (Itl K a) H1 xs :=
 ⟨λ i H e hi=>⟨xs,xs[i],e.seq h,aG hi⟩,λ i H x H' e hi y=>⟨y.1,y.2 xs (e.seq h)⟩,λ H e=>⟨xs,e.seq h,aF _⟩⟩
theorem a1b {K:W.Frag} {a:Addr} {xs:List V} {H1:Hp} (h:SqT K H1 a xs):a5T (Itt K a) H1 xs :=
 ⟨λ i H e hi=>⟨xs,xs[i],e.tseq h,aG hi⟩,λ i H x H' e hi y=>⟨y.1,y.2 xs (e.tseq h)⟩,λ H e=>⟨xs,e.tseq h,aF _⟩⟩
theorem a6n {lo:Int} {n:Nat} {H1:Hp}:a5T (Itr lo n) H1 ((aH n).map λ (i:Nat)=>V.int (lo+(i:Int))) :=
 ⟨λ i H e hi=>(show i<n from by simpa using hi),λ i H x H' e hi y=>⟨y.1,by rw [y.2,aE,bF (by simpa using hi)]; rfl⟩,λ H e=>by simp [Itr]⟩
theorem Paired.app {α β:Type} {F:α->β->Prop}:∀ {a c:List α} {b d:List β},Paired F a b->Paired F c d->Paired F (a++c) (b++d)
 | _,_,_,_,.nil,s=>s
 | _,_,_,_,.cons r t,s=>.cons r (Paired.app t s)
section
variable {xs:List V} {J:It} {n:Nat} {fr:List Nat} {g:TG} {te:TE} {σ:St} {H1:Hp} {p:Addr} {D:Hp->Prop}
theorem a0w (hJ:a5T J H1 xs) (hp:H1 p=none) (hz:xs.length<sizeLine) (F:V->V)
  (step:∀ (i:Nat) x H (N:VK),xs[i]?=some x->Same H1 H->N (F x) H->g x (blkσ n fr σ) H λ σ2 H2=>Wk (blkσ n fr σ) σ2/\te σ2 H2 N)
  (hd:D (r9 H1 p (.lst (xs.map F)))):lcW n fr g te σ J H1 p D:=by
 refine ⟨λ i m ys H=>m=xs.length - i/\i<=xs.length/\ys=(xs.take i).map F/\H=r9 H1 p (.lst ys),⟨xs.length,by simp,cF _,by simp,rfl⟩,?_⟩;rintro i m ys H ⟨rfl,hi,rfl,rfl⟩;have e:=Same.new (o:=.lst ((xs.take i).map F)) hp
 by_cases hlt:i<xs.length
 ·refine .inr ⟨hJ.go i _ e hlt,λ x H' y=>?_⟩
  obtain ⟨rfl,hx⟩:=hJ.yld i _ x H' e hlt y;refine step i x _ _ hx e ⟨upd_same,by rw [aA,cI]; omega,xs.length - (i+1),by omega,rfl,hlt,?_,V5⟩;rw [jF,hx,bP]; rfl
 ·have:i=xs.length:=by omega
  subst this;refine .inl ⟨hJ.stop _ e,?_⟩;rw [iD (aF _)]; exact hd
theorem O3 (hJ:a5T J H1 xs) (hp:H1 p=none) (hz:xs.length<sizeLine) (R:Nat->V->Hp->Prop) (hR:∀ i y H H',R i y H->(∀ b o,b≠p->H b=some o->H' b=some o)->R i y H')
  (step:∀ (i:Nat) x H ys (N:VK),xs[i]?=some x->Same H1 H->H p=some (.lst ys)->(∀ v H3,Same H H3->R i v H3->N v H3)->g x (blkσ n fr σ) H λ σ2 H2=>Wk (blkσ n fr σ) σ2/\te σ2 H2 N)
  (hd:∀ ys H,Same H1 H->H p=some (.lst ys)->ys.length=xs.length->(∀ i y,ys[i]?=some y->R i y H)->D H):lcW n fr g te σ J H1 p D:=by
 refine ⟨λ i m ys H=>m=xs.length - i/\i<=xs.length/\Same H1 H/\H p=some (.lst ys)/\ys.length=i/\∀ j y,ys[j]?=some y->R j y H,⟨xs.length,by simp,cF _,Same.new hp _,upd_same,rfl,λ j y e=>by simp at e⟩,?_⟩;rintro i m ys H ⟨rfl,hi,e,hH,len,pr⟩
 by_cases hlt:i<xs.length
 ·refine .inr ⟨hJ.go i _ e hlt,λ x H' y=>?_⟩
  obtain ⟨rfl,hx⟩:=hJ.yld i _ x H' e hlt y;refine step i x _ ys _ hx e hH λ v H3 s3 r3=>⟨s3 _ _ hH,by omega,xs.length - (i+1),by omega,rfl,hlt,λ b o q=>?_,upd_same,by rw [aI,len]; rfl,λ j y ey=>?_⟩
  ·rw [c9 (c8 q hp)]; exact s3 _ _ (e _ _ q)
  ·have up:∀ b o,b≠p->H3 b=some o->r9 H3 p (.lst (ys++[v])) b=some o:=λ b o hb q=>by rw [c9 hb]; exact q
   by_cases hj:j<ys.length
   ·rw [bV hj] at ey
    exact hR j y _ _ (pr j y ey) λ b o hb q=>up b o hb (s3 _ _ q)
   ·rw [cP (by omega)] at ey
    have hj':j - ys.length=0:=by
     cases q:j - ys.length with
     | zero=>rfl
     | succ k=>rw [q] at ey; simp at ey
    rw [hj'] at ey;have:j=i:=by omega
    subst this;simp at ey;subst ey;exact hR j v _ _ r3 up
 ·have:i=xs.length:=by omega
  subst this;exact .inl ⟨hJ.stop _ e,hd ys H e hH len pr⟩
end
theorem Inv.turnedLaid {X:Cx} {pins:List (Addr×Obj)} {σ:St} {H:Hp} {s:Shared} {h':Heap} {fp:List Addr} {T:Addr} {xs:List V} {its:List Value} (I:Inv X pins σ H s) (hf:∀ b∈fp,W2 X pins H b)
  (k:∀ b o,b ∉ fp->s.heap.get? b=some o->h'.get? b=some o) (ho:∀ b∈fp,∃ o,h'.get? b=some o) (hT:s.heap.objs.size<=T) (hz:xs.length<=sizeLine) (hv:Vals xs its) (ht:IsTup h' T its.toArray) :
  Inv X pins σ (r9 H T (.tup xs)) { s with heap:=h' }:=by
 have hTn:H T=none:=I.hok.fresh hT;have neT:∀ b o,s.heap.get? b=some o->b≠T:=λ b o e=>bJ (aT (Heap.lt_size e) hT);refine I.step (g':=s.gens) (t':=s.toks) (d':=s.drawn) (ch:=fp) (λ b hb=>⟨(hf b hb).2.2.2.1,(hf b hb).2.1,(hf b hb).2.2.2.2.1,(hf b hb).2.2.2.2.2⟩) (λ b o _ _ hc e _=>k b o hc e) (λ b o _ _ hc e _=>⟨o.slots,k b o hc e⟩)
  (λ b o hc e n=>by rw [c9 (neT b o e)]; exact n) (λ b o hc e=>⟨o,k b o hc e⟩) (λ b ys e=>by rw [c9 (c8 e hTn)]; exact e) (λ b o u e=>by rw [c9 (c8 e hTn)]; exact e) (λ b ps e=>⟨#[],by rw [c9 (c8 e hTn),e]; simp⟩)
  (λ m hm=>?_) (λ b u e=>?_) I.bare
 ·obtain ⟨o,es,ep,e1,r⟩:=hm
  exact ⟨o,es,ep,k _ o (λ z=>(hf _ z).2.1 rfl) e1,r⟩
 ·by_cases hb:b=T
  ·subst hb; rw [upd_same] at e; cases e
   exact ⟨hz,its,hv,ht⟩
  ·rw [c9 hb] at e
   have nit:∀ c u,H c=some u->c ∉ fp:=λ c u q z=>by rw [(hf c z).1] at q; cases q
   refine (I.hok b u e).stay (λ c v hc q=>k c v ?_ q) (λ c q=>by rw [c9 (c8 q hTn)]; exact q) λ c ys q=>by rw [c9 (c8 q hTn)]; exact q
   rcases hc with z | z
   ·rw [z]; exact nit b u e
   ·exact nit c _ z
theorem Inv.turnedAll {X:Cx} {pins:List (Addr×Obj)} {σ:St} {H:Hp} {s:Shared} {h':Heap} {fp:List Addr} (I:Inv X pins σ H s) (hf:∀ b∈fp,W2 X pins H b)
  (k:∀ b o,b ∉ fp->s.heap.get? b=some o->h'.get? b=some o):Inv X pins σ H { s with heap:=h' }:=by
 refine I.step (g':=s.gens) (t':=s.toks) (d':=s.drawn) (ch:=fp) (λ b hb=>⟨(hf b hb).2.2.2.1,(hf b hb).2.1,(hf b hb).2.2.2.2.1,(hf b hb).2.2.2.2.2⟩) (λ b o _ _ hc e _=>k b o hc e) (λ b o _ _ hc e _=>⟨o.slots,k b o hc e⟩)
  (λ b o hc e n=>n) (λ b o hc e=>⟨o,k b o hc e⟩) (λ b ys e=>e) (λ b o u e=>e) (λ b ps e=>⟨#[],by rw [e]; simp⟩)
  (λ m hm=>?_) (λ b u e=>?_) I.bare
 ·obtain ⟨o,es,ep,e1,r⟩:=hm
  exact ⟨o,es,ep,k _ o (λ z=>(hf _ z).2.1 rfl) e1,r⟩
 ·have nit:∀ c u,H c=some u->c ∉ fp:=λ c u q z=>by rw [(hf c z).1] at q; cases q
  refine (I.hok b u e).stay (λ c v hc q=>k c v ?_ q) (λ c q=>q) λ c ys q=>q;rcases hc with z | z
  ·rw [z]; exact nit b u e
  ·exact nit c _ z
theorem b3n (n l1 l2:Nat) (h1:l1<n) (h2:l2<n):ZipApart (n+4) (n+2) (n+3) n (n+1) l1 l2 where
 TIz:=(by omega:(n+2:Nat)≠n+4)
 TOz:=(by omega:(n+3:Nat)≠n+4)
 i1z:=(by omega:(n:Nat)≠n+4)
 i2z:=(by omega:(n+1:Nat)≠n+4)
 TITO:=(by omega:(n+2:Nat)≠n+3)
 TIi1:=(by omega:(n+2:Nat)≠n)
 TIi2:=(by omega:(n+2:Nat)≠n+1)
 TOi1:=(by omega:(n+3:Nat)≠n)
 TOi2:=(by omega:(n+3:Nat)≠n+1)
 i12:=(by omega:(n:Nat)≠n+1)
 l1z:=(by omega:(l1:Nat)≠n+4)
 l1TO:=(by omega:(l1:Nat)≠n+3)
 l1i1:=(by omega:(l1:Nat)≠n)
 l1i2:=(by omega:(l1:Nat)≠n+1)
 l2z:=(by omega:(l2:Nat)≠n+4)
 l2TO:=(by omega:(l2:Nat)≠n+3)
 l2i1:=(by omega:(l2:Nat)≠n)
 l2i2:=(by omega:(l2:Nat)≠n+1)
section
variable {X:Cx}
def b5z (i j:Int):Prop:=0<j/\j<2 ^ 8000
theorem log2_lt {y:Nat} (h:y<2 ^ 8000):y.log2<9000:=by
 by_cases h0:y=0
 ·subst h0; decide
 ·exact aT ((fM h0).mpr h) (by decide)
theorem a2j:W5 X (binaryOp .FloorDiv) (rI b5z λ i j=>.int (i / j)):=opI λ i j _ _ _ _ _ hc q=>by
 have h0:j≠0:=by have:=hc.1; omega
 have e:i.fdiv j=i / j:=iS i (aX hc.1);refine floordiv_int h0 (by rw [e]; exact q) (.inl (PyProof.noPylong_of_log2 (log2_lt ?_)));have:=hc.1;have:=hc.2;omega
def Big (n:Nat) (i:Int):Prop:=i.natAbs<2 ^ n
def b5Q (i j:Int):Prop:=Big 1000000 i/\Big 1000000 j
theorem a6O {i:Int} (h:Big 1000000 i):Builtin.Int.intBits i<=2 ^ 20:=by
 unfold Builtin.Int.intBits
 split
 ·exact cF _
 ·rename_i h0
  have h0':i.natAbs≠0:=by
   intro z;exact h0 (by rw [Int.natAbs_eq_zero.mp z]; rfl)
  have:=(fM h0').mpr h;omega
theorem a2a:W5 X (binaryOp .Mult) (rI b5Q λ i j=>.int (i*j)):=opI λ _ _ _ _ _ _ _ hc q=>mul_int q (IntMulOk.of_bits (a6O hc.1) (a6O hc.2))
end
theorem Same.write {H H':Hp} {p:Addr} {o:HO} (e:Same H H') (hp:H p=none):Same H (r9 H' p o):=λ b u q=>by rw [c9 (c8 q hp)]; exact e b u q
section
variable {xs:List V} {J:It} {fr:List Nat} {tc:TT} {σ:St} {H1:Hp} {p:Addr} {D:Hp->Prop}
end
end L2
namespace L2
open PySem PySem.W
theorem W9:typeOf (.builtin "object.__class__")=pure (.type "getset_descriptor"):=by kernel_rfl
theorem a4F:(".".intercalate ("object.__class__".cutAt '.').dropLast)="object":=by
 have e0:"object.__class__".cutAt '.'=["object","__class__"]:=by decide +kernel
 rw [e0];decide +kernel
section
variable {prog:Program} {w:World} {A:Around} {E:Value->Shared->Prop} {s:Shared} {K:Frag} {x C D:Addr} {ox:Obj}
theorem b0W {R:Result->Shared->Prop} (X:K.In s.heap) (hx:s.heap.get? x=some ox) (hc:ox.cls=.ref D) (hm:mroIn K D (.type "object")=some true) (hq:R (.ok (.ret (.ref D))) s) :
  codeAny (model prog w) A (.call (.builtin "getset_descriptor.__get__") ⟨[.builtin "object.__class__",.ref x,.ref D],[]⟩) R s:=by
 obtain ⟨h,g,d,t,os⟩:=s;have L1:=looks_mroIn (M:=model prog w) X hm;have hT5:(⟨h,g,d,t,os⟩:Shared).TypeIs (.builtin "object.__class__") "getset_descriptor":=W9;refine codeAny_call_builtin F.slot_gs_get.plain F.entry_gs_get (F.slot_gs_get.check _ _ _ _ _ _ _ _ hT5 (F.args_gs_get _ _ _) ?_)
 repeat (any_goals (first | assumption | (with_reducible refine wpAny_loadPart_at hx ?_; rw [hc]) | with_reducible refine L1.at ?_ | wp_step))
 rw [a4F];refine L1.at ?_
 repeat (any_goals (first | assumption | wp_step))
 refine ⟨Code.quiet_builtin _ (by decide +kernel),codeAny_builtin KF.entry_class ?_⟩;unfold Builtin.«object.__class__»
 repeat (any_goals (first | assumption | (with_reducible refine wpAny_loadPart_at hx ?_; rw [hc]) | wp_step))
theorem a7X {tk:Tok} {Q:gJ->Shared->Prop} (X:K.In s.heap) (hx:s.heap.get? x=some ox) (hc:ox.cls=.ref D) (ha:findIn K (.ref D) "__class__"=some (some (.builtin "object.__class__")))
  (hm:mroIn K D (.type "object")=some true)
  (hq:Q (.done (.ret (.ref D))) s) :
  wpAny (model prog w) A (Builtin.«object.__getattribute__» ⟨[.ref x,.str "__class__" tk],[]⟩) Q E s:=by
 obtain ⟨h,g,d,t,os⟩:=s;have L1:=looks_findIn (M:=model prog w) X ha;have hT5:(⟨h,g,d,t,os⟩:Shared).TypeIs (.builtin "object.__class__") "getset_descriptor":=W9;have f5:=W9;have f6:=F.slot_gs_get.lookup;have f7:=F.slot_gs_set.lookup;unfold Builtin.«object.__getattribute__»
 repeat (any_goals (first | assumption | (with_reducible refine wpAny_loadPart_at hx ?_; rw [hc]) | with_reducible refine L1.at ?_ | wp_step))
 refine b0W X hx hc hm ?_
 repeat (any_goals (first | assumption | wp_step))
theorem a7Z {nv:Value} {Q:Unit->Shared->Prop} (X:K.In s.heap) (hx:s.heap.get? x=some ox) (hc:ox.cls=.ref D) (hb:mroIn K D (.type "BaseException")=some true) (hq:Q () s) :
  wpAny (model prog w) A (checkBuiltinCall "BaseException.__getattribute__" ⟨[.ref x,nv],[]⟩) Q E s:=by
 have hk:builtinKind "BaseException.__getattribute__"=some .slot:=by decide +kernel
 have hsplit:splitId "BaseException.__getattribute__"=some ("BaseException","__getattribute__"):=by decide +kernel
 have ag:=F.args_bexc_ga (.ref x) nv;obtain ⟨h,g,d,t,os⟩:=s;have L1:=looks_mroIn (M:=model prog w) X hb;simp only [checkBuiltinCall,hk,hsplit];refine wpAny_bind ?_;unfold isInstance
 repeat (first | (with_reducible refine wpAny_loadPart_at hx ?_; rw [hc]) | with_reducible refine L1.at ?_ | wp_step)
 exact hq
theorem b0h {tk:Tok} {R:Result->Shared->Prop} (X:K.In s.heap) (hx:s.heap.get? x=some ox) (hc:ox.cls=.ref D) (ha:findIn K (.ref D) "__class__"=some (some (.builtin "object.__class__")))
  (hm:mroIn K D (.type "object")=some true) (hb:mroIn K D (.type "BaseException")=some true) (hq:R (.ok (.ret (.ref D))) s) :
  codeAny (model prog w) A (.call (.builtin "BaseException.__getattribute__") ⟨[.ref x,.str "__class__" tk],[]⟩) R s :=
 codeAny_call_builtin F.excAttr_ValueError.ga.plain F.entry_bexc_ga (a7Z X hx hc hb (a7X X hx hc ha hm hq))
theorem a7L {Q:Option Value->Shared->Prop} (X:K.In s.heap) (hx:s.heap.get? x=some ox) (hc:ox.cls=.ref D) (hga:findIn K (.ref D) "__getattribute__"=some (some (.builtin "BaseException.__getattribute__")))
  (hgn:findIn K (.ref D) "__getattr__"=some none) (ha:findIn K (.ref D) "__class__"=some (some (.builtin "object.__class__")))
  (hm:mroIn K D (.type "object")=some true) (hb:mroIn K D (.type "BaseException")=some true) (hq:Q (some (.ref D)) { s with toks:=s.toks+1 }) :
  wpAny (model prog w) A (getAttr? (.ref x) "__class__") Q E s:=by
 obtain ⟨h,g,d,t,os⟩:=s;have L1:=looks_findIn (M:=model prog w) X hga;have L2:=looks_findIn (M:=model prog w) X hgn;have f3:=F.excAttr_ValueError.ga.bind (.ref x);have hx2:(Value.builtin "BaseException.__getattribute__"==Value.builtin "object.__getattribute__")=false:=by decide +kernel
 have hx1:(onTheHeap (Value.ref D)&&Value.builtin "BaseException.__getattribute__"==Value.builtin "object.__getattribute__")=false:=by rw [hx2]; rfl
 have hx0:(false&&onTheHeap (Value.builtin "BaseException.__getattribute__"))=false:=rfl;unfold getAttr?
 repeat (any_goals (first | assumption | (with_reducible refine wpAny_loadPart_at hx ?_; rw [hc]) | with_reducible refine L1.at ?_ | with_reducible refine L2.at ?_ | wp_step))
 refine b0h X hx hc ha hm hb ?_
 repeat (any_goals (first | assumption | wp_step))
end
structure P0 (K:Frag) (D:Addr):Prop where
 ob:∃ nm q N bs bm hdct sn sub ab col dd k0 k1 k2 k3 k5,K.lookup D=some (excClassObj nm q D N bs bm hdct sn sub ab col dd k0 k1 k2 k3 k5 "ValueError.__new__")/\nsOkIn K N=true/\nsIn K N "__init__"=some none ∧
  tailIn K [.type "ValueError",.type "Exception",.type "BaseException",.type "object"] bm=true
 ga:findIn K (.ref D) "__getattribute__"=some (some (.builtin "BaseException.__getattribute__"))
 gn:findIn K (.ref D) "__getattr__"=some none
 ca:findIn K (.ref D) "__class__"=some (some (.builtin "object.__class__"))
 mo:mroIn K D (.type "object")=some true
 mb:mroIn K D (.type "BaseException")=some true
def a6E (ea D:Addr) (h:Heap):Prop:=∃ o,h.get? ea=some o/\o.cls=.ref D
theorem a9A {K:Frag} {D ea:Addr} (k:P0 K D):KitX K (.ref ea) (.ref D) (a6E ea D) where
 ty:=λ M h X p=>by
  obtain ⟨o,h1,h2⟩:=p;exact h2 ▸ (Looks.ld h1).andThen .now
 it:=λ M h X p=>by
  obtain ⟨_,_,_,_,_,_,_,_,_,_,_,_,_,_,_,_,lk,_⟩:=k.ob;intro A' Q' E' s' kk q;unfold isType loadHead;exact wpAny_bind (wpAny_loadPart (kk _ _ (X _ _ lk)) (wpAny_pure q))
 ne:=λ h tp dd its n sl X htp=>dZ.mpr λ q=>by
  obtain ⟨_,_,_,_,_,_,_,_,_,_,_,_,_,_,_,_,lk,_⟩:=k.ob;have e:D=tp:=Value.ref.inj (beq_iff_eq.mp q);subst e;have z:=(X _ _ lk).symm.trans htp;exact absurd (Value.type.inj (congrArg Obj.cls (aJ z))) (by decide)
 ca:=λ {prog w A E Q s} X p kk=>by
  obtain ⟨o,h1,h2⟩:=p;exact a7L X h1 h2 k.ga k.gn k.ca k.mo k.mb kk
def a8m (ea D:Addr):HO:=.ext (a6E ea D)
theorem b1e {P:Program} {w:World} {H:Hp} {h:Heap} {ea D:Addr} (e:a6E ea D h):ObjOk P w H h ea (a8m ea D) :=
 ⟨e,let ⟨o,h1,_⟩:=e; ⟨o,h1⟩,λ h1 h2 ⟨o,a,b⟩ k=>⟨o,k o a,b⟩⟩
theorem C4 {X:Cx}:G9 X (.builtin "isinstance") (λ vs H Q=>∃ (ea D:Addr) (c:V) (b:Bool),vs=[.ref ea,c]/\H ea=some (a8m ea D)/\P0 X.K D/\(∀ u,RelV c u->kitOne X.K (.ref D) u=some b)/\Q (.bl b) H):=by
 intro pins s σ H vs us Q I r h;obtain ⟨ea,D,c,b,rfl,he,k,e,q⟩:=h;obtain ⟨u,v,rfl,ru,rv⟩:=a5f r
 cases (show u=Value.ref ea from ru);have ho:ObjOk X.prog X.w H s.heap ea (a8m ea D):=I.hok ea _ he;exact kia_one (a9A k) I.kIn ho.1 (e v rv) (λ z=>nomatch z) λ tk=>⟨.bl b,H,I.tok _,rfl,q⟩
theorem a7C {prog:Program} {w:World} {A:Around} {E:Value->Shared->Prop} {s:Shared} {K:Frag} {ea D R:Addr} {oe:Obj} {Q:Bool->Shared->Prop} (X:K.In s.heap) (hx:s.heap.get? ea=some oe) (hc:oe.cls=.ref D)
  (hs:mroIn K D (.ref R)=some true) (kR:P0 K R) (hq:Q true s):wpAny (model prog w) A (excMatches (.ref ea) (.ref R)) Q E s:=by
 obtain ⟨h,g,d,t,os⟩:=s;obtain ⟨_,_,_,_,_,_,_,_,_,_,_,_,_,_,_,_,lk,_⟩:=kR.ob;have hR:=X _ _ lk;have L1:=looks_mroIn (M:=model prog w) X hs;have L2:=looks_mroIn (M:=model prog w) X kR.mb;have f:=tc_notTuple;unfold excMatches
 repeat (first | with_reducible refine L1.at ?_ | with_reducible refine L2.at ?_ | (with_reducible refine wpAny_loadPart_at hx ?_; rw [hc]) | with_reducible refine wpAny_loadPart_at hR ?_ | wp_step)
 exact hq
end L2
namespace L2
open PySem PySem.Spec PyProof.Rows
theorem ObjOk.got {P:Program} {w:World} {H:Hp} {h:Heap} {a:Addr} {o:HO} (x:ObjOk P w H h a o):∃ ob,h.get? a=some ob:=by
 cases o with
 | lst xs=>obtain ⟨_,_,_,_,e⟩:=x; exact ⟨_,e⟩
 | tup xs=>obtain ⟨_,_,_,ob,e,_⟩:=x; exact ⟨ob,e⟩
 | dK kvs=>obtain ⟨_,_,_,_,ob,_,_,e,_⟩:=x; exact ⟨ob,e⟩
 | dT kvs=>obtain ⟨_,_,_,_,ob,_,_,e,_⟩:=x; exact ⟨ob,e⟩
 | set S n=>obtain ⟨ob,_,_,_,e,_⟩:=x; exact ⟨ob,e⟩
 | ins C dx fs=>obtain ⟨_,_,_,e,_⟩:=x; exact ⟨_,e⟩
 | own y=>exact x
 | xd fs=>obtain ⟨_,⟨ob,_,_,e,_⟩,_⟩:=x; exact ⟨ob,e⟩
 | rng lo hi=>obtain ⟨_,_,_,e⟩:=x; exact ⟨_,e⟩
 | frz ob u=>obtain ⟨e,_⟩:=x; exact ⟨_,e⟩
 | tbl ps=>exact ⟨_,(show h.get? a=some _ from x)⟩
 | met f y=>exact ⟨_,(show h.get? a=some _ from x)⟩
 | ext φ=>obtain ⟨_,e,_⟩:=x; exact e
theorem Un.slots {fs ex:List Addr} {H0 H':Hp} {h0 h1 h2:Heap} (u:Un fs ex H0 H' h0 h1) (hb:∀ b o,h1.get? b=some o->(∃ o0,h0.get? b=some o0)->b ∉ fs->h2.get? b=some o)
  (hf:∀ b∈fs,∀ o,h1.get? b=some o->∃ sl,h2.get? b=some { o with slots:=sl }):Un fs ex H0 H' h0 h2 where
 keep:=λ b o q n hfs hx=>hb b o (u.keep b o q n hfs hx) ⟨o,q⟩ hfs
 slot:=λ b o q n hfs hx=>by
  obtain ⟨sl,e⟩:=u.slot b o q n hfs hx;obtain ⟨sl',e'⟩:=hf b hfs _ e;exact ⟨sl',e'⟩
 free:=u.free
 there:=λ b o q hx=>by
  obtain ⟨o',e⟩:=u.there b o q hx
  by_cases hm:b∈fs
  ·obtain ⟨sl,e'⟩:=hf b hm _ e; exact ⟨_,e'⟩
  ·exact ⟨_,hb b o' e ⟨o,q⟩ hm⟩
 tups:=u.tups
 frzs:=u.frzs
 tbls:=u.tbls
theorem HOk.slots {P:Program} {w:World} {H:Hp} {h h':Heap} (x:HOk P w H h) (k:∀ b u o,H b=some u->h.get? b=some o->h'.get? b=some o):HOk P w H h':=λ a o e =>
 (x a o e).stay (λ b u hb q=>by
  rcases hb with rfl | hb
  ·exact k b o u e q
  ·exact k b _ u hb q) (λ _ q=>q) λ _ _ q=>q
structure Fly (P:Program) (w:World) (l:List Env) (H:Hp) (s:Shared) (ea t D:Addr) (B:Heap) (H':Hp) (s':Shared):Prop where
 os:s'.os=s.os
 bare:AllBare s'.gens
 un:Un (frs l) [] H H' s.heap s'.heap
 hok:HOk P w H' s'.heap
 fly:Heap.FlyingW B l ea (.ref D) (.ref t) s'.heap
 inb:∀ b o,s'.heap.get? b=some o->((∃ o0,s.heap.get? b=some o0)/\b ∉ frs l)\/H' b≠none->B.get? b=some o
def R3 (P:Program) (w:World):CXT:=λ l H s E e s'=>∃ (ea t D:Addr) (B:Heap) (H':Hp),e=.ref ea/\Fly P w l H s ea t D B H' s'/\E (.ref D) none H'
section
variable {P:Program} {w:World} {l:List Env} {H:Hp} {s s':Shared} {ea t D:Addr} {B h':Heap} {H':Hp}
theorem Fly.slots (F:Fly P w l H s ea t D B H' s') (fl:Heap.FlyingW B l ea (.ref D) (.ref t) h') (up:s'.heap.UpToSlots h'):Fly P w l H s ea t D B H' { s' with heap:=h' }:=by
 have st:∀ b o,B.get? b=some o->h'.get? b=some o:=fl.1;refine ⟨F.os,F.bare,F.un.slots (λ b o q z hn=>st b o (F.inb b o q (.inl ⟨z,hn⟩))) (λ b hb o q=>?_),F.hok.slots (λ b u o e q=>st b o (F.inb b o q (.inr (by rw [e]; simp)))),fl,λ b o q z=>?_⟩
 ·obtain ⟨_,o',ho',hd⟩:=F.fly.2.2.1.mem hb
  rw [q] at ho'; cases ho';exact up b o q hd
 ·have:∃ o1,s'.heap.get? b=some o1:=by
   rcases z with ⟨⟨o0,z⟩,_⟩ | z
   ·exact F.un.there b o0 z (by simp)
   ·cases e:H' b with
    | none=>exact absurd e z
    | some u=>exact (F.hok b u e).got
  obtain ⟨o1,q1⟩:=this;have b1:=F.inb b o1 q1 z;have:=st b o1 b1;rw [show h'.get? b=some o from q] at this
  cases this;exact b1
theorem Fly.new (F:Fly P w l H s ea t D B H' s'):s.heap.get? ea=none/\H' ea=none:=by
 obtain ⟨_,hb,hfr,oe,vs,T,oT,ts,he,hc,hd,_⟩:=F.fly;have nb:∀ o,B.get? ea≠some o:=λ o z=>by rw [hb] at z; cases z
 constructor
 ·cases q:s.heap.get? ea with
  | none=>rfl
  | some o0 =>
   refine absurd (F.inb ea oe he (.inl ⟨⟨o0,q⟩,λ hm=>?_⟩)) (nb _);obtain ⟨_,o,ho,hnf⟩:=hfr.mem hm;rw [he] at ho; cases ho;exact hnf vs hd
 ·cases q:H' ea with
  | none=>rfl
  | some u=>exact absurd (F.inb ea oe he (.inr (by rw [q]; simp))) (nb _)
theorem Fly.at (F:Fly P w l H s ea t D B H' s'):a6E ea D s'.heap:=by
 obtain ⟨o,h1,h2⟩:=F.fly.there;exact ⟨o,h1,h2⟩
theorem Fly.inv {X:Cx} {pins:List (Addr×Obj)} {σ:St} (I:Inv X pins σ H s) (F:Fly X.prog X.w X.stack H s ea t D B H' s'):Inv X pins σ H' s' :=
 I.call' F.os F.un F.hok F.bare (λ b z=>absurd z (by simp))
theorem Fly.track {X:Cx} {pins:List (Addr×Obj)} {σ:St} (I:Inv X pins σ H s) (F:Fly X.prog X.w X.stack H s ea t D B H' s'):Inv X pins σ (r9 H' ea (a8m ea D)) s':=by
 obtain ⟨n1,n2⟩:=F.new;have u:=F.un;refine I.call' F.os (ch:=[]) ⟨u.keep,u.slot,λ b o q n hx=>?_,u.there,λ b xs q=>?_,λ b o xs q=>?_,λ b ps q=>?_⟩ (λ a o e=>?_) F.bare (λ b z=>absurd z (by simp))
 ·rw [c9 (λ z=>by rw [z,n1] at q; cases q)]; exact u.free b o q n hx
 ·have:=u.tups b xs q
  rw [c9 (c8 this n2)]; exact this
 ·have:=u.frzs b o xs q
  rw [c9 (c8 this n2)]; exact this
 ·obtain ⟨m,e⟩:=u.tbls b ps q
  exact ⟨m,by rw [c9 (c8 e n2)]; exact e⟩
 ·by_cases ha:a=ea
  ·subst ha; rw [upd_same] at e; cases e
   exact b1e F.at
  ·rw [c9 ha] at e
   exact (F.hok a o e).stay (λ _ _ _ q=>q) (λ c q=>by rw [c9 (c8 q n2)]; exact q) λ c xs q=>by rw [c9 (c8 q n2)]; exact q
end
section
variable {P:Program} {w:World} {K:W.Frag} {mg:Str->Option Value} {base:Heap} {N:List Str} {qual:Str} {scope:Scope} {f:Addr} {cd:Value} {A:Around} {outer:List Env} {s₀:Shared} {H₀:Hp} {E:XK}
theorem a1y {b:Addr} {o:Obj} {X:Cx} {pins:List (Addr×Obj)} {σ:St} {H:Hp} {s:Shared} (I:Inv X pins σ H s) (e:X.s₀.heap.get? b=some o) (hb:b ∉ frs X.outer):b ∉ frs X.stack:=λ z=>by
 rcases aO.mp (I.stkSub b z) with q | q
 ·have:=aT (Heap.lt_size e) I.ok.above
  rw [q] at this;exact bL _ this
 ·exact hb q
theorem Q7:R5 (R3 P w) (M3 (R3 P w) P w K mg base N qual scope f cd A outer s₀ H₀ E) E:=by
 intro pins σ H s e s' I h;obtain ⟨ea,t,D,B,H',rfl,F,hE⟩:=h;have I':=F.inv I;refine wpAny_leaves_onW I.ok.frames rfl F.fly λ h' fl up=>?_;have st:∀ b o,B.get? b=some o->h'.get? b=some o:=fl.1;have bin:∀ b o,s'.heap.get? b=some o->(∃ o0,s₀.heap.get? b=some o0)->b ∉ frs outer->B.get? b=some o:=λ b o q ⟨o0,z⟩ hn=>by
  obtain ⟨o1,q1⟩:=I.base.there b o0 z (by show b ∉ ([]:List Addr); simp);exact F.inb b o q (.inl ⟨⟨o1,q1⟩,a1y I z hn⟩)
 refine ⟨ea,t,D,B,H',rfl,⟨I'.os,F.bare,I'.base.slots (λ b o q z hn=>st b o (bin b o q z hn)) (λ b hb o q=>?_),F.hok.slots (λ b u o e q=>st b o (F.inb b o q (.inr (by rw [e]; simp)))),fl,λ b o q z=>?_⟩,hE⟩
 ·obtain ⟨_,o',ho',hd⟩:=F.fly.2.2.1.2.2.mem hb
  rw [q] at ho'; cases ho';exact up b o q hd
 ·have:∃ o1,s'.heap.get? b=some o1/\B.get? b=some o1:=by
   rcases z with ⟨⟨o0,z⟩,hn⟩ | z
   ·obtain ⟨o1,q1⟩:=I'.base.there b o0 z (by show b ∉ ([]:List Addr); simp)
    exact ⟨o1,q1,bin b o1 q1 ⟨o0,z⟩ hn⟩
   ·cases e:H' b with
    | none=>exact absurd e z
    | some u =>
     obtain ⟨o1,q1⟩:=(F.hok b u e).got;exact ⟨o1,q1,F.inb b o1 q1 (.inr z)⟩
  obtain ⟨o1,_,b1⟩:=this;have:=st b o1 b1;rw [show h'.get? b=some o from q] at this
  cases this;exact b1
theorem b5i {pins:List (Addr×Obj)} {σ:St} {H:Hp} {s:Shared} {h1:Heap} {ea D:Addr} {vs:List Value} (I:Inv (M3 (R3 P w) P w K mg base N qual scope f cd A outer s₀ H₀ E) pins σ H s) (hx:Heap.MadeExcOf s.heap h1 ea (.ref D) vs)
  (hE:E (.ref D) none H):(M3 (R3 P w) P w K mg base N qual scope f cd A outer s₀ H₀ E).xe (.ref ea) { s with heap:=h1 }:=by
 have hin:∀ env∈(envOfC qual scope s₀.heap.objs.size f cd::outer),∀ b,env.frame=some b->b∈frs (envOfC qual scope s₀.heap.objs.size f cd::outer):=λ env he b hb=>hV.mpr ⟨env,he,hb⟩;refine wpAny_leaves_madeW (base:=W.hideAll s.heap (frs (envOfC qual scope s₀.heap.objs.size f cd::outer))) (h:=s.heap) I.ok.frames rfl (λ b o q=>W.of_hideAll _ q) (W.funFrames_hide I.stack hin) hx λ h' t fl _ _ up=>?_;have st:∀ b o,s.heap.get? b=some o->b ∉ frs (envOfC qual scope s₀.heap.objs.size f cd::outer)->h'.get? b=some o:=λ b o q hn=>fl.1 b o (W.hideAll_get _ q hn);have trn:∀ b u,H b=some u->b ∉ frs (envOfC qual scope s₀.heap.objs.size f cd::outer):=λ b u e z=>by
  have:=I.stkFree b z;rw [e] at this; cases this
 refine ⟨ea,t,D,_,H,rfl,⟨I.os,I.bare,I.base.slots (λ b o q ⟨o0,z⟩ hn=>st b o q (a1y I z hn)) (λ b hb o q=>?_),I.hok.slots (λ b u o e q=>st b o q (trn b u e)),fl,λ b o q z=>?_⟩,hE⟩
 ·obtain ⟨_,o',ho',hd⟩:=I.funs.mem hb
  rw [q] at ho'; cases ho';exact up b o (hx.keeps b o q) hd
 ·have:∃ o1,s.heap.get? b=some o1/\b ∉ frs (envOfC qual scope s₀.heap.objs.size f cd::outer):=by
   rcases z with ⟨⟨o0,z⟩,hn⟩ | z
   ·obtain ⟨o1,q1⟩:=I.base.there b o0 z (by show b ∉ ([]:List Addr); simp)
    exact ⟨o1,q1,a1y I z hn⟩
   ·cases e:H b with
    | none=>exact absurd e z
    | some u =>
     obtain ⟨o1,q1⟩:=(I.hok b u e).got;exact ⟨o1,q1,trn b u e⟩
  obtain ⟨o1,q1,hn⟩:=this;have:=st b o1 q1 hn;rw [show h'.get? b=some o from q] at this
  cases this;exact W.hideAll_get _ q1 hn
end
section
variable {X:Cx} {e:Expr} {te:TE} {a:Str} {j:Nat} {p1 p2 p3:Pos}
def tFs (te:TE):TE:=λ σ H Q=>te σ H λ v H1=>∃ i:Int,v=.int i/\i.natAbs.log2<1920/\∀ x,Q (.str x) H1
theorem b2L (he:PE X e te) (ha:a.length<=1000):PE X (.JoinedStr [.Constant (.str a) j p1,.FormattedValue e (-1) none p2] p3) (tFs te):=by
 intro pins s σ H Q I h;refine JoinedStr_many (joinParts_cons ?_);refine y9 (j9 pins s σ H (λ v H'=>v=.str a/\H'=H) I ⟨rfl,rfl⟩) λ u s1 ⟨v,H1,I1,r,hv,hH⟩=>?_;subst hv; subst hH;obtain ⟨tk,rfl⟩:=r;have e0:(Str.empty++a).length=a.length:=by rw [strLen_append]; show 0+a.length=a.length; omega
 refine ⟨by rw [e0]; exact aK ha (by decide),joinParts_cons (FormattedValue_plain ?_)⟩;refine y9 (he pins s1 σ H1 _ I1 h) λ u s2 ⟨v,H2,I2,r,i,hv,hi,q⟩=>?_;subst hv;obtain ⟨tk2,rfl⟩:=r;refine formatField_int_small hi ?_;have hl:(Str.empty++a++Str.ofString (toString i)).length<=sizeLine:=by
  rw [strLen_append,e0];have h1:=int_text_length_le (a:=i) (k:=1920) (by decide) hi;rw [iE,sizeLine_eq];omega
 refine ⟨hl,joinParts_nil ?_ hl⟩;exact ⟨.str _,H2,(I2.tok _).tok _,⟨_,rfl⟩,q _⟩
end
section
variable {P:Program} {w:World} {K:W.Frag} {mg:Str->Option Value} {base:Heap} {N:List Str} {qual:Str} {scope:Scope} {f:Addr} {cd:Value} {A:Around} {outer:List Env} {s₀:Shared} {H₀:Hp} {E:XK}
 {x:Str} {D:Addr} {e:Expr} {t:TA} {np cpos pos:Pos}
def a8R (t:TA) (D:Addr) (E:XK):TS:=λ _ σ H=>t σ H λ vs H1=>vs.length<=1000/\E (.ref D) none H1
theorem M9 (k:P0 K D) (hg:Gl (M3 (R3 P w) P w K mg base N qual scope f cd A outer s₀ H₀ E) x) (hm:mg x=some (.ref D)) (hh:A.handled=none)
  (ha:PA (M3 (R3 P w) P w K mg base N qual scope f cd A outer s₀ H₀ E) [e] t)
  (he:starEach [e] (envOfC qual scope s₀.heap.objs.size f cd)=[(false,eval e (envOfC qual scope s₀.heap.objs.size f cd))]:=by rfl) (hdb:(x==("__debug__":Str))=false:=by decide) :
  PS (M3 (R3 P w) P w K mg base N qual scope f cd A outer s₀ H₀ E) (.Raise (some (.Call (.Name x np) [e] [] cpos)) none pos) (a8R t D E):=by
 intro pins s σ H Dn I h;obtain ⟨nm,q,Na,bs,bm,hdct,sn,sub,ab,col,dd,k0,k1,k2,k3,k5,lk,ok,ni,tl⟩:=k.ob;have tb:∀ h:Heap,K.In h->OwnTail h [.type "ValueError",.type "Exception",.type "BaseException",.type "object"] bm:=λ h X=>W.tail_of_in X tl;have nsf:∀ h:Heap,K.In h->h.Ns Na (h.nsMap Na)/\h.nsMap Na "__init__"=none:=λ h X=>⟨.of_isNs (W.isNs_of_in X ok),W.nsMap_none_of_in X ok ni⟩;have hN0:=(nsf s.heap I.kIn).1;refine wpAny_Raise_call_subT (C:=D) (nm:=nm) (q:=q) (N:=Na) (bs:=bs) (bm:=bm) (hdct:=hdct) (sn:=sn) (sub:=sub) (ab:=ab) (col:=col) (dd:=dd) (k0:=k0) (k1:=k1) (k2:=k2) (k3:=k3) (k5:=k5) (newId:="ValueError.__new__")
  F.excBase_ValueError (mN:=base.nsMap Na) ((tb base I.mod.kin).hasType (by decide +kernel)) (by show (A.deeper _).handled=none; exact hh) (by rw [show starEach [e] (M3 (R3 P w) P w K mg base N qual scope f cd A outer s₀ H₀ E).env=_ from he]; rfl)
  (nsf base I.mod.kin).2 (Z4 I hg hm ⟨rfl,?_⟩ hdb)
 have h2:=ha cpos pins s σ H _ I h;rw [show starEach [e] (M3 (R3 P w) P w K mg base N qual scope f cd A outer s₀ H₀ E).env=_ from he] at h2 ⊢;refine Calls.evalArgs_plain (wpAny_mono h2 (λ us s2 ⟨vs,H2,I2,r,hl,hE⟩=>⟨rfl,by rw [<- r.length]; exact dQ (m8 hl),I2.kIn _ _ lk,(nsf base I.mod.kin).1.keeps I2.bk,tb _ I2.kIn,λ h' ea hx=>b5i I2 hx hE⟩) λ _ _ z=>z)
end
def a2d (CX:CXT) (X:Cx) (EX:St->XK):Prop:=∀ (pins:List (Addr×Obj)) (σ:St) (H:Hp) (s:Shared) (e:Value) (s':Shared),Inv X pins σ H s->CX X.stack H s (EX σ) e s'->X.xe e s'
section
variable {X:Cx} {CX:CXT} {k:Nat} {f:Addr} {fd:FuncData} {ps:List Str} {sp:Sp} {EX:St->XK} {x:Str} {p pos:Pos} {e:Expr} {es:List Expr} {t:TA}
end
abbrev Cx.held (X:Cx) (ea:Addr):Cx:={ X with A:=X.A.mark (some (.ref ea)),calm:=false,xe:=λ _ _=>False }
abbrev Cx.tried (X:Cx) (pn:List (Addr×Obj)) (E:Value->Shared->Prop):Cx:={ X with pn:=pn,xe:=E }
section
variable {X:Cx} {pins:List (Addr×Obj)} {σ:St} {H:Hp} {s:Shared} {ea:Addr}
theorem Cx.Ok.held (ok:X.Ok):(X.held ea).Ok :=
 ⟨ok.mod,ok.kind,ok.glob,ok.blt,ok.above,ok.inj,ok.has,ok.cab,(λ z=>jG z),ok.frames,ok.stk,ok.exf,ok.bs,ok.bsz,ok.noex,ok.exfs,ok.funs,ok.frf⟩
theorem Inv.held (I:Inv X pins σ H s) (ea:Addr):Inv (X.held ea) pins σ H s:=⟨I.ok.held,I.os,I.bare,I.base,I.loc,I.cell,I.free,I.freeC,I.pin,I.hok,I.len⟩
theorem Inv.unheld (ok:X.Ok) (I:Inv (X.held ea) pins σ H s):Inv X pins σ H s:=⟨ok,I.os,I.bare,I.base,I.loc,I.cell,I.free,I.freeC,I.pin,I.hok,I.len⟩
theorem Cx.Ok.tried (ok:X.Ok) {pn:List (Addr×Obj)} {E:Value->Shared->Prop}:(X.tried pn E).Ok :=
 ⟨ok.mod,ok.kind,ok.glob,ok.blt,ok.above,ok.inj,ok.has,ok.cab,ok.hd,ok.frames,ok.stk,ok.exf,ok.bs,ok.bsz,ok.noex,ok.exfs,ok.funs,ok.frf⟩
theorem Inv.tried (I:Inv X pins σ H s) {E:Value->Shared->Prop}:Inv (X.tried (X.pn++pins) E) [] σ H s:=⟨I.ok.tried,I.os,I.bare,I.base,I.loc,I.cell,I.free,I.freeC,by rw [dJ]; exact I.pin,I.hok,I.len⟩
theorem Inv.untried (ok:X.Ok) {E:Value->Shared->Prop} {pins':List (Addr×Obj)} (I:Inv (X.tried (X.pn++pins) E) pins' σ H s):Inv X pins σ H s :=
 ⟨ok,I.os,I.bare,I.base,I.loc,I.cell,I.free,I.freeC,λ p hp=>I.pin p (dI _ hp),I.hok,I.len⟩
theorem Z6 {M:Model} {A:Around} {E:Value->Shared->Prop} {i:Nat} {n:Str} {pos:Pos} {Q:Unit->Shared->Prop} (I:Inv X pins σ H s) (hN:X.N.Nodup) (hi:X.N[i]?=some n) (hk:X.env.scope.names.lookup n=some .local)
  (h:∀ s',Inv X pins (σ.set i none) H s'->Q () s'):wpAny M A (do bindName X.env n .none; unbindBehindTheSuite X.env n pos) Q E s:=by
 obtain ⟨m,hn,hl⟩:=id I.loc;have hcls:(X.env.scope.kind==.class || (X.env.scope.kind==.module&&X.env.locals != X.env.globals))=false:=by rw [I.ok.kind]; rfl
 have hiσ:i<σ.length:=by rw [I.len]; exact (bQ.mp hi).1
 have cne:=I.cne;refine wpAny_nameGoes_keeps hk hn hcls λ h' v hn' hs=>?_;obtain ⟨oL,_,_,hoL,_⟩:=id hn;have far:∀ b o,X.s₀.heap.get? b=some o->b≠X.env.locals:=λ b o e=>bJ (aT (Heap.lt_size e) I.ok.above);refine h _ ⟨I.ok,I.os,I.bare,⟨λ b o e n hb hx=>?_,λ b o e n hb hx=>?_,I.base.free,λ b o e hx=>?_,I.base.tups,I.base.frzs,I.base.tbls⟩,⟨_,hn',λ j y v' e1 e2 e3=>?_⟩,λ y c e=>?_,I.free,I.freeC,λ p hp=>?_,λ b ob e=>?_,by simpa using I.len⟩
 ·exact (hs.2 b (far b o e)).trans (I.base.keep b o e n hb hx)
 ·obtain ⟨sl,e1⟩:=I.base.slot b o e n hb hx
  exact ⟨sl,(hs.2 b (far b o e)).trans e1⟩
 ·obtain ⟨o',e1⟩:=I.base.there b o e hx
  exact ⟨o',(hs.2 b (far b o e)).trans e1⟩
 ·by_cases hj:j=i
  ·subst hj
   rw [bZ hiσ] at e2
   cases e2
  ·rw [bM (aS hj)] at e2
   obtain ⟨u',r',q⟩:=hl j y v' e1 e2 e3;refine ⟨u',r',?_⟩;rcases q with ⟨k,e⟩ | ⟨k,c,e,z⟩
   ·refine .inl ⟨k,?_⟩
    have:y≠n:=λ e=>hj (a2g hN e1 (e ▸ hi));simp [this,e]
   ·exact .inr ⟨k,c,e,z.sameBut hs (cne y c e)⟩
 ·obtain ⟨w',z⟩:=I.cell y c e
  exact ⟨w',z.sameBut hs (cne y c e)⟩
 ·obtain ⟨e,n,ne,nf,d⟩:=I.pin p hp
  exact ⟨(hs.2 p.1 ne).trans e,n,ne,nf,d⟩
 ·refine (I.hok b ob e).stay (λ c w' hc q=>(hs.2 c ?_).trans q) (λ _ q=>q) λ _ _ q=>q
  rintro rfl;rcases hc with z | hc
  ·rw [<- z,I.free] at e; cases e
  ·rw [I.free] at hc; cases hc
end
def Ends.less (D:Ends) (i:Nat):Ends:={ nx:=λ σ H=>D.nx (σ.set i none) H,rt:=D.rt,bk:=λ σ H=>D.bk (σ.set i none) H,ct:=λ σ H=>D.ct (σ.set i none) H }
def b7m (K:W.Frag) (R:Addr) (tb:(St->XK)->TS) (i:Nat) (ts:TS):TS:=λ D σ H=>∃ EX:St->XK,tb EX D σ H ∧
 ∀ σ' H' C ea d,EX σ' C d H'->H' ea=none->∀ Da,C=.ref Da->P0 K Da/\W.mroIn K Da (.ref R)=some true/\ts (D.less i) (σ'.set i (some (.ref ea))) (r9 H' ea (a8m ea Da))
section
variable {X:Cx} {x n:Str} {R:Addr} {i:Nat} {tb:(St->XK)->TS} {ts:TS} {body suite:List Stmt} {b₀:Stmt} {np hpos pos:Pos}
theorem b3x (kR:P0 X.K R) (hN:X.N.Nodup) (hi:X.N[i]?=some n) (hk:X.env.scope.names.lookup n=some .local) (hst:X.stack=X.env::X.outer) (hgl:Gl X x) (hm:X.mg x=some (.ref R))
  (hb:∀ (EX:St->XK) (pn:List (Addr×Obj)) (E:Value->Shared->Prop),a2d (R3 X.prog X.w) (X.tried pn E) EX->PSs (X.tried pn E) body (tb EX))
  (hs:∀ ea,PSs (X.held ea) (b₀::suite) ts) (hdb:(x==("__debug__":Str))=false:=by decide) :
  PS X (.Try body [.ExceptHandler (some (.Name x np)) (some n) (b₀::suite) hpos] [] [] pos) (b7m X.K R tb i ts):=by
 intro pins s σ H D I ⟨EX,hq,hh⟩;refine wpAny_Try_except ?_;have pass:a2d (R3 X.prog X.w) (X.tried (X.pn++pins) λ e s'=>∃ σ' H0 s0,Inv X pins σ' H0 s0/\R3 X.prog X.w X.stack H0 s0 (EX σ') e s') EX:=λ pins' σ' H0 s0 e s' I0 q=>⟨σ',H0,s0,I0.untried I.ok,q⟩;refine wpAny_mono (hb EX _ _ pass [] s σ H D I.tried hq) (λ f s1 q=>?_) λ e s1 ⟨σ',H0,s0,I0,cx⟩=>?_
 ·cases f with
  | next=>obtain ⟨σ',H',J,q⟩:=q; exact wpAny_execs_nil ⟨σ',H',J.untried I.ok,q⟩
  | brk=>obtain ⟨σ',H',J,q⟩:=q; exact ⟨σ',H',J.untried I.ok,q⟩
  | cont=>obtain ⟨σ',H',J,q⟩:=q; exact ⟨σ',H',J.untried I.ok,q⟩
  | ret u=>obtain ⟨v,σ',H',J,r,q⟩:=q; exact ⟨v,σ',H',J.untried I.ok,r,q⟩
 ·obtain ⟨ea,t,Da,B,H',rfl,F,hE⟩:=cx
  have hfr:X.A.frames=some (X.env::X.outer):=by rw [I.ok.frames,hst]
  have hf:X.env.frame=some X.env.locals:=by
   rcases I.ok.stk with z | ⟨_,z⟩
   ·rw [hst] at z
    have:=congrArg gF z;simp at this
   ·exact z
  have Ffly:=F.fly;rw [hst] at Ffly;refine wpAny_looks_onW hfr hf Ffly λ h4 held4 up4=>wpAny_landsW held4 λ h5 fly5 up5=>?_;have F5:=F.slots (by rw [hst]; exact fly5) (up4.trans up5);refine wpAny_handleBy_cons (codeAny_handlers_test ?_) (by intro q; cases q);have I5:=(F5.inv I0).held ea;refine Z4 I5 hgl hm ?_ hdb;obtain ⟨kD,hsub,hts⟩:=hh σ' H' _ ea none hE F.new.2 Da rfl;obtain ⟨oe,he,hc⟩:=F5.at;refine a7C I5.kIn he hc hsub kR ?_;refine codeAny_handlers_suite_as ?_;refine lands_againW fly5 λ h6 fly6 up6=>?_;have F6:=F5.slots (by rw [hst]; exact fly6) up6;have I6:=(F6.track I0).held ea;refine X2 (X:=X.held ea) (v:=.ref ea) I6 hN hi (aC hk) (rfl:RelV (.ref ea) (.ref ea)) (λ s7 I7=>?_) (.inr hk);refine wpAny_mono (hs ea pins s7 _ _ (D.less i) I7 hts) (λ f s8 q=>?_) λ _ _ z=>z.elim
  cases f with
  | next=>obtain ⟨σ2,H2,J,q⟩:=q; exact Z6 (J.unheld I.ok) hN hi hk λ s9 J9=>⟨_,_,J9,q⟩
  | brk=>obtain ⟨σ2,H2,J,q⟩:=q; exact Z6 (J.unheld I.ok) hN hi hk λ s9 J9=>⟨_,_,J9,q⟩
  | cont=>obtain ⟨σ2,H2,J,q⟩:=q; exact Z6 (J.unheld I.ok) hN hi hk λ s9 J9=>⟨_,_,J9,q⟩
  | ret u=>obtain ⟨v,σ2,H2,J,r,q⟩:=q; exact Z6 (J.unheld I.ok) hN hi hk λ s9 J9=>⟨v,_,_,J9,r,q⟩
end
structure a5p (k:Nat) (A:Around):Prop where
 dp:A.depth+3*k+5<recursionLimit
 un:A.units+16*k+200<cLine
theorem Room.u {k:Nat} {A:Around} (r:Room k A) (e:Option Value):a5p k (A.mark e):=⟨r.dp,r.un⟩
structure FnU (P:Program) (w:World) (K:W.Frag) (mg:Str->Option Value) (base:Heap) (k:Nat) (f:Addr) (fd:FuncData) (ps:List Str) (sp:Sp):Prop where
 len:∀ vs H Q E,sp vs H Q E->vs.length=ps.length
 run:∀ (A:Around) (outer:List Env) (s:Shared) (H:Hp) (args:Args) (us:List Value) (vs:List V) (Q:VK) (E:XK),a5p k A->Env0 P w K mg base A outer s H->BindsTo s fd args (ps.zip us)->Vals vs us->sp vs H Q E →
  codeAny (model P w) A (.call (.ref f) args) (CR K5 outer P w H s Q E) s
abbrev a5i (P:Program) (w:World) (K:W.Frag) (mg:Str->Option Value) (base:Heap) (N:List Str) (qual:Str) (scope:Scope) (f:Addr) (cd:Value) (A:Around) (outer:List Env) (s:Shared) (H:Hp):Cx :=
 { M3 K5 P w K mg base N qual scope f cd A outer s H E0 with calm:=false,xe:=λ _ _=>False }
theorem a6p {P:Program} {w:World} {K:W.Frag} {mg:Str->Option Value} {base:Heap} {N ps:List Str} {qual:Str} {scope:Scope} {f:Addr} {cd:Value} {A:Around} {outer:List Env} {s s1:Shared} {H:Hp} {us:List Value} {vs:List V}
  (S:i9 N ps scope) (e0:Env0 P w K mg base A outer s H) (hl:vs.length=ps.length) (r:Vals vs us)
  (x:InCallC s s.heap.objs.size (bindL (envOfC qual scope s.heap.objs.size f cd).kindOf (ps.zip us) λ _=>none) (cellsFrom (s.heap.objs.size+1) scope.names []) (bindC (envOfC qual scope s.heap.objs.size f cd).kindOf (ps.zip us) λ _=>none) s1) :
  Inv (a5i P w K mg base N qual scope f cd A outer s H) [] (N9 N vs) H s1:=by
 have e1:Env0 P w K mg base ({ A with handled:=none }) outer s H:=⟨e0.frames,e0.mod,e0.bs,e0.bsz,e0.funs,e0.frf,e0.hok,e0.bare⟩;have I:=a3h (CX:=K5) (E:=E0) (qual:=qual) (f:=f) (cd:=cd) S (A:={ A with handled:=none }) rfl e1 hl r x;have ok:=I.ok;exact ⟨⟨ok.mod,ok.kind,ok.glob,ok.blt,ok.above,ok.inj,ok.has,ok.cab,(λ z=>jG z),Around.frames_deeper e0.frames,.inr ⟨rfl,rfl⟩,ok.exf,ok.bs,ok.bsz,ok.noex,ok.exfs,ok.funs,ok.frf⟩,I.os,I.bare,I.base,I.loc,I.cell,I.free,I.freeC,I.pin,I.hok,I.len⟩
theorem b4k {P:Program} {w:World} {K:W.Frag} {mg:Str->Option Value} {base:Heap} {k:Nat} {f:Addr} {name qual:Str} {params:Arguments} {body:List Stmt} {scope:Scope} {dV kV doc pm cdv ct oc:Value} {an od:Option Addr}
  {osl:Array (Option Value)} {N ps:List Str} {sp:Sp} (lk:K.lookup f=some ⟨oc,od,.func (W.fnOf name qual params body scope dV kV doc pm an cdv ct),osl⟩) (hcd:W.codeIn K cdv qual=true) (S:i9 N ps scope)
  (len:∀ vs H Q E,sp vs H Q E->vs.length=ps.length)
  (hbody:∀ (A:Around) (outer:List Env) (s:Shared) (H:Hp) (vs:List V) (Q:VK) (E:XK),a5p k (A.deeper (envOfC qual scope s.heap.objs.size f cdv))->sp vs H Q E →
   ∃ t,PSs (a5i P w K mg base N qual scope f cdv A outer s H) body t/\t { nx:=λ _ H'=>Q .non H',rt:=Q } (N9 N vs) H) :
  FnU P w K mg base (k+1) f (W.fnOf name qual params body scope dV kV doc pm an cdv ct) ps sp:=by
 refine ⟨len,λ A outer s H args us vs Q E hr e0 hb r hsp=>?_⟩;have hl:=len _ _ _ _ hsp;have KX:K.In s.heap:=e0.mod.kin.keeps λ b o e=>(e0.bs b o e).1;have lim:s.heap.NoLimit:=e0.mod.nolimit.keeps λ b o e=>(e0.bs b o e).1;have hkind:∀ y∈ps.zip us,scope.names.lookup y.1=some .local\/(scope.names.lookup y.1=some .cell/\((cellsFrom (s.heap.objs.size+1) scope.names []).lookup y.1).isSome=true):=λ ⟨n,v⟩ hy=>by
  rcases S.par n (gE hy).1 with q | q
  ·exact .inl q
  ·exact .inr ⟨q,W.cellsFrom_some _ _ _ (.inl q)⟩
 refine codeAny_call_function (by have:=hr.dp; omega) (KX _ _ lk) rfl S.co S.gen rfl (W.codeRec_of KX hcd) (hb _ _ _ _ ?_);refine wpAny_newFunctionEnv_cells S.kind hkind λ env he s1 x=>?_;subst he;refine ⟨lim.keeps x.toInCall.keep,codeAny_func ?_⟩;obtain ⟨t,ht,hq⟩:=hbody A outer s H vs Q E ⟨by have:=hr.dp; show A.depth+1+3*k+5<_; omega,by have:=hr.un; show A.units+3+16*k+200<_; omega⟩ hsp;have I:Inv (a5i P w K mg base N qual scope f cdv A outer s H) [] (N9 N vs) H s1:=a6p S e0 hl r x;refine wpAny_mono (ht [] s1 (N9 N vs) H _ I hq) (λ fl s' hs=>?_) λ e s' hs=>hs.elim;have fin:∀ {σ':St} {H':Hp} {v:V} {u:Value},Inv (a5i P w K mg base N qual scope f cdv A outer s H) [] σ' H' s'->RelV v u->Q v H'->CE outer P w H s Q u s' :=
  λ {σ' H' v u} J rv q=>⟨v,H',J.os,J.bare,J.base,J.hok,rv,q⟩
 cases fl with
 | ret u =>
  obtain ⟨v,σ',H',J,rv,q⟩:=hs;exact fin J rv q
 | next =>
  obtain ⟨σ',H',J,q⟩:=hs;exact fin (v:=V.non) (u:=Value.none) J rfl q
 | brk =>
  obtain ⟨_,_,_,q⟩:=hs;exact bN q
 | cont =>
  obtain ⟨_,_,_,q⟩:=hs;exact bN q
section
variable {P:Program} {w:World} {K:W.Frag} {mg:Str->Option Value} {base:Heap}
theorem Fun.okU {x qual:Str} {st:Stmt} {f:Addr} {fd:FuncData} {N ps:List Str} {k:Nat} {sp:Sp} (F:Fun K x qual st f fd) (S:i9 N ps (d0 st)) (len:∀ vs H Q E,sp vs H Q E->vs.length=ps.length)
  (hbody:∀ (cdv:Value) (A:Around) (outer:List Env) (s:Shared) (H:Hp) (vs:List V) (Q:VK) (E:XK),a5p k (A.deeper (envOfC qual (d0 st) s.heap.objs.size f cdv))->sp vs H Q E →
   ∃ t,PSs (a5i P w K mg base N qual (d0 st) f cdv A outer s H) (t9 st) t/\t { nx:=λ _ H'=>Q .non H',rt:=Q } (N9 N vs) H):FnU P w K mg base (k+1) f fd ps sp:=by
 obtain ⟨oc,od,kV,doc,pm,an,cdv,ct,osl,rfl,lk,hcd⟩:=F.ex;exact b4k lk hcd S len λ A outer s H vs Q E hr hsp=>hbody cdv A outer s H vs Q E hr hsp
theorem Fun.ok1 {x qual:Str} {st:Stmt} {f:Addr} {fd:FuncData} {N ps:List Str} {k:Nat} {sp:Sp} (F:Fun K x qual st f fd) (S:i9 N ps (d0 st)) (len:∀ vs H Q E,sp vs H Q E->vs.length=ps.length)
  (hbody:∀ (cdv:Value) (A:Around) (outer:List Env) (s:Shared) (H:Hp) (vs:List V) (Q:VK) (E:XK),Room k (A.deeper (envOfC qual (d0 st) s.heap.objs.size f cdv))->sp vs H Q E →
   ∃ t,PSs (M3 (R3 P w) P w K mg base N qual (d0 st) f cdv A outer s H E) (t9 st) t/\t { nx:=λ _ H'=>Q .non H',rt:=Q } (N9 N vs) H):FnOk P w K mg base (R3 P w) (k+1) f fd ps sp:=by
 obtain ⟨oc,od,kV,doc,pm,an,cdv,ct,osl,rfl,lk,hcd⟩:=F.ex;exact a9K lk hcd S len λ A outer s H vs Q E hr hsp=>hbody cdv A outer s H vs Q E hr hsp
end
section
variable {X:Cx} {k:Nat} {f:Addr} {fd:FuncData} {ps:List Str} {sp:Sp} {x:Str} {p pos:Pos} {e:Expr} {es:List Expr} {t:TA}
theorem b0K (F:FnU X.prog X.w X.K X.mg X.base k f fd ps sp) (hr:a5p k X.A) (hg:Gl X x) (hm:X.mg x=some (.ref f)) (hk:W.keepIn X.K (.ref f)=true) (hb:Binds X.K fd ps [])
  (ha:PA X (e::es) t) (hdb:(x==("__debug__":Str))=false:=by decide) (he:starEach (e::es) X.env=(false,eval e X.env)::starEach es X.env:=by rfl) (hpl:(backTo pos (starEach es X.env)).any (·.1)=false:=by rfl) :
  PE X (.Call (.Name x p) (e::es) [] pos) (a7x sp [] E0 t):=by
 intro pins s σ H Q I h;refine wpAny_Call_Name_kw (Z4 I hg hm ?_ hdb);refine W.callWith_K (h₀:=X.base) I.ok.mod.kin hk (y9 (ha pos pins s σ H _ I h) λ us s1 ⟨vs,H1,I1,r,q⟩=>⟨I1.kIn,?_⟩) he hpl
 replace q:sp (vs++[]) H1 Q E0:=q
 rw [dJ] at q;have hl:(us++[]).length=ps.length:=by rw [dJ,<- r.length]; exact F.len _ _ _ _ q
 have hb':=hb s1 us I1.kIn hl;rw [dJ] at hb';refine wpAny_call (codeAny_mono (F.run X.A X.stack s1 H1 ⟨us,[]⟩ us vs Q E0 hr I1.env0 hb' r q) λ rr s' hq=>?_)
 cases rr with
 | error e=>exact bN hq
 | ok fl =>
  cases fl with
  | ret u=>exact I1.after hq
  | next=>exact bN hq
  | brk=>exact bN hq
  | cont=>exact bN hq
end
abbrev TJ:=St->Hp->(Hp->Prop)->Prop
def PJ (X:Cx) (es:List Expr) (t:TJ):Prop :=
 ∀ (pins:List (Addr×Obj)) (s:Shared) (σ:St) (H:Hp) (out:Str) (Q:Hp->Prop),Inv X pins σ H s->out.length+2000*es.length<=100000->t σ H Q →
  wpAny (model X.prog X.w) X.A (joinParts out (evalEach es X.env)) (λ u s'=>∃ x tk H',u=Value.str x tk/\Inv X pins σ H' s'/\Q H') X.xe s
section
variable {X:Cx} {e:Expr} {es:List Expr} {te:TE} {t:TJ} {a:Str} {j:Nat} {p1 p2 p3:Pos}
theorem a9q:PJ X [] λ _ H Q=>Q H:=by
 intro pins s σ H out Q I hl h;refine joinParts_nilE (joinParts_nil ⟨_,_,H,rfl,I.tok _,h⟩ ?_);rw [sizeLine_eq];simp at hl;omega
theorem a2D (h:PJ X es t) (ha:a.length<=1000:=by decide):PJ X (.Constant (.str a) j p1::es) t:=by
 intro pins s σ H out Q I hl ht;refine joinParts_consE (joinParts_cons ?_);refine y9 (j9 pins s σ H (λ v H'=>v=.str a/\H'=H) I ⟨rfl,rfl⟩) λ u s1 ⟨v,H1,I1,r,hv,hH⟩=>?_;subst hv; subst hH;obtain ⟨tk,rfl⟩:=r;simp only [cG] at hl;have e0:(out++a).length=out.length+a.length:=strLen_append ..;exact ⟨by rw [e0,sizeLine_eq]; omega,h pins s1 σ H1 (out++a) Q I1 (by rw [e0]; omega) ht⟩
theorem a5K (he:PE X e te) (h:PJ X es t):PJ X (.FormattedValue e (-1) none p2::es) λ σ H Q=>te σ H λ v H1=>∃ i:Int,v=.int i/\i.natAbs.log2<1920/\t σ H1 Q:=by
 intro pins s σ H out Q I hl ht;refine joinParts_consE (joinParts_cons (FormattedValue_plain ?_));refine y9 (he pins s σ H _ I ht) λ u s2 ⟨v,H2,I2,r,i,hv,hi,q⟩=>?_;subst hv;obtain ⟨tk2,rfl⟩:=r;refine formatField_int_small hi ?_;simp only [cG] at hl;have h1:=int_text_length_le (a:=i) (k:=1920) (by decide) hi;have e0:(out++Str.ofString (toString i)).length=out.length+(toString i).length:=by rw [strLen_append,iE]
 have hle:(toString i).length<=2000:=by omega
 exact ⟨by rw [e0,sizeLine_eq]; omega,h pins _ σ H2 _ Q (I2.tok _) (by rw [e0]; omega) q⟩
def tFg (t:TJ):TE:=λ σ H Q=>t σ H λ H1=>∀ x,Q (.str x) H1
theorem a5r {v1 v2:Expr} (h:PJ X (v1::v2::es) t) (hl:es.length<=20:=by decide):PE X (.JoinedStr (v1::v2::es) p3) (tFg t):=by
 intro pins s σ H Q I ht;refine JoinedStr_many ?_;refine y9 (h pins s σ H Str.empty _ I ?_ ht) λ u s' ⟨x,tk,H',e1,I',q⟩=>?_
 ·show 0+2000*(es.length+1+1)<=100000
  omega
 ·subst e1
  exact ⟨.str x,H',I',⟨_,rfl⟩,q x⟩
end
end L2
namespace L2
open PySem PySem.Spec PySem.Builtin PySem.Builtin.Str PyProof.Rows
theorem a3i:∀ (l:List (bS×Tok)),Vals ((l.map (·.1)).map V.str) (strValues l)
 | []=>.nil
 | p::l=>.cons ⟨p.2,rfl⟩ (a3i l)
theorem a3s:∀ {ys:List bS} {its:List Value},Vals (ys.map V.str) its->StrsAre its ys
 | [],_,h=>by cases h; exact .nil
 | y::ys,_,h=>by
  cases h with
  | cons r t =>
   obtain ⟨tk,rfl⟩:=r;exact .cons y tk (a3s t)
section
variable {X:Cx}
def b1M:V->List V->Hp->VK->Prop:=λ x vs H Q=>∃ z y,x=.str z/\vs=[.str y]/\(y.length==0)=false/\z.length+2<=sizeLine/\∀ l,H l=none->Q (.ref l) (r9 H l (.lst ((Txt.split z y).map V.str)))
theorem a0J:MtM X "str.split" b1M:=by
 intro pins s σ H x vs v us Q I rx rv h;obtain ⟨z,y,rfl,rfl,hy,hsz,q⟩:=h;obtain ⟨t,rfl⟩:=rx;obtain ⟨u,rfl,ru⟩:=rv.one;obtain ⟨u,rfl⟩:=ru;have hn:(partsBetween z (occurrences z y 0 z.length (z.length+1)) y.length).length<=sizeLine:=by
  have e1:=StrLaws.occ_length_le z y 0 z.length (z.length+1);rw [length_partsBetween]; omega
 have fin:∀ (l:List (bS×Tok)) (k:Nat),l.map (·.1)=Txt.split z y->l.length<=sizeLine->∃ v' H',Inv X pins σ H' { s with heap:=s.heap.push { cls:=.type "list",data:=.seq (strValues l).toArray },toks:=k }/\RelV v' (.ref s.heap.objs.size)/\Q v' H':=λ l k e hl=>by
  refine ⟨.ref s.heap.objs.size,_,I.laid (o:=.lst ((Txt.split z y).map V.str)) (t':=k) (λ b u e=>Heap.get?_push_of_some _ e) (aF _) ⟨?_,strValues l,0,?_,?_⟩,rfl,q _ (I.hok.fresh (aF _))⟩
  ·rw [<- e,aA,aA]; exact hl
  ·rw [<- e]; exact a3i l
  ·exact Heap.get?_push_size _ rfl
 have ls:∀ (l:List bS) (k:Nat),(numbered k l).length=l.length:=λ l k=>by
  have:=congrArg gF (numbered_texts k l);rw [aA] at this;exact this
 cases h1:(decide (z.length<y.length) || decide (strKind z<strKind y))
 ·cases hf:(occurrences z y 0 z.length (z.length+1)).isEmpty
  ·refine call_meets F.slot_str_split (typeIs_str _ _ _) F.entry_str_split (F.args_str_split_2 _ _) (meets_str_split_sep z y t u h1 hy hf (by omega) hn) ?_
   show wants _ _ _ { s with toks:=_,heap:=s.heap.push { cls:=.type "list",data:=.seq (strsFrom s.toks (partsBetween z (occurrences z y 0 z.length (z.length+1)) y.length)).toArray } }
   rw [strsFrom_eq];exact fin (numbered s.toks _) _ ((numbered_texts _ _).trans ((if_neg (ne_true_of_eq_false h1)).trans (if_neg (ne_true_of_eq_false hf))).symm) (by rw [ls]; exact hn)
  ·exact call_meets F.slot_str_split (typeIs_str _ _ _) F.entry_str_split (F.args_str_split_2 _ _) (meets_str_split_not_found z y t u h1 hy hf)
    (fin [(z,t)] s.toks ((if_neg (ne_true_of_eq_false h1)).trans (if_pos hf)).symm (show 1<=sizeLine by decide))
 ·exact call_meets F.slot_str_split (typeIs_str _ _ _) F.entry_str_split (F.args_str_split_2 _ _) (meets_str_split_cannot_occur z y t u h1)
   (fin [(z,t)] s.toks (if_pos h1).symm (show 1<=sizeLine by decide))
def b4C (K:W.Frag):V->List V->Hp->VK->Prop:=λ x vs H Q=>∃ (y:bS) (l:Addr) (ys:List bS),x=.str y/\vs=[.ref l]/\SqL K H l (ys.map V.str)/\(ys.map (·.length)).sum+ys.length*y.length<=16777216/\Q (.str (Txt.join y ys)) H
theorem a1R:MtM X "str.join" (b4C X.K):=by
 intro pins s σ H x vs v us Q I rx rv h;obtain ⟨y,l,ys,rfl,rfl,hl,hz,q⟩:=h;obtain ⟨t,rfl⟩:=rx;obtain ⟨u,rfl,ru⟩:=rv.one
 cases ru;obtain ⟨its,r,p,_⟩:=I.list hl;exact join_list p.isList (a3s r) hz λ t' k=>⟨.str _,H,I.tok _,⟨_,rfl⟩,q⟩
theorem a4g:G9 X (.type "int") (λ xs H Q=>∃ z n,xs=[.str z]/\PySem.intText? z=some n/\z.length<=640/\Q (.int n) H):=by
 intro pins s σ H vs us Q I r h;obtain ⟨z,n,rfl,hn,hl,q⟩:=h;obtain ⟨u,rfl,ru⟩:=r.one;obtain ⟨t,rfl⟩:=ru;exact W.KIN.call_text hn hl ⟨.int n,H,I.tok _,⟨_,rfl⟩,q⟩
end
def Its (z:bS):It:=⟨λ i _=>i<z.cps.size,λ i H x H'=>H'=H/\∃ c,z.cps[i]?=some c/\x=.str ⟨#[c]⟩,λ i _=>z.cps.size<=i⟩
theorem a9v {P:Program} {w:World} {K:W.Frag} {tg:Expr} (z:bS) (t:Tok) (it:Addr):a6i P w K tg (Its z) [it] it (λ i h=>h.IsStrIter it "str_ascii_iterator" z t i\/h.IsStrIter it "str_iterator" z t i) where
 mem:=by simp
 obj:=λ i h st b hb=>by
  have e:b=it:=by simpa using hb
  subst e;rcases st with st | st
  ·obtain ⟨o,e,c,d⟩:=st
   exact ⟨o,e,λ v z=>by rw [d] at z; cases z⟩
  ·obtain ⟨o,e,c,d⟩:=st
   exact ⟨o,e,λ v z=>by rw [d] at z; cases z⟩
 keep:=λ i h h' st k=>by
  rcases st with ⟨o,e,r⟩ | ⟨o,e,r⟩
  ·exact .inl ⟨o,k it (by simp) o e,r⟩
  ·exact .inr ⟨o,k it (by simp) o e,r⟩
 item:=by
  intro X hP hw hK hc i pins s σ H E I hf st hg;subst hP hw hK;have hg':i<z.cps.size:=hg;obtain ⟨f0,f1,f2,f3,f4,f5⟩:=hf it (by simp);have hx:z.cps[i]?=some z.cps[i]:=by simp [hg']
  rcases st with st | st
  ·refine wpAny_pyNext_ascii_item st hx λ h' st' sb=>?_
   have I1:Inv X pins σ H { s with heap:=h',toks:=s.toks+1 }:=I.turned (t':=s.toks+1) (λ b o hb e=>(sb.2 b hb).trans e) f0 f1 f3 f4 f5;obtain ⟨o,e,c,d⟩:=id st';exact ⟨_,rfl,a4N (s:={ s with heap:=h',toks:=s.toks+1 }) e c d (by decide) ⟨.str ⟨#[z.cps[i]]⟩,H,I1,⟨_,rfl⟩,⟨rfl,_,hx,rfl⟩,.inl st',λ b hb=>(hf b hb).1⟩⟩
  ·refine wpAny_pyNext_wide_item st hx λ h' st' sb=>?_
   have I1:Inv X pins σ H { s with heap:=h',toks:=s.toks+1 }:=I.turned (t':=s.toks+1) (λ b o hb e=>(sb.2 b hb).trans e) f0 f1 f3 f4 f5;obtain ⟨o,e,c,d⟩:=id st';exact ⟨_,rfl,a4N (s:={ s with heap:=h',toks:=s.toks+1 }) e c d (by decide) ⟨.str ⟨#[z.cps[i]]⟩,H,I1,⟨_,rfl⟩,⟨rfl,_,hx,rfl⟩,.inr st',λ b hb=>(hf b hb).1⟩⟩
 done:=by
  intro X hP hw hK hc i pins s σ H E I hf st hg;subst hP hw hK;have hg':z.cps.size<=i:=hg;obtain ⟨f0,f1,f2,f3,f4,f5⟩:=hf it (by simp);have hx:z.cps[i]?=none:=by simp [hg']
  rcases st with st | st
  ·exact wpAny_pyNext_ascii_end (I.ok.hd hc) st hx λ h' eb=>⟨rfl,I.turned (t':=s.toks) (λ b o hb e=>eb b o hb e) f0 f1 f3 f4 f5⟩
  ·exact wpAny_pyNext_wide_end (I.ok.hd hc) st hx λ h' eb=>⟨rfl,I.turned (t':=s.toks) (λ b o hb e=>eb b o hb e) f0 f1 f3 f4 f5⟩
 self:=λ _ _ _ _ _ st h=>st.elim (λ st=>wpAny_pyIter_striter_ascii st h) λ st=>wpAny_pyIter_striter_wide st h
def b7l (tl:TE):TI:=λ σ H R=>tl σ H λ x H1=>∃ z,x=.str z/\R (Its z) H1
theorem b4l {X:Cx} {tg l:Expr} {tl:TE} (hl:PE X l tl):PI X tg l (b7l tl):=by
 intro pins s σ H R I h;refine y9 (hl pins s σ H _ I h) λ v s1 ⟨x,H1,I1,r1,q1⟩=>?_;obtain ⟨z,e,q⟩:=q1;subst e;obtain ⟨t,rfl⟩:=r1;have fin:∀ (o:Obj),(s1.heap.push o).IsStrIter s1.heap.objs.size "str_ascii_iterator" z t 0\/(s1.heap.push o).IsStrIter s1.heap.objs.size "str_iterator" z t 0->PIE X pins σ tg R (.ref s1.heap.objs.size) { s1 with heap:=s1.heap.push o }:=λ o st =>
  ⟨s1.heap.objs.size,[s1.heap.objs.size],_,_,H1,rfl,I1.kept (t':=s1.toks) λ b o e=>Heap.get?_push_of_some _ e,a9v z t _,st,λ b hb=>by
   have e:b=s1.heap.objs.size:=by simpa using hb
   subst e;exact I1.fpOk (aF _) (I1.hok.fresh (aF _)),q⟩
 cases ha:z.cps.all (·<128)
 ·exact wpAny_pyIter_wide ha (fin _ (.inr ⟨_,Heap.get?_push_size _ rfl,rfl,rfl⟩))
 ·exact wpAny_pyIter_ascii ha (fin _ (.inl ⟨_,Heap.get?_push_size _ rfl,rfl,rfl⟩))
def a3e (z:bS):List V:=z.cps.toList.map λ c=>V.str ⟨#[c]⟩
theorem a9U {z:bS} {H1:Hp}:a5T (Its z) H1 (a3e z):=by
 have l:(a3e z).length=z.cps.size:=by unfold a3e; rw [aA,gB]
 refine ⟨λ i H _ hi=>by rw [l] at hi; exact hi,λ i H x H' _ hi y=>⟨y.1,?_⟩,λ H _=>by rw [l]; exact aF _⟩;obtain ⟨c,hc,rfl⟩:=y.2;unfold a3e;rw [aE,iY,hc]; rfl
abbrev TK2:=St->Hp->(bS->Hp->Prop)->Prop
def PJ2 (X:Cx) (es:List Expr) (t:TK2):Prop :=
 ∀ (pins:List (Addr×Obj)) (s:Shared) (σ:St) (H:Hp) (out:bS) (Q:bS->Hp->Prop),Inv X pins σ H s->out.length+2000*es.length<=100000->t σ H Q →
  wpAny (model X.prog X.w) X.A (joinParts out (evalEach es X.env)) (λ u s'=>∃ z tk H',u=Value.str (out++z) tk/\Inv X pins σ H' s'/\Q z H') X.xe s
theorem a8v (x:bS):x++Str.empty=x:=by
 cases x with | mk c=>show gK (c++#[])=_; simp
theorem a8s (x:bS):Str.empty++x=x:=by
 cases x with | mk c=>show gK (#[]++c)=_; simp
theorem a3u (x y z:bS):(x++y)++z=x++(y++z):=by
 cases x with | mk a=>cases y with | mk b=>cases z with | mk c =>
 show gK ((a++b)++c)=gK (a++(b++c))
 rw [iQ]
def a2L (v:V) (y:bS):Prop:=(∃ i:Int,v=.int i/\i.natAbs.log2<1920/\y=Str.ofString (toString i))\/(v=.str y/\y.length<=2000)
section
variable {X:Cx} {e:Expr} {es:List Expr} {te:TE} {t:TK2} {a:bS} {j:Nat} {p1 p2 p3:Pos}
theorem a7l:PJ2 X [] λ _ H Q=>Q Str.empty H:=by
 intro pins s σ H out Q I hl h;exact joinParts_nilE (joinParts_nil ⟨Str.empty,_,H,by rw [a8v],I.tok _,h⟩ (by rw [sizeLine_eq]; simp at hl; omega))
theorem a6U (h:PJ2 X es t) (ha:a.length<=1000:=by decide):PJ2 X (.Constant (.str a) j p1::es) λ σ H Q=>t σ H λ z H'=>Q (a++z) H':=by
 intro pins s σ H out Q I hl ht;refine joinParts_consE (joinParts_cons ?_);refine y9 (j9 pins s σ H (λ v H'=>v=.str a/\H'=H) I ⟨rfl,rfl⟩) λ u s1 ⟨v,H1,I1,r,hv,hH⟩=>?_;subst hv; subst hH;obtain ⟨tk,rfl⟩:=r;simp only [cG] at hl;have e0:(out++a).length=out.length+a.length:=strLen_append ..;refine ⟨by rw [e0,sizeLine_eq]; omega,y9 (h pins s1 σ H1 (out++a) _ I1 (by rw [e0]; omega) ht) λ u s' ⟨z,tk,H',e1,I',q⟩=>⟨a++z,tk,H',by rw [e1,a3u],I',q⟩⟩
theorem a1Q (he:PE X e te) (h:PJ2 X es t):PJ2 X (.FormattedValue e (-1) none p2::es) λ σ H Q=>te σ H λ v H1=>∃ y,a2L v y/\t σ H1 λ z H'=>Q (y++z) H':=by
 intro pins s σ H out Q I hl ht;refine joinParts_consE (joinParts_cons (FormattedValue_plain ?_));refine y9 (he pins s σ H _ I ht) λ u s2 ⟨v,H2,I2,r,y,hp,q⟩=>?_;simp only [cG] at hl;have fin:∀ (tk:Nat) ,y.length<=2000->(out++y).length<=sizeLine/\wpAny (model X.prog X.w) X.A (joinParts (out++y) (evalEach es X.env)) (λ u s'=>∃ z tk H',u=Value.str (out++z) tk/\Inv X pins σ H' s'/\Q z H') X.xe { s2 with toks:=tk }:=λ tk hy=>by
  have e0:(out++y).length=out.length+y.length:=strLen_append ..;refine ⟨by rw [e0,sizeLine_eq]; omega,y9 (h pins _ σ H2 (out++y) _ (I2.tok _) (by rw [e0]; omega) q) λ u s' ⟨z,tk,H',e1,I',q⟩=>⟨y++z,tk,H',by rw [e1,a3u],I',q⟩⟩
 rcases hp with ⟨i,rfl,hi,rfl⟩ | ⟨rfl,hy⟩
 ·obtain ⟨tk2,rfl⟩:=r
  refine formatField_int_small hi ?_;have h1:=int_text_length_le (a:=i) (k:=1920) (by decide) hi;exact fin _ (by rw [iE]; omega)
 ·obtain ⟨tk2,rfl⟩:=r
  exact formatField_str (λ t' tk=>fin tk hy) (by rw [sizeLine_eq]; omega)
def tFe (t:TK2):TE:=λ σ H Q=>t σ H λ z H1=>Q (.str z) H1
theorem a5d {v1 v2:Expr} (h:PJ2 X (v1::v2::es) t) (hl:es.length<=20:=by decide):PE X (.JoinedStr (v1::v2::es) p3) (tFe t):=by
 intro pins s σ H Q I ht;refine JoinedStr_many ?_;refine y9 (h pins s σ H Str.empty _ I ?_ ht) λ u s' ⟨z,tk,H',e1,I',q⟩=>?_
 ·show 0+2000*(es.length+1+1)<=100000
  omega
 ·subst e1
  exact ⟨.str z,H',I',⟨_,by rw [a8s]⟩,q⟩
theorem a9G (he:PE X e te):PE X (.JoinedStr [.FormattedValue e (-1) none p2] p3) (λ σ H Q=>te σ H λ v H1=>∃ y,a2L v y/\Q (.str y) H1):=by
 intro pins s σ H Q I ht;refine JoinedStr_one (FormattedValue_plain ?_);refine y9 (he pins s σ H _ I ht) λ u s2 ⟨v,H2,I2,r,y,hp,q⟩=>?_;rcases hp with ⟨i,rfl,hi,rfl⟩ | ⟨rfl,hy⟩
 ·obtain ⟨tk2,rfl⟩:=r
  exact formatField_int_small hi ⟨.str _,H2,I2.tok _,⟨_,rfl⟩,q⟩
 ·obtain ⟨tk2,rfl⟩:=r
  exact formatField_str (λ t' tk=>⟨.str _,H2,I2.tok _,⟨_,rfl⟩,q⟩) (by rw [sizeLine_eq]; omega)
end
end L2
namespace Tx
open PySem PySem.Builtin PySem.Builtin.Str PyProof.Rows
abbrev S:=bS
abbrev cs (x:S):List Nat:=x.cps.toList
theorem ext {x y:S} (h:cs x=cs y):x=y:=by
 cases x with | mk a=>cases y with | mk b =>
 have:a.toList=b.toList:=h;rw [Array.toList_inj.mp this]
theorem cs_app (x y:S):cs (x++y)=cs x++cs y:=by
 cases x with | mk a=>cases y with | mk b =>
 show (a++b).toList=a.toList++b.toList
 simp
abbrev ch (c:Nat):S:=⟨#[c]⟩
theorem X6 (c:Nat):cs (ch c)=[c]:=rfl
theorem len_cs (x:S):x.length=(cs x).length:=(gB).symm
theorem b0m {c:Nat}:∀ {a b s t:List Nat},c ∉ a->c ∉ b->a++c::s=b++c::t->a=b/\s=t
 | [],[],s,t,_,_,h=>⟨rfl,by simpa using h⟩
 | [],y::b,s,t,_,hb,h=>by
  have:c=y:=by simpa using (gL h).1
  exact absurd (this ▸ bB) hb
 | x::a,[],s,t,ha,_,h=>by
  have:x=c:=by simpa using (gL h).1
  exact absurd (this ▸ bB) ha
 | x::a,y::b,s,t,ha,hb,h=>by
  obtain ⟨h1,h2⟩:=gL h;obtain ⟨e1,e2⟩:=b0m (c:=c) (a:=a) (b:=b) (λ z=>ha (aU _ z)) (λ z=>hb (aU _ z)) h2;exact ⟨by rw [h1,e1],e2⟩
theorem a4L {c:Nat}:∀ {ps qs:List S},ps≠[]->qs≠[]->(∀ p∈ps,c ∉ cs p)->(∀ p∈qs,c ∉ cs p)->Str.join (ch c) ps=Str.join (ch c) qs->ps=qs
 | [],_,h,_,_,_,_=>absurd rfl h
 | _::_,[],_,h,_,_,_=>absurd rfl h
 | [p],[q],_,_,_,_,h=>by rw [show p=q from h]
 | [p],q::q'::r,_,_,hp,_,h=>by
  have e:=congrArg cs h;have e':cs p=cs (q++ch c++Str.join (ch c) (q'::r)):=e;rw [cs_app,cs_app] at e';exact absurd (by rw [e']; simp) (hp p bB)
 | p::p'::r,[q],_,_,_,hq,h=>by
  have e:=congrArg cs h;have e':cs (p++ch c++Str.join (ch c) (p'::r))=cs q:=e;rw [cs_app,cs_app] at e';exact absurd (by rw [<- e']; simp) (hq q bB)
 | p::p'::r,q::q'::r',_,_,hp,hq,h=>by
  have e:cs (p++ch c++Str.join (ch c) (p'::r))=cs (q++ch c++Str.join (ch c) (q'::r')):=congrArg cs h;rw [cs_app,cs_app,cs_app,cs_app,cQ,cQ] at e;obtain ⟨e1,e2⟩:=b0m (hp p bB) (hq q bB) e;rw [ext e1,a4L (ps:=p'::r) (qs:=q'::r') (by simp) (by simp) (λ x hx=>hp x (aU _ hx)) (λ x hx=>hq x (aU _ hx)) (ext e2)]
theorem P3 {c:Nat} {ps:List S} (hne:ps≠[]) (hf:∀ p∈ps,c ∉ cs p):Txt.split (Str.join (ch c) ps) (ch c)=ps:=by
 refine a4L ?_ hne (StrLaws.split_free _ c) hf (StrLaws.join_split _ _);intro z;have:=split_pos (Str.join (ch c) ps) (ch c);rw [z] at this;exact absurd this (by decide)
theorem split_ne (x:S) (c:Nat):Txt.split x (ch c)≠[]:=λ z=>by
 have:=split_pos x (ch c);rw [z] at this;exact absurd this (by decide)
theorem a4S {c d:Nat}:∀ {ps:List S} {p:S},p∈ps->d∈cs p->d∈cs (Str.join (ch c) ps)
 | [q],p,h,hd=>by rw [aQ.mp h] at hd; exact hd
 | q::q'::r,p,h,hd=>by
  show d∈cs (q++ch c++Str.join (ch c) (q'::r))
  rw [cs_app,cs_app];rcases aO.mp h with rfl | h
  ·exact dI _ (dI _ hd)
  ·exact cA _ (a4S h hd)
def K7 (x:S):Prop:=∀ c∈cs x,c<128
theorem asc_part {x p:S} {c:Nat} (h:K7 x) (hp:p∈Txt.split x (ch c)):K7 p:=λ d hd=>h d (by
 have:=a4S (c:=c) hp hd
 rwa [StrLaws.join_split] at this)
theorem asc_app {x y:S} (hx:K7 x) (hy:K7 y):K7 (x++y):=λ c hc=>by
 rw [cs_app] at hc;exact (bK.mp hc).elim (hx c) (hy c)
theorem join_asc {c:Nat} (hc:c<128):∀ {ps:List S},(∀ p∈ps,K7 p)->K7 (Str.join (ch c) ps)
 | [],_=>λ d hd=>by cases hd
 | [p],h=>h p bB
 | p::p'::r,h=>by
  refine asc_app (asc_app (h p bB) λ d hd=>?_) (join_asc hc λ q hq=>h q (aU _ hq));rw [X6,aQ] at hd; omega
theorem join_eq (sep:S) (ps:List S):Txt.join sep ps=Str.join sep ps:=StrLaws.glued_eq_join sep ps
def p9 (n:Int):S:=Str.ofString (toString n)
theorem a1Y (m:Nat):cs (p9 (m:Int))=(eM 10 m).map iF:=W.KIN.signs_num m
theorem num_digits (m:Nat):NumText.AllDigits (cs (p9 (m:Int))):=λ c hc=>by
 rw [a1Y] at hc;obtain ⟨x,hx,rfl⟩:=aZ.mp hc;exact digit_range (Nat.isDigit_of_mem_toDigits (by decide) (by decide) hx)
theorem b2K (m:Nat):NumText.digitsVal (cs (p9 (m:Int)))=m:=by rw [a1Y]; exact W.KIN.val_back m
def B7 (x:S):Bool:=decide (1<=(cs x).length)&&decide ((cs x).length<=10)&&(cs x).all (λ c=>decide (48<=c)&&decide (c<=57))&&(decide ((cs x).head?≠some 48) || decide (cs x=[48]))
def y6 (x:S):Option Int:=if B7 x=true then some ((NumText.digitsVal (cs x):Nat):Int) else none
theorem b0A:∀ m:Nat,1<=m->((eM 10 m).map iF).head?≠some 48:=λ m=>by
 induction m using jH with
 | _ m ih =>
  intro h
  by_cases h1:m<10
  ·rw [Nat.toDigits_of_lt_base h1]
   show some (jI m).toNat≠some 48
   have:∀ d:Nat,d<10->1<=d->(jI d).toNat≠48:=by decide
   exact λ z=>this m h1 h (aJ z)
  ·have hm:m % 10<10:=Nat.mod_lt m (by decide)
   have t:eM 10 (m / 10)++eM 10 (m % 10)=eM 10 (10*(m / 10)+m % 10):=Nat.toDigits_append_toDigits (by decide) (by omega) hm;rw [Nat.div_add_mod] at t;rw [<- t,bP];have i:=ih (m / 10) (by omega) (by omega)
   cases e:(eM 10 (m / 10)).map iF with
   | nil =>
    have:=jJ (n:=m / 10) (b:=10);exact absurd (jK.mp e) this
   | cons a r=>rw [e] at i; exact i
theorem num_len {m:Nat} (h:m<10 ^ 10):1<=(cs (p9 (m:Int))).length/\(cs (p9 (m:Int))).length<=10:=by
 have h2:=W.KT.len_num (n:=(m:Int)) (by omega) (by omega);refine ⟨?_,by rw [<- len_cs]; exact h2⟩;rw [a1Y,aA];have:=jJ (n:=m) (b:=10)
 cases e:eM 10 m with
 | nil=>exact absurd e this
 | cons _ _=>simp
theorem a8j {m:Nat} (h:m<10 ^ 10):B7 (p9 (m:Int))=true:=by
 obtain ⟨l1,l2⟩:=num_len h;unfold B7;rw [decide_eq_true l1,decide_eq_true l2];have ha:(cs (p9 (m:Int))).all (λ c=>decide (48<=c)&&decide (c<=57))=true:=by
  rw [dB];intro c hc;obtain ⟨a,b⟩:=num_digits m c hc;rw [decide_eq_true a,decide_eq_true b]; rfl
 rw [ha]
 by_cases h0:m=0
 ·subst h0; decide
 ·rw [decide_eq_true (show (cs (p9 (m:Int))).head?≠some 48 by rw [a1Y]; exact b0A m (by omega))]; rfl
theorem read_num {m:Nat} (h:m<10 ^ 10):y6 (p9 (m:Int))=some (m:Int):=by
 unfold y6;rw [if_pos (a8j h),b2K]
theorem num_asc (m:Nat):K7 (p9 (m:Int)):=λ c hc=>by have:=num_digits m c hc; omega
end Tx
namespace L2
open PySem PySem.Spec PyProof.Rows
section
variable {prog:Program} {w:World} {A:Around} {E:Value->Shared->Prop} {s:Shared}
theorem b2p {j tp:Addr} {i:Nat} {vs:Array Value} {x:Value} {Q:Value->Shared->Prop} (q1:IsTupIter s.heap j tp i) (q2:IsTup s.heap tp vs) (q3:vs[i]?=some x)
  (q:∀ h',IsTupIter h' j tp (i+1)->Heap.SameBut j s.heap h'->Q x { s with heap:=h' }):wpAny (model prog w) A (Builtin.SmallTypes.nextOf (.ref j)) Q E s:=by
 obtain ⟨oj,g1,g2,g3⟩:=id q1;obtain ⟨ot,g4,_,nt,g5⟩:=q2;unfold Builtin.SmallTypes.nextOf;refine wpAny_bind (wpAny_callSpecial?_slot (name:=Str.ofString "__next__") q1.typeIs slot_tupleiter_next (wpAny_call_entry slot_tupleiter_next q1.typeIs entry_tupleiter_next ?_ (args_tupleiter_next _)))
 show wpAny _ _ (field (.ref j) 0 >>= _) _ _ s
 refine wpAny_bind (wpAny_field g1 g3 (x:=.ref tp) rfl ?_)
 show wpAny _ _ (if (Value.ref tp==Value.none)=true then _ else _) _ _ s
 rw [if_neg (λ z=>by cases z)]
 show wpAny _ _ (field (.ref j) 1 >>= _) _ _ s
 refine wpAny_bind (wpAny_field g1 g3 (x:=.int i 0) rfl ?_)
 show wpAny _ _ (seqItems? (.ref tp) >>= _) _ _ s
 refine wpAny_bind (wpAny_seqItems g4 g5 ?_);simp only [bR,q3];refine wpAny_bind (wpAny_setField g1 g3 (by simp) (wpAny_pure ⟨x,rfl,wpAny_pure (q _ ?_ (Heap.SameBut.update ..))⟩));refine ⟨_,Heap.get?_update_self _ g1 (Obj.isFreed_of_fields (Obj.data_mapFields g3 _)),(Obj.cls_mapFields ..).trans g2,?_⟩;rw [Obj.data_mapFields g3];simp [rawInt]
theorem b4x {j tp:Addr} {i:Nat} {vs:Array Value} {Q:Value->Shared->Prop} (hh:A.handled=none) (q1:IsTupIter s.heap j tp i) (q2:IsTup s.heap tp vs) (q3:vs[i]?=none)
  (q:∀ h' e,Heap.ExtBut j s.heap h'->(∃ o,h'.get? e=some o/\o.cls=.type "StopIteration")->E (.ref e) { s with heap:=h' }):wpAny (model prog w) A (Builtin.SmallTypes.nextOf (.ref j)) Q E s:=by
 obtain ⟨oj,g1,g2,g3⟩:=id q1;obtain ⟨ot,g4,_,nt,g5⟩:=q2;unfold Builtin.SmallTypes.nextOf;refine wpAny_bind (wpAny_callSpecial?_slot (name:=Str.ofString "__next__") q1.typeIs slot_tupleiter_next (wpAny_call_entry slot_tupleiter_next q1.typeIs entry_tupleiter_next ?_ (args_tupleiter_next _)))
 show wpAny _ _ (field (.ref j) 0 >>= _) _ _ s
 refine wpAny_bind (wpAny_field g1 g3 (x:=.ref tp) rfl ?_)
 show wpAny _ _ (if (Value.ref tp==Value.none)=true then _ else _) _ _ s
 rw [if_neg (λ z=>by cases z)]
 show wpAny _ _ (field (.ref j) 1 >>= _) _ _ s
 refine wpAny_bind (wpAny_field g1 g3 (x:=.int i 0) rfl ?_)
 show wpAny _ _ (seqItems? (.ref tp) >>= _) _ _ s
 refine wpAny_bind (wpAny_seqItems g4 g5 ?_);simp only [bR,q3];refine wpAny_bind (wpAny_rule (wpAny_bind (wpAny_setField g1 g3 (by simp) ?_)))
 show wpAny _ _ (do let e <- newExc (.type "StopIteration") []; _) _ _ _
 simp only [newExc,newTuple];refine wpAny_bind (wpAny_bind (wpAny_newObj_type (wpAny_bind (m:=firstArgMember _ _) (wpAny_of_eq (a:=Value.none) (by first | rfl | (simp only [firstArgMember]; rfl)) (wpAny_newObj_type ?_ (by size_fits)))) (by size_fits)));simp only [raiseNew];refine wpAny_bind (wpAny_handled ?_);rw [show A.in1.handled=none from hh];exact wpAny_bind (wpAny_pure (wpAny_throw (q _ _ (((Heap.SameBut.update ..).extBut.push _).push _) ⟨_,Heap.get?_push_size _ rfl,rfl⟩)))
theorem IsTupIter.at' {h h':Heap} {a t:Addr} {i:Nat} (x:IsTupIter h a t i) (e:∀ o,h.get? a=some o->h'.get? a=some o):IsTupIter h' a t i:=let ⟨o,ho,r⟩:=x; ⟨o,e _ ho,r⟩
end
def IsB:Bool->Heap->Addr->Array Value->Prop
 | true,h,t,xs=>h.IsList t xs
 | false,h,t,xs=>IsTup h t xs
def ItB:Bool->Heap->Addr->Addr->Nat->Prop
 | true,h,j,t,k=>h.IsListIter j t k
 | false,h,j,t,k=>IsTupIter h j t k
def SqB:Bool->W.Frag->Hp->Addr->List V->Prop
 | true,K,H,a,xs=>SqL K H a xs
 | false,K,H,a,xs=>SqT K H a xs
def itN:Bool->String
 | true=>"list_iterator"
 | false=>"tuple_iterator"
section
variable {b:Bool} {h h':Heap} {j t c:Addr} {k:Nat} {xs:Array Value}
theorem ItB.at' (x:ItB b h j t k) (e:∀ o,h.get? j=some o->h'.get? j=some o):ItB b h' j t k:=by
 cases b
 ·exact IsTupIter.at' x e
 ·exact Heap.IsListIter.at x e
theorem ItB.extBut (x:ItB b h j t k) (hs:Heap.ExtBut c h h') (n:j≠c):ItB b h' j t k:=x.at' λ o e=>hs j o n e
theorem IsB.at' (x:IsB b h t xs) (e:∀ o,h.get? t=some o->h'.get? t=some o):IsB b h' t xs:=by
 cases b
 ·obtain ⟨o,ho,r⟩:=x; exact ⟨o,e o ho,r⟩
 ·obtain ⟨o,ho,r⟩:=x; exact ⟨o,e o ho,r⟩
theorem IsB.extBut (x:IsB b h t xs) (hs:Heap.ExtBut c h h') (n:t≠c):IsB b h' t xs:=x.at' λ o e=>hs t o n e
theorem IsB.push (x:IsB b h t xs) (o:Obj):IsB b (h.push o) t xs:=x.at' λ _ e=>Heap.get?_push_of_some _ e
theorem IsB.lt (x:IsB b h t xs):t<h.objs.size:=by
 cases b
 ·obtain ⟨o,ho,_⟩:=x; exact Heap.lt_size ho
 ·obtain ⟨o,ho,_⟩:=x; exact Heap.lt_size ho
theorem ItB.mk (e:h.get? j=some { cls:=.type (itN b),data:=.fields #[.ref t,.int 0 0] }):ItB b h j t 0:=by
 cases b
 ·exact ⟨_,e,rfl,rfl⟩
 ·exact ⟨_,e,rfl,rfl⟩
theorem ItB.obj (x:ItB b h j t k):∃ o,h.get? j=some o/\∃ vs,o.data=.fields vs:=by
 cases b
 ·obtain ⟨o,ho,_,d⟩:=x; exact ⟨o,ho,_,d⟩
 ·obtain ⟨o,ho,_,d⟩:=x; exact ⟨o,ho,_,d⟩
theorem Same.sqB {K:W.Frag} {H H':Hp} {a:Addr} {ys:List V} (e:Same H H') (x:SqB b K H a ys):SqB b K H' a ys:=by
 cases b
 ·exact e.tseq x
 ·exact e.seq x
theorem Inv.sqB {X:Cx} {pins:List (Addr×Obj)} {σ:St} {H:Hp} {s:Shared} {a:Addr} {ys:List V} (I:Inv X pins σ H s) (x:SqB b X.K H a ys):∃ its:List Value,Vals ys its/\IsB b s.heap a its.toArray/\ys.length<=sizeLine:=by
 cases b
 ·exact I.tuple x
 ·obtain ⟨i,r,p,z⟩:=I.list x
  exact ⟨i,r,p.isList,z⟩
theorem Inv.sqB_inj {X:Cx} {pins:List (Addr×Obj)} {σ:St} {H:Hp} {s:Shared} {a:Addr} {ys zs:List V} (I:Inv X pins σ H s) (x:SqB b X.K H a ys) (y:SqB b X.K H a zs):ys=zs:=by
 cases b
 ·exact I.tuple_inj x y
 ·exact I.list_inj x y
end
section
variable {prog:Program} {w:World} {A:Around} {E:Value->Shared->Prop} {s:Shared}
theorem a2v {b:Bool} {j tp:Addr} {i:Nat} {vs:Array Value} {x:Value} {Q:Value->Shared->Prop} (q1:ItB b s.heap j tp i) (q2:IsB b s.heap tp vs) (q3:vs[i]?=some x)
  (q:∀ h',ItB b h' j tp (i+1)->Heap.SameBut j s.heap h'->Q x { s with heap:=h' }):wpAny (model prog w) A (Builtin.SmallTypes.nextOf (.ref j)) Q E s:=by
 cases b
 ·exact b2p q1 q2 q3 q
 ·exact wpAny_nextOf_list_item q1 q2 q3 q
theorem a6I {b:Bool} {j tp:Addr} {i:Nat} {vs:Array Value} {Q:Value->Shared->Prop} (hh:A.handled=none) (q1:ItB b s.heap j tp i) (q2:IsB b s.heap tp vs) (q3:vs[i]?=none)
  (q:∀ h' e,Heap.ExtBut j s.heap h'->(∃ o,h'.get? e=some o/\o.cls=.type "StopIteration")->E (.ref e) { s with heap:=h' }):wpAny (model prog w) A (Builtin.SmallTypes.nextOf (.ref j)) Q E s:=by
 cases b
 ·exact b4x hh q1 q2 q3 q
 ·exact wpAny_nextOf_list_end hh q1 q2 q3 q
theorem b2W {b:Bool} {t:Addr} {xs:Array Value} {Q:Value->Shared->Prop} (m:IsB b s.heap t xs) (h:Q (.ref s.heap.objs.size) { s with heap:=s.heap.push { cls:=.type (itN b),data:=.fields #[.ref t,.int 0 0] } }):wpAny (model prog w) A (pyIter (.ref t)) Q E s:=by
 cases b
 ·exact iter_tuple m h
 ·exact wpAny_pyIter_list m h
theorem b2c {b1 b2:Bool} {z ti to j1 j2 t1 t2:Addr} {k1 k2:Nat} {xs ys:Array Value} {x y a b:Value} {Q:Value->Shared->Prop} (D:ZipApart z ti to j1 j2 t1 t2)
  (q0:IsZip s.heap z ti to .none) (p1:IsPair s.heap ti (.ref j1) (.ref j2)) (p2:IsPair s.heap to a b)
  (i1:ItB b1 s.heap j1 t1 k1) (i2:ItB b2 s.heap j2 t2 k2) (l1:IsB b1 s.heap t1 xs) (l2:IsB b2 s.heap t2 ys) (ex:xs[k1]?=some x) (ey:ys[k2]?=some y)
  (q:∀ h',IsZip h' z ti to (rawInt s.heap.objs.size)->IsPair h' to x y->ItB b1 h' j1 t1 (k1+1)->ItB b2 h' j2 t2 (k2+1)->IsPair h' s.heap.objs.size x y →
   (∀ c o,c≠z->c≠to->c≠j1->c≠j2->s.heap.get? c=some o->h'.get? c=some o)->Q (.ref s.heap.objs.size) { s with heap:=h' }) :
  wpAny (model prog w) A (Builtin.«zip.__next__» ⟨[.ref z],[]⟩) (λ fin s'=>∃ v,fin=.done (.ret v)/\Q v s') E s:=by
 show wpAny _ _ (field (.ref z) 2 >>= _) _ _ _
 refine wpAny_bind (wpAny_field q0 rfl (x:=.bool false) rfl (show wpAny _ _ (field (.ref z) 3 >>= _) _ _ _ from wpAny_bind (wpAny_field q0 rfl (x:=.ref ti) rfl (wpAny_bind (wpAny_seqItems p1 rfl ?_)))))
 show wpAny _ _ (do let free <- Builtin.SmallTypes.ownedTupleIsFree (.ref z); _) _ _ _
 unfold Builtin.SmallTypes.ownedTupleIsFree;refine wpAny_bind (wpAny_bind (wpAny_field q0 rfl (x:=.none) rfl (wpAny_pure ?_)));simp only [if_true];refine wpAny_bind (wpAny_rule (wpAny_bind (wpAny_field q0 rfl (x:=.ref to) rfl (wpAny_bind (wpAny_setField_rec q0 (by simp) λ u1 z1 s1=>?_)))));have z1':IsZip u1 z ti to .ellipsis:=z1;refine wpAny_bind ?_;simp only [jL,jM,gG,iC];refine wpAny_bind (wpAny_bind (wpAny_onRaise (show wpAny _ _ (Builtin.SmallTypes.nextOf (.ref j1) >>= _) _ _ _ from wpAny_bind (a2v (i1.extBut s1.extBut D.i1z) (l1.extBut s1.extBut D.l1z) ex λ u2 j1' s2=>wpAny_pure ?_))));have to2:IsPair u2 to a b:=s2.extBut _ _ D.TOi1 (s1.extBut _ _ D.TOz p2);refine wpAny_bind (wpAny_seqItems to2 rfl (wpAny_bind (wpAny_updateSeq_pair to2 λ u3 to3 s3=>wpAny_bind (wpAny_letGo (wpAny_pure ?_)))));have to3':IsPair u3 to x b:=to3;refine wpAny_bind (wpAny_bind (wpAny_onRaise (show wpAny _ _ (Builtin.SmallTypes.nextOf (.ref j2) >>= _) _ _ _ from wpAny_bind (a2v (((i2.extBut s1.extBut D.i2z).extBut s2.extBut D.i12.symm).extBut s3.extBut D.TOi2.symm)
  (((l2.extBut s1.extBut D.l2z).extBut s2.extBut D.l2i1).extBut s3.extBut D.l2TO) ey λ u4 j2' s4=>wpAny_pure ?_))))
 have to4:IsPair u4 to x b:=s4.extBut _ _ D.TOi2 to3';refine wpAny_bind (wpAny_seqItems to4 rfl (wpAny_bind (wpAny_updateSeq_pair to4 λ u5 to5 s5=>wpAny_bind (wpAny_letGo (wpAny_pure (wpAny_pure ?_))))));have to5':IsPair u5 to x y:=to5;refine wpAny_bind (wpAny_seqItems to5' rfl (wpAny_bind (wpAny_newTuple ?_)));have sz:u5.objs.size=s.heap.objs.size:=by rw [s5.1,s4.1,s3.1,s2.1,s1.1]
 have z5:IsZip u5 z ti to .ellipsis:=s5.extBut _ _ D.TOz.symm (s4.extBut _ _ D.i2z.symm (s3.extBut _ _ D.TOz.symm (s2.extBut _ _ D.i1z.symm z1')));have kp:∀ c o,c≠z->c≠to->c≠j1->c≠j2->s.heap.get? c=some o->u5.get? c=some o:=λ c o n1 n2 n3 n4 e=>s5.extBut _ _ n2 (s4.extBut _ _ n4 (s3.extBut _ _ n2 (s2.extBut _ _ n3 (s1.extBut _ _ n1 e))));have a1:ItB b1 u5 j1 t1 (k1+1):=((j1'.extBut s3.extBut D.TOi1.symm).extBut s4.extBut D.i12).extBut s5.extBut D.TOi1.symm;have a2:ItB b2 u5 j2 t2 (k2+1):=j2'.extBut s5.extBut D.TOi2.symm;have zl:z<u5.objs.size:=Heap.lt_size z5
 show wpAny _ _ (do let r <- Builtin.SmallTypes.ownedTupleHandOut (.ref z) (.ref u5.objs.size); _) _ _ _
 unfold Builtin.SmallTypes.ownedTupleHandOut;have z6:IsZip (u5.push { cls:=.type "tuple",data:=.seq #[x,y] }) z ti to .ellipsis:=Heap.get?_push_of_some _ z5;refine wpAny_bind (wpAny_bind (wpAny_setField_rec z6 (by simp) λ u7 z7 s7=>?_));have z7':IsZip u7 z ti to (rawInt u5.objs.size):=z7;refine wpAny_setField_rec z7' (by simp) λ u8 z8 s8=>?_;have z8':IsZip u8 z ti to (rawInt u5.objs.size):=z8;have up:∀ c o,c≠z->u5.get? c=some o->u8.get? c=some o:=λ c o n1 e=>s8.extBut _ _ n1 (s7.extBut _ _ n1 (Heap.get?_push_of_some _ e));have nt8:IsPair u8 u5.objs.size x y:=s8.extBut _ _ (dG zl) (s7.extBut _ _ (dG zl) (Heap.get?_push_size _ rfl));rw [sz] at z8' nt8;refine wpAny_pure ⟨_,rfl,?_⟩
 show Q (.ref u5.objs.size) _
 rw [sz];exact q u8 z8' (up _ _ D.TOz to5') (ItB.at' a1 λ o e=>up _ o D.i1z e) (ItB.at' a2 λ o e=>up _ o D.i2z e) nt8 λ c o n1 n2 n3 n4 e=>up c o n1 (kp c o n1 n2 n3 n4 e)
theorem b3H {b1 b2:Bool} {z ti to j1 j2 t1 t2:Addr} {k1 k2:Nat} {xs ys:Array Value} {a b:Value} {Q:gJ->Shared->Prop} (hh:A.handled=none) (D:ZipApart z ti to j1 j2 t1 t2)
  (q0:IsZip s.heap z ti to .none) (p1:IsPair s.heap ti (.ref j1) (.ref j2)) (p2:IsPair s.heap to a b)
  (i1:ItB b1 s.heap j1 t1 k1) (i2:ItB b2 s.heap j2 t2 k2) (l1:IsB b1 s.heap t1 xs) (l2:IsB b2 s.heap t2 ys) (en:xs[k1]?=none\/ys[k2]?=none)
  (q:∀ h' e,(∀ c o,c≠z->c≠to->c≠j1->c≠j2->s.heap.get? c=some o->h'.get? c=some o)->(∃ o,h'.get? e=some o/\o.cls=.type "StopIteration")->E (.ref e) { s with heap:=h' }) :
  wpAny (model prog w) A (Builtin.«zip.__next__» ⟨[.ref z],[]⟩) Q E s:=by
 show wpAny _ _ (field (.ref z) 2 >>= _) _ _ _
 refine wpAny_bind (wpAny_field q0 rfl (x:=.bool false) rfl (show wpAny _ _ (field (.ref z) 3 >>= _) _ _ _ from wpAny_bind (wpAny_field q0 rfl (x:=.ref ti) rfl (wpAny_bind (wpAny_seqItems p1 rfl ?_)))))
 show wpAny _ _ (do let free <- Builtin.SmallTypes.ownedTupleIsFree (.ref z); _) _ _ _
 unfold Builtin.SmallTypes.ownedTupleIsFree;refine wpAny_bind (wpAny_bind (wpAny_field q0 rfl (x:=.none) rfl (wpAny_pure ?_)));simp only [if_true];refine wpAny_bind (wpAny_rule (wpAny_bind (wpAny_field q0 rfl (x:=.ref to) rfl (wpAny_bind (wpAny_setField_rec q0 (by simp) λ u1 z1 s1=>?_)))));have z1':IsZip u1 z ti to .ellipsis:=z1;refine wpAny_bind ?_;simp only [jL,jM,gG,iC]
 cases ex:xs[k1]? with
 | none =>
  refine wpAny_bind (wpAny_bind (wpAny_onRaise (show wpAny _ _ (Builtin.SmallTypes.nextOf (.ref j1) >>= _) _ _ _ from wpAny_bind (a6I hh (i1.extBut s1.extBut D.i1z) (l1.extBut s1.extBut D.l1z) ex λ u2 e s2 ⟨oe,e1,e2⟩=>?_))));have z2:IsZip u2 z ti to .ellipsis:=s2 _ _ D.i1z.symm z1';have ne:e≠z:=λ c=>by subst c; rw [z2] at e1; cases e1; simp at e2
  exact wpAny_setField_rec z2 (by simp) λ u3 _ s3=>q u3 e (λ c o n1 _ n3 _ m=>s3.extBut _ _ n1 (s2 _ _ n3 (s1.extBut _ _ n1 m))) ⟨oe,s3.extBut _ _ ne e1,e2⟩
 | some x =>
  have ey:ys[k2]?=none:=by
   rcases en with m | m
   ·rw [ex] at m; cases m
   ·exact m
  refine wpAny_bind (wpAny_bind (wpAny_onRaise (show wpAny _ _ (Builtin.SmallTypes.nextOf (.ref j1) >>= _) _ _ _ from wpAny_bind (a2v (i1.extBut s1.extBut D.i1z) (l1.extBut s1.extBut D.l1z) ex λ u2 j1' s2=>wpAny_pure ?_))));have to2:IsPair u2 to a b:=s2.extBut _ _ D.TOi1 (s1.extBut _ _ D.TOz p2);refine wpAny_bind (wpAny_seqItems to2 rfl (wpAny_bind (wpAny_updateSeq_pair to2 λ u3 to3 s3=>wpAny_bind (wpAny_letGo (wpAny_pure ?_)))));refine wpAny_bind (wpAny_bind (wpAny_onRaise (show wpAny _ _ (Builtin.SmallTypes.nextOf (.ref j2) >>= _) _ _ _ from wpAny_bind (a6I hh (((i2.extBut s1.extBut D.i2z).extBut s2.extBut D.i12.symm).extBut s3.extBut D.TOi2.symm)
   (((l2.extBut s1.extBut D.l2z).extBut s2.extBut D.l2i1).extBut s3.extBut D.l2TO) ey λ u4 e s4 ⟨oe,e1,e2⟩=>?_))))
  have z4:IsZip u4 z ti to .ellipsis:=s4 _ _ D.i2z.symm (s3.extBut _ _ D.TOz.symm (s2.extBut _ _ D.i1z.symm z1'));have ne:e≠z:=λ c=>by subst c; rw [z4] at e1; cases e1; simp at e2
  exact wpAny_setField_rec z4 (by simp) λ u5 _ s5=>q u5 e (λ c o n1 n2 n3 n4 m=>s5.extBut _ _ n1 (s4 _ _ n4 (s3.extBut _ _ n2 (s2.extBut _ _ n3 (s1.extBut _ _ n1 m))))) ⟨oe,s5.extBut _ _ ne e1,e2⟩
theorem b2u {b1 b2:Bool} {z ti to j1 j2 t1 t2:Addr} {k1 k2:Nat} {xs ys:Array Value} {x y a b:Value} {Q:Option Value->Shared->Prop} (D:ZipApart z ti to j1 j2 t1 t2)
  (q0:IsZip s.heap z ti to .none) (p1:IsPair s.heap ti (.ref j1) (.ref j2)) (p2:IsPair s.heap to a b)
  (i1:ItB b1 s.heap j1 t1 k1) (i2:ItB b2 s.heap j2 t2 k2) (l1:IsB b1 s.heap t1 xs) (l2:IsB b2 s.heap t2 ys) (ex:xs[k1]?=some x) (ey:ys[k2]?=some y)
  (q:∀ h',IsZip h' z ti to (rawInt s.heap.objs.size)->IsPair h' to x y->ItB b1 h' j1 t1 (k1+1)->ItB b2 h' j2 t2 (k2+1)->IsPair h' s.heap.objs.size x y →
   (∀ c o,c≠z->c≠to->c≠j1->c≠j2->s.heap.get? c=some o->h'.get? c=some o)->Q (some (.ref s.heap.objs.size)) { s with heap:=h' }) :
  wpAny (model prog w) A (pyNext (.ref z)) Q E s:=by
 have ty:s.TypeIs (.ref z) "zip":=⟨_,q0,rfl⟩;unfold pyNext;exact wpAny_bind (wpAny_attempt (wpAny_callSpecial?_slot (name:=Str.ofString "__next__") ty F.slot_zip_next (wpAny_call_entry F.slot_zip_next ty F.entry_zip_next
  (b2c D q0 p1 p2 i1 i2 l1 l2 ex ey λ h' b1 b2 b3 b4 b5 b6=>wpAny_pure (q h' b1 b2 b3 b4 b5 b6)) (F.args_zip_next_1 _))))
theorem b2z {b1 b2:Bool} {z ti to j1 j2 t1 t2:Addr} {k1 k2:Nat} {xs ys:Array Value} {a b:Value} {Q:Option Value->Shared->Prop} (hh:A.handled=none) (D:ZipApart z ti to j1 j2 t1 t2)
  (q0:IsZip s.heap z ti to .none) (p1:IsPair s.heap ti (.ref j1) (.ref j2)) (p2:IsPair s.heap to a b)
  (i1:ItB b1 s.heap j1 t1 k1) (i2:ItB b2 s.heap j2 t2 k2) (l1:IsB b1 s.heap t1 xs) (l2:IsB b2 s.heap t2 ys) (en:xs[k1]?=none\/ys[k2]?=none)
  (q:∀ h',(∀ c o,c≠z->c≠to->c≠j1->c≠j2->s.heap.get? c=some o->h'.get? c=some o)->Q none { s with heap:=h' }):wpAny (model prog w) A (pyNext (.ref z)) Q E s:=by
 have ty:s.TypeIs (.ref z) "zip":=⟨_,q0,rfl⟩;unfold pyNext;refine wpAny_bind (wpAny_attempt (wpAny_callSpecial?_slot (name:=Str.ofString "__next__") ty F.slot_zip_next (wpAny_call_entry F.slot_zip_next ty F.entry_zip_next
  (b3H hh D q0 p1 p2 i1 i2 l1 l2 en λ h' e kp ⟨o,e1,e2⟩=>wpAny_bind (wpAny_isInstance (T:="StopIteration") (b:=true) ⟨o,e1,e2⟩ isSubtype_stop (wpAny_pure (q _ kp)))) (F.args_zip_next_1 _))))
end
abbrev zg1 (b1:Bool) (h:Heap) (t1:Addr):Heap:=h.push { cls:=.type (itN b1),data:=.fields #[.ref t1,.int 0 0] }
abbrev zg2 (b1 b2:Bool) (h:Heap) (t1 t2:Addr):Heap:=(zg1 b1 h t1).push { cls:=.type (itN b2),data:=.fields #[.ref t2,.int 0 0] }
abbrev zg3 (b1 b2:Bool) (h:Heap) (t1 t2:Addr):Heap:=(zg2 b1 b2 h t1 t2).push { cls:=.type "tuple",data:=.seq #[.ref h.objs.size,.ref (zg1 b1 h t1).objs.size] }
abbrev zg4 (b1 b2:Bool) (h:Heap) (t1 t2:Addr):Heap:=(zg3 b1 b2 h t1 t2).push { cls:=.type "tuple",data:=.seq #[.none,.none] }
abbrev zg5 (b1 b2:Bool) (h:Heap) (t1 t2:Addr):Heap:=(zg4 b1 b2 h t1 t2).push { cls:=.type "zip",data:=.fields #[.none,.bool false,.bool false,.ref (zg2 b1 b2 h t1 t2).objs.size,.ref (zg3 b1 b2 h t1 t2).objs.size] }
theorem b4q (b1 b2:Bool) (t1 t2:Addr) (xs ys:Array Value) :
  Meets (Builtin.«zip.__new__» ⟨[.type "zip",.ref t1,.ref t2],[]⟩) (λ _ R s=>IsB b1 s.heap t1 xs/\IsB b2 s.heap t2 ys/\R (.ok (.ret (.ref (zg4 b1 b2 s.heap t1 t2).objs.size))) { s with heap:=zg5 b1 b2 s.heap t1 t2 }) :=
 .of_wp λ prog w A R s h=>by
  obtain ⟨hp,g,d,tk,os⟩:=s;obtain ⟨e1,e2,h⟩:=h;have hsub:=sub_zip;have m1:IsB b1 (Shared.heap ⟨hp,g,d,tk,os⟩) t1 xs:=e1;have m2:IsB b2 (Shared.heap ⟨hp.push { cls:=.type (itN b1),data:=.fields #[.ref t1,.int 0 0] },g,d,tk,os⟩) t2 ys:=IsB.push e2 _
  wp_walk using b2W m1,b2W m2
  exact ⟨_,rfl,h⟩
section
variable {prog:Program} {w:World} {A:Around} {E:Value->Shared->Prop} {s:Shared}
theorem b1s {b1 b2:Bool} {t1 t2:Addr} {xs ys:Array Value} {Q:Value->Shared->Prop} (l1:IsB b1 s.heap t1 xs) (l2:IsB b2 s.heap t2 ys)
  (q:∀ h',IsZip h' (s.heap.objs.size+4) (s.heap.objs.size+2) (s.heap.objs.size+3) .none->IsPair h' (s.heap.objs.size+2) (.ref s.heap.objs.size) (.ref (s.heap.objs.size+1))->IsPair h' (s.heap.objs.size+3) .none .none →
   ItB b1 h' s.heap.objs.size t1 0->ItB b2 h' (s.heap.objs.size+1) t2 0->(∀ c o,s.heap.get? c=some o->h'.get? c=some o)->Q (.ref (s.heap.objs.size+4)) { s with heap:=h' }) :
  wpAny (model prog w) A (call (.type "zip") [.ref t1,.ref t2]) Q E s:=by
 refine callType_new F.called_zip (by decide) (F.typeCall_zip_2 _ _) (F.newCall_zip_2 _ _) (λ ob=>F.args_object_init_3 ob _ _) F.entry_zip_new (b4q b1 b2 t1 t2 xs ys) ⟨l1,l2,?_⟩;have n1:(zg1 b1 s.heap t1).objs.size=s.heap.objs.size+1:=Heap.size_push ..;have n2:(zg2 b1 b2 s.heap t1 t2).objs.size=s.heap.objs.size+2:=by rw [Heap.size_push,n1]
 have n3:(zg3 b1 b2 s.heap t1 t2).objs.size=s.heap.objs.size+3:=by rw [Heap.size_push,n2]
 have n4:(zg4 b1 b2 s.heap t1 t2).objs.size=s.heap.objs.size+4:=by rw [Heap.size_push,n3]
 have p5:(zg5 b1 b2 s.heap t1 t2).get? (zg4 b1 b2 s.heap t1 t2).objs.size=some _:=Heap.get?_push_size _ rfl;have p4:(zg5 b1 b2 s.heap t1 t2).get? (zg3 b1 b2 s.heap t1 t2).objs.size=some _:=Heap.get?_push_of_some _ (Heap.get?_push_size _ rfl);have p3:(zg5 b1 b2 s.heap t1 t2).get? (zg2 b1 b2 s.heap t1 t2).objs.size=some _:=Heap.get?_push_of_some _ (Heap.get?_push_of_some _ (Heap.get?_push_size _ rfl));have p2:(zg5 b1 b2 s.heap t1 t2).get? (zg1 b1 s.heap t1).objs.size=some _:=Heap.get?_push_of_some _ (Heap.get?_push_of_some _ (Heap.get?_push_of_some _ (Heap.get?_push_size _ rfl)));have p1:(zg5 b1 b2 s.heap t1 t2).get? s.heap.objs.size=some _:=Heap.get?_push_of_some _ (Heap.get?_push_of_some _ (Heap.get?_push_of_some _ (Heap.get?_push_of_some _ (Heap.get?_push_size _ rfl))));rw [n2,n3,n4] at p5;rw [n1,n2] at p3;rw [n3] at p4;rw [n1] at p2
 show _/\_
 rw [n4];refine ⟨⟨_,p5,rfl⟩,q _ p5 p3 p4 (ItB.mk p1) (ItB.mk p2) λ c o m=>?_⟩;exact Heap.get?_push_of_some _ (Heap.get?_push_of_some _ (Heap.get?_push_of_some _ (Heap.get?_push_of_some _ (Heap.get?_push_of_some _ m))))
end
def Itg (b1 b2:Bool) (K:W.Frag) (l1 l2:Addr):It :=
  ⟨λ i H=>∃ xs ys x y,SqB b1 K H l1 xs/\SqB b2 K H l2 ys/\xs[i]?=some x/\ys[i]?=some y,
   λ i H x H'=>∃ p a b,H p=none/\x=.ref p/\H'=r9 H p (.tup [a,b])/\∀ xs ys,SqB b1 K H l1 xs->SqB b2 K H l2 ys->xs[i]?=some a/\ys[i]?=some b,
   λ i H=>∃ xs ys,SqB b1 K H l1 xs/\SqB b2 K H l2 ys/\(xs.length<=i\/ys.length<=i)⟩
theorem b1I {b1 b2:Bool} {P:Program} {w:World} {K:W.Frag} {elts:List Expr} {x1:Nat} {pos:Pos} {z ti to j1 j2 l1 l2:Addr} (D:ZipApart z ti to j1 j2 l1 l2) :
  a6i P w K (.Tuple elts x1 pos) (Itg b1 b2 K l1 l2) [z,ti,to,j1,j2] z (λ i h=>IsZip h z ti to .none/\IsPair h ti (.ref j1) (.ref j2)/\(∃ a b,IsPair h to a b)/\ItB b1 h j1 l1 i/\ItB b2 h j2 l2 i) where
 mem:=by simp
 obj:=λ i h st b hb=>by
  obtain ⟨hz,hti,⟨a,c,hto⟩,h1,h2⟩:=st;obtain ⟨o1,e1,v1,d1⟩:=h1.obj;obtain ⟨o2,e2,v2,d2⟩:=h2.obj;simp only [aO,cS,or_false] at hb;rcases hb with rfl | rfl | rfl | rfl | rfl
  ·exact ⟨_,hz,λ v q=>by cases q⟩
  ·exact ⟨_,hti,λ v q=>by cases q⟩
  ·exact ⟨_,hto,λ v q=>by cases q⟩
  ·exact ⟨o1,e1,λ v q=>by rw [d1] at q; cases q⟩
  ·exact ⟨o2,e2,λ v q=>by rw [d2] at q; cases q⟩
 keep:=λ i h h' st k=>by
  obtain ⟨hz,hti,⟨a,c,hto⟩,h1,h2⟩:=st;exact ⟨k z (by simp) _ hz,k ti (by simp) _ hti,⟨a,c,k to (by simp) _ hto⟩,ItB.at' h1 λ o e=>k j1 (by simp) o e,ItB.at' h2 λ o e=>k j2 (by simp) o e⟩
 item:=by
  intro X hP hw hK hc i pins s σ H E I hf st hg;subst hP hw hK;obtain ⟨xs,ys,x,y,hq1,hq2,hx,hy⟩:=hg;obtain ⟨hz,hti,⟨a,c,hto⟩,h1,h2⟩:=st;obtain ⟨its1,rv1,p1,_⟩:=I.sqB hq1;obtain ⟨its2,rv2,p2,_⟩:=I.sqB hq2;obtain ⟨u1,hu1,ru1⟩:=rv1.get hx;obtain ⟨u2,hu2,ru2⟩:=rv2.get hy;refine b2u D hz hti hto h1 h2 p1 p2 (x:=u1) (y:=u2) (by simpa using hu1) (by simpa using hu2) λ h' a1 a2 a3 a4 a5 a7=>?_;refine ⟨_,rfl,wpAny_letOwnedTupleGo_zip (s:={ s with heap:=h' }) a1 λ h'' hz'' hs''=>?_⟩;have neT:∀ b∈[z,ti,to,j1,j2],b≠s.heap.objs.size:=λ b hb e=>by
   have:∃ o,s.heap.get? b=some o:=by
    obtain ⟨o1,e1,_⟩:=h1.obj;obtain ⟨o2,e2,_⟩:=h2.obj;simp only [aO,cS,or_false] at hb;rcases hb with rfl | rfl | rfl | rfl | rfl
    ·exact ⟨_,hz⟩
    ·exact ⟨_,hti⟩
    ·exact ⟨_,hto⟩
    ·exact ⟨_,e1⟩
    ·exact ⟨_,e2⟩
   obtain ⟨o,ho⟩:=this;exact absurd (Heap.lt_size ho) (by rw [e]; exact bL _)
  have kk:∀ b o,b ∉ [z,ti,to,j1,j2]->s.heap.get? b=some o->h''.get? b=some o:=λ b o hb e=>by
   simp only [aO,cS,or_false,not_or] at hb;exact hs''.extBut b o hb.1 (a7 b o hb.1 hb.2.2.1 hb.2.2.2.1 hb.2.2.2.2 e)
  have tti:h'.get? ti=_:=a7 ti _ D.TIz D.TITO D.TIi1 D.TIi2 hti;have st':IsZip h'' z ti to .none/\IsPair h'' ti (.ref j1) (.ref j2)/\(∃ a b,IsPair h'' to a b)/\ItB b1 h'' j1 l1 (i+1)/\ItB b2 h'' j2 l2 (i+1) :=
   ⟨hz'',hs''.extBut _ _ D.TIz tti,⟨_,_,hs''.extBut _ _ D.TOz a2⟩,a3.extBut hs''.extBut D.i1z,a4.extBut hs''.extBut D.i2z⟩
  have hoF:∀ b∈[z,ti,to,j1,j2],∃ o,h''.get? b=some o:=λ b hb=>by
   obtain ⟨q1,q2,⟨_,_,q3⟩,q4,q5⟩:=st';obtain ⟨o1,e1,_⟩:=q4.obj;obtain ⟨o2,e2,_⟩:=q5.obj;simp only [aO,cS,or_false] at hb;rcases hb with rfl | rfl | rfl | rfl | rfl
   ·exact ⟨_,q1⟩
   ·exact ⟨_,q2⟩
   ·exact ⟨_,q3⟩
   ·exact ⟨_,e1⟩
   ·exact ⟨_,e2⟩
  have zs:z≠s.heap.objs.size:=neT z (by simp);have tup:IsTup h'' s.heap.objs.size [u1,u2].toArray:=⟨_,hs''.extBut _ _ (aS zs) a5,rfl,0,rfl⟩;refine ⟨.ref s.heap.objs.size,r9 H s.heap.objs.size (.tup [x,y]),I.turnedLaid (h':=h'') hf kk hoF (aF _) (by show 2<=sizeLine; decide) (.cons ru1 (.cons ru2 .nil)) tup,rfl,⟨_,x,y,I.fresh,rfl,rfl,λ xs' ys' q1 q2=>?_⟩,st',λ b hb=>?_⟩
  ·rw [I.sqB_inj q1 hq1,I.sqB_inj q2 hq2]; exact ⟨hx,hy⟩
  ·rw [c9 (neT b hb)]; exact (hf b hb).1
 done:=by
  intro X hP hw hK hc i pins s σ H E I hf st hg;subst hP hw hK;obtain ⟨xs,ys,hq1,hq2,hend⟩:=hg;obtain ⟨hz,hti,⟨a,c,hto⟩,h1,h2⟩:=st;obtain ⟨its1,rv1,p1,_⟩:=I.sqB hq1;obtain ⟨its2,rv2,p2,_⟩:=I.sqB hq2;have hl1:=rv1.length;have hl2:=rv2.length;refine b2z (I.ok.hd hc) D hz hti hto h1 h2 p1 p2 (by
   rcases hend with q | q
   ·exact .inl (by simp; omega)
   ·exact .inr (by simp; omega)) λ h' k=>⟨rfl,I.turnedAll hf λ b o hb e=>?_⟩
  simp only [aO,cS,or_false,not_or] at hb;exact k b o hb.1 hb.2.2.1 hb.2.2.2.1 hb.2.2.2.2 e
 self:=λ _ _ _ _ _ st h=>wpAny_pyIter_zip st.1 h
def iZg (b1 b2:Bool) (K:W.Frag) (ta:TA):TI:=λ σ H R=>ta σ H λ vs H1=>∃ l1 l2,vs=[.ref l1,.ref l2]/\(∃ xs,SqB b1 K H1 l1 xs)/\(∃ ys,SqB b2 K H1 l2 ys)/\R (Itg b1 b2 K l1 l2) H1
theorem a8L (b1 b2:Bool) (K:W.Frag) {X:Cx} {a b:Expr} {ta:TA} {p pos pos':Pos} {elts:List Expr} {x1:Nat} (hK:X.K=K) (hg:Gl X "zip") (hm:X.mg "zip"=none) (ha:PA X [a,b] ta) (hs:starEach [a,b] X.env=[(false,eval a X.env),(false,eval b X.env)]:=by rfl) (hs2:starEach [b] X.env=[(false,eval b X.env)]:=by rfl) :
  PI X (.Tuple elts x1 pos') (.Call (.Name "zip" p) [a,b] [] pos) (iZg b1 b2 K ta):=by
 subst hK;intro pins s σ H R I h;refine Call_ (a0B I hg hm boot_zip (gC (y9 (ha pos pins s σ H _ I h) λ us s1 ⟨vs,H1,I1,r1,q1⟩=>?_) (by rw [hs,hs2]) (by rw [hs2]; rfl)));obtain ⟨l1,l2,e,⟨xs,q1⟩,⟨ys,q2⟩,q⟩:=q1;subst e;obtain ⟨u1,u2,rfl,ru1,ru2⟩:=a5f r1
 cases ru1
 cases ru2;obtain ⟨its1,rv1,p1,_⟩:=I1.sqB q1;obtain ⟨its2,rv2,p2,_⟩:=I1.sqB q2;refine b1s p1 p2 λ h' z1 z2 z3 z4 z5 k=>?_;have I2:Inv X pins σ H1 { s1 with heap:=h' }:=I1.kept (t':=s1.toks) k;refine wpAny_pyIter_zip z1 ?_;have D:ZipApart (s1.heap.objs.size+4) (s1.heap.objs.size+2) (s1.heap.objs.size+3) s1.heap.objs.size (s1.heap.objs.size+1) l1 l2:=b3n _ _ _ p1.lt p2.lt;refine ⟨s1.heap.objs.size+4,[s1.heap.objs.size+4,s1.heap.objs.size+2,s1.heap.objs.size+3,s1.heap.objs.size,s1.heap.objs.size+1],_,_,H1,rfl,I2,b1I D,⟨z1,z2,⟨_,_,z3⟩,z4,z5⟩,λ b hb=>?_,q⟩;have hb':s1.heap.objs.size<=b:=by
  simp only [aO,cS,or_false] at hb;rcases hb with rfl | rfl | rfl | rfl | rfl
  ·exact eZ _ _
  ·exact eZ _ _
  ·exact eZ _ _
  ·exact aF _
  ·exact eZ _ _
 exact I1.fpOk hb' (I1.hok.fresh hb')
section
variable {b1 b2:Bool} {xs ys:List V} {K:W.Frag} {l1 l2:Addr} {fr:List Nat} {te:TE} {σ:St} {H1:Hp} {p:Addr} {D:Hp->Prop}
theorem a6m (h1:SqB b1 K H1 l1 xs) (h2:SqB b2 K H1 l2 ys) (hp:H1 p=none) (hz:xs.length<sizeLine) (R:Nat->V->Hp->Prop) (hR:∀ i y H H',R i y H->(∀ b o,b≠p->H b=some o->H' b=some o)->R i y H')
  (step:∀ (i:Nat) x y H zs (N:VK),xs[i]?=some x->ys[i]?=some y->Same H1 H->H p=some (.lst zs)->(∀ v H3,Same H H3->R i v H3->N v H3)->te (((blkσ 2 fr σ).set 0 (some x)).set 1 (some y)) H N)
  (hd:∀ zs H,Same H1 H->H p=some (.lst zs)->zs.length=min xs.length ys.length->(∀ i z,zs[i]?=some z->R i z H)->D H):lcW 2 fr (a9W K 2 (a2s (Q5 0) (a2s (Q5 1) b2E))) te σ (Itg b1 b2 K l1 l2) H1 p D:=by
 refine ⟨λ i m zs H=>m=min xs.length ys.length - i/\i<=min xs.length ys.length/\Same H1 H/\H p=some (.lst zs)/\zs.length=i/\∀ j y,zs[j]?=some y->R j y H,⟨_,rfl,cF _,Same.new hp _,upd_same,rfl,λ j y e=>by simp at e⟩,?_⟩;rintro i m zs H ⟨rfl,hi,e,hH,len,pr⟩
 by_cases hlt:i<min xs.length ys.length
 ·have hx:i<xs.length:=by omega
  have hy:i<ys.length:=by omega
  refine .inr ⟨⟨xs,ys,xs[i],ys[i],e.sqB h1,e.sqB h2,aG hx,aG hy⟩,λ u H' y=>?_⟩;obtain ⟨q,a,b,hq,rfl,rfl,hab⟩:=y;obtain ⟨ha,hb⟩:=hab xs ys (e.sqB h1) (e.sqB h2);have s1:=Same.new hq (.tup [a,b]);refine ⟨q,_,rfl,SqT.of upd_same,rfl,_,_,rfl,_,_,rfl,rfl,?_,?_⟩
  ·refine ⟨by simp,λ k w ek=>?_⟩
   have:¬ k<2:=λ hk=>by
    unfold blkσ at ek;rw [bV (by simpa using hk),dW] at ek
    split at ek <;> cases ek
   rw [bM (by omega),bM (by omega)]; exact ek
  ·refine step i a b _ zs _ ha hb (e.trans s1) (s1 _ _ hH) λ v H3 s3 r3=>⟨s3 _ _ (s1 _ _ hH),by omega,min xs.length ys.length - (i+1),by omega,rfl,hlt,λ b' o q'=>?_,upd_same,by rw [aI,len]; rfl,λ j y ey=>?_⟩
   ·rw [c9 (c8 q' hp)]; exact s3 _ _ (s1 _ _ (e _ _ q'))
   ·have up:∀ b o,b≠p->H3 b=some o->r9 H3 p (.lst (zs++[v])) b=some o:=λ b o hb q=>by rw [c9 hb]; exact q
    by_cases hj:j<zs.length
    ·rw [bV hj] at ey
     exact hR j y _ _ (pr j y ey) λ b o hb q=>up b o hb (s3 _ _ (s1 _ _ q))
    ·rw [cP (by omega)] at ey
     have hj':j - zs.length=0:=by
      cases q:j - zs.length with
      | zero=>rfl
      | succ k=>rw [q] at ey; simp at ey
     rw [hj'] at ey;have:j=i:=by omega
     subst this;simp at ey;subst ey;exact hR j v _ _ r3 up
 ·have:i=min xs.length ys.length:=by omega
  subst this;exact .inl ⟨⟨xs,ys,e.sqB h1,e.sqB h2,by omega⟩,hd zs H e hH len pr⟩
theorem b5j (h1:SqB b1 K H1 l1 xs) (h2:SqB b2 K H1 l2 ys) (hp:H1 p=none) (hz:xs.length<sizeLine) (F:V->V->V)
  (step:∀ (i:Nat) x y H (N:VK),xs[i]?=some x->ys[i]?=some y->Same H1 H->N (F x y) H->te (((blkσ 2 fr σ).set 0 (some x)).set 1 (some y)) H N)
  (hd:∀ H,Same H1 H->H p=some (.lst (bG F xs ys))->D H):lcW 2 fr (a9W K 2 (a2s (Q5 0) (a2s (Q5 1) b2E))) te σ (Itg b1 b2 K l1 l2) H1 p D:=by
 refine a6m h1 h2 hp hz (λ i v _=>∀ x y,xs[i]?=some x->ys[i]?=some y->v=F x y) (λ _ _ _ _ r _=>r) (λ i x y H zs N hx hy e _ hN=>step i x y H N hx hy e (hN _ _ (Same.refl _) λ x' y' ex ey=>?_)) λ zs H e hH hl hr=>hd H e ?_
 ·rw [hx] at ex; rw [hy] at ey; cases ex; cases ey; rfl
 ·rw [hH]
  congr 2
  refine bX λ i=>?_
  by_cases hi:i<min xs.length ys.length
  ·have a1:i<zs.length:=by omega
   have a2:i<xs.length:=by omega
   have a3:i<ys.length:=by omega
   rw [aG a1,aG (by rw [eN]; exact hi),List.getElem_zipWith,hr i _ (aG a1) _ _ (aG a2) (aG a3)]
  ·rw [bH (by omega),bH (by rw [eN]; omega)]
end
def Ite (K:W.Frag) (l:Addr):It :=
  ⟨λ i H=>∃ xs x,SqL K H l xs/\xs[i]?=some x,
   λ i H x H'=>∃ p a,H p=none/\x=.ref p/\H'=r9 H p (.tup [.int (i:Int),a])/\∀ xs,SqL K H l xs->xs[i]?=some a,
   λ i H=>∃ xs,SqL K H l xs/\xs.length<=i⟩
theorem a7N {P:Program} {w:World} {K:W.Frag} {elts:List Expr} {x1:Nat} {pos:Pos} {e it l:Addr} (hne:e≠it) (hle:l≠e) (hli:l≠it) :
  a6i P w K (.Tuple elts x1 pos) (Ite K l) [e,it] e (λ i h=>(∃ old,IsEnum h e it (i:Int) old)/\h.IsListIter it l i) where
 mem:=by simp
 obj:=λ i h st b hb=>by
  obtain ⟨⟨old,he⟩,⟨o1,e1,c1,d1⟩⟩:=st;simp only [aO,cS,or_false] at hb;rcases hb with rfl | rfl
  ·exact ⟨_,he,λ v q=>by cases q⟩
  ·exact ⟨o1,e1,λ v q=>by rw [d1] at q; cases q⟩
 keep:=λ i h h' st k=>by
  obtain ⟨⟨old,he⟩,h1⟩:=st;exact ⟨⟨old,k e (by simp) _ he⟩,h1.at λ o q=>k it (by simp) o q⟩
 item:=by
  intro X hP hw hK hc i pins s σ H E I hf st hg;subst hP hw hK;obtain ⟨xs,x,hq,hx⟩:=hg;obtain ⟨⟨old,he⟩,h1⟩:=st;obtain ⟨its,rv,p,_⟩:=I.list hq;obtain ⟨u,hu,ru⟩:=rv.get hx;refine wpAny_pyNext_enum_item he h1 p.isList (x:=u) (by simpa using hu) hne λ h' a1 a2 a3 a4 a5=>?_;refine ⟨_,rfl,wpAny_letOwnedTupleGo_enum (s:={ s with heap:=h',toks:=s.toks+1 }) a1 λ h'' he'' hs''=>?_⟩;have ie:s.heap.get? e=_:=he;obtain ⟨o1,ei,_⟩:=id h1;have neT:∀ b∈[e,it],b≠s.heap.objs.size:=λ b hb q=>by
   have:∃ o,s.heap.get? b=some o:=by
    simp only [aO,cS,or_false] at hb;rcases hb with rfl | rfl
    ·exact ⟨_,ie⟩
    ·exact ⟨_,ei⟩
   obtain ⟨o,ho⟩:=this;exact absurd (Heap.lt_size ho) (by rw [q]; exact bL _)
  have kk:∀ b o,b ∉ [e,it]->s.heap.get? b=some o->h''.get? b=some o:=λ b o hb q=>by
   simp only [aO,cS,or_false,not_or] at hb;exact hs''.extBut b o hb.1 (a5 b o hb.1 hb.2 q)
  have it'':h''.IsListIter it l (i+1):=a2.extBut hs''.extBut (aS hne);have hoF:∀ b∈[e,it],∃ o,h''.get? b=some o:=λ b hb=>by
   obtain ⟨o2,e2,_⟩:=it'';simp only [aO,cS,or_false] at hb;rcases hb with rfl | rfl
   ·exact ⟨_,he''⟩
   ·exact ⟨_,e2⟩
  have es:e≠s.heap.objs.size:=neT e (by simp);have tup:IsTup h'' s.heap.objs.size [Value.int (i:Int) s.toks,u].toArray:=⟨_,hs''.extBut _ _ (aS es) a3,rfl,0,rfl⟩;refine ⟨.ref s.heap.objs.size,r9 H s.heap.objs.size (.tup [.int (i:Int),x]),(I.turnedLaid (h':=h'') hf kk hoF (aF _) (by show 2<=sizeLine; decide) (show Vals [.int (i:Int),x] [Value.int (i:Int) s.toks,u] from .cons ⟨_,rfl⟩ (.cons ru .nil)) tup).tok _,rfl,⟨_,x,I.fresh,rfl,rfl,λ xs' q1=>?_⟩,⟨⟨_,he''⟩,it''⟩,λ b hb=>?_⟩
  ·rw [I.list_inj q1 hq]; exact hx
  ·rw [c9 (neT b hb)]; exact (hf b hb).1
 done:=by
  intro X hP hw hK hc i pins s σ H E I hf st hg;subst hP hw hK;obtain ⟨xs,hq,hend⟩:=hg;obtain ⟨⟨old,he⟩,h1⟩:=st;obtain ⟨its,rv,p,_⟩:=I.list hq;have hl:=rv.length;refine wpAny_pyNext_enum_end (I.ok.hd hc) he h1 p.isList (by simp; omega) λ h' k=>⟨rfl,I.turnedAll hf λ b o hb q=>?_⟩;simp only [aO,cS,or_false,not_or] at hb;exact k b o hb.2 q
 self:=λ _ _ _ _ _ st h=>by
  obtain ⟨⟨old,he⟩,_⟩:=st;exact wpAny_pyIter_enum he h
def b5R (K:W.Frag) (ta:TA):TI:=λ σ H R=>ta σ H λ vs H1=>∃ l,vs=[.ref l]/\(∃ xs,SqL K H1 l xs)/\R (Ite K l) H1
theorem a6Q (K:W.Frag) {X:Cx} {a:Expr} {ta:TA} {p pos pos':Pos} {elts:List Expr} {x1:Nat} (hK:X.K=K) (hg:Gl X "enumerate") (hm:X.mg "enumerate"=none) (ha:PA X [a] ta) (hs:starEach [a] X.env=[(false,eval a X.env)]:=by rfl) (hs2:starEach ([]:List Expr) X.env=[]:=by rfl) :
  PI X (.Tuple elts x1 pos') (.Call (.Name "enumerate" p) [a] [] pos) (b5R K ta):=by
 subst hK;intro pins s σ H R I h;refine Call_ (a0B I hg hm boot_enumerate (gC (y9 (ha pos pins s σ H _ I h) λ us s1 ⟨vs,H1,I1,r1,q1⟩=>?_) (by rw [hs,hs2]) (by rw [hs2]; rfl)));obtain ⟨l,e,⟨xs,q1⟩,q⟩:=q1;subst e;obtain ⟨u,rfl,ru⟩:=Q8 r1
 cases ru;obtain ⟨its,rv,p,_⟩:=I1.list q1;have lt1:l<s1.heap.objs.size:=by obtain ⟨_,e,_⟩:=p.isList; exact Heap.lt_size e
 refine call_enumerate_list p.isList λ h' z1 z2 z3 k=>?_;have I2:Inv X pins σ H1 { s1 with heap:=h' }:=I1.kept (t':=s1.toks) k;refine wpAny_pyIter_enum z1 ?_;refine ⟨s1.heap.objs.size+1,[s1.heap.objs.size+1,s1.heap.objs.size],_,_,H1,rfl,I2,a7N (l:=l) (e:=s1.heap.objs.size+1) (it:=s1.heap.objs.size) (Nat.succ_ne_self _) (bJ (fK lt1)) (bJ lt1),⟨⟨_,z1⟩,z2⟩,λ b hb=>?_,q⟩;have hb':s1.heap.objs.size<=b:=by
  simp only [aO,cS,or_false] at hb;rcases hb with rfl | rfl
  ·exact iU _
  ·exact aF _
 exact I1.fpOk hb' (I1.hok.fresh hb')
section
variable {xs ys:List V} {K:W.Frag} {l1 l2:Addr} {fr:List Nat} {te:TE} {σ:St} {H1:Hp} {p:Addr} {D:Hp->Prop}
theorem a5m {i1 i2:Nat} {tb:TS} {D:Ends} {H:Hp} (Pv:Nat->St->Hp->Prop) (h0:Pv 0 σ H) (hl:∀ i σ H,Pv i σ H->SqL K H l1 xs)
  (hs:∀ i x σ H q,xs[i]?=some x->Pv i σ H->H q=none->tb { D with nx:=Pv (i+1),ct:=Pv (i+1),bk:=D.nx } ((σ.set i1 (some (.int (i:Int)))).set i2 (some x)) (r9 H q (.tup [.int (i:Int),x]))) (hd:∀ σ H,Pv xs.length σ H->D.nx σ H) :
  ∃ W:Nat->Nat->St->Hp->Prop,(∃ m,W 0 m σ H)/\∀ i m σ H,W i m σ H →
   ((Ite K l1).stop i H/\D.nx σ H)\/((Ite K l1).go i H/\∃ N:St->Hp->Prop,(∀ σ' H',N σ' H'->∃ m',m'<m/\W (i+1) m' σ' H')/\∀ x H',(Ite K l1).yld i H x H'->a9W K 2 (a2s (Q5 i1) (a2s (Q5 i2) b2E)) x σ H' λ σ2 H2=>tb { D with nx:=N,ct:=N,bk:=D.nx } σ2 H2):=by
 refine ⟨λ i m σ H=>m=xs.length - i/\i<=xs.length/\Pv i σ H,⟨_,rfl,cF _,h0⟩,?_⟩;rintro i m σ H ⟨rfl,hi,p⟩;have q1:=hl i σ H p
 by_cases hlt:i<xs.length
 ·refine .inr ⟨⟨xs,xs[i],q1,aG hlt⟩,Pv (i+1),λ σ' H' p'=>⟨xs.length - (i+1),by omega,rfl,hlt,p'⟩,λ u H' y=>?_⟩
  obtain ⟨q,a,hq,rfl,rfl,hab⟩:=y;have ha:=hab xs q1;exact ⟨q,_,rfl,SqT.of upd_same,rfl,_,_,rfl,_,_,rfl,rfl,hs i a σ H q ha p hq⟩
 ·have:i=xs.length:=by omega
  subst this;exact .inl ⟨⟨xs,q1,by omega⟩,hd σ H p⟩
end
end L2
namespace Fr
abbrev Q2:=Int×Int
def gI (a b:Int):Int:=(iG a b:Int)
def low (t b:Int):Q2:=(t / gI t b,b / gI t b)
def a9H (f:Q2):Prop:=0<f.2/\iG f.1 f.2=1
theorem a0e (a b:Int):0<=gI a b:=jN _
theorem M8 (a b:Int):gI a b∣a:=Int.gcd_dvd_left ..
theorem A9 (a b:Int):gI a b∣b:=Int.gcd_dvd_right ..
theorem a4h {a b:Int} (hb:0<b):0<gI a b:=by
 have h0:=a0e a b
 by_cases z:gI a b=0
 ·have:=A9 a b
  rw [z,Int.zero_dvd] at this;omega
 ·omega
theorem b5S {a b:Int} (hb:0<b):gI a b<=b:=jO hb (A9 a b)
theorem a5G {c a b:Int} (h1:c∣a) (h2:c∣b):c∣gI a b:=Int.dvd_coe_gcd h1 h2
theorem a1r {a b:Int} (ha:0<=a) (hb:0<=b) (h1:a∣b) (h2:b∣a):a=b:=Int.dvd_antisymm ha hb h1 h2
theorem b1j (a b:Int):gI b (a % b)=gI a b:=by
 refine a1r (a0e _ _) (a0e _ _) (a5G ?_ (M8 _ _)) (a5G (A9 _ _) ?_)
 ·have h1:=M8 b (a % b)
  have h2:=A9 b (a % b);have:=Int.dvd_add (jP (c:=a / b) h1) h2;rw [Int.mul_ediv_add_emod] at this;exact this
 ·have h1:=M8 a b
  have h2:=A9 a b;have:=Int.dvd_sub h1 (jP (c:=a / b) h2);rw [Int.emod_def];exact this
theorem b1p (a:Int):gI a 0=a.natAbs:=by unfold gI; rw [Int.gcd_zero_right]
theorem a6T {t b:Int} (hb:0<b):0<(low t b).2:=by
 have h:=a4h (a:=t) hb;obtain ⟨k,hk⟩:=A9 t b
 show 0<b / gI t b
 have e:b / gI t b=k:=by
  have:b / gI t b=(gI t b*k) / gI t b:=by rw [<- hk]
  rw [this,jQ _ (by omega)]
 rw [e]
 by_cases z:0<k
 ·exact z
 ·have:=cO (aX h) (show 0 <= -k by omega)
  rw [cW] at this;omega
theorem a0b {t b:Int} (hb:0<b):t=gI t b*(low t b).1/\b=gI t b*(low t b).2 :=
 ⟨(jR (M8 t b)).symm,(jR (A9 t b)).symm⟩
theorem a3b {t b:Int} (hb:0<b):(low t b).1*b=t*(low t b).2:=by
 obtain ⟨h1,h2⟩:=a0b (t:=t) hb;generalize gI t b=g at h1 h2;generalize low t b=f at h1 h2;rw [h1,h2]
 ac_rfl
theorem a3g {t b:Int} (hb:0<b):a9H (low t b):=by
 refine ⟨a6T hb,?_⟩;obtain ⟨h1,h2⟩:=a0b (t:=t) hb;have hg:=a4h (a:=t) hb;have q:gI t b*gI (low t b).1 (low t b).2∣gI t b*1:=by
  rw [eW];refine a5G ?_ ?_
  ·have:=jS (gI t b) (M8 (low t b).1 (low t b).2)
   rw [<- h1] at this;exact this
  ·have:=jS (gI t b) (A9 (low t b).1 (low t b).2)
   rw [<- h2] at this;exact this
 have q2:gI (low t b).1 (low t b).2∣1:=Int.dvd_of_mul_dvd_mul_left (by omega) q;have q3:gI (low t b).1 (low t b).2=1:=a1r (a0e _ _) (by decide) q2 (Int.one_dvd _);unfold gI at q3;omega
theorem a1F {a b c:Int} (h:iG a b=1) (d:b∣a*c):b∣c:=by
 have h':Nat.Coprime b.natAbs a.natAbs:=by
  rw [Nat.coprime_comm]; exact h
 have d':b.natAbs∣a.natAbs*c.natAbs:=by rw [<- iH]; exact jT.mpr d
 exact jT.mp (h'.dvd_of_dvd_mul_left d')
theorem a3W {f g:Q2} (hf:a9H f) (hg:a9H g) (h:f.1*g.2=g.1*f.2):f=g:=by
 have d1:f.2∣g.2:=a1F hf.2 ⟨g.1,by rw [h,aV]⟩;have d2:g.2∣f.2:=a1F hg.2 ⟨f.1,by rw [<- h,aV]⟩;have e2:f.2=g.2:=a1r (aX hf.1) (aX hg.1) d1 d2;have e1:f.1=g.1:=by
  rw [e2] at h;exact iI (by have:=hg.1; omega) h
 exact Prod.ext e1 e2
theorem b3D {t b t' b':Int} (hb:0<b) (hb':0<b') (h:t*b'=t'*b):low t b=low t' b':=by
 refine a3W (a3g hb) (a3g hb') ?_;have c1:=a3b (t:=t) hb;have c2:=a3b (t:=t') hb';generalize low t b=x at c1 ⊢;generalize low t' b'=y at c2 ⊢;refine iI (a:=b*b') (by have:=eA hb hb'; omega) ?_
 calc x.1*y.2*(b*b')=(x.1*b)*(y.2*b'):=by ac_rfl
  _=(t*b')*(x.2*y.2):=by rw [c1]; ac_rfl
  _=(t'*y.2)*(b*x.2):=by rw [h]; ac_rfl
  _=(y.1*b')*(b*x.2):=by rw [c2]
  _=y.1*x.2*(b*b'):=by ac_rfl
end Fr
namespace L2
open PySem PySem.Spec PyProof.Rows
abbrev a6b (X:Cx) (qual:Str) (scope:Scope) (f:Addr) (cd:Value) (C:Addr):Env:=W.envX qual scope C f cd (clo X.env scope.names [])
def a6D (X:Cx) (col:Str) (fr:List Nat) (qual:Str) (scope:Scope) (f:Addr) (cd:Value) (A':Around) (s₀:Shared) (H₀:Hp):Cx :=
  { X with N:=col::fr.map (λ j=>X.N.getD j ""),s₀:=s₀,H₀:=H₀,A:=A'.deeper (a6b X qual scope f cd s₀.heap.objs.size),env:=a6b X qual scope f cd s₀.heap.objs.size,outer:=X.stack,
           stack:=a6b X qual scope f cd s₀.heap.objs.size::X.stack,ex:=[],fn:=λ _=>false,pn:=[],xe:=λ _ _=>False }
section
variable {X:Cx} {pins:List (Addr×Obj)} {σ:St} {H:Hp} {s:Shared} {fr:List Nat} {scope:Scope} {col:Str} {qual:Str} {f:Addr} {cd:Value} {A':Around}
theorem X8 {env:Env} {l:List (Str×NameKind)} {x:Str} {c:Addr} (e:(clo env l []).lookup x=some c):env.cells.lookup x=some c:=a0Q (cs:=[]) (λ _ _ z=>by simp at z) e
theorem Inv.lam {h₁:Heap} {t':Nat} {v:V} {u:Value} (I:Inv X pins σ H s) (hA:A'.frames=some X.stack) (hh:A'.handled=X.A.handled) (hk:scope.kind=.function) (h:a1v X.env.scope scope X.N fr=true)
  (hcell:∀ x∈scope.names,x.2≠.cell) (hcol:scope.names.lookup col=some .local) (hns:h₁.Ns s.heap.objs.size λ x=>[(col,u)].reverse.lookup x) (hkeep:∀ b o,s.heap.get? b=some o->h₁.get? b=some o) (r:RelV v u) :
  Inv (a6D X col fr qual scope f cd A' s H) [] (some v::frv fr σ) H { s with heap:=h₁,toks:=t' } where
 ok:={
  mod:=I.ok.mod
  kind:=hk
  glob:=rfl
  blt:=rfl
  above:=aF _
  inj:=λ x y c e1 e2=>I.ok.inj x y c (X8 e1) (X8 e2)
  has:=λ x hx=>by
   have hx':scope.names.lookup x=some .cell\/scope.names.lookup x=some .free:=hx;rcases hx' with e | e
   ·exact absurd rfl (hcell _ (G3 e))
   ·exact Z8 (Z7 I h x (G3 e)) (G3 e)
  cab:=λ x c hx=>by cases (show false=true from hx)
  hd:=λ z=>by
   show A'.handled=none
   rw [hh];exact I.ok.hd z
  frames:=Around.frames_deeper hA
  stk:=.inr ⟨rfl,rfl⟩
  exf:=λ b hb=>by cases (show b∈([]:List Addr) from hb)
  bs:=I.bs
  bsz:=aK I.ok.bsz I.sz
  noex:=λ b o _ hb=>by cases (show b∈([]:List Addr) from hb)
  exfs:=λ b hb=>by cases (show b∈([]:List Addr) from hb)
  funs:=I.stack
  frf:=I.stkFree }
 os:=rfl
 bare:=I.bare
 base:=Un.kept hkeep
 loc:=by
  refine ⟨_,hns,λ i x w e1 e2 _=>?_⟩
  cases i with
  | zero =>
   have hx:col=x:=aJ e1;have hv:v=w:=aJ (aJ e2);subst hx;subst hv;exact ⟨u,r,.inl ⟨hcol,by simp [dU]⟩⟩
  | succ i =>
   have e1':(fr.map λ j=>X.N.getD j "")[i]?=some x:=e1;have e2':(fr.map λ j=>(σ[j]?).join)[i]?=some (some w):=e2;rw [aE] at e1' e2'
   cases q:fr[i]? with
   | none=>rw [q] at e1'; cases e1'
   | some j =>
    rw [q] at e1' e2';have hj:j∈fr:=bE q;obtain ⟨hjl,hjc,hjf⟩:=b2Y h j hj;have ex:X.N.getD j ""=x:=aJ e1';have ev:(σ[j]?).join=some w:=aJ e2';have hN:X.N[j]?=some x:=by
     rw [<- ex,aM,aG hjl]; rfl
    have hσ:σ[j]?=some (some w):=by
     cases r:σ[j]? with
     | none=>rw [r] at ev; cases ev
     | some y=>rw [r] at ev; exact congrArg some ev
    rw [ex] at hjc hjf;obtain ⟨m,_,hl⟩:=I.loc;obtain ⟨u',r',lk⟩:=hl j x w hN hσ (.inr (.inl hjc));refine ⟨u',r',?_⟩;have kc:Env.kindOf X.env x=some .cell:=hjc;rcases lk with ⟨k1,_⟩ | ⟨_,c,ec,o,ho',hd⟩
    ·rw [kc] at k1; cases k1
    ·obtain ⟨c',hc'⟩:=Z8 (env:=X.env) (cs:=[]) ⟨c,ec⟩ (G3 hjf)
     have e3:=X8 hc';rw [ec] at e3
     cases e3;exact .inr ⟨.inr hjf,c,hc',o,hkeep _ _ ho',hd⟩
 cell:=λ x c e=>by
  obtain ⟨v,o,ho',hd⟩:=I.cell x c (X8 e);exact ⟨v,o,hkeep _ _ ho',hd⟩
 free:=I.hok.fresh (aF _)
 freeC:=λ x c e=>I.freeC x c (X8 e)
 pin:=λ p hp=>by cases (show p∈([]:List (Addr×Obj)) from hp)
 hok:=I.hok.kept hkeep
 len:=by simp [frv,a6D]
def Quiet (X:Cx) (H:Hp) (s s':Shared):Prop:=∀ b o,s.heap.get? b=some o->H b=none->b≠X.env.locals->b ∉ X.fs->s'.heap.get? b=some o
theorem a9z {params:Arguments} {body:Expr} {pm ctv:Value} {c':Addr} {v k:V} {u:Value} {t:TE} {Q:Value->Shared->Prop} {E:Value->Shared->Prop} (I:Inv X pins σ H s) (hA:A'.frames=some X.stack) (hh:A'.handled=X.A.handled)
  (hroom:A'.depth<recursionLimit) (hk:scope.kind=.function) (h:a1v X.env.scope scope X.N fr=true)
  (hcell:∀ x∈scope.names,x.2≠.cell) (hcol:scope.names.lookup col=some .local) (hco:scope.isCoroutine=false) (hgen:scope.isGenerator=false)
  (hf:s.heap.get? f=some (W.kla_obj "<lambda>" qual params body scope (clo X.env scope.names []) pm c' ctv)) (hcd:s.heap.CodeRec (.ref c') qual)
  (hb:∀ u:Value,bindArgs (W.kla_fn "<lambda>" qual params body scope (clo X.env scope.names []) pm (.ref c') ctv) ⟨[u],[]⟩=pure [(col,u)])
  (hbody:PE (a6D X col fr qual scope f (.ref c') A' s H) body t) (r:RelV v u) (ht:t (some v::frv fr σ) H λ y H'=>y=k/\H'=H)
  (q:∀ y s',RelV k y->Inv X pins σ H s'->Quiet X H s s'->Q y s'):wpAny (model X.prog X.w) A' (call (.ref f) [u]) Q E s:=by
 refine wpAny_call (W.kla_callFunE hroom hf rfl hco hgen rfl hcd ?_);rw [hb u];refine wpAny_pure (wpAny_newFunctionEnv hcell (λ y hy=>?_) (λ h₁ hns hsb=>?_) hk)
 ·rw [aQ.mp hy]; exact hcol
 ·have hk₁:∀ b o,s.heap.get? b=some o->h₁.get? b=some o:=λ b o e=>hsb.extBut b o (bJ (Heap.lt_size e)) (Heap.get?_push_of_some _ e)
  refine ⟨I.nolimit.keeps hk₁,W.kla_codeExpr ?_⟩;have J:=I.lam (qual:=qual) (f:=f) (cd:=.ref c') (t':=s.toks+[(col,u)].length) hA hh hk h hcell hcol hns hk₁ r;refine wpAny_mono (hbody [] _ _ _ _ J ht) (λ y s' hy=>?_) λ e s' z=>bN z;obtain ⟨w,H',J',rw',rfl,rfl⟩:=hy;have J2:Inv X pins σ H' s':=I.call' (ch:=[]) J'.os J'.base J'.hok J'.bare λ b hb=>by cases hb
  refine q y s' rw' J2 λ b o e n n1 n2=>?_;refine J'.base.keep b o e n (λ z=>?_) (by intro z; cases z);rcases aO.mp (I.stkSub b z) with w | w
  ·exact n1 w
  ·exact n2 w
end
def U8 (mg:Str->Option Value) (base:Heap):Prop:=∃ bm ob,mg "__builtins__"=some (.ref bm)/\bm≠builtinsNs/\base.get? bm=some ob/\ob.cls=.type "module"/\ob.dict=some builtinsNs/\ob.data=.plain
abbrev a3p (c:Addr) (qual:Str):HO:=.ext λ h=>h.CodeRec (.ref c) qual
def LamTab (P:Addr) (pos:Pos) (qual:Str) (H:Hp):Prop :=
 H P=some (.tbl #[])\/∃ c',H P=some (.tbl #[rawInt pos.line,rawInt pos.col,.ref c'])/\H c'=some (a3p c' qual)
def C9 (P:Addr) (H H':Hp):Prop:=∀ b o,b≠P->H b=some o->H' b=some o
theorem LamTab.same {P:Addr} {pos:Pos} {qual:Str} {H H':Hp} (T:LamTab P pos qual H) (h:∀ b o,H b=some o->H' b=some o):LamTab P pos qual H':=by
 rcases T with e | ⟨c,e1,e2⟩
 ·exact .inl (h _ _ e)
 ·exact .inr ⟨c,h _ _ e1,h _ _ e2⟩
section
variable {X:Cx} {pins:List (Addr×Obj)} {σ:St} {H:Hp} {s:Shared} {fr:List Nat} {scope:Scope} {qual:Str} {c P:Addr} {params:Arguments} {body:Expr} {pos:Pos}
theorem a9o {K:Program} {w:World} {H:Hp} {h:Heap} {c:Addr} {o:Obj} (e:h.get? c=some o) (r:h.CodeRec (.ref c) qual):ObjOk K w H h c (a3p c qual) :=
 ⟨r,⟨o,e⟩,λ h1 h2 ⟨c',o',vs,t,z,g,q⟩ k=>by
  have z':c=c':=Value.ref.inj z;subst z';exact ⟨c,o',vs,t,rfl,k _ g,q⟩⟩
theorem Inv.grown {h':Heap} {t':Nat} {ps more:Array Value} {c':Addr} (I:Inv X pins σ H s) (hP:H P=some (.tbl ps)) (hx:Heap.ExtBut P s.heap h') (hge:s.heap.objs.size<=c') (hcr:h'.CodeRec (.ref c') qual)
  (htb:h'.get? P=some { cls:=.none,data:=.fields (ps++more) }):Inv X pins σ (r9 (r9 H P (.tbl (ps++more))) c' (a3p c' qual)) { s with heap:=h',toks:=t' }:=by
 have hPl:P<s.heap.objs.size:=I.hok.lt hP;have hPc:P≠c':=bJ (aT hPl hge);have hcn:H c'=none:=I.hok.fresh hge;have atP:r9 (r9 H P (.tbl (ps++more))) c' (a3p c' qual) P=some (.tbl (ps++more)):=by rw [c9 hPc,upd_same]
 have nP:∀ b o,H b=some o->(∀ qs,o≠.tbl qs)->r9 (r9 H P (.tbl (ps++more))) c' (a3p c' qual) b=some o:=λ b o e n=>by
  rw [c9 (c8 e hcn),c9 (λ z=>by subst z; rw [e] at hP; exact n _ (aJ hP))];exact e
 have neP:∀ b,H b=none->b≠P:=λ b n z=>by subst z; rw [hP] at n; cases n
 obtain ⟨cc,oc,vs,tt,z,gc,gr⟩:=id hcr;have z':c'=cc:=Value.ref.inj z;subst z';refine I.un ⟨λ b o e n _ _=>hx b o (neP b n) e,λ b o e n _ _=>⟨o.slots,hx b o (neP b n) e⟩,λ b o e n _=>?_,λ b o e _=>?_,λ b xs e=>nP b _ e (λ _=>nofun),λ b o u e=>nP b _ e (λ _=>nofun),λ b qs e=>?_⟩ λ b u e=>?_
 ·rw [c9 (bJ (aT (Heap.lt_size e) hge)),c9 (neP b n)]; exact n
 ·by_cases hb:b=P
  ·subst hb; exact ⟨_,htb⟩
  ·exact ⟨o,hx b o hb e⟩
 ·by_cases hb:b=P
  ·subst hb
   rw [e] at hP
   cases hP;exact ⟨more,atP⟩
  ·refine ⟨#[],?_⟩
   rw [c9 (c8 e hcn),c9 hb,e]; simp
 ·by_cases hb:b=c'
  ·subst hb
   rw [upd_same] at e
   cases e;exact a9o gc hcr
  ·rw [c9 hb] at e
   by_cases hb2:b=P
   ·subst hb2
    rw [upd_same] at e
    cases e;exact htb
   ·rw [c9 hb2] at e
    refine (I.hok b u e).stay (λ d v hd g=>hx d v (λ z=>?_) g) (λ d g=>nP d _ g λ _=>nofun) λ d xs g=>nP d _ g λ _=>nofun;subst z;rcases hd with w | w
    ·exact hb2 w.symm
    ·rw [hP] at w; cases w
theorem b0p {Q:Value->Shared->Prop} {E:Value->Shared->Prop} (I:Inv X pins σ H s) (hcode:X.env.code=.ref c) (C:W.CodeHd X.base c P) (B:U8 X.mg X.base) (T:LamTab P pos (X.env.qual++"<lambda>") H)
  (h:a1v X.env.scope scope X.N fr=true) (hdef:defaultsOf params X.env=([],[]))
  (q:∀ f c' ctv pm H' s',Inv X ((f,W.kla_obj "<lambda>" (X.env.qual++"<lambda>") params body scope (clo X.env scope.names []) pm c' ctv)::pins) σ H' s'->LamTab P pos (X.env.qual++"<lambda>") H'->C9 P H H' →
   H' c'=some (a3p c' (X.env.qual++"<lambda>"))->(∀ b,b<s.heap.objs.size->H b=none->H' b=none)->Q (.ref f) s') :
  wpAny (model X.prog X.w) X.A (eval (.Lambda params body scope pos) X.env) Q E s:=by
 have hcl:=K4 (Z7 I h);have hg:s.heap.Ns mainGlobals X.mg:=I.mod.glob.keeps I.bk;obtain ⟨bm,ob,b1,b2,b3,b4,b5,b6⟩:=B;have Pg:∀ ps,s.heap.get? P=some (W.tabObj ps)->mainGlobals≠P:=λ ps e z=>by
  obtain ⟨o,es,ep,e1,hd,_⟩:=hg;rw [z,e] at e1; cases e1; cases hd
 have Pb:∀ ps,s.heap.get? P=some (W.tabObj ps)->bm≠P:=λ ps e z=>by
  have e1:=I.bk _ _ b3;rw [z,e] at e1; cases e1; cases b4
 have bg:bm≠mainGlobals:=λ z=>by
  obtain ⟨o,es,ep,e1,hd,_⟩:=I.mod.glob;rw [z,e1] at b3; cases b3; rw [hd] at b6; cases b6
 refine W.kla_eval hdef ?_;rcases T with T | ⟨c',T,Tc⟩
 ·have hP:s.heap.get? P=some (W.tabObj #[]):=I.hok P _ T
  refine W.kla_makeFunction (mg:=X.mg) hcl I.ok.glob hg hcode (C.keeps I.bk) hP trivial rfl (Pg _ hP) ⟨bm,ob,b1,b2,bg,Pb _ hP,I.bk _ _ b3,b4,b5,b6⟩ λ c' ctv h' tk hx hge hlt hrec htb=>?_;have J:=I.grown (t':=tk) (more:=#[rawInt pos.line,rawInt pos.col,.ref c']) T hx hge hrec htb;have hsz:s.heap.objs.size<=h'.objs.size:=aK hge (dQ hlt);have hPl:P<s.heap.objs.size:=I.hok.lt T;have J2:=J.kept (h':=h'.push (W.kla_obj "<lambda>" (X.env.qual++"<lambda>") params body scope (clo X.env scope.names []) ((X.mg "__name__").getD .none) c' ctv)) (t':=tk) λ b u e=>Heap.get?_push_of_some _ e;have hPc:P≠c':=bJ (aT hPl hge);refine q _ c' ctv ((X.mg "__name__").getD .none) _ _ (J2.pins_of λ p hp=>?_) (.inr ⟨c',?_,upd_same⟩) (λ b o hb e=>?_) upd_same λ b hb e=>?_
  ·rcases aO.mp hp with rfl | hp
   ·refine ⟨Heap.get?_push_size _ rfl,J.hok.fresh (aF _),dG (aT I.lt hsz),I.nofs hsz,λ v=>nofun⟩
   ·exact J2.pin p (cA _ hp)
  ·rw [c9 hPc,upd_same]; rfl
  ·rw [c9 (c8 e (I.hok.fresh hge)),c9 hb]; exact e
  ·rw [c9 (bJ (aT hb hge)),c9 (λ z=>by rw [z,T] at e; cases e)]; exact e
 ·have hP:s.heap.get? P=some (W.tabObj #[rawInt pos.line,rawInt pos.col,.ref c']):=I.hok P _ T
  have hf:codeAmong pos (#[rawInt pos.line,rawInt pos.col,Value.ref c']).toList=some (.ref c'):=by
   show codeAmong pos ([]++[rawInt pos.line,rawInt pos.col,Value.ref c'])=_
   exact codeAmong_snoc [] trivial rfl
  refine W.kla_makeFunctionHit (mg:=X.mg) hcl I.ok.glob hg hcode (C.keeps I.bk) hP trivial hf ⟨bm,ob,b1,b2,bg,Pb _ hP,I.bk _ _ b3,b4,b5,b6⟩ λ ctv h' tk hk hsz=>?_;have J:=I.kept (h':=h') (t':=tk) hk;have J2:=J.kept (h':=h'.push (W.kla_obj "<lambda>" (X.env.qual++"<lambda>") params body scope (clo X.env scope.names []) ((X.mg "__name__").getD .none) c' ctv)) (t':=tk) λ b u e=>Heap.get?_push_of_some _ e;refine q _ c' ctv ((X.mg "__name__").getD .none) _ _ (J2.pins_of λ p hp=>?_) (.inr ⟨c',T,Tc⟩) (λ b o hb e=>e) Tc λ b hb e=>e;rcases aO.mp hp with rfl | hp
  ·exact ⟨Heap.get?_push_size _ rfl,J.hok.fresh (aF _),dG (aT I.lt hsz),I.nofs hsz,λ v=>nofun⟩
  ·exact J2.pin p (cA _ hp)
end
section
variable {X:Cx} {pins:List (Addr×Obj)} {σ:St} {H:Hp} {l It S fq:Addr} {ns:List Int} {g:Int->Int} {R:Result->Shared->Prop}
theorem Quiet.fp {s s':Shared} {b:Addr} {o:Obj} (k:Quiet X H s s') (f:W2 X pins H b) (e:s.heap.get? b=some o):s'.heap.get? b=some o:=k b o e f.1 f.2.1 f.2.2.1
theorem Inv.fpTurn {s:Shared} {h':Heap} {t':Nat} {b:Addr} (I:Inv X pins σ H s) (f:W2 X pins H b) (k:∀ c o,c≠b->s.heap.get? c=some o->h'.get? c=some o):Inv X pins σ H { s with heap:=h',toks:=t' } :=
 I.turned k f.1 f.2.1 f.2.2.2.1 f.2.2.2.2.1 f.2.2.2.2.2
def b3M (ns:List Int) (g:Int->Int) (j:Nat) (cont:List Value):Prop :=
 (cont=[]/\j=0)\/∃ M vb kb,cont=[vb,kb]/\M∈ns/\RelV (.int M) vb/\RelV (.int (g M)) kb/\∀ a∈ns.take j,g M<=g a
abbrev a8Y (X:Cx) (pins:List (Addr×Obj)) (σ:St) (H:Hp) (fq:Addr) (ns:List Int) (g:Int->Int):Prop :=
 ∀ n∈ns,∀ (u:Value) (s:Shared) (Q:Value->Shared->Prop) (E:Value->Shared->Prop),Inv X pins σ H s->RelV (.int n) u →
  (∀ y s',RelV (.int (g n)) y->Inv X pins σ H s'->Quiet X H s s'->Q y s')->wpAny (model X.prog X.w) X.A.in1 (call (.ref fq) [u]) Q E s
theorem b2i (hc:X.calm=true) (hl:SqL X.K H l (ns.map V.int)) (turn:a8Y X pins σ H fq ns g) (fI:W2 X pins H It) (fS:W2 X pins H S) (hIS:It≠S) (hIl:l≠It)
  (hN:ns=[]->∀ s',Inv X pins σ H s'->R (.ok (.ret .none)) s') (hR:∀ M∈ns,(∀ a∈ns,g M<=g a)->∀ y s',RelV (.int M) y->Inv X pins σ H s'->R (.ok (.ret y)) s') :
  ∀ (r j:Nat) (s:Shared) (cont:List Value) (cn:Nat),ns.length - j=r->j<=ns.length->Inv X pins σ H s->s.heap.IsListIter It l j->s.heap.get? S=some (seqObj "list" cont.toArray cn)->b3M ns g j cont →
   codeAny (model X.prog X.w) X.A (.builtin "min.loop" ⟨[.ref It,.ref fq,.ref S],[("default",.none)]⟩) R s:=by
 have nm:(toString "min"++toString ".loop":String)="min.loop":=by decide
 have hh:∀ {s:Shared},Inv X pins σ H s->X.A.in1.handled=none:=λ I=>I.ok.hd hc;intro r
 induction r with
 | zero =>
  intro j s cont cn hr hj I hit hS hb;have hjn:j=ns.length:=by omega
  obtain ⟨its,rv,pl,hz⟩:=I.list hl;have W:=Walks.list (prog:=X.prog) (w:=X.w) (A:=X.A.in1) (hh I) It l hIl its.toArray;have hsz:its.toArray.size=ns.length:=by rw [bC,<- rv.length,aA]
  refine codeAny_builtin F.entry_min_loop ?_; rw [Around.under_plainId F.plain_min_loop _];refine wpAny_bind (wpAny_seqItems hS rfl ?_);rcases hb with ⟨rfl,rfl⟩ | ⟨M,vb,kb,rfl,hM,rM,rK,best⟩
  ·show wpAny _ X.A.in1 (tryCatch (pyNext (.ref It)) _ >>= _) _ _ _
   refine wpAny_bind (wpAny_tryCatch (W.done _ _ _ ⟨by rw [hsz,<- hjn]; exact hit,pl.isList⟩ λ h' tk' hk'=>?_));have J:=I.fpTurn (h':=h') (t':=tk') fI λ c o n e=>hk' c o (by simpa using n) e
   show wpAny _ X.A.in1 (rule _ >>= _) _ _ _
   exact wpAny_bind (wpAny_rule (wpAny_pure (hN (List.length_eq_zero_iff.mp hjn.symm) _ J)))
  ·show wpAny _ X.A.in1 (tryCatch (pyNext (.ref It)) _ >>= _) _ _ _
   refine wpAny_bind (wpAny_tryCatch (W.done _ _ _ ⟨by rw [hsz,<- hjn]; exact hit,pl.isList⟩ λ h' tk' hk'=>?_));have J:=I.fpTurn (h':=h') (t':=tk') fI λ c o n e=>hk' c o (by simpa using n) e;have hS':=hk' S _ (by simpa using hIS.symm) hS;have s1:=Heap.SameBut.update h' S (Obj.mapSeq λ _=>(#[]:Array Value))
   show wpAny _ X.A.in1 (updateSeq S (λ _=>#[]) >>= _) _ _ _
   refine wpAny_bind (wpAny_updateSeq hS' rfl (wpAny_bind (wpAny_letGo (wpAny_pure ?_))));exact hR M hM (λ a ha=>best a (by rw [hjn,List.take_length]; exact ha)) vb _ rM (J.fpTurn fS λ c o n e=>(s1.2 c n).trans e)
 | succ r ih =>
  intro j s cont cn hr hj I hit hS hb;have hlt:j<ns.length:=by omega
  obtain ⟨its,rv,pl,hz⟩:=I.list hl;have W:=Walks.list (prog:=X.prog) (w:=X.w) (A:=X.A.in1) (hh I) It l hIl its.toArray;have hsz:its.toArray.size=ns.length:=by rw [bC,<- rv.length,aA]
  refine codeAny_builtin F.entry_min_loop ?_; rw [Around.under_plainId F.plain_min_loop _];refine wpAny_bind (wpAny_seqItems hS rfl ?_);have go:∀ (old:List Value) (kx:Value->Sem (Option Value)) (B:Option Value->Sem gJ) (Q:gJ->Shared->Prop) (E:Value->Shared->Prop),
    (∀ v h' tk',RelV (.int ns[j]) v->Inv X pins σ H { s with heap:=h',toks:=tk' }->h'.IsListIter It l (j+1)->h'.get? S=some (seqObj "list" cont.toArray cn)->wpAny (model X.prog X.w) X.A.in1 (B (some v)) Q E { s with heap:=h',toks:=tk' }) →
    wpAny (model X.prog X.w) X.A.in1 (tryCatch (pyNext (.ref It)) kx >>= B) Q E s:=by
   intro old kx B Q E hB;refine wpAny_bind (wpAny_tryCatch (W.item j _ _ _ (by rw [hsz]; exact hlt) ⟨hit,pl.isList⟩ λ v h' tk' hP hst' hk'=>?_));have hv:(ns.map V.int)[j]?=some (V.int ns[j]):=by rw [aE,aG hlt]; rfl
   obtain ⟨u,hu,ru⟩:=rv.get hv;have hP':its[j]?=some v:=by simpa using hP
   rw [hu] at hP'
   cases hP';exact hB _ h' tk' ru (I.fpTurn fI λ c o n e=>hk' c o (by simpa using n) e) hst'.1 (hk' S _ (by simpa using hIS.symm) hS)
  have hn:ns[j]∈ns:=dH hlt;have tk1:∀ a∈ns.take (j+1),a∈ns.take j\/a=ns[j]:=λ a ha=>by
   rw [List.take_succ_eq_append_getElem hlt] at ha;rcases bK.mp ha with z | z
   ·exact .inl z
   ·exact .inr (aQ.mp z)
  rcases hb with ⟨rfl,rfl⟩ | ⟨M,vb,kb,rfl,hM,rM,rK,best⟩
  ·show wpAny _ X.A.in1 (tryCatch (pyNext (.ref It)) _ >>= _) _ _ _
   refine go [] _ _ _ _ λ v h' tk' rv' J hit' hS'=>?_
   show wpAny _ X.A.in1 (tryCatch (holding [v] (call (.ref fq) [v])) _ >>= _) _ _ _
   refine wpAny_bind (wpAny_tryCatch (wpAny_holding (turn _ hn v _ _ _ J rv' λ y s2 ry J2 qu=>?_)));have hS2:=qu.fp fS hS';obtain ⟨oI,hoI,hoc,hod⟩:=hit';have hI2:=qu.fp fI hoI;have s1:=Heap.SameBut.update s2.heap S (Obj.mapSeq λ _=>#[v,y]);obtain ⟨c2,hc2⟩:∃ c2,(s2.heap.update S (Obj.mapSeq λ _=>#[v,y])).get? S=some (seqObj "list" #[v,y] c2):=⟨_,get?_update_seq hS2 λ _=>#[v,y]⟩
   show wpAny _ X.A.in1 (updateSeq S (λ _=>#[v,y]) >>= _) _ _ _
   refine wpAny_bind (wpAny_updateSeq hS2 rfl ?_);rw [nm];refine wpAny_pure ⟨plainId_quiet F.plain_min_loop _,ih (0+1) _ [v,y] c2 (by omega) hlt (J2.fpTurn fS λ c o n e=>(s1.2 c n).trans e) ⟨oI,(s1.2 It hIS).trans hI2,hoc,hod⟩ hc2 (.inr ⟨ns[0],v,y,rfl,hn,rv',ry,λ a ha=>?_⟩)⟩;rcases tk1 a ha with z | z
   ·simp at z
   ·rw [z]; exact cD _
  ·show wpAny _ X.A.in1 (tryCatch (pyNext (.ref It)) _ >>= _) _ _ _
   refine go [] _ _ _ _ λ v h' tk' rv' J hit' hS'=>?_
   show wpAny _ X.A.in1 (tryCatch (holding [v] (call (.ref fq) [v])) _ >>= _) _ _ _
   refine wpAny_bind (wpAny_tryCatch (wpAny_holding (turn _ hn v _ _ _ J rv' λ y s2 ry J2 qu=>?_)));have hS2:=qu.fp fS hS';obtain ⟨oI,hoI,hoc,hod⟩:=hit';have hI2:=qu.fp fI hoI;obtain ⟨t2,rfl⟩:=ry;obtain ⟨tb,rfl⟩:=rK
   show wpAny _ X.A.in1 (tryCatch (holding [v,.int (g ns[j]) t2] (richCompare .Lt (.int (g ns[j]) t2) (.int (g M) tb) >>= _)) _ >>= _) _ _ _
   refine wpAny_bind (wpAny_tryCatch (wpAny_holding (wpAny_bind (CmpOf.ints_lt (prog:=X.prog) (w:=X.w) (A:=X.A.in1) (P:=λ i v=>∃ t,v=.int ([g ns[j],g M].getD i 0) t) (λ i=>[g ns[j],g M].getD i 0) (λ i v h=>h) 0 1 _ _ _ _ _ ⟨t2,rfl⟩ ⟨tb,rfl⟩ ?_))));refine wpAny_bind (wpAny_holding (wpAny_truthy_bool (wpAny_bind (wpAny_letGo (wpAny_pure ?_)))));have e01:(λ i j_1=>decide ([g ns[j],g M].getD i 0<[g ns[j],g M].getD j_1 0)) 0 1=decide (g ns[j]<g M):=rfl;rw [e01]
   by_cases hb':g ns[j]<g M
   ·have s1:=Heap.SameBut.update s2.heap S (Obj.mapSeq λ _=>#[v,.int (g ns[j]) t2])
    obtain ⟨c2,hc2⟩:∃ c2,(s2.heap.update S (Obj.mapSeq λ _=>#[v,.int (g ns[j]) t2])).get? S=some (seqObj "list" #[v,.int (g ns[j]) t2] c2):=⟨_,get?_update_seq hS2 λ _=>#[v,.int (g ns[j]) t2]⟩;simp only [hb',decide_true,if_true];refine wpAny_bind (wpAny_updateSeq hS2 rfl (wpAny_bind (wpAny_letGo ?_)));rw [nm];refine wpAny_pure ⟨plainId_quiet F.plain_min_loop _,ih (j+1) _ [v,.int (g ns[j]) t2] c2 (by omega) hlt (J2.fpTurn fS λ c o n e=>(s1.2 c n).trans e) ⟨oI,(s1.2 It hIS).trans hI2,hoc,hod⟩ hc2 (.inr ⟨ns[j],v,_,rfl,hn,rv',⟨t2,rfl⟩,λ a ha=>?_⟩)⟩;rcases tk1 a ha with z | z
    ·have:=best a z; omega
    ·rw [z]; exact cD _
   ·simp only [hb',decide_false,jB,if_false]
    refine wpAny_bind (wpAny_letGo ?_);rw [nm];refine wpAny_pure ⟨plainId_quiet F.plain_min_loop _,ih (j+1) _ [vb,.int (g M) tb] cn (by omega) hlt J2 ⟨oI,hI2,hoc,hod⟩ hS2 (.inr ⟨M,vb,_,rfl,hM,rM,⟨tb,rfl⟩,λ a ha=>?_⟩)⟩;rcases tk1 a ha with z | z
    ·exact best a z
    ·rw [z]; omega
theorem b1Y {s:Shared} {Q:Value->Shared->Prop} {E:Value->Shared->Prop} (hc:X.calm=true) (I:Inv X pins σ H s) (hl:SqL X.K H l (ns.map V.int)) (turn:a8Y X pins σ H fq ns g)
  (hN:ns=[]->∀ s',Inv X pins σ H s'->Q .none s') (hR:∀ M∈ns,(∀ a∈ns,g M<=g a)->∀ y s',RelV (.int M) y->Inv X pins σ H s'->Q y s') :
  wpAny (model X.prog X.w) X.A (call (.builtin "min") [.ref l] [("key",.ref fq),("default",.none)]) Q E s:=by
 have nm:(toString "min"++toString ".loop":String)="min.loop":=by decide
 have ha:argsOk "min" ⟨[.ref l],[("key",.ref fq),("default",.none)]⟩:=by unfold argsOk; rfl
 obtain ⟨its,rv,pl,hz⟩:=I.list hl;have hlt:l<s.heap.objs.size:=by obtain ⟨_,e,_⟩:=pl.isList; exact Heap.lt_size e
 refine kmk_tree F.kind_min F.plain_min F.entry_min ha ?_
 show wpAny _ X.A.in1 (Builtin.Builtins.bindParams "min" ["key","default"] 0 ⟨[],[("key",.ref fq),("default",.none)]⟩ >>= _) _ _ s
 refine wpAny_bind (wpAny_of_eq (show Builtin.Builtins.bindParams "min" ["key","default"] 0 ⟨[],[("key",.ref fq),("default",.none)]⟩=pure [some (.ref fq),some .none] from rfl) (wpAny_bind (wpAny_pure ?_)));refine wpAny_bind (wpAny_pyIter_list pl.isList (wpAny_bind (wpAny_newList ?_ (cF _))));rw [nm];have I1:=I.kept (h':=s.heap.push { cls:=.type "list_iterator",data:=.fields #[.ref l,.int 0 0] }) (t':=s.toks) λ b u e=>Heap.get?_push_of_some _ e;have I2:=I1.kept (h':=(s.heap.push { cls:=.type "list_iterator",data:=.fields #[.ref l,.int 0 0] }).push (seqObj "list" #[] 0)) (t':=s.toks) λ b u e=>Heap.get?_push_of_some _ e;have hS:(s.heap.push { cls:=.type "list_iterator",data:=.fields #[.ref l,.int 0 0] }).objs.size=s.heap.objs.size+1:=size_push' ..;have fI:W2 X pins H s.heap.objs.size:=I.fpOk (aF _) (I.hok.fresh (aF _));have fS:W2 X pins H (s.heap.push { cls:=.type "list_iterator",data:=.fields #[.ref l,.int 0 0] }).objs.size:=I.fpOk (by rw [hS]; omega) (I.hok.fresh (by rw [hS]; omega));refine wpAny_pure ⟨plainId_quiet F.plain_min_loop _,b2i hc hl turn fI fS (bJ (by rw [hS]; exact eL _)) (bJ hlt) hN hR _ 0 _ [] 0 rfl (cF _) I2 ⟨_,Heap.get?_push_of_some _ (Heap.get?_push_size _ rfl),rfl,rfl⟩ (Heap.get?_push_size _ rfl) (.inl ⟨rfl,rfl⟩)⟩
end
theorem SqL.same1 {K:W.Frag} {P:Addr} {pos:Pos} {qual:Str} {H H':Hp} {a:Addr} {xs:List V} (T:LamTab P pos qual H) (e:C9 P H H') (h:SqL K H a xs):SqL K H' a xs:=by
 have ne:∀ o,H a=some o->(∀ ps,o≠.tbl ps)->a≠P:=λ o q n z=>by
  subst z;rcases T with t | ⟨c,t,_⟩
  ·rw [q] at t; exact n _ (aJ t)
  ·rw [q] at t; exact n _ (aJ t)
 rcases h with (h | ⟨o,h⟩) | h
 ·exact .inl (.inl (e _ _ (ne _ h λ _=>nofun) h))
 ·exact .inl (.inr ⟨o,e _ _ (ne _ h λ _=>nofun) h⟩)
 ·exact .inr h
def b1i (K:W.Frag) (P:Addr) (lpos:Pos) (qual:Str) (fr:List Nat) (t:TA) (tb:TE):TE:=λ σ H Q=>t σ H λ vs H1=>∃ (l:Addr) (ns:List Int) (g:Int->Int),vs=[.ref l]/\SqL K H1 l (ns.map V.int)/\LamTab P lpos qual H1 ∧
 ∀ H2,C9 P H1 H2->LamTab P lpos qual H2->(∀ n∈ns,tb (some (.int n)::frv fr σ) H2 λ y H'=>y=.int (g n)/\H'=H2)/\(ns=[]->Q .non H2)/\∀ M∈ns,(∀ a∈ns,g M<=g a)->Q (.int M) H2
section
variable {X:Cx} {e body:Expr} {es:List Expr} {t:TA} {tb:TE} {fr:List Nat} {scope:Scope} {col:Str} {c P:Addr} {params:Arguments} {p pos lpos kp1 kp2 cp:Pos} {cj:Nat}
theorem a8h (hc:X.calm=true) (hr:Room 2 X.A) (hg:Gl X "min") (hm:X.mg "min"=none) (hcode:X.env.code=.ref c) (C:W.CodeHd X.base c P) (B:U8 X.mg X.base) (hlc:a1v X.env.scope scope X.N fr=true) (hk:scope.kind=.function)
  (hcell:∀ x∈scope.names,x.2≠.cell) (hcol:scope.names.lookup col=some .local) (hco:scope.isCoroutine=false) (hgen:scope.isGenerator=false)
  (hb:∀ (pm ctv:Value) (c':Addr) (u:Value),bindArgs (W.kla_fn "<lambda>" (X.env.qual++"<lambda>") params body scope (clo X.env scope.names []) pm (.ref c') ctv) ⟨[u],[]⟩=pure [(col,u)])
  (ha:PA X [e] t) (hbody:∀ (f:Addr) (cd:Value) (s:Shared) (H:Hp),PE (a6D X col fr (X.env.qual++"<lambda>") scope f cd X.A.in1 s H) body tb) (hdef:defaultsOf params X.env=([],[]):=by rfl)
  (he:backTo pos (starEach [e] X.env)=(false,eval e X.env)::backTo pos (starEach [] X.env):=by rfl) (hpl:(backTo pos (starEach [e] X.env)).any (·.1)=false:=by rfl) :
  PE X (.Call (.Name "min" p) [e] [⟨some "key",.Lambda params body scope lpos,kp1⟩,⟨some "default",.Constant .none cj cp,kp2⟩] pos) (b1i X.K P lpos (X.env.qual++"<lambda>") fr t tb):=by
 intro pins s σ H Q I h;refine wpAny_Call_Name_kw (a0B I hg hm (u:=.builtin "min") rfl ?_);refine lX (y9 (ha pos pins s σ H _ I h) λ us s1 ⟨vs,H1,I1,r,l,ns,g,ev,hl,T,q⟩=>?_) he hpl;subst ev;obtain ⟨u,rfl,ru⟩:=Q8 r
 cases ru
 show wpAny _ _ (evalAll [(do let v <- eval (.Lambda params body scope lpos) X.env; standAt pos; pure v),(do let v <- eval (.Constant .none cj cp) X.env; standAt pos; pure v)]) _ _ s1
 refine wpAny_evalAll_cons (wpAny_bind (b0p I1 hcode C B T hlc hdef λ f c' ctv pm H2 s2 I2 T2 e2 Hc' _=>wpAny_bind (wpAny_standAt (wpAny_pure ?_))));refine wpAny_evalAll_cons (wpAny_bind (Constant_none (wpAny_bind (wpAny_standAt (wpAny_pure (wpAny_evalAll_nil ?_))))));obtain ⟨q1,q2,q3⟩:=q H2 e2 T2;have hl2:=hl.same1 T e2;have drop:∀ {po:Addr×Obj} {s'},Inv X (po::pins) σ H2 s'->Inv X pins σ H2 s':=λ J=>J.pins_of λ p hp=>J.pin p (cA _ (aU _ hp));have hd':X.A.in1.depth<recursionLimit:=by
  have z:X.A.in1.depth+3*1+5<recursionLimit:=hr.in1.dp;omega
 refine b1Y (g:=g) hc I2 hl2 (λ n hn u s3 Q3 E3 I3 ru k3=>?_) (λ en s3 I3=>⟨.non,H2,drop I3,rfl,q2 en⟩) λ M hM hmin y s3 ry I3=>⟨.int M,H2,drop I3,ry,q3 M hM hmin⟩;obtain ⟨cr,_,_⟩:=I3.hok c' _ Hc';exact a9z (k:=.int (g n)) I3 I3.ok.frames rfl hd' hk hlc hcell hcol hco hgen (I3.pin _ (cA _ bB)).1 cr (hb pm ctv c') (hbody f (.ref c') s3 H2) ru (q1 n hn) k3
end
section
variable {X:Cx} {os:List Str} {fr:List Nat} {scope:Scope} {elt tg iter:Expr} {pos:Pos} {wi:TI} {g:TG} {te:TE}
theorem b3S {c:Expr} {tc:TT} {i:Nat} {x:Str} {pos' spos:Pos} (os:List Str) (fr:List Nat) (hN:X.N.Nodup) (hi':X.N[i]?=some x) (hx:X.env.scope.names.lookup x=some .local)
  (hc:X.calm=true) (hi:PI X tg iter wi) (hg:∀ C fp s₀ H₀,PG (blk X os fr scope C fp s₀ H₀) tg g) (ht:∀ C fp s₀ H₀,PT (blk X os fr scope C fp s₀ H₀) c tc) (he:∀ C fp s₀ H₀,PE (blk X os fr scope C fp s₀ H₀) elt te)
  (hsw:swapsWith (.ListComp elt [⟨tg,iter,[c],0⟩] scope pos) (some (.Name x pos')) spos.line X.env=pure true:=by rfl)
  (hk:scope.kind=.function:=by rfl) (hok:a1v X.env.scope scope X.N fr=true:=by rfl) (hs:∀ x,foldedSetIterable iter X.env x=pure x:=by intro _; rfl) :
  PS X (.Assign [.Name x pos'] (.ListComp elt [⟨tg,iter,[c],0⟩] scope pos) spos) (a4A (b6A os.length fr wi g tc te) (Q5 i)):=by
 intro pins s σ H D I h;unfold a4A at h;rw [exec_Assign_Name_used _ _ _ _ hsw];refine wpAny_bind (wpAny_standAt (wpAny_bind ?_))
 show wpAny _ X.A (do let _ <- comprehension (.ListComp elt [⟨tg,iter,[c],0⟩] scope pos) scope X.env _ (newList []) false (eval iter X.env) (some (assign (.Name x pos') X.env))) _ _ s
 refine wpAny_bind (wpAny_mono (wpAny_comprehension_free (use:=some (assign (.Name x pos') X.env)) (Q:=λ _ s'=>SP X pins D .next s') rfl hs (K4 (Z7 I hok)) hk (λ x hx hl=>by have:=(T9 hok x hx).1; rw [hl] at this; exact this)
  (y9 (hi pins s σ H _ I h) λ v s1 h1=>y9 h1 λ itv s2 h2=>?_)) (λ _ s' hq=>wpAny_pure (wpAny_pure hq)) λ _ _ e=>e)
 refine a2O (os:=os) (D:=λ p H'=>D.nx (σ.set i (some (.ref p))) H') (RR:=λ acc C=>compPost (model X.prog X.w) X.A X.xe (some (assign (.Name x pos') X.env)) (λ _ s'=>SP X pins D .next s') acc C) hc hg (λ _ _ _ _=>a9i (ht _ _ _ _)) he hk hok h2 ?_;intro p C s3 H3 s' H' I3 eC hn I' ⟨m,hm⟩ q
 show wpAny _ X.A (assign (.Name x pos') X.env (.ref p)) _ _ _
 refine wpAny_assign_Name (a1n (v:=.ref p) I' hN hi' (.inl hx) rfl (λ s'' I'' ⟨a,hsa,ha⟩=>?_) (.inr hx));have hCa:C≠a:=by
  rcases ha with e | e
  ·rw [e]; exact dG (by rw [<- eC]; exact I3.lt)
  ·obtain ⟨v,z⟩:=I3.cell x a e
   exact dG (by rw [<- eC]; exact z.lt)
 exact ⟨m,hm.sameBut hsa hCa,λ h' hs'=>⟨_,H',I3.letgo I'' hn (by omega) hs',q⟩⟩
theorem a4l (K:W.Frag) {e:Expr} {f:Str} {ta:TE} (h:X.K=K) (he:PE X e ta) (hb:attributeBase e f X.env (eval e X.env)=eval e X.env):PE X (.Attribute e f pos) (b5c K ta f):=by subst h; exact r8 he hb
end
section
variable {fr:List Nat} {tc:TT} {σ:St} {J:It} {H1:Hp} {p:Addr} {D:Hp->Prop} {xs:List V}
theorem b1f (hJ:a5T J H1 xs) (hp:H1 p=none) (hz:xs.length<sizeLine) (F:V->Bool)
  (step:∀ (i:Nat) x H (N:Bool->Hp->Prop),xs[i]?=some x->Same H1 H->N (F x) H->tc ((blkσ 1 fr σ).set 0 (some x)) H N)
  (hd:D (r9 H1 p (.lst (xs.filter F)))):lcI 1 fr (Q5 0) tc (b2b 0) σ J H1 p D:=by
 refine ⟨λ i m ys H=>m=xs.length - i/\i<=xs.length/\ys=(xs.take i).filter F/\H=r9 H1 p (.lst ys),⟨xs.length,by simp,cF _,by simp,rfl⟩,?_⟩;rintro i m ys H ⟨rfl,hi,rfl,rfl⟩;have e:=Same.new (o:=.lst ((xs.take i).filter F)) hp
 by_cases hlt:i<xs.length
 ·refine .inr ⟨hJ.go i _ e hlt,λ x H' y=>?_⟩
  obtain ⟨rfl,hx⟩:=hJ.yld i _ x H' e hlt y;have tk:(xs.take (i+1)).filter F=(xs.take i).filter F++[x].filter F:=by rw [jF,hx,List.filter_append]; rfl
  refine ⟨Wk.set (by decide),step i x _ _ hx e ?_⟩
  cases hq:F x with
  | false =>
   rw [if_neg bI];refine ⟨xs.length - (i+1),by omega,rfl,hlt,?_,rfl⟩;rw [tk]; simp [hq]
  | true =>
   rw [if_pos rfl];refine ⟨x,?_,upd_same,?_,xs.length - (i+1),by omega,rfl,hlt,?_,V5⟩
   ·show ((blkσ 1 fr σ).set 0 (some x))[0]?=some (some x)
    rw [bZ (by simp [blkσ])]
   ·have h1:=List.length_filter_le F (xs.take i)
    rw [cI] at h1;omega
   ·rw [tk]; simp [hq]
 ·have:i=xs.length:=by omega
  subst this;refine .inl ⟨hJ.stop _ e,?_⟩;rw [iD (aF _)]; exact hd
end
section
variable {P:Program} {w:World} {K:W.Frag} {mg:Str->Option Value} {base:Heap}
theorem Fun.okC {x qual:Str} {st:Stmt} {f c:Addr} {fd:FuncData} {N ps:List Str} {k:Nat} {sp:Sp} (F:Fun K x qual st f fd) (hc:fd.code=.ref c) (S:i9 N ps (d0 st)) (len:∀ vs H Q E,sp vs H Q E->vs.length=ps.length)
  (hbody:∀ (A:Around) (outer:List Env) (s:Shared) (H:Hp) (vs:List V) (Q:VK) (E:XK),Room k (A.deeper (envOfC qual (d0 st) s.heap.objs.size f (.ref c)))->sp vs H Q E →
   ∃ t,PSs (M3 K5 P w K mg base N qual (d0 st) f (.ref c) A outer s H E).nox (t9 st) t/\t { nx:=λ _ H'=>Q .non H',rt:=Q } (N9 N vs) H):FnOk P w K mg base K5 (k+1) f fd ps sp:=by
 obtain ⟨oc,od,kV,doc,pm,an,cdv,ct,osl,rfl,lk,hcd⟩:=F.ex;have e:cdv=.ref c:=hc;subst e;refine a9K lk hcd S len λ A outer s H vs Q E hr hsp=>?_;obtain ⟨t,h,q⟩:=hbody A outer s H vs Q E hr hsp;exact ⟨t,h.nox,q⟩
end
end L2
namespace L2
open PySem
section
variable {xs ys:List V} {K:W.Frag} {l1 l2:Addr} {fr:List Nat} {te:TE} {σ:St} {H1:Hp} {p:Addr} {D:Hp->Prop}
end
theorem N1 {G0:St->Hp->Prop} {σ:St} {H:Hp} (h:∀ G:St->Hp->Prop,G=G0->G σ H):G0 σ H:=h G0 rfl
section
variable {X:Cx} {st:Stmt} {rest:List Stmt} {t u:TS}
def N7 (t u:TS):TS:=λ D σ H=>∃ M:St->Hp->Prop,t { D with nx:=M } σ H/\∀ σ' H',M σ' H'->u D σ' H'
theorem v5 (h1:PS X st t) (h2:PSs X rest u):PSs X (st::rest) (N7 t u):=by
 intro pins s σ H D I ⟨M,h,hM⟩;refine wpAny_execs_cons (y9 (h1 pins s σ H { D with nx:=M } I h) λ f s1 q=>?_)
 cases f with
 | next =>
  obtain ⟨σ',H',I',q⟩:=q;exact h2 pins s1 σ' H' D I' (hM _ _ q)
 | ret v=>exact q
 | brk=>exact q
 | cont=>exact q
end
end L2
namespace Rim
open PySem L2
theorem a0p (xs:List V) (k:Nat) (h:k<=xs.length):U2 xs none (some (k:Int))=xs.take k:=by
 unfold U2;rw [HT.sIx_none,HT.sIx_nat,List.drop_zero]
 congr 1
 omega
theorem U0 (xs:List V) (k:Nat) (h:k<=xs.length):U2 xs (some (k:Int)) none=xs.drop k:=by
 unfold U2;rw [HT.sIx_none,HT.sIx_nat,jU h];exact iD (by rw [dL]; exact aF _)
end Rim
namespace L2
open PySem PySem.Spec PyProof.Rows
section
variable {X:Cx}
theorem a7Y:G9 X (.type "range") (λ vs H Q=>∃ j:Int,vs=[.int j]/\∀ p,H p=none->Q (.ref p) (r9 H p (.rng 0 j))):=by
 intro pins s σ H vs us Q I r h;obtain ⟨j,rfl,q⟩:=h;obtain ⟨u,rfl,t,rfl⟩:=Q8 r;refine call_range_1 ⟨.ref s.heap.objs.size,_,I.laid (o:=.rng 0 j) (λ b u e=>Heap.get?_push_of_some _ e) (aF _) ⟨_,_,_,Heap.get?_push_size _ rfl⟩,rfl,q _ (I.hok.fresh (aF _))⟩
theorem a7W:G9 X (.type "range") (λ vs H Q=>∃ i j:Int,vs=[.int i,.int j]/\∀ p,H p=none->Q (.ref p) (r9 H p (.rng i j))):=by
 intro pins s σ H vs us Q I r h;obtain ⟨i,j,rfl,q⟩:=h;obtain ⟨u,v,rfl,⟨t,rfl⟩,t',rfl⟩:=a5f r;refine call_range_2 ⟨.ref s.heap.objs.size,_,I.laid (o:=.rng i j) (λ b u e=>Heap.get?_push_of_some _ e) (aF _) ⟨_,_,_,Heap.get?_push_size _ rfl⟩,rfl,q _ (I.hok.fresh (aF _))⟩
theorem a2f:∀ (n:Nat) (acc:List Value) (F:Nat->Int),acc.length=n->(∀ j v,acc[j]?=some v->∃ t,v=Value.int (F j) t)->Vals ((aH n).map λ i=>V.int (F i)) acc
 | 0,[],_,_,_=>.nil
 | n+1,a::acc,F,hl,h=>by
  rw [jV,bD,aW];refine .cons (h 0 a rfl) ?_;exact a2f n acc (λ i=>F (i+1)) (by simpa using hl) λ j v e=>h (j+1) v (by simpa using e)
theorem a0l (hc:X.calm=true):G9 X (.type "list") (λ vs H Q=>∃ (p:Addr) (lo:Int) (n:Nat),vs=[.ref p]/\H p=some (.rng lo (lo+n))/\-(2 ^ 60)<=lo/\lo<2 ^ 60/\n<=1000/\∀ l,H l=none->Q (.ref l) (r9 H l (.lst ((aH n).map λ (i:Nat)=>V.int (lo+(i:Int)))))):=by
 intro pins s σ H vs us Q I r h;obtain ⟨p,lo,n,rfl,hp,h1,h2,hn,q⟩:=h;obtain ⟨u,rfl,ru⟩:=Q8 r
 cases ru;obtain ⟨t,u,v,e⟩:=I.hok p _ hp;have hsz:Builtin.Range.rangeSize lo (lo+n) 1=n:=by rw [rangeSize_one]; split <;> omega
 refine call_list_range (I.ok.hd hc) e (small_one (by omega) (by omega) (by omega) (by omega)) hsz (by omega) λ h' tk acc' c' hk hS hacc=>?_;have hv:Vals ((aH n).map λ (i:Nat)=>V.int (lo+(i:Int))) acc'.toList:=a2f n acc'.toList (λ i=>lo+(i:Int)) (by simpa using hacc.1) λ j v e=>by
  obtain ⟨t,et⟩:=hacc.2 j v (by simpa using e);exact ⟨t,by rw [et,eW]⟩
 have h9:n<=sizeLine:=aK hn (by decide);refine ⟨.ref s.heap.objs.size,_,I.laid (o:=.lst ((aH n).map λ (i:Nat)=>V.int (lo+(i:Int)))) (t':=tk) hk (aF _) ⟨by simpa using h9,acc'.toList,c',hv,by simpa using hS⟩,rfl,q _ (I.hok.fresh (aF _))⟩
end
end L2
namespace Lp
abbrev B1:=Nat->Int
def tl (v:B1):B1:=λ i=>v (i+1)
def U6 (a:Int) (u:B1) (b:Int) (v:B1):B1:=λ i=>a*u i+b*v i
def N0 (D:List B1->Int):List B1->List B1->Int
 | _,[]=>0
 | pre,c::rest=>c 0*D ((pre++rest).map tl) - N0 D (pre++[c]) rest
def A4:Nat->List B1->Int
 | 0,_=>1
 | n+1,cols=>N0 (A4 n) [] cols
def Lin (n:Nat) (D:List B1->Int):Prop:=∀ (a:Int) (u:B1) (b:Int) (v:B1) (xs ys:List B1),xs.length+ys.length+1=n->D (xs++U6 a u b v::ys)=a*D (xs++u::ys)+b*D (xs++v::ys)
theorem a6M (a:Int) (u:B1) (b:Int) (v:B1):tl (U6 a u b v)=U6 a (tl u) b (tl v):=rfl
theorem b5m (a b x y p q:Int) (c:Int):c*(a*x+b*y) - (a*p+b*q)=a*(c*x - p)+b*(c*y - q):=by
 rw [fA,fB,fB];have e1:c*(a*x)=a*(c*x):=by rw [<- aY,aV c a,aY]
 have e2:c*(b*y)=b*(c*y):=by rw [<- aY,aV c b,aY]
 rw [e1,e2];lia
theorem a6w {n:Nat} {D:List B1->Int} (h:Lin n D) (a:Int) (u:B1) (b:Int) (v:B1):∀ (rest p1 p2:List B1),p1.length+p2.length+rest.length=n →
  N0 D (p1++U6 a u b v::p2) rest=a*N0 D (p1++u::p2) rest+b*N0 D (p1++v::p2) rest
 | [],p1,p2,_=>by simp [N0]
 | c::rest,p1,p2,hl=>by
  have hl':p1.length+p2.length+(rest.length+1)=n:=hl;have ih:=a6w h a u b v rest p1 (p2++[c]) (by rw [aI,cZ]; lia);have h0:=h a (tl u) b (tl v) (p1.map tl) ((p2++rest).map tl) (by rw [aA,aA,aI]; lia);unfold N0;simp only [cQ,bO,bP,bD,a6M] at h0 ih ⊢;rw [h0,ih];exact b5m ..
theorem b7q (a b x y p q D:Int):(a*x+b*y)*D - (a*p+b*q)=a*(x*D - p)+b*(y*D - q):=by
 rw [cX,fB,fB,aY,aY];lia
theorem a5g {n:Nat} {D:List B1->Int} (h:Lin n D) (a:Int) (u:B1) (b:Int) (v:B1):∀ (r1 pre r2:List B1),pre.length+r1.length+r2.length=n →
  N0 D pre (r1++U6 a u b v::r2)=a*N0 D pre (r1++u::r2)+b*N0 D pre (r1++v::r2)
 | [],pre,r2,hl=>by
  have hp:=a6w h a u b v r2 pre [] (by simp only [fN] at hl ⊢; lia);simp only [cJ];unfold N0;rw [hp];exact b7q ..
 | c::r1,pre,r2,hl=>by
  have hl':pre.length+(r1.length+1)+r2.length=n:=hl;have ih:=a5g h a u b v r1 (pre++[c]) r2 (by rw [aI,cZ]; lia);have h0:=h a (tl u) b (tl v) ((pre++r1).map tl) (r2.map tl) (by rw [aA,aA,aI]; lia);simp only [bO];unfold N0;simp only [cQ,bO,bP,bD,a6M] at h0 ih ⊢;rw [h0,ih];exact b5m ..
theorem a4i:∀ n,Lin n (A4 n)
 | 0=>λ a u b v xs ys h=>by lia
 | n+1=>λ a u b v xs ys h=>a5g (a4i n) a u b v xs [] ys (by simp only [fN]; lia)
def Adj (n:Nat) (D:List B1->Int):Prop:=∀ (u:B1) (xs ys:List B1),xs.length+ys.length+2=n->D (xs++u::u::ys)=0
theorem a6B {n:Nat} {D:List B1->Int} (h:Adj n D) (u:B1):∀ (rest p1 p2:List B1),p1.length+p2.length+rest.length+1=n->N0 D (p1++u::u::p2) rest=0
 | [],_,_,_=>rfl
 | c::rest,p1,p2,hl=>by
  have hl':p1.length+p2.length+(rest.length+1)+1=n:=hl;have ih:=a6B h u rest p1 (p2++[c]) (by rw [aI,cZ]; lia);have h0:=h (tl u) (p1.map tl) ((p2++rest).map tl) (by rw [aA,aA,aI]; lia);unfold N0;simp only [cQ,bO,bP,bD] at h0 ih ⊢;rw [h0,ih];lia
theorem a5w {n:Nat} {D:List B1->Int} (h:Adj n D) (u:B1):∀ (r1 pre r2:List B1),pre.length+r1.length+r2.length+1=n->N0 D pre (r1++u::u::r2)=0
 | [],pre,r2,hl=>by
  have hp:=a6B h u r2 pre [] (by simp only [fN] at hl ⊢; lia);simp only [cJ];unfold N0;unfold N0;simp only [cQ,bO,cJ] at hp ⊢;rw [hp];lia
 | c::r1,pre,r2,hl=>by
  have hl':pre.length+(r1.length+1)+r2.length+1=n:=hl;have ih:=a5w h u r1 (pre++[c]) r2 (by rw [aI,cZ]; lia);have h0:=h (tl u) ((pre++r1).map tl) (r2.map tl) (by rw [aA,aA,aI]; lia);simp only [bO];unfold N0;simp only [cQ,bO,bP,bD] at h0 ih ⊢;rw [h0,ih];lia
theorem a3V:∀ n,Adj n (A4 n)
 | 0=>λ u xs ys h=>by lia
 | n+1=>λ u xs ys h=>a5w (a3V n) u xs [] ys (by simp only [fN]; lia)
def R4 (k:Nat):B1:=λ i=>if i=k then 1 else 0
theorem b0q {D:List B1->Int}:∀ (rest pre:List B1),(∀ c∈rest,c 0=0)->N0 D pre rest=0
 | [],_,_=>rfl
 | c::rest,pre,h=>by
  unfold N0;rw [h c bB,b0q rest (pre++[c]) λ x hx=>h x (aU _ hx)];lia
theorem a0L:∀ n,A4 n ((aH n).map R4)=1
 | 0=>rfl
 | n+1=>by
  show N0 (A4 n) [] ((aH (n+1)).map R4)=1
  rw [jV,bD,aW];unfold N0;rw [b0q _ _ (λ c hc=>by
   obtain ⟨k,_,rfl⟩:=aZ.mp hc;rfl)]
  have e:([]++(aH n).map (R4 ∘ Nat.succ)).map tl=(aH n).map R4:=by
   rw [cJ,aW];refine cU λ k _=>?_
   funext i
   show (if i+1=k+1 then (1:Int) else 0)=if i=k then 1 else 0
   by_cases c:i=k
   ·rw [if_pos (by lia),if_pos c]
   ·rw [if_neg (by lia),if_neg c]
  rw [e,a0L n];rfl
def bnd (M:Nat):Nat->Nat
 | 0=>1
 | n+1=>(n+1)*(M*bnd M n)
def Fits (M n:Nat) (v:B1):Prop:=∀ i,i<n->(v i).natAbs<=M
theorem a7i {D:List B1->Int} {M n B:Nat} (hD:∀ cols,cols.length=n->(∀ c∈cols,Fits M n c)->(D cols).natAbs<=B):∀ (rest pre:List B1),pre.length+rest.length=n+1->(∀ c∈pre,Fits M (n+1) c)->(∀ c∈rest,Fits M (n+1) c)->(N0 D pre rest).natAbs<=rest.length*(M*B)
 | [],_,_,_,_=>by simp [N0]
 | c::rest,pre,hl,hp,hr=>by
  have hl':pre.length+(rest.length+1)=n+1:=hl;have h1:=a7i hD rest (pre++[c]) (by rw [aI,cZ]; lia) (λ x hx=>(bK.mp hx).elim (hp x) λ z=>by rw [aQ.mp z]; exact hr c bB) λ x hx=>hr x (aU _ hx);have h2:=hD ((pre++rest).map tl) (by rw [aA,aI]; lia) λ x hx=>by
   obtain ⟨y,hy,rfl⟩:=aZ.mp hx;intro i hi;rcases bK.mp hy with z | z
   ·exact hp y z (i+1) (by lia)
   ·exact hr y (aU _ z) (i+1) (by lia)
  have h3:=hr c bB 0 (by lia);unfold N0;rw [cG,hZ];have h4:(c 0*D ((pre++rest).map tl)).natAbs<=M*B:=by rw [iH]; exact Nat.mul_le_mul h3 h2
  have h5:=Int.natAbs_sub_le (c 0*D ((pre++rest).map tl)) (N0 D (pre++[c]) rest);lia
theorem a4p {M:Nat}:∀ (n:Nat) (cols:List B1),cols.length=n->(∀ c∈cols,Fits M n c)->(A4 n cols).natAbs<=bnd M n
 | 0,_,_,_=>aF 1
 | n+1,cols,hl,hf=>by
  have:=a7i (a4p (M:=M) n) cols [] (by simpa using hl) (λ c hc=>by cases hc) hf;rw [hl] at this;exact this
theorem a4U {α:Type} {C:List α} {i:Nat} {u:α} (h:C[i]?=some u):C=C.take i++u::C.drop (i+1):=by
 obtain ⟨hi,rfl⟩:=bQ.mp h;rw [<- List.drop_eq_getElem_cons hi,List.take_append_drop]
theorem b0T (n:Nat) (u v:B1) (xs ys:List B1) (hl:xs.length+ys.length+2=n):A4 n (xs++u::v::ys) = - A4 n (xs++v::u::ys):=by
 have L:=a4i n;have A:=a3V n;have h0:=A (U6 1 u 1 v) xs ys hl;have h1:=L 1 u 1 v xs (U6 1 u 1 v::ys) (by simp only [cG]; lia);have h2:=L 1 u 1 v (xs++[u]) ys (by simp only [aI,cZ]; lia);have h3:=L 1 u 1 v (xs++[v]) ys (by simp only [aI,cZ]; lia);have h4:=A u xs ys hl;have h5:=A v xs ys hl;simp only [cQ,bO,cJ] at h2 h3;lia
theorem a7c (n:Nat) (u:B1):∀ (zs xs ys:List B1),xs.length+zs.length+ys.length+2=n->A4 n (xs++u::(zs++u::ys))=0
 | [],xs,ys,hl=>a3V n u xs ys (by simp only [fN] at hl; lia)
 | z::zs,xs,ys,hl=>by
  have hl':xs.length+(zs.length+1)+ys.length+2=n:=hl;rw [bO,b0T n u z xs (zs++u::ys) (by simp only [aI,cG]; lia)];have:=a7c n u zs (xs++[z]) ys (by rw [aI,cZ]; lia);simp only [cQ,bO,cJ] at this;lia
theorem a7u {n:Nat} {C:List B1} {i k:Nat} {u:B1} (hl:C.length=n) (hik:i<k) (h1:C[i]?=some u) (h2:C[k]?=some u):A4 n C=0:=by
 have e1:=a4U h1;have hk:k<C.length:=(bQ.mp h2).1;have h3:(C.drop (i+1))[k - (i+1)]?=some u:=by rw [jW,show i+1+(k - (i+1))=k by lia]; exact h2
 have e2:=a4U h3;rw [e1,e2];refine a7c n u _ _ _ ?_;simp only [cI,dL];lia
theorem X0 {n:Nat} {C:List B1} {i k:Nat} {u:B1} (hl:C.length=n) (hik:i≠k) (h1:C[i]?=some u) (h2:C[k]?=some u):A4 n C=0:=by
 rcases Nat.lt_or_gt_of_ne hik with h | h
 ·exact a7u hl h h1 h2
 ·exact a7u hl h h2 h1
theorem a1g {α:Type} {C:List α} {k:Nat} (h:k<C.length) (u:α):C.set k u=C.take k++u::C.drop (k+1):=by
 rw [List.set_eq_take_append_cons_drop,if_pos h]
theorem V2 {n:Nat} {C:List B1} {k:Nat} (hl:C.length=n) (hk:k<n) (a:Int) (u:B1) (b:Int) (v:B1):A4 n (C.set k (U6 a u b v))=a*A4 n (C.set k u)+b*A4 n (C.set k v):=by
 have hk':k<C.length:=by lia
 rw [a1g hk',a1g hk',a1g hk'];refine a4i n a u b v _ _ ?_;simp only [cI,dL];lia
theorem a3L {n:Nat} {C:List B1} {i k:Nat} (hl:C.length=n) (hi:i<n) (hk:k<n) (hik:i≠k) (u:B1):A4 n ((C.set i u).set k u)=0:=by
 refine X0 (i:=i) (k:=k) (u:=u) (by rw [cC,cC]; exact hl) hik ?_ ?_
 ·rw [bM (aS hik),bZ (by lia)]
 ·rw [bZ (by rw [cC]; lia)]
theorem a5t {n:Nat} {C:List B1} {i k:Nat} (hl:C.length=n) (hi:i<n) (hk:k<n) (hik:i≠k) (u v:B1):A4 n ((C.set i u).set k v) = - A4 n ((C.set i v).set k u):=by
 have h0:=a3L hl hi hk hik (U6 1 u 1 v);have h1:=V2 (C:=C.set i (U6 1 u 1 v)) (by rw [cC]; exact hl) hk 1 u 1 v;have h2:=V2 (C:=C.set k u) (by rw [cC]; exact hl) hi 1 u 1 v;have h3:=V2 (C:=C.set k v) (by rw [cC]; exact hl) hi 1 u 1 v;have h4:=a3L hl hi hk hik u;have h5:=a3L hl hi hk hik v;rw [eV _ _ (aS hik),eV _ _ (aS hik),eV _ _ (aS hik)] at h2 h3;lia
def sumTo (g:Nat->Int):Nat->Int
 | 0=>0
 | n+1=>sumTo g n+g n
theorem sum_congr {g h:Nat->Int}:∀ {n:Nat},(∀ k,k<n->g k=h k)->sumTo g n=sumTo h n
 | 0,_=>rfl
 | n+1,e=>by
  show sumTo g n+g n=sumTo h n+h n
  rw [sum_congr λ k hk=>e k (by lia),e n (by lia)]
theorem sum_zero {g:Nat->Int} {n:Nat} (h:∀ k,k<n->g k=0):sumTo g n=0:=by
 induction n with
 | zero=>rfl
 | succ n ih =>
  show sumTo g n+g n=0
  rw [ih λ k hk=>h k (by lia),h n (by lia)];rfl
theorem sum_one {g:Nat->Int} {n r:Nat} (hr:r<n) (h:∀ k,k<n->k≠r->g k=0):sumTo g n=g r:=by
 induction n with
 | zero=>lia
 | succ n ih =>
  show sumTo g n+g n=g r
  by_cases c:r=n
  ·subst c
   rw [sum_zero λ k hk=>h k (by lia) (by lia)];lia
  ·rw [ih (by lia) λ k hk hn=>h k (by lia) hn,h n (by lia) (by lia)]
   lia
theorem Q9 {g h:Nat->Int}:∀ n:Nat,sumTo (λ k=>g k+h k) n=sumTo g n+sumTo h n
 | 0=>rfl
 | n+1=>by
  show sumTo (λ k=>g k+h k) n+(g n+h n)=sumTo g n+g n+(sumTo h n+h n)
  rw [Q9 n];lia
theorem A8 {g:Nat->Int} (a:Int):∀ n:Nat,sumTo (λ k=>a*g k) n=a*sumTo g n
 | 0=>(bA a).symm
 | n+1=>by
  show sumTo (λ k=>a*g k) n+a*g n=a*(sumTo g n+g n)
  rw [A8 a n,fA]
theorem b1w {g:Nat->Int} {n r i:Nat} (hr:r<n) (hi:i<n) (hne:r≠i) (h:∀ k,k<n->k≠r->k≠i->g k=0):sumTo g n=g r+g i:=by
 have e:sumTo g n=sumTo (λ k=>(if k=r then g k else 0)+(if k=i then g k else 0)) n:=sum_congr λ k hk=>by
  by_cases c1:k=r
  ·rw [if_pos c1,if_neg (by lia)]; lia
  ·by_cases c2:k=i
   ·rw [if_neg c1,if_pos c2]; lia
   ·rw [if_neg c1,if_neg c2,h k hk c1 c2]; lia
 rw [e,Q9,sum_one hr λ k _ hn=>if_neg hn,sum_one hi λ k _ hn=>if_neg hn,if_pos rfl,if_pos rfl]
theorem a1X {n:Nat} {C:List B1} {k:Nat} (hl:C.length=n) (hk:k<n) (t:Nat->Int) (W:Nat->B1):∀ m:Nat,A4 n (C.set k (λ x=>sumTo (λ j=>t j*W j x) m))=sumTo (λ j=>t j*A4 n (C.set k (W j))) m
 | 0=>by
  have h:=V2 hl hk 0 (λ _=>0) 0 (λ _=>0);have e:U6 0 (λ _=>0) 0 (λ _=>0)=(λ x:Nat=>sumTo (λ j=>t j*W j x) 0):=by funext x; simp [U6,sumTo]
  rw [e] at h;rw [h];simp [sumTo]
 | m+1=>by
  have h:=V2 hl hk 1 (λ x=>sumTo (λ j=>t j*W j x) m) (t m) (W m);have e:U6 1 (λ x=>sumTo (λ j=>t j*W j x) m) (t m) (W m)=(λ x:Nat=>sumTo (λ j=>t j*W j x) (m+1)):=by funext x; simp [U6,sumTo]
  rw [e,a1X hl hk t W m] at h;rw [h]
  show 1*sumTo _ m+_=sumTo _ m+_
  rw [gM]
def zv:B1:=λ _=>0
def a5u (n:Nat) (B:List B1) (u:B1):Prop:=∀ x,A4 n B*u x=sumTo (λ k=>A4 n (B.set k u)*(B.getD k zv) x) n
theorem a4m {B:List B1} {k:Nat} (h:k<B.length):B[k]?=some (B.getD k zv):=by rw [aM,aG h]; rfl
theorem P1 {B:List B1} {k:Nat} (h:k<B.length):B.set k (B.getD k zv)=B:=by
 have e:B.getD k zv=B[k]:=by rw [aM,aG h]; rfl
 rw [e,List.set_getElem_self]
theorem plu {n:Nat} {B:List B1} {r i:Nat} (hl:B.length=n) (hr:r<n) (hi:i<n) (hne:i≠r) {u:B1} (v:B1) (hc:a5u n B u) :
  A4 n B*A4 n ((B.set r u).set i v)=A4 n (B.set r u)*A4 n (B.set i v) - A4 n (B.set i u)*A4 n (B.set r v):=by
 have hl':(B.set i v).length=n:=by rw [cC]; exact hl
 have e1:A4 n ((B.set i v).set r (U6 (A4 n B) u 0 u))=A4 n B*A4 n ((B.set i v).set r u):=by
  rw [V2 hl' hr]; lia
 have e2:U6 (A4 n B) u 0 u=(λ x:Nat=>sumTo (λ k=>A4 n (B.set k u)*(B.getD k zv) x) n):=by
  funext x
  rw [<- hc x];unfold U6;lia
 rw [e2,a1X hl' hr (λ k=>A4 n (B.set k u)) (λ k=>B.getD k zv) n] at e1;rw [eV _ _ (aS hne),<- e1];rw [b1w hr hi (aS hne) λ k hk n1 n2=>?_]
 ·have a1:(B.set i v).set r (B.getD r zv)=B.set i v:=by rw [eV _ _ hne,P1 (by lia)]
  have a2:A4 n ((B.set i v).set r (B.getD i zv)) = - A4 n (B.set r v):=by
   rw [a5t hl hi hr hne,P1 (by lia)]
  show A4 n (B.set r u)*A4 n ((B.set i v).set r (B.getD r zv))+A4 n (B.set i u)*A4 n ((B.set i v).set r (B.getD i zv))=_
  rw [a1,a2,cW];lia
 ·have:A4 n ((B.set i v).set r (B.getD k zv))=0:=by
   refine X0 (i:=k) (k:=r) (u:=B.getD k zv) (by rw [cC,cC]; exact hl) n1 ?_ ?_
   ·rw [bM (aS n1),bM (aS n2)]; exact a4m (by lia)
   ·rw [bZ (by rw [cC]; lia)]
  show A4 n (B.set k u)*A4 n ((B.set i v).set r (B.getD k zv))=0
  rw [this,bA]
theorem b3w {d a b:Int} (hd:d≠0) (h:d*a=d*b):a=b:=Int.eq_of_mul_eq_mul_left hd h
theorem a3F {n:Nat} {B:List B1} {r:Nat} (hl:B.length=n) (hr:r<n) {u v:B1} (hd:A4 n B≠0) (hu:a5u n B u) (hv:a5u n B v):a5u n (B.set r u) v:=by
 intro x;refine b3w hd ?_;have e:∀ k,k<n->A4 n B*(A4 n ((B.set r u).set k v)*((B.set r u).getD k zv) x) =
   A4 n (B.set r u)*(A4 n (B.set k v)*(B.getD k zv) x)+(if k=r then A4 n B*(A4 n (B.set r v)*u x) else 0) - A4 n (B.set r v)*(A4 n (B.set k u)*(B.getD k zv) x):=λ k hk=>by
  by_cases c:k=r
  ·subst c
   rw [if_pos rfl,jX];have g:(B.set k u).getD k zv=u:=by rw [aM,bZ (by lia)]; rfl
   rw [g];have:A4 n (B.set k u)*(A4 n (B.set k v)*B.getD k zv x)=A4 n (B.set k v)*(A4 n (B.set k u)*B.getD k zv x):=by rw [<- aY,<- aY,aV (A4 n (B.set k u))]
   lia
  ·rw [if_neg c]
   have g:(B.set r u).getD k zv=B.getD k zv:=by rw [aM,bM (aS c),<- aM]
   rw [g,<- aY,plu hl hr hk c v hu,Int.sub_mul,aY,aY];have:A4 n (B.set k u)*(A4 n (B.set r v)*B.getD k zv x)=A4 n (B.set r v)*(A4 n (B.set k u)*B.getD k zv x):=by rw [<- aY,<- aY,aV (A4 n (B.set k u))]
   lia
 have s1:A4 n B*sumTo (λ k=>A4 n ((B.set r u).set k v)*((B.set r u).getD k zv) x) n =
   sumTo (λ k=>A4 n (B.set r u)*(A4 n (B.set k v)*(B.getD k zv) x)+(if k=r then A4 n B*(A4 n (B.set r v)*u x) else 0)+(- A4 n (B.set r v))*(A4 n (B.set k u)*(B.getD k zv) x)) n:=by
  rw [<- A8];refine sum_congr λ k hk=>?_;rw [e k hk,eD];lia
 rw [s1,Q9,Q9,A8,A8,<- hv x,<- hu x,sum_one hr λ k _ hn=>if_neg hn,if_pos rfl,eD];have a1:A4 n B*(A4 n (B.set r u)*v x)=A4 n (B.set r u)*(A4 n B*v x):=by rw [<- aY,<- aY,aV (A4 n B)]
 have a2:A4 n B*(A4 n (B.set r v)*u x)=A4 n (B.set r v)*(A4 n B*u x):=by rw [<- aY,<- aY,aV (A4 n B)]
 lia
theorem a8y {n:Nat} {B:List B1} {r:Nat} (hl:B.length=n) (hr:r<n):a5u n B (B.getD r zv):=by
 intro x;rw [sum_one hr λ k hk hn=>?_]
 ·rw [P1 (by lia)]
 ·have:A4 n (B.set k (B.getD r zv))=0:=by
   refine X0 (i:=r) (k:=k) (u:=B.getD r zv) (by rw [cC]; exact hl) (aS hn) ?_ ?_
   ·rw [bM hn]; exact a4m (by lia)
   ·rw [bZ (by lia)]
  rw [this,eO]
theorem b5d {n:Nat} {B:List B1} (hl:B.length=n) (hd:A4 n B≠0) {t:Nat->Int} (h:∀ x,sumTo (λ k=>t k*(B.getD k zv) x) n=0) {i:Nat} (hi:i<n):t i=0:=by
 have h1:=a1X (C:=B) hl hi t (λ k=>B.getD k zv) n;have e:(λ x:Nat=>sumTo (λ k=>t k*(B.getD k zv) x) n)=zv:=by funext x; rw [h x]; rfl
 rw [e] at h1;have h0:A4 n (B.set i zv)=0:=by
  have:=V2 hl hi 0 zv 0 zv;have e:U6 0 zv 0 zv=zv:=by funext x; simp [U6,zv]
  rw [e] at this;lia
 rw [h0,sum_one hi λ k hk hn=>?_,P1 (by lia)] at h1
 ·exact (gN.mp h1.symm).resolve_right hd
 ·have:A4 n (B.set i (B.getD k zv))=0:=by
   refine X0 (i:=k) (k:=i) (u:=B.getD k zv) (by rw [cC]; exact hl) hn ?_ ?_
   ·rw [bM (aS hn)]; exact a4m (by lia)
   ·rw [bZ (by lia)]
  rw [this,bA]
structure Bo where
 d:Int
 T:Nat->Nat->Int
 ins:Nat->Nat
 outs:Nat->Nat
def Z9 (g:Nat->Nat) (k v:Nat):Nat->Nat:=λ i=>if i=k then v else g i
theorem w8 {g:Nat->Nat} {k v:Nat}:Z9 g k v k=v:=if_pos rfl
theorem x6 {g:Nat->Nat} {k v i:Nat} (h:i≠k):Z9 g k v i=g i:=if_neg h
def piv (S:Bo) (r c:Nat):Bo where
 d:=S.T r c
 T:=λ i j=>if i=r then (if j=c then S.d else S.T r j) else (if j=c then - S.T i c else (S.T i j*S.T r c - S.T i c*S.T r j) / S.d)
 ins:=Z9 S.ins r (S.outs c)
 outs:=Z9 S.outs c (S.ins r)
def Bs (m:Nat) (V:Nat->B1) (ins:Nat->Nat):List B1:=(aH (m+1)).map λ i=>V (ins i)
theorem a1A (m:Nat) (V:Nat->B1) (ins:Nat->Nat):(Bs m V ins).length=m+1:=by unfold Bs; rw [aA,fO]
theorem a6Y {m:Nat} {V:Nat->B1} {ins:Nat->Nat} {i:Nat} (h:i<m+1):(Bs m V ins).getD i zv=V (ins i):=by
 unfold Bs;rw [aM,aE,bF h];rfl
theorem b0G {m:Nat} {V:Nat->B1} {ins:Nat->Nat} {r v:Nat} (h:r<m+1):Bs m V (Z9 ins r v)=(Bs m V ins).set r (V v):=by
 refine bX λ i=>?_;unfold Bs
 by_cases c:i=r
 ·subst c
  rw [bZ (by rw [aA,fO]; exact h),aE,bF h]
  show some (V (Z9 ins i v i))=_
  rw [w8]
 ·rw [bM (aS c),aE,aE]
  by_cases hi:i<m+1
  ·rw [bF hi]
   show some (V (Z9 ins r v i))=some (V (ins i))
   rw [x6 c]
  ·rw [bH (by rw [fO]; lia)]
   rfl
structure Wf (m q:Nat) (V:Nat->B1) (S:Bo):Prop where
 hd:S.d=A4 (m+1) (Bs m V S.ins)
 hT:∀ i j,i<m+1->j<q+1->S.T i j=A4 (m+1) ((Bs m V S.ins).set i (V (S.outs j)))
 cr:∀ j,j<q+1->a5u (m+1) (Bs m V S.ins) (V (S.outs j))
 pos:0<S.d
 feas:∀ i,i<m->0<=S.T i q
 im:S.ins m=q+m
 oq:S.outs q=q+m+1
 ib:∀ i,i<m->S.ins i<q+m
 ob:∀ j,j<q->S.outs j<q+m
 ii:∀ i k,i<m->k<m->S.ins i=S.ins k->i=k
 oo:∀ j k,j<q->k<q->S.outs j=S.outs k->j=k
 io:∀ i j,i<m->j<q->S.ins i≠S.outs j
 all:∀ v,v<q+m->(∃ i,i<m/\S.ins i=v)\/(∃ j,j<q/\S.outs j=v)
section
variable {m q:Nat} {V:Nat->B1} {S:Bo}
theorem Wf.exact (W:Wf m q V S) {r c i j:Nat} (hr:r<m) (hc:c<q) (hi:i<m+1) (hj:j<q+1) (hne:i≠r) :
  S.T i j*S.T r c - S.T i c*S.T r j=S.d*A4 (m+1) (((Bs m V S.ins).set r (V (S.outs c))).set i (V (S.outs j))):=by
 have h:=plu (a1A m V S.ins) (show r<m+1 by lia) hi hne (V (S.outs j)) (W.cr c (by lia));rw [W.hd,h,W.hT i j hi hj,W.hT r c (by lia) (by lia),W.hT i c hi (by lia),W.hT r j (by lia) hj];rw [aV (A4 (m+1) ((Bs m V S.ins).set i (V (S.outs j))))]
theorem Wf.pivT (W:Wf m q V S) {r c i j:Nat} (hr:r<m) (hc:c<q) (hi:i<m+1) (hj:j<q+1):(piv S r c).T i j=A4 (m+1) ((Bs m V (piv S r c).ins).set i (V ((piv S r c).outs j))):=by
 have hl:=a1A m V S.ins
 show (if i=r then (if j=c then S.d else S.T r j) else (if j=c then - S.T i c else (S.T i j*S.T r c - S.T i c*S.T r j) / S.d))=A4 (m+1) ((Bs m V (Z9 S.ins r (S.outs c))).set i (V (Z9 S.outs c (S.ins r) j)))
 rw [b0G (by lia)]
 by_cases c1:i=r
 ·subst c1
  rw [if_pos rfl,jX]
  by_cases c2:j=c
  ·subst c2
   rw [if_pos rfl,w8,W.hd,<- a6Y (V:=V) (ins:=S.ins) hi,P1 (by lia)]
  ·rw [if_neg c2,x6 c2]
   exact W.hT i j hi hj
 ·rw [if_neg c1]
  by_cases c2:j=c
  ·subst c2
   rw [if_pos rfl,w8,a5t hl (by lia) hi (aS c1),<- a6Y (V:=V) (ins:=S.ins) (show r<m+1 by lia),P1 (by lia),W.hT i j hi hj]
  ·rw [if_neg c2,x6 c2,W.exact hr hc hi hj c1]
   exact jQ _ (by have:=W.pos; lia)
theorem Wf.mulT (W:Wf m q V S) {r c i j:Nat} (hr:r<m) (hc:c<q) (hi:i<m+1) (hj:j<q+1) (hne:i≠r) (hjc:j≠c):S.d*(piv S r c).T i j=S.T i j*S.T r c - S.T i c*S.T r j:=by
 have e:=W.pivT hr hc hi hj;have h:=W.exact hr hc hi hj hne;have e2:Bs m V (piv S r c).ins=(Bs m V S.ins).set r (V (S.outs c)):=b0G (by lia);have e3:(piv S r c).outs j=S.outs j:=x6 hjc;rw [e2,e3] at e;rw [h,e]
theorem Wf.pivot (W:Wf m q V S) {r c:Nat} (hr:r<m) (hc:c<q) (hp:0<S.T r c) (hq:∀ i,i<m->0<S.T i c->S.T r q*S.T i c<=S.T i q*S.T r c):Wf m q V (piv S r c):=by
 have hl:=a1A m V S.ins;have hd0:A4 (m+1) (Bs m V S.ins)≠0:=by have:=W.pos; rw [W.hd] at this; lia
 have hB:Bs m V (piv S r c).ins=(Bs m V S.ins).set r (V (S.outs c)):=b0G (by lia);refine ⟨?_,λ i j hi hj=>W.pivT hr hc hi hj,λ j hj=>?_,hp,λ i hi=>?_,?_,?_,λ i hi=>?_,λ j hj=>?_,λ i k hi hk e=>?_,λ j k hj hk e=>?_,λ i j hi hj e=>?_,λ v hv=>?_⟩
 ·rw [hB]; exact W.hT r c (by lia) (by lia)
 ·rw [hB]
  by_cases c2:j=c
  ·subst c2
   show a5u _ _ (V (Z9 S.outs j (S.ins r) j))
   rw [w8];have h:=a8y hl (show r<m+1 by lia);rw [a6Y (by lia)] at h;exact a3F hl (by lia) hd0 (W.cr j hj) h
  ·show a5u _ _ (V (Z9 S.outs c (S.ins r) j))
   rw [x6 c2];exact a3F hl (by lia) hd0 (W.cr c (by lia)) (W.cr j hj)
 ·by_cases c1:i=r
  ·subst c1
   show 0<=(if i=i then (if q=c then S.d else S.T i q) else _)
   rw [if_pos rfl,if_neg (by lia)];exact W.feas i hi
  ·have e:=W.mulT hr hc (show i<m+1 by lia) (show q<q+1 by lia) c1 (show q≠c by lia)
   have f1:=W.feas i hi;have f2:=W.feas r hr;have hpos:=W.pos;have nn:0<=S.T i q*S.T r c - S.T i c*S.T r q:=by
    have a1:0<=S.T i q*S.T r c:=cO f1 (aX hp)
    by_cases z:0<S.T i c
    ·have:=hq i hi z
     rw [aV (S.T i c)];lia
    ·have a2:0 <= - (S.T i c)*S.T r q:=cO (by lia) f2
     rw [eD] at a2;lia
   rw [<- e] at nn
   by_cases z:0<=(piv S r c).T i q
   ·exact z
   ·have:=eA hpos (show 0 < - (piv S r c).T i q by lia)
    rw [cW] at this;lia
 ·show Z9 S.ins r (S.outs c) m=q+m
  rw [x6 (by lia)]; exact W.im
 ·show Z9 S.outs c (S.ins r) q=q+m+1
  rw [x6 (by lia)]; exact W.oq
 ·show Z9 S.ins r (S.outs c) i<q+m
  by_cases c1:i=r
  ·rw [c1,w8]; exact W.ob c hc
  ·rw [x6 c1]; exact W.ib i hi
 ·show Z9 S.outs c (S.ins r) j<q+m
  by_cases c1:j=c
  ·rw [c1,w8]; exact W.ib r hr
  ·rw [x6 c1]; exact W.ob j hj
 ·replace e:Z9 S.ins r (S.outs c) i=Z9 S.ins r (S.outs c) k:=e
  by_cases c1:i=r
  ·by_cases c2:k=r
   ·lia
   ·rw [c1,w8,x6 c2] at e
    exact absurd e.symm (W.io k c hk hc)
  ·by_cases c2:k=r
   ·rw [c2,w8,x6 c1] at e
    exact absurd e (W.io i c hi hc)
   ·rw [x6 c1,x6 c2] at e
    exact W.ii i k hi hk e
 ·replace e:Z9 S.outs c (S.ins r) j=Z9 S.outs c (S.ins r) k:=e
  by_cases c1:j=c
  ·by_cases c2:k=c
   ·lia
   ·rw [c1,w8,x6 c2] at e
    exact absurd e (W.io r k hr hk)
  ·by_cases c2:k=c
   ·rw [c2,w8,x6 c1] at e
    exact absurd e.symm (W.io r j hr hj)
   ·rw [x6 c1,x6 c2] at e
    exact W.oo j k hj hk e
 ·replace e:Z9 S.ins r (S.outs c) i=Z9 S.outs c (S.ins r) j:=e
  by_cases c1:i=r
  ·by_cases c2:j=c
   ·rw [c1,c2,w8,w8] at e
    exact absurd e.symm (W.io r c hr hc)
   ·rw [c1,w8,x6 c2] at e
    exact c2 (W.oo c j hc hj e).symm
  ·by_cases c2:j=c
   ·rw [c2,w8,x6 c1] at e
    exact c1 (W.ii i r hi hr e)
   ·rw [x6 c1,x6 c2] at e
    exact W.io i j hi hj e
 ·show (∃ i,i<m/\Z9 S.ins r (S.outs c) i=v)\/(∃ j,j<q/\Z9 S.outs c (S.ins r) j=v)
  rcases W.all v hv with ⟨i,hi,e⟩ | ⟨j,hj,e⟩
  ·by_cases c1:i=r
   ·exact .inr ⟨c,hc,by rw [w8,<- c1]; exact e⟩
   ·exact .inl ⟨i,hi,by rw [x6 c1]; exact e⟩
  ·by_cases c1:j=c
   ·exact .inl ⟨r,hr,by rw [w8,<- c1]; exact e⟩
   ·exact .inr ⟨j,hj,by rw [x6 c1]; exact e⟩
def Ker (m q:Nat) (V:Nat->B1) (S:Bo) (z:Nat->Int):Prop:=∀ x,sumTo (λ k=>z (S.ins k)*V (S.ins k) x) (m+1)+sumTo (λ j=>z (S.outs j)*V (S.outs j) x) (q+1)=0
theorem a6V {g h:Nat->Int} {n r:Nat} (hr:r<n) (e:∀ k,k<n->k≠r->g k=h k):sumTo g n=sumTo h n+(g r - h r):=by
 have e1:sumTo g n=sumTo (λ k=>h k+(if k=r then g k - h k else 0)) n:=sum_congr λ k hk=>by
  by_cases c:k=r
  ·rw [if_pos c]; lia
  ·rw [if_neg c,e k hk c]; lia
 rw [e1,Q9,sum_one hr λ k _ hn=>if_neg hn,if_pos rfl]
theorem Ker.piv {r c:Nat} (hr:r<m) (hc:c<q) {z:Nat->Int}:Ker m q V (piv S r c) z ↔ Ker m q V S z:=by
  have e:∀ x,sumTo (λ k=>z ((Lp.piv S r c).ins k)*V ((Lp.piv S r c).ins k) x) (m+1)+sumTo (λ j=>z ((Lp.piv S r c).outs j)*V ((Lp.piv S r c).outs j) x) (q+1)
     =sumTo (λ k=>z (S.ins k)*V (S.ins k) x) (m+1)+sumTo (λ j=>z (S.outs j)*V (S.outs j) x) (q+1):=λ x=>by
    have h1:=a6V (g:=λ k=>z ((Lp.piv S r c).ins k)*V ((Lp.piv S r c).ins k) x) (h:=λ k=>z (S.ins k)*V (S.ins k) x) (n:=m+1) (r:=r) (by lia) λ k hk hn=>by
      show z (Z9 S.ins r (S.outs c) k)*V (Z9 S.ins r (S.outs c) k) x=_
      rw [x6 hn]
    have h2:=a6V (g:=λ j=>z ((Lp.piv S r c).outs j)*V ((Lp.piv S r c).outs j) x) (h:=λ j=>z (S.outs j)*V (S.outs j) x) (n:=q+1) (r:=c) (by lia) λ k hk hn=>by
      show z (Z9 S.outs c (S.ins r) k)*V (Z9 S.outs c (S.ins r) k) x=_
      rw [x6 hn]
    rw [h1,h2]
    show _+(z (Z9 S.ins r (S.outs c) r)*V (Z9 S.ins r (S.outs c) r) x - _)+(_+(z (Z9 S.outs c (S.ins r) c)*V (Z9 S.outs c (S.ins r) c) x - _))=_
    rw [w8,w8];lia
  exact ⟨λ h x=>(e x).symm.trans (h x),λ h x=>(e x).trans (h x)⟩
def a2V (q:Nat) (S:Bo) (z:Nat->Int) (i:Nat):Int:=S.d*z (S.ins i)+sumTo (λ j=>S.T i j*z (S.outs j)) (q+1)
theorem a0V {g:Nat->Nat->Int} (n:Nat):∀ k:Nat,sumTo (λ i=>sumTo (λ j=>g i j) k) n=sumTo (λ j=>sumTo (λ i=>g i j) n) k
 | 0=>sum_zero λ _ _=>rfl
 | k+1=>by
  show sumTo (λ i=>sumTo (λ j=>g i j) k+g i k) n=sumTo (λ j=>sumTo (λ i=>g i j) n) k+sumTo (λ i=>g i k) n
  rw [Q9,a0V n k]
theorem Wf.rows (W:Wf m q V S) (z:Nat->Int) (x:Nat):S.d*(sumTo (λ k=>z (S.ins k)*V (S.ins k) x) (m+1)+sumTo (λ j=>z (S.outs j)*V (S.outs j) x) (q+1))=sumTo (λ k=>a2V q S z k*((Bs m V S.ins).getD k zv) x) (m+1):=by
 have e1:S.d*sumTo (λ j=>z (S.outs j)*V (S.outs j) x) (q+1)=sumTo (λ k=>sumTo (λ j=>S.T k j*z (S.outs j)) (q+1)*((Bs m V S.ins).getD k zv) x) (m+1):=by
  rw [<- A8];have h1:∀ j,j<q+1->S.d*(z (S.outs j)*V (S.outs j) x)=sumTo (λ k=>S.T k j*z (S.outs j)*((Bs m V S.ins).getD k zv) x) (m+1):=λ j hj=>by
   have h:=W.cr j hj x;rw [<- W.hd] at h;rw [aV (z (S.outs j)),<- aY,h,aV,<- A8];refine sum_congr λ k hk=>?_;rw [W.hT k j hk hj,<- aY,aV (z (S.outs j))]
  rw [sum_congr h1,<- a0V];refine sum_congr λ k hk=>?_;rw [aV (sumTo _ _),<- A8];exact sum_congr λ j _=>aV _ _
 rw [fA,e1,<- A8,<- Q9];refine sum_congr λ k hk=>?_
 show _=(S.d*z (S.ins k)+_)*_
 rw [cX,a6Y hk,aY]
theorem Wf.row_of (W:Wf m q V S) {z:Nat->Int} (h:Ker m q V S z) {i:Nat} (hi:i<m+1):a2V q S z i=0:=by
 refine b5d (a1A m V S.ins) (by have:=W.pos; rw [W.hd] at this; lia) (λ x=>?_) hi;rw [<- W.rows z x,h x,bA]
theorem Wf.ker_of (W:Wf m q V S) {z:Nat->Int} (h:∀ i,i<m+1->a2V q S z i=0):Ker m q V S z:=λ x=>by
 have e:=W.rows z x;have e0:sumTo (λ k=>a2V q S z k*((Bs m V S.ins).getD k zv) x) (m+1)=0:=sum_zero λ k hk=>by rw [h k hk,eO]
 rw [e0] at e;exact (gN.mp e).resolve_left (by have:=W.pos; lia)
end
structure Choice (m q:Nat) (S:Bo) (r c:Nat):Prop where
 hc:c<q
 neg:S.T m c<0
 minc:∀ j,j<q->S.T m j<0->S.outs c<=S.outs j
 hr:r<m
 pos:0<S.T r c
 ratio:∀ i,i<m->0<S.T i c->S.T r q*S.T i c<=S.T i q*S.T r c
 tie:∀ i,i<m->0<S.T i c->S.T r q*S.T i c=S.T i q*S.T r c->S.ins r<=S.ins i
theorem a6G {g:Nat->Int}:∀ {n:Nat},sumTo g n<0->∃ k,k<n/\g k<0
 | 0,h=>absurd h (by show ¬ (0:Int)<0; lia)
 | n+1,h=>by
  have h':sumTo g n+g n<0:=h
  by_cases c:g n<0
  ·exact ⟨n,by lia,c⟩
  ·obtain ⟨k,hk,hg⟩:=a6G (g:=g) (n:=n) (by lia)
   exact ⟨k,by lia,hg⟩
section
variable {m q:Nat} {V:Nat->B1} {S S':Bo}
theorem Wf.inj (W:Wf m q V S) {i k:Nat} (hi:i<m+1) (hk:k<m+1) (e:S.ins i=S.ins k):i=k:=by
 by_cases c1:i=m
 ·by_cases c2:k=m
  ·lia
  ·have:=W.ib k (by lia)
   rw [c1,W.im] at e;lia
 ·by_cases c2:k=m
  ·have:=W.ib i (by lia)
   rw [c2,W.im] at e;lia
  ·exact W.ii i k (by lia) (by lia) e
theorem Wf.apart (W:Wf m q V S) {i j:Nat} (hi:i<m+1) (hj:j<q+1):S.ins i≠S.outs j:=by
 intro e;have hI:S.ins i<=q+m:=by
  by_cases c1:i=m
  ·rw [c1,W.im]; exact aF _
  ·have:=W.ib i (by lia); lia
 by_cases c2:j=q
 ·rw [c2,W.oq] at e; lia
 ·have:=W.ob j (by lia)
  by_cases c1:i=m
  ·rw [c1,W.im] at e; lia
  ·exact W.io i j (by lia) (by lia) e
theorem Wf.injo (W:Wf m q V S) {j k:Nat} (hj:j<q+1) (hk:k<q+1) (e:S.outs j=S.outs k):j=k:=by
 by_cases c1:j=q
 ·by_cases c2:k=q
  ·lia
  ·have:=W.ob k (by lia)
   rw [c1,W.oq] at e;lia
 ·by_cases c2:k=q
  ·have:=W.ob j (by lia)
   rw [c2,W.oq] at e;lia
  ·exact W.oo j k (by lia) (by lia) e
def ray (m:Nat) (S:Bo) (c:Nat) (v:Nat):Int:=if v=S.outs c then S.d else sumTo (λ i=>if S.ins i=v then - S.T i c else 0) (m+1)
theorem Wf.ray_in (W:Wf m q V S) {c k:Nat} (hc:c<q+1) (hk:k<m+1):ray m S c (S.ins k) = - S.T k c:=by
 unfold ray;rw [if_neg (W.apart hk hc),sum_one hk λ i hi hn=>if_neg λ e=>hn (W.inj hi hk e),if_pos rfl]
theorem Wf.ray_out (W:Wf m q V S) {c j:Nat} (hc:c<q+1) (hj:j<q+1) (hn:j≠c):ray m S c (S.outs j)=0:=by
 unfold ray;rw [if_neg λ e=>hn (W.injo hj hc e)];exact sum_zero λ i hi=>if_neg (W.apart hi hj)
theorem Wf.ray_c {c:Nat}:ray m S c (S.outs c)=S.d:=if_pos rfl
theorem Wf.ray_ker (W:Wf m q V S) {c:Nat} (hc:c<q+1):Ker m q V S (ray m S c):=W.ker_of λ i hi=>by
 unfold a2V;rw [W.ray_in hc hi,sum_one hc λ j hj hn=>by rw [W.ray_out hc hj hn,bA],Wf.ray_c,cW,aV];lia
theorem b2P (W:Wf m q V S) (W':Wf m q V S') (hk:∀ z,Ker m q V S z->Ker m q V S' z) {r c r' c':Nat} (C:Choice m q S r c) (C':Choice m q S' r' c') (ht:S.ins r=S'.outs c') (hst:S.outs c<S.ins r)
  (stat:∀ v,S.ins r<v->(∃ i,i<m/\S.ins i=v)->∃ i,i<m/\S'.ins i=v) (zero:∀ k j,k<m->j<q->S.ins k=S'.outs j->S.T k q=0):False:=by
 have hc1:c<q+1:=by have:=C.hc; lia
 have R:=W'.row_of (hk _ (W.ray_ker hc1)) (show m<m+1 by lia);have zobj:ray m S c (S'.ins m) = - S.T m c:=by rw [W'.im,<- W.im]; exact W.ray_in hc1 (by lia)
 have zcon:ray m S c (S'.outs q)=0:=by rw [W'.oq,<- W.oq]; exact W.ray_out hc1 (by lia) (by have:=C.hc; lia)
 unfold a2V at R
 replace R:S'.d*ray m S c (S'.ins m)+(sumTo (λ j=>S'.T m j*ray m S c (S'.outs j)) q+S'.T m q*ray m S c (S'.outs q))=0:=R
 rw [zobj,zcon,bA,cW] at R;have hneg:0<S'.d*(- S.T m c):=eA W'.pos (by have:=C.neg; lia);rw [cW] at hneg;obtain ⟨j,hj,hg⟩:=a6G (g:=λ j=>S'.T m j*ray m S c (S'.outs j)) (n:=q) (by lia)
 replace hg:S'.T m j*ray m S c (S'.outs j)<0:=hg
 rcases W.all (S'.outs j) (W'.ob j hj) with ⟨k,hk1,e⟩ | ⟨j2,hj2,e⟩
 ·rw [<- e,W.ray_in hc1 (by lia)] at hg
  rcases Nat.lt_trichotomy (S'.outs j) (S.ins r) with h | h | h
  ·have h1:0<=S'.T m j:=by
    by_cases z:S'.T m j<0
    ·have:=C'.minc j hj z
     lia
    ·lia
   have h2:0<S.T k c:=by
    by_cases z:0<S.T k c
    ·exact z
    ·have:=cO h1 (show 0 <= - S.T k c by lia)
     lia
   have h3:=zero k j hk1 hj e;have h4:=C.ratio k hk1 h2;rw [h3,eO] at h4;have h5:0<=S.T r q*S.T k c:=cO (W.feas r C.hr) (aX h2);have h6:=C.tie k hk1 h2 (by rw [h3,eO]; omega);lia
  ·have e1:j=c':=W'.oo j c' hj C'.hc (by rw [h,ht])
   have e2:k=r:=W.ii k r hk1 C.hr (by rw [e,h]);rw [e1,e2] at hg;have:=eA (show 0 < - S'.T m c' by have:=C'.neg; lia) C.pos;rw [eD] at this;rw [cW] at hg;lia
  ·obtain ⟨i,hi,e3⟩:=stat _ h ⟨k,hk1,e⟩
   exact W'.io i j hi hj e3
 ·by_cases c2:j2=c
  ·rw [<- e,c2,Wf.ray_c] at hg
   have h1:S'.T m j<0:=by
    by_cases z:S'.T m j<0
    ·exact z
    ·have:=cO (show 0<=S'.T m j by lia) (aX W.pos)
     lia
   have:=C'.minc j hj h1;rw [c2] at e;lia
  ·rw [<- e,W.ray_out hc1 (by lia) c2,bA] at hg
   lia
def Zr (m q:Nat) (S:Bo) (v:Nat):Prop:=∀ i,i<m->S.ins i=v->S.T i q=0
def Bas (m:Nat) (S:Bo) (v:Nat):Prop:=∃ i,i<m/\S.ins i=v
theorem Bas.piv (W:Wf m q V S) {r c v:Nat} (hr:r<m) (hc:c<q) (h1:v≠S.ins r) (h2:v≠S.outs c):Bas m (Lp.piv S r c) v ↔ Bas m S v:=by
 constructor
 ·rintro ⟨i,hi,e⟩
  replace e:Z9 S.ins r (S.outs c) i=v:=e
  by_cases z:i=r
  ·rw [z,w8] at e; exact absurd e.symm h2
  ·rw [x6 z] at e; exact ⟨i,hi,e⟩
 ·rintro ⟨i,hi,e⟩
  have z:i≠r:=λ z=>h1 (by rw [<- e,z]);exact ⟨i,hi,(x6 z).trans e⟩
theorem Zr.piv (W:Wf m q V S) {r c:Nat} (C:Choice m q S r c) (h0:S.T r q=0) (v:Nat):Zr m q (Lp.piv S r c) v ↔ Zr m q S v:=by
 have key:∀ i,i<m->i≠r->((Lp.piv S r c).T i q=0 ↔ S.T i q=0):=λ i hi hn=>by
  have e:=W.mulT C.hr C.hc (show i<m+1 by lia) (show q<q+1 by lia) hn (show q≠c by have:=C.hc; lia);rw [h0,bA,Int.sub_zero] at e;constructor
  ·intro z
   rw [z,bA] at e;exact (gN.mp e.symm).resolve_right (by have:=C.pos; lia)
  ·intro z
   rw [z,eO] at e;exact (gN.mp e).resolve_left (by have:=W.pos; lia)
 have kr:(Lp.piv S r c).T r q=0:=by
  show (if r=r then (if q=c then S.d else S.T r q) else _)=0
  rw [if_pos rfl,if_neg (by have:=C.hc; lia)]; exact h0
 constructor
 ·intro h i hi e
  by_cases z:i=r
  ·rw [z]; exact h0
  ·exact (key i hi z).mp (h i hi ((x6 z).trans e))
 ·intro h i hi e
  by_cases z:i=r
  ·rw [z]; exact kr
  ·exact (key i hi z).mpr (h i hi ((x6 z).symm.trans e))
end
structure Seq (m q:Nat) (V:Nat->B1) (S:Nat->Bo) (R C:Nat->Nat):Prop where
 w:Wf m q V (S 0)
 ch:∀ k,Choice m q (S k) (R k) (C k)
 st:∀ k,S (k+1)=piv (S k) (R k) (C k)
section
variable {m q:Nat} {V:Nat->B1} {S:Nat->Bo} {R C:Nat->Nat}
theorem Seq.wf (Q:Seq m q V S R C):∀ k,Wf m q V (S k)
 | 0=>Q.w
 | k+1=>by rw [Q.st k]; exact (Q.wf k).pivot (Q.ch k).hr (Q.ch k).hc (Q.ch k).pos (Q.ch k).ratio
theorem Seq.ker (Q:Seq m q V S R C) (z:Nat->Int) (a:Nat):∀ n,Ker m q V (S (a+n)) z ↔ Ker m q V (S a) z
 | 0=>gO
 | n+1=>by
  show Ker m q V (S (a+n+1)) z ↔ _
  rw [Q.st,Ker.piv (Q.ch _).hr (Q.ch _).hc];exact Q.ker z a n
def Dg (q:Nat) (S:Nat->Bo) (R:Nat->Nat) (k:Nat):Prop:=(S k).T (R k) q=0
theorem Seq.zr (Q:Seq m q V S R C) (v a:Nat):∀ n,(∀ k,a<=k->k<a+n->Dg q S R k)->(Zr m q (S (a+n)) v ↔ Zr m q (S a) v)
 | 0,_=>gO
 | n+1,h=>by
  show Zr m q (S (a+n+1)) v ↔ _
  rw [Q.st,Zr.piv (Q.wf _) (Q.ch _) (h (a+n) (by lia) (by lia))];exact Q.zr v a n λ k h1 h2=>h k h1 (by lia)
def a2L (S:Nat->Bo) (R C:Nat->Nat) (k v:Nat):Prop:=v=(S k).ins (R k)\/v=(S k).outs (C k)
theorem Seq.bas (Q:Seq m q V S R C) (v a:Nat):∀ n,(∀ k,a<=k->k<a+n->¬ a2L S R C k v)->(Bas m (S (a+n)) v ↔ Bas m (S a) v)
 | 0,_=>gO
 | n+1,h=>by
  have hp:=h (a+n) (by lia) (by lia)
  show Bas m (S (a+n+1)) v ↔ _
  rw [Q.st,Bas.piv (Q.wf _) (Q.ch _).hr (Q.ch _).hc (λ z=>hp (.inl z)) λ z=>hp (.inr z)];exact Q.bas v a n λ k h1 h2=>h k h1 (by lia)
theorem Seq.once (Q:Seq m q V S R C) {a b t:Nat} (hd:∀ k,a<=k->k<b->Dg q S R k) (ht:∀ k,a<=k->k<b->∀ v,a2L S R C k v->v<=t):∀ (g k0 k1:Nat),k1=k0+1+g->a<=k0->k1<b->a2L S R C k0 t->a2L S R C k1 t->False:=by
 intro g
 induction g using jH with
 | _ g ih =>
  intro k0 k1 hk ha hb p0 p1
  by_cases hm:∃ k,k0<k/\k<k1/\a2L S R C k t
  ·obtain ⟨k,h1,h2,h3⟩:=hm
   exact ih (k - k0 - 1) (by lia) k0 k (by lia) ha (by lia) p0 h3
  have W0:=Q.wf k0;have W1:=Q.wf k1;have C0:=Q.ch k0;have C1:=Q.ch k1;have bmid:Bas m (S k1) t ↔ Bas m (S (k0+1)) t:=by
   have:=Q.bas t (k0+1) g λ k h1 h2=>λ z=>hm ⟨k,by lia,by lia,z⟩;rw [show k0+1+g=k1 by lia] at this;exact this
  have stat:∀ v,t<v->(Bas m (S k1) v ↔ Bas m (S k0) v):=λ v hv=>by
   have:=Q.bas v k0 (g+1) λ k h1 h2=>λ z=>by have:=ht k (by lia) (by lia) v z; lia
   rw [show k0+(g+1)=k1 by lia] at this;exact this
  have ker:∀ z,Ker m q V (S k1) z ↔ Ker m q V (S k0) z:=λ z=>by
   have:=Q.ker z k0 (g+1);rw [show k0+(g+1)=k1 by lia] at this;exact this
  have zrr:∀ v,Zr m q (S k1) v ↔ Zr m q (S k0) v:=λ v=>by
   have:=Q.zr v k0 (g+1) λ k h1 h2=>hd k (by lia) (by lia);rw [show k0+(g+1)=k1 by lia] at this;exact this
  rcases p0 with e0 | e0
  ·-- it goes out at k0,so it comes in at k1
   have nb:¬ Bas m (S (k0+1)) t:=by
    rintro ⟨i,hi,e⟩;rw [Q.st k0] at e
    replace e:Z9 (S k0).ins (R k0) ((S k0).outs (C k0)) i=t:=e
    by_cases z:i=R k0
    ·rw [z,w8,e0] at e
     exact W0.io _ _ C0.hr C0.hc e.symm
    ·rw [x6 z,e0] at e
     exact z (W0.ii i (R k0) hi C0.hr e)
   rcases p1 with e1 | e1
   ·exact nb (bmid.mp ⟨_,C1.hr,e1.symm⟩)
   ·have hst:(S k0).outs (C k0)<(S k0).ins (R k0):=by
     have h1:=ht k0 ha (by lia) _ (.inr rfl);rw [e0] at h1;have:=W0.io (R k0) (C k0) C0.hr C0.hc;lia
    refine b2P W0 W1 (λ z h=>(ker z).mpr h) C0 C1 (by rw [<- e0,<- e1]) hst (λ v hv hb'=>(stat v (by rw [e0]; exact hv)).mpr hb') λ k j hk1 hj e=>?_;refine ((zrr ((S k0).ins k)).mp λ i hi e2=>?_) k hk1 rfl;rw [e] at e2;exact absurd e2 (W1.io i j hi hj)
  ·-- it comes in at k0,so it goes out at k1
   have ba:Bas m (S (k0+1)) t:=⟨R k0,C0.hr,by rw [Q.st k0]; show Z9 (S k0).ins (R k0) ((S k0).outs (C k0)) (R k0)=t; rw [w8]; exact e0.symm⟩;rcases p1 with e1 | e1
   ·have hst:(S k1).outs (C k1)<(S k1).ins (R k1):=by
     have h1:=ht k1 (by lia) hb _ (.inr rfl);rw [e1] at h1;have:=W1.io (R k1) (C k1) C1.hr C1.hc;lia
    refine b2P W1 W0 (λ z h=>(ker z).mp h) C1 C0 (by rw [<- e0,<- e1]) hst (λ v hv hb'=>(stat v (by rw [e1]; exact hv)).mp hb') λ k j hk1 hj e=>?_;refine ((zrr ((S k1).ins k)).mpr λ i hi e2=>?_) k hk1 rfl;rw [e] at e2;exact absurd e2 (W0.io i j hi hj)
   ·obtain ⟨i,hi,e⟩:=bmid.mpr ba
    rw [e1] at e;exact W1.io i (C k1) hi C1.hc e
theorem Seq.short (Q:Seq m q V S R C):∀ (t a b:Nat),a<=b->(∀ k,a<=k->k<b->Dg q S R k)->(∀ k,a<=k->k<b->∀ v,a2L S R C k v->v<t)->b+1<=a+2 ^ t
 | 0,a,b,hab,hd,hp=>by
  by_cases c:a<b
  ·have:=hp a (aF _) c _ (.inl rfl)
   lia
  ·rw [Nat.pow_zero]; lia
 | t+1,a,b,hab,hd,hp=>by
  rw [Nat.pow_succ]
  by_cases h:∃ k,a<=k/\k<b/\a2L S R C k t
  ·obtain ⟨k,h1,h2,h3⟩:=h
   have once:=Q.once hd (t:=t) λ k h1 h2 v hv=>by have:=hp k h1 h2 v hv; lia
   have i1:=Q.short t a k h1 (λ j j1 j2=>hd j j1 (by lia)) λ j j1 j2 v hv=>by
    have:=hp j j1 (by lia) v hv
    by_cases z:v=t
    ·subst z
     exact (once (k - j - 1) j k (by lia) j1 h2 hv h3).elim
    ·lia
   have i2:=Q.short t (k+1) b (by lia) (λ j j1 j2=>hd j (by lia) j2) λ j j1 j2 v hv=>by
    have:=hp j (by lia) j2 v hv
    by_cases z:v=t
    ·subst z
     exact (once (j - k - 1) k j (by lia) h1 j2 h3 hv).elim
    ·lia
   lia
  ·have:=Q.short t a b hab hd λ j j1 j2 v hv=>by
    have h4:=hp j j1 j2 v hv
    by_cases z:v=t
    ·subst z; exact absurd ⟨j,j1,j2,hv⟩ h
    ·lia
   have:0<2 ^ t:=Nat.two_pow_pos t;lia
end
section
variable {m q:Nat} {V:Nat->B1} {S:Bo}
theorem Wf.bndB {M:Nat} (hM:∀ v,Fits M (m+1) (V v)):∀ c∈Bs m V S.ins,Fits M (m+1) c:=λ c hc=>by
 obtain ⟨i,_,rfl⟩:=aZ.mp hc;exact hM _
theorem Wf.bndd (W:Wf m q V S) {M:Nat} (hM:∀ v,Fits M (m+1) (V v)):S.d.natAbs<=bnd M (m+1):=by
 rw [W.hd];exact a4p (m+1) _ (a1A m V S.ins) (Wf.bndB hM)
theorem Wf.bndT (W:Wf m q V S) {M:Nat} (hM:∀ v,Fits M (m+1) (V v)) {i j:Nat} (hi:i<m+1) (hj:j<q+1):(S.T i j).natAbs<=bnd M (m+1):=by
 rw [W.hT i j hi hj];refine a4p (m+1) _ (by rw [cC]; exact a1A m V S.ins) λ c hc=>?_;rcases List.mem_or_eq_of_mem_set hc with h | h
 ·exact Wf.bndB hM c h
 ·rw [h]; exact hM _
def phi (m q:Nat) (M:Int) (S:Bo):Int:=M*M*S.T m q / S.d
theorem Wf.gain (W:Wf m q V S) {r c:Nat} (C:Choice m q S r c) {M:Int} (h1:S.d<=M) (h2:S.T r c<=M):phi m q M S+(if S.T r q=0 then 0 else 1)<=phi m q M (piv S r c):=by
 have hcq:c<q:=C.hc;have hrm:r<m:=C.hr;have e:=W.mulT hrm hcq (show m<m+1 by lia) (show q<q+1 by lia) (show m≠r by lia) (show q≠c by lia);have hp:=C.pos;have hd:=W.pos;have hn:=C.neg;have hf:=W.feas r hrm;unfold phi
 show _<=M*M*(piv S r c).T m q / S.T r c
 generalize (piv S r c).T m q=N' at *;generalize S.T m q=N at *;generalize S.T r c=p at *;generalize S.d=d at *;generalize S.T m c=g at *;generalize S.T r q=b at *;rw [Int.le_ediv_iff_mul_le hp];have hfl:M*M*N / d*d<=M*M*N:=Int.ediv_mul_le _ (by lia);generalize M*M*N / d=f at *;have hM:0<M:=by lia
 have hMM:d*p<=M*M:=Int.mul_le_mul h1 h2 (aX hp) (aX hM);have key:(f+(if b=0 then 0 else 1))*p*d<=M*M*N'*d:=by
  have a1:M*M*N'*d=M*M*N*p+M*M*(-(g*b)):=by
   have:N'*d=N*p - g*b:=by rw [aV N' d]; exact e
   rw [aY (M*M),this,fB,aY (M*M),cW];lia
  have a2:f*d*p<=M*M*N*p:=dO hfl (aX hp);have a3:f*p*d=f*d*p:=by rw [aY,aV p d,<- aY]
  by_cases c0:b=0
  ·rw [if_pos c0,dP,a1,a3,c0]
   simp only [bA,Int.neg_zero,dP];exact a2
  ·rw [if_neg c0]
   have a4:1 <= -(g*b):=by
    have:=eA (show 0 < -g by lia) (show 0<b by lia);rw [eD] at this;lia
   have a5:M*M*1<=M*M*(-(g*b)):=fC a4 (cO (aX hM) (aX hM));rw [cX,cX,gM,a3,a1];rw [aV d p] at hMM;lia
 exact iJ key hd
theorem Wf.phi_le (W:Wf m q V S) {M:Int} (h1:S.T m q<=M) (h0:0<M):phi m q M S<=M*M*M:=by
 unfold phi;refine Int.ediv_le_of_le_mul W.pos ?_;have a1:M*M*S.T m q<=M*M*M:=fC h1 (cO (aX h0) (aX h0));have a2:M*M*M*1<=M*M*M*S.d:=fC (by have:=W.pos; lia) (cO (cO (aX h0) (aX h0)) (aX h0));lia
end
section
variable {m q:Nat} {V:Nat->B1} {S:Nat->Bo} {R C:Nat->Nat}
theorem Seq.part_lt (Q:Seq m q V S R C) (k v:Nat) (h:a2L S R C k v):v<q+m:=by
 rcases h with h | h
 ·rw [h]; exact (Q.wf k).ib _ (Q.ch k).hr
 ·rw [h]; exact (Q.wf k).ob _ (Q.ch k).hc
theorem Seq.never (Q:Seq m q V S R C) {M:Nat} (hM:∀ v,Fits M (m+1) (V v)):False:=by
 obtain ⟨B,hB⟩:∃ B:Int,B=(bnd M (m+1):Int):=⟨_,rfl⟩;have bT:∀ k i j,i<m+1->j<q+1->(S k).T i j<=B:=λ k i j hi hj=>by
  have:=(Q.wf k).bndT hM hi hj;lia
 have bd:∀ k,(S k).d<=B:=λ k=>by
  have:=(Q.wf k).bndd hM;lia
 have B0:0<B:=by have:=bd 0; have:=(Q.wf 0).pos; lia
 have up:∀ k,phi m q B (S k)+(if (S k).T (R k) q=0 then 0 else 1)<=phi m q B (S (k+1)):=λ k=>by
  rw [Q.st k];exact (Q.wf k).gain (Q.ch k) (bd k) (bT k _ _ (by have:=(Q.ch k).hr; lia) (by have:=(Q.ch k).hc; lia))
 have mono:∀ n k,phi m q B (S k)<=phi m q B (S (k+n)):=λ n=>by
  induction n with
  | zero=>intro k; exact cD _
  | succ n ih =>
   intro k;have h1:=ih k;have h2:=up (k+n);have h3:phi m q B (S (k+n))<=phi m q B (S (k+n+1)):=by
    split at h2 <;> lia
   exact Int.le_trans h1 h3
 have top:∀ k,phi m q B (S k)<=B*B*B:=λ k=>(Q.wf k).phi_le (bT k m q (by lia) (by lia)) B0;have gap:∀ (g:Nat) (k:Nat),B*B*B - phi m q B (S k)<=(g:Int)->False:=by
  intro g
  induction g with
  | zero =>
   intro k hk;have:∃ j,k<=j/\j<k+2 ^ (q+m)/\¬ Dg q S R j:=by
    refine fD λ hn=>?_;have:=Q.short (q+m) k (k+2 ^ (q+m)) (eZ _ _) (λ j h1 h2=>fD λ z=>hn ⟨j,h1,h2,z⟩) λ j _ _ v hv=>Q.part_lt j v hv;lia
   obtain ⟨j,h1,h2,h3⟩:=this;have u:=up j;rw [if_neg (show ¬ (S j).T (R j) q=0 from h3)] at u;have m1:=mono (j - k) k;rw [show k+(j - k)=j by lia] at m1;have:=top (j+1);lia
  | succ g ih =>
   intro k hk;have:∃ j,k<=j/\j<k+2 ^ (q+m)/\¬ Dg q S R j:=by
    refine fD λ hn=>?_;have:=Q.short (q+m) k (k+2 ^ (q+m)) (eZ _ _) (λ j h1 h2=>fD λ z=>hn ⟨j,h1,h2,z⟩) λ j _ _ v hv=>Q.part_lt j v hv;lia
   obtain ⟨j,h1,h2,h3⟩:=this;have u:=up j;rw [if_neg (show ¬ (S j).T (R j) q=0 from h3)] at u;have m1:=mono (j - k) k;rw [show k+(j - k)=j by lia] at m1;exact ih (j+1) (by lia)
 exact gap (B*B*B - phi m q B (S 0)).toNat 0 (by lia)
end
inductive Ends (m q:Nat):Bo->Nat->Prop
 | stop {S:Bo}:(¬ ∃ r c,Choice m q S r c)->Ends m q S 0
 | go {S:Bo} {r c k:Nat}:Choice m q S r c->Ends m q (piv S r c) k->Ends m q S (k+1)
theorem Choice.uniq {m q:Nat} {V:Nat->B1} {S:Bo} (W:Wf m q V S) {r c r' c':Nat} (h:Choice m q S r c) (h':Choice m q S r' c'):r=r'/\c=c':=by
 have ec:c=c':=W.oo c c' h.hc h'.hc (jY (h.minc c' h'.hc h'.neg) (h'.minc c h.hc h.neg));subst ec;have e1:=h.ratio r' h'.hr h'.pos;have e2:=h'.ratio r h.hr h.pos;have e:S.T r q*S.T r' c=S.T r' q*S.T r c:=by lia
 exact ⟨W.ii r r' h.hr h'.hr (jY (h.tie r' h'.hr h'.pos e) (h'.tie r h.hr h.pos e.symm)),rfl⟩
theorem Ends.next {m q:Nat} {V:Nat->B1} {S:Bo} (W:Wf m q V S) {k r c:Nat} (h:Ends m q S k) (C:Choice m q S r c):∃ j,j<k/\Ends m q (piv S r c) j:=by
 cases h with
 | stop hn=>exact absurd ⟨r,c,C⟩ hn
 | go C' h' =>
  obtain ⟨rfl,rfl⟩:=C.uniq W C';exact ⟨_,eL _,h'⟩
theorem Wf.ends {m q:Nat} {V:Nat->B1} {M:Nat} (hM:∀ v,Fits M (m+1) (V v)) {S:Bo} (W:Wf m q V S):∃ k,Ends m q S k:=by
 refine fD λ hn=>?_;have ch:∀ S',Wf m q V S'->(¬ ∃ k,Ends m q S' k)->∃ p:Nat×Nat,Choice m q S' p.1 p.2:=λ S' _ h'=>by
  refine fD λ z=>h' ⟨0,.stop λ ⟨r,c,C⟩=>z ⟨(r,c),C⟩⟩
 let St:={ S':Bo // Wf m q V S'/\¬ ∃ k,Ends m q S' k }
 let pk:(X:St)->Nat×Nat:=λ X=>(ch X.1 X.2.1 X.2.2).choose
 have pc:∀ X:St,Choice m q X.1 (pk X).1 (pk X).2:=λ X=>(ch X.1 X.2.1 X.2.2).choose_spec
 let nx:St->St:=λ X=>⟨piv X.1 (pk X).1 (pk X).2,X.2.1.pivot (pc X).hr (pc X).hc (pc X).pos (pc X).ratio,λ ⟨k,e⟩=>X.2.2 ⟨k+1,.go (pc X) e⟩⟩
 let sq:Nat->St:=λ k=>Nat.rec ⟨S,W,hn⟩ (λ _ X=>nx X) k
 exact Seq.never (S:=λ k=>(sq k).1) (R:=λ k=>(pk (sq k)).1) (C:=λ k=>(pk (sq k)).2) ⟨W,λ k=>pc (sq k),λ k=>rfl⟩ hM
def Vv (m q:Nat) (A:Nat->Nat->Int) (b c:Nat->Int):Nat->B1:=λ v x =>
 if v<q then (if x<m then A x v else if x=m then - c v else 0) else if v<q+m+1 then (if x=v - q then 1 else 0) else (if x<m then b x else 0)
def S0 (m q:Nat) (A:Nat->Nat->Int) (b c:Nat->Int):Bo where
 d:=1
 T:=λ i j=>if j<q then (if i<m then A i j else - c j) else (if i<m then b i else 0)
 ins:=λ i=>q+i
 outs:=λ j=>if j<q then j else q+m+1
section
variable {m q:Nat} {A:Nat->Nat->Int} {b c:Nat->Int}
theorem b3B {v x:Nat} (h:v<q):Vv m q A b c v x=if x<m then A x v else if x=m then - c v else 0:=by unfold Vv; rw [if_pos h]
theorem b5g {i:Nat} (h:i<m+1):Vv m q A b c (q+i)=R4 i:=by
 funext x
 unfold Vv R4;rw [if_neg (by lia),if_pos (by lia),show q+i - q=i by lia]
theorem b5w {x:Nat}:Vv m q A b c (q+m+1) x=if x<m then b x else 0:=by unfold Vv; rw [if_neg (by lia),if_neg (by lia)]
theorem b3b {v x:Nat} (h:m<x):Vv m q A b c v x=0:=by
 unfold Vv
 by_cases h1:v<q
 ·rw [if_pos h1,if_neg (by lia),if_neg (by lia)]
 ·rw [if_neg h1]
  by_cases h2:v<q+m+1
  ·rw [if_pos h2,if_neg (by lia)]
  ·rw [if_neg h2,if_neg (by lia)]
theorem Bs0:Bs m (Vv m q A b c) (S0 m q A b c).ins=(aH (m+1)).map R4:=by
 unfold Bs;exact cU λ i hi=>b5g (cV.mp hi)
theorem a5l {n k:Nat} (h:k<n):((aH n).map R4).getD k zv=R4 k:=by rw [aM,aE,bF h]; rfl
theorem a3y {n:Nat} {u:B1} (hu:∀ x,n<=x->u x=0) (x:Nat):sumTo (λ k=>u k*R4 k x) n=u x:=by
 by_cases h:x<n
 ·rw [sum_one h λ k _ hn=>by show u k*(if x=k then 1 else 0)=0; rw [if_neg (aS hn),bA]]
  show u x*(if x=x then 1 else 0)=u x
  rw [if_pos rfl,eW]
 ·rw [hu x (by lia)]
  refine sum_zero λ k hk=>?_
  show u k*(if x=k then 1 else 0)=0
  rw [if_neg (by lia),bA]
theorem a0O {n i:Nat} (hi:i<n) {u:B1} (hu:∀ x,n<=x->u x=0):A4 n (((aH n).map R4).set i u)=u i:=by
 have hl:((aH n).map R4).length=n:=by rw [aA,fO]
 have h:=a1X hl hi u R4 n;have e:(λ x:Nat=>sumTo (λ k=>u k*R4 k x) n)=u:=by funext x; exact a3y hu x
 rw [e,sum_one hi λ k hk hn=>?_] at h
 ·rw [h,<- a5l hi,P1 (by lia),a0L,eW]
 ·have:A4 n (((aH n).map R4).set i (R4 k))=0:=by
   refine X0 (i:=k) (k:=i) (u:=R4 k) (by rw [cC]; exact hl) hn ?_ ?_
   ·rw [bM (aS hn),aE,bF hk]; rfl
   ·rw [bZ (by lia)]
  rw [this,bA]
theorem wf0 (hb:∀ i,i<m->0<=b i):Wf m q (Vv m q A b c) (S0 m q A b c):=by
 have far:∀ v x,m+1<=x->Vv m q A b c v x=0:=λ v x h=>b3b (by lia);refine ⟨?_,λ i j hi hj=>?_,λ j hj x=>?_,Int.one_pos,λ i hi=>?_,rfl,?_,λ i hi=>?_,λ j hj=>?_,λ i k hi hk e=>?_,λ j k hj hk e=>?_,λ i j hi hj e=>?_,λ v hv=>?_⟩
 ·rw [Bs0,a0L]; rfl
 ·rw [Bs0,a0O hi (far _)]
  show (if j<q then (if i<m then A i j else - c j) else (if i<m then b i else 0))=Vv m q A b c (if j<q then j else q+m+1) i
  by_cases h:j<q
  ·rw [if_pos h,if_pos h,b3B h]
   by_cases h2:i<m
   ·rw [if_pos h2,if_pos h2]
   ·rw [if_neg h2,if_neg h2,if_pos (by lia)]
  ·rw [if_neg h,if_neg h,b5w]
 ·rw [Bs0,a0L,gM]
  have e:sumTo (λ k=>A4 (m+1) (((aH (m+1)).map R4).set k (Vv m q A b c ((S0 m q A b c).outs j)))*(((aH (m+1)).map R4).getD k zv) x) (m+1)=sumTo (λ k=>Vv m q A b c ((S0 m q A b c).outs j) k*R4 k x) (m+1) :=
   sum_congr λ k hk=>by rw [a0O hk (far _),a5l hk]
  rw [e,a3y (far _)]
 ·show 0<=(if q<q then _ else (if i<m then b i else 0))
  rw [if_neg (bL _),if_pos hi]; exact hb i hi
 ·show (if q<q then q else q+m+1)=q+m+1
  rw [if_neg (bL _)]
 ·show q+i<q+m; lia
 ·show (if j<q then j else q+m+1)<q+m
  rw [if_pos hj]; lia
 ·replace e:q+i=q+k:=e
  lia
 ·replace e:(if j<q then j else q+m+1)=(if k<q then k else q+m+1):=e
  rw [if_pos hj,if_pos hk] at e;exact e
 ·replace e:q+i=(if j<q then j else q+m+1):=e
  rw [if_pos hj] at e;lia
 ·by_cases h:v<q
  ·exact .inr ⟨v,h,if_pos h⟩
  ·exact .inl ⟨v - q,by lia,by show q+(v - q)=v; lia⟩
theorem ker0 {z:Nat->Int}:Ker m q (Vv m q A b c) (S0 m q A b c) z ↔ (∀ i,i<m->z (q+i)+sumTo (λ j=>A i j*z j) q+b i*z (q+m+1)=0)/\z (q+m)=sumTo (λ j=>c j*z j) q:=by
  have e:∀ x,sumTo (λ k=>z ((S0 m q A b c).ins k)*Vv m q A b c ((S0 m q A b c).ins k) x) (m+1)+sumTo (λ j=>z ((S0 m q A b c).outs j)*Vv m q A b c ((S0 m q A b c).outs j) x) (q+1)
     =(if x<m+1 then z (q+x) else 0)+(sumTo (λ j=>z j*Vv m q A b c j x) q+z (q+m+1)*(if x<m then b x else 0)):=λ x=>by
    have e1:sumTo (λ k=>z ((S0 m q A b c).ins k)*Vv m q A b c ((S0 m q A b c).ins k) x) (m+1)=if x<m+1 then z (q+x) else 0:=by
      have:sumTo (λ k=>z ((S0 m q A b c).ins k)*Vv m q A b c ((S0 m q A b c).ins k) x) (m+1)=sumTo (λ k=>z (q+k)*R4 k x) (m+1):=sum_congr λ k hk=>by
        show z (q+k)*Vv m q A b c (q+k) x=_
        rw [b5g hk]
      rw [this]
      by_cases h:x<m+1
      . rw [if_pos h,sum_one h λ k _ hn=>by show z (q+k)*(if x=k then 1 else 0)=0; rw [if_neg (aS hn),bA]]
        show z (q+x)*(if x=x then 1 else 0)=_
        rw [if_pos rfl,eW]
      . rw [if_neg h]
        refine sum_zero λ k hk=>?_
        show z (q+k)*(if x=k then 1 else 0)=0
        rw [if_neg (by lia),bA]
    have e2:sumTo (λ j=>z ((S0 m q A b c).outs j)*Vv m q A b c ((S0 m q A b c).outs j) x) (q+1)=sumTo (λ j=>z j*Vv m q A b c j x) q+z (q+m+1)*(if x<m then b x else 0):=by
      show sumTo (λ j=>z (if j<q then j else q+m+1)*Vv m q A b c (if j<q then j else q+m+1) x) q+z (if q<q then q else q+m+1)*Vv m q A b c (if q<q then q else q+m+1) x=_
      rw [if_neg (bL _),b5w];have:sumTo (λ j=>z (if j<q then j else q+m+1)*Vv m q A b c (if j<q then j else q+m+1) x) q=sumTo (λ j=>z j*Vv m q A b c j x) q:=sum_congr λ j hj=>by rw [if_pos hj]
      rw [this]
    rw [e1,e2]
  have am:∀ i,i<m->sumTo (λ j=>z j*Vv m q A b c j i) q=sumTo (λ j=>A i j*z j) q:=λ i hi=>sum_congr λ j hj=>by rw [b3B hj,if_pos hi,aV]
  have ob:sumTo (λ j=>z j*Vv m q A b c j m) q = - sumTo (λ j=>c j*z j) q:=by
    rw [show - sumTo (λ j=>c j*z j) q=(-1)*sumTo (λ j=>c j*z j) q by lia,<- A8];refine sum_congr λ j hj=>?_;rw [b3B hj,if_neg (bL _),if_pos rfl,cW,aV];lia
  constructor
  . intro h
    refine ⟨λ i hi=>?_,?_⟩
    . have:=h i
      rw [e i,if_pos (by lia),if_pos hi,am i hi,aV (z (q+m+1))] at this;lia
    . have:=h m
      rw [e m,if_pos (by lia),if_neg (bL _),ob,bA] at this;lia
  . rintro ⟨h1,h2⟩ x
    rw [e x]
    by_cases c1:x<m
    . have:=h1 x c1
      rw [if_pos (by lia),if_pos c1,am x c1,aV (z (q+m+1))];lia
    . by_cases c2:x=m
      . subst c2
        rw [if_pos (by lia),if_neg (bL _),ob,bA];lia
      . rw [if_neg (by lia),if_neg c1,bA,sum_zero λ j hj=>by rw [b3b (by lia),bA]]
        rfl
end
def valIn (m:Nat) (S:Bo) (q v:Nat):Int:=sumTo (λ i=>if S.ins i=v then S.T i q else 0) m
def valOut (m q:Nat) (S:Bo) (v:Nat):Int:=sumTo (λ j=>if S.outs j=v then S.T m j else 0) q
theorem a5B {g:Nat->Int}:∀ {n:Nat},(∀ k,k<n->0<=g k)->0<=sumTo g n
 | 0,_=>cD 0
 | n+1,h=>by
  have h1:=a5B (g:=g) (n:=n) λ k hk=>h k (by lia);have h2:=h n (by lia)
  show 0<=sumTo g n+g n
  lia
section
variable {m q:Nat} {A:Nat->Nat->Int} {b c:Nat->Int} {S:Bo}
structure Of (m q:Nat) (A:Nat->Nat->Int) (b c:Nat->Int) (S:Bo):Prop where
 w:Wf m q (Vv m q A b c) S
 k:∀ z,Ker m q (Vv m q A b c) S z ↔ Ker m q (Vv m q A b c) (S0 m q A b c) z
theorem of0 (hb:∀ i,i<m->0<=b i):Of m q A b c (S0 m q A b c):=⟨wf0 hb,λ _=>gO⟩
theorem Of.piv (O:Of m q A b c S) {r cc:Nat} (C:Choice m q S r cc):Of m q A b c (Lp.piv S r cc) :=
 ⟨O.w.pivot C.hr C.hc C.pos C.ratio,λ z=>(Ker.piv C.hr C.hc).trans (O.k z)⟩
theorem Of.valIn_nn (O:Of m q A b c S) (v:Nat):0<=valIn m S q v:=a5B λ i hi=>by
 split
 ·exact O.w.feas i hi
 ·exact cD 0
theorem Of.ray_val (O:Of m q A b c S) {v:Nat} (hv:v<q+m):ray m S q v = - valIn m S q v:=by
 unfold ray;rw [if_neg (by rw [O.w.oq]; lia)]
 show sumTo _ m+(if S.ins m=v then - S.T m q else 0)=_
 rw [if_neg (by rw [O.w.im]; lia),dP];unfold valIn;rw [show - sumTo (λ i=>if S.ins i=v then S.T i q else 0) m=(-1)*sumTo (λ i=>if S.ins i=v then S.T i q else 0) m by lia,<- A8];refine sum_congr λ i _=>?_
 split <;> lia
theorem Of.primal (O:Of m q A b c S):(∀ i,i<m->sumTo (λ j=>A i j*valIn m S q j) q+valIn m S q (q+i)=b i*S.d)/\sumTo (λ j=>c j*valIn m S q j) q=S.T m q:=by
 have K:=(ker0.mp ((O.k _).mp (O.w.ray_ker (show q<q+1 by lia))));have co:ray m S q (q+m+1)=S.d:=by rw [<- O.w.oq]; exact Wf.ray_c
 have oo:ray m S q (q+m) = - S.T m q:=by rw [<- O.w.im]; exact O.w.ray_in (by lia) (by lia)
 have am:∀ g:Nat->Int,sumTo (λ j=>g j*ray m S q j) q = - sumTo (λ j=>g j*valIn m S q j) q:=λ g=>by
  rw [show - sumTo (λ j=>g j*valIn m S q j) q=(-1)*sumTo (λ j=>g j*valIn m S q j) q by lia,<- A8];refine sum_congr λ j hj=>?_;rw [O.ray_val (by lia),cW];lia
 refine ⟨λ i hi=>?_,?_⟩
 ·have:=K.1 i hi
  rw [O.ray_val (by lia),am,co] at this;lia
 ·have:=K.2
  rw [oo,am] at this;lia
theorem Of.valOut_nn (h:∀ j,j<q->0<=S.T m j) (v:Nat):0<=valOut m q S v:=a5B λ j hj=>by
 split
 ·exact h j hj
 ·exact cD 0
theorem b0o (O:Of m q A b c S) (z:Nat->Int):sumTo (λ j=>S.T m j*z (S.outs j)) q=sumTo (λ v=>valOut m q S v*z v) (q+m):=by
 have e:∀ v,v<q+m->valOut m q S v*z v=sumTo (λ j=>(if S.outs j=v then S.T m j else 0)*z v) q:=λ v _=>by
  unfold valOut;rw [aV,<- A8];exact sum_congr λ j _=>aV _ _
 rw [sum_congr e,a0V];refine sum_congr λ j hj=>?_;rw [sum_one (O.w.ob j hj) λ v _ hn=>by rw [if_neg (aS hn),eO],if_pos rfl]
theorem Of.row_goal (O:Of m q A b c S) {z:Nat->Int} (h:Ker m q (Vv m q A b c) (S0 m q A b c) z):S.d*z (q+m)+sumTo (λ v=>valOut m q S v*z v) (q+m)+S.T m q*z (q+m+1)=0:=by
 have R:=O.w.row_of ((O.k z).mpr h) (show m<m+1 by lia);unfold a2V at R
 replace R:S.d*z (S.ins m)+(sumTo (λ j=>S.T m j*z (S.outs j)) q+S.T m q*z (S.outs q))=0:=R
 rw [O.w.im,O.w.oq,b0o O] at R;lia
theorem a1l {g:Nat->Int} (n:Nat):∀ k:Nat,sumTo g (n+k)=sumTo g n+sumTo (λ i=>g (n+i)) k
 | 0=>(dP _).symm
 | k+1=>by
  show sumTo g (n+k)+g (n+k)=sumTo g n+(sumTo (λ i=>g (n+i)) k+g (n+k))
  rw [a1l n k];lia
theorem Of.dual (O:Of m q A b c S):(∀ j,j<q->sumTo (λ i=>A i j*valOut m q S (q+i)) m=c j*S.d+valOut m q S j)/\sumTo (λ i=>b i*valOut m q S (q+i)) m=S.T m q:=by
 constructor
 ·intro j hj
  have hk:Ker m q (Vv m q A b c) (S0 m q A b c) (λ v=>if v<q then (if v=j then 1 else 0) else if v<q+m then - A (v - q) j else if v=q+m then c j else 0):=by
   refine ker0.mpr ⟨λ i hi=>?_,?_⟩
   ·rw [if_neg (by lia),if_pos (by lia),show q+i - q=i by lia,if_neg (by lia),if_neg (by lia),if_neg (by lia),bA,sum_one hj λ k hk hn=>by rw [if_pos hk,if_neg hn,bA],if_pos hj,if_pos rfl]
    lia
   ·rw [if_neg (by lia),if_neg (by lia),if_pos rfl,sum_one hj λ k hk hn=>by rw [if_pos hk,if_neg hn,bA],if_pos hj,if_pos rfl]
    lia
  have R:=O.row_goal hk;rw [if_neg (by lia),if_neg (by lia),if_pos rfl,if_neg (by lia),if_neg (by lia),if_neg (by lia),bA,a1l,sum_one hj λ k hk hn=>by rw [if_pos hk,if_neg hn,bA],if_pos hj,if_pos rfl] at R;have e:sumTo (λ i=>valOut m q S (q+i)*(if q+i<q then (if q+i=j then 1 else 0) else if q+i<q+m then - A (q+i - q) j else if q+i=q+m then c j else 0)) m = - sumTo (λ i=>A i j*valOut m q S (q+i)) m:=by
   rw [show - sumTo (λ i=>A i j*valOut m q S (q+i)) m=(-1)*sumTo (λ i=>A i j*valOut m q S (q+i)) m by lia,<- A8];refine sum_congr λ i hi=>?_;rw [if_neg (by lia),if_pos (by lia),show q+i - q=i by lia,cW,aV];lia
  rw [e,aV S.d] at R;lia
 ·have hk:Ker m q (Vv m q A b c) (S0 m q A b c) (λ v=>if v<q then 0 else if v<q+m then b (v - q) else if v=q+m then 0 else -1):=by
   refine ker0.mpr ⟨λ i hi=>?_,?_⟩
   ·rw [if_neg (by lia),if_pos (by lia),show q+i - q=i by lia,if_neg (by lia),if_neg (by lia),if_neg (by lia),sum_zero λ k hk=>by rw [if_pos hk,bA]]
    lia
   ·rw [if_neg (by lia),if_neg (by lia),if_pos rfl,sum_zero λ k hk=>by rw [if_pos hk,bA]]
  have R:=O.row_goal hk;rw [if_neg (by lia),if_neg (by lia),if_pos rfl,if_neg (by lia),if_neg (by lia),if_neg (by lia),bA,a1l,sum_zero λ k hk=>by rw [if_pos hk,bA]] at R;have e:sumTo (λ i=>valOut m q S (q+i)*(if q+i<q then 0 else if q+i<q+m then b (q+i - q) else if q+i=q+m then 0 else -1)) m=sumTo (λ i=>b i*valOut m q S (q+i)) m :=
   sum_congr λ i hi=>by rw [if_neg (by lia),if_pos (by lia),show q+i - q=i by lia,aV]
  rw [e] at R;lia
end
end Lp
namespace Rim
open PySem L2
def top (i:Nat):Stmt:=PySem.Challenge.pw_rimhouse_k41_hundreds_of_desk_deeds.main.body.getD i (.Pass ⟨0,0,0,0⟩)
abbrev b4p:Stmt:=top 10
abbrev b4e:Stmt:=top 11
abbrev b3P:Stmt:=top 24
abbrev a6s:Stmt:=top 35
abbrev M2:Stmt:=top 37
abbrev Q0:Stmt:=top 40
abbrev a0g:Stmt:=top 41
abbrev a8K:Stmt:=top 49
abbrev a6c:Stmt:=top 50
abbrev a2Q:Stmt:=top 32
abbrev b0B:Stmt:=top 90
abbrev a5P:Stmt:=top 91
abbrev N5:Stmt:=top 98
abbrev a0r:Stmt:=top 19
abbrev S9:Stmt:=top 20
abbrev a0y:Stmt:=top 21
abbrev O9:Stmt:=top 22
abbrev a1k:Stmt:=top 23
abbrev P8:Stmt:=top 30
abbrev N3:Stmt:=top 31
abbrev P7:Stmt:=top 33
abbrev P6:Stmt:=top 57
abbrev V1:Stmt:=top 58
abbrev Y1:Stmt:=top 59
abbrev N8:Stmt:=top 60
abbrev R8:Stmt:=top 61
abbrev P2:Stmt:=top 62
abbrev U9:Stmt:=top 63
abbrev Y0:Stmt:=top 64
abbrev U7:Stmt:=top 67
abbrev M4:Stmt:=top 68
abbrev V6:Stmt:=top 73
abbrev X7:Stmt:=top 81
abbrev W8:Stmt:=top 82
abbrev V4:Stmt:=top 83
abbrev S3:Stmt:=top 84
abbrev Y9:Stmt:=top 85
abbrev a6e:Stmt:=top 88
abbrev U5:Stmt:=top 92
abbrev O8:Stmt:=top 93
abbrev X3:Stmt:=top 94
abbrev S6:Stmt:=top 95
abbrev G8:Stmt:=top 96
abbrev D5:Stmt:=top 97
abbrev N6:Stmt:=M6 a6e 0
abbrev M5:Stmt:=M6 a6e 1
abbrev M1:Stmt:=M6 a6e 2
abbrev a0u:Stmt:=top 36
abbrev a4V:Stmt:=M6 a0u 0
abbrev a4z:Stmt:=M6 a0u 1
abbrev a6h:Stmt:=M6 a0u 2
abbrev a5C:Stmt:=M6 a0u 3
abbrev O6:Stmt:=M6 a0u 4
abbrev b0V:Stmt:=M6 a0u 5
abbrev b3L:Stmt:=M6 a0u 6
abbrev b3I:Pos:=⟨128,32,128,64⟩
structure v7 (mg:Str->Option Value):Prop where
 len:mg "len"=none
 all:mg "all"=none
 any:mg "any"=none
 max:mg "max"=none
 min:mg "min"=none
 sum:mg "sum"=none
 tuple:mg "tuple"=none
 list:mg "list"=none
 int:mg "int"=none
 bool:mg "bool"=none
 range:mg "range"=none
 isi:mg "isinstance"=none
 abs:mg "abs"=none
 zip:mg "zip"=none
 enum:mg "enumerate"=none
 ve:mg "ValueError"=none
 so:mg "sorted"=none
def b6I (K:W.Frag):List V->Hp->VK->Prop:=λ xs H Q=>∃ p ys,xs=[.ref p]/\(SqL K H p ys\/SqT K H p ys)/\Q (.int (ys.length:Int)) H
theorem b0M (K:W.Frag) {X:Cx} (h:X.K=K):G9 X (.builtin "len") (b6I K):=by subst h; exact i7
theorem a5z (K:W.Frag) {X:Cx} (h:X.K=K):IxR X (b5p K):=by subst h; exact m6
theorem a0x (K:W.Frag) {X:Cx} {es:List Expr} {k:Nat} {t:TGs} {n:Nat} {pos:Pos} (h:X.K=K) (hc:X.calm=true) (hp:PGs X es t) (hn:(assignEach es X.env).length=n:=by rfl) (hst:(assignEach es X.env).findIdx? (·.1)=none:=by rfl):PG X (.Tuple es k pos) (a9W K n t):=by subst h; exact E4 hc hp hn hst
def b5D (K:W.Frag):List V->Hp->VK->Prop:=λ xs H Q=>∃ p ys,xs=[.ref p]/\(SqL K H p ys\/SqT K H p ys)/\∀ l,H l=none->Q (.ref l) (r9 H l (.lst ys))
theorem a6P (K:W.Frag) {X:Cx} (h:X.K=K):G9 X (.type "list") (b5D K):=by subst h; exact J6
def vI:V->Int
 | .int i=>i
 | _=>0
theorem a0o {ns:List Int} {i:Nat} {x:V} (h:(ns.map V.int)[i]?=some x):∃ k,x=.int k:=by
 rw [aE] at h
 cases hn:ns[i]? with
 | none=>rw [hn] at h; cases h
 | some k=>rw [hn] at h; cases h; exact ⟨k,rfl⟩
theorem b5L {N:VK} {b b':Bool} {H:Hp} (h:N (.bl b) H) (e:b'=b):N (.bl b') H:=by rw [e]; exact h
abbrev d8:=List Int×List Int
def HS (K:W.Frag) (H:Hp) (v:V) (h:d8):Prop:=∃ a t g,v=.ref a/\SqT K H a [.ref t,.ref g]/\SqT K H t (h.1.map V.int)/\SqT K H g (h.2.map V.int)
abbrev Bk (K:W.Frag) (H:Hp):List V->List d8->Prop:=aN (HS K H)
theorem HS.same {K:W.Frag} {H H':Hp} {v:V} {h:d8} (e:Same H H') (x:HS K H v h):HS K H' v h:=by
 obtain ⟨a,t,g,h0,h1,h2,h3⟩:=x;exact ⟨a,t,g,h0,e.tseq h1,e.tseq h2,e.tseq h3⟩
theorem Bk.same {K:W.Frag} {H H':Hp} {vs:List V} {hs:List d8} (e:Same H H') (x:Bk K H vs hs):Bk K H' vs hs:=Paired.imp' (λ _ _ r=>HS.same e r) x
theorem Paired.at {α β:Type} {F:α->β->Prop}:∀ {l₁:List α} {l₂:List β},aN F l₁ l₂->∀ {i:Nat} {x:α},l₁[i]?=some x->∃ y,l₂[i]?=some y/\F x y
 | _,_,.nil,_,_,e=>by simp at e
 | _,_,.cons r _,0,_,e=>by simp at e; subst e; exact ⟨_,rfl,r⟩
 | _,_,.cons _ t,i+1,x,e=>by
  obtain ⟨y,h1,h2⟩:=Paired.at t (i:=i) (x:=x) (by simpa using e);exact ⟨y,by simpa using h1,h2⟩
def x8 (q:Nat) (S:Lp.Bo) (i:Nat):List Int:=(aH (q+1)).map (S.T i)
def K9 (q:Nat) (S:Lp.Bo):List Int:=(aH q).map λ j=>(S.outs j:Int)
def Q4 (m:Nat) (S:Lp.Bo):List Int:=(aH m).map λ i=>(S.ins i:Int)
abbrev bdF (q:Nat) (d:Int) (ca oa ia:Addr):List (Str×V):=[("many",.int q),("scale",.int d),("cells",.ref ca),("outs",.ref oa),("ins",.ref ia)]
structure Bd (C:Addr) (H:Hp) (p dx ca oa ia:Addr) (rs:List Addr) (m q:Nat) (S:Lp.Bo):Prop where
 obj:H p=some (.ins C dx (bdF q S.d ca oa ia))
 cel:H ca=some (.lst (rs.map V.ref))
 len:rs.length=m+1
 row:∀ i r,rs[i]?=some r->H r=some (.lst ((x8 q S i).map V.int))
 out:H oa=some (.lst ((K9 q S).map V.int))
 inn:H ia=some (.lst ((Q4 m S).map V.int))
 ne:oa≠ia
structure TB (K:W.Frag) (C:Addr):Prop where
 cl:Cls K C
 nM:NoAttr K C "many"
 nS:NoAttr K C "scale"
 nC:NoAttr K C "cells"
 nO:NoAttr K C "outs"
 nI:NoAttr K C "ins"
section
variable {C:Addr} {H H':Hp} {p dx ca oa ia:Addr} {rs:List Addr} {m q:Nat} {S:Lp.Bo}
theorem Bd.rs_at (B:Bd C H p dx ca oa ia rs m q S) {i:Nat} (h:i<m+1):∃ r,rs[i]?=some r/\atI (rs.map V.ref) (i:Int)=some (.ref r):=by
 have h':i<rs.length:=by rw [B.len]; exact h
 refine ⟨rs[i],aG h',y8 ?_⟩;rw [aE,aG h']; rfl
theorem a0a {i j:Nat} (h:j<q+1):atI ((x8 q S i).map V.int) (j:Int)=some (.int (S.T i j)):=y8 (by
 unfold x8;rw [aE,aE,bF h]; rfl)
theorem a7a {α:Type} {xs:List α} {n:Nat} {v:α} (hl:xs.length=n+1) (h:xs[n]?=some v):atI xs (-1)=some v:=by
 have e:ixN xs.length (-1)=some n:=by
  unfold ixN;rw [hl,if_neg (by decide),if_pos (by lia)]
  congr 1
  lia
 unfold atI; rw [e]; exact h
theorem Z2 {i:Nat}:atI ((x8 q S i).map V.int) (-1)=some (.int (S.T i q)):=a7a (n:=q) (by unfold x8; simp) (by
 unfold x8;rw [aE,aE,bF (eL _)]; rfl)
theorem Bd.rs_last (B:Bd C H p dx ca oa ia rs m q S):∃ r,rs[m]?=some r/\atI (rs.map V.ref) (-1)=some (.ref r):=by
 have h':m<rs.length:=by rw [B.len]; exact eL _
 refine ⟨rs[m],aG h',a7a (n:=m) (by simpa using B.len) ?_⟩;rw [aE,aG h']; rfl
theorem a1U {i:Nat} (h:i<m):atI ((Q4 m S).map V.int) (i:Int)=some (.int (S.ins i)):=y8 (by
 unfold Q4;rw [aE,aE,bF h]; rfl)
theorem a2G {j:Nat} (h:j<q):atI ((K9 q S).map V.int) (j:Int)=some (.int (S.outs j)):=y8 (by
 unfold K9;rw [aE,aE,bF h]; rfl)
theorem Bd.same1 {P:Addr} (B:Bd C H p dx ca oa ia rs m q S) (e:∀ b o,H b=some o->(∀ ps,o≠.tbl ps)->H' b=some o):Bd C H' p dx ca oa ia rs m q S :=
 ⟨e _ _ B.obj λ _=>nofun,e _ _ B.cel λ _=>nofun,B.len,λ i r h=>e _ _ (B.row i r h) λ _=>nofun,e _ _ B.out λ _=>nofun,e _ _ B.inn λ _=>nofun,B.ne⟩
def Sz (n m q:Nat) (S:Lp.Bo):Prop:=(∀ i j,i<m+1->j<q+1->Big n (S.T i j))/\Big n S.d
end
section
variable {P:Program} {w:World} {K:W.Frag} {mg:Str->Option Value} {base:Heap} {f:Addr} {fd:FuncData} {n:Nat} {C:Addr}
theorem b0F {a b:Nat} {x:Int} (h:Big a x) (hab:a<=b):Big b x:=aT h (gP (by decide) hab)
def a1z (q:Nat) (S:Lp.Bo) (i o c:Nat):Bool:=if S.T i q*S.T o c=S.T o q*S.T i c then decide (S.ins i<S.ins o) else decide (S.T i q*S.T o c<S.T o q*S.T i c)
def a7b (C:Addr):Sp:=λ vs H Q _=>∃ (p dx ca oa ia:Addr) (rs:List Addr) (m q:Nat) (S:Lp.Bo) (i o c:Nat),vs=[.ref p,.int i,.int o,.int c]/\Bd C H p dx ca oa ia rs m q S/\Sz 4000 m q S/\i<m/\o<m/\c<q+1/\Q (.bl (a1z q S i o c)) H
theorem scAhead:i9 ["self","row","other","column","left","right"] ["self","row","other","column"] (d0 a5C):=⟨rfl,rfl,rfl,by decide +kernel,rfl,by decide +kernel,by decide +kernel⟩
theorem a9t (F:Fun K "is_ahead" "Board.is_ahead" a5C f fd) (T:TB K C):FnOk P w K mg base K5 (n+1) f fd ["self","row","other","column"] (a7b C):=by
 refine F.ok scAhead (λ vs H Q E h=>?_) (λ cdv A outer s H vs Q E hr h=>?_)
 ·obtain ⟨p,dx,ca,oa,ia,rs,m,q,S,i,o,c,rfl,_⟩:=h
  rfl
 obtain ⟨p,dx,ca,oa,ia,rs,m,q,S,i,o,c,rfl,B,hz,hi,ho,hc,k⟩:=h;refine ⟨_,d9 (p7 (i:=4) scAhead.nd rfl (aC rfl) (j7 a2a (p6 m6 (p6 m6 (r8 (pv 0) rfl) (pv 1) (λ _ _=>rfl)) (P4 G7 e8) (λ _ _=>rfl)) (p6 m6 (p6 m6 (r8 (pv 0) rfl) (pv 2) (λ _ _=>rfl)) (pv 3) (λ _ _=>rfl))))
  (d9 (p7 (i:=5) scAhead.nd rfl (aC rfl) (j7 a2a (p6 m6 (p6 m6 (r8 (pv 0) rfl) (pv 2) (λ _ _=>rfl)) (P4 G7 e8) (λ _ _=>rfl)) (p6 m6 (p6 m6 (r8 (pv 0) rfl) (pv 1) (λ _ _=>rfl)) (pv 3) (λ _ _=>rfl))))
  (d9 (w4 (j8 Z1 (pv 4) (pv 5) (m9 _)) (e7 (j6 (Q6 a0S (p6 m6 (r8 (pv 0) rfl) (pv 1) (λ _ _=>rfl)) (p6 m6 (r8 (pv 0) rfl) (pv 2) (λ _ _=>rfl)) (m9 _)))) m7)
  (e7 (j6 (Q6 a0S (pv 4) (pv 5) (m9 _)))))),?_⟩
 obtain ⟨ri,ei,ai⟩:=B.rs_at (i:=i) (by lia);obtain ⟨ro,eo,ao⟩:=B.rs_at (i:=o) (by lia);have bi:=SqL.of (K:=K) (B.row i ri ei);have bo:=SqL.of (K:=K) (B.row o ro eo);have z:∀ i j,i<m+1->j<q+1->Big 1000000 (S.T i j):=λ i j h1 h2=>b0F (hz.1 i j h1 h2) (by decide);refine ⟨_,rfl,p,C,dx,_,_,rfl,B.obj,T.cl,T.nC,rfl,_,rfl,ca,_,_,_,rfl,rfl,SqL.of B.cel,ai,_,rfl,ri,_,_,_,rfl,rfl,bi,Z2,?_⟩;refine ⟨_,rfl,p,C,dx,_,_,rfl,B.obj,T.cl,T.nC,rfl,_,rfl,ca,_,_,_,rfl,rfl,SqL.of B.cel,ao,_,rfl,ro,_,_,_,rfl,rfl,bo,a0a hc,_,_,rfl,rfl,⟨z _ _ (by lia) (by lia),z _ _ (by lia) (by lia)⟩,?_⟩;refine ⟨_,rfl,p,C,dx,_,_,rfl,B.obj,T.cl,T.nC,rfl,_,rfl,ca,_,_,_,rfl,rfl,SqL.of B.cel,ao,_,rfl,ro,_,_,_,rfl,rfl,bo,Z2,?_⟩;refine ⟨_,rfl,p,C,dx,_,_,rfl,B.obj,T.cl,T.nC,rfl,_,rfl,ca,_,_,_,rfl,rfl,SqL.of B.cel,ai,_,rfl,ri,_,_,_,rfl,rfl,bi,a0a hc,_,_,rfl,rfl,⟨z _ _ (by lia) (by lia),z _ _ (by lia) (by lia)⟩,?_⟩;refine ⟨_,rfl,_,rfl,rfl,_,rfl,?_⟩;unfold a1z at k;refine A2 (λ e=>?_) (λ e=>?_)
 ·have e':S.T i q*S.T o c=S.T o q*S.T i c:=by simpa using e
  rw [if_pos e'] at k;refine ⟨_,rfl,p,C,dx,_,_,rfl,B.obj,T.cl,T.nI,rfl,_,rfl,ia,_,_,_,rfl,rfl,SqL.of B.inn,a1U hi,_,rfl,p,C,dx,_,_,rfl,B.obj,T.cl,T.nI,rfl,_,rfl,ia,_,_,_,rfl,rfl,SqL.of B.inn,a1U ho,_,_,rfl,rfl,?_⟩;refine b5L k ?_;simp
 ·have e':¬ S.T i q*S.T o c=S.T o q*S.T i c:=by simpa using e
  rw [if_neg e'] at k;exact ⟨_,rfl,_,rfl,_,_,rfl,rfl,k⟩
end
structure a8u (P:Program) (w:World) (K:W.Frag) (mg:Str->Option Value) (base:Heap) (n:Nat) (C:Addr) (m:Str) (ps:List Str) (sp:Sp) (f:Addr) (fd:FuncData):Prop where
 ok:FnOk P w K mg base K5 n f fd ps sp
 bd:Binds K fd ps []
 me:a7H K C m f
def Bet (q:Nat) (S:Lp.Bo) (c r i:Nat):Prop:=S.T r q*S.T i c<=S.T i q*S.T r c/\(S.T r q*S.T i c=S.T i q*S.T r c->S.ins r<=S.ins i)
theorem a7D {ar cr ab cb ai ci:Int} (h1:ar*cb<=ab*cr) (h2:ab*ci<=ai*cb) (pr:0<cr) (pb:0<cb) (pi:0<ci):ar*ci<=ai*cr/\(ar*ci=ai*cr->ar*cb=ab*cr/\ab*ci=ai*cb):=by
 have e1:ar*cb*ci<=ab*cr*ci:=dO h1 (aX pi);have e2:ab*ci*cr<=ai*cb*cr:=dO h2 (aX pr);have x1:ar*cb*ci=ar*ci*cb:=by rw [aY,aV cb ci,<- aY]
 have x2:ab*cr*ci=ab*ci*cr:=by rw [aY,aV cr ci,<- aY]
 have x3:ai*cb*cr=ai*cr*cb:=by rw [aY,aV cb cr,<- aY]
 rw [x1] at e1;rw [x3] at e2;refine ⟨Int.le_of_mul_le_mul_right (a:=cb) (by lia) pb,λ e=>?_⟩;rw [e] at e1;refine ⟨Int.eq_of_mul_eq_mul_right (a:=ci) (by omega) (by rw [x1,e]; omega),iI (a:=cr) (by omega) (by rw [x3]; omega)⟩
theorem Bet.trans {q:Nat} {S:Lp.Bo} {c r b i:Nat} (h1:Bet q S c r b) (h2:Bet q S c b i) (pr:0<S.T r c) (pb:0<S.T b c) (pi:0<S.T i c):Bet q S c r i:=by
 obtain ⟨a,t⟩:=a7D h1.1 h2.1 pr pb pi;exact ⟨a,λ e=>aK (h1.2 (t e).1) (h2.2 (t e).2)⟩
theorem a7J {q:Nat} {S:Lp.Bo} {c r b:Nat} (h:a1z q S r b c=true):Bet q S c r b:=by
 unfold a1z at h
 by_cases e:S.T r q*S.T b c=S.T b q*S.T r c
 ·rw [if_pos e] at h
  exact ⟨Int.le_of_eq e,λ _=>dQ (of_decide_eq_true h)⟩
 ·rw [if_neg e] at h
  have:=of_decide_eq_true h;exact ⟨Int.le_of_lt this,λ z=>absurd z e⟩
theorem b1K {q:Nat} {S:Lp.Bo} {c r b:Nat} (h:a1z q S r b c=false):Bet q S c b r:=by
 unfold a1z at h
 by_cases e:S.T r q*S.T b c=S.T b q*S.T r c
 ·rw [if_pos e] at h
  exact ⟨Int.le_of_eq e.symm,λ _=>iA (of_decide_eq_false h)⟩
 ·rw [if_neg e] at h
  have:=of_decide_eq_false h;exact ⟨by lia,λ z=>absurd z.symm e⟩
section
variable {P:Program} {w:World} {K:W.Frag} {mg:Str->Option Value} {base:Heap} {f g:Addr} {fd gd:FuncData} {n:Nat} {C:Addr}
def a6C (C:Addr):Sp:=λ vs H Q _=>∃ (p dx ca oa ia:Addr) (rs:List Addr) (m q:Nat) (S:Lp.Bo) (c:Nat),vs=[.ref p,.int c]/\Bd C H p dx ca oa ia rs m q S/\Sz 4000 m q S/\m<1000/\c<q+1 ∧
 ((∀ i,i<m->¬ 0<S.T i c)->Q .non H)/\∀ r,r<m->0<S.T r c->(∀ i,i<m->0<S.T i c->Bet q S c r i)->Q (.int r) H
theorem scGoing:i9 ["self","column","best","row"] ["self","column"] (d0 a6h):=⟨rfl,rfl,rfl,by decide +kernel,rfl,by decide +kernel,by decide +kernel⟩
theorem a8H (F:Fun K "going" "Board.going" a6h f fd) (N:v7 mg) (T:TB K C) (A1:a8u P w K mg base n C "is_ahead" ["self","row","other","column"] (a7b C) g gd):FnOk P w K mg base K5 (n+1) f fd ["self","column"] (a6C C):=by
 refine F.ok scGoing (λ vs H Q E h=>?_) (λ cdv A outer s H vs Q E hr h=>?_)
 ·obtain ⟨p,dx,ca,oa,ia,rs,m,q,S,c,rfl,_⟩:=h
  rfl
 obtain ⟨p,dx,ca,oa,ia,rs,m,q,S,c,rfl,B,hz,hm,hc,kN,kI⟩:=h;refine ⟨_,d9 (p7 (i:=2) scGoing.nd rfl (aC rfl) B9)
  (d9 (a1s PassesOwn.never rfl (a0c rfl N.range (c6 (i8 i7 rfl N.len aR (c6 (r8 (pv 0) rfl) c7)) c7)) (j0 (i:=3) scGoing.nd rfl (aC rfl))
   (e7 (w4 (PW.pt (W6 (j8 a1H (p6 m6 (p6 m6 (r8 (pv 0) rfl) (pv 3) (λ _ _=>rfl)) (pv 1) (λ _ _=>rfl)) e8 (m9 _))
     (R0 (PW.pt (a0Z (j8 a6o (pv 2) B9 (m9 _)) (V0 (S2 (a3O (pv 0) T.cl A1.me A1.ok hr A1.bd .nil r6 (c6 (pv 3) (c6 (pv 2) (c6 (pv 1) c7)))))))))))
    (e7 (p7 (i:=2) scGoing.nd rfl (aC rfl) (pv 3))) m7)))
  (e7 (j6 (pv 2)))),?_⟩
 have lm:((Q4 m S).map V.int).length=m:=by unfold Q4; simp
 refine ⟨_,rfl,p,C,dx,_,_,rfl,B.obj,T.cl,T.nI,rfl,ia,_,rfl,.inl (SqL.of B.inn),_,rfl,(by rw [lm]; lia),(by rw [lm]; lia),?_⟩;rw [lm,bR];refine a1j (n:=m) (λ k σ H'=>∃ (b o3:Option V),σ=[some (.ref p),some (.int c),b,o3]/\H'=H/\((b=some .non/\∀ i,i<k->¬ 0<S.T i c)\/∃ r:Nat,b=some (.int r)/\r<k/\0<S.T r c/\∀ i,i<k->0<S.T i c->Bet q S c r i))
  ⟨_,_,rfl,rfl,.inl ⟨rfl,λ i hi=>absurd hi (Nat.not_lt_zero _)⟩⟩ (λ k σ H' hk hP=>?_) λ σ H' hP=>?_
 ·obtain ⟨b,o3,rfl,rfl,hb⟩:=hP
  obtain ⟨rk,ek,ak⟩:=B.rs_at (i:=k) (by lia);have zk:(0:Int)+(k:Int)=(k:Int):=iK _;rw [zk];refine ⟨_,rfl,p,C,dx,_,_,rfl,B.obj,T.cl,T.nC,rfl,_,rfl,ca,_,_,_,rfl,rfl,SqL.of B.cel,ak,_,rfl,rk,_,_,_,rfl,rfl,SqL.of (B.row k rk ek),a0a hc,_,_,rfl,rfl,_,rfl,?_⟩;have keep:¬ 0<S.T k c->((b=some .non/\∀ i,i<k+1->¬ 0<S.T i c)\/∃ r:Nat,b=some (.int r)/\r<k+1/\0<S.T r c/\∀ i,i<k+1->0<S.T i c->Bet q S c r i):=λ hn=>by
   rcases hb with ⟨e,hb⟩ | ⟨r,e,h1,h2,h3⟩
   ·refine .inl ⟨e,λ i hi=>?_⟩
    by_cases z:i=k
    ·subst z; exact hn
    ·exact hb i (by lia)
   ·refine .inr ⟨r,e,by lia,h2,λ i hi hp=>?_⟩
    by_cases z:i=k
    ·subst z; exact absurd hp hn
    ·exact h3 i (by lia) hp
  refine A2 (λ d=>?_) (λ d=>?_)
  ·have d':0<S.T k c:=of_decide_eq_true d
   rcases hb with ⟨rfl,hb⟩ | ⟨r,rfl,h1,h2,h3⟩
   ·refine ⟨_,rfl,rfl,_,rfl,?_⟩
    refine A2 (λ _=>?_) (λ z=>absurd (decide_eq_true rfl) z);refine G5 ?_;refine ⟨_,rfl,⟨_,_,rfl,rfl,.inr ⟨k,rfl,by lia,d',λ i hi hp=>?_⟩⟩⟩
    by_cases z:i=k
    ·subst z; exact ⟨Int.le_refl _,λ _=>aF _⟩
    ·exact absurd hp (hb i (by lia))
   ·refine ⟨_,rfl,rfl,_,rfl,?_⟩
    refine A2 (λ z=>absurd (of_decide_eq_true z) (by nofun)) (λ _=>?_);refine ⟨_,rfl,p,dx,_,rfl,B.obj,rfl,_,rfl,_,rfl,_,rfl,?_⟩;refine ⟨p,dx,ca,oa,ia,rs,m,q,S,k,r,c,rfl,B,hz,hk,by lia,hc,_,rfl,?_⟩;refine A2 (λ e=>?_) (λ e=>?_)
    ·have bt:=a7J e
     refine ⟨_,rfl,⟨_,_,rfl,rfl,.inr ⟨k,rfl,by lia,d',λ i hi hp=>?_⟩⟩⟩
     by_cases z:i=k
     ·subst z; exact ⟨Int.le_refl _,λ _=>aF _⟩
     ·exact bt.trans (h3 i (by lia) hp) d' h2 hp
    ·have bt:=b1K (dZ.mpr e)
     refine ⟨_,_,rfl,rfl,.inr ⟨r,rfl,by lia,h2,λ i hi hp=>?_⟩⟩
     by_cases z:i=k
     ·subst z; exact bt
     ·exact h3 i (by lia) hp
  ·have d':¬ 0<S.T k c:=λ z=>d (decide_eq_true z)
   exact ⟨_,_,rfl,rfl,keep d'⟩
 ·obtain ⟨b,o3,rfl,rfl,hb⟩:=hP
  rcases hb with ⟨rfl,hb⟩ | ⟨r,rfl,h1,h2,h3⟩
  ·exact ⟨_,rfl,kN hb⟩
  ·exact ⟨_,rfl,kI r h1 h2 h3⟩
end
abbrev b6z:Str:=("Board.coming"++".<locals>.")++"<lambda>"
abbrev LT (Pt:Addr) (H:Hp):Prop:=LamTab Pt b3I b6z H
section
variable {P:Program} {w:World} {K:W.Frag} {mg:Str->Option Value} {base:Heap} {f g c Pt:Addr} {fd gd:FuncData} {n:Nat} {C:Addr}
def a2E (C Pt:Addr):Sp:=λ vs H Q _=>∃ (p dx ca oa ia:Addr) (rs:List Addr) (m q:Nat) (S:Lp.Bo),vs=[.ref p]/\Bd C H p dx ca oa ia rs m q S/\q<1000/\LT Pt H ∧
 ∀ H',C9 Pt H H'->LT Pt H'->((∀ j,j<q->¬ S.T m j<0)->Q .non H')/\∀ j,j<q->S.T m j<0->(∀ i,i<q->S.T m i<0->S.outs j<=S.outs i)->Q (.int j) H'
theorem scComing:i9 ["self","columns"] ["self"] (d0 a4z):=⟨rfl,rfl,rfl,by decide +kernel,rfl,by decide +kernel,by decide +kernel⟩
theorem b4O:(["column","self"]:List Str).Nodup:=by decide +kernel
theorem LamTab.new {Pt a:Addr} {pos:Pos} {qual:Str} {H:Hp} {o:HO} (T:LamTab Pt pos qual H) (h:H a=none):LamTab Pt pos qual (r9 H a o):=T.same λ b u e=>by rw [c9 (c8 e h)]; exact e
def a7G (q:Nat) (S:Lp.Bo) (m:Nat):List Int:=((aH q).filter λ j=>decide (S.T m j<0)).map λ (j:Nat)=>(j:Int)
theorem a9y {q:Nat} {S:Lp.Bo} {m:Nat}:((aH q).map λ (i:Nat)=>V.int (0+(i:Int))).filter (λ v=>decide (S.T m (vI v).toNat<0))=(a7G q S m).map V.int:=by
 unfold a7G;rw [List.filter_map,aW];have e:((λ v=>decide (S.T m (vI v).toNat<0)) ∘ λ (i:Nat)=>V.int (0+(i:Int)))=λ j=>decide (S.T m j<0):=by
  funext j
  show decide (S.T m (vI (V.int (0+(j:Int)))).toNat<0)=_
  rw [show (vI (V.int (0+(j:Int)))).toNat=j from by simp [vI]]
 rw [e];refine cU λ j _=>?_;simp
theorem Bd.lam {H H':Hp} {p dx ca oa ia:Addr} {rs:List Addr} {m q:Nat} {S:Lp.Bo} (B:Bd C H p dx ca oa ia rs m q S) (T:LT Pt H) (e:C9 Pt H H'):Bd C H' p dx ca oa ia rs m q S:=by
 refine B.same1 (P:=Pt) λ b o q n=>e b o (λ z=>?_) q;subst z;rcases T with t | ⟨c,t,_⟩
 ·rw [q] at t; exact n _ (aJ t)
 ·rw [q] at t; exact n _ (aJ t)
theorem a8i (F:Fun K "coming" "Board.coming" a4z f fd) (hcode:fd.code=.ref c) (CH:W.CodeHd base c Pt) (BM:U8 mg base) (N:v7 mg) (T:TB K C):FnOk P w K mg base K5 (n+3) f fd ["self"] (a2E C Pt):=by
 refine F.okC hcode scComing (λ vs H Q E h=>?_) (λ A outer s H vs Q E hr h=>?_)
 ·obtain ⟨p,dx,ca,oa,ia,rs,m,q,S,rfl,_⟩:=h
  rfl
 obtain ⟨p,dx,ca,oa,ia,rs,m,q,S,rfl,B,hq,L,k⟩:=h;refine ⟨_,d9 (b3S (i:=1) ["column"] [0] scComing.nd rfl rfl rfl (a0c rfl N.range (c6 (r8 (pv 0) rfl) c7)) (λ _ _ _ _=>j0 (i:=0) b4O rfl (aC rfl))
   (λ _ _ _ _=>j8 a0S (p6 (a5z K rfl) (p6 (a5z K rfl) (a4l K rfl (pv 1) rfl) (P4 G7 e8) (λ _ _=>rfl)) (pv 0) (λ _ _=>rfl)) e8 (m9 _))
   (λ _ _ _ _=>pv 0))
  (e7 (j6 (a8h (col:="column") (fr:=[0]) (c:=c) (P:=Pt) rfl (hr.mono (by lia)) rfl N.min rfl CH BM rfl rfl (by decide +kernel) rfl rfl rfl (λ _ _ _ _=>rfl) (c6 (pv 1) c7)
   (λ _ _ _ _=>p6 (a5z K rfl) (a4l K rfl (pv 1) rfl) (pv 0) (λ _ _=>rfl))))),?_⟩
 refine ⟨_,rfl,p,C,dx,_,_,rfl,B.obj,T.cl,T.nM,rfl,_,rfl,(by lia),(by lia),?_⟩;rw [bR];intro l hl;obtain ⟨rm,em,am⟩:=B.rs_last;refine b1f a6n hl (by rw [aA,fO]; exact m8 (by lia)) (λ v=>decide (S.T m (vI v).toNat<0)) (λ i x H' N' hx e hN=>?_) ?_
 ·have hx':x=.int (i:Int)/\i<q:=by
   rw [aE] at hx
   by_cases hi:i<q
   ·rw [bF hi] at hx
    refine ⟨?_,hi⟩;have:=aJ hx;rw [<- this]; simp
   ·rw [bH (by simp; lia)] at hx; cases hx
  obtain ⟨rfl,hi⟩:=hx';have e':∀ b o,H b=some o->H' b=some o:=λ b o z=>e b o z;refine ⟨_,rfl,p,C,dx,_,_,rfl,e' _ _ B.obj,T.cl,T.nC,rfl,_,rfl,ca,_,_,_,rfl,rfl,SqL.of (e' _ _ B.cel),am,_,rfl,rm,_,_,_,rfl,rfl,SqL.of (e' _ _ (B.row m rm em)),a0a (by lia),_,_,rfl,rfl,_,rfl,?_⟩;have ev:decide (S.T m (vI (V.int (i:Int))).toNat<0)=decide (S.T m i<0):=by rw [show (vI (V.int (i:Int))).toNat=i from by simp [vI]]
  rw [ev] at hN;exact hN
 rw [a9y];have L2':LT Pt (r9 H l (.lst ((a7G q S m).map V.int))):=LamTab.new L hl;have B2:Bd C (r9 H l (.lst ((a7G q S m).map V.int))) p dx ca oa ia rs m q S:=B.same1 (P:=Pt) λ b o z _=>by rw [c9 (c8 z hl)]; exact z
 have mem:∀ x:Int,x∈a7G q S m ↔ ∃ j:Nat,x=(j:Int)/\j<q/\S.T m j<0:=λ x=>by
  unfold a7G;rw [aZ];constructor
  ·rintro ⟨j,hj,rfl⟩
   rw [gA,cV] at hj;exact ⟨j,rfl,hj.1,of_decide_eq_true hj.2⟩
  ·rintro ⟨j,rfl,h1,h2⟩
   exact ⟨j,by rw [gA,cV]; exact ⟨h1,decide_eq_true h2⟩,rfl⟩
 refine ⟨_,rfl,l,_,λ x=>(S.outs x.toNat:Int),rfl,SqL.of upd_same,L2',λ H2 e2 L3=>?_⟩;have B3:=B2.lam L2' e2;have e3:C9 Pt H H2:=λ b o hb z=>e2 b o hb (by rw [c9 (c8 z hl)]; exact z);obtain ⟨k1,k2⟩:=k H2 e3 L3;refine ⟨λ x hx=>?_,λ en=>k1 λ j hj hn=>?_,λ M hM hmin=>?_⟩
 ·obtain ⟨j,rfl,hj,hn⟩:=(mem x).mp hx
  exact ⟨_,rfl,p,C,dx,_,_,rfl,B3.obj,T.cl,T.nO,rfl,_,rfl,oa,_,_,_,rfl,rfl,SqL.of B3.out,a2G hj,by simp,rfl⟩
 ·have:=(mem (j:Int)).mpr ⟨j,rfl,hj,hn⟩
  rw [en] at this
  cases this
 ·obtain ⟨j,rfl,hj,hn⟩:=(mem M).mp hM
  refine k2 j hj hn λ i hi hni=>?_;have:=hmin (i:Int) ((mem _).mpr ⟨i,rfl,hi,hni⟩)
  simpa using this
end
def a0q (xs ys:List Int) (c:Nat) (d:Int):List Int:=(bG (λ x y=>(x*ys.getD c 0 - xs.getD c 0*y) / d) xs ys).set c (-(xs.getD c 0))
theorem a4O {ns:List Int} {i:Nat} (h:i<ns.length):atI (ns.map V.int) (i:Int)=some (.int (ns.getD i 0)):=y8 (by
 rw [aE,aG h,aM,aG h]; rfl)
theorem a1W {ns:List Int} {i:Nat} {x:V} (h:(ns.map V.int)[i]?=some x):∃ k,x=.int k/\k∈ns:=by
 rw [aE] at h
 cases hn:ns[i]? with
 | none=>rw [hn] at h; cases h
 | some k=>rw [hn] at h; cases h; exact ⟨k,rfl,bE hn⟩
theorem a6N (F:V->V->V) (G:Int->Int->Int) (h:∀ a b,F (.int a) (.int b)=.int (G a b)):∀ xs ys:List Int,bG F (xs.map V.int) (ys.map V.int)=(bG G xs ys).map V.int
 | [],_=>by simp
 | _::_,[]=>by simp
 | x::xs,y::ys=>by simp [h,a6N F G h xs ys]
theorem a3z {ns:List Int} {i:Nat} (h:i<ns.length):ns.getD i 0∈ns:=by
 rw [aM,aG h]; exact dH h
section
variable {P:Program} {w:World} {K:W.Frag} {mg:Str->Option Value} {base:Heap} {f g c Pt:Addr} {fd gd:FuncData} {n:Nat} {C:Addr}
def a4t (K:W.Frag):Sp:=λ vs H Q _=>∃ (a b:Addr) (c:Nat) (d:Int) (xs ys:List Int),vs=[.ref a,.ref b,.int c,.int d]/\SqL K H a (xs.map V.int)/\SqL K H b (ys.map V.int)/\xs.length=ys.length/\xs.length<=1000/\c<xs.length ∧
 0<d/\Big 4000 d/\(∀ x∈xs,Big 4000 x)/\(∀ y∈ys,Big 4000 y)/\∀ (r:Addr) (H':Hp),Same H H'->H r=none->H' r=some (.lst ((a0q xs ys c d).map V.int))->Q (.ref r) H'
theorem scSwept:i9 ["cells","lead","column","scale","factor","pivot","fresh"] ["cells","lead","column","scale"] (d0 a6s):=⟨rfl,rfl,rfl,by decide +kernel,rfl,by decide +kernel,by decide +kernel⟩
theorem b4P:(["cell","other","scale","factor","pivot"]:List Str).Nodup:=by decide +kernel
theorem a9l (F:Fun K "swept" "swept" a6s f fd) (N:v7 mg):FnOk P w K mg base K5 (n+1) f fd ["cells","lead","column","scale"] (a4t K):=by
 refine F.ok scSwept (λ vs H Q E h=>?_) (λ cdv A outer s H vs Q E hr h=>?_)
 ·obtain ⟨a,b,c,d,xs,ys,rfl,_⟩:=h
  rfl
 obtain ⟨a,b,c,d,xs,ys,rfl,ha,hb,hl,hz,hc,hd,hD,hx,hy,k⟩:=h;refine ⟨_,d9 (p7 (i:=4) scSwept.nd rfl (dM rfl) (p6 m6 (pv 0) (pv 2) (λ _ _=>rfl)))
  (d9 (p7 (i:=5) scSwept.nd rfl (dM rfl) (p6 m6 (pv 1) (pv 2) (λ _ _=>rfl)))
  (d9 (a5x (i:=6) ["cell","other"] [3,4,5] scSwept.nd rfl rfl rfl (a8L true true K rfl rfl N.zip (c6 (pv 0) (c6 (pv 1) c7)))
   (λ _ _ _ _=>a0x K (n:=2) rfl rfl (j5 (j0 (i:=0) b4P rfl (aC rfl)) (j5 (j0 (i:=1) b4P rfl (aC rfl)) y4)))
   (λ _ _ _ _=>j7 a2j (j7 a6g (j7 a2a (pv 0) (pv 4)) (j7 a2a (pv 3) (pv 1))) (pv 2)))
  (d9 (C3 (P4 G7 (pv 4)) (a1x (pv 6) (pv 2) T0))
  (e7 (j6 (pv 6)))))),?_⟩
 have hc2:c<ys.length:=by lia
 refine ⟨_,rfl,_,rfl,a,_,_,_,rfl,rfl,ha,a4O hc,?_⟩;refine ⟨_,rfl,_,rfl,b,_,_,_,rfl,rfl,hb,a4O hc2,?_⟩;refine ⟨_,rfl,_,rfl,a,b,rfl,⟨_,ha⟩,⟨_,hb⟩,λ l hl'=>?_⟩;have up:∀ {x},Big 4000 x->Big 1000000 x:=λ h=>b0F h (by decide);refine b5j ha hb hl' (by rw [aA]; exact m8 hz) (λ u v=>.int ((vI u*ys.getD c 0 - xs.getD c 0*vI v) / d)) (λ i u v H' N' hu hv e hN=>?_) (λ H' e hH=>?_)
 ·obtain ⟨x,rfl,hxm⟩:=a1W hu
  obtain ⟨y,rfl,hym⟩:=a1W hv;have dl:d<2 ^ 8000:=by
   have h1:d.natAbs<2 ^ 4000:=hD;have h2:(2:Nat) ^ 4000<=2 ^ 8000:=gP (by decide) (by decide);have h3:d=(d.natAbs:Int):=by lia
   rw [h3]
   exact_mod_cast aT h1 h2
  refine ⟨_,rfl,_,rfl,_,_,rfl,rfl,⟨up (hx _ hxm),up (hy _ (a3z hc2))⟩,_,rfl,_,rfl,_,_,rfl,rfl,⟨up (hx _ (a3z hc)),up (hy _ hym)⟩,_,_,rfl,rfl,_,rfl,_,_,rfl,rfl,⟨hd,dl⟩,hN⟩
 ·rw [a6N _ (λ x y=>(x*ys.getD c 0 - xs.getD c 0*y) / d) (λ _ _=>rfl)] at hH
  refine ⟨_,rfl,_,rfl,?_⟩;refine ⟨_,rfl,_,rfl,l,_,_,c,rfl,rfl,hH,?_,?_⟩
  ·unfold ixN
   rw [aA,eN,if_pos (by lia),if_pos (by lia),bR]
  ·refine ⟨_,rfl,k l _ ?_ hl' ?_⟩
   ·exact λ b' o q=>by rw [c9 (c8 q hl')]; exact e b' o q
   ·rw [upd_same]
    unfold a0q;rw [<- jZ]
end
structure J3 (P:Program) (w:World) (K:W.Frag) (mg:Str->Option Value) (base:Heap) (n:Nat) (x:Str) (ps:List Str) (sp:Sp) (fa:Addr) (d:FuncData):Prop where
 ok:FnOk P w K mg base K5 n fa d ps sp
 b:Binds K d ps []
 k:W.keepIn K (.ref fa)=true
 m:mg x=some (.ref fa)
theorem C7 {q:Nat} {S:Lp.Bo} {i:Nat}:(x8 q S i).length=q+1:=by unfold x8; simp
theorem a3x {q:Nat} {S:Lp.Bo} {i j:Nat} (h:j<q+1):(x8 q S i).getD j 0=S.T i j:=by
 unfold x8;rw [aM,aE,bF h]; rfl
theorem a8e {q:Nat} {S:Lp.Bo} {i r c:Nat} (hi:i≠r) (hc:c<q):a0q (x8 q S i) (x8 q S r) c S.d=x8 q (Lp.piv S r c) i:=by
 refine bX λ j=>?_;unfold a0q
 by_cases hj:j<q+1
 ·rw [a3x (by lia),a3x (by lia)]
  have e:(x8 q (Lp.piv S r c) i)[j]?=some ((Lp.piv S r c).T i j):=by unfold x8; rw [aE,bF hj]; rfl
  have hT:(Lp.piv S r c).T i j=if j=c then - S.T i c else (S.T i j*S.T r c - S.T i c*S.T r j) / S.d:=by
   show (if i=r then _ else _)=_
   rw [if_neg hi]
  rw [e,hT]
  by_cases hjc:j=c
  ·subst hjc
   rw [bZ (by rw [eN,C7,C7]; lia),if_pos rfl]
  ·rw [bM (aS hjc),gQ,if_neg hjc]
   unfold x8;rw [aE,aE,bF hj]; rfl
 ·rw [bH (by rw [cC,eN,C7,C7]; lia),bH (by rw [C7]; lia)]
theorem a9F {q:Nat} {S:Lp.Bo} {r c:Nat} (hc:c<q):(((x8 q S r).map V.int).take c++[V.int S.d])++((x8 q S r).map V.int).drop (c+1)=(x8 q (Lp.piv S r c) r).map V.int:=by
 have hT:∀ j,(Lp.piv S r c).T r j=if j=c then S.d else S.T r j:=λ j=>by
  show (if r=r then _ else _)=_
  rw [if_pos rfl]
 have hl:((x8 q S r).map V.int).length=q+1:=by rw [aA,C7]
 refine bX λ j=>?_
 by_cases hj:j<q+1
 ·have e:((x8 q (Lp.piv S r c) r).map V.int)[j]?=some (.int (if j=c then S.d else S.T r j)):=by
   rw [aE]; unfold x8; rw [aE,bF hj,<- hT]; rfl
  have e0:((x8 q S r).map V.int)[j]?=some (.int (S.T r j)):=by
   rw [aE]; unfold x8; rw [aE,bF hj]; rfl
  rw [e];have lt:(((x8 q S r).map V.int).take c).length=c:=by rw [cI,hl]; lia
  by_cases h1:j<c
  ·rw [bV (by rw [aI,lt]; lia),bV (by lia),iV h1,e0,if_neg (by lia)]
  ·by_cases h2:j=c
   ·subst h2
    rw [bV (by rw [aI,lt]; simp),cP (by lia),lt,fP,if_pos rfl]; rfl
   ·rw [cP (by rw [aI,lt]; simp; lia),aI,lt,jW,if_neg h2]
    have:c+1+(j - (c+[V.int S.d].length))=j:=by simp; lia
    rw [this,e0]
 ·rw [bH (by rw [aI,aI,cI,dL,hl]; simp; lia),bH (by rw [aA,C7]; lia)]
theorem b1E {m:Nat} {S:Lp.Bo} {r c:Nat} (hr:r<m):((Q4 m S).map V.int).set r (.int (S.outs c))=(Q4 m (Lp.piv S r c)).map V.int:=by
 refine bX λ j=>?_;have hT:(Lp.piv S r c).ins j=if j=r then S.outs c else S.ins j:=rfl
 by_cases hj:j<m
 ·have e:((Q4 m (Lp.piv S r c)).map V.int)[j]?=some (.int ((if j=r then S.outs c else S.ins j:Nat))):=by
   rw [aE]; unfold Q4; rw [aE,bF hj,<- hT]; rfl
  rw [e]
  by_cases h:j=r
  ·subst h
   rw [bZ (by unfold Q4; simp; lia),if_pos rfl]
  ·rw [bM (aS h),if_neg h,aE]
   unfold Q4; rw [aE,bF hj]; rfl
 ·rw [bH (by unfold Q4; simp; lia),bH (by unfold Q4; simp; lia)]
theorem a8M {q:Nat} {S:Lp.Bo} {r c:Nat} (hc:c<q):((K9 q S).map V.int).set c (.int (S.ins r))=(K9 q (Lp.piv S r c)).map V.int:=by
 refine bX λ j=>?_;have hT:(Lp.piv S r c).outs j=if j=c then S.ins r else S.outs j:=rfl
 by_cases hj:j<q
 ·have e:((K9 q (Lp.piv S r c)).map V.int)[j]?=some (.int ((if j=c then S.ins r else S.outs j:Nat))):=by
   rw [aE]; unfold K9; rw [aE,bF hj,<- hT]; rfl
  rw [e]
  by_cases h:j=c
  ·subst h
   rw [bZ (by unfold K9; simp; lia),if_pos rfl]
  ·rw [bM (aS h),if_neg h,aE]
   unfold K9; rw [aE,bF hj]; rfl
 ·rw [bH (by unfold K9; simp; lia),bH (by unfold K9; simp; lia)]
theorem a2A {n i:Nat} (h:i<n):ixN n (i:Int)=some i:=by
 unfold ixN;rw [if_pos (by lia),if_pos (by lia),bR]
section
variable {P:Program} {w:World} {K:W.Frag} {mg:Str->Option Value} {base:Heap} {f g c Pt:Addr} {fd gd:FuncData} {n:Nat} {C:Addr}
def a2K (C:Addr):Sp:=λ vs H Q _=>∃ (p dx ca oa ia:Addr) (rs:List Addr) (m q:Nat) (S:Lp.Bo) (r c:Nat),vs=[.ref p,.int r,.int c]/\Bd C H p dx ca oa ia rs m q S/\Sz 4000 m q S/\r<m/\c<q/\m<900/\q<900/\0<S.d ∧
 ∀ (H':Hp) (ca':Addr) (rs':List Addr),Bd C H' p dx ca' oa ia rs' m q (Lp.piv S r c)->(∀ b o,b≠p->b≠oa->b≠ia->H b=some o->H' b=some o)->Q .non H'
theorem scEx:i9 ["self","row","column","lead","pivot"] ["self","row","column"] (d0 O6):=⟨rfl,rfl,rfl,by decide +kernel,rfl,by decide +kernel,by decide +kernel⟩
theorem b6m:(["cells","self","column","lead"]:List Str).Nodup:=by decide +kernel
noncomputable def exT {cdv:Value} {A:Around} {outer:List Env} {s:Shared} {H:Hp} {E:XK} {fb:Addr} {db:FuncData} (Cs:J3 P w K mg base n "swept" ["cells","lead","column","scale"] (a4t K) fb db)
  (hr:Room n (A.deeper (bY "Board.exchange" (d0 O6) s.heap.objs.size f cdv))) :
  { t:TS // PSs (M3 K5 P w K mg base ["self","row","column","lead","pivot"] "Board.exchange" (d0 O6) f cdv A outer s H E).nox (t9 O6) t } :=
 ⟨_,d9 (p7 (i:=3) scEx.nd rfl (dM rfl) (p6 m6 (r8 (pv 0) rfl) (pv 1) (λ _ _=>rfl)))
  (d9 (p7 (i:=4) scEx.nd rfl (aC rfl) (p6 m6 (pv 3) (pv 2) (λ _ _=>rfl)))
  (v5 (R9 (pv 0) (R1 ["cells"] [0,2,3] rfl (G2 (r8 (pv 0) rfl)) (λ _ _ _ _=>j0 (i:=0) b6m rfl (aC rfl))
   (λ _ _ _ _=>j4 Cs.ok hr rfl Cs.m Cs.k Cs.b .nil r6 (c6 (pv 0) (c6 (pv 3) (c6 (pv 2) (c6 (a4l K rfl (pv 1) rfl) c7)))))) rfl)
  (d9 (C3 (j7 A6 (j7 A6 (C6 G1 (pv 3) F0 (E8 (pv 2))) (x4 (c6 (r8 (pv 0) rfl) c7))) (C6 G1 (pv 3) (E8 (j7 G4 (pv 2) e8)) F0)) (a1x (r8 (pv 0) rfl) (pv 1) T0))
  (d9 (R9 (pv 0) (pv 4) rfl)
  (e7 (C3 (v9 (c6 (p6 m6 (r8 (pv 0) rfl) (pv 2) (λ _ _=>rfl)) (c6 (p6 m6 (r8 (pv 0) rfl) (pv 1) (λ _ _=>rfl)) c7)))
   (E4 rfl (j5 (a1x (r8 (pv 0) rfl) (pv 1) T0) (j5 (a1x (r8 (pv 0) rfl) (pv 2) T0) y4)))))))))⟩
end
def a7F:V->Addr
 | .ref a=>a
 | _=>0
section
variable {P:Program} {w:World} {K:W.Frag} {mg:Str->Option Value} {base:Heap} {f g c Pt:Addr} {fd gd:FuncData} {n:Nat} {C:Addr}
theorem a4Y {m q i:Nat} {S:Lp.Bo} (h:Sz 4000 m q S) (hi:i<m+1):∀ x∈x8 q S i,Big 4000 x:=λ x hx=>by
 unfold x8 at hx;obtain ⟨j,hj,rfl⟩:=aZ.mp hx;exact h.1 i j hi (cV.mp hj)
theorem a4T {fb:Addr} {db:FuncData} (F:Fun K "exchange" "Board.exchange" O6 f fd) (T:TB K C) (Cs:J3 P w K mg base n "swept" ["cells","lead","column","scale"] (a4t K) fb db) :
  FnOk P w K mg base K5 (n+1) f fd ["self","row","column"] (a2K C):=by
 refine F.ok scEx (λ vs H Q E h=>?_) (λ cdv A outer s H vs Q E hr h=>?_)
 ·obtain ⟨p,dx,ca,oa,ia,rs,m,q,S,r,c,rfl,_⟩:=h
  rfl
 obtain ⟨p,dx,ca,oa,ia,rs,m,q,S,r,c,rfl,B,hz,hrm,hc,hm,hq,hd,k⟩:=h;refine ⟨_,(exT Cs hr).2,?_⟩;obtain ⟨rl,er,ar⟩:=B.rs_at (i:=r) (by lia);have hrl:=B.row r rl er;have nrl:rl≠p:=A5 hrl B.obj (by intro z; cases z);have noa:oa≠p:=A5 B.out B.obj (by intro z; cases z);have nia:ia≠p:=A5 B.inn B.obj (by intro z; cases z);refine ⟨_,rfl,p,C,dx,_,_,rfl,B.obj,T.cl,T.nC,rfl,_,rfl,ca,_,_,_,rfl,rfl,SqL.of B.cel,ar,?_⟩;refine ⟨_,rfl,_,rfl,rl,_,_,_,rfl,rfl,SqL.of hrl,a0a (by lia),?_⟩;refine ⟨λ σ' H3=>∃ (l:Addr) (rs':List Addr),σ'=[some (.ref p),some (.int r),some (.int c),some (.ref rl),some (.int (S.T r c))]/\H3 p=some (.ins C dx (bdF q S.d l oa ia))/\H3 l=some (.lst (rs'.map V.ref))/\rs'.length=m+1/\H l=none ∧
  (∀ i a,rs'[i]?=some a->H a=none/\a≠l/\H3 a=some (.lst ((a0q (x8 q S i) (x8 q S r) c S.d).map V.int)))/\∀ b o,b≠p->H b=some o->H3 b=some o,?_,?_⟩
 ·refine ⟨_,rfl,p,C,dx,_,_,rfl,B.obj,T.cl,T.nC,rfl,ca,rfl,⟨_,SqL.of B.cel⟩,λ l hl=>?_⟩
  refine O3 (C2 (SqL.of B.cel)) hl (by rw [aA,B.len]; exact m8 (by lia)) (λ i y H2=>∃ a,y=.ref a/\H a=none/\a≠l/\H2 a=some (.lst ((a0q (x8 q S i) (x8 q S r) c S.d).map V.int)))
   (λ i y H2 H3 ⟨a,h1,h2,h3,h4⟩ e=>⟨a,h1,h2,h3,e a _ h3 h4⟩) (λ i x H2 ys N hx e hl2 hN=>?_) (λ ys H2 e hl2 len pr=>?_)
  ·rw [aE] at hx
   cases hri:rs[i]? with
   | none=>rw [hri] at hx; cases hx
   | some a =>
    rw [hri] at hx;have hx':V.ref a=x:=aJ hx;subst hx';have hi:i<m+1:=by rw [<- B.len]; exact (bQ.mp hri).1
    refine ⟨Wk.set (by decide),?_⟩;refine ⟨_,rfl,_,rfl,_,rfl,_,rfl,p,C,dx,_,_,rfl,e _ _ B.obj,T.cl,T.nS,rfl,?_⟩;refine ⟨a,rl,c,S.d,x8 q S i,x8 q S r,rfl,SqL.of (e _ _ (B.row i a hri)),SqL.of (e _ _ hrl),by rw [C7,C7],by rw [C7]; lia,by rw [C7]; lia,hd,hz.2,a4Y hz hi,a4Y hz (by lia),λ r' H3 s3 hn hr'=>?_⟩;refine hN _ _ s3 ⟨r',rfl,?_,λ z=>?_,hr'⟩
    ·cases q1:H r' with
     | none=>rfl
     | some o=>rw [e _ _ q1] at hn; cases hn
    ·rw [z,hl2] at hn; cases hn
  ·have hp2:=e _ _ B.obj
   have nlp:p≠l:=c8 B.obj hl;refine ⟨_,rfl,p,C,dx,_,rfl,hp2,T.cl,T.nC,(by show 5<1000; decide),?_⟩;have hys:ys=(ys.map a7F).map V.ref:=by
    rw [aW];refine bX λ i=>?_;rw [aE]
    cases qi:ys[i]? with
    | none=>rfl
    | some y =>
     obtain ⟨a,rfl,_⟩:=pr i y qi;rfl
   refine ⟨l,ys.map a7F,rfl,upd_same,by rw [c9 nlp.symm,hl2]; rw [<- hys],by rw [aA,len,aA,B.len],hl,λ i a hi=>?_,λ b o hb hbo=>by rw [c9 hb]; exact e _ _ hbo⟩;rw [aE] at hi
   cases qi:ys[i]? with
   | none=>rw [qi] at hi; cases hi
   | some y =>
    obtain ⟨a',rfl,h2,h3,h4⟩:=pr i y qi;rw [qi] at hi;have:a'=a:=aJ hi;subst this;refine ⟨h2,h3,?_⟩;rw [c9 (λ z=>by rw [z,hp2] at h4; cases h4)];exact h4
 ·intro σ' H3 hM_; refine N1 λ G_ hG_=>?_; obtain ⟨l,rs',rfl,hp,hl,hlen,hl0,hrs,hk⟩:=hM_; subst hG_
  have hr3:=hk rl _ nrl hrl;have lr:((x8 q S r).map V.int).length=q+1:=by rw [aA,C7]
  refine ⟨_,rfl,_,rfl,_,rfl,rl,_,rfl,SqL.of hr3,λ a1 h1=>?_⟩;have e1:=Same.new h1 (.lst (U2 ((x8 q S r).map V.int) none (some (c:Int))));refine ⟨_,rfl,p,C,dx,_,_,rfl,e1 _ _ hp,T.cl,T.nS,rfl,(by show 1<=sizeLine; decide),λ a2 h2=>?_⟩;have e2:=e1.trans (Same.new h2 (.lst [.int S.d]));have n12:a1≠a2:=c8 upd_same h2;refine ⟨a1,a2,_,_,rfl,rfl,(by rw [c9 n12]; exact upd_same),upd_same,?_,λ a3 h3=>?_⟩
  ·rw [a0p _ _ (by rw [lr]; lia),cI,lr]
   have:=m8 (show c+1<=1000 by lia);simp;lia
  have e3:=e2.trans (Same.new h3 (.lst (U2 ((x8 q S r).map V.int) none (some (c:Int))++[.int S.d])));refine ⟨_,rfl,_,rfl,_,_,rfl,rfl,_,rfl,rl,_,rfl,SqL.of (e3 _ _ hr3),λ a4 h4=>?_⟩;have e4:=e3.trans (Same.new h4 (.lst (U2 ((x8 q S r).map V.int) (some ((c:Int)+1)) none)));have n34:a3≠a4:=c8 upd_same h4;have c1:U2 ((x8 q S r).map V.int) none (some (c:Int))=((x8 q S r).map V.int).take c:=a0p _ _ (by rw [lr]; lia);have c2:U2 ((x8 q S r).map V.int) (some ((c:Int)+1)) none=((x8 q S r).map V.int).drop (c+1):=by
   have:=U0 ((x8 q S r).map V.int) (c+1) (by rw [lr]; lia);rw [<- this]; rfl
  refine ⟨a3,a4,_,_,rfl,rfl,(by rw [c9 n34]; exact upd_same),upd_same,?_,λ a5 h5=>?_⟩
  ·rw [c1,c2,aI,cI,dL,lr]
   have:=m8 (show q+1<=1000 by lia);simp;lia
  have hrow:(U2 ((x8 q S r).map V.int) none (some (c:Int))++[.int S.d])++U2 ((x8 q S r).map V.int) (some ((c:Int)+1)) none=(x8 q (Lp.piv S r c) r).map V.int:=by rw [c1,c2,a9F hc]
  have h5n:H3 a5=none:=by
   cases z:H3 a5 with
   | none=>rfl
   | some o=>rw [e4 _ _ z] at h5; cases h5
  have e5:=e4.trans (Same.new h5 (.lst ((U2 ((x8 q S r).map V.int) none (some (c:Int))++[.int S.d])++U2 ((x8 q S r).map V.int) (some ((c:Int)+1)) none)));have u5:∀ H4:Hp,r9 H4 a5 (.lst ((U2 ((x8 q S r).map V.int) none (some (c:Int))++[.int S.d])++U2 ((x8 q S r).map V.int) (some ((c:Int)+1)) none)) a5=some (.lst ((x8 q (Lp.piv S r c) r).map V.int)):=λ H4=>upd_same.trans (congrArg (λ z=>some (HO.lst z)) hrow);have oa3:=hk oa _ noa B.out;have ia3:=hk ia _ nia B.inn;have nlp:l≠p:=(c8 B.obj hl0).symm;have nlo:l≠oa:=(c8 B.out hl0).symm;have nli:l≠ia:=(c8 B.inn hl0).symm;have n5p:a5≠p:=(c8 hp h5n).symm;have n5l:a5≠l:=(c8 hl h5n).symm;have n5o:a5≠oa:=(c8 oa3 h5n).symm;have n5i:a5≠ia:=(c8 ia3 h5n).symm;have lrs:(rs'.map V.ref).length=m+1:=by rw [aA]; exact hlen
  refine ⟨_,rfl,p,C,dx,_,_,rfl,e5 _ _ hp,T.cl,T.nC,rfl,_,rfl,l,_,_,r,rfl,rfl,e5 _ _ hl,a2A (by rw [lrs]; lia),?_⟩;refine ⟨_,rfl,_,rfl,p,C,dx,_,rfl,(by rw [c9 nlp.symm]; exact e5 _ _ hp),T.cl,T.nS,(by show 5<1000; decide),?_⟩;refine ⟨_,rfl,p,C,dx,_,_,rfl,upd_same,T.cl,T.nO,rfl,_,rfl,oa,_,_,_,rfl,rfl,SqL.of (by rw [c9 noa,c9 nlo.symm]; exact e5 _ _ oa3),a2G hc,?_⟩;refine ⟨_,rfl,p,C,dx,_,_,rfl,upd_same,T.cl,T.nI,rfl,_,rfl,ia,_,_,_,rfl,rfl,SqL.of (by rw [c9 nia,c9 nli.symm]; exact e5 _ _ ia3),a1U hrm,(by show 2<=sizeLine; decide),λ t ht=>?_⟩;have ntp:t≠p:=(c8 upd_same ht).symm;have ntl:t≠l:=by
   refine (c8 (H:=_) (o:=.lst ((rs'.map V.ref).set r (.ref a5))) ?_ ht).symm;rw [c9 nlp,upd_same]
  have nto:t≠oa:=by
   refine (c8 (H:=_) (o:=.lst ((K9 q S).map V.int)) ?_ ht).symm;rw [c9 noa,c9 nlo.symm]; exact e5 _ _ oa3
  have nti:t≠ia:=by
   refine (c8 (H:=_) (o:=.lst ((Q4 m S).map V.int)) ?_ ht).symm;rw [c9 nia,c9 nli.symm]; exact e5 _ _ ia3
  refine ⟨t,_,rfl,SqT.of upd_same,rfl,?_⟩;refine ⟨_,_,rfl,_,rfl,p,C,dx,_,_,rfl,(by rw [c9 ntp.symm]; exact upd_same),T.cl,T.nI,rfl,_,rfl,ia,_,_,r,rfl,rfl,(by rw [c9 nti.symm,c9 nia,c9 nli.symm]; exact e5 _ _ ia3),a2A (by unfold Q4; simp; lia),?_⟩;refine ⟨_,_,rfl,_,rfl,p,C,dx,_,_,rfl,(by rw [c9 nia.symm,c9 ntp.symm]; exact upd_same),T.cl,T.nO,rfl,_,rfl,oa,_,_,c,rfl,rfl,(by rw [c9 B.ne,c9 nto.symm,c9 noa,c9 nlo.symm]; exact e5 _ _ oa3),a2A (by unfold K9; simp; lia),rfl,?_⟩;refine k _ l (rs'.set r a5) ⟨?_,?_,by rw [cC]; exact hlen,λ i a hi=>?_,?_,?_,B.ne⟩ λ b o hb hbo hbi hH=>?_
  ·rw [c9 noa.symm,c9 nia.symm,c9 ntp.symm,upd_same]; rfl
  ·rw [c9 nlo,c9 nli,c9 ntl.symm,c9 nlp,upd_same,jZ]
  ·by_cases hir:i=r
   ·subst hir
    rw [bZ (by rw [hlen]; lia)] at hi;have:a5=a:=aJ hi;subst this;have n5t:a5≠t:=by
     refine c8 (H:=_) (o:=.lst ((x8 q (Lp.piv S i c) i).map V.int)) ?_ ht;rw [c9 n5p,c9 n5l]; exact u5 _
    rw [c9 n5o,c9 n5i,c9 n5t,c9 n5p,c9 n5l];exact u5 _
   ·rw [bM (aS hir)] at hi
    obtain ⟨g1,g2,g3⟩:=hrs i a hi;have nap:a≠p:=(c8 B.obj g1).symm;have nao:a≠oa:=(c8 B.out g1).symm;have nai:a≠ia:=(c8 B.inn g1).symm;have g5:=e5 _ _ g3;have nat:a≠t:=by
     refine c8 (H:=_) (o:=.lst ((a0q (x8 q S i) (x8 q S r) c S.d).map V.int)) ?_ ht;rw [c9 nap,c9 g2]; exact g5
    rw [c9 nao,c9 nai,c9 nat,c9 nap,c9 g2,<- a8e hir hc];exact g5
  ·rw [upd_same,a8M hc]
  ·rw [c9 B.ne.symm,upd_same,b1E hrm]
  ·have h3:=hk b o hb hH
   have nbl:b≠l:=c8 hH hl0;have nbt:b≠t:=by
    refine c8 (H:=_) (o:=o) ?_ ht;rw [c9 hb,c9 nbl]; exact e5 _ _ h3
   rw [c9 hbo,c9 hbi,c9 nbt,c9 hb,c9 nbl];exact e5 _ _ h3
end
theorem a2P {g:Nat->Int}:∀ {n:Nat},(∀ k,k<n->g k=0)->Lp.sumTo g n=0
 | 0,_=>rfl
 | n+1,h=>by
  show Lp.sumTo g n+g n=0
  rw [a2P λ k hk=>h k (by lia),h n (by lia)]; rfl
def b1H (q:Nat) (S:Lp.Bo) (k v:Nat):Int:=Lp.sumTo (λ i=>if S.ins i=v then S.T i q else 0) k
def a6W (m:Nat) (S:Lp.Bo) (k v:Nat):Int:=Lp.sumTo (λ j=>if S.outs j=v then S.T m j else 0) k
def u9 (m q:Nat) (S:Lp.Bo):List Int:=(aH q).map λ v=>Lp.valIn m S q v
def K6 (m q:Nat) (S:Lp.Bo):List Int:=(aH m).map λ i=>Lp.valOut m q S (q+i)
theorem a5j (k:Nat):(aL k [V.int 0]).flatten=(aH k).map λ _=>V.int 0:=by
 induction k with
 | zero=>rfl
 | succ k ih=>rw [List.replicate_succ',List.flatten_append,ih,kC,bP]; rfl
theorem b0P {n v:Nat} {F G:Nat->Int} {x:Int} (hv:G v=x) (h:∀ u,u<n->u≠v->F u=G u):((aH n).map λ u=>V.int (F u)).set v (.int x)=(aH n).map λ u=>V.int (G u):=by
 refine bX λ j=>?_
 by_cases hj:j<n
 ·by_cases e:j=v
  ·subst e
   rw [bZ (by simp; lia),aE,bF hj,eP,hv]
  ·rw [bM (aS e),aE,aE,bF hj,eP,eP,h j hj e]
 ·rw [bH (by simp; lia),bH (by simp; lia)]
section
variable {P:Program} {w:World} {K:W.Frag} {mg:Str->Option Value} {base:Heap} {f g c Pt:Addr} {fd gd:FuncData} {n:Nat} {C:Addr}
def a8O (C:Addr):Sp:=λ vs H Q _=>∃ (p dx ca oa ia:Addr) (rs:List Addr) (m q:Nat) (S:Lp.Bo),vs=[.ref p]/\Bd C H p dx ca oa ia rs m q S/\m<900/\q<900/\(∀ i k,i<m->k<m->S.ins i=S.ins k->i=k) ∧
 ∀ (r:Addr) (H':Hp),Same H H'->H r=none->H' r=some (.lst ((u9 m q S).map V.int))->Q (.ref r) H'
theorem scAmts:i9 ["self","told","row","number"] ["self"] (d0 b0V):=⟨rfl,rfl,rfl,by decide +kernel,rfl,by decide +kernel,by decide +kernel⟩
theorem b1l (F:Fun K "amounts" "Board.amounts" b0V f fd) (N:v7 mg) (T:TB K C):FnOk P w K mg base K5 (n+1) f fd ["self"] (a8O C):=by
 refine F.ok scAmts (λ vs H Q E h=>?_) (λ cdv A outer s H vs Q E hr h=>?_)
 ·obtain ⟨p,dx,ca,oa,ia,rs,m,q,S,rfl,_⟩:=h
  rfl
 obtain ⟨p,dx,ca,oa,ia,rs,m,q,S,rfl,B,hm,hq,inj,k⟩:=h;refine ⟨_,d9 (p7 (i:=1) scAmts.nd rfl (aC rfl) (j7 a1q (x4 (c6 e8 c7)) (r8 (pv 0) rfl)))
  (d9 (a1s PassesOwn.never rfl (a6Q K rfl rfl N.enum (c6 (r8 (pv 0) rfl) c7)) (a0x K (n:=2) rfl rfl (j5 (j0 (i:=2) scAmts.nd rfl (aC rfl)) (j5 (j0 (i:=3) scAmts.nd rfl (aC rfl)) y4)))
   (e7 (w4 (j8 a0S (pv 3) (r8 (pv 0) rfl) (m9 _)) (e7 (C3 (p6 m6 (p6 m6 (r8 (pv 0) rfl) (pv 2) (λ _ _=>rfl)) (P4 G7 e8) (λ _ _=>rfl)) (a1x (pv 1) (pv 3) T0))) m7)))
  (e7 (j6 (pv 1)))),?_⟩
 have sl:=m8 (show q<=1000 by lia);refine ⟨(by show 1<=sizeLine; decide),λ z hz=>?_⟩;have ez:=Same.new hz (.lst [.int 0]);refine ⟨_,rfl,p,C,dx,_,_,rfl,ez _ _ B.obj,T.cl,T.nM,rfl,z,_,_,rfl,rfl,upd_same,(by lia),(by lia),(by rw [bR]; simp; lia),λ tl htl=>?_⟩;rw [bR,a5j];have htn:H tl=none:=by
  cases q1:H tl with
  | none=>rfl
  | some o=>rw [ez _ _ q1] at htl; cases htl
 have e0:Same H (r9 (r9 H z (.lst [.int 0])) tl (.lst ((aH q).map λ _=>V.int 0))):=ez.write htn;refine ⟨_,rfl,p,C,dx,_,_,rfl,e0 _ _ B.obj,T.cl,T.nI,rfl,ia,rfl,⟨_,SqL.of (e0 _ _ B.inn)⟩,?_⟩;have li:((Q4 m S).map V.int).length=m:=by unfold Q4; simp
 refine a5m (xs:=(Q4 m S).map V.int) (i1:=2) (i2:=3) (λ j σ H'=>∃ o2 o3:Option V,σ=[some (.ref p),some (.ref tl),o2,o3]/\Same H H'/\H' tl=some (.lst ((aH q).map λ v=>V.int (b1H q S j v))))
  ⟨_,_,rfl,e0,by rw [upd_same]; rfl⟩ (λ j σ H' ⟨_,_,_,e,_⟩=>SqL.of (e _ _ B.inn)) ?_ ?_
 ·rintro j x σ H1 qq hx ⟨o2,o3,rfl,e1,ht⟩ hqq
  have hj:j<m:=by rw [<- li]; exact (bQ.mp hx).1
  have hx':x=.int (S.ins j):=by
   have:=(y8 hx).symm.trans (a1U (S:=S) hj);exact aJ this
  subst hx';have s1:=Same.new hqq (.tup [V.int (j:Int),.int (S.ins j)]);have e2:=e1.trans s1;have ht2:=s1 _ _ ht;refine ⟨_,rfl,_,rfl,p,C,dx,_,_,rfl,e2 _ _ B.obj,T.cl,T.nM,rfl,_,_,rfl,rfl,_,rfl,?_⟩;have st:∀ v,b1H q S (j+1) v=b1H q S j v+(if S.ins j=v then S.T j q else 0):=λ v=>rfl;refine A2 (λ d=>?_) (λ d=>?_)
  ·have d':S.ins j<q:=by have:=of_decide_eq_true d; lia
   obtain ⟨rj,erj,arj⟩:=B.rs_at (i:=j) (by lia);refine ⟨_,rfl,p,C,dx,_,_,rfl,e2 _ _ B.obj,T.cl,T.nC,rfl,_,rfl,ca,_,_,_,rfl,rfl,SqL.of (e2 _ _ B.cel),arj,_,rfl,rj,_,_,_,rfl,rfl,SqL.of (e2 _ _ (B.row j rj erj)),Z2,?_⟩;refine ⟨_,rfl,_,rfl,tl,_,_,S.ins j,rfl,rfl,ht2,a2A (by simp; lia),?_⟩;refine ⟨_,_,rfl,e2.write htn,?_⟩;rw [upd_same]
   congr 2
   refine b0P ?_ λ u hu hne=>?_
   ·rw [st,if_pos rfl]
    have:b1H q S j (S.ins j)=0:=a2P λ i hi=>if_neg λ z=>absurd (inj i j (by lia) hj z) (by lia);rw [this]; lia
   ·rw [st,if_neg (aS hne)]; lia
  ·have d':¬ S.ins j<q:=λ z=>d (decide_eq_true (by lia))
   refine ⟨_,_,rfl,e2,?_⟩;rw [ht2]
   congr 2
   refine cU λ v hv=>?_;rw [st,if_neg (λ z=>d' (by rw [z]; exact cV.mp hv)),dP]
 ·intro σ H1 hM_; refine N1 λ G_ hG_=>?_; obtain ⟨o2,o3,rfl,e1,ht⟩:=hM_; subst hG_
  rw [li] at ht;refine ⟨_,rfl,k tl H1 e1 htn ?_⟩;rw [ht];unfold u9;rw [aW]; rfl
def b2U (C:Addr):Sp:=λ vs H Q _=>∃ (p dx ca oa ia:Addr) (rs:List Addr) (m q:Nat) (S:Lp.Bo),vs=[.ref p]/\Bd C H p dx ca oa ia rs m q S/\m<900/\q<900/\(∀ j k,j<q->k<q->S.outs j=S.outs k->j=k)/\(∀ j,j<q->S.outs j<q+m) ∧
 ∀ (r:Addr) (H':Hp),Same H H'->H r=none->H' r=some (.lst ((K6 m q S).map V.int))->Q (.ref r) H'
theorem scWts:i9 ["self","told","column","number"] ["self"] (d0 b3L):=⟨rfl,rfl,rfl,by decide +kernel,rfl,by decide +kernel,by decide +kernel⟩
theorem b3m (F:Fun K "weights" "Board.weights" b3L f fd) (N:v7 mg) (T:TB K C):FnOk P w K mg base K5 (n+1) f fd ["self"] (b2U C):=by
 refine F.ok scWts (λ vs H Q E h=>?_) (λ cdv A outer s H vs Q E hr h=>?_)
 ·obtain ⟨p,dx,ca,oa,ia,rs,m,q,S,rfl,_⟩:=h
  rfl
 obtain ⟨p,dx,ca,oa,ia,rs,m,q,S,rfl,B,hm,hq,inj,ob,k⟩:=h;refine ⟨_,d9 (p7 (i:=1) scWts.nd rfl (aC rfl) (j7 a1q (x4 (c6 e8 c7)) (i8 i7 rfl N.len aR (c6 (r8 (pv 0) rfl) c7))))
  (d9 (a1s PassesOwn.never rfl (a6Q K rfl rfl N.enum (c6 (r8 (pv 0) rfl) c7)) (a0x K (n:=2) rfl rfl (j5 (j0 (i:=2) scWts.nd rfl (aC rfl)) (j5 (j0 (i:=3) scWts.nd rfl (aC rfl)) y4)))
   (e7 (w4 (j8 a9B (pv 3) (r8 (pv 0) rfl) (m9 _)) (e7 (C3 (p6 m6 (p6 m6 (r8 (pv 0) rfl) (P4 G7 e8) (λ _ _=>rfl)) (pv 2) (λ _ _=>rfl)) (a1x (pv 1) (j7 a6g (pv 3) (r8 (pv 0) rfl)) T0))) m7)))
  (e7 (j6 (pv 1)))),?_⟩
 have sl:=m8 (show m<=1000 by lia);have li:((Q4 m S).map V.int).length=m:=by unfold Q4; simp
 have lo:((K9 q S).map V.int).length=q:=by unfold K9; simp
 refine ⟨(by show 1<=sizeLine; decide),λ z hz=>?_⟩;have ez:=Same.new hz (.lst [.int 0]);refine ⟨_,rfl,p,C,dx,_,_,rfl,ez _ _ B.obj,T.cl,T.nI,rfl,ia,_,rfl,.inl (SqL.of (ez _ _ B.inn)),z,_,_,rfl,rfl,upd_same,(by lia),(by lia),(by rw [li,bR]; simp; lia),λ tl htl=>?_⟩;rw [li,bR,a5j];have htn:H tl=none:=by
  cases q1:H tl with
  | none=>rfl
  | some o=>rw [ez _ _ q1] at htl; cases htl
 have e0:Same H (r9 (r9 H z (.lst [.int 0])) tl (.lst ((aH m).map λ _=>V.int 0))):=ez.write htn;refine ⟨_,rfl,p,C,dx,_,_,rfl,e0 _ _ B.obj,T.cl,T.nO,rfl,oa,rfl,⟨_,SqL.of (e0 _ _ B.out)⟩,?_⟩;refine a5m (xs:=(K9 q S).map V.int) (i1:=2) (i2:=3) (λ j σ H'=>∃ o2 o3:Option V,σ=[some (.ref p),some (.ref tl),o2,o3]/\Same H H'/\H' tl=some (.lst ((aH m).map λ v=>V.int (a6W m S j (q+v)))))
  ⟨_,_,rfl,e0,by rw [upd_same]; rfl⟩ (λ j σ H' ⟨_,_,_,e,_⟩=>SqL.of (e _ _ B.out)) ?_ ?_
 ·rintro j x σ H1 qq hx ⟨o2,o3,rfl,e1,ht⟩ hqq
  have hj:j<q:=by rw [<- lo]; exact (bQ.mp hx).1
  have hx':x=.int (S.outs j):=by
   have:=(y8 hx).symm.trans (a2G (S:=S) hj);exact aJ this
  subst hx';have s1:=Same.new hqq (.tup [V.int (j:Int),.int (S.outs j)]);have e2:=e1.trans s1;have ht2:=s1 _ _ ht;refine ⟨_,rfl,_,rfl,p,C,dx,_,_,rfl,e2 _ _ B.obj,T.cl,T.nM,rfl,_,_,rfl,rfl,_,rfl,?_⟩;have st:∀ v,a6W m S (j+1) v=a6W m S j v+(if S.outs j=v then S.T m j else 0):=λ v=>rfl;have hob:=ob j hj;refine A2 (λ d=>?_) (λ d=>?_)
  ·have d':q<=S.outs j:=by have:=of_decide_eq_true d; lia
   obtain ⟨rm,erm,arm⟩:=B.rs_last;refine ⟨_,rfl,p,C,dx,_,_,rfl,e2 _ _ B.obj,T.cl,T.nC,rfl,_,rfl,ca,_,_,_,rfl,rfl,SqL.of (e2 _ _ B.cel),arm,_,rfl,rm,_,_,_,rfl,rfl,SqL.of (e2 _ _ (B.row m rm erm)),a0a (by lia),?_⟩;refine ⟨_,rfl,_,rfl,_,rfl,p,C,dx,_,_,rfl,e2 _ _ B.obj,T.cl,T.nM,rfl,_,_,rfl,rfl,tl,_,_,S.outs j - q,rfl,rfl,ht2,?_,?_⟩
   ·rw [show ((S.outs j:Int) - (q:Int))=((S.outs j - q:Nat):Int) by lia]
    exact a2A (by simp; lia)
   refine ⟨_,_,rfl,e2.write htn,?_⟩;rw [upd_same]
   congr 2
   refine b0P ?_ λ u hu hne=>?_
   ·rw [st,if_pos (by lia)]
    have:a6W m S j (q+(S.outs j - q))=0:=a2P λ i hi=>if_neg λ z=>absurd (inj i j (by lia) hj (by lia)) (by lia);rw [this]; lia
   ·rw [st,if_neg (by lia)]; lia
  ·have d':¬ q<=S.outs j:=λ z=>d (decide_eq_true (by lia))
   refine ⟨_,_,rfl,e2,?_⟩;rw [ht2]
   congr 2
   refine cU λ v hv=>?_;rw [st,if_neg (by lia),dP]
 ·intro σ H1 hM_; refine N1 λ G_ hG_=>?_; obtain ⟨o2,o3,rfl,e1,ht⟩:=hM_; subst hG_
  rw [lo] at ht;refine ⟨_,rfl,k tl H1 e1 htn ?_⟩;rw [ht];unfold K6;rw [aW]; rfl
end
def Arr (rows:List (List Int)):Nat->Nat->Int:=λ i j=>(rows.getD i []).getD j 0
def L7 (l:List Int):Nat->Int:=λ i=>l.getD i 0
abbrev RowsL (K:W.Frag) (H:Hp):List V->List (List Int)->Prop:=aN λ v row=>∃ a,v=.ref a/\SqL K H a (row.map V.int)
section
variable {P:Program} {w:World} {K:W.Frag} {mg:Str->Option Value} {base:Heap} {f g c Pt:Addr} {fd gd:FuncData} {n:Nat} {C:Addr}
def a9L (K:W.Frag) (C:Addr):Sp:=λ vs H Q _=>∃ (p dx ga ra ba:Addr) (goal:List Int) (rvs:List V) (rows:List (List Int)) (bounds:List Int) (m q:Nat),vs=[.ref p,.ref ga,.ref ra,.ref ba]/\H p=some (.ins C dx [])/\SqL K H ga (goal.map V.int)/\SqL K H ra rvs ∧
 RowsL K H rvs rows/\SqL K H ba (bounds.map V.int)/\rows.length=m/\bounds.length=m/\goal.length=q/\(∀ r∈rows,r.length=q)/\m<900/\q<900 ∧
 ∀ (H':Hp) (ca oa ia:Addr) (rs:List Addr),Bd C H' p dx ca oa ia rs m q (Lp.S0 m q (Arr rows) (L7 bounds) (L7 goal))->(∀ b o,b≠p->H b=some o->H' b=some o)->H oa=none->H ia=none->Q .non H'
theorem b3Z:i9 ["self","goal","rows","bounds"] ["self","goal","rows","bounds"] (d0 a4V):=⟨rfl,rfl,rfl,by decide +kernel,rfl,by decide +kernel,by decide +kernel⟩
theorem b5M:(["row","bound"]:List Str).Nodup:=by decide +kernel
theorem b6G:(["one"]:List Str).Nodup:=by decide +kernel
noncomputable def b5K {cdv:Value} {A:Around} {outer:List Env} {s:Shared} {H:Hp} {E:XK} (N:v7 mg) :
  { t:TS // PSs (M3 K5 P w K mg base ["self","goal","rows","bounds"] "Board.__init__" (d0 a4V) f cdv A outer s H E).nox (t9 a4V) t } :=
 ⟨_,d9 (R9 (pv 0) (i8 i7 rfl N.len aR (c6 (pv 1) c7)) rfl)
  (d9 (R9 (pv 0) e8 rfl)
  (v5 (R9 (pv 0) (R1 ["row","bound"] [] rfl (a8L true true K rfl rfl N.zip (c6 (pv 2) (c6 (pv 3) c7)))
   (λ _ _ _ _=>a0x K (n:=2) rfl rfl (j5 (j0 (i:=0) b5M rfl (aC rfl)) (j5 (j0 (i:=1) b5M rfl (aC rfl)) y4)))
   (λ _ _ _ _=>j7 A6 (p8 (a6P K rfl) rfl N.list eE (c6 (pv 0) c7)) (x4 (c6 (pv 1) c7)))) rfl)
  (v5 (J5 (T8 eQ fQ fR O4 (r8 (pv 0) rfl)
   (c6 (j7 A6 (R1 ["one"] [] rfl (G2 (pv 1)) (λ _ _ _ _=>j0 (i:=0) b6G rfl (aC rfl)) (λ _ _ _ _=>P4 G7 (pv 0))) (x4 (c6 e8 c7))) c7)))
  (d9 (R9 (pv 0) (p8 (a0l rfl) rfl N.list eE (c6 (p8 a7Y rfl N.range kF (c6 (r8 (pv 0) rfl) c7)) c7)) rfl)
  (e7 (R9 (pv 0) (p8 (a0l rfl) rfl N.list eE (c6 (p8 a7W rfl N.range kF (c6 (r8 (pv 0) rfl) (c6 (j7 G4 (r8 (pv 0) rfl) (i8 i7 rfl N.len aR (c6 (pv 2) c7))) c7))) c7)) rfl))))))⟩
end
theorem b3y {m q i:Nat} {rows:List (List Int)} {bounds goal row:List Int} {b:Int} (hr:rows[i]?=some row) (hb:bounds[i]?=some b) (hl:row.length=q) (hi:i<m) :
  row++[b]=x8 q (Lp.S0 m q (Arr rows) (L7 bounds) (L7 goal)) i:=by
 refine bX λ j=>?_;unfold x8
 by_cases hj:j<q+1
 ·rw [aE,bF hj,eP]
  have hT:(Lp.S0 m q (Arr rows) (L7 bounds) (L7 goal)).T i j=if j<q then Arr rows i j else L7 bounds i:=by
   show (if j<q then (if i<m then _ else _) else (if i<m then _ else _))=_
   rw [if_pos hi,if_pos hi]
  rw [hT]
  by_cases h:j<q
  ·rw [bV (by lia),if_pos h]
   unfold Arr;rw [aM,aM,hr,dN,aG (by lia),dN]
  ·rw [cP (by lia),if_neg h,hl,show j - q=0 by lia]
   unfold L7;rw [aM,hb]; rfl
 ·rw [bH (by simp; lia),bH (by simp; lia)]
theorem b1b {m q:Nat} {rows:List (List Int)} {bounds goal:List Int} (hl:goal.length=q):goal.map (λ x=>-x)++[0]=x8 q (Lp.S0 m q (Arr rows) (L7 bounds) (L7 goal)) m:=by
 refine bX λ j=>?_;unfold x8
 by_cases hj:j<q+1
 ·rw [aE,bF hj,eP]
  have hT:(Lp.S0 m q (Arr rows) (L7 bounds) (L7 goal)).T m j=if j<q then - L7 goal j else 0:=by
   show (if j<q then (if m<m then _ else _) else (if m<m then _ else _))=_
   rw [if_neg (bL _),if_neg (bL _)]
  rw [hT]
  by_cases h:j<q
  ·rw [bV (by simp; lia),if_pos h,aE]
   unfold L7;rw [aM,aG (by lia),eP,dN]
  ·rw [cP (by simp; lia),if_neg h,aA,hl,show j - q=0 by lia]; rfl
 ·rw [bH (by simp; lia),bH (by simp; lia)]
theorem b2v {m q:Nat} {A:Nat->Nat->Int} {b c:Nat->Int}:((aH q).map λ (i:Nat)=>V.int (0+(i:Int)))=(K9 q (Lp.S0 m q A b c)).map V.int:=by
 unfold K9;rw [aW];refine cU λ j hj=>?_;have h:(Lp.S0 m q A b c).outs j=j:=if_pos (cV.mp hj);simp [h]
theorem b4B {m q:Nat} {A:Nat->Nat->Int} {b c:Nat->Int}:((aH m).map λ (i:Nat)=>V.int ((q:Int)+(i:Int)))=(Q4 m (Lp.S0 m q A b c)).map V.int:=by
 unfold Q4;rw [aW];refine cU λ j hj=>?_;have h:(Lp.S0 m q A b c).ins j=q+j:=rfl;simp [h]
section
variable {P:Program} {w:World} {K:W.Frag} {mg:Str->Option Value} {base:Heap} {f g c Pt:Addr} {fd gd:FuncData} {n:Nat} {C:Addr}
theorem Y2 {H H':Hp} {a p:Addr} {xs:List V} {C dx:Addr} {fs:List (Str×V)} (hp:H p=some (.ins C dx fs)) (e:∀ b o,b≠p->H b=some o->H' b=some o) (h:SqL K H a xs):SqL K H' a xs:=by
 rcases h with (h | ⟨o,h⟩) | h
 ·exact .inl (.inl (e _ _ (A5 h hp (by intro z; cases z)) h))
 ·exact .inl (.inr ⟨o,e _ _ (A5 h hp (by intro z; cases z)) h⟩)
 ·exact .inr h
theorem b1N (F:Fun K "__init__" "Board.__init__" a4V f fd) (N:v7 mg) (T:TB K C):FnOk P w K mg base K5 (n+1) f fd ["self","goal","rows","bounds"] (a9L K C):=by
 refine F.ok b3Z (λ vs H Q E h=>?_) (λ cdv A outer s H vs Q E hr h=>?_)
 ·obtain ⟨p,dx,ga,ra,ba,goal,rvs,rows,bounds,m,q,rfl,_⟩:=h
  rfl
 obtain ⟨p,dx,ga,ra,ba,goal,rvs,rows,bounds,m,q,rfl,hp,hg,hra,hrw,hba,lr,lb,lg,hrl,hm,hq,k⟩:=h;refine ⟨_,(b5K N).2,?_⟩;have lv:rvs.length=m:=by rw [<- lr]; exact Paired.length hrw
 have k1:∀ b o,b≠p->H b=some o->r9 (r9 H p (.ins C dx [("many",.int q)])) p (.ins C dx [("many",.int q),("scale",.int 1)]) b=some o:=λ b o hb e=>by rw [c9 hb,c9 hb]; exact e
 refine ⟨_,rfl,ga,_,rfl,.inl hg,_,rfl,p,C,dx,_,rfl,hp,T.cl,T.nM,(by show 0<1000; decide),?_⟩;rw [aA,lg];refine ⟨_,rfl,p,C,dx,_,rfl,upd_same,T.cl,T.nS,(by show 1<1000; decide),?_⟩;refine ⟨λ σ' H4=>∃ (l:Addr) (rs:List Addr),σ'=[some (.ref p),some (.ref ga),some (.ref ra),some (.ref ba)]/\H4 p=some (.ins C dx [("many",.int q),("scale",.int 1),("cells",.ref l)])/\H4 l=some (.lst (rs.map V.ref))/\rs.length=m/\H l=none ∧
  (∀ i a,rs[i]?=some a->a≠l/\H4 a=some (.lst ((x8 q (Lp.S0 m q (Arr rows) (L7 bounds) (L7 goal)) i).map V.int)))/\∀ b o,b≠p->H b=some o->H4 b=some o,?_,?_⟩
 ·refine ⟨_,rfl,_,rfl,ra,ba,rfl,⟨_,Y2 hp k1 hra⟩,⟨_,Y2 hp k1 hba⟩,λ l hl=>?_⟩
  have nlp:p≠l:=c8 upd_same hl;have hl0:H l=none:=by
   rw [c9 nlp.symm,c9 nlp.symm] at hl; exact hl
  refine a6m (Y2 hp k1 hra) (Y2 hp k1 hba) hl (by rw [lv]; exact m8 (by lia)) (λ i y H2=>∃ a,y=.ref a/\a≠l/\H2 a=some (.lst ((x8 q (Lp.S0 m q (Arr rows) (L7 bounds) (L7 goal)) i).map V.int)))
   (λ i y H2 H3 ⟨a,h1,h2,h3⟩ e=>⟨a,h1,h2,e a _ h2 h3⟩) (λ i x y H2 zs N' hx hy e hl2 hN=>?_) (λ zs H2 e hl2 len pr=>?_)
  ·obtain ⟨row,hrow,⟨a,rfl,ha⟩⟩:=Paired.at hrw hx
   rw [aE] at hy
   cases hbi:bounds[i]? with
   | none=>rw [hbi] at hy; cases hy
   | some b =>
    rw [hbi] at hy;have hy':V.int b=y:=aJ hy;subst hy';have hi:i<m:=by rw [<- lb]; exact (bQ.mp hbi).1
    have hlen:=hrl row (bE hrow);have ha2:SqL K H2 a (row.map V.int):=e.seq (Y2 hp k1 ha);refine ⟨_,rfl,a,_,rfl,.inl ha2,λ a1 h1=>?_⟩;have s1:=Same.new h1 (.lst (row.map V.int));refine ⟨_,rfl,(by show 1<=sizeLine; decide),λ a2 h2=>?_⟩;have s2:=s1.trans (Same.new h2 (.lst [.int b]));have n12:a1≠a2:=c8 upd_same h2;refine ⟨a1,a2,_,_,rfl,rfl,(by rw [c9 n12]; exact upd_same),upd_same,?_,λ a3 h3=>?_⟩
    ·rw [aA,hlen]
     have:=m8 (show q+1<=1000 by lia);simp;lia
    ·refine hN _ _ (s2.trans (Same.new h3 _)) ⟨a3,rfl,λ z=>?_,?_⟩
     ·rw [z,s2 _ _ hl2] at h3; cases h3
     ·rw [upd_same,<- b3y hrow hbi hlen hi,bP]; rfl
  ·have hp2:=e _ _ (upd_same (H:=r9 H p (.ins C dx [("many",.int q)])) (a:=p) (o:=.ins C dx [("many",.int q),("scale",.int 1)]))
   refine ⟨_,rfl,p,C,dx,_,rfl,hp2,T.cl,T.nC,(by show 2<1000; decide),?_⟩;have hzs:zs=(zs.map a7F).map V.ref:=by
    rw [aW];refine bX λ i=>?_;rw [aE]
    cases qi:zs[i]? with
    | none=>rfl
    | some y =>
     obtain ⟨a,rfl,_⟩:=pr i y qi;rfl
   refine ⟨l,zs.map a7F,rfl,upd_same,by rw [c9 nlp.symm,hl2]; rw [<- hzs],by rw [aA,len,lv,aA,lb]; lia,hl0,λ i a hi=>?_,λ b o hb hbo=>by rw [c9 hb]; exact e _ _ (k1 b o hb hbo)⟩;rw [aE] at hi
   cases qi:zs[i]? with
   | none=>rw [qi] at hi; cases hi
   | some y =>
    obtain ⟨a',rfl,h2,h3⟩:=pr i y qi;rw [qi] at hi;have:a'=a:=aJ hi;subst this;refine ⟨h2,?_⟩;rw [c9 (λ z=>by rw [z,hp2] at h3; cases h3)];exact h3
 intro σ' H4 hM_; refine N1 λ G_ hG_=>?_; obtain ⟨l,rs,rfl,hp4,hl4,hlen,hl0,hrs,hk⟩:=hM_; subst hG_;have nlp:l≠p:=(c8 hp hl0).symm;refine ⟨λ σ' H5=>∃ rs':List Addr,σ'=[some (.ref p),some (.ref ga),some (.ref ra),some (.ref ba)]/\H5 p=some (.ins C dx [("many",.int q),("scale",.int 1),("cells",.ref l)])/\H5 l=some (.lst (rs'.map V.ref))/\rs'.length=m+1 ∧
  (∀ i a,rs'[i]?=some a->a≠l/\H5 a=some (.lst ((x8 q (Lp.S0 m q (Arr rows) (L7 bounds) (L7 goal)) i).map V.int)))/\∀ b o,b≠p->H b=some o->H5 b=some o,?_,?_⟩
 ·refine ⟨_,rfl,p,C,dx,_,_,rfl,hp4,T.cl,T.nC,rfl,.inl ⟨rfl,_,SqL.of hl4⟩,?_⟩
  have hg4:=Y2 hp hk hg;refine ⟨_,rfl,ga,rfl,⟨_,hg4⟩,λ a1 h1=>?_⟩;refine a0w (C2 hg4) h1 (by rw [aA,lg]; exact m8 (by lia)) (λ x=>.int (-(vI x))) (λ i x H' N' hx e hN=>?_) ?_
  ·obtain ⟨x',rfl,_⟩:=a1W hx
   exact ⟨Wk.set (by decide),_,rfl,_,rfl,hN⟩
  have eg:(goal.map V.int).map (λ x=>V.int (-(vI x)))=(goal.map λ x=>-x).map V.int:=by rw [aW,aW]; rfl
  rw [eg];have s1:=Same.new h1 (.lst ((goal.map λ x=>-x).map V.int));refine ⟨(by show 1<=sizeLine; decide),λ a2 h2=>?_⟩;have s2:=s1.trans (Same.new h2 (.lst [.int 0]));have n12:a1≠a2:=c8 upd_same h2;refine ⟨a1,a2,_,_,rfl,rfl,(by rw [c9 n12]; exact upd_same),upd_same,?_,λ a3 h3=>?_⟩
  ·rw [aA,aA,lg]
   have:=m8 (show q+1<=1000 by lia);simp;lia
  have s3:=s2.trans (Same.new h3 (.lst ((goal.map λ x=>-x).map V.int++[.int 0])));refine ⟨l,_,_,rfl,rfl,s3 _ _ hl4,(by rw [aA,hlen]; exact m8 (by lia)),?_⟩;have n3l:a3≠l:=λ z=>by rw [z,s2 _ _ hl4] at h3; cases h3
  have n3p:a3≠p:=λ z=>by rw [z,s2 _ _ hp4] at h3; cases h3
  refine ⟨rs++[a3],rfl,by rw [c9 nlp.symm]; exact s3 _ _ hp4,by rw [upd_same,bP]; rfl,by rw [aI,hlen]; rfl,λ i a hi=>?_,λ b o hb hbo=>by rw [c9 (c8 hbo hl0)]; exact s3 _ _ (hk b o hb hbo)⟩
  by_cases him:i<m
  ·rw [bV (by lia)] at hi
   obtain ⟨g1,g2⟩:=hrs i a hi;exact ⟨g1,by rw [c9 g1]; exact s3 _ _ g2⟩
  ·rw [cP (by lia)] at hi
   have hi0:i - rs.length=0:=by
    cases z:i - rs.length with
    | zero=>rfl
    | succ j=>rw [z] at hi; simp at hi
   rw [hi0] at hi;have:a3=a:=aJ hi;subst this;have:i=m:=by lia
   subst this;refine ⟨n3l,?_⟩;rw [c9 n3l,upd_same,<- b1b lg,bP]; rfl
 intro σ' H5 hM_; refine N1 λ G_ hG_=>?_; obtain ⟨rs',rfl,hp5,hl5,hlen5,hrs5,hk5⟩:=hM_; subst hG_;refine ⟨_,rfl,p,C,dx,_,_,rfl,hp5,T.cl,T.nM,rfl,q,rfl,λ r1 h1=>?_⟩;have s1:=Same.new h1 (.rng 0 (q:Int));refine ⟨r1,0,q,rfl,by rw [upd_same,iK],by lia,by lia,by lia,λ oa hoa=>?_⟩;have s2:=s1.trans (Same.new hoa (.lst ((aH q).map λ (i:Nat)=>V.int (0+(i:Int)))));have noa5:H5 oa=none:=by
  cases z:H5 oa with
  | none=>rfl
  | some o=>rw [s1 _ _ z] at hoa; cases hoa
 have nop:oa≠p:=(c8 hp5 noa5).symm;refine ⟨_,rfl,p,C,dx,_,rfl,s2 _ _ hp5,T.cl,T.nO,(by show 3<1000; decide),?_⟩;have hra5:=Y2 hp hk5 hra;have lp5:SqL K (r9 (r9 (r9 H5 r1 (.rng 0 (q:Int))) oa (.lst ((aH q).map λ (i:Nat)=>V.int (0+(i:Int))))) p (.ins C dx [("many",.int q),("scale",.int 1),("cells",.ref l),("outs",.ref oa)])) ra rvs :=
  Y2 (s2 _ _ hp5) (λ b o hb e=>by rw [c9 hb]; exact e) (s2.seq hra5)
 refine ⟨_,rfl,p,C,dx,_,_,rfl,upd_same,T.cl,T.nM,rfl,_,rfl,p,C,dx,_,_,rfl,upd_same,T.cl,T.nM,rfl,_,rfl,ra,_,rfl,.inl lp5,_,_,rfl,rfl,_,_,rfl,λ r2 h2=>?_⟩;rw [lv];refine ⟨r2,(q:Int),m,rfl,upd_same,by lia,by lia,by lia,λ ia hia=>?_⟩;have n2p:r2≠p:=(c8 upd_same h2).symm;have nip:ia≠p:=by
  refine (c8 (H:=_) (o:=.ins C dx [("many",.int q),("scale",.int 1),("cells",.ref l),("outs",.ref oa)]) ?_ hia).symm;rw [c9 n2p.symm,upd_same]; rfl
 have oa6:∀ o,r9 (r9 (r9 H5 r1 (.rng 0 (q:Int))) oa o) p (.ins C dx [("many",.int q),("scale",.int 1),("cells",.ref l),("outs",.ref oa)]) oa=some o:=λ o=>by rw [c9 nop,upd_same]
 have n2o:r2≠oa:=(c8 (oa6 _) h2).symm;have nio:ia≠oa:=by
  refine (c8 (H:=_) (o:=.lst ((aH q).map λ (i:Nat)=>V.int (0+(i:Int)))) ?_ hia).symm;rw [c9 n2o.symm]; exact oa6 _
 have up:∀ b o,b≠p->H5 b=some o->b≠ia/\b≠r2/\r9 (r9 H5 r1 (.rng 0 (q:Int))) oa (.lst ((aH q).map λ (i:Nat)=>V.int (0+(i:Int)))) b=some o:=λ b o hb e=>by
  have e2:=s2 _ _ e;have nb2:b≠r2:=by
   refine c8 (H:=_) (o:=o) ?_ h2;rw [c9 hb]; exact e2
  refine ⟨?_,nb2,e2⟩;refine c8 (H:=_) (o:=o) ?_ hia;rw [c9 nb2,c9 hb]; exact e2
 refine ⟨_,rfl,p,C,dx,_,rfl,(by rw [c9 nip.symm,c9 n2p.symm]; exact upd_same),T.cl,T.nI,(by show 4<1000; decide),?_⟩;have fin:∀ b o,b≠p->H5 b=some o->r9 (r9 (r9 (r9 (r9 (r9 H5 r1 (.rng 0 (q:Int))) oa (.lst ((aH q).map λ (i:Nat)=>V.int (0+(i:Int))))) p (.ins C dx [("many",.int q),("scale",.int 1),("cells",.ref l),("outs",.ref oa)])) r2 (.rng (q:Int) ((q:Int)+(m:Int)))) ia (.lst ((aH m).map λ (i:Nat)=>V.int ((q:Int)+(i:Int))))) p (.ins C dx [("many",.int q),("scale",.int 1),("cells",.ref l),("outs",.ref oa),("ins",.ref ia)]) b=some o:=λ b o hb e=>by
  obtain ⟨g1,g2,g3⟩:=up b o hb e;rw [c9 hb,c9 g1,c9 g2,c9 hb]; exact g3
 have ia5:H5 ia=none:=by
  cases z:H5 ia with
  | none=>rfl
  | some o=>exact absurd rfl (up ia o nip z).1
 have back:∀ b,b≠p->H5 b=none->H b=none:=λ b hb z=>by
  cases z2:H b with
  | none=>rfl
  | some o=>rw [hk5 b o hb z2] at z; cases z
 refine k _ l oa ia rs' ⟨upd_same,fin _ _ nlp hl5,hlen5,λ i a hi=>fin _ _ (λ z=>?_) (hrs5 i a hi).2,?_,?_,nio.symm⟩ (λ b o hb hbo=>fin b o hb (hk5 b o hb hbo)) (back _ nop noa5) (back _ nip ia5)
 ·have:=(hrs5 i a hi).2
  rw [z,hp5] at this; cases this
 ·rw [c9 nop,c9 nio.symm,c9 n2o.symm,c9 nop,upd_same,b2v]
 ·rw [c9 nip,upd_same,b4B]
end
section
variable {P:Program} {w:World} {K:W.Frag} {mg:Str->Option Value} {base:Heap} {f Pt:Addr} {fd:FuncData} {n:Nat} {C:Addr}
def a0F (K:W.Frag) (C Pt:Addr):Sp:=λ vs H Q _=>∃ (ga ra ba:Addr) (goal:List Int) (rvs:List V) (rows:List (List Int)) (bounds:List Int) (m q M:Nat),vs=[.ref ga,.ref ra,.ref ba]/\SqL K H ga (goal.map V.int)/\SqL K H ra rvs ∧
 RowsL K H rvs rows/\SqL K H ba (bounds.map V.int)/\rows.length=m/\bounds.length=m/\goal.length=q/\(∀ r∈rows,r.length=q)/\m<900/\q<900/\(∀ i,i<m->0<=L7 bounds i) ∧
 (∀ v,Lp.Fits M (m+1) (Lp.Vv m q (Arr rows) (L7 bounds) (L7 goal) v))/\Lp.bnd M (m+1)<2 ^ 4000/\LT Pt H ∧
 (∀ (S:Lp.Bo) (H':Hp) (t aa wa:Addr),Lp.Of m q (Arr rows) (L7 bounds) (L7 goal) S->(∀ j,j<q->¬ S.T m j<0)->Sz 4000 m q S->C9 Pt H H'->LT Pt H'->H' t=some (.tup [.int (S.T m q),.ref aa,.ref wa,.int S.d]) →
  H' aa=some (.lst ((u9 m q S).map V.int))->H' wa=some (.lst ((K6 m q S).map V.int))->Q (.ref t) H') ∧
 ∀ (S:Lp.Bo) (H':Hp) (c:Nat),Lp.Of m q (Arr rows) (L7 bounds) (L7 goal) S->c<q->S.T m c<0->(∀ i,i<m->¬ 0<S.T i c)->C9 Pt H H'->LT Pt H'->Q .non H'
theorem scGr:i9 ["goal","rows","bounds","board","column","row"] ["goal","rows","bounds"] (d0 M2):=⟨rfl,rfl,rfl,by decide +kernel,rfl,by decide +kernel,by decide +kernel⟩
structure b5J (P:Program) (w:World) (K:W.Frag) (mg:Str->Option Value) (base:Heap) (n:Nat) (C Pt:Addr) (f1 f2 f3 f4 f5 f6:Addr) (d1 d2 d3 d4 d5 d6:FuncData):Prop where
 mak:Mk K C f1
 ini:FnOk P w K mg base K5 n f1 d1 ["self","goal","rows","bounds"] (a9L K C)
 inb:Binds K d1 ["self","goal","rows","bounds"] []
 mC:mg "Board"=some (.ref C)
 com:a8u P w K mg base n C "coming" ["self"] (a2E C Pt) f2 d2
 goi:a8u P w K mg base n C "going" ["self","column"] (a6C C) f3 d3
 exc:a8u P w K mg base n C "exchange" ["self","row","column"] (a2K C) f4 d4
 amt:a8u P w K mg base n C "amounts" ["self"] (a8O C) f5 d5
 wts:a8u P w K mg base n C "weights" ["self"] (b2U C) f6 d6
noncomputable def grT {cdv:Value} {A:Around} {outer:List Env} {s:Shared} {H:Hp} {E:XK} {f1 f2 f3 f4 f5 f6:Addr} {d1 d2 d3 d4 d5 d6:FuncData} (T:TB K C) (G:b5J P w K mg base n C Pt f1 f2 f3 f4 f5 f6 d1 d2 d3 d4 d5 d6)
  (hr:Room (n+1) (A.deeper (bY "greatest" (d0 M2) s.heap.objs.size f cdv))) (hr0:Room n (A.deeper (bY "greatest" (d0 M2) s.heap.objs.size f cdv))) :
  { t:TS // PSs (M3 K5 P w K mg base ["goal","rows","bounds","board","column","row"] "greatest" (d0 M2) f cdv A outer s H E).nox (t9 M2) t } :=
 ⟨_,d9 (p7 (i:=3) scGr.nd rfl (aC rfl) (a6L G.mak G.ini hr rfl G.mC G.inb .nil r6 (c6 (pv 0) (c6 (pv 1) (c6 (pv 2) c7)))))
  (d9 (p7 (i:=4) scGr.nd rfl (aC rfl) (Y3 (pv 3) T.cl G.com.me G.com.ok hr0 G.com.bd .nil r6))
  (d9 (a2T PassesOwn.never (j8 b1Z (pv 4) B9 (m9 _))
   (d9 (p7 (i:=5) scGr.nd rfl (aC rfl) (a3O (pv 3) T.cl G.goi.me G.goi.ok hr0 G.goi.bd .nil r6 (c6 (pv 4) c7)))
   (d9 (w4 (j8 a6o (pv 5) B9 (m9 _)) (e7 (j6 B9)) m7)
   (d9 (J5 (a3O (pv 3) T.cl G.exc.me G.exc.ok hr0 G.exc.bd .nil r6 (c6 (pv 5) (c6 (pv 4) c7))))
   (e7 (p7 (i:=4) scGr.nd rfl (aC rfl) (Y3 (pv 3) T.cl G.com.me G.com.ok hr0 G.com.bd .nil r6)))))))
  (e7 (j6 (v9 (c6 (p6 m6 (p6 m6 (r8 (pv 3) rfl) (P4 G7 e8) (λ _ _=>rfl)) (P4 G7 e8) (λ _ _=>rfl))
   (c6 (Y3 (pv 3) T.cl G.amt.me G.amt.ok hr0 G.amt.bd .nil r6) (c6 (Y3 (pv 3) T.cl G.wts.me G.wts.ok hr0 G.wts.bd .nil r6) (c6 (r8 (pv 3) rfl) c7)))))))))⟩
end
section
variable {P:Program} {w:World} {K:W.Frag} {mg:Str->Option Value} {base:Heap} {f Pt:Addr} {fd:FuncData} {n:Nat} {C:Addr}
theorem RowsL.same {H H':Hp} {vs:List V} {rs:List (List Int)} (e:Same H H') (x:RowsL K H vs rs):RowsL K H' vs rs:=Paired.imp' (λ _ _ ⟨a,z,q⟩=>⟨a,z,e.seq q⟩) x
theorem b5E {m q M:Nat} {A:Nat->Nat->Int} {b c:Nat->Int} {S:Lp.Bo} (O:Lp.Of m q A b c S) (hM:∀ v,Lp.Fits M (m+1) (Lp.Vv m q A b c v)) (hb:Lp.bnd M (m+1)<2 ^ 4000):Sz 4000 m q S :=
 ⟨λ i j hi hj=>dY (O.w.bndT hM hi hj) hb,dY (O.w.bndd hM) hb⟩
def Cv (m q:Nat) (S:Lp.Bo) (cv:V):Prop:=(cv=.non/\∀ j,j<q->¬ S.T m j<0)\/∃ c:Nat,cv=.int c/\c<q/\S.T m c<0/\∀ i,i<q->S.T m i<0->S.outs c<=S.outs i
theorem a5c {f1 f2 f3 f4 f5 f6:Addr} {d1 d2 d3 d4 d5 d6:FuncData} (F:Fun K "greatest" "greatest" M2 f fd) (T:TB K C) (G:b5J P w K mg base n C Pt f1 f2 f3 f4 f5 f6 d1 d2 d3 d4 d5 d6) :
  FnOk P w K mg base K5 (n+2) f fd ["goal","rows","bounds"] (a0F K C Pt):=by
 refine F.ok scGr (λ vs H Q E h=>?_) (λ cdv A outer s H vs Q E hr h=>?_)
 ·obtain ⟨ga,ra,ba,goal,rvs,rows,bounds,m,q,M,rfl,_⟩:=h
  rfl
 obtain ⟨ga,ra,ba,goal,rvs,rows,bounds,m,q,M,rfl,hg,hra,hrw,hba,lr,lb,lg,hrl,hm,hq,hbn,hM,hB,L,kT,kN⟩:=h;refine ⟨_,(grT T G hr (hr.mono (by lia))).2,?_⟩;refine ⟨_,rfl,_,rfl,_,rfl,λ p dx hp hdx hne=>?_⟩;have e0:Same H (r9 (r9 H dx (.own p)) p (.ins C dx [])):=λ b o q'=>by rw [c9 (c8 q' hp),c9 (c8 q' hdx)]; exact q'
 refine ⟨p,dx,ga,ra,ba,goal,rvs,rows,bounds,m,q,rfl,upd_same,e0.seq hg,e0.seq hra,hrw.same e0,e0.seq hba,lr,lb,lg,hrl,hm,hq,λ H1 ca oa ia rs B k1 hoa hia=>⟨rfl,?_⟩⟩;have nop:oa≠p:=A5 B.out B.obj (by intro z; cases z);have nip:ia≠p:=A5 B.inn B.obj (by intro z; cases z);have hoa0:H oa=none:=by
  cases z:H oa with
  | none=>rfl
  | some o=>rw [e0 _ _ z] at hoa; cases hoa
 have hia0:H ia=none:=by
  cases z:H ia with
  | none=>rfl
  | some o=>rw [e0 _ _ z] at hia; cases hia
 have s1:Same H H1:=λ b o z=>k1 b o (c8 z hp) (e0 _ _ z);have L1:LT Pt H1:=L.same s1;have O0:=Lp.of0 (A:=Arr rows) (c:=L7 goal) (q:=q) hbn;have come:∀ (S:Lp.Bo) (ca:Addr) (rs:List Addr) (H2:Hp) (R:V->Hp->Prop),Bd C H2 p dx ca oa ia rs m q S->LT Pt H2->C9 Pt H H2->(∀ cv H3,Cv m q S cv->Bd C H3 p dx ca oa ia rs m q S->LT Pt H3->C9 Pt H H3->R cv H3) →
   a2E C Pt [.ref p] H2 R E0:=λ S ca rs H2 R B2 L2 e2 hR=>by
  refine ⟨p,dx,ca,oa,ia,rs,m,q,S,rfl,B2,by lia,L2,λ H3 e3 L3=>?_⟩;have B3:=B2.lam L2 e3;have e4:C9 Pt H H3:=λ b o hb z=>e3 b o hb (e2 b o hb z);exact ⟨λ hn=>hR _ _ (.inl ⟨rfl,hn⟩) B3 L3 e4,λ j hj hneg hmin=>hR _ _ (.inr ⟨j,rfl,hj,hneg,hmin⟩) B3 L3 e4⟩
 refine ⟨_,rfl,p,dx,_,rfl,B.obj,rfl,?_⟩;unfold G6;refine come _ _ _ _ _ B L1 (λ b o _ z=>s1 b o z) λ cv H2 hcv B2 L2 e2=>?_;obtain ⟨kk,hkk⟩:=O0.w.ends hM;refine ⟨λ j σ H3=>∃ (S:Lp.Bo) (ca:Addr) (rs:List Addr) (cv:V) (o5:Option V),σ=[some (.ref ga),some (.ref ra),some (.ref ba),some (.ref p),some cv,o5]/\Lp.Of m q (Arr rows) (L7 bounds) (L7 goal) S/\Lp.Ends m q S j/\Cv m q S cv/\Bd C H3 p dx ca oa ia rs m q S/\LT Pt H3/\C9 Pt H H3,
  ⟨kk,_,ca,rs,cv,_,rfl,O0,hkk,hcv,B2,L2,e2⟩,?_⟩
 rintro j σ H3 ⟨S,ca,rs,cv,o5,rfl,O,hE,hcv,B3,L3,e3⟩;have sz:=b5E O hM hB;refine ⟨_,rfl,rfl,_,rfl,?_⟩;rcases hcv with ⟨rfl,hn⟩ | ⟨c,rfl,hc,hneg,hmin⟩
 ·refine A2 (λ z=>?_) (λ _=>?_)
  ·exact absurd z (by decide)
  obtain ⟨rm,em,am⟩:=B3.rs_last;refine ⟨_,rfl,p,C,dx,_,_,rfl,B3.obj,T.cl,T.nC,rfl,_,rfl,ca,_,_,_,rfl,rfl,SqL.of B3.cel,am,_,rfl,rm,_,_,_,rfl,rfl,SqL.of (B3.row m rm em),Z2,?_⟩;refine ⟨_,rfl,p,dx,_,rfl,B3.obj,rfl,?_⟩;refine ⟨p,dx,ca,oa,ia,rs,m,q,S,rfl,B3,hm,hq,O.w.ii,λ aa H4 e4 haa h4=>?_⟩;have B4:Bd C H4 p dx ca oa ia rs m q S:=B3.same1 (P:=Pt) λ b o z _=>e4 b o z;refine ⟨_,rfl,p,dx,_,rfl,B4.obj,rfl,?_⟩;refine ⟨p,dx,ca,oa,ia,rs,m,q,S,rfl,B4,hm,hq,O.w.oo,O.w.ob,λ wa H5 e5 hwa h5=>?_⟩;have B5:Bd C H5 p dx ca oa ia rs m q S:=B4.same1 (P:=Pt) λ b o z _=>e5 b o z;refine ⟨_,rfl,p,C,dx,_,_,rfl,B5.obj,T.cl,T.nS,rfl,(by show 4<=sizeLine; decide),λ t ht=>?_⟩;have e6:=(e4.trans e5).trans (Same.new ht (.tup [.int (S.T m q),.ref aa,.ref wa,.int S.d]));refine kT S _ t aa wa O hn sz (λ b o hb z=>e6 b o (e3 b o hb z)) (L3.same e6) upd_same ?_ ?_
  ·rw [c9 (c8 (e5 _ _ h4) ht)]; exact e5 _ _ h4
  ·rw [c9 (c8 h5 ht)]; exact h5
 ·refine A2 (λ _=>?_) (λ z=>absurd rfl z)
  refine ⟨λ σ' H'=>∃ j',j'<j/\∃ (S:Lp.Bo) (ca:Addr) (rs:List Addr) (cv:V) (o5:Option V),σ'=[some (.ref ga),some (.ref ra),some (.ref ba),some (.ref p),some cv,o5]/\Lp.Of m q (Arr rows) (L7 bounds) (L7 goal) S/\Lp.Ends m q S j'/\Cv m q S cv/\Bd C H' p dx ca oa ia rs m q S/\LT Pt H'/\C9 Pt H H',λ σ' H' z=>z,?_⟩;refine ⟨_,rfl,p,dx,_,rfl,B3.obj,rfl,_,rfl,?_⟩;refine ⟨p,dx,ca,oa,ia,rs,m,q,S,c,rfl,B3,sz,by lia,by lia,λ hnone=>?_,λ r hrm hpos hbet=>?_⟩
  ·refine ⟨_,rfl,rfl,_,rfl,?_⟩
   refine A2 (λ _=>?_) (λ z=>absurd (decide_eq_true rfl) z);exact kN S H3 c O hc hneg hnone e3 L3
  ·have Ch:Lp.Choice m q S r c:=⟨hc,hneg,hmin,hrm,hpos,λ i hi hp'=>(hbet i hi hp').1,λ i hi hp'=>(hbet i hi hp').2⟩
   refine ⟨_,rfl,rfl,_,rfl,?_⟩;refine A2 (λ z=>absurd (of_decide_eq_true z) (by nofun)) (λ _=>?_);refine ⟨_,rfl,p,dx,_,rfl,B3.obj,rfl,_,rfl,_,rfl,?_⟩;refine ⟨p,dx,ca,oa,ia,rs,m,q,S,r,c,rfl,B3,sz,hrm,hc,hm,hq,O.w.pos,λ H4 ca' rs' B4 k4=>?_⟩;have e4:C9 Pt H H4:=λ b o hb z=>k4 b o (c8 z hp) (c8 z hoa0) (c8 z hia0) (e3 b o hb z);have tk:∀ b o,H3 b=some o->(∀ C dx fs,o≠.ins C dx fs)->(∀ xs,o≠.lst xs)->H4 b=some o:=λ b o z n1 n2=>k4 b o (λ y=>by subst y; rw [B3.obj] at z; exact n1 _ _ _ (aJ z).symm) (λ y=>by subst y; rw [B3.out] at z; exact n2 _ (aJ z).symm) (λ y=>by subst y; rw [B3.inn] at z; exact n2 _ (aJ z).symm) z;have L4:LT Pt H4:=by
    rcases L3 with t | ⟨c',t1,t2⟩
    ·exact .inl (tk _ _ t (λ _ _ _=>nofun) λ _=>nofun)
    ·exact .inr ⟨c',tk _ _ t1 (λ _ _ _=>nofun) λ _=>nofun,tk _ _ t2 (λ _ _ _=>nofun) λ _=>nofun⟩
   refine ⟨_,rfl,p,dx,_,rfl,B4.obj,rfl,?_⟩;refine come _ _ _ _ _ B4 L4 e4 λ cv' H5 hcv' B5 L5 e5=>?_;obtain ⟨j',hj',hE'⟩:=hE.next O.w Ch;exact ⟨j',hj',_,ca',rs',cv',_,rfl,O.piv Ch,hE',hcv',B5,L5,e5⟩
end
section
variable {P:Program} {w:World} {K:W.Frag} {mg:Str->Option Value} {base:Heap} {f g:Addr} {fd gd:FuncData}
def a9Q (K:W.Frag):Sp:=λ vs H Q _=>∃ (a:Addr) (ns:List Int) (k:Int),vs=[.ref a,.int k]/\SqL K H a (ns.map V.int)/\0<=k/\∀ c:Int,Q (.int c) H
theorem b3s:i9 ["script","k"] ["script","k"] (d0 b0B):=⟨rfl,rfl,rfl,by decide +kernel,rfl,by decide +kernel,by decide +kernel⟩
theorem b3r {ns:List Int} {k:Int} (h0:0<=k) (h:k<((ns.map V.int).length:Int)):∃ v:Int,atI (ns.map V.int) k=some (.int v):=by
 have hl:(ns.map V.int).length=ns.length:=aA _;have hk:k.toNat<ns.length:=by lia
 have ek:k=((k.toNat:Nat):Int):=by lia
 have q:atI (ns.map V.int) ((k.toNat:Nat):Int)=some (.int ns[k.toNat]):=y8 (by rw [aE,aG hk]; rfl);rw [<- ek] at q;exact ⟨_,q⟩
theorem b1L {n:Nat} (F:Fun K "_law_cell_at" "_law_cell_at" b0B f fd) (T:v7 mg):FnOk P w K mg base K5 (n+1) f fd ["script","k"] (a9Q K):=by
 refine F.ok b3s (λ vs H Q E h=>?_) (λ cdv A outer s H vs Q E hr h=>?_)
 ·obtain ⟨a,ns,k,rfl,_⟩:=h
  rfl
 obtain ⟨a,ns,k,rfl,hS,h0,q⟩:=h;refine ⟨_,d9 (w4 (j8 a0S (pv 1) (i8 i7 rfl T.len aR (c6 (pv 0) c7)) (m9 _)) (e7 (j6 (p6 m6 (pv 0) (pv 1) (λ _ _=>rfl)))) m7)
  (e7 (j6 e8)),?_⟩
 refine ⟨_,rfl,_,rfl,a,_,rfl,.inl hS,_,_,rfl,rfl,_,rfl,?_⟩;refine A2 (λ c=>?_) (λ c=>?_)
 ·obtain ⟨v,hv⟩:=b3r h0 (of_decide_eq_true c)
  exact ⟨_,rfl,_,rfl,a,_,_,_,rfl,rfl,hS,hv,q v⟩
 ·exact q 0
def a7g (K:W.Frag):Sp:=λ vs H Q _=>∃ (c:Int) (many:Nat) (b:Int),vs=[.int c,.int (many:Int),.int b]/\many<=900/\0<b/\b<1073741824 ∧
 ∀ (r:Addr) (H':Hp) (ds:List Int),Same H H'->H' r=some (.lst (ds.map V.int))->ds.length=many->(∀ d∈ds,0<=d/\d<b)->Q (.ref r) H'
theorem scDraws:i9 ["cell","many","base","found","rest","stirred","k"] ["cell","many","base"] (d0 a5P):=⟨rfl,rfl,rfl,by decide +kernel,rfl,by decide +kernel,by decide +kernel⟩
theorem a9j {n:Nat} (F:Fun K "_law_draws" "_law_draws" a5P f fd) (T:v7 mg):FnOk P w K mg base K5 (n+1) f fd ["cell","many","base"] (a7g K):=by
 refine F.ok scDraws (λ vs H Q E h=>?_) (λ cdv A outer s H vs Q E hr h=>?_)
 ·obtain ⟨a,ns,k,rfl,_⟩:=h
  rfl
 obtain ⟨c,many,b,rfl,hm,hb0,hb1,q⟩:=h;refine ⟨_,d9 (p7 (i:=3) scDraws.nd rfl (aC rfl) (x4 c7))
  (d9 (p7 (i:=4) scDraws.nd rfl (aC rfl) (j7 a5X (pv 0) (p8 a7A rfl T.int iL (c6 (Q6 a9B (pv 0) (j7 a8V e8 e8) (m9 _)) c7))))
  (d9 (p7 (i:=5) scDraws.nd rfl (aC rfl) (j7 E5 (pv 0) e8))
  (d9 (a1s PassesOwn.never rfl (a0c rfl T.range (c6 (j7 G4 (pv 1) e8) c7)) (j0 (i:=6) scDraws.nd rfl (aC rfl))
   (d9 (p7 (i:=5) scDraws.nd rfl (aC rfl) (j7 E5 (j7 G4 (j7 G4 (j7 G4 (j7 a5X (pv 5) (pv 5)) (j7 a5X e8 (pv 5))) (pv 6)) e8) e8))
    (e7 (w4 (PW.pt (W6 (j8 a1H (pv 6) e8 (m9 _)) (R0 (j8 a1H (pv 4) e8 (m9 _)))))
     (d9 (J5 (T8 eQ fQ fR O4 (pv 3) (c6 (j7 E5 (pv 4) (pv 2)) c7))) (e7 (p7 (i:=4) scDraws.nd rfl (aC rfl) (j7 a0X (pv 4) (pv 2)))))
     (e7 (w4 (j8 a1H (pv 6) e8 (m9 _)) (e7 (J5 (T8 eQ fQ fR O4 (pv 3) (c6 (j7 E5 (j7 a0X (pv 5) e8) (pv 2)) c7)))) m7))))))
  (e7 (j6 (pv 3)))))),?_⟩
 refine ⟨(by show 0<=sizeLine; decide),λ fl hfl=>?_⟩;refine ⟨_,rfl,_,rfl,_,_,rfl,rfl,⟨by decide,by decide,by decide⟩,_,_,rfl,rfl,.inr ⟨_,rfl,_,_,rfl,rfl,.inr ?_,?_⟩⟩
 ·constructor <;> (split <;> decide)
 refine ⟨_,rfl,_,_,rfl,rfl,(by show (0:Int)<2305843009213693951; decide),?_⟩;refine ⟨_,rfl,_,_,rfl,rfl,((many:Int)+3),rfl,by lia,by lia,?_⟩;have e3:((many:Int)+3).toNat=many+3:=by lia
 rw [e3];refine a1j (n:=many+3) (λ i σ H'=>∃ (r st:Int) (ds:List Int) (ks:Option V),σ=[some (.int c),some (.int (many:Int)),some (.int b),some (.ref fl),some (.int r),some (.int st),ks]/\H'=r9 H fl (.lst (ds.map V.int))/\ds.length=i - 3/\(∀ d∈ds,0<=d/\d<b)/\0<=st/\st<2305843009213693951)
  ⟨_,_,[],none,rfl,rfl,rfl,λ d hd=>(by cases hd),fE _ (by decide),fF _ (by decide)⟩ ?_ ?_
 ·rintro i σ H' hi ⟨r,st,ds,ks,rfl,rfl,hl,hd,hs0,hs1⟩
  refine ⟨_,rfl,_,rfl,_,_,rfl,rfl,.inl ⟨by lia,by lia⟩,_,rfl,_,_,rfl,rfl,.inl ⟨by decide,by decide⟩,_,_,rfl,rfl,_,rfl,_,_,rfl,rfl,_,_,rfl,rfl,_,_,rfl,rfl,(by show (0:Int)<2305843009213693951; decide),?_⟩;have hs0':0<=(st*st+48271*st+(0+(i:Int))+1) % 2305843009213693951:=fE _ (by decide);have hs1':(st*st+48271*st+(0+(i:Int))+1) % 2305843009213693951<2305843009213693951:=fF _ (by decide);refine ⟨_,rfl,_,_,rfl,rfl,_,rfl,?_⟩;have hz:(ds.map V.int).length<sizeLine:=by rw [aA]; exact m8 (by lia)
  have more:∀ d:Int,(ds.map V.int)++[V.int d]=(ds++[d]).map V.int:=λ d=>by rw [bP]; rfl
  have mem:∀ d:Int,0<=d->d<b->∀ d'∈ds++[d],0<=d'/\d'<b:=λ d h0 h1 d' hd'=>by
   rcases bK.mp hd' with z | z
   ·exact hd d' z
   ·rw [aQ.mp z]; exact ⟨h0,h1⟩
  refine A2 (λ c1=>?_) (λ c1=>?_)
  ·have c1':2<0+(i:Int):=of_decide_eq_true c1
   refine ⟨_,rfl,_,_,rfl,rfl,_,rfl,?_⟩;refine A2 (λ c2=>?_) (λ c2=>?_)
   ·refine ⟨_,rfl,.inl ⟨rfl,_,SqL.of upd_same⟩,_,rfl,_,rfl,_,_,rfl,rfl,hb0,fl,_,_,rfl,rfl,upd_same,hz,?_⟩
    refine ⟨_,rfl,_,rfl,_,_,rfl,rfl,⟨hb0,hb1⟩,?_⟩;refine ⟨_,_,ds++[r % b],_,rfl,?_,?_,mem _ (fE _ (by lia)) (fF _ hb0),hs0',hs1'⟩
    ·rw [V5,more]
    ·rw [aI,cZ]; lia
   ·refine ⟨_,rfl,_,_,rfl,rfl,_,rfl,?_⟩
    refine A2 (λ c3=>?_) (λ c3=>absurd c1 c3);refine ⟨_,rfl,.inl ⟨rfl,_,SqL.of upd_same⟩,_,rfl,_,_,rfl,rfl,⟨by decide,by decide⟩,_,rfl,_,_,rfl,rfl,hb0,fl,_,_,rfl,rfl,upd_same,hz,?_⟩;refine ⟨_,_,ds++[(st*st+48271*st+(0+(i:Int))+1) % 2305843009213693951 / 4096 % b],_,rfl,?_,?_,mem _ (fE _ (by lia)) (fF _ hb0),hs0',hs1'⟩
    ·rw [V5,more]
    ·rw [aI,cZ]; lia
  ·have c1':¬ 2<0+(i:Int):=of_decide_eq_false (dZ.mpr c1)
   refine D6 ?_;refine ⟨_,rfl,_,_,rfl,rfl,_,rfl,?_⟩;refine A2 (λ c3=>absurd c3 c1) (λ c3=>?_);exact ⟨_,_,ds,_,rfl,rfl,by lia,hd,hs0',hs1'⟩
 ·intro σ H' hM_; refine N1 λ G_ hG_=>?_; obtain ⟨r,st,ds,ks,rfl,rfl,hl,hd,_⟩:=hM_; subst hG_
  exact ⟨_,rfl,q fl _ ds (Same.new hfl _) upd_same (by lia) hd⟩
end
theorem b1R {n:Nat} {k:Int} (h0:0<=k) (h1:k<(n:Int)):ixN n k=some k.toNat:=by
 unfold ixN;rw [if_pos h0,if_pos h1]
theorem b2m {α:Type} {xs:List α} {k:Int} (h0:0<=k) (h1:k<(xs.length:Int)):∃ v,v∈xs/\atI xs k=some v:=by
 have hk:k.toNat<xs.length:=by lia
 refine ⟨xs[k.toNat],dH hk,?_⟩;unfold atI;rw [b1R h0 h1];exact aG hk
theorem b1x {ns:List Int} {k:Int} (h0:0<=k) (h1:k<(ns.length:Int)):∃ v,v∈ns/\atI (ns.map V.int) k=some (.int v):=by
 obtain ⟨v,hv,e⟩:=b2m (xs:=ns.map V.int) h0 (by rw [aA]; exact h1);obtain ⟨n,hn,rfl⟩:=aZ.mp hv;exact ⟨n,hn,e⟩
structure HG (far:Int) (kt kg:Nat) (h:d8):Prop where
 lt:h.1.length=kt
 lg:h.2.length=kg
 t:∀ x∈h.1,1<=x/\x<=far
 g:∀ x∈h.2,0<=x/\x<=far
 p:∃ x∈h.2,0<x
section
variable {P:Program} {w:World} {K:W.Frag} {mg:Str->Option Value} {base:Heap} {f g:Addr} {fd gd:FuncData}
end
end Rim
namespace L2
open PySem
end L2
namespace Rim
open PySem L2
def b0k (ns:List Int):PyData:=.tuple (ns.map PyData.int)
def Y5 (h:d8):PyData:=.tuple [b0k h.1,b0k h.2]
theorem a2R {K:W.Frag} {H:Hp}:∀ ns:List Int,Dps K H (ns.map V.int) (ns.map PyData.int)
 | []=>.nil
 | n::r=>.cons (.int n) (a2R r)
theorem HS.dp {K:W.Frag} {H:Hp} {v:V} {h:d8} (x:HS K H v h):Dp K H v (Y5 h):=by
 obtain ⟨a,t,g,rfl,h1,h2,h3⟩:=x;exact .tup h1 (.cons (.tup h2 (a2R _)) (.cons (.tup h3 (a2R _)) .nil))
theorem a2u:∀ ns:List Int,PyData.canLayAll0 (ns.map PyData.int)=true
 | []=>by rw [eY,PyData.canLayAll0]
 | n::r=>by rw [bD,PyData.canLayAll0,a2u r,PyData.canLay0]; rfl
theorem a3A (h:d8):(Y5 h).canLay0=true:=by
 unfold Y5 b0k;rw [PyData.canLay0,PyData.canLayAll0,PyData.canLay0,a2u,PyData.canLayAll0,PyData.canLay0,a2u,PyData.canLayAll0]; rfl
section
variable {P:Program} {w:World} {K:W.Frag} {mg:Str->Option Value} {base:Heap} {f g:Addr} {fd gd:FuncData}
end
section
variable {P:Program} {w:World} {K:W.Frag} {mg:Str->Option Value} {base:Heap} {f g:Addr} {fd gd:FuncData}
end
end Rim
namespace Rim
open PySem L2 Fr
theorem a9X (K:W.Frag) {X:Cx} (h:X.K=K):IxR X (b5k K):=by subst h; exact V3
def FrV (K:W.Frag) (H:Hp) (v:V) (f:Q2):Prop:=∃ a,v=.ref a/\SqT K H a [.int f.1,.int f.2]
def FrT (H:Hp) (v:V) (f:Q2):Prop:=∃ a,v=.ref a/\H a=some (.tup [.int f.1,.int f.2])
theorem FrT.v {K:W.Frag} {H:Hp} {v:V} {f:Q2} (h:FrT H v f):FrV K H v f:=by
 obtain ⟨a,e,q⟩:=h;exact ⟨a,e,SqT.of q⟩
section
variable {P:Program} {w:World} {K:W.Frag} {mg:Str->Option Value} {base:Heap} {f g:Addr} {fd gd:FuncData}
structure Cal (P:Program) (w:World) (K:W.Frag) (mg:Str->Option Value) (base:Heap) (n:Nat) (x:Str) (ps:List Str) (sp:Sp) (fa:Addr) (d:FuncData):Prop where
 ok:FnOk P w K mg base K5 n fa d ps sp
 b:Binds K d ps []
 k:W.keepIn K (.ref fa)=true
 m:mg x=some (.ref fa)
def b2R:Sp:=λ vs H Q _=>∃ a b:Int,vs=[.int a,.int b]/\0<=b/\Q (.int (gI a b)) H
theorem scDiv:i9 ["one","other"] ["one","other"] (d0 b4p):=⟨rfl,rfl,rfl,by decide +kernel,rfl,by decide +kernel,by decide +kernel⟩
def b7d:St->Nat:=λ σ=>match σ with | [_,some (.int y)]=>y.toNat | _=>0
theorem b3u (x:Int):(if x<0 then -x else x)=gI x 0:=by
 rw [b1p]
 split <;> lia
theorem b3q {n:Nat} (F:Fun K "common_divisor" "common_divisor" b4p f fd) (T:v7 mg):FnOk P w K mg base K5 (n+1) f fd ["one","other"] b2R:=by
 refine F.ok scDiv (λ vs H Q E h=>?_) (λ cdv A outer s H vs Q E hr h=>?_)
 ·obtain ⟨a,b,rfl,_⟩:=h
  rfl
 obtain ⟨a,b,rfl,hb,q⟩:=h;refine ⟨_,d9 (a2T PassesOwn.never (j8 a3E (pv 1) e8 (m9 _)) (e7 (b3R (i:=0) (j:=1) rfl scDiv.nd rfl rfl (by decide) rfl rfl (c6 (pv 1) (c6 (j7 E5 (pv 0) (pv 1)) c7)) rfl)))
  (e7 (j6 (i8 a8U rfl T.abs (lY) (c6 (pv 0) c7)))),?_⟩
 refine b0g (λ σ H'=>∃ x y:Int,σ=[some (.int x),some (.int y)]/\H'=H/\0<=y/\gI x y=gI a b) (λ σ _=>b7d σ) ⟨a,b,rfl,rfl,hb,rfl⟩ ?_ (λ σ H Q Q' hq ⟨v,h1,h2,k,h3,q⟩=>⟨v,h1,h2,k,h3,hq _ _ q⟩);rintro σ H' ⟨x,y,rfl,rfl,hy,hg⟩;refine ⟨_,rfl,rfl,_,rfl,?_⟩;refine A2 (λ c=>?_) (λ c=>?_)
 ·have hy0:0<y:=by
   by_cases z:y=0
   ·subst z; simp at c
   ·lia
  have hm:=fE x (show y≠0 by lia);have hl:=fF x hy0;refine ⟨_,rfl,_,rfl,_,rfl,_,_,rfl,rfl,hy0,_,_,rfl,⟨y,x % y,rfl,rfl,hm,?_⟩,?_⟩
  ·rw [b1j]; exact hg
  ·show (x % y).toNat<y.toNat
   lia
 ·have hy0:y=0:=by
   by_cases z:y=0
   ·exact z
   ·exact absurd (by simp [z]) c
  subst hy0;refine ⟨_,rfl,_,rfl,?_⟩;rw [b3u,hg];exact q
end
theorem Big.mono {n m:Nat} {i:Int} (h:Big n i) (hn:n<=m):Big m i:=aT h (gP (by decide) hn)
theorem Big.mul {n m:Nat} {i j:Int} (h:Big n i) (k:Big m j):Big (n+m) (i*j):=by
 unfold Big at *;rw [iH,kH];exact Nat.mul_lt_mul_of_lt_of_lt h k
section
variable {P:Program} {w:World} {K:W.Frag} {mg:Str->Option Value} {base:Heap} {f g:Addr} {fd gd:FuncData} {n:Nat}
def b2T:Sp:=λ vs H Q _=>∃ t b:Int,vs=[.int t,.int b]/\0<b/\b<2 ^ 8000/\∀ (v:V) (H':Hp),Same H H'->FrT H' v (low t b)->Q v H'
theorem scLow:i9 ["top","bottom","divisor"] ["top","bottom"] (d0 b4e):=⟨rfl,rfl,rfl,by decide +kernel,rfl,by decide +kernel,by decide +kernel⟩
theorem b4d {fa:Addr} {da:FuncData} (F:Fun K "lowest" "lowest" b4e f fd) (T:v7 mg) (C:Cal P w K mg base n "common_divisor" ["one","other"] b2R fa da):FnOk P w K mg base K5 (n+1) f fd ["top","bottom"] b2T:=by
 refine F.ok scLow (λ vs H Q E h=>?_) (λ cdv A outer s H vs Q E hr h=>?_)
 ·obtain ⟨a,b,rfl,_⟩:=h
  rfl
 obtain ⟨t,b,rfl,hb,hb2,q⟩:=h;refine ⟨_,d9 (w4 (j8 Z1 (pv 1) e8 (m9 _)) a3r m7)
  (d9 (p7 (i:=2) scLow.nd rfl (aC rfl) (j4 C.ok hr rfl C.m C.k C.b .nil r6 (c6 (pv 0) (c6 (pv 1) c7))))
  (d9 (w4 (j8 a0S (pv 1) e8 (m9 _)) a3r m7)
  (e7 (j6 (v9 (c6 (j7 a2j (pv 0) (pv 2)) (c6 (j7 a2j (pv 1) (pv 2)) c7))))))),?_⟩
 refine ⟨_,rfl,rfl,_,rfl,?_⟩;refine A2 (λ c=>?_) (λ _=>?_)
 ·have:=V.int.inj (of_decide_eq_true c); lia
 refine ⟨_,rfl,_,rfl,t,b,rfl,aX hb,?_⟩;refine ⟨_,rfl,_,_,rfl,rfl,_,rfl,?_⟩;refine A2 (λ c=>?_) (λ _=>?_)
 ·have:b<0:=of_decide_eq_true c; lia
 have hg:=a4h (a:=t) hb;have hgl:=b5S (a:=t) hb;refine ⟨_,rfl,_,rfl,_,_,rfl,rfl,⟨hg,gR hgl hb2⟩,_,rfl,_,rfl,_,_,rfl,rfl,⟨hg,gR hgl hb2⟩,(by show 2<=sizeLine; decide),λ p hp=>?_⟩;exact q _ _ (Same.new hp _) ⟨p,rfl,upd_same⟩
theorem P9 {K:W.Frag} (t:Value):W.kitOne K t t=some true:=by unfold W.kitOne; rw [if_pos (beq_self_eq_true _)]
theorem a3N {K:W.Frag}:W.kitOne K (.type "int") (.type "bool")=some false:=by
 unfold W.kitOne;rw [if_neg (by decide)];rfl
end
section
variable {P:Program} {w:World} {K:W.Frag} {mg:Str->Option Value} {base:Heap} {f g:Addr} {fd gd:FuncData} {n:Nat}
def Y8 (k:Nat) (m:Int):Prop:=0<=m/\m<(k:Int)
def a7k (K:W.Frag) (CN:Addr):Sp:=λ vs H Q E=>∃ (a:Addr) (xs:List V) (m:Int),vs=[.ref a,.int m]/\SqL K H a xs/\m.natAbs.log2<1920/\(∀ (i:Nat) x,m=(i:Int)->xs[i]?=some x->Q x H)/\(¬ Y8 xs.length m->E (.ref CN) none H)
theorem b5n:i9 ["book","number"] ["book","number"] (d0 b3P):=⟨rfl,rfl,rfl,by decide +kernel,rfl,by decide +kernel,by decide +kernel⟩
theorem b4f {CN:Addr} (F:Fun K "house_of" "house_of" b3P f fd) (T:v7 mg) (kN:P0 K CN) (mN:mg "NoHouse"=some (.ref CN)):FnOk P w K mg base (R3 P w) (n+1) f fd ["book","number"] (a7k K CN):=by
 refine F.ok1 b5n (λ vs H Q E h=>?_) (λ cdv A outer s H vs Q E hr h=>?_)
 ·obtain ⟨a,xs,m,rfl,_⟩:=h
  rfl
 obtain ⟨a,xs,m,rfl,hS,hm,q,hE⟩:=h;refine ⟨_,d9 (w4 (J4 (Y4 W7 a0S e8 (pv 1) (i8 i7 rfl T.len aR (c6 (pv 0) c7)))) (e7 (M9 kN rfl mN hr.hd (c6 (b2L (pv 1) (by decide)) c7))) m7)
  (e7 (j6 (p6 m6 (pv 0) (pv 1) (λ _ _=>rfl)))),?_⟩
 refine ⟨_,rfl,_,_,rfl,rfl,_,rfl,?_⟩;have bad:¬ Y8 xs.length m->a8R (A3 (tFs (b2b 1)) G6) CN E { nx:=λ _ H'=>Q .non H',rt:=Q } (N9 ["book","number"] [.ref a,.int m]) H:=λ hb=>⟨_,rfl,m,rfl,hm,λ x=>⟨(by show 1<=1000; decide),hE hb⟩⟩;refine A2 (λ c=>?_) (λ c=>?_)
 ·have c':0<=m:=of_decide_eq_true c
  refine ⟨_,rfl,a,_,rfl,.inl hS,_,_,rfl,rfl,_,rfl,?_⟩;refine A2 (λ d=>?_) (λ d=>?_)
  ·have d':¬ m<(xs.length:Int):=of_decide_eq_false (by simpa using d)
   exact bad λ z=>d' z.2
  ·have d':m<(xs.length:Int):=of_decide_eq_true (by simpa using d)
   obtain ⟨j,rfl⟩:∃ j:Nat,m=(j:Int):=⟨m.toNat,by lia⟩;have hi:j<xs.length:=by lia
   exact ⟨_,rfl,_,rfl,a,_,_,_,rfl,rfl,hS,y8 (aG hi),q j xs[j] rfl (aG hi)⟩
 ·have c':¬ 0<=m:=of_decide_eq_false (dZ.mpr c)
  exact ⟨_,rfl,G5 (bad λ z=>c' z.1)⟩
end
end Rim
namespace L2
open PySem PySem.Spec PyProof.Rows
structure a7t (K:W.Frag) (P:Params) (d:Addr):Prop where
 ex:∃ es n,K.lookup d=some ⟨.type "dict",none,.dict es n,#[]⟩/\W.KeysLit P es.toList
def b6P (K:W.Frag) (P:Params):R2:=λ x y H Q=>∃ d z t,x=.ref d/\y=.str z/\a7t K P d/\W.nsIn K d z=some (some (.ref t))/\Q (.ref t) H
theorem a1p (K:W.Frag) (P:Params) {X:Cx} (hK:X.K=K) (hP:X.w.params=P):IxR X (b6P K P):=by
 subst hK;subst hP;intro value slice pins s σ H x y v u Q I rx ry h hs;obtain ⟨d,z,t,rfl,rfl,⟨es,n,hl,hk⟩,e,q⟩:=h
 cases rx;obtain ⟨tk,rfl⟩:=ry;obtain ⟨m,hm⟩:=I.fr;exact W.topItem_K hm I.mod.kin hl hk e ⟨.ref t,H,I.tok _,rfl,q⟩ (by first | exact hs | exact hs _ _)
end L2
namespace L2
open PySem
theorem b4D (K:W.Frag) {X:Cx} {tg l:Expr} {tl:TE} (h:X.K=K) (hl:PE X l tl):PI X tg l (b5x K tl):=by subst h; exact a4f hl
end L2
namespace Rim
open PySem L2 Fr
def W4 (z:Str):Prop:=z="any"\/z="one"\/z="less"\/z="more"
def Z0 (z:Str):List Int:=if z="any" then [] else if z="one" then [1,-1] else if z="less" then [-1] else [1]
structure Sg (K:W.Frag) (Pm:Params) (mg:Str->Option Value) (d:Addr):Prop where
 m:mg "SIZE_SIGNS"=some (.ref d)
 k:a7t K Pm d
 tt:∀ z,W4 z->∃ t,W.nsIn K d z=some (some (.ref t))/\∀ H,SqT K H t ((Z0 z).map V.int)
def B8 (z:Str) (h:d8):List Int:=h.1.map (λ x=>-x)++h.2++Z0 z
section
variable {P:Program} {w:World} {K:W.Frag} {mg:Str->Option Value} {base:Heap} {f Pt d:Addr} {fd:FuncData} {n:Nat} {C:Addr}
def X9 (K:W.Frag):Sp:=λ vs H Q _=>∃ (ba:Addr) (xs:List V) (hs:List d8) (z:Str) (kt kg:Nat),vs=[.ref ba,.str z]/\W4 z/\SqL K H ba xs/\Bk K H xs hs/\hs.length<=100/\kt<=100/\kg<=100/\(∀ h∈hs,h.1.length=kt/\h.2.length=kg) ∧
 ∀ (r:Addr) (H':Hp) (rs:List Addr),Same H H'->H' r=some (.lst (rs.map V.ref))->rs.length=hs.length->(∀ (i:Nat) a h,rs[i]?=some a->hs[i]?=some h->H' a=some (.lst ((B8 z h).map V.int)))->Q (.ref r) H'
theorem scHr:i9 ["houses","sizes","signs"] ["houses","sizes"] (d0 Q0):=⟨rfl,rfl,rfl,by decide +kernel,rfl,by decide +kernel,by decide +kernel⟩
theorem b2S:(["takes","gives","signs"]:List Str).Nodup:=by decide +kernel
theorem b4S:(["take"]:List Str).Nodup:=by decide +kernel
theorem a4x (z:Str):(Z0 z).length<=2:=by
 unfold Z0
 by_cases h1:z="any"
 ·rw [if_pos h1]; decide
 by_cases h2:z="one"
 ·rw [if_neg h1,if_pos h2]; decide
 by_cases h3:z="less"
 ·rw [if_neg h1,if_neg h2,if_pos h3]; decide
 ·rw [if_neg h1,if_neg h2,if_neg h3]; decide
noncomputable def hrT {cdv:Value} {A:Around} {outer:List Env} {s:Shared} {H:Hp} {E:XK} (N:v7 mg) (G:Sg K w.params mg d) :
  { t:TS // PSs (M3 K5 P w K mg base ["houses","sizes","signs"] "house_rows" (d0 Q0) f cdv A outer s H E).nox (t9 Q0) t } :=
 ⟨_,d9 (p7 (i:=2) scHr.nd rfl (dM rfl) (p8 J6 rfl N.list eE (c6 (p6 (a1p K w.params rfl rfl) (x5 (v:=.ref d) rfl G.m rfl) (pv 1) (λ _ _=>rfl)) c7)))
  (e7 (j6 (R1 ["takes","gives"] [2] rfl (G2 (pv 0))
   (λ _ _ _ _=>a0x K (n:=2) rfl rfl (j5 (j0 (i:=0) b2S rfl (aC rfl)) (j5 (j0 (i:=1) b2S rfl (aC rfl)) y4)))
   (λ _ _ _ _=>j7 A6 (j7 A6 (R1 ["take"] [] rfl (b4D K rfl (pv 0)) (λ _ _ _ _=>j0 (i:=0) b4S rfl (aC rfl)) (λ _ _ _ _=>P4 G7 (pv 0))) (p8 (a6P K rfl) rfl N.list eE (c6 (pv 1) c7))) (pv 2)))))⟩
theorem a4B (F:Fun K "house_rows" "house_rows" Q0 f fd) (N:v7 mg) (G:Sg K w.params mg d):FnOk P w K mg base K5 (n+1) f fd ["houses","sizes"] (X9 K):=by
 refine F.ok scHr (λ vs H Q E h=>?_) (λ cdv A outer s H vs Q E hr h=>?_)
 ·obtain ⟨ba,xs,hs,z,kt,kg,rfl,_⟩:=h
  rfl
 obtain ⟨ba,xs,hs,z,kt,kg,rfl,hz,hB,hBk,hl,hkt,hkg,hlen,k⟩:=h;refine ⟨_,(hrT N G).2,?_⟩;obtain ⟨t,ht,hT⟩:=G.tt z hz;have xl:xs.length=hs.length:=Paired.length hBk;refine ⟨_,rfl,d,z,t,rfl,rfl,G.k,ht,t,_,rfl,.inr (hT _),λ sl hsl=>?_⟩;have e0:=Same.new hsl (.lst ((Z0 z).map V.int));have hS0:r9 H sl (.lst ((Z0 z).map V.int)) sl=some (.lst ((Z0 z).map V.int)):=upd_same;refine ⟨_,rfl,ba,rfl,⟨_,e0.seq hB⟩,λ l hl'=>?_⟩;refine O3 (C2 (e0.seq hB)) hl' (by rw [xl]; exact m8 (by lia)) (λ i y H2=>∃ a h,y=.ref a/\a≠l/\hs[i]?=some h/\H2 a=some (.lst ((B8 z h).map V.int)))
  (λ i y H2 H3 ⟨a,h,h1,h2,h3,h4⟩ e=>⟨a,h,h1,h2,h3,e a _ h2 h4⟩) (λ i x H2 ys N' hx e hl2 hN=>?_) (λ ys H2 e hl2 len pr=>?_)
 ·obtain ⟨h,hh,hHS⟩:=Paired.at hBk hx
  have hH2:=hHS.same (e0.trans e);obtain ⟨a,ta,ga,rfl,p1,p2,p3⟩:=hH2;have lh:=hlen h (bE hh);refine ⟨a,_,rfl,p1,rfl,_,_,rfl,_,_,rfl,rfl,?_,?_⟩
  ·refine ⟨by simp,λ k w ek=>?_⟩
   have:¬ k<2:=λ hk=>by
    unfold blkσ at ek;rw [bV (by simpa using hk),dW] at ek
    split at ek <;> cases ek
   rw [bM (by lia),bM (by lia)]; exact ek
  refine ⟨_,rfl,ta,rfl,⟨_,p2⟩,λ a1 h1=>?_⟩;refine a0w (a1b p2) h1 (by rw [aA,lh.1]; exact m8 (by lia)) (λ x=>.int (-(vI x))) (λ j x H' N2 hx2 e2 hN2=>?_) ?_
  ·obtain ⟨x',rfl,_⟩:=a1W hx2
   exact ⟨Wk.set (by decide),_,rfl,_,rfl,hN2⟩
  have eg:(h.1.map V.int).map (λ x=>V.int (-(vI x)))=(h.1.map λ x=>-x).map V.int:=by rw [aW,aW]; rfl
  rw [eg];have s1:=Same.new h1 (.lst ((h.1.map λ x=>-x).map V.int));refine ⟨_,rfl,ga,_,rfl,.inr (s1.tseq p3),λ a2 h2=>?_⟩;have s2:=s1.trans (Same.new h2 (.lst (h.2.map V.int)));have n12:a1≠a2:=c8 upd_same h2;have sz:=m8 (show kt+kg+2<=1000 by lia);have sg:=a4x z;refine ⟨a1,a2,_,_,rfl,rfl,(by rw [c9 n12]; exact upd_same),upd_same,?_,λ a3 h3=>?_⟩
  ·rw [aA,aA,aA,lh.1,lh.2]; lia
  have s3:=s2.trans (Same.new h3 (.lst ((h.1.map λ x=>-x).map V.int++h.2.map V.int)));have sl3:=s3 _ _ (e _ _ hS0);refine ⟨_,rfl,a3,sl,_,_,rfl,rfl,upd_same,sl3,?_,λ a4 h4=>?_⟩
  ·rw [aI,aA,aA,aA,aA,lh.1,lh.2]; lia
  refine hN _ _ (s3.trans (Same.new h4 _)) ⟨a4,h,rfl,λ z'=>?_,hh,?_⟩
  ·rw [z',s3 _ _ hl2] at h4; cases h4
  ·rw [upd_same]
   unfold B8;rw [bP,bP]
 ·have hys:ys=(ys.map a7F).map V.ref:=by
   rw [aW];refine bX λ i=>?_;rw [aE]
   cases qi:ys[i]? with
   | none=>rfl
   | some y =>
    obtain ⟨a,_,rfl,_⟩:=pr i y qi;rfl
  refine k l H2 (ys.map a7F) (e0.trans e) (by rw [hl2]; rw [<- hys]) (by rw [aA,len,xl]) λ i a h hi hh=>?_;rw [aE] at hi
  cases qi:ys[i]? with
  | none=>rw [qi] at hi; cases hi
  | some y =>
   obtain ⟨a',h',rfl,_,h3,h4⟩:=pr i y qi;rw [qi] at hi;have:a'=a:=aJ hi;subst this;rw [hh] at h3
   cases h3;exact h4
end
def K8 (z:Str) (h:d8):List Int:=aL h.1.length 0++h.2++Z0 z
def O1 (z:Str) (h:d8):List Int:=h.1++aL h.2.length 0++aL (Z0 z).length 0
def C8 (z:Str) (hs:List d8) (h:d8):List (List Int):=hs.map (B8 z)++[O1 z h]
def a0z (hs:List d8):List Int:=aL hs.length 0++[1]
theorem a0T (k:Nat):(aL k [V.int 0]).flatten=(aL k (0:Int)).map V.int:=by
 induction k with
 | zero=>rfl
 | succ k ih=>rw [dX,fJ,ih,dX,bD]; rfl
section
variable {P:Program} {w:World} {K:W.Frag} {mg:Str->Option Value} {base:Heap} {f Pt d:Addr} {fd:FuncData} {n:Nat} {C:Addr}
abbrev OfE (z:Str) (hs:List d8) (h:d8) (S:Lp.Bo):Prop:=Lp.Of (hs.length+1) (h.1.length+h.2.length+(Z0 z).length) (Arr (C8 z hs h)) (L7 (a0z hs)) (L7 (K8 z h)) S
def a5s (K:W.Frag) (Pt:Addr):Sp:=λ vs H Q _=>∃ (ba:Addr) (hv:V) (xs:List V) (hs:List d8) (h:d8) (z:Str) (far:Int) (kt kg m q:Nat),vs=[.ref ba,hv,.str z]/\W4 z/\SqL K H ba xs/\Bk K H xs hs/\HS K H hv h/\HG far kt kg h/\(∀ h∈hs,HG far kt kg h)/\far<=2 ^ 60 ∧
 hs.length<=16/\kt<=20/\kg<=20/\m=hs.length+1/\q=h.1.length+h.2.length+(Z0 z).length/\LT Pt H ∧
 (∀ (S:Lp.Bo) (H':Hp) (t aa wa:Addr),OfE z hs h S->(∀ j,j<q->¬ S.T m j<0)->Sz 4000 m q S->C9 Pt H H'->LT Pt H'->H' t=some (.tup [.int (S.T m q),.ref aa,.ref wa,.int S.d]) →
  H' aa=some (.lst ((u9 m q S).map V.int))->H' wa=some (.lst ((K6 m q S).map V.int))->Q (.ref t) H') ∧
 ∀ (S:Lp.Bo) (H':Hp) (c:Nat),OfE z hs h S->c<q->S.T m c<0->(∀ i,i<m->¬ 0<S.T i c)->C9 Pt H H'->LT Pt H'->Q .non H'
theorem scEa:i9 ["houses","house","sizes","takes","gives","signs","earned","paid"] ["houses","house","sizes"] (d0 a0g):=⟨rfl,rfl,rfl,by decide +kernel,rfl,by decide +kernel,by decide +kernel⟩
noncomputable def eaT {cdv:Value} {A:Around} {outer:List Env} {s:Shared} {H:Hp} {E:XK} {f1 f2:Addr} {d1 d2:FuncData} (N:v7 mg) (G:Sg K w.params mg d) (Cg:J3 P w K mg base n "greatest" ["goal","rows","bounds"] (a0F K C Pt) f1 d1) (Ch:J3 P w K mg base n "house_rows" ["houses","sizes"] (X9 K) f2 d2)
  (hr:Room n (A.deeper (bY "greatest_earned" (d0 a0g) s.heap.objs.size f cdv))) :
  { t:TS // PSs (M3 K5 P w K mg base ["houses","house","sizes","takes","gives","signs","earned","paid"] "greatest_earned" (d0 a0g) f cdv A outer s H E).nox (t9 a0g) t } :=
 ⟨_,d9 (C3 (pv 1) (E4 rfl (j5 (j0 (i:=3) scEa.nd rfl (aC rfl)) (j5 (j0 (i:=4) scEa.nd rfl (aC rfl)) y4))))
  (d9 (p7 (i:=5) scEa.nd rfl (aC rfl) (p8 J6 rfl N.list eE (c6 (p6 (a1p K w.params rfl rfl) (x5 (v:=.ref d) rfl G.m rfl) (pv 2) (λ _ _=>rfl)) c7)))
  (v5 (p7 (i:=6) scEa.nd rfl (aC rfl) (j7 A6 (j7 A6 (j7 a1q (x4 (c6 e8 c7)) (i8 i7 rfl N.len aR (c6 (pv 3) c7))) (p8 J6 rfl N.list eE (c6 (pv 4) c7))) (pv 5)))
  (v5 (p7 (i:=7) scEa.nd rfl (aC rfl) (j7 A6 (j7 A6 (p8 J6 rfl N.list eE (c6 (pv 3) c7)) (j7 a1q (x4 (c6 e8 c7)) (i8 i7 rfl N.len aR (c6 (pv 4) c7)))) (j7 a1q (x4 (c6 e8 c7)) (i8 i7 rfl N.len aR (c6 (pv 5) c7)))))
  (e7 (j6 (j4 Cg.ok hr rfl Cg.m Cg.k Cg.b .nil r6 (c6 (pv 6) (c6 (j7 A6 (j4 Ch.ok hr rfl Ch.m Ch.k Ch.b .nil r6 (c6 (pv 0) (c6 (pv 2) c7))) (x4 (c6 (pv 7) c7)))
   (c6 (j7 A6 (j7 a1q (x4 (c6 e8 c7)) (i8 i7 rfl N.len aR (c6 (pv 0) c7))) (x4 (c6 e8 c7))) c7)))))))))⟩
theorem b5o:∀ k,k<20->Lp.bnd (2 ^ 60) (k+1)<2 ^ 4000:=by decide +kernel
theorem a2c {rows:List (List Int)} {i j:Nat} {row:List Int} (h:rows[i]?=some row):Arr rows i j=row.getD j 0:=by
 have e:rows.getD i []=row:=by rw [aM,h]; rfl
 unfold Arr;rw [e]
theorem a2o {l:List Int} {M:Nat} (h:∀ x∈l,x.natAbs<=M) (j:Nat):(l.getD j 0).natAbs<=M:=by
 rw [aM]
 cases e:l[j]? with
 | none=>exact cF _
 | some x=>exact h x (bE e)
theorem a3M (z:Str):∀ x∈Z0 z,x.natAbs<=2 ^ 60:=by
 unfold Z0
 by_cases h1:z="any"
 ·rw [if_pos h1]; decide
 by_cases h2:z="one"
 ·rw [if_neg h1,if_pos h2]; decide
 by_cases h3:z="less"
 ·rw [if_neg h1,if_neg h2,if_pos h3]; decide
 ·rw [if_neg h1,if_neg h2,if_neg h3]; decide
theorem b3d {z:Str} {hs:List d8} {h:d8} {far:Int} {kt kg:Nat} (hh:HG far kt kg h) (hhs:∀ h∈hs,HG far kt kg h) (hf:far<=2 ^ 60) (q:Nat) :
  ∀ v,Lp.Fits (2 ^ 60) (hs.length+1+1) (Lp.Vv (hs.length+1) q (Arr (C8 z hs h)) (L7 (a0z hs)) (L7 (K8 z h)) v):=by
 have ht:∀ g:d8,HG far kt kg g->∀ x∈g.1,x.natAbs<=2 ^ 60:=λ g hg x hx=>by have:=hg.t x hx; lia
 have hg':∀ g:d8,HG far kt kg g->∀ x∈g.2,x.natAbs<=2 ^ 60:=λ g hg x hx=>by have:=hg.g x hx; lia
 have z0:∀ k:Nat,∀ x∈List.replicate k (0:Int),x.natAbs<=2 ^ 60:=λ k x hx=>by rw [(List.mem_replicate.mp hx).2]; decide
 have rows:∀ r∈C8 z hs h,∀ x∈r,x.natAbs<=2 ^ 60:=λ r hr x hx=>by
  unfold C8 at hr;rcases bK.mp hr with hr | hr
  ·obtain ⟨g,hg,rfl⟩:=aZ.mp hr
   unfold B8 at hx;rcases bK.mp hx with hx | hx
   ·rcases bK.mp hx with hx | hx
    ·obtain ⟨y,hy,rfl⟩:=aZ.mp hx
     have:=ht g (hhs g hg) y hy;rw [kJ]; exact this
    ·exact hg' g (hhs g hg) x hx
   ·exact a3M z x hx
  ·rw [aQ.mp hr] at hx
   unfold O1 at hx;rcases bK.mp hx with hx | hx
   ·rcases bK.mp hx with hx | hx
    ·exact ht h hh x hx
    ·exact z0 _ x hx
   ·exact z0 _ x hx
 have goal:∀ x∈K8 z h,x.natAbs<=2 ^ 60:=λ x hx=>by
  unfold K8 at hx;rcases bK.mp hx with hx | hx
  ·rcases bK.mp hx with hx | hx
   ·exact z0 _ x hx
   ·exact hg' h hh x hx
  ·exact a3M z x hx
 have bnds:∀ x∈a0z hs,x.natAbs<=2 ^ 60:=λ x hx=>by
  unfold a0z at hx;rcases bK.mp hx with hx | hx
  ·exact z0 _ x hx
  ·rw [aQ.mp hx]; decide
 intro v i _;unfold Lp.Vv
 split
 ·split
  ·unfold Arr
   refine a2o (λ x hx=>?_) v;rw [aM] at hx
   cases e:(C8 z hs h)[i]? with
   | none=>rw [e] at hx; cases hx
   | some r=>rw [e] at hx; exact rows r (bE e) x hx
  ·split
   ·rw [kJ]; exact a2o goal v
   ·exact cF _
 ·split
  ·split <;> decide
  ·split
   ·exact a2o bnds i
   ·exact cF _
end
section
variable {P:Program} {w:World} {K:W.Frag} {mg:Str->Option Value} {base:Heap} {f Pt d:Addr} {fd:FuncData} {n:Nat} {C:Addr}
theorem b1m {H':Hp} {rs:List Addr} {hs:List d8} {z:Str} (hl:rs.length=hs.length) (h:∀ (i:Nat) a g,rs[i]?=some a->hs[i]?=some g->H' a=some (.lst ((B8 z g).map V.int))):RowsL K H' (rs.map V.ref) (hs.map (B8 z)):=by
 induction hs generalizing rs with
 | nil =>
  cases rs with
  | nil=>exact .nil
  | cons a r=>simp at hl
 | cons g hs ih =>
  cases rs with
  | nil=>simp at hl
  | cons a r=>exact .cons ⟨a,rfl,SqL.of (h 0 a g rfl rfl)⟩ (ih (by simpa using hl) λ i b g' h1 h2=>h (i+1) b g' (by simpa using h1) (by simpa using h2))
theorem a7R {f1 f2:Addr} {d1 d2:FuncData} (F:Fun K "greatest_earned" "greatest_earned" a0g f fd) (N:v7 mg) (G:Sg K w.params mg d) (Cg:J3 P w K mg base n "greatest" ["goal","rows","bounds"] (a0F K C Pt) f1 d1) (Ch:J3 P w K mg base n "house_rows" ["houses","sizes"] (X9 K) f2 d2) :
  FnOk P w K mg base K5 (n+1) f fd ["houses","house","sizes"] (a5s K Pt):=by
 refine F.ok scEa (λ vs H Q E h=>?_) (λ cdv A outer s H vs Q E hr h=>?_)
 ·obtain ⟨ba,hv,xs,hs,h,z,far,kt,kg,m,q,rfl,_⟩:=h
  rfl
 obtain ⟨ba,hv,xs,hs,h,z,far,kt,kg,m,q,rfl,hz,hB,hBk,hHS,hh,hhs,hfar,h16,hkt,hkg,rfl,rfl,L,kT,kN⟩:=h;refine ⟨_,(eaT N G Cg Ch hr).2,?_⟩;obtain ⟨ha,ta,ga,rfl,p1,p2,p3⟩:=id hHS;obtain ⟨t,ht,hT⟩:=G.tt z hz;have xl:xs.length=hs.length:=Paired.length hBk;have sg:=a4x z;have s1k:=m8 (show (1000:Nat)<=1000 from aF _);have l1:=hh.lt;have l2:=hh.lg;refine ⟨_,rfl,ha,_,rfl,p1,rfl,_,_,rfl,_,_,rfl,rfl,?_⟩;refine ⟨_,rfl,d,z,t,rfl,rfl,G.k,ht,t,_,rfl,.inr (hT _),λ sl hsl=>?_⟩;have e0:=Same.new hsl (.lst ((Z0 z).map V.int));have hS0:r9 H sl (.lst ((Z0 z).map V.int)) sl=some (.lst ((Z0 z).map V.int)):=upd_same;refine ⟨λ σ' H1=>∃ ea:Addr,σ'=[some (.ref ba),some (.ref ha),some (.str z),some (.ref ta),some (.ref ga),some (.ref sl),some (.ref ea),none]/\Same (r9 H sl (.lst ((Z0 z).map V.int))) H1/\H1 ea=some (.lst ((K8 z h).map V.int)),?_,?_⟩
 ·refine ⟨(by show 1<=sizeLine; decide),λ a1 h1=>?_⟩
  have s1:=Same.new h1 (.lst [.int 0]);refine ⟨_,rfl,ta,_,rfl,.inr (s1.tseq (e0.tseq p2)),a1,_,_,rfl,rfl,upd_same,by lia,by rw [aA,l1]; lia,by rw [aA,l1,bR]; simp; lia,λ a2 h2=>?_⟩;rw [aA,bR,a0T];have s2:=s1.trans (Same.new h2 (.lst ((aL h.1.length (0:Int)).map V.int)));refine ⟨_,rfl,ga,_,rfl,.inr (s2.tseq (e0.tseq p3)),λ a3 h3=>?_⟩;have s3:=s2.trans (Same.new h3 (.lst (h.2.map V.int)));have n23:a2≠a3:=c8 upd_same h3;refine ⟨a2,a3,_,_,rfl,rfl,(by rw [c9 n23]; exact upd_same),upd_same,?_,λ a4 h4=>?_⟩
  ·rw [aA,aA,bW,l1,l2]; lia
  have s4:=s3.trans (Same.new h4 (.lst ((aL h.1.length (0:Int)).map V.int++h.2.map V.int)));refine ⟨_,rfl,a4,sl,_,_,rfl,rfl,upd_same,s4 _ _ hS0,?_,λ a5 h5=>?_⟩
  ·rw [aI,aA,aA,aA,bW,l1,l2]; lia
  refine ⟨a5,rfl,s4.trans (Same.new h5 _),?_⟩;rw [upd_same];unfold K8;rw [bP,bP]
 intro σ1 H1 hM_; refine N1 λ G_ hG_=>?_; obtain ⟨ea,rfl,e1,he⟩:=hM_; subst hG_;have e01:=e0.trans e1;refine ⟨λ σ' H2=>∃ pa:Addr,σ'=[some (.ref ba),some (.ref ha),some (.str z),some (.ref ta),some (.ref ga),some (.ref sl),some (.ref ea),some (.ref pa)]/\Same H1 H2/\H2 pa=some (.lst ((O1 z h).map V.int)),?_,?_⟩
 ·refine ⟨_,rfl,ta,_,rfl,.inr (e01.tseq p2),λ a1 h1=>?_⟩
  have s1:=Same.new h1 (.lst (h.1.map V.int));refine ⟨(by show 1<=sizeLine; decide),λ a2 h2=>?_⟩;have s2:=s1.trans (Same.new h2 (.lst [.int 0]));have n12:a1≠a2:=c8 upd_same h2;refine ⟨_,rfl,ga,_,rfl,.inr (s2.tseq (e01.tseq p3)),a2,_,_,rfl,rfl,upd_same,by lia,by rw [aA,l2]; lia,by rw [aA,l2,bR]; simp; lia,λ a3 h3=>?_⟩;rw [aA,bR,a0T];have s3:=s2.trans (Same.new h3 (.lst ((aL h.2.length (0:Int)).map V.int)));have c1:=(Same.new h3 (.lst ((aL h.2.length (0:Int)).map V.int))) a1 _ ((Same.new h2 (.lst [.int 0])) a1 _ upd_same);refine ⟨a1,a3,_,_,rfl,rfl,c1,upd_same,?_,λ a4 h4=>?_⟩
  ·rw [aA,aA,bW,l1,l2]; lia
  have s4:=s3.trans (Same.new h4 (.lst (h.1.map V.int++(aL h.2.length (0:Int)).map V.int)));refine ⟨(by show 1<=sizeLine; decide),λ a5 h5=>?_⟩;have s5:=s4.trans (Same.new h5 (.lst [.int 0]));have lz:((Z0 z).map V.int).length=(Z0 z).length:=aA _;refine ⟨_,rfl,sl,_,rfl,.inl (SqL.of (s5 _ _ (e1 _ _ hS0))),a5,_,_,rfl,rfl,upd_same,by lia,by rw [lz]; lia,by rw [lz,bR]; simp; lia,λ a6 h6=>?_⟩;rw [lz,bR,a0T];have c4:=(Same.new h6 (.lst ((aL (Z0 z).length (0:Int)).map V.int))) a4 _ ((Same.new h5 (.lst [.int 0])) a4 _ upd_same);refine ⟨a4,a6,_,_,rfl,rfl,c4,upd_same,?_,λ a7 h7=>?_⟩
  ·rw [aI,aA,aA,aA,bW,bW,l1,l2]; lia
  refine ⟨a7,rfl,(s5.trans (Same.new h6 _)).trans (Same.new h7 _),?_⟩;rw [upd_same];unfold O1;rw [bP,bP]
 intro σ2 H2 hM_; refine N1 λ G_ hG_=>?_; obtain ⟨pa,rfl,e2,hp⟩:=hM_; subst hG_;have e02:=e01.trans e2;refine ⟨_,rfl,_,rfl,_,rfl,?_⟩;refine ⟨ba,xs,hs,z,kt,kg,rfl,hz,e02.seq hB,hBk.same e02,by lia,by lia,by lia,λ g hg=>⟨(hhs g hg).lt,(hhs g hg).lg⟩,λ r H3 rs e3 hr3 lr hrs=>?_⟩;refine ⟨_,rfl,(by show 1<=sizeLine; decide),λ a1 h1=>?_⟩;have s1:=e3.trans (Same.new h1 (.lst [.ref pa]));have nr1:r≠a1:=c8 hr3 h1;refine ⟨r,a1,_,_,rfl,rfl,(by rw [c9 nr1]; exact hr3),upd_same,?_,λ a2 h2=>?_⟩
 ·rw [aA,lr]; simp; lia
 have t2:=(Same.new h1 (.lst [.ref pa])).trans (Same.new h2 (.lst (rs.map V.ref++[.ref pa])));have s2:=s1.trans (Same.new h2 (.lst (rs.map V.ref++[.ref pa])));refine ⟨(by show 1<=sizeLine; decide),λ a3 h3=>?_⟩;have t3:=t2.trans (Same.new h3 (.lst [.int 0]));have s3:=s2.trans (Same.new h3 (.lst [.int 0]));refine ⟨_,rfl,ba,_,rfl,.inl ((e02.trans s3).seq hB),a3,_,_,rfl,rfl,upd_same,by lia,by rw [xl]; lia,by rw [xl,bR]; simp; lia,λ a4 h4=>?_⟩;rw [xl,bR,a0T];have t4:=t3.trans (Same.new h4 (.lst ((aL hs.length (0:Int)).map V.int)));have s4:=s3.trans (Same.new h4 (.lst ((aL hs.length (0:Int)).map V.int)));refine ⟨(by show 1<=sizeLine; decide),λ a5 h5=>?_⟩;have t5:=t4.trans (Same.new h5 (.lst [.int 1]));have s5:=s4.trans (Same.new h5 (.lst [.int 1]));have n45:a4≠a5:=c8 upd_same h5;refine ⟨a4,a5,_,_,rfl,rfl,(by rw [c9 n45]; exact upd_same),upd_same,?_,λ a6 h6=>?_⟩
 ·rw [aA,bW]; simp; lia
 have t6:=t5.trans (Same.new h6 (.lst ((aL hs.length (0:Int)).map V.int++[.int 1])));have s6:=s5.trans (Same.new h6 (.lst ((aL hs.length (0:Int)).map V.int++[.int 1])));have g3:∀ b o,r9 (r9 H3 a1 (.lst [.ref pa])) a2 (.lst (rs.map V.ref++[.ref pa])) b=some o->r9 (r9 (r9 (r9 (r9 (r9 H3 a1 (.lst [.ref pa])) a2 (.lst (rs.map V.ref++[.ref pa]))) a3 (.lst [.int 0])) a4 (.lst ((aL hs.length (0:Int)).map V.int))) a5 (.lst [.int 1])) a6 (.lst ((aL hs.length (0:Int)).map V.int++[.int 1])) b=some o :=
  (((Same.new h3 (.lst [.int 0])).trans (Same.new h4 (.lst ((aL hs.length (0:Int)).map V.int)))).trans (Same.new h5 (.lst [.int 1]))).trans (Same.new h6 (.lst ((aL hs.length (0:Int)).map V.int++[.int 1])))
 have eb:(aL hs.length (0:Int)).map V.int++[.int 1]=(a0z hs).map V.int:=by unfold a0z; rw [bP]; rfl
 have hA:Same H (r9 (r9 (r9 (r9 (r9 (r9 H3 a1 (.lst [.ref pa])) a2 (.lst (rs.map V.ref++[.ref pa]))) a3 (.lst [.int 0])) a4 (.lst ((aL hs.length (0:Int)).map V.int))) a5 (.lst [.int 1])) a6 (.lst ((aL hs.length (0:Int)).map V.int++[.int 1]))):=e02.trans s6;refine ⟨ea,a2,a6,K8 z h,rs.map V.ref++[.ref pa],C8 z hs h,a0z hs,hs.length+1,h.1.length+h.2.length+(Z0 z).length,2 ^ 60,rfl,SqL.of (s6 _ _ (e2 _ _ he)),SqL.of (g3 _ _ upd_same),?_,?_,?_,?_,?_,?_,by lia,by lia,?_,b3d hh hhs hfar _,b5o _ (by lia),L.same hA,λ S H' t' aa wa O hn sz e' L' g1 g2 g4=>kT S H' t' aa wa O hn sz (λ b o hb q'=>e' b o hb (hA b o q')) L' g1 g2 g4,λ S H' c O hc hneg hno e' L'=>kN S H' c O hc hneg hno (λ b o hb q'=>e' b o hb (hA b o q')) L'⟩
 ·unfold C8
  refine Paired.app ((b1m (K:=K) lr hrs).same t6) (.cons ⟨pa,rfl,SqL.of (s6 _ _ hp)⟩ .nil)
 ·rw [<- eb]; exact SqL.of upd_same
 ·unfold C8; simp
 ·unfold a0z; simp
 ·unfold K8; simp [Nat.add_assoc]
 ·intro r hr
  unfold C8 at hr;rcases bK.mp hr with hr | hr
  ·obtain ⟨g,hg,rfl⟩:=aZ.mp hr
   unfold B8;rw [aI,aI,aA,(hhs g hg).lt,(hhs g hg).lg,l1,l2]
  ·rw [aQ.mp hr]
   unfold O1;simp;lia
 ·intro i hi
  unfold L7 a0z;rw [aM]
  by_cases h':i<hs.length
  ·rw [bV (by simpa using h'),dW,if_pos h']; exact cD _
  ·rw [cP (by simp; lia)]
   have:i - (aL hs.length (0:Int)).length=0:=by simp; lia
   rw [this]; decide
end
section
variable {P:Program} {w:World} {K:W.Frag} {mg:Str->Option Value} {base:Heap} {f Pt d:Addr} {fd:FuncData} {n:Nat} {C:Addr}
theorem b6S:i9 ["book","number","sizes"] ["book","number","sizes"] (d0 a6c):=⟨rfl,rfl,rfl,by decide +kernel,rfl,by decide +kernel,by decide +kernel⟩
theorem scHa:i9 ["houses","house","sizes","found","top","amounts","weights","bottom"] ["houses","house","sizes"] (d0 a8K):=⟨rfl,rfl,rfl,by decide +kernel,rfl,by decide +kernel,by decide +kernel⟩
end
end Rim
namespace Lp
section
variable {m q:Nat} {A:Nat->Nat->Int} {b c:Nat->Int} {S:Bo}
theorem Of.way (O:Of m q A b c S) {cc:Nat} (hc:cc<q) (neg:S.T m cc<0) (no:∀ i,i<m->¬ 0<S.T i cc):∃ y:Nat->Int,(∀ j,j<q->0<=y j)/\(∀ i,i<m->sumTo (λ j=>A i j*y j) q<=0)/\0<sumTo (λ j=>c j*y j) q:=by
 have K0:=(O.k _).mp (O.w.ray_ker (c:=cc) (by lia));obtain ⟨rows,goal⟩:=ker0.mp K0;have zc:ray m S cc (q+m+1)=0:=by
  rw [<- O.w.oq];exact O.w.ray_out (by lia) (by lia) (by lia)
 have zg:ray m S cc (q+m) = - S.T m cc:=by
  rw [<- O.w.im];exact O.w.ray_in (by lia) (by lia)
 have nn:∀ v,v<q+m->0<=ray m S cc v:=λ v hv=>by
  rcases O.w.all v hv with ⟨i,hi,e⟩ | ⟨j,hj,e⟩
  ·rw [<- e,O.w.ray_in (by lia) (by lia)]
   have:=no i hi;lia
  ·rw [<- e]
   by_cases hjc:j=cc
   ·subst hjc
    rw [Wf.ray_c];exact aX O.w.pos
   ·rw [O.w.ray_out (by lia) (by lia) hjc]; exact cD _
 refine ⟨ray m S cc,λ j hj=>nn j (by lia),λ i hi=>?_,by rw [<- goal,zg]; lia⟩;have r0:=rows i hi;rw [zc,bA,dP] at r0;have n0:=nn (q+i) (by lia);lia
theorem Of.bounded (O:Of m q A b c S) {i0 l cc:Nat} (h0:i0<m) (hl:l<m) (hA:∀ j,j<q->A i0 j+A l j=c j) (hc:cc<q) (neg:S.T m cc<0) (no:∀ i,i<m->¬ 0<S.T i cc):False:=by
 obtain ⟨y,_,rows,goal⟩:=O.way hc neg no;have r0:=rows i0 h0;have rl:=rows l hl;have e:sumTo (λ j=>c j*y j) q=sumTo (λ j=>A i0 j*y j) q+sumTo (λ j=>A l j*y j) q:=by
  rw [<- Q9];refine sum_congr λ j hj=>?_;rw [<- hA j hj,cX]
 lia
end
end Lp
namespace Rim
open PySem L2 Fr
section
variable {P:Program} {w:World} {K:W.Frag} {mg:Str->Option Value} {base:Heap} {f Pt d:Addr} {fd:FuncData} {n:Nat} {C:Addr}
end
section
variable {P:Program} {w:World} {K:W.Frag} {mg:Str->Option Value} {base:Heap} {f Pt d:Addr} {fd:FuncData} {n:Nat} {C:Addr}
end
theorem E6 {l r:List Int} (j:Nat):(l++r).getD j 0=if j<l.length then l.getD j 0 else r.getD (j - l.length) 0:=by
 rw [aM,aM,aM]
 by_cases h:j<l.length
 ·rw [if_pos h,bV h]
 ·rw [if_neg h,cP (by lia)]
theorem Y6 (k j:Nat):(aL k (0:Int)).getD j 0=0:=by
 rw [aM,dW]
 split <;> rfl
theorem a4Q (l:List Int) (j:Nat):(l.map λ x=>-x).getD j 0 = - l.getD j 0:=by
 rw [aM,aM,aE]
 cases l[j]? <;> rfl
theorem a9E {z:Str} {hs:List d8} {h:d8} {i:Nat} (hi:hs[i]?=some h) (j:Nat):Arr (C8 z hs h) i j+Arr (C8 z hs h) hs.length j=L7 (K8 z h) j:=by
 have hil:i<hs.length:=(bQ.mp hi).1;have e1:(C8 z hs h)[i]?=some (B8 z h):=by
  unfold C8;rw [bV (by rw [aA]; exact hil),aE,hi]; rfl
 have e2:(C8 z hs h)[hs.length]?=some (O1 z h):=by
  unfold C8;rw [cP (by rw [aA]; exact aF _),aA,fP]; rfl
 rw [a2c e1,a2c e2];unfold L7 B8 O1 K8;simp only [E6,Y6,a4Q,aI,aA,bW]
 by_cases h1:j<h.1.length
 ·rw [if_pos (by lia),if_pos h1,if_pos (by lia),if_pos h1,if_pos (by lia),if_pos h1]; lia
 ·by_cases h2:j<h.1.length+h.2.length
  ·rw [if_pos h2,if_neg h1,if_pos h2,if_neg h1,if_pos h2,if_neg h1,dP]
  ·rw [if_neg h2,if_neg h2,if_neg h2,dP]
section
variable {P:Program} {w:World} {K:W.Frag} {mg:Str->Option Value} {base:Heap} {f Pt d CN:Addr} {fd:FuncData} {n:Nat} {C:Addr}
structure a0K (P:Program) (w:World) (K:W.Frag) (mg:Str->Option Value) (base:Heap) (n:Nat) (x:Str) (ps:List Str) (sp:Sp) (fa:Addr) (d:FuncData):Prop where
 ok:FnOk P w K mg base (R3 P w) n fa d ps sp
 b:Binds K d ps []
 k:W.keepIn K (.ref fa)=true
 m:mg x=some (.ref fa)
abbrev mE (hs:List d8):Nat:=hs.length+1
abbrev qE (z:Str) (h:d8):Nat:=h.1.length+h.2.length+(Z0 z).length
structure a3Z (K:W.Frag) (H:Hp) (ba:Addr) (xs:List V) (hs:List d8) (far:Int) (kt kg:Nat):Prop where
 l:SqL K H ba xs
 b:Bk K H xs hs
 g:∀ h∈hs,HG far kt kg h
 far:far<=2 ^ 60
 few:hs.length<=16
 t:kt<=20
 k:kg<=20
def Best (z:Str) (hs:List d8) (h:d8) (S:Lp.Bo):Prop:=OfE z hs h S/\(∀ j,j<qE z h->¬ S.T (mE hs) j<0)/\Sz 4000 (mE hs) (qE z h) S
def a0U (K:W.Frag) (CN Pt:Addr):Sp:=λ vs H Q E=>∃ (ba:Addr) (xs:List V) (hs:List d8) (number:Int) (z:Str) (far:Int) (kt kg:Nat),vs=[.ref ba,.int number,.str z]/\W4 z/\a3Z K H ba xs hs far kt kg/\number.natAbs.log2<1920/\LT Pt H ∧
 (∀ (i:Nat) (h:d8) (S:Lp.Bo) (H':Hp) (u:V),number=(i:Int)->hs[i]?=some h->Best z hs h S->C9 Pt H H'->LT Pt H'->FrT H' u (low (S.T (mE hs) (qE z h)) S.d)->Q u H')/\(¬ Y8 xs.length number->E (.ref CN) none H)
theorem a7p {z:Str} {hs:List d8} {h:d8} {S:Lp.Bo} (B:Best z hs h S):0<S.d/\S.d<2 ^ 8000:=by
 refine ⟨B.1.w.pos,?_⟩;have h1:S.d.natAbs<2 ^ 4000:=B.2.2.2;have h2:(2:Nat) ^ 4000<=2 ^ 8000:=gP (by decide) (by decide);have h3:S.d=(S.d.natAbs:Int):=by have:=B.1.w.pos; lia
 rw [h3]
 exact_mod_cast aT h1 h2
theorem b1V {m q:Nat} {A:Nat->Nat->Int} {b c:Nat->Int} {S:Lp.Bo} (O:Lp.Of m q A b c S) (sz:Sz 4000 m q S) {v:Nat} (hv:v<q):Big 4000 (Lp.valIn m S q v):=by
 have hv':v<q+m:=by lia
 rcases O.w.all v hv' with ⟨i,hi,e⟩ | ⟨j,hj,e⟩
 ·have:Lp.valIn m S q v=S.T i q:=by
   unfold Lp.valIn;rw [Lp.sum_one hi λ k hk hn=>if_neg λ z=>hn (O.w.ii k i hk hi (z.trans e.symm)),if_pos e]
  rw [this];exact sz.1 i q (by lia) (by lia)
 ·have:Lp.valIn m S q v=0:=Lp.sum_zero λ k hk=>if_neg λ z=>O.w.io k j hk hj (z.trans e.symm)
  rw [this]
  show (0:Int).natAbs<2 ^ 4000
  exact iM (by decide)
def b0L (K:W.Frag) (Pt:Addr):Sp:=λ vs H Q _=>∃ (ba:Addr) (hv:V) (xs:List V) (hs:List d8) (h:d8) (z:Str) (far:Int) (kt kg:Nat),vs=[.ref ba,hv,.str z]/\W4 z/\a3Z K H ba xs hs far kt kg/\HS K H hv h/\HG far kt kg h/\LT Pt H ∧
 (∀ (S:Lp.Bo) (H':Hp) (u:V),Best z hs h S->C9 Pt H H'->LT Pt H'->FrT H' u (low (S.T (mE hs) (qE z h)) S.d)->Q u H') ∧
 ∀ (S:Lp.Bo) (H':Hp) (c:Nat),OfE z hs h S->c<qE z h->S.T (mE hs) c<0->(∀ i,i<mE hs->¬ 0<S.T i c)->C9 Pt H H'->LT Pt H'->Q .non H'
theorem b2h {f2 f3:Addr} {d2 d3:FuncData} (F:Fun K "held_against" "held_against" a8K f fd) (Ce:J3 P w K mg base n "greatest_earned" ["houses","house","sizes"] (a5s K Pt) f2 d2)
  (Cl:Cal P w K mg base n "lowest" ["top","bottom"] b2T f3 d3):FnOk P w K mg base K5 (n+1) f fd ["houses","house","sizes"] (b0L K Pt):=by
 refine F.ok scHa (λ vs H Q E h=>?_) (λ cdv A outer s H vs Q E hr h=>?_)
 ·obtain ⟨ba,hv,xs,hs,h,z,far,kt,kg,rfl,_⟩:=h
  rfl
 obtain ⟨ba,hv,xs,hs,h,z,far,kt,kg,rfl,hz,B,hH,gh,L,kG,kN⟩:=h;refine ⟨_,d9 (p7 (i:=3) scHa.nd rfl (aC rfl) (j4 Ce.ok hr rfl Ce.m Ce.k Ce.b .nil r6 (c6 (pv 0) (c6 (pv 1) (c6 (pv 2) c7)))))
  (d9 (w4 (j8 a6o (pv 3) B9 (m9 _)) (e7 (j6 B9)) m7)
  (d9 (C3 (pv 3) (E4 rfl (j5 (j0 (i:=4) scHa.nd rfl (aC rfl)) (j5 (j0 (i:=5) scHa.nd rfl (aC rfl)) (j5 (j0 (i:=6) scHa.nd rfl (aC rfl)) (j5 (j0 (i:=7) scHa.nd rfl (aC rfl)) y4))))))
  (e7 (j6 (j4 Cl.ok hr rfl Cl.m Cl.k Cl.b .nil r6 (c6 (pv 4) (c6 (pv 7) c7))))))),?_⟩
 refine ⟨_,rfl,_,rfl,_,rfl,ba,hv,xs,hs,h,z,far,kt,kg,mE hs,qE z h,rfl,hz,B.l,B.b,hH,gh,B.g,B.far,B.few,B.t,B.k,rfl,rfl,L,λ S H' t aa wa O hn sz e' L' g1 g2 g3=>?_,λ S H' c O hc hneg hno e' L'=>?_⟩
 ·have Bs:Best z hs h S:=⟨O,hn,sz⟩
  obtain ⟨b1,b2⟩:=a7p Bs;refine ⟨_,rfl,rfl,_,rfl,D6 ?_⟩;refine ⟨_,rfl,t,_,rfl,SqT.of g1,rfl,_,_,rfl,_,_,rfl,_,_,rfl,_,_,rfl,rfl,?_⟩;exact ⟨_,rfl,_,rfl,_,_,rfl,b1,b2,λ u H2 e2 hu=>kG S H2 u Bs (λ b o hb q'=>e2 _ _ (e' b o hb q')) (L'.same e2) hu⟩
 ·refine ⟨_,rfl,rfl,_,rfl,G5 ?_⟩
  exact kN S H' c O hc hneg hno e' L'
theorem a9R {f1 f2:Addr} {d1 d2:FuncData} (F:Fun K "share" "share" a6c f fd) (Ch:a0K P w K mg base n "house_of" ["book","number"] (a7k K CN) f1 d1) (Ce:J3 P w K mg base n "held_against" ["houses","house","sizes"] (b0L K Pt) f2 d2):FnOk P w K mg base (R3 P w) (n+1) f fd ["book","number","sizes"] (a0U K CN Pt):=by
 refine F.ok1 b6S (λ vs H Q E h=>?_) (λ cdv A outer s H vs Q E hr h=>?_)
 ·obtain ⟨ba,xs,hs,number,z,far,kt,kg,rfl,_⟩:=h
  rfl
 obtain ⟨ba,xs,hs,number,z,far,kt,kg,rfl,hz,B,lm,L,kG,kE⟩:=h;refine ⟨_,e7 (j6 (j4 Ce.ok hr rfl Ce.m Ce.k Ce.b .nil r6 (c6 (pv 0) (c6 (j4 Ch.ok hr rfl Ch.m Ch.k Ch.b .nil Q7 (c6 (pv 0) (c6 (pv 1) c7))) (c6 (pv 2) c7))))),?_⟩;refine ⟨_,rfl,_,rfl,_,rfl,ba,xs,number,rfl,B.l,lm,λ i hv hi hx=>?_,kE⟩;obtain ⟨h,hh,hH⟩:=Paired.at B.b hx;have gh:=B.g h (bE hh);refine ⟨_,rfl,ba,hv,xs,hs,h,z,far,kt,kg,rfl,hz,B,hH,gh,L,λ S H' u Bs e' L' hu=>kG i h S H' u hi hh Bs e' L' hu,λ S H' c O hc hneg hno e' L'=>(O.bounded (i0:=i) (l:=hs.length) (by have:=(bQ.mp hh).1; lia) (by lia) (λ j _=>a9E hh j) hc hneg hno).elim⟩
end
end Rim
namespace L2
open PySem
theorem Big.mono {n m:Nat} {i:Int} (h:Big n i) (hn:n<=m):Big m i:=Rim.Big.mono h hn
theorem Big.mul {n m:Nat} {i j:Int} (h:Big n i) (k:Big m j):Big (n+m) (i*j):=Rim.Big.mul h k
end L2
namespace Fr
theorem b1S {x D:Int} (hD:0<D):(low x D).2∣D:=⟨gI x D,by rw [aV]; exact (a0b (t:=x) hD).2⟩
theorem b4n {t b:Int} (hb:0<b):(low t b).2<=b:=jO hb (b1S hb)
end Fr
namespace Rim
open PySem L2 Fr
section
variable {P:Program} {w:World} {K:W.Frag} {mg:Str->Option Value} {base:Heap} {f:Addr} {fd:FuncData} {n:Nat}
end
section
variable {P:Program} {w:World} {K:W.Frag} {mg:Str->Option Value} {base:Heap} {f:Addr} {fd:FuncData} {n:Nat}
def a3Y (z:Str) (s D:Int):Prop:=((z="one"\/z="less")->s<=D)/\((z="one"\/z="more")->D<=s)
theorem b1T:∀ {ws:List Int} {m:Nat},(∀ x∈ws,Big m x)->ws.length<=200->Big (m+200) ws.sum:=λ {ws m} h hl=>by
 have key:∀ l:List Int,(∀ x∈l,Big m x)->l.sum.natAbs<=l.length*2 ^ m:=λ l=>by
  induction l with
  | nil=>intro _; exact cF _
  | cons x r ih =>
   intro h;have h1:x.natAbs<2 ^ m:=h x bB;have h2:=ih λ y hy=>h y (aU _ hy);have h3:=Int.natAbs_add_le x r.sum;rw [bU,cG,hZ];lia
 have h1:=key ws h;have h2:ws.length*2 ^ m<=200*2 ^ m:=Nat.mul_le_mul_right _ hl;have h3:200*2 ^ m<2 ^ (m+200):=by
  rw [kH,iZ];exact Nat.mul_lt_mul_of_pos_left (by decide) (iM (by decide))
 exact dY (aK h1 h2) h3
end
def col (rows:List (List Int)) (i:Nat):List Int:=rows.map λ r=>r.getD i 0
section
variable {P:Program} {w:World} {K:W.Frag} {mg:Str->Option Value} {base:Heap} {f g:Addr} {fd gd:FuncData} {n:Nat}
def X4 (j:Nat) (h:d8):List Int:=if j=0 then h.1 else h.2
end
end Rim
namespace L2
open PySem PySem.Spec PyProof.Rows
section
variable {xs ys:List V} {K:W.Frag} {l1 l2:Addr} {σ:St}
end
end L2
namespace Rim
open PySem L2 Fr
section
variable {P:Program} {w:World} {K:W.Frag} {mg:Str->Option Value} {base:Heap} {f:Addr} {fd:FuncData} {n:Nat}
def L6 (hs:List d8) (ws:List Int) (j i:Nat):Int:=(bG (·*·) (col (hs.map (X4 j)) i) ws).sum
end
theorem b0N {a b:Nat}:∀ {ns ws:List Int},(∀ x∈ns,Big a x)->(∀ x∈ws,Big b x)->∀ x∈List.zipWith (·*·) ns ws,Big (a+b) x
 | [],_,_,_,x,hx=>by simp at hx
 | _::_,[],_,_,x,hx=>by simp at hx
 | n::ns,w::ws,h1,h2,x,hx=>by
  rw [cN] at hx;rcases aO.mp hx with e | e
  ·rw [e]; exact (h1 n bB).mul (h2 w bB)
  ·exact b0N (λ y hy=>h1 y (aU _ hy)) (λ y hy=>h2 y (aU _ hy)) x e
section
variable {P:Program} {w:World} {K:W.Frag} {mg:Str->Option Value} {base:Heap} {f:Addr} {fd:FuncData} {n:Nat}
end
theorem a4v:∀ {xs ys:List Int} {a b:Int},xs.length=ys.length->(bG (·*·) (xs++[a]) (ys++[b])).sum=(bG (·*·) xs ys).sum+a*b
 | [],[],a,b,_=>by simp
 | x::xs,y::ys,a,b,h=>by
  rw [bO,bO,cN,cN,bU,bU,a4v (by simpa using h),Int.add_assoc]
section
variable {P:Program} {w:World} {K:W.Frag} {mg:Str->Option Value} {base:Heap} {f:Addr} {fd:FuncData} {n:Nat}
structure PrN (pt pg:List Int) (ps D:Int) (kt kg:Nat):Prop where
 lt:pt.length=kt
 lg:pg.length=kg
 bt:∀ x∈pt,0<=x/\Big 5000 x
 bg:∀ x∈pg,0<=x/\Big 5000 x
 bs:Big 5000 ps
 d:0<D
 d2:D<2 ^ 4000
def R6 (h:d8) (pg:List Int) (ps:Int):Int:=(bG (·*·) h.2 pg).sum+ps
def pay (h:d8) (pt:List Int):Int:=(bG (·*·) h.1 pt).sum
end
section
variable {P:Program} {w:World} {K:W.Frag} {mg:Str->Option Value} {base:Heap} {f:Addr} {fd:FuncData} {n:Nat}
def a2z (z:Str) (ps:Int):Prop:=((z="any"\/z="less")->ps<=0)/\((z="any"\/z="more")->0<=ps)
end
mutual
theorem T4:∀ d:PyData,d.canLay0=true->PyData.eqv d d=true
 | .none,_=>by rw [PyData.eqv]
 | .bool b,_=>by rw [PyData.eqv]; simp
 | .int i,_=>by rw [PyData.eqv]; simp
 | .str x,_=>by rw [PyData.eqv]; simp
 | .list xs,h=>by rw [PyData.eqv]; exact X1 xs (by rw [PyData.canLay0] at h; exact h)
 | .tuple xs,h=>by rw [PyData.eqv]; exact X1 xs (by rw [PyData.canLay0] at h; exact h)
 | .dict kvs,h=>by rw [PyData.canLay0] at h; cases h
theorem X1:∀ ds:List PyData,PyData.canLayAll0 ds=true->PyData.eqvAll ds ds=true
 | [],_=>by rw [PyData.eqvAll]
 | d::r,h=>by
  rw [PyData.canLayAll0,cY] at h;rw [PyData.eqvAll,T4 d h.1,X1 r h.2]; rfl
end
def dF (x:Q2):PyData:=.tuple [.int x.1,.int x.2]
section
variable {P:Program} {w:World} {K:W.Frag} {mg:Str->Option Value} {base:Heap} {f:Addr} {fd:FuncData} {n:Nat}
end
section
variable {P:Program} {w:World} {K:W.Frag} {mg:Str->Option Value} {base:Heap} {f:Addr} {fd:FuncData} {n:Nat}
end
end Rim
namespace Lp
section
variable {m q:Nat} {A:Nat->Nat->Int} {b c:Nat->Int} {S S':Bo}
theorem R7 {g h:Nat->Int}:∀ {n:Nat},(∀ k,k<n->g k<=h k)->sumTo g n<=sumTo h n
 | 0,_=>cD _
 | n+1,e=>Int.add_le_add (R7 λ k hk=>e k (by lia)) (e n (by lia))
theorem a6X {g h:Nat->Int}:∀ n:Nat,sumTo (λ k=>g k - h k) n=sumTo g n - sumTo h n
 | 0=>rfl
 | n+1=>by
  show sumTo (λ k=>g k - h k) n+(g n - h n)=(sumTo g n+g n) - (sumTo h n+h n)
  rw [a6X n]; lia
theorem Of.slack (O:Of m q A b c S) (hn:∀ j,j<q->¬ S.T m j<0) {l:Nat} (hl:l<m) (hw:0<valOut m q S (q+l)):sumTo (λ j=>A l j*valIn m S q j) q=b l*S.d:=by
 obtain ⟨p1,p2⟩:=O.primal;have nn:∀ v,0<=valOut m q S v:=Of.valOut_nn λ j hj=>by have:=hn j hj; lia
 have nx:=O.valIn_nn
 by_cases h0:valIn m S q (q+l)=0
 ·have:=p1 l hl
  lia
 ·exfalso
  have hp:0<valIn m S q (q+l):=by have:=nx (q+l); lia
  obtain ⟨D1,D2⟩:=O.dual;have e1:S.d*sumTo (λ j=>c j*valIn m S q j) q<=sumTo (λ i=>valOut m q S (q+i)*sumTo (λ j=>A i j*valIn m S q j) q) m:=by
   have x1:S.d*sumTo (λ j=>c j*valIn m S q j) q=sumTo (λ j=>sumTo (λ i=>A i j*valOut m q S (q+i)) m*valIn m S q j - valOut m q S j*valIn m S q j) q:=by
    rw [<- A8];refine sum_congr λ j hj=>?_;rw [D1 j hj,cX,Int.add_sub_cancel,aV (c j) S.d,aY]
   have x2:sumTo (λ j=>sumTo (λ i=>A i j*valOut m q S (q+i)) m*valIn m S q j - valOut m q S j*valIn m S q j) q<=sumTo (λ j=>sumTo (λ i=>valOut m q S (q+i)*(A i j*valIn m S q j)) m) q:=by
    refine R7 λ j hj=>?_;have y:=cO (nn j) (nx j);have z:sumTo (λ i=>A i j*valOut m q S (q+i)) m*valIn m S q j=sumTo (λ i=>valOut m q S (q+i)*(A i j*valIn m S q j)) m:=by
     rw [aV,<- A8];refine sum_congr λ i hi=>?_
     ac_rfl
    lia
   rw [a0V] at x2;have x3:sumTo (λ i=>sumTo (λ j=>valOut m q S (q+i)*(A i j*valIn m S q j)) q) m=sumTo (λ i=>valOut m q S (q+i)*sumTo (λ j=>A i j*valIn m S q j) q) m:=sum_congr λ i hi=>by rw [A8]
   rw [x1,<- x3]; exact x2
  have e2:sumTo (λ i=>valOut m q S (q+i)*sumTo (λ j=>A i j*valIn m S q j) q) m<=sumTo (λ i=>S.d*(b i*valOut m q S (q+i)) - (if i=l then valOut m q S (q+l)*valIn m S q (q+l) else 0)) m:=by
   refine R7 λ i hi=>?_;have y:=p1 i hi;have z:=cO (nn (q+i)) (nx (q+i));have ez:valOut m q S (q+i)*sumTo (λ j=>A i j*valIn m S q j) q=S.d*(b i*valOut m q S (q+i)) - valOut m q S (q+i)*valIn m S q (q+i):=by
    have:sumTo (λ j=>A i j*valIn m S q j) q=b i*S.d - valIn m S q (q+i):=by lia
    rw [this,fB]
    congr 1
    ac_rfl
   rw [ez]
   by_cases hil:i=l
   ·subst hil
    rw [if_pos rfl]; exact cD _
   ·rw [if_neg hil]; lia
  have e3:sumTo (λ i=>S.d*(b i*valOut m q S (q+i)) - (if i=l then valOut m q S (q+l)*valIn m S q (q+l) else 0)) m=S.d*S.T m q - valOut m q S (q+l)*valIn m S q (q+l):=by
   rw [a6X,A8,D2,sum_one hl λ i hi hne=>if_neg hne,if_pos rfl]
  rw [p2] at e1;have:=eA hw hp;lia
end
end Lp
namespace Rim
open PySem L2 Fr
abbrev w6 (l x:List Int):Int:=(bG (·*·) l x).sum
theorem a4y:∀ (l r x:List Int),w6 (l++r) x=w6 l (x.take l.length)+w6 r (x.drop l.length)
 | [],r,x=>by simp [w6]
 | a::l,r,[]=>by simp [w6]
 | a::l,r,y::x=>by
  have:=a4y l r x;unfold w6 at *;rw [bO,cN,bU,this,cG,List.take_succ_cons,List.drop_succ_cons,cN,bU];lia
theorem a4d:∀ (l x:List Int),w6 (l.map λ y=>-y) x = - w6 l x
 | [],x=>by simp [w6]
 | a::l,[]=>by simp [w6]
 | a::l,y::x=>by
  have:=a4d l x;unfold w6 at *;rw [bD,cN,bU,this,cN,bU,eD];lia
theorem a1c:∀ (k:Nat) (x:List Int),w6 (aL k 0) x=0
 | 0,x=>by simp [w6]
 | k+1,[]=>by simp [w6]
 | k+1,y::x=>by
  have:=a1c k x;unfold w6 at *;rw [dX,cN,bU,this]; lia
theorem T3:∀ (l x:List Int),w6 l x=w6 x l
 | [],x=>by simp [w6]
 | a::l,[]=>by simp [w6]
 | a::l,y::x=>by
  have:=T3 l x;unfold w6 at *;rw [cN,bU,this,cN,bU,aV]
theorem a8N:∀ {l x:List Int},(∀ y∈l,0<=y)->(∀ y∈x,0<=y)->0<=w6 l x
 | [],x,_,_=>by simp [w6]
 | a::l,[],_,_=>by simp [w6]
 | a::l,y::x,h1,h2=>by
  have:=a8N (l:=l) (x:=x) (λ z hz=>h1 z (.tail _ hz)) (λ z hz=>h2 z (.tail _ hz));unfold w6 at *;rw [cN,bU];have:=cO (h1 a (.head _)) (h2 y (.head _));lia
theorem O5:∀ (n:Nat) (l x:List Int),l.length=n->x.length=n->Lp.sumTo (λ j=>l.getD j 0*x.getD j 0) n=w6 l x
 | 0,l,x,h1,h2=>by
  rw [gS h1]; simp [w6,Lp.sumTo]
 | n+1,l,x,h1,h2=>by
  obtain ⟨l',a,rfl⟩:∃ l' a,l=l'++[a]:=⟨l.dropLast,l.getLast (by intro z; rw [z] at h1; cases h1),(kK _).symm⟩;obtain ⟨x',b,rfl⟩:∃ l' a,x=l'++[a]:=⟨x.dropLast,x.getLast (by intro z; rw [z] at h2; cases h2),(kK _).symm⟩;have l1:l'.length=n:=by simpa using h1
  have l2:x'.length=n:=by simpa using h2
  show Lp.sumTo _ n+_=_
  have e:Lp.sumTo (λ j=>(l'++[a]).getD j 0*(x'++[b]).getD j 0) n=Lp.sumTo (λ j=>l'.getD j 0*x'.getD j 0) n:=Lp.sum_congr λ j hj=>by
   rw [E6,E6,if_pos (by lia),if_pos (by lia)]
  rw [e,O5 n l' x' l1 l2]
  show _=(bG (·*·) (l'++[a]) (x'++[b])).sum
  rw [a4v (by lia)]
  show w6 l' x'+(l'++[a]).getD n 0*(x'++[b]).getD n 0=_
  rw [E6,E6,if_neg (by lia),if_neg (by lia),l1,l2,fP]; rfl
theorem a1w {n:Nat} {F:Nat->Int} {j:Nat} (h:j<n):((aH n).map F).getD j 0=F j:=by
 rw [aM,aE,bF h]; rfl
theorem a2C:∀ {l x:List Int},(∀ y∈l,0<=y)->(∀ y∈x,0<=y)->0<w6 l x->∃ j,j<x.length/\0<x.getD j 0
 | [],x,_,_,h=>by simp [w6] at h
 | a::l,[],_,_,h=>by simp [w6] at h
 | a::l,y::x,h1,h2,h=>by
  by_cases hy:0<y
  ·exact ⟨0,by simp,by simpa using hy⟩
  ·have y0:y=0:=by have:=h2 y (.head _); lia
   subst y0;have h':0<w6 l x:=by
    unfold w6 at *;rw [cN,bU] at h; lia
   obtain ⟨j,hj,hp⟩:=a2C (λ z hz=>h1 z (.tail _ hz)) (λ z hz=>h2 z (.tail _ hz)) h';exact ⟨j+1,by simp; lia,by simpa using hp⟩
theorem a2U:∀ {l x:List Int},(∀ y∈l,0<y)->(∀ y∈x,0<=y)->l.length=x.length->(∃ j,j<x.length/\0<x.getD j 0)->0<w6 l x
 | [],[],_,_,_,⟨j,hj,_⟩=>by simp at hj
 | a::l,y::x,h1,h2,hl,⟨j,hj,hp⟩=>by
  have nn:0<=w6 l x:=a8N (λ z hz=>aX (h1 z (.tail _ hz))) (λ z hz=>h2 z (.tail _ hz));have ya:=cO (aX (h1 a (.head _))) (h2 y (.head _))
  cases j with
  | zero =>
   have:0<a*y:=eA (h1 a (.head _)) (by simpa using hp);unfold w6 at *;rw [cN,bU]; lia
  | succ j =>
   have:=a2U (l:=l) (x:=x) (λ z hz=>h1 z (.tail _ hz)) (λ z hz=>h2 z (.tail _ hz)) (by simpa using hl) ⟨j,by simpa using hj,by simpa using hp⟩;unfold w6 at *;rw [cN,bU]; lia
 | [],_::_,_,_,hl,_=>by simp at hl
 | _::_,[],_,_,hl,_=>by simp at hl
theorem b1t {m q:Nat} {A:Nat->Nat->Int} {b c:Nat->Int} {S:Lp.Bo} (O:Lp.Of m q A b c S) (sz:Sz 4000 m q S) {v:Nat} (hv:v<q+m):Big 4000 (Lp.valOut m q S v):=by
 rcases O.w.all v hv with ⟨i,hi,e⟩ | ⟨j,hj,e⟩
 ·have:Lp.valOut m q S v=0:=Lp.sum_zero λ k hk=>if_neg λ z=>O.w.io i k hi hk (e.trans z.symm)
  rw [this]
  show (0:Int).natAbs<2 ^ 4000
  exact iM (by decide)
 ·have:Lp.valOut m q S v=S.T m j:=by
   unfold Lp.valOut;rw [Lp.sum_one hj λ k hk hn=>if_neg λ z=>hn (O.w.oo k j hk hj (z.trans e.symm)),if_pos e]
  rw [this];exact sz.1 m j (by lia) (by lia)
section
variable {m q:Nat} {rows:List (List Int)} {bnd goal:List Int} {S:Lp.Bo}
theorem b1D (O:Lp.Of m q (Arr rows) (L7 bnd) (L7 goal) S) {i:Nat} {row:List Int} (hi:i<m) (hr:rows[i]?=some row) (hl:row.length=q):w6 row (u9 m q S)<=bnd.getD i 0*S.d:=by
 have h:=O.primal.1 i hi;have nn:=O.valIn_nn (q+i);have e:Lp.sumTo (λ j=>Arr rows i j*Lp.valIn m S q j) q=w6 row (u9 m q S):=by
  rw [<- O5 q row (u9 m q S) hl (by unfold u9; simp)];refine Lp.sum_congr λ j hj=>?_;rw [a2c hr];unfold u9;rw [a1w hj]
 rw [e] at h
 show _<=L7 bnd i*S.d
 lia
theorem a5M (O:Lp.Of m q (Arr rows) (L7 bnd) (L7 goal) S) (hn:∀ j,j<q->¬ S.T m j<0) {i:Nat} {row:List Int} (hi:i<m) (hr:rows[i]?=some row) (hl:row.length=q) (hw:0<Lp.valOut m q S (q+i)):w6 row (u9 m q S)=bnd.getD i 0*S.d:=by
 have h:=O.slack hn hi hw;have e:Lp.sumTo (λ j=>Arr rows i j*Lp.valIn m S q j) q=w6 row (u9 m q S):=by
  rw [<- O5 q row (u9 m q S) hl (by unfold u9; simp)];refine Lp.sum_congr λ j hj=>?_;rw [a2c hr];unfold u9;rw [a1w hj]
 rw [e] at h;exact h
theorem a8E (O:Lp.Of m q (Arr rows) (L7 bnd) (L7 goal) S) (hl:goal.length=q):w6 goal (u9 m q S)=S.T m q:=by
 have h:=O.primal.2;have e:Lp.sumTo (λ j=>L7 goal j*Lp.valIn m S q j) q=w6 goal (u9 m q S):=by
  rw [<- O5 q goal (u9 m q S) hl (by unfold u9; simp)];refine Lp.sum_congr λ j hj=>?_;unfold u9;rw [a1w hj]; rfl
 rw [e] at h;exact h
theorem a4b (O:Lp.Of m q (Arr rows) (L7 bnd) (L7 goal) S) (hn:∀ j,j<q->¬ S.T m j<0) (hl:rows.length=m) {j:Nat} (hj:j<q):goal.getD j 0*S.d<=w6 (col rows j) (K6 m q S):=by
 have h:=O.dual.1 j hj;have nn:0<=Lp.valOut m q S j:=Lp.Of.valOut_nn (λ j hj=>by have:=hn j hj; lia) j;have e:Lp.sumTo (λ i=>Arr rows i j*Lp.valOut m q S (q+i)) m=w6 (col rows j) (K6 m q S):=by
  rw [<- O5 m (col rows j) (K6 m q S) (by unfold col; rw [aA]; exact hl) (by unfold K6; simp)];refine Lp.sum_congr λ i hi=>?_;unfold K6;rw [a1w hi]
  congr 1
  unfold Arr col;rw [aM (l:=kM _ rows),aE,aM (l:=rows),aG (by lia)]; rfl
 rw [e] at h
 show L7 goal j*S.d<=_
 lia
theorem b2t (O:Lp.Of m q (Arr rows) (L7 bnd) (L7 goal) S) (hl:bnd.length=m):w6 bnd (K6 m q S)=S.T m q:=by
 have h:=O.dual.2;have e:Lp.sumTo (λ i=>L7 bnd i*Lp.valOut m q S (q+i)) m=w6 bnd (K6 m q S):=by
  rw [<- O5 m bnd (K6 m q S) hl (by unfold K6; simp)];refine Lp.sum_congr λ i hi=>?_;unfold K6;rw [a1w hi]; rfl
 rw [e] at h;exact h
theorem b3o (hn:∀ j,j<q->¬ S.T m j<0):∀ x∈K6 m q S,0<=x:=λ x hx=>by
 unfold K6 at hx;obtain ⟨i,_,rfl⟩:=aZ.mp hx;exact Lp.Of.valOut_nn (λ j hj=>by have:=hn j hj; lia) _
theorem b2H {A:Nat->Nat->Int} {b c:Nat->Int} (O:Lp.Of m q A b c S):∀ x∈u9 m q S,0<=x:=λ x hx=>by
 unfold u9 at hx;obtain ⟨i,_,rfl⟩:=aZ.mp hx;exact O.valIn_nn i
theorem a8p:K6 (m+1) q S=(K6 (m+1) q S).take m++[Lp.valOut (m+1) q S (q+m)]:=by
 unfold K6;rw [kC,bP,List.take_left' (by simp)]; rfl
end
theorem b4a (a b c xs:List Int):w6 (a++b++c) xs=w6 a (xs.take a.length)+w6 b ((xs.drop a.length).take b.length)+w6 c (xs.drop (a.length+b.length)):=by
 rw [a4y (a++b) c xs,a4y a b,aI,List.take_take,jU (by lia),List.drop_take,fT]
theorem a0M (a b c:List Int) (j:Nat):(a++b++c).getD j 0=if j<a.length then a.getD j 0 else if j<a.length+b.length then b.getD (j - a.length) 0 else c.getD (j - (a.length+b.length)) 0:=by
 rw [E6,aI]
 by_cases h1:j<a.length
 ·rw [if_pos (by lia),if_pos h1,E6,if_pos h1]
 ·by_cases h2:j<a.length+b.length
  ·rw [if_pos h2,if_neg h1,if_pos h2,E6,if_neg h1]
  ·rw [if_neg h2,if_neg h1,if_neg h2]
abbrev ptA (h:d8) (xs:List Int):List Int:=xs.take h.1.length
abbrev pgA (h:d8) (xs:List Int):List Int:=(xs.drop h.1.length).take h.2.length
abbrev psA (z:Str) (h:d8) (xs:List Int):Int:=w6 (xs.drop (h.1.length+h.2.length)) (Z0 z)
theorem b1d {z:Str} {g h:d8} (h1:g.1.length=h.1.length) (h2:g.2.length=h.2.length) (xs:List Int):w6 (B8 z g) xs=R6 g (pgA h xs) (psA z h xs) - pay g (ptA h xs):=by
 unfold B8 R6 pay;rw [b4a,aA,a4d,h1,h2,T3 (Z0 z)];dsimp only [w6,ptA,pgA,psA];lia
theorem a9c {z:Str} {h:d8} (xs:List Int):w6 (O1 z h) xs=pay h (ptA h xs):=by
 unfold O1 pay;rw [b4a,a1c,a1c];dsimp only [w6,ptA,pgA,psA];lia
theorem b0a {z:Str} {h:d8} (xs:List Int):w6 (K8 z h) xs=R6 h (pgA h xs) (psA z h xs):=by
 unfold K8 R6;rw [b4a,a1c,bW,T3 (Z0 z)];dsimp only [w6,ptA,pgA,psA];lia
theorem a8W (rows:List (List Int)) (r:List Int) (j:Nat):col (rows++[r]) j=col rows j++[r.getD j 0]:=by
 unfold col;rw [bP]; rfl
theorem a4W {a b:List Int} {x y:Int} (h:a.length=b.length):w6 (a++[x]) (b++[y])=w6 a b+x*y:=a4v h
theorem a3C (s:Int):∀ (hs:List d8) (ws:List Int),hs.length=ws.length->w6 (hs.map λ _=>s) ws=s*ws.sum
 | [],[],_=>by simp [w6]
 | _::hs,w::ws,h=>by
  have:=a3C s hs ws (by simpa using h);unfold w6 at *;rw [bD,cN,bU,this,bU,fA]
 | [],_::_,h=>by simp at h
 | _::_,[],h=>by simp at h
section
variable {z:Str} {hs:List d8} {h:d8} {kt kg:Nat} (hk:∀ g∈hs,g.1.length=kt/\g.2.length=kg)
include hk
theorem a7V (ws:List Int) {j:Nat} (hj:j<kt):w6 (col (hs.map (B8 z)) j) ws = - L6 hs ws 0 j:=by
 have e:col (hs.map (B8 z)) j=(col (hs.map (X4 0)) j).map λ y=>-y:=by
  unfold col;rw [aW,aW,aW];refine cU λ g hg=>?_
  show (B8 z g).getD j 0 = - (X4 0 g).getD j 0
  have:=hk g hg;unfold B8;rw [a0M,aA,if_pos (by lia),a4Q]; rfl
 rw [e,a4d]; rfl
theorem a8b (ws:List Int) {j:Nat} (hj:j<kg):w6 (col (hs.map (B8 z)) (kt+j)) ws=L6 hs ws 1 j:=by
 have e:col (hs.map (B8 z)) (kt+j)=col (hs.map (X4 1)) j:=by
  unfold col;rw [aW,aW];refine cU λ g hg=>?_
  show (B8 z g).getD (kt+j) 0=(X4 1 g).getD j 0
  have:=hk g hg;unfold B8;rw [a0M,aA,if_neg (by lia),if_pos (by lia),this.1,fT]; rfl
 rw [e]; rfl
theorem a9u {ws:List Int} (hw:hs.length=ws.length) (t:Nat):w6 (col (hs.map (B8 z)) (kt+kg+t)) ws=(Z0 z).getD t 0*ws.sum:=by
 have e:col (hs.map (B8 z)) (kt+kg+t)=hs.map λ _=>(Z0 z).getD t 0:=by
  unfold col;rw [aW];refine cU λ g hg=>?_
  show (B8 z g).getD (kt+kg+t) 0=_
  have:=hk g hg;unfold B8;rw [a0M,aA,if_neg (by lia),if_neg (by lia),this.1,this.2,fT]
 rw [e,a3C _ _ _ hw]
end
structure b6o (z:Str) (hs:List d8) (h:d8) (S:Lp.Bo) (kt kg:Nat) (ws:List Int):Prop where
 lw:ws.length=hs.length
 nn:∀ x∈ws,0<=x/\Big 20000 x
 size:a3Y z ws.sum S.d
 takes:∀ j,j<kt->L6 hs ws 0 j<=h.1.getD j 0*S.T (mE hs) (qE z h)
 gives:∀ j,j<kg->h.2.getD j 0*S.d<=L6 hs ws 1 j
 pos:0<S.T (mE hs) (qE z h)
 le:h∈hs->S.T (mE hs) (qE z h)<=S.d
 fair:∀ g∈hs,R6 g (pgA h (u9 (mE hs) (qE z h) S)) (psA z h (u9 (mE hs) (qE z h) S))<=pay g (ptA h (u9 (mE hs) (qE z h) S))
 pays:pay h (ptA h (u9 (mE hs) (qE z h) S))=S.d
 earns:R6 h (pgA h (u9 (mE hs) (qE z h) S)) (psA z h (u9 (mE hs) (qE z h) S))=S.T (mE hs) (qE z h)
 pr:PrN (ptA h (u9 (mE hs) (qE z h) S)) (pgA h (u9 (mE hs) (qE z h) S)) (psA z h (u9 (mE hs) (qE z h) S)) S.d kt kg
 sign:a2z z (psA z h (u9 (mE hs) (qE z h) S))
theorem b1P {z:Str} {xs:List Int} (hz:W4 z) (nn:∀ x∈xs,0<=x):a2z z (w6 xs (Z0 z)):=by
 rcases hz with rfl | rfl | rfl | rfl
 ·have:w6 xs (Z0 "any")=0:=by show (bG _ xs []).sum=0; simp
  rw [this]; exact ⟨λ _=>cD _,λ _=>cD _⟩
 ·exact ⟨λ h=>absurd h (by decide),λ h=>absurd h (by decide)⟩
 ·refine ⟨λ _=>?_,λ h=>absurd h (by decide)⟩
  show (bG _ xs [-1]).sum<=0
  cases xs with
  | nil=>simp
  | cons x r=>have:=nn x (.head _); simp; lia
 ·refine ⟨λ h=>absurd h (by decide),λ _=>?_⟩
  show 0<=(bG _ xs [1]).sum
  cases xs with
  | nil=>simp
  | cons x r=>have:=nn x (.head _); simp; lia
theorem a8D {z:Str} {xs:List Int} (h:∀ x∈xs,Big 4000 x) (hl:xs.length<=200):Big 5000 (w6 xs (Z0 z)):=by
 have:∀ y∈Z0 z,Big 100 y:=λ y hy=>dY (a3M z y hy) (Nat.pow_lt_pow_right (by decide) (by decide));exact (b1T (b0N h this) (by rw [eN]; lia)).mono (by decide)
theorem a7q {z:Str} {hs:List d8} {h:d8} {S:Lp.Bo} {far:Int} {kt kg:Nat} (hz:W4 z) (B:Best z hs h S) (hG:∀ g∈hs,HG far kt kg g) (gh:HG far kt kg h) (kt1:1<=kt) (kt4:kt<=20) (kg4:kg<=20) :
  b6o z hs h S kt kg ((K6 (mE hs) (qE z h) S).take hs.length):=by
 obtain ⟨O,hn,sz⟩:=B;have hk:∀ g∈hs,g.1.length=kt/\g.2.length=kg:=λ g hg=>⟨(hG g hg).lt,(hG g hg).lg⟩;have sg:=a4x z;generalize hm:mE hs=m at *;generalize hq:qE z h=q at *;have hm':m=hs.length+1:=hm.symm;have hq':q=kt+kg+(Z0 z).length:=by rw [<- hq]; show h.1.length+h.2.length+_=_; rw [gh.lt,gh.lg]
 replace O:Lp.Of m q (Arr (C8 z hs h)) (L7 (a0z hs)) (L7 (K8 z h)) S:=by rw [hm',<- hq]; exact O
 have lr:(C8 z hs h).length=m:=by unfold C8; simp [hm']
 have lrow:∀ g∈hs,(B8 z g).length=q:=λ g hg=>by unfold B8; simp [(hk g hg).1,(hk g hg).2,hq']; lia
 have lpaid:(O1 z h).length=q:=by unfold O1; simp [gh.lt,gh.lg,hq']; lia
 have lgoal:(K8 z h).length=q:=by unfold K8; simp [gh.lt,gh.lg,hq']; lia
 have lb:(a0z hs).length=m:=by unfold a0z; simp [hm']
 have la:(u9 m q S).length=q:=by unfold u9; simp
 have lw:(K6 m q S).length=m:=by unfold K6; simp
 have hsp:K6 m q S=(K6 m q S).take hs.length++[Lp.valOut m q S (q+hs.length)]:=by rw [hm']; exact a8p
 generalize hws:(K6 m q S).take hs.length=ws at *;generalize hwn:Lp.valOut m q S (q+hs.length)=wn at *;have lws:ws.length=hs.length:=by rw [<- hws,cI,lw]; lia
 have wnn:∀ x∈ws,0<=x/\Big 20000 x:=λ x hx=>by
  have hx':x∈K6 m q S:=by rw [hsp]; exact dI _ hx
  refine ⟨b3o hn x hx',?_⟩;unfold K6 at hx';obtain ⟨k,hk',rfl⟩:=aZ.mp hx';exact (b1t O sz (by have:=cV.mp hk'; lia)).mono (by decide)
 have pos:=O.w.pos;have eT:wn=S.T m q:=by
  have:=b2t O lb;rw [hsp] at this;unfold a0z at this;rw [a4W (by rw [bW]; exact lws.symm),a1c] at this;lia
 have colA:∀ j,w6 (col (C8 z hs h) j) (K6 m q S)=w6 (col (hs.map (B8 z)) j) ws+(O1 z h).getD j 0*wn:=λ j=>by
  rw [hsp];unfold C8;rw [a8W,a4W (by unfold col; rw [aA,aA,lws])]
 have tk:∀ j,j<kt->L6 hs ws 0 j<=h.1.getD j 0*wn:=λ j hj=>by
  have:=a4b O hn lr (j:=j) (by lia);rw [colA,a7V hk ws hj] at this;unfold K8 O1 at this;rw [a0M,a0M,bW,if_pos (by rw [gh.lt]; lia),if_pos (by rw [gh.lt]; lia),Y6] at this;lia
 have gv:∀ j,j<kg->h.2.getD j 0*S.d<=L6 hs ws 1 j:=λ j hj=>by
  have:=a4b O hn lr (j:=kt+j) (by lia);rw [colA,a8b hk ws hj] at this;unfold K8 O1 at this;rw [a0M,a0M,bW,bW,gh.lt,gh.lg,if_neg (by lia),if_pos (by lia),if_neg (by lia),if_pos (by lia),fT,Y6] at this;lia
 have szc:∀ t,t<(Z0 z).length->(Z0 z).getD t 0*S.d<=(Z0 z).getD t 0*ws.sum:=λ t ht=>by
  have:=a4b O hn lr (j:=kt+kg+t) (by lia);rw [colA,a9u hk lws.symm t] at this;unfold K8 O1 at this;rw [a0M,a0M,bW,bW,gh.lt,gh.lg,if_neg (by lia),if_neg (by lia),if_neg (by lia),if_neg (by lia),fT,Y6] at this;lia
 have size:a3Y z ws.sum S.d:=by
  rcases hz with rfl | rfl | rfl | rfl
  ·exact ⟨λ h=>absurd h (by decide),λ h=>absurd h (by decide)⟩
  ·have s0:(1:Int)*S.d<=1*ws.sum:=szc 0 (by decide)
   have s1:(-1:Int)*S.d <= -1*ws.sum:=szc 1 (by decide);exact ⟨λ _=>by lia,λ _=>by lia⟩
  ·have s1:(-1:Int)*S.d <= -1*ws.sum:=szc 0 (by decide)
   exact ⟨λ _=>by lia,λ h=>absurd h (by decide)⟩
  ·have s0:(1:Int)*S.d<=1*ws.sum:=szc 0 (by decide)
   exact ⟨λ h=>absurd h (by decide),λ _=>by lia⟩
 have posT:0<wn:=by
  obtain ⟨y,hy,y0⟩:=gh.p;obtain ⟨j,hj⟩:=fU hy;have hjl:j<kg:=by have:=(bQ.mp hj).1; rw [gh.lg] at this; exact this
  have yD:h.2.getD j 0=y:=by rw [aM,hj]; rfl
  have g1:=gv j hjl;rw [yD] at g1;have g2:0<L6 hs ws 1 j:=kO (eA y0 pos) g1;have nnc:∀ x∈col (hs.map (X4 1)) j,0<=x:=λ x hx=>by
   unfold col at hx;obtain ⟨r,hr,rfl⟩:=aZ.mp hx;obtain ⟨g,hg,rfl⟩:=aZ.mp hr;have hg':=hG g hg;have hl:j<(X4 1 g).length:=by show j<g.2.length; rw [hg'.lg]; exact hjl
   rw [aM,aG hl];exact (hg'.g _ (dH hl)).1
  obtain ⟨k,hk1,hk2⟩:=a2C nnc (λ x hx=>(wnn x hx).1) g2;have pc:∀ x∈col (hs.map (X4 0)) 0,0<x:=λ x hx=>by
   unfold col at hx;obtain ⟨r,hr,rfl⟩:=aZ.mp hx;obtain ⟨g,hg,rfl⟩:=aZ.mp hr;have hg':=hG g hg;have hl:0<(X4 0 g).length:=by show 0<g.1.length; rw [hg'.lt]; lia
   rw [aM,aG hl];have:=(hg'.t _ (dH hl)).1
   show 0<(X4 0 g)[0]
   lia
  have g3:0<L6 hs ws 0 0:=a2U pc (λ x hx=>(wnn x hx).1) (by unfold col; rw [aA,aA,lws]) ⟨k,hk1,hk2⟩;have g4:=tk 0 (by lia);have hl:0<h.1.length:=by rw [gh.lt]; lia
  have h0:1<=h.1.getD 0 0:=by
   rw [aM,aG hl];exact (gh.t _ (dH hl)).1
  have g5:0<h.1.getD 0 0*wn:=kO g3 g4
  by_cases hw:0<wn
  ·exact hw
  ·have:=cO (show 0<=h.1.getD 0 0 by lia) (show 0 <= -wn by lia)
   rw [cW] at this;lia
 have fair:∀ g∈hs,R6 g (pgA h (u9 m q S)) (psA z h (u9 m q S))<=pay g (ptA h (u9 m q S)):=λ g hg=>by
  obtain ⟨k,hk'⟩:=fU hg;have hkl:=(bQ.mp hk').1;have hr:(C8 z hs h)[k]?=some (B8 z g):=by
   unfold C8;rw [bV (by rw [aA]; exact hkl),aE,hk']; rfl
  have:=b1D O (i:=k) (by lia) hr (lrow g hg);rw [b1d (h:=h) (by rw [(hk g hg).1,gh.lt]) (by rw [(hk g hg).2,gh.lg])] at this;unfold a0z at this;rw [E6,bW,if_pos hkl,Y6,eO] at this;lia
 have hr:(C8 z hs h)[hs.length]?=some (O1 z h):=by
  unfold C8;rw [cP (by rw [aA]; exact aF _),aA,fP]; rfl
 have pays:pay h (ptA h (u9 m q S))=S.d:=by
  have:=a5M O hn (i:=hs.length) (by lia) hr lpaid (by rw [hwn]; exact posT);rw [a9c] at this;unfold a0z at this;rw [E6,bW,if_neg (by lia),fP] at this;rw [this];exact gM _
 have earns:R6 h (pgA h (u9 m q S)) (psA z h (u9 m q S))=S.T m q:=by rw [<- b0a]; exact a8E O lgoal
 have anb:∀ x∈u9 m q S,0<=x/\Big 4000 x:=λ x hx=>by
  refine ⟨b2H O x hx,?_⟩;unfold u9 at hx;obtain ⟨k,hk',rfl⟩:=aZ.mp hx;exact b1V O sz (cV.mp hk')
 have d4:S.d<2 ^ 4000:=by
  have h1:S.d.natAbs<2 ^ 4000:=sz.2;have h3:S.d=(S.d.natAbs:Int):=by lia
  rw [h3]
  exact_mod_cast h1
 refine ⟨lws,wnn,size,λ j hj=>?_,gv,?_,?_,?_,?_,?_,?_,?_⟩
 ·rw [hm,hq,<- eT]; exact tk j hj
 ·rw [hm,hq,<- eT]; exact posT
 ·intro hin; rw [hm,hq,<- earns,<- pays]; exact fair h hin
 ·rw [hm,hq]; exact fair
 ·rw [hm,hq]; exact pays
 ·rw [hm,hq]; exact earns
 ·rw [hm,hq]
  refine ⟨?_,?_,λ x hx=>?_,λ x hx=>?_,?_,pos,d4⟩
  ·rw [cI,la,gh.lt]; lia
  ·rw [cI,dL,la,gh.lt,gh.lg]; lia
  ·have:=anb x (fV hx)
   exact ⟨this.1,this.2.mono (by decide)⟩
  ·have:=anb x (fW (fV hx))
   exact ⟨this.1,this.2.mono (by decide)⟩
  ·exact a8D (λ x hx=>(anb x (fW hx)).2) (by rw [dL,la]; lia)
 ·rw [hm,hq]
  exact b1P hz λ x hx=>(anb x (fW hx)).1
end Rim
namespace L2
open PySem PySem.Spec PyProof.Rows
theorem a7P {P:Program} {w:World} {K:W.Frag} {mg mb:Str->Option Value} {CX:CXT} {k:Nat} {fa a:Addr} {fd:FuncData} {x:Str} {sp:Sp} {s₁:Shared} {vs:List Value} {ns:List Int} {Ps:List Addr}
  (KX:K.In s₁.heap) (hns:s₁.heap.Ns mainGlobals mg) (hb:s₁.heap.Ns builtinsNs mb) (hbb:∀ x:Str,x≠"__name__"->mb x=bootBuiltins x) (hlim:s₁.heap.NoLimit) (hg:s₁.gens=#[])
  (ha:s₁.heap.get? a=some { cls:=.type "list",data:=.seq vs.toArray }) (hi:IntsAre vs ns) (hl:ns.length<=sizeLine) (hr:Room k callerA)
  (hT:∀ p∈Ps,∃ c,s₁.heap.TableAt c p #[]) (hKP:∀ p∈Ps,K.lookup p=none) (BM:U8 mg s₁.heap)
  (F:∀ base:Heap,K.In base->base.Ns mainGlobals mg->U8 mg base->FnOk P w K mg base CX k fa fd [x] sp) (hbind:∀ (s:Shared) (u:Value),BindsTo s fd ⟨[u],[]⟩ [(x,u)])
  (hsp:∀ H:Hp,(∀ p∈Ps,H p=some (.tbl #[]))->SqL K H a (ns.map V.int)->sp [.ref a] H (λ v _=>v=.bl true) λ _ _ _=>False)
  (hCX:∀ H e s',CX [] H s₁ (λ _ _ _=>False) e s'->False) :
  codeAny (model P w) callerA (.call (.ref fa) ⟨[.ref a],[]⟩) (λ r s'=>r=.ok (.ret (.bool true))/\OldK s₁.heap s'.heap/\s'.os=s₁.os/\AllBare s'.gens) s₁:=by
 have rv:=a3f hi;have lenV:=hi.length;have tabObj:∀ p∈Ps,s₁.heap.get? p=some { cls:=.none,data:=.fields #[] }:=λ p hp=>by
  obtain ⟨c,z⟩:=hT p hp;exact z.2
 have core:∀ H:Hp,(∀ b,H b=none\/(∃ o xs,H b=some (.frz o (.lst xs)))\/(b∈Ps/\H b=some (.tbl #[])))->(∀ p∈Ps,H p=some (.tbl #[]))->SqL K H a (ns.map V.int)->HOk P w H s₁.heap->(∀ b,H b≠none->b=a\/b∈Ps)->(H a≠none->K.lookup a=none) →
   codeAny (model P w) callerA (.call (.ref fa) ⟨[.ref a],[]⟩) (λ r s'=>r=.ok (.ret (.bool true))/\OldK s₁.heap s'.heap/\s'.os=s₁.os/\AllBare s'.gens) s₁:=by
  intro H hO hP hS hok hA hK;have base_of:∀ {b:Addr} {o:Obj},s₁.heap.get? b=some o->H b=none->(a2Z s₁.heap H).get? b=some o:=λ e n=>b0O e n;have noA:∀ {b:Addr} {o:Obj} {es:Array DictEntry} {ep:Nat},s₁.heap.get? b=some o->o.data=.dict es ep->H b=none:=λ {b o es ep} e d=>by
   cases q:H b with
   | none=>rfl
   | some u =>
    rcases hA b (by rw [q]; simp) with e' | e'
    ·subst e'
     rw [ha] at e; cases e;have d':Data.seq vs.toArray _=Data.dict es ep:=d
     cases d'
    ·rw [tabObj b e'] at e; cases e
     have d':Data.fields #[]=Data.dict es ep:=d
     cases d'
  have nsK:∀ {b:Addr} {m:Str->Option Value},s₁.heap.Ns b m->(a2Z s₁.heap H).Ns b m:=λ {b m} ⟨o,es,ep,e,d,r⟩=>⟨o,es,ep,base_of e (noA e d),d,r⟩;have hKb:K.In (a2Z s₁.heap H):=λ b o e=>base_of (KX b o e) (by
   cases q:H b with
   | none=>rfl
   | some u =>
    rcases hA b (by rw [q]; simp) with e' | e'
    ·subst e'
     rw [hK (by rw [q]; simp)] at e; cases e
    ·rw [hKP b e'] at e; cases e)
  have hM:Mod K mg (a2Z s₁.heap H):=⟨hKb,nsK hns,⟨mb,nsK hb,hbb⟩,let ⟨mc,h1,h2⟩:=hlim; ⟨mc,nsK h1,h2⟩⟩;have BM':U8 mg (a2Z s₁.heap H):=by
   obtain ⟨bm,ob,b1,b2,b3,b4,b5,b6⟩:=BM;refine ⟨bm,ob,b1,b2,base_of b3 ?_,b4,b5,b6⟩
   cases q:H bm with
   | none=>rfl
   | some u =>
    rcases hA bm (by rw [q]; simp) with e' | e'
    ·subst e'
     rw [ha] at b3; cases b3; exact absurd b4 (by intro z; injection z with z; exact absurd z (by decide))
    ·rw [tabObj bm e'] at b3; cases b3; cases b4
  have e0:Env0 P w K mg (a2Z s₁.heap H) callerA [] s₁ H:=⟨rfl,hM,λ b o e=>b1C e,iT (a8a _ _),trivial,λ b hb=>absurd (show b∈([]:List Addr) from hb) (by simp),hok,.of_eq hg⟩;refine codeAny_mono ((F _ hKb (nsK hns) BM').run callerA [] s₁ H ⟨[.ref a],[]⟩ [.ref a] [.ref a] _ _ hr e0 (hbind s₁ (.ref a)) (.cons rfl .nil) (hsp H hP hS)) λ r s' h=>?_
  cases r with
  | error e=>exact (hCX H e s' h).elim
  | ok fl =>
   cases fl with
   | next=>exact bN h
   | brk=>exact bN h
   | cont=>exact bN h
   | ret u =>
    obtain ⟨v,H',os,bare,un,hok',r',q⟩:=h;have q':v=.bl true:=q;subst q';obtain rfl:u=Value.bool true:=r';refine ⟨rfl,⟨λ b o e=>?_,λ b o e=>un.there b o e (by simp)⟩,os,bare⟩;rcases hO b with q | ⟨ob,xs,z⟩ | ⟨hbP,z⟩
    ·exact .inl (un.keep b o e q (by intro z; exact absurd (show b∈([]:List Addr) from z) (by simp)) (by simp))
    ·have z2:=un.frzs b ob _ z
     obtain ⟨e1,_⟩:=hok b _ z;obtain ⟨e2,_⟩:=hok' b _ z2;rw [e] at e1; cases e1;exact .inl e2
    ·obtain ⟨more,z2⟩:=un.tbls b _ z
     have e2:s'.heap.get? b=some { cls:=.none,data:=.fields (#[]++more) }:=hok' b _ z2;rw [tabObj b hbP] at e; cases e;obtain ⟨c,ht⟩:=hT b hbP;exact .inr (.inl ⟨ht.isCodeTable,rfl,#[],more,rfl,e2⟩)
 have aP:a ∉ Ps:=λ z=>by
  have:=tabObj a z;rw [ha] at this; cases this
 cases hk:K.lookup a with
 | some o =>
  have e:=KX a o hk;rw [ha] at e
  cases e;refine core (λ b=>if b∈Ps then some (.tbl #[]) else none) (λ b=>?_) (λ p hp=>if_pos hp) (.inr ⟨_,vs.toArray,_,hk,rfl,rfl,rfl,by rw [bC,lenV]; exact hl,by simpa using rv⟩) (λ b u z=>?_) (λ b z=>?_) λ z=>absurd (if_neg aP) z
  ·by_cases hb:b∈Ps
   ·exact .inr (.inr ⟨hb,if_pos hb⟩)
   ·exact .inl (if_neg hb)
  ·by_cases hb:b∈Ps
   ·have z':=(if_pos hb).symm.trans z
    cases z';exact tabObj b hb
   ·have z':=(if_neg hb).symm.trans z
    cases z'
  ·by_cases hb:b∈Ps
   ·exact .inr hb
   ·exact absurd (if_neg hb) z
 | none =>
  refine core (λ b=>if b=a then some (.frz { cls:=.type "list",data:=.seq vs.toArray } (.lst (ns.map V.int))) else if b∈Ps then some (.tbl #[]) else none) (λ b=>?_) (λ p hp=>?_) (.inl (.inr ⟨{ cls:=.type "list",data:=.seq vs.toArray },if_pos rfl⟩)) (λ b u z=>?_) (λ b z=>?_) λ _=>hk
  ·by_cases hb:b=a
   ·exact .inr (.inl ⟨_,_,if_pos hb⟩)
   ·by_cases hb2:b∈Ps
    ·exact .inr (.inr ⟨hb2,(if_neg hb).trans (if_pos hb2)⟩)
    ·exact .inl ((if_neg hb).trans (if_neg hb2))
  ·have hb:p≠a:=λ z=>aP (z ▸ hp)
   exact (if_neg hb).trans (if_pos hp)
  ·by_cases hb:b=a
   ·have z':=(if_pos hb).symm.trans z
    cases z';subst hb;exact ⟨ha,by rw [aA]; exact hl,vs,_,rv,ha⟩
   ·by_cases hb2:b∈Ps
    ·have z':=((if_neg hb).trans (if_pos hb2)).symm.trans z
     cases z';exact tabObj b hb2
    ·have z':=((if_neg hb).trans (if_neg hb2)).symm.trans z
     cases z'
  ·by_cases hb:b=a
   ·exact .inl hb
   ·by_cases hb2:b∈Ps
    ·exact .inr hb2
    ·exact absurd ((if_neg hb).trans (if_neg hb2)) z
theorem walk_ofT {l:W.OpenLaw} {n k:Nat} {q:Program} {loose:List Str} {XP:(Str->Option Value)->Heap->Prop} {YP:World->Heap->Prop} {d:DefRec} {K:Params->W.Frag} {CX:World->CXT} {sp:World->Sp} {x:Str} {Ts:List (Addr×Addr)}
  (hn:l.most=some n) (hn2:n<=sizeLine) (hdf:d.params.defaults=[]) (hr:Room k callerA)
  (hY:∀ (w:World) (h:Heap),YP w h->(K w.params).In h/\∀ t∈Ts,h.get? t.2=some (W.tabObj #[]))
  (hC:∀ (w:World),∀ t∈Ts,W.codeHdIn (K w.params) t.1 t.2=true/\(K w.params).lookup t.2=none)
  (F:∀ (w:World) (mg:Str->Option Value) (fa:Addr) (h:Heap),(K w.params).In h->h.Ns mainGlobals mg->mg d.name=some (.ref fa) →
   ∃ fd:FuncData,(∀ (s:Shared) (u:Value),BindsTo s fd ⟨[u],[]⟩ [(x,u)]) ∧
    ∀ base:Heap,(K w.params).In base->base.Ns mainGlobals mg->U8 mg base->(∀ t∈Ts,W.CodeHd base t.1 t.2)->FnOk l.prog w (K w.params) mg base (CX w) k fa fd [x] (sp w))
  (hsp:∀ (w:World) (H:Hp) (a:Addr) (ns:List Int),ns.length<=n->(∀ t∈Ts,H t.2=some (.tbl #[]))->SqL (K w.params) H a (ns.map V.int)->sp w [.ref a] H (λ v _=>v=.bl true) λ _ _ _=>False)
  (hCX:∀ (w:World) (H:Hp) (s:Shared) (e:Value) (s':Shared),CX w [] H s (λ _ _ _=>False) e s'->False) :
  W.WalkO q loose XP YP l.row.toRowW d [] (λ f vs=>iB f vs):=by
 refine Att.attach_call hn hdf λ w s₀ s₁ mg mb fa o pm cd doc a vs ns G Y ho hd hcd hmg hobj hints hlen hg=>?_;obtain ⟨KX,hTb⟩:=hY w _ Y;obtain ⟨fd,hb,hF⟩:=F w mg fa _ KX G.T.g hmg;have mem:∀ p∈Ts.map (·.2),∃ t∈Ts,t.2=p:=λ p hp=>by
  obtain ⟨t,h1,h2⟩:=aZ.mp hp;exact ⟨t,h1,h2⟩
 refine a7P (Ps:=Ts.map (·.2)) KX G.T.g G.T.b G.T.builtins G.T.nolimit hg hobj hints (aK hlen hn2) hr (λ p hp=>?_) (λ p hp=>?_) G.T.bmain (λ base kb nb bm=>hF base kb nb bm λ t ht=>W.codeHd_of_K kb (hC w t ht).1) hb (λ H hP hS=>hsp w H a ns hlen (λ t ht=>hP _ (List.mem_map_of_mem ht)) hS) λ H e s'=>hCX w H s₁ e s'
 ·obtain ⟨t,h1,rfl⟩:=mem p hp
  exact ⟨t.1,(W.codeHd_of_K KX (hC w t h1).1).tab (hTb t h1)⟩
 ·obtain ⟨t,h1,rfl⟩:=mem p hp
  exact (hC w t h1).2
end L2
namespace L2
open PySem
theorem a8G {X:Cx} {P:Program} {w:World}:R5 (R3 P w) X E0:=λ _ _ _ _ _ _ _ ⟨_,_,_,_,_,_,_,h⟩=>h.elim
theorem LamTab.write {P a:Addr} {pos:Pos} {qual:Str} {H:Hp} {xs:List V} {o:HO} (T:LamTab P pos qual H) (h:H a=some (.lst xs)):LamTab P pos qual (r9 H a o):=by
 rcases T with e | ⟨c,e1,e2⟩
 ·exact .inl (by rw [c9 (λ z=>by rw [z,h] at e; cases e)]; exact e)
 ·exact .inr ⟨c,by rw [c9 (λ z=>by rw [z,h] at e1; cases e1)]; exact e1,by rw [c9 (λ z=>by rw [z,h] at e2; cases e2)]; exact e2⟩
end L2
namespace Rim
open PySem L2 Fr
theorem b1y {j:Nat} (h:j<=1000):((j:Int)).natAbs.log2<1920:=by
 rw [Int.natAbs_natCast]
 by_cases h0:j=0
 ·subst h0; decide
 ·exact Nat.lt_trans ((fM h0).mpr (dY h (show 1000<2 ^ 10 by decide))) (by decide)
open Tx (S cs ch p9 K7)
def T1 (ns:List Int):S:=Str.join (ch 44) (ns.map p9)
def o4 (h:d8):S:=T1 h.1++(ch 62++(T1 h.2++Str.empty))
def V9 (hs:List d8):S:=Str.join (ch 10) (hs.map o4)
def a1a (q:Q2):S:=if q.2=1 then p9 q.1 else p9 q.1++(ch 47++(p9 q.2++Str.empty))
def Sm (ns:List Int):Prop:=ns.length<=100/\∀ n∈ns,0<=n/\n<10 ^ 10
theorem U1 {n:Int} (h0:0<=n) (h1:n<10 ^ 10):(p9 n).length<=10:=by
 obtain ⟨m,rfl⟩:=fX h0;have:=(Tx.num_len (m:=m) (by omega)).2;rw [Tx.len_cs]; exact this
theorem R7 {B:Nat}:∀ {l:List S},(∀ x∈l,x.length<=B)->(l.map (·.length)).sum<=l.length*B
 | [],_=>by simp
 | x::l,h=>by
  have h1:=h x bB;have h2:=R7 (l:=l) λ y hy=>h y (aU _ hy);rw [bD,bU,cG,Nat.add_mul];omega
theorem a0E {ns:List Int} (h:Sm ns):∀ x∈ns.map p9,x.length<=10:=λ x hx=>by
 obtain ⟨n,hn,rfl⟩:=aZ.mp hx;exact U1 (h.2 n hn).1 (h.2 n hn).2
theorem a0Y {ns:List Int} (h:Sm ns):(T1 ns).length<=1100:=by
 have h1:=aK (lZ (ch 44) (ns.map p9)) (fY (R7 (a0E h)) _);rw [aA] at h1;have h3:(ch 44).length=1:=rfl;have:=h.1;rw [h3] at h1
 show (Str.join (ch 44) (ns.map p9)).length<=1100
 omega
theorem a1f {n:Int} (h0:0<=n) (h1:n<10 ^ 10):n.natAbs.log2<1920:=by
 have h2:n.natAbs<2 ^ 40:=by omega
 by_cases z:n.natAbs=0
 ·rw [z]; decide
 ·have:=(fM z).mpr h2
  omega
theorem a7h {ns:List Int} {i:Nat} {x:V} (h:(ns.map V.int)[i]?=some x):∃ k,x=.int k/\k∈ns:=by
 rw [aE] at h;obtain ⟨k,hk,rfl⟩:=eF.mp h;exact ⟨k,rfl,bE hk⟩
section
variable {P:Program} {w:World} {K:W.Frag} {mg:Str->Option Value} {base:Heap} {f:Addr} {fd:FuncData} {n:Nat}
def a9p (K:W.Frag):Sp:=λ vs H Q _=>∃ (b:Bool) (a:Addr) (ns:List Int),vs=[.ref a]/\SqB b K H a (ns.map V.int)/\Sm ns/\∀ H',Same H H'->Q (.str (T1 ns)) H'
theorem b3K:i9 ["numbers"] ["numbers"] (d0 P6):=⟨rfl,rfl,rfl,by decide +kernel,rfl,by decide +kernel,by decide +kernel⟩
theorem b0e:(["number"]:List Str).Nodup:=by decide +kernel
theorem b1q (F:Fun K "numbers_text" "numbers_text" P6 f fd) (zs:mg "str"=none):FnOk P w K mg base K5 (n+1) f fd ["numbers"] (a9p K):=by
 refine F.ok b3K (λ vs H Q E h=>?_) (λ cdv A outer s H vs Q E hr h=>?_)
 ·obtain ⟨b,a,ns,rfl,_⟩:=h
  rfl
 obtain ⟨b,a,ns,rfl,hS,hm,q⟩:=h
 cases b
 ·have hS':SqT K H a (ns.map V.int):=hS
  refine ⟨_,e7 (j6 (T8 eG gT gU a1R j9 (c6 (R1 ["number"] [] rfl (a4f (pv 0)) (λ _ _ _ _=>j0 (i:=0) b0e rfl (aC rfl)) (λ _ _ _ _=>p8 x9 rfl zs dC (c6 (pv 0) c7))) c7))),?_⟩;refine ⟨rfl,_,rfl,a,rfl,⟨_,hS'⟩,λ p hp=>?_⟩;refine a0w (a1b hS') hp (by rw [aA]; exact m8 (by have:=hm.1; omega)) (λ x=>.str (p9 (vI x))) (λ i x H' N hx e hN=>?_) ?_
  ·obtain ⟨k,rfl,hk⟩:=a7h hx
   exact ⟨Wk.set (by decide),_,rfl,k,rfl,a1f (hm.2 k hk).1 (hm.2 k hk).2,hN⟩
  ·refine ⟨_,p,ns.map p9,rfl,rfl,SqL.of (by rw [upd_same,aW,aW]; rfl),?_,?_⟩
   ·refine aK (fY (R7 (a0E hm)) _) ?_
    have:=hm.1;rw [aA]
    show ns.length*10+ns.length*1<=_
    omega
   ·rw [Tx.join_eq]
    exact q _ (Same.new hp _)
 ·have hS':SqL K H a (ns.map V.int):=hS
  refine ⟨_,e7 (j6 (T8 eG gT gU a1R j9 (c6 (R1 ["number"] [] rfl (G2 (pv 0)) (λ _ _ _ _=>j0 (i:=0) b0e rfl (aC rfl)) (λ _ _ _ _=>p8 x9 rfl zs dC (c6 (pv 0) c7))) c7))),?_⟩;refine ⟨rfl,_,rfl,a,rfl,⟨_,hS'⟩,λ p hp=>?_⟩;refine a0w (C2 hS') hp (by rw [aA]; exact m8 (by have:=hm.1; omega)) (λ x=>.str (p9 (vI x))) (λ i x H' N hx e hN=>?_) ?_
  ·obtain ⟨k,rfl,hk⟩:=a7h hx
   exact ⟨Wk.set (by decide),_,rfl,k,rfl,a1f (hm.2 k hk).1 (hm.2 k hk).2,hN⟩
  ·refine ⟨_,p,ns.map p9,rfl,rfl,SqL.of (by rw [upd_same,aW,aW]; rfl),?_,?_⟩
   ·refine aK (fY (R7 (a0E hm)) _) ?_
    have:=hm.1;rw [aA]
    show ns.length*10+ns.length*1<=_
    omega
   ·rw [Tx.join_eq]
    exact q _ (Same.new hp _)
def a5q (K:W.Frag):Sp:=λ vs H Q _=>∃ (v:V) (h:d8),vs=[v]/\HS K H v h/\Sm h.1/\Sm h.2/\∀ H',Same H H'->Q (.str (o4 h)) H'
theorem scHouseT:i9 ["house","takes","gives"] ["house"] (d0 V1):=⟨rfl,rfl,rfl,by decide +kernel,rfl,by decide +kernel,by decide +kernel⟩
theorem a8w {fa:Addr} {da:FuncData} (F:Fun K "house_text" "house_text" V1 f fd) (C:J3 P w K mg base n "numbers_text" ["numbers"] (a9p K) fa da):FnOk P w K mg base K5 (n+1) f fd ["house"] (a5q K):=by
 refine F.ok scHouseT (λ vs H Q E h=>?_) (λ cdv A outer s H vs Q E hr h=>?_)
 ·obtain ⟨v,h,rfl,_⟩:=h
  rfl
 obtain ⟨v,h,rfl,⟨a,ta,ga,rfl,h0,h1,h2⟩,m1,m2,q⟩:=h;refine ⟨_,d9 (C3 (pv 0) (E4 rfl (j5 (j0 (i:=1) scHouseT.nd rfl (aC rfl)) (j5 (j0 (i:=2) scHouseT.nd rfl (aC rfl)) y4))))
  (e7 (j6 (a5d (a1Q (j4 C.ok hr rfl C.m C.k C.b .nil r6 (c6 (pv 1) c7)) (a6U (a1Q (j4 C.ok hr rfl C.m C.k C.b .nil r6 (c6 (pv 2) c7)) a7l)))))),?_⟩
 refine ⟨_,rfl,a,_,rfl,h0,rfl,_,_,rfl,_,_,rfl,rfl,?_⟩;refine ⟨_,rfl,false,ta,h.1,rfl,h1,m1,λ H1 e1=>⟨_,.inr ⟨rfl,by have:=a0Y m1; omega⟩,_,rfl,false,ga,h.2,rfl,e1.tseq h2,m2,λ H2 e2=>⟨_,.inr ⟨rfl,by have:=a0Y m2; omega⟩,?_⟩⟩⟩;exact q H2 (e1.trans e2)
def a7m (K:W.Frag):Sp:=λ vs H Q _=>∃ (a:Addr) (xs:List V) (hs:List d8),vs=[.ref a]/\SqL K H a xs/\Bk K H xs hs/\hs.length<=100/\(∀ h∈hs,Sm h.1/\Sm h.2)/\∀ H',Same H H'->Q (.str (V9 hs)) H'
theorem b2q:i9 ["book"] ["book"] (d0 Y1):=⟨rfl,rfl,rfl,by decide +kernel,rfl,by decide +kernel,by decide +kernel⟩
theorem b2G:(["house"]:List Str).Nodup:=by decide +kernel
theorem a2q {h:d8} (m1:Sm h.1) (m2:Sm h.2):(o4 h).length<=2300:=by
 have h1:=a0Y m1;have h2:=a0Y m2;unfold o4;rw [Tx.len_cs,Tx.cs_app,Tx.cs_app,Tx.cs_app,aI,aI,aI];rw [Tx.len_cs] at h1 h2;have h3:(cs (ch 62)).length=1:=rfl;have h4:(cs Str.empty).length=0:=rfl;omega
theorem b0n {fa:Addr} {da:FuncData} (F:Fun K "book_text" "book_text" Y1 f fd) (C:J3 P w K mg base n "house_text" ["house"] (a5q K) fa da):FnOk P w K mg base K5 (n+1) f fd ["book"] (a7m K):=by
 refine F.ok b2q (λ vs H Q E h=>?_) (λ cdv A outer s H vs Q E hr h=>?_)
 ·obtain ⟨a,xs,hs,rfl,_⟩:=h
  rfl
 obtain ⟨a,xs,hs,rfl,hS,hB,hl,hm,q⟩:=h;refine ⟨_,e7 (j6 (T8 eG gT gU a1R j9 (c6 (R1 ["house"] [] rfl (G2 (pv 0)) (λ _ _ _ _=>j0 (i:=0) b2G rfl (aC rfl)) (λ _ _ _ _=>j4 C.ok hr rfl C.m C.k C.b .nil r6 (c6 (pv 0) c7))) c7))),?_⟩;have xl:xs.length=hs.length:=Paired.length hB;refine ⟨rfl,_,rfl,a,rfl,⟨_,hS⟩,λ p hp=>?_⟩;refine O3 (C2 hS) hp (m8 (by omega)) (λ i y _=>∃ h,hs[i]?=some h/\y=.str (o4 h)) (λ _ _ _ _ r _=>r) (λ i y H2 zs N hy e hp' hN=>?_) (λ zs H2 e hp' len pr=>?_)
 ·obtain ⟨h,hh,r⟩:=Paired.at hB hy
  obtain ⟨m1,m2⟩:=hm h (bE hh);exact ⟨Wk.set (by decide),_,rfl,y,h,rfl,r.same e,m1,m2,λ H3 e3=>hN _ _ e3 ⟨h,hh,rfl⟩⟩
 ·have ez:zs=(hs.map o4).map V.str:=by
   refine bX λ i=>?_
   by_cases hi:i<zs.length
   ·obtain ⟨h,hh,e1⟩:=pr i _ (aG hi)
    rw [aG hi,e1,aE,aE,hh]; rfl
   ·rw [bH (by omega),bH (by rw [aA,aA]; omega)]
  rw [ez] at hp';refine ⟨_,p,hs.map o4,rfl,rfl,SqL.of hp',?_,?_⟩
  ·have h1:=R7 (B:=2300) (l:=hs.map o4) λ x hx=>by
    obtain ⟨h,hh,rfl⟩:=aZ.mp hx;exact a2q (hm h hh).1 (hm h hh).2
   refine aK (fY h1 _) ?_;rw [aA]
   show hs.length*2300+hs.length*1<=_
   omega
  ·rw [Tx.join_eq]
   exact q _ e
def a1T (K:W.Frag):Sp:=λ vs H Q _=>∃ (v:V) (q:Q2),vs=[v]/\FrV K H v q/\q.1.natAbs.log2<1920/\q.2.natAbs.log2<1920/\Q (.str (a1a q)) H
theorem scFracT:i9 ["one","top","bottom"] ["one"] (d0 N8):=⟨rfl,rfl,rfl,by decide +kernel,rfl,by decide +kernel,by decide +kernel⟩
theorem b0i (F:Fun K "fraction_text" "fraction_text" N8 f fd):FnOk P w K mg base K5 (n+1) f fd ["one"] (a1T K):=by
 refine F.ok scFracT (λ vs H Q E h=>?_) (λ cdv A outer s H vs Q E hr h=>?_)
 ·obtain ⟨v,x,rfl,_⟩:=h
  rfl
 obtain ⟨v,x,rfl,⟨a,rfl,h0⟩,l1,l2,q⟩:=h;refine ⟨_,d9 (C3 (pv 0) (E4 rfl (j5 (j0 (i:=1) scFracT.nd rfl (aC rfl)) (j5 (j0 (i:=2) scFracT.nd rfl (aC rfl)) y4))))
  (e7 (j6 (a0N (j8 Z1 (pv 2) e8 (m9 _)) (a9G (pv 1)) (a5d (a1Q (pv 1) (a6U (a1Q (pv 2) a7l))))))),?_⟩
 refine ⟨_,rfl,a,_,rfl,h0,rfl,_,_,rfl,_,_,rfl,rfl,?_⟩;refine ⟨_,rfl,rfl,_,rfl,?_⟩;unfold a1a at q;refine A2 (λ c=>?_) (λ c=>?_)
 ·have c':x.2=1:=by simpa using c
  rw [if_pos c'] at q;exact ⟨_,rfl,_,.inl ⟨x.1,rfl,l1,rfl⟩,q⟩
 ·have c':¬ x.2=1:=by simpa using c
  rw [if_neg c'] at q;exact ⟨_,rfl,_,.inl ⟨x.1,rfl,l1,rfl⟩,_,rfl,_,.inl ⟨x.2,rfl,l2,rfl⟩,q⟩
end
end Rim
namespace Rim
open PySem L2 Fr
open Tx (S cs ch p9 K7 B7 y6)
abbrev FIG:S:=Str.ofString "0123456789"
theorem b2B:∀ c,c<128->(Builtin.Str.occurrences FIG (ch c) 0 FIG.length 1).isEmpty=!(decide (48<=c)&&decide (c<=57)):=by decide +kernel
def a8l:Option Int->V
 | none=>.non
 | some n=>.int n
theorem T5 (x:S):B7 x=(decide (1<=(cs x).length)&&decide ((cs x).length<=10)&&(cs x).all (λ c=>decide (48<=c)&&decide (c<=57))&&(decide ((cs x).head?≠some 48) || decide (cs x=[48]))):=rfl
section
variable {P:Program} {w:World} {K:W.Frag} {mg:Str->Option Value} {base:Heap} {f:Addr} {fd:FuncData} {n:Nat}
def a4w:Sp:=λ vs H Q _=>∃ z:S,vs=[.str z]/\K7 z/\z.length<=100000/\∀ H',Same H H'->Q (a8l (y6 z)) H'
theorem b2n:i9 ["text"] ["text"] (d0 R8):=⟨rfl,rfl,rfl,by decide +kernel,rfl,by decide +kernel,by decide +kernel⟩
theorem b2I:(["sign"]:List Str).Nodup:=by decide +kernel
theorem a9M (F:Fun K "read_number" "read_number" R8 f fd) (T:v7 mg) (CM:∃ t,mg "MOST_FIGURES"=some (.int 10 t)) (CF:∃ t,mg "FIGURES"=some (.str FIG t)):FnOk P w K mg base K5 (n+1) f fd ["text"] a4w:=by
 refine F.ok b2n (λ vs H Q E h=>?_) (λ cdv A outer s H vs Q E hr h=>?_)
 ·obtain ⟨z,rfl,_⟩:=h
  rfl
 obtain ⟨z,rfl,ha,hl,q⟩:=h;obtain ⟨tm,hM⟩:=CM;obtain ⟨tf,hF⟩:=CF;refine ⟨_,d9 (w4 (PW.pt (a0Z (J4 (Y4 W7 W7 e8 (i8 a4n rfl T.len aR (c6 (pv 0) c7)) (x5 (v:=.int 10) rfl hM ⟨_,rfl⟩))) (V0 (S2 (i8 (a5h rfl) rfl T.any kP (c6 (R1 ["sign"] [] rfl (b4l (pv 0)) (λ _ _ _ _=>j0 (i:=0) b2I rfl (aC rfl)) (λ _ _ _ _=>Q6 a4o (pv 0) (x5 (v:=.str FIG) rfl hF ⟨_,rfl⟩) rfl)) c7)))))) (e7 (j6 B9)) m7)
  (d9 (w4 (PW.pt (W6 (j8 Z1 (p6 b4z (pv 0) e8 (λ _ _=>rfl)) j9 (m9 _)) (R0 (j8 a3E (pv 0) j9 (m9 _))))) (e7 (j6 B9)) m7)
  (e7 (j6 (p8 a4g rfl T.int iL (c6 (pv 0) c7))))),?_⟩
 have lz:=Tx.len_cs z;have hsl:z.length<=sizeLine:=by rw [sizeLine_eq]; omega
 have no:B7 z=false->Q .non H:=λ c=>by
  have:=q H (Same.refl _);unfold y6 at this;rw [if_neg (by rw [c]; exact bI)] at this;exact this
 have no':B7 z=false->∀ H',Same H H'->Q .non H':=λ c H' e=>by
  have:=q H' e;unfold y6 at this;rw [if_neg (by rw [c]; exact bI)] at this;exact this
 refine ⟨_,rfl,z,rfl,hsl,_,_,rfl,rfl,_,rfl,?_⟩;refine A2 (λ c1=>?_) (λ c1=>?_)
 rotate_left
 ·have c1':¬ 1<=z.length:=λ h=>c1 (decide_eq_true (by omega))
  refine ⟨_,rfl,G5 (no ?_)⟩;rw [T5,decide_eq_false (by rw [<- lz]; exact c1')]; rfl
 have c1':1<=z.length:=by have:=of_decide_eq_true c1; omega
 refine ⟨_,_,rfl,rfl,_,rfl,?_⟩
 by_cases c2:z.length<=10
 rotate_left
 ·rw [show decide ((z.length:Int)<=10)=false from decide_eq_false (by omega)]
  refine G5 (no ?_);rw [T5,decide_eq_false (show ¬ (cs z).length<=10 by rw [<- lz]; exact c2)]; simp
 rw [show decide ((z.length:Int)<=10)=true from decide_eq_true (by omega)];refine D6 ?_;refine ⟨_,rfl,z,rfl,λ p hp=>?_⟩;have sl:(a3e z).length=(cs z).length:=aA _;refine O3 a9U hp (m8 (by omega)) (λ i y _=>∃ c,(cs z)[i]?=some c/\y=.bl (!(decide (48<=c)&&decide (c<=57)))) (λ _ _ _ _ r _=>r) (λ i y H2 zs N hy e hp' hN=>?_) (λ zs H2 e hp' len pr=>?_)
 ·unfold a3e at hy
  rw [aE] at hy;obtain ⟨c,hc,rfl⟩:=eF.mp hy;refine ⟨Wk.set (by decide),_,rfl,_,_,rfl,rfl,?_⟩;rw [b2B c (ha c (bE hc)),Bool.not_not];exact hN _ _ (Same.refl _) ⟨c,hc,rfl⟩
 have ez:zs=((cs z).map λ c=>!(decide (48<=c)&&decide (c<=57))).map V.bl:=by
  refine bX λ i=>?_
  by_cases hi:i<zs.length
  ·obtain ⟨h,hh,e1⟩:=pr i _ (aG hi)
   rw [aG hi,e1,aE,aE,hh]; rfl
  ·rw [bH (by omega),bH (by rw [aA,aA]; omega)]
 rw [ez] at hp';refine ⟨p,_,rfl,.inl (SqL.of hp'),_,rfl,?_⟩;have ean:(((cs z).map λ c=>!(decide (48<=c)&&decide (c<=57))).any id)=!((cs z).all λ c=>decide (48<=c)&&decide (c<=57)):=by
  rw [fG,List.not_all_eq_any_not]; rfl
 rw [ean]
 by_cases c3:(cs z).all (λ c=>decide (48<=c)&&decide (c<=57))=true
 rotate_left
 ·have c3':(cs z).all (λ c=>decide (48<=c)&&decide (c<=57))=false:=dZ.mpr c3
  rw [c3'];refine G5 (no' ?_ _ e);rw [T5,c3']; simp
 rw [c3];refine D6 ?_;obtain ⟨d,r,hd⟩:∃ d r,cs z=d::r:=by
  cases h:cs z with
  | nil=>rw [h] at lz; simp at lz; omega
  | cons d r=>exact ⟨d,r,rfl⟩
 refine ⟨_,rfl,z,0,d,rfl,rfl,hsl,?_,rfl,_,rfl,?_⟩
 ·show atI (cs z) 0=some d
  rw [hd]; exact y8 (j:=0) rfl
 have e0:(V.str (ch d)=V.str (Str.ofString "0")) ↔ d=48:=by
  constructor
  ·intro h
   have h1:ch d=Str.ofString "0":=V.str.inj h;have h2:=congrArg cs h1;have h3:cs (Str.ofString "0")=[48]:=by decide
   rw [h3] at h2;exact (gL h2).1
  ·intro h; subst h; exact congrArg V.str (Tx.ext (by decide))
 have e1:(V.str z=V.str (Str.ofString "0")) ↔ cs z=[48]:=by
  constructor
  ·intro h; rw [V.str.inj h]; decide
  ·intro h; exact congrArg V.str (Tx.ext (by rw [h]; decide))
 have yes:B7 z=true->Q (.int ((mD (cs z):Nat):Int)) H2:=λ c=>by
  have:=q H2 e;unfold y6 at this;rw [if_pos c] at this;exact this
 have dig:mF (cs z):=λ c hc=>by
  have:=dB.mp c3 c hc;rw [cY] at this;exact ⟨of_decide_eq_true this.1,of_decide_eq_true this.2⟩
 have fin:B7 z=true->∃ z' n,[V.str z]=[V.str z']/\intText? z'=some n/\z'.length<=640/\Q (.int n) H2:=λ c =>
  ⟨z,_,rfl,PySem.intText_digits dig (by show cs z≠[]; rw [hd]; simp) (by omega),by omega,yes c⟩
 have base0:(decide (1<=(cs z).length)&&decide ((cs z).length<=10)&&(cs z).all (λ c=>decide (48<=c)&&decide (c<=57)))=true:=by
  rw [decide_eq_true (by rw [<- lz]; exact c1'),decide_eq_true (by rw [<- lz]; exact c2),c3]; rfl
 refine A2 (λ c4=>?_) (λ c4=>?_)
 ·have c4':d=48:=e0.mp (of_decide_eq_true c4)
  refine ⟨_,rfl,rfl,_,rfl,?_⟩;refine A2 (λ c5=>?_) (λ c5=>?_)
  ·refine no' ?_ _ e
   have:¬ V.str z=V.str (Str.ofString "0"):=by simpa using c5
   rw [T5,base0,hd,c4',decide_eq_false (λ h=>h rfl),decide_eq_false (λ h=>this (e1.mpr (by rw [hd,c4']; exact h)))];rfl
  ·have:V.str z=V.str (Str.ofString "0"):=by simpa using c5
   refine ⟨_,rfl,fin ?_⟩;rw [T5,base0,decide_eq_true (e1.mp this)]; simp
 ·have c4':¬ d=48:=λ h=>c4 (decide_eq_true (e0.mpr h))
  refine ⟨_,rfl,fin ?_⟩;rw [T5,base0,decide_eq_true (show (cs z).head?≠some 48 by rw [hd]; exact λ h=>c4' (aJ h))]; rfl
end
end Rim
namespace Rim
open PySem L2 Fr
section
variable {P:Program} {w:World} {K:W.Frag} {mg:Str->Option Value} {base:Heap} {f Pt d:Addr} {fd:FuncData} {n:Nat} {C:Addr}
end
section
variable {P:Program} {w:World} {K:W.Frag} {mg:Str->Option Value} {base:Heap} {f Pt d:Addr} {fd:FuncData} {n:Nat} {C:Addr}
end
structure b7s (z:Str) (hs:List d8) (h:d8) (S:Lp.Bo) (kt kg:Nat) (ws:List Int):Prop where
 lw:ws.length=hs.length
 nn:∀ x∈ws,0<=x/\Big 20000 x
 size:a3Y z ws.sum (S.T (mE hs) (qE z h))
 takes:∀ j,j<kt->L6 hs ws 0 j<=h.1.getD j 0*S.T (mE hs) (qE z h)
 gives:∀ j,j<kg->h.2.getD j 0*S.d<=L6 hs ws 1 j
 pos:0<S.T (mE hs) (qE z h)
 le:S.T (mE hs) (qE z h)<=S.d
 fair:∀ g∈hs,R6 g (pgA h (u9 (mE hs) (qE z h) S)) (psA z h (u9 (mE hs) (qE z h) S))<=pay g (ptA h (u9 (mE hs) (qE z h) S))
 pays:pay h (ptA h (u9 (mE hs) (qE z h) S)) - psA z h (u9 (mE hs) (qE z h) S)=S.d
 gvs:w6 h.2 (pgA h (u9 (mE hs) (qE z h) S))=S.T (mE hs) (qE z h)
 pr:PrN (ptA h (u9 (mE hs) (qE z h) S)) (pgA h (u9 (mE hs) (qE z h) S)) (psA z h (u9 (mE hs) (qE z h) S)) (S.T (mE hs) (qE z h)) kt kg
 sign:a2z z (psA z h (u9 (mE hs) (qE z h) S))
section
variable {P:Program} {w:World} {K:W.Frag} {mg:Str->Option Value} {base:Heap} {f Pt d CN:Addr} {fd:FuncData} {n:Nat} {C:Addr}
end
end Rim
namespace Lp
section
variable {m q:Nat} {A:Nat->Nat->Int} {b c:Nat->Int} {S:Bo}
end
end Lp
namespace Rim
open PySem L2 Fr
section
variable {P:Program} {w:World} {K:W.Frag} {mg:Str->Option Value} {base:Heap} {f Pt d:Addr} {fd:FuncData} {n:Nat} {C:Addr}
end
section
variable {P:Program} {w:World} {K:W.Frag} {mg:Str->Option Value} {base:Heap} {f Pt d:Addr} {fd:FuncData} {n:Nat} {C:Addr}
end
structure b7y (z:Str) (hs:List d8) (h:d8) (pt pg:List Int) (ps:Int):Prop where
 lt:pt.length=h.1.length
 lg:pg.length=h.2.length
 tp:∀ x∈pt,0<x
 gp:∀ x∈pg,0<x
 sign:a2z z ps
 fair:∀ g∈hs,R6 g pg ps<=pay g pt
 firm:R6 h pg ps=pay h pt
theorem a6A:∀ {l x y:List Int},x.length=y.length->w6 l (bG (·+·) x y)=w6 l x+w6 l y
 | [],x,y,_=>by simp [w6]
 | a::l,[],[],_=>by simp [w6]
 | a::l,b::x,c::y,h=>by
  have:=a6A (l:=l) (x:=x) (y:=y) (by simpa using h);unfold w6 at *;simp only [cN,bU];rw [this,fA]; omega
 | a::l,[],c::y,h=>by simp at h
 | a::l,b::x,[],h=>by simp at h
section
variable {z:Str} {hs:List d8} {h:d8} {S:Lp.Bo} {kt kg i:Nat}
end
end Rim
namespace L2
open PySem
section
variable {fr:List Nat} {tc:TT} {σ:St} {H1:Hp} {p:Addr} {D:Hp->Prop} {P:Addr} {pos:Pos} {qual:Str} {n:Nat}
end
end L2
namespace Rim
open PySem L2 Fr
open Classical in
section
variable {P:Program} {w:World} {K:W.Frag} {mg:Str->Option Value} {base:Heap} {f Pt d:Addr} {fd:FuncData} {n:Nat} {C:Addr}
end
end Rim
namespace Rim
open PySem L2 Fr
structure Mx (z:Str) (hs:List d8) (ws:List Int) (D:Int):Prop where
 lw:ws.length=hs.length
 nn:∀ x∈ws,0<=x
 d:0<D
 size:a3Y z ws.sum D
structure Px (z:Str) (hs:List d8) (kt kg:Nat) (pt pg:List Int) (ps:Int):Prop where
 lt:pt.length=kt
 lg:pg.length=kg
 tn:∀ x∈pt,0<=x
 gn:∀ x∈pg,0<=x
 sign:a2z z ps
 fair:∀ g∈hs,R6 g pg ps<=pay g pt
theorem D0 (a b:Int) (l x:List Int):w6 (a::l) (b::x)=a*b+w6 l x:=rfl
theorem a2I {f:d8->List Int} {k:Nat}:∀ {hs:List d8} {ws p:List Int},ws.length=hs.length->(∀ g∈hs,(f g).length=k)->p.length=k →
  w6 (hs.map λ g=>w6 (f g) p) ws=w6 ((aH k).map λ j=>w6 (hs.map λ g=>(f g).getD j 0) ws) p
 | [],ws,p,_,_,hp=>by
  have e:∀ (l:List Nat) (p:List Int),w6 (l.map λ _=>(0:Int)) p=0:=λ l=>by
   induction l with
   | nil=>intro p; simp [w6]
   | cons a r ih =>
    intro p
    cases p with
    | nil=>simp [w6]
    | cons b p=>rw [bD,D0,ih p]; omega
  show (0:Int)=_
  rw [show ((aH k).map λ j=>w6 (([]:List d8).map λ g=>(f g).getD j 0) ws)=(aH k).map λ _=>(0:Int) from cU λ j _=>by simp [w6],e]
 | g::hs,[],p,h,_,_=>by simp at h
 | g::hs,w::ws,p,h,hk,hp=>by
  have ih:=a2I (f:=f) (k:=k) (hs:=hs) (ws:=ws) (p:=p) (by simpa using h) (λ x hx=>hk x (.tail _ hx)) hp;rw [bD,D0,ih];have e1:((aH k).map λ j=>w6 ((g::hs).map λ g=>(f g).getD j 0) (w::ws))=bG (·+·) ((f g).map λ x=>x*w) ((aH k).map λ j=>w6 (hs.map λ g=>(f g).getD j 0) ws):=by
   have lg:=hk g (.head _);refine bX λ j=>?_
   by_cases hj:j<k
   ·rw [aE,bF hj,gQ,aE,aE,bF hj,aG (by rw [lg]; exact hj)]
    simp only [eP];rw [bD,D0,aM,aG (by rw [lg]; exact hj)]; rfl
   ·rw [bH (by simp; omega),bH (by simp; omega)]
  rw [e1,T3 (bG _ _ _) p,a6A (by simp [hk g (.head _)]),T3 p,T3 p]
  congr 1
  have:∀ (l p:List Int),w6 (l.map λ x=>x*w) p=w6 l p*w:=λ l=>by
   induction l with
   | nil=>intro p; simp [w6]
   | cons a r ih =>
    intro p
    cases p with
    | nil=>simp [w6]
    | cons b p =>
     rw [bD,D0,D0,ih p,cX]
     congr 1
     ac_rfl
  rw [this]
theorem a0H:∀ {l m p:List Int},l.length=m.length->(∀ x∈p,0<=x)->(∀ j,j<l.length->l.getD j 0<=m.getD j 0)->w6 l p<=w6 m p
 | [],[],p,_,_,_=>cD _
 | a::l,b::m,[],_,_,_=>cD _
 | a::l,b::m,c::p,h,hp,hj=>by
  have ih:=a0H (l:=l) (m:=m) (p:=p) (by simpa using h) (λ x hx=>hp x (.tail _ hx)) λ j hl=>by
   have:=hj (j+1) (by simpa using hl)
   simpa using this
  have h0:a<=b:=by simpa using hj 0 (by simp)
  rw [D0,D0];have:=dO h0 (hp c (.head _));omega
 | [],_::_,_,h,_,_=>by simp at h
 | _::_,[],_,h,_,_=>by simp at h
theorem a0d (s:Int):∀ (l p:List Int),w6 (l.map λ x=>x*s) p=w6 l p*s
 | [],p=>by simp [w6]
 | a::l,[]=>by simp [w6]
 | a::l,b::p=>by
  rw [bD,D0,D0,a0d s l p,cX]
  congr 1
  ac_rfl
section
variable {z:Str} {hs:List d8} {h:d8} {kt kg:Nat} {ws pt pg:List Int} {D ps:Int}
theorem a7r (j i:Nat):L6 hs ws j i=w6 (hs.map λ g=>(X4 j g).getD i 0) ws:=by
 unfold L6 col;rw [aW]; rfl
theorem b0I (hz:W4 z) (M:Mx z hs ws D) (P:Px z hs kt kg pt pg ps) (hk:∀ g∈hs,g.1.length=kt/\g.2.length=kg) :
  w6 ((aH kg).map λ j=>L6 hs ws 1 j) pg+ps*D<=w6 ((aH kt).map λ j=>L6 hs ws 0 j) pt:=by
 have e0:w6 (hs.map λ g=>pay g pt) ws=w6 ((aH kt).map λ j=>L6 hs ws 0 j) pt:=by
  have:=a2I (f:=λ g=>g.1) (hs:=hs) (ws:=ws) (p:=pt) M.lw (λ g hg=>(hk g hg).1) P.lt;rw [show (λ j=>L6 hs ws 0 j)=λ j=>w6 (hs.map λ g=>g.1.getD j 0) ws from funext λ j=>a7r 0 j];exact this
 have e1:w6 (hs.map λ g=>w6 g.2 pg) ws=w6 ((aH kg).map λ j=>L6 hs ws 1 j) pg:=by
  have:=a2I (f:=λ g=>g.2) (hs:=hs) (ws:=ws) (p:=pg) M.lw (λ g hg=>(hk g hg).2) P.lg;rw [show (λ j=>L6 hs ws 1 j)=λ j=>w6 (hs.map λ g=>g.2.getD j 0) ws from funext λ j=>a7r 1 j];exact this
 have e2:w6 (hs.map λ g=>R6 g pg ps) ws=w6 (hs.map λ g=>w6 g.2 pg) ws+ps*ws.sum:=by
  have:∀ (hs:List d8) (ws:List Int),hs.length=ws.length->w6 (hs.map λ g=>R6 g pg ps) ws=w6 (hs.map λ g=>w6 g.2 pg) ws+ps*ws.sum:=λ hs=>by
   induction hs with
   | nil =>
    intro ws hl;rw [gS hl.symm]; simp [w6]
   | cons g r ih =>
    intro ws hl
    cases ws with
    | nil=>simp at hl
    | cons w ws =>
     have:=ih ws (by simpa using hl);rw [bD,bD,D0,D0,this,bU];have e:R6 g pg ps=w6 g.2 pg+ps:=rfl;rw [e,cX,fA];omega
  exact this hs ws M.lw.symm
 have le:w6 (hs.map λ g=>R6 g pg ps) ws<=w6 (hs.map λ g=>pay g pt) ws:=by
  refine a0H (by simp) M.nn λ j hj=>?_;have hj':j<hs.length:=by simpa using hj
  rw [aM,aM,aE,aE,aG hj'];exact P.fair _ (dH hj')
 have sz:ps*D<=ps*ws.sum:=by
  obtain ⟨s1,s2⟩:=M.size;obtain ⟨g1,g2⟩:=P.sign;rcases hz with c | c | c | c
  ·have:=g1 (.inl c); have:=g2 (.inl c)
   have:ps=0:=by omega
   rw [this]; simp
  ·have a1:=s1 (.inl c)
   have a2:=s2 (.inl c);have:ws.sum=D:=by omega
   rw [this]; exact cD _
  ·have a1:=g1 (.inr c)
   have a2:=s1 (.inr c);have:=fC a2 (show 0 <= -ps by omega);rw [eD,eD] at this;omega
  ·have a1:=g2 (.inr c)
   have a2:=s2 (.inr c);exact fC a2 a1
 rw [e0,e2,e1] at le;omega
structure Shr (z:Str) (hs:List d8) (h:d8) (kt kg:Nat) (A B:Int) (ws:List Int) (D:Int):Prop where
 m:Mx z hs ws D
 t:∀ j,j<kt->L6 hs ws 0 j*B<=h.1.getD j 0*A*D
 g:∀ j,j<kg->h.2.getD j 0*D<=L6 hs ws 1 j
structure Gro (z:Str) (hs:List d8) (h:d8) (kt kg:Nat) (A B:Int) (ws:List Int) (D:Int):Prop where
 m:Mx z hs ws D
 t:∀ j,j<kt->L6 hs ws 0 j<=h.1.getD j 0*D
 g:∀ j,j<kg->h.2.getD j 0*A*D<=L6 hs ws 1 j*B
theorem a4K {k:Nat} {F:Nat->Int} {j:Nat} (h:j<k):((aH k).map F).getD j 0=F j:=a1w h
theorem Shr.weak {A B:Int} (hz:W4 z) (S:Shr z hs h kt kg A B ws D) (P:Px z hs kt kg pt pg ps) (hk:∀ g∈hs,g.1.length=kt/\g.2.length=kg) (h1:h.1.length=kt) (h2:h.2.length=kg) (hB:0<B):R6 h pg ps*B<=A*pay h pt:=by
 have L:=b0I hz S.m P hk;have dp:=S.m.d;have a1:w6 h.2 pg*D<=w6 ((aH kg).map λ j=>L6 hs ws 1 j) pg:=by
  rw [<- a0d];refine a0H (by simp [h2]) P.gn λ j hj=>?_;have hj':j<kg:=by simpa [h2] using hj
  rw [a4K hj',aM,aE,aG (by omega)];have:=S.g j hj';rw [aM,aG (by omega)] at this;exact this
 have a2:w6 ((aH kt).map λ j=>L6 hs ws 0 j) pt*B<=w6 h.1 pt*(A*D):=by
  rw [<- a0d,<- a0d];refine a0H (by simp [h1]) P.tn λ j hj=>?_;have hj':j<kt:=by simpa using hj
  rw [aM,aE,aE,bF hj',aM,aE,aG (by omega)];have:=S.t j hj';rw [aM,aG (by omega)] at this
  show L6 hs ws 0 j*B<=h.1[j]*(A*D)
  rw [<- aY]; exact this
 refine iJ (a:=D) ?_ dp;have e1:R6 h pg ps=w6 h.2 pg+ps:=rfl;have e2:pay h pt=w6 h.1 pt:=rfl;rw [e1,e2];have b1:=dO L (aX hB);have b2:=dO a1 (aX hB);have x1:(w6 h.2 pg+ps)*B*D=w6 h.2 pg*D*B+ps*D*B:=by rw [cX,cX]; congr 1 <;> ac_rfl
 have x2:A*w6 h.1 pt*D=w6 h.1 pt*(A*D):=by ac_rfl
 rw [cX] at b1;rw [x1,x2];omega
def IsShare (z:Str) (hs:List d8) (h:d8) (kt kg:Nat) (A B:Int):Prop:=0<B/\(∃ ws D,Shr z hs h kt kg A B ws D)/\∃ pt pg ps,Px z hs kt kg pt pg ps/\0<pay h pt/\R6 h pg ps*B=A*pay h pt
def b3E (z:Str) (hs:List d8) (h:d8) (kt kg:Nat) (A B:Int):Prop:=0<B/\(∃ ws D,Gro z hs h kt kg A B ws D)/\∃ pt pg ps,Px z hs kt kg pt pg ps/\0<w6 h.2 pg/\A*w6 h.2 pg=(pay h pt - ps)*B
theorem IsShare.le {A B A' B':Int} (hz:W4 z) (I:IsShare z hs h kt kg A B) (hk:∀ g∈hs,g.1.length=kt/\g.2.length=kg) (h1:h.1.length=kt) (h2:h.2.length=kg) (hB:0<B') {ws:List Int} {D:Int} (S:Shr z hs h kt kg A' B' ws D):A*B'<=A'*B:=by
 obtain ⟨b,_,pt,pg,ps,P,pp,e⟩:=I;have w:=S.weak hz P hk h1 h2 hB;refine iJ (a:=pay h pt) ?_ pp;have x:=dO w (aX b);have y1:R6 h pg ps*B'*B=R6 h pg ps*B*B':=by ac_rfl
 rw [y1,e] at x;have y2:A*pay h pt*B'=A*B'*pay h pt:=by ac_rfl
 have y3:A'*pay h pt*B=A'*B*pay h pt:=by ac_rfl
 omega
theorem IsShare.eq {A B A' B':Int} (hz:W4 z) (I:IsShare z hs h kt kg A B) (J:IsShare z hs h kt kg A' B') (hk:∀ g∈hs,g.1.length=kt/\g.2.length=kg) (h1:h.1.length=kt) (h2:h.2.length=kg):A*B'=A'*B:=by
 obtain ⟨_,⟨ws,D,S⟩,_⟩:=id J;obtain ⟨_,⟨ws',D',S'⟩,_⟩:=id I;have a:=I.le hz hk h1 h2 J.1 S;have b:=J.le hz hk h1 h2 I.1 S';omega
theorem Best.is {S:Lp.Bo} {far:Int} (hz:W4 z) (B:Best z hs h S) (hG:∀ g∈hs,HG far kt kg g) (gh:HG far kt kg h) (kt1:1<=kt) (kt4:kt<=20) (kg4:kg<=20):IsShare z hs h kt kg (S.T (mE hs) (qE z h)) S.d:=by
 have T:=a7q hz B hG gh kt1 kt4 kg4;have dp:=B.1.w.pos;refine ⟨dp,⟨_,_,⟨T.lw,λ x hx=>(T.nn x hx).1,dp,T.size⟩,λ j hj=>?_,T.gives⟩,_,_,_,⟨T.pr.lt,T.pr.lg,λ x hx=>(T.pr.bt x hx).1,λ x hx=>(T.pr.bg x hx).1,T.sign,T.fair⟩,by rw [T.pays]; exact dp,by rw [T.pays,T.earns]⟩;exact dO (T.takes j hj) (aX dp)
end
section
variable {z:Str} {hs:List d8} {h:d8} {kt kg i:Nat}
end
section
variable {z:Str} {hs hs':List d8} {h:d8} {kt kg:Nat} {far:Int}
end
theorem K1 {X:Cx} {l:List Stmt}:PSs X l λ _ _ _=>False:=λ _ _ _ _ _ _ h=>h.elim
structure ShU (z:Str) (hs:List d8) (h:d8) (kt kg:Nat) (A B:Int):Prop where
 s:IsShare z hs h kt kg A B
 a:Big 20000 A
 p:0<A
 b:0<B
 c:B<2 ^ 8000
theorem Best.u {z:Str} {hs:List d8} {h:d8} {kt kg:Nat} {S:Lp.Bo} {far:Int} (hz:W4 z) (B:Best z hs h S) (hG:∀ g∈hs,HG far kt kg g) (gh:HG far kt kg h) (kt1:1<=kt) (kt4:kt<=20) (kg4:kg<=20):ShU z hs h kt kg (S.T (mE hs) (qE z h)) S.d:=by
 have T:=a7q hz B hG gh kt1 kt4 kg4;obtain ⟨b1,b2⟩:=a7p B;exact ⟨B.is hz hG gh kt1 kt4 kg4,(B.2.2.1 _ _ (by omega) (by omega)).mono (by decide),T.pos,b1,b2⟩
def a0i {α:Type} (l:List α) (i:Nat):List α:=l.take i++l.drop (i+1)
theorem a9d {α:Type} {l:List α} {i:Nat} {g:α} (h:g∈a0i l i):g∈l:=by
 rcases bK.mp h with h | h
 ·exact fV h
 ·exact fW h
theorem Paired.take {α β:Type} {F:α->β->Prop}:∀ {l₁:List α} {l₂:List β} (i:Nat),aN F l₁ l₂->aN F (l₁.take i) (l₂.take i)
 | _,_,0,_=>.nil
 | _,_,_+1,.nil=>.nil
 | _,_,i+1,.cons r t=>.cons r (Paired.take i t)
theorem Paired.drop {α β:Type} {F:α->β->Prop}:∀ {l₁:List α} {l₂:List β} (i:Nat),aN F l₁ l₂->aN F (l₁.drop i) (l₂.drop i)
 | _,_,0,h=>h
 | _,_,_+1,.nil=>.nil
 | _,_,i+1,.cons _ t=>Paired.drop i t
theorem Paired.app {α β:Type} {F:α->β->Prop}:∀ {l₁ m₁:List α} {l₂ m₂:List β},aN F l₁ l₂->aN F m₁ m₂->aN F (l₁++m₁) (l₂++m₂)
 | _,_,_,_,.nil,h=>h
 | _,_,_,_,.cons r t,h=>.cons r (Paired.app t h)
theorem Bk.out {K:W.Frag} {H:Hp} {xs:List V} {hs:List d8} (i:Nat) (B:Bk K H xs hs):Bk K H (a0i xs i) (a0i hs i):=Paired.app (Paired.take i B) (Paired.drop (i+1) B)
section
variable {P:Program} {w:World} {K:W.Frag} {mg:Str->Option Value} {base:Heap} {f Pt d CN CB:Addr} {fd:FuncData} {n:Nat} {C:Addr}
def a3o (K:W.Frag) (CN:Addr):Sp:=λ vs H Q E=>∃ (a:Addr) (xs:List V) (m:Int),vs=[.ref a,.int m]/\SqL K H a xs/\xs.length<=1000/\m.natAbs.log2<1920 ∧
 (∀ (i:Nat) (l:Addr) (H':Hp),m=(i:Int)->i<xs.length->Same H H'->H l=none->H' l=some (.lst (a0i xs i))->Q (.ref l) H')/\(¬ Y8 xs.length m->E (.ref CN) none H)
theorem b7j:i9 ["houses","number"] ["houses","number"] (d0 a2Q):=⟨rfl,rfl,rfl,by decide +kernel,rfl,by decide +kernel,by decide +kernel⟩
theorem a6a {f1:Addr} {d1:FuncData} (F:Fun K "without" "without" a2Q f fd) (Ch:a0K P w K mg base n "house_of" ["book","number"] (a7k K CN) f1 d1):FnOk P w K mg base (R3 P w) (n+1) f fd ["houses","number"] (a3o K CN):=by
 refine F.ok1 b7j (λ vs H Q E h=>?_) (λ cdv A outer s H vs Q E hr h=>?_)
 ·obtain ⟨a,xs,m,rfl,_⟩:=h
  rfl
 obtain ⟨a,xs,m,rfl,hS,hl,hm,q,hE⟩:=h;refine ⟨_,d9 (J5 (j4 Ch.ok hr rfl Ch.m Ch.k Ch.b .nil Q7 (c6 (pv 0) (c6 (pv 1) c7))))
  (PSs.nox (e7 (j6 (j7 A6 (C6 G1 (pv 0) F0 (E8 (pv 1))) (C6 G1 (pv 0) (E8 (j7 G4 (pv 1) e8)) F0))))),?_⟩
 refine ⟨_,rfl,_,rfl,a,xs,m,rfl,hS,hm,λ i x hi hx=>?_,hE⟩;subst hi;have hil:=(bQ.mp hx).1;refine ⟨_,rfl,_,rfl,_,rfl,a,_,rfl,hS,λ a1 h1=>?_⟩;rw [a0p _ _ (by omega)];have s1:=Same.new h1 (.lst (xs.take i));refine ⟨_,rfl,_,rfl,_,_,rfl,rfl,_,rfl,a,_,rfl,s1.seq hS,λ a2 h2=>?_⟩;rw [show ((i:Int)+1)=((i+1:Nat):Int) by omega,U0 _ _ (by omega)];have s2:=Same.new h2 (.lst (xs.drop (i+1)));refine ⟨a1,a2,_,_,rfl,rfl,s2 _ _ upd_same,upd_same,?_,λ p hp=>?_⟩
 ·have:=m8 (show (1000:Nat)<=1000 from aF _)
  simp; omega
 have s3:=Same.new hp (.lst (xs.take i++xs.drop (i+1)));refine q i p _ rfl hil ((s1.trans s2).trans s3) ?_ upd_same
 cases e:H p with
 | none=>rfl
 | some o=>rw [s2 _ _ (s1 _ _ e)] at hp; cases hp
end
end Rim
namespace L2
open PySem PySem.Spec PyProof.Rows
section
variable {prog:Program} {w:World} {A:Around} {E:Value->Shared->Prop} {s:Shared}
end
section
variable {b:Bool} {xs:List V} {K:W.Frag} {l:Addr} {fr:List Nat} {te:TE} {σ:St} {H1:Hp} {p:Addr} {D:Hp->Prop}
end
end L2
set_option maxHeartbeats 1000000
namespace L2
open PySem PySem.Spec PyProof.Rows
section
variable {prog:Program} {w:World} {A:Around} {E:Value->Shared->Prop} {s:Shared}
end
section
variable {prog:Program} {w:World} {A:Around} {E:Value->Shared->Prop} {s:Shared}
end
section
variable {b1 b2:Bool} {xs ys:List V} {K:W.Frag} {l1 l2:Addr} {fr:List Nat} {tc:TT} {σ:St} {H1:Hp} {p:Addr} {D:Hp->Prop}
end
end L2
namespace L2
open PySem
end L2
namespace Rim
open PySem L2 Fr
def a4c (l:Int) (ns:List Int):Prop:=∀ x∈ns,l<=x/\x<=1000000000
def GoodK (h:d8) (m n:Int):Prop:=((h.1.length:Int)=m/\a4c 1 h.1)/\((h.2.length:Int)=n/\a4c 0 h.2)/\∃ x∈h.2,0<x
def S5 (h:d8):Prop:=h.1.length<=1000/\h.2.length<=1000
theorem GoodK.hg {h:d8} {kt kg:Nat} (g:GoodK h kt kg):HG (10 ^ 9) kt kg h:=⟨by have:=g.1.1; omega,by have:=g.2.1.1; omega,λ x hx=>⟨(g.1.2 x hx).1,(g.1.2 x hx).2⟩,λ x hx=>⟨(g.2.1.2 x hx).1,(g.2.1.2 x hx).2⟩,g.2.2⟩
section
variable {P:Program} {w:World} {K:W.Frag} {mg:Str->Option Value} {base:Heap} {f CN CB CT:Addr} {fd:FuncData} {n:Nat}
theorem a2H {X:Cx}:G9 X (.builtin "isinstance") (λ vs H Q=>∃ a xs n b,vs=[.ref a,.ty n]/\SqT X.K H a xs/\W.kitOne X.K (.type "tuple") (.type n)=some b/\Q (.bl b) H):=by
 intro pins s σ H vs us Q I r h;obtain ⟨a,xs,n,b,rfl,hs,e,q⟩:=h;obtain ⟨u,v,rfl,ru,rv⟩:=a5f r
 cases rv
 cases (show u=Value.ref a from ru);have hx:∃ o,s.heap.get? a=some o/\o.cls=.type "tuple":=by
  rcases hs with hs | ⟨o,its,n,h1,h2,_⟩
  ·obtain ⟨_,_,_,p⟩:=(show ObjOk X.prog X.w H s.heap a (.tup xs) from hs.ok I.hok)
   obtain ⟨o,h1,h2,_⟩:=p;exact ⟨o,h1,h2⟩
  ·exact ⟨o,I.kIn a o h1,h2⟩
 exact W.kia_one W.kitx_tuple I.kIn hx e (λ z=>nomatch z) λ tk=>⟨.bl b,H,I.tok _,rfl,q⟩
def a8J:Sp:=λ vs H Q _=>∃ i:Int,vs=[.int i]/\Q (.bl true) H
theorem b3p:i9 ["thing"] ["thing"] (d0 a0r):=⟨rfl,rfl,rfl,by decide +kernel,rfl,by decide +kernel,by decide +kernel⟩
theorem b1A (F:Fun K "is_whole" "is_whole" a0r f fd) (T:v7 mg):FnOk P w K mg base K5 (n+1) f fd ["thing"] a8J:=by
 refine F.ok b3p (λ vs H Q E h=>?_) (λ cdv A outer s H vs Q E hr h=>?_)
 ·obtain ⟨i,rfl,_⟩:=h
  rfl
 obtain ⟨i,rfl,q⟩:=h;refine ⟨_,e7 (j6 (a9w (i8 a1I rfl T.isi dE (c6 (pv 0) (c6 (a1d (v:=.ty "int") rfl T.int iL rfl) c7)))
  (b0t (b4b (i8 a1I rfl T.isi dE (c6 (pv 0) (c6 (a1d (v:=.ty "bool") rfl T.bool mG rfl) c7))))))),?_⟩
 refine ⟨_,rfl,_,_,"int",true,rfl,.int i,P9 _,_,rfl,G5 ?_⟩;exact ⟨_,rfl,_,_,"bool",false,rfl,.int i,a3N,_,rfl,q⟩
def b0S (K:W.Frag):Sp:=λ vs H Q _=>∃ (a:Addr) (ns:List Int) (m l:Int),vs=[.ref a,.int m,.int l]/\SqT K H a (ns.map V.int)/\ns.length<=1000 ∧
 ∀ (b:Bool) (H':Hp),Same H H'->(b=true ↔ ((ns.length:Int)=m/\a4c l ns))->Q (.bl b) H'
theorem b3O:i9 ["thing","many","least"] ["thing","many","least"] (d0 S9):=⟨rfl,rfl,rfl,by decide +kernel,rfl,by decide +kernel,by decide +kernel⟩
theorem b3T:(["amount","least"]:List Str).Nodup:=by decide +kernel
theorem b0c {N:VK} {b b':Bool} {H:Hp} (h:N (.bl b) H) (e:b'=b):N (.bl b') H:=by rw [e]; exact h
theorem b1G {g:Addr} {gd:FuncData} (F:Fun K "are_amounts" "are_amounts" S9 f fd) (T:v7 mg) (C:∃ t,mg "MOST_AMOUNT"=some (.int 1000000000 t)) (G:Cal P w K mg base n "is_whole" ["thing"] a8J g gd):FnOk P w K mg base K5 (n+1) f fd ["thing","many","least"] (b0S K):=by
 refine F.ok b3O (λ vs H Q E h=>?_) (λ cdv A outer s H vs Q E hr h=>?_)
 ·obtain ⟨a,ns,m,l,rfl,_⟩:=h
  rfl
 obtain ⟨a,ns,m,l,rfl,hS,hz,q⟩:=h;obtain ⟨tm,hma⟩:=C;refine ⟨_,d9 (w4 (PW.pt (a0Z (J4 (S2 (i8 a2H rfl T.isi dE (c6 (pv 0) (c6 (a1d (v:=.ty "tuple") rfl T.tuple gW rfl) c7))))) (V0 (j8 a3E (i8 i7 rfl T.len aR (c6 (pv 0) c7)) (pv 1) (m9 _))))) (e7 (j6 a3I)) m7)
  (e7 (j6 (i8 (a5k rfl) rfl T.all kQ (c6
   (R1 ["amount"] [2] rfl (a4f (pv 0)) (λ _ _ _ _=>j0 (i:=0) b3T rfl (aC rfl))
    (λ _ _ _ _=>a9w (j4 G.ok hr rfl G.m G.k G.b .nil r6 (c6 (pv 0) c7)) (b0t (b0l W7 W7 (pv 1) (pv 0) (x5 (v:=.int 1000000000) rfl hma ⟨_,rfl⟩))))) c7)))),?_⟩
 have hl:(ns.map V.int).length=ns.length:=aA _;refine ⟨_,rfl,a,_,"tuple",true,rfl,hS,P9 _,_,rfl,D6 ?_⟩;refine ⟨_,rfl,a,_,rfl,.inr hS,_,rfl,rfl,_,rfl,?_⟩;refine A2 (λ c=>?_) (λ c=>?_)
 ·refine q _ _ (Same.refl _) ?_
  have c':¬ (ns.length:Int)=m:=λ h=>by simp [h] at c
  simp [c']
 ·have c':(ns.length:Int)=m:=by simpa using c
  refine ⟨_,rfl,a,rfl,⟨_,hS⟩,λ p hp=>?_⟩;refine a0w (a1b hS) hp (by rw [hl]; exact m8 hz) (λ x=>.bl (decide (l<=vI x/\vI x<=1000000000))) (λ i x H' N hx e hN=>?_) ?_
  ·obtain ⟨k,rfl⟩:=a0o hx
   refine ⟨Wk.set (by decide),_,rfl,k,rfl,_,rfl,G5 ?_⟩;refine ⟨_,rfl,_,rfl,_,_,rfl,rfl,_,rfl,?_⟩;refine A2 (λ c=>?_) (λ c=>?_)
   ·have c1:l<=k:=of_decide_eq_true c
    refine ⟨_,_,rfl,rfl,?_⟩;exact b0c hN (by simp [vI,c1])
   ·have c1:¬ l<=k:=of_decide_eq_false (dZ.mpr c)
    exact b0c hN (by simp [vI,c1])
  ·refine ⟨p,ns.map (λ i=>decide (l<=i/\i<=1000000000)),rfl,.inl (SqL.of (by rw [upd_same,aW,aW]; rfl)),?_⟩
   refine q _ _ (Same.new hp _) ?_;rw [List.all_map,dB];constructor
   ·intro z
    exact ⟨c',λ x hx=>by simpa using z x hx⟩
   ·intro z x hx
    simpa using z.2 x hx
def a4D (K:W.Frag):Sp:=λ vs H Q _=>∃ (v:V) (h:d8) (m n:Int),vs=[v,.int m,.int n]/\HS K H v h/\S5 h ∧
 ∀ (b:Bool) (H':Hp),Same H H'->(b=true ↔ GoodK h m n)->Q (.bl b) H'
theorem scIsHK:i9 ["thing","many_takes","many_gives","takes","gives"] ["thing","many_takes","many_gives"] (d0 a0y):=⟨rfl,rfl,rfl,by decide +kernel,rfl,by decide +kernel,by decide +kernel⟩
theorem b4v:(["give"]:List Str).Nodup:=by decide +kernel
theorem b1B {g:Addr} {gd:FuncData} (F:Fun K "is_house" "is_house" a0y f fd) (T:v7 mg) (G:Cal P w K mg base n "are_amounts" ["thing","many","least"] (b0S K) g gd) :
  FnOk P w K mg base K5 (n+1) f fd ["thing","many_takes","many_gives"] (a4D K):=by
 refine F.ok scIsHK (λ vs H Q E h=>?_) (λ cdv A outer s H vs Q E hr h=>?_)
 ·obtain ⟨v,h,m,l,rfl,_⟩:=h
  rfl
 obtain ⟨v,h,m,l,rfl,⟨a,t,gv,rfl,h0,h1,h2⟩,⟨hz1,hz2⟩,q⟩:=h;refine ⟨_,d9 (w4 (PW.pt (a0Z (J4 (S2 (i8 a2H rfl T.isi dE (c6 (pv 0) (c6 (a1d (v:=.ty "tuple") rfl T.tuple gW rfl) c7))))) (V0 (j8 a3E (i8 i7 rfl T.len aR (c6 (pv 0) c7)) e8 (m9 _))))) (e7 (j6 a3I)) m7)
  (d9 (C3 (pv 0) (E4 rfl (j5 (j0 (i:=3) scIsHK.nd rfl (aC rfl)) (j5 (j0 (i:=4) scIsHK.nd rfl (aC rfl)) y4))))
  (d9 (w4 (J4 (PW.pt (W6 (S2 (j4 G.ok hr rfl G.m G.k G.b .nil r6 (c6 (pv 3) (c6 (pv 1) (c6 e8 c7))))) (R0 (S2 (j4 G.ok hr rfl G.m G.k G.b .nil r6 (c6 (pv 4) (c6 (pv 2) (c6 e8 c7)))))))))
   (e7 (j6 a3I)) m7)
  (e7 (j6 (i8 (a5h rfl) rfl T.any kP (c6 (R1 ["give"] [] rfl (a4f (pv 4)) (λ _ _ _ _=>j0 (i:=0) b4v rfl (aC rfl)) (λ _ _ _ _=>Q6 a1H (pv 0) e8 (m9 _))) c7)))))),?_⟩
 refine ⟨_,rfl,a,_,"tuple",true,rfl,h0,P9 _,_,rfl,D6 ?_⟩;refine ⟨_,rfl,a,_,rfl,.inr h0,rfl,_,rfl,b5f rfl ?_⟩;refine ⟨_,rfl,a,_,rfl,h0,rfl,_,_,rfl,_,_,rfl,rfl,?_⟩;refine ⟨_,rfl,_,rfl,t,h.1,m,1,rfl,h1,hz1,λ b1 H1 e1 i1=>⟨_,rfl,?_⟩⟩;refine A2 (λ c1=>?_) (λ c1=>?_)
 ·refine ⟨_,rfl,_,rfl,gv,h.2,l,0,rfl,e1.tseq h2,hz2,λ b2 H2 e2 i2=>⟨_,rfl,?_⟩⟩
  refine A2 (λ c2=>?_) (λ c2=>?_)
  ·refine q _ _ (e1.trans e2) ?_
   have:¬ b2=true:=by simpa using c2
   constructor
   ·intro z; cases z
   ·intro z; exact absurd (i2.mpr z.2.1) this
  ·have c2':b2=true:=by simpa using c2
   have e12:=e1.trans e2;have hl:(h.2.map V.int).length=h.2.length:=aA _;refine ⟨_,rfl,gv,rfl,⟨_,e12.tseq h2⟩,λ p hp=>?_⟩;refine a0w (a1b (e12.tseq h2)) hp (by rw [hl]; exact m8 hz2) (λ x=>.bl (decide (0<vI x))) (λ i x H' N hx e hN=>?_) ?_
   ·obtain ⟨k,rfl⟩:=a0o hx
    exact ⟨Wk.set (by decide),_,rfl,_,_,rfl,rfl,hN⟩
   ·refine ⟨p,h.2.map (λ i=>decide (0<i)),rfl,.inl (SqL.of (by rw [upd_same,aW,aW]; rfl)),?_⟩
    refine q _ _ (e12.trans (Same.new hp _)) ?_;rw [fG,fL];constructor
    ·rintro ⟨x,hx,z⟩
     exact ⟨i1.mp c1,i2.mp c2',x,hx,by simpa using z⟩
    ·rintro ⟨_,_,x,hx,z⟩
     exact ⟨x,hx,by simpa using z⟩
 ·refine G5 ?_
  refine q _ _ e1 ?_;constructor
  ·intro z; cases z
  ·intro z; exact absurd (i1.mpr z.1) c1
def a2h (K:W.Frag) (CB:Addr):Sp:=λ vs H Q E=>∃ (v:V) (h:d8) (m n:Int),vs=[v,.int m,.int n]/\HS K H v h/\S5 h/\m.natAbs.log2<1920/\n.natAbs.log2<1920 ∧
 (GoodK h m n->∀ H',Same H H'->Q .non H')/\(¬ GoodK h m n->∀ H',Same H H'->E (.ref CB) none H')
theorem b0w:i9 ["thing","many_takes","many_gives"] ["thing","many_takes","many_gives"] (d0 P8):=⟨rfl,rfl,rfl,by decide +kernel,rfl,by decide +kernel,by decide +kernel⟩
theorem a8B {g:Addr} {gd:FuncData} (F:Fun K "refuse_unfit" "refuse_unfit" P8 f fd) (kB:P0 K CB) (mB:mg "NoBook"=some (.ref CB)) (G:Cal P w K mg base n "is_house" ["thing","many_takes","many_gives"] (a4D K) g gd) :
  FnOk P w K mg base (R3 P w) (n+1) f fd ["thing","many_takes","many_gives"] (a2h K CB):=by
 refine F.ok1 b0w (λ vs H Q E h=>?_) (λ cdv A outer s H vs Q E hr h=>?_)
 ·obtain ⟨v,h,m,l,rfl,_⟩:=h
  rfl
 obtain ⟨v,h,m,l,rfl,hH,hz,hm,hl,q,hE⟩:=h;refine ⟨_,e7 (w4 (J4 (S2 (j4 G.ok hr rfl G.m G.k G.b .nil r6 (c6 (pv 0) (c6 (pv 1) (c6 (pv 2) c7)))))) (e7 (M9 kB rfl mB hr.hd (c6 (a5r (a2D (a5K (pv 1) (a2D (a5K (pv 2) (a2D a9q)))))) c7))) m7),?_⟩;refine ⟨_,rfl,_,rfl,_,rfl,v,h,m,l,rfl,hH,hz,λ b H1 e1 i1=>⟨_,rfl,?_⟩⟩
 cases b with
 | true=>exact D6 (q (i1.mp rfl) H1 e1)
 | false =>
  refine G5 ?_;exact ⟨_,rfl,m,rfl,hm,_,rfl,l,rfl,hl,λ x=>⟨(by show 1<=1000; decide),hE (λ z=>by have:=i1.mpr z; cases this) H1 e1⟩⟩
def a3t (K:W.Frag) (CB CT:Addr):Sp:=λ vs H Q E=>∃ (l:Addr) (v:V) (xs:List V) (h:d8) (m n:Int),vs=[.ref l,v,.int m,.int n]/\H l=some (.lst xs)/\xs.length<=1000/\HS K H v h/\S5 h/\m.natAbs.log2<1920/\n.natAbs.log2<1920 ∧
 (GoodK h m n->xs.length<16->∀ (r:Addr) (H':Hp),Same H H'->H r=none->H' r=some (.lst (xs++[v]))->Q (.ref r) H')/\(¬ GoodK h m n->∀ H',Same H H'->E (.ref CB) none H')/\(GoodK h m n->16<=xs.length->∀ H',Same H H'->E (.ref CT) none H')
theorem a7O:i9 ["houses","house","many_takes","many_gives"] ["houses","house","many_takes","many_gives"] (d0 N3):=⟨rfl,rfl,rfl,by decide +kernel,rfl,by decide +kernel,by decide +kernel⟩
theorem a5W {g:Addr} {gd:FuncData} (F:Fun K "with_one_more" "with_one_more" N3 f fd) (T:v7 mg) (kT:P0 K CT) (mT:mg "TooMany"=some (.ref CT)) (C:∃ t,mg "MOST_HOUSES"=some (.int 16 t))
  (G:a0K P w K mg base n "refuse_unfit" ["thing","many_takes","many_gives"] (a2h K CB) g gd):FnOk P w K mg base (R3 P w) (n+1) f fd ["houses","house","many_takes","many_gives"] (a3t K CB CT):=by
 refine F.ok1 a7O (λ vs H Q E h=>?_) (λ cdv A outer s H vs Q E hr h=>?_)
 ·obtain ⟨l,v,xs,h,m,n,rfl,_⟩:=h
  rfl
 obtain ⟨l,v,xs,h,m,k,rfl,hl,hz,hH,hs,hm,hk,q,hB,hT⟩:=h;obtain ⟨tm,hmh⟩:=C;refine ⟨_,d9 (J5 (j4 G.ok hr rfl G.m G.k G.b .nil Q7 (c6 (pv 1) (c6 (pv 2) (c6 (pv 3) c7)))))
  (d9 (w4 (j8 a9B (i8 i7 rfl T.len aR (c6 (pv 0) c7)) (x5 (v:=.int 16) rfl hmh ⟨_,rfl⟩) (m9 _)) (e7 (M9 kT rfl mT hr.hd (c6 (a5r (a2D (a5K (x5 (v:=.int 16) rfl hmh ⟨_,rfl⟩) (a2D a9q)))) c7))) m7)
  (PSs.nox (e7 (j6 (j7 A6 (pv 0) (x4 (c6 (pv 1) c7))))))),?_⟩
 refine ⟨_,rfl,_,rfl,_,rfl,v,h,m,k,rfl,hH,hs,hm,hk,λ g1 H1 e1=>?_,hB⟩;refine ⟨_,rfl,l,xs,rfl,.inl (SqL.of (e1 _ _ hl)),_,_,rfl,rfl,_,rfl,?_⟩;refine A2 (λ c=>?_) (λ c=>?_)
 ·have c':16<=xs.length:=by have:=of_decide_eq_true c; omega
  exact ⟨16,rfl,by decide,λ x=>⟨(by show 1<=1000; decide),hT g1 c' H1 e1⟩⟩
 ·have c':xs.length<16:=by have:=of_decide_eq_false (dZ.mpr c); omega
  refine ⟨_,rfl,_,rfl,(by show 1<=sizeLine; decide),λ b1 hb1=>?_⟩;have s2:=Same.new hb1 (.lst [v]);refine ⟨l,b1,_,_,rfl,rfl,s2 _ _ (e1 _ _ hl),upd_same,?_,λ p hp=>?_⟩
  ·have:=m8 (show (1000:Nat)<=1000 from aF _)
   simp; omega
  have s3:=Same.new hp (.lst (xs++[v]));refine q g1 c' p _ (e1.trans (s2.trans s3)) ?_ upd_same;exact (e1.trans s2).free hp
def a3J (K:W.Frag) (CN CB:Addr):Sp:=λ vs H Q E=>∃ (l:Addr) (v:V) (xs:List V) (h:d8) (num m n:Int),vs=[.ref l,.int num,v,.int m,.int n]/\H l=some (.lst xs)/\xs.length<=1000/\HS K H v h/\S5 h/\num.natAbs.log2<1920/\m.natAbs.log2<1920/\n.natAbs.log2<1920 ∧
 (∀ i:Nat,num=(i:Int)->i<xs.length->GoodK h m n->∀ (r:Addr) (H':Hp),Same H H'->H r=none->H' r=some (.lst ((xs.take i++[v])++xs.drop (i+1)))->Q (.ref r) H')/\(¬ Y8 xs.length num->∀ H',Same H H'->E (.ref CN) none H') ∧
 (Y8 xs.length num->¬ GoodK h m n->∀ H',Same H H'->E (.ref CB) none H')
theorem a8n:i9 ["houses","number","house","many_takes","many_gives"] ["houses","number","house","many_takes","many_gives"] (d0 P7):=⟨rfl,rfl,rfl,by decide +kernel,rfl,by decide +kernel,by decide +kernel⟩
theorem a6r {g g2:Addr} {gd gd2:FuncData} (F:Fun K "with_another" "with_another" P7 f fd) (Ch:a0K P w K mg base n "house_of" ["book","number"] (a7k K CN) g2 gd2)
  (G:a0K P w K mg base n "refuse_unfit" ["thing","many_takes","many_gives"] (a2h K CB) g gd):FnOk P w K mg base (R3 P w) (n+1) f fd ["houses","number","house","many_takes","many_gives"] (a3J K CN CB):=by
 refine F.ok1 a8n (λ vs H Q E h=>?_) (λ cdv A outer s H vs Q E hr h=>?_)
 ·obtain ⟨l,v,xs,h,num,m,n,rfl,_⟩:=h
  rfl
 obtain ⟨l,v,xs,h,num,m,k,rfl,hl,hz,hH,hs,hn,hm,hk,q,hN,hB⟩:=h;refine ⟨_,d9 (J5 (j4 Ch.ok hr rfl Ch.m Ch.k Ch.b .nil Q7 (c6 (pv 0) (c6 (pv 1) c7))))
  (d9 (J5 (j4 G.ok hr rfl G.m G.k G.b .nil Q7 (c6 (pv 2) (c6 (pv 3) (c6 (pv 4) c7)))))
  (PSs.nox (e7 (j6 (j7 A6 (j7 A6 (C6 G1 (pv 0) F0 (E8 (pv 1))) (x4 (c6 (pv 2) c7))) (C6 G1 (pv 0) (E8 (j7 G4 (pv 1) e8)) F0)))))),?_⟩
 refine ⟨_,rfl,_,rfl,l,xs,num,rfl,SqL.of hl,hn,λ i x hi hx=>?_,λ bad=>hN bad H (Same.refl _)⟩;subst hi;have hil:=(bQ.mp hx).1;refine ⟨_,rfl,_,rfl,_,rfl,v,h,m,k,rfl,hH,hs,hm,hk,λ g1 H1 e1=>?_,λ bad H1 e1=>hB ⟨by omega,by omega⟩ bad H1 e1⟩;have small:=m8 (show (1000:Nat)<=1000 from aF _);refine ⟨_,rfl,_,rfl,_,rfl,l,_,rfl,SqL.of (e1 _ _ hl),λ a1 h1=>?_⟩;rw [a0p _ _ (by omega)];have s1:=Same.new h1 (.lst (xs.take i));refine ⟨_,rfl,(by show 1<=sizeLine; decide),λ a2 h2=>?_⟩;have s2:=Same.new h2 (.lst [v]);refine ⟨a1,a2,_,_,rfl,rfl,s2 _ _ upd_same,upd_same,by simp; omega,λ a3 h3=>?_⟩;have s3:=Same.new h3 (.lst (xs.take i++[v]));have s13:=s1.trans (s2.trans s3);refine ⟨_,rfl,_,rfl,_,_,rfl,rfl,_,rfl,l,_,rfl,SqL.of (s13 _ _ (e1 _ _ hl)),λ a4 h4=>?_⟩;rw [show ((i:Int)+1)=((i+1:Nat):Int) by omega,U0 _ _ (by omega)];have s4:=Same.new h4 (.lst (xs.drop (i+1)));refine ⟨a3,a4,_,_,rfl,rfl,s4 _ _ upd_same,upd_same,by simp; omega,λ p hp=>?_⟩;have s5:=Same.new hp (.lst ((xs.take i++[v])++xs.drop (i+1)));have all:=e1.trans (s13.trans s4);exact q i rfl hil g1 p _ (all.trans s5) (all.free hp) upd_same
end
end Rim
namespace L2
open PySem PySem.Spec PyProof.Rows
section
variable {X:Cx}
def b7b (K:W.Frag):R2:=λ x y H Q=>∃ (p:Addr) (xs:List V) (ds:List PyData) (d:PyData),y=.ref p/\SqL K H p xs/\Dps K H xs ds/\Dp K H x d/\PyData.canLayAll0 ds=true/\d.canLay0=true/\d.depth<=50/\Q (.bl (ds.any λ e=>PyData.eqv e d)) H
theorem a5R {k:Nat} (hr:Room k X.A):W5 X (compareOp .In) (b7b X.K):=by
 intro pins s σ H x y v u Q I rx ry h;obtain ⟨p,xs,ds,d,rfl,hq,hD,hd,c1,c2,dp,q⟩:=h
 cases ry;obtain ⟨its,r,pl,hz⟩:=I.list hq;obtain ⟨as,rs⟩:=hD.reads I r;obtain ⟨bs,rx'⟩:=hd.reads I rx;refine SeqAt.in_listAt (λ w=>PyData.eqv (SeqAt.readOf s.heap w) d) pl.isList (SeqAt.items_eqAt (xs:=ds) (as:=as) (by simpa using rs) rx' c1 c2 (by have:=hr.units; omega)) ⟨.bl _,H,I,rfl,?_⟩;have e1:its.toArray.any (λ v=>PyData.eqv (SeqAt.readOf s.heap v) d)=ds.any λ e=>PyData.eqv e d:=by
  rw [<- SeqAt.readsAll_map ds its as c1 rs,fG,List.any_toArray]; rfl
 rw [e1]; exact q
end
end L2
namespace Rim
open PySem L2 Fr
open Tx (S cs ch p9 K7 B7 y6)
def W3 {α:Type}:List (Option α)->Option (List α)
 | []=>some []
 | none::_=>none
 | some a::r=>(W3 r).map (a::·)
theorem O7 {α:Type}:∀ {l:List (Option α)} {r:List α},W3 l=some r->l=r.map some
 | [],r,h=>by cases h; rfl
 | none::_,_,h=>by cases h
 | some a::l,r,h=>by
  unfold W3 at h;obtain ⟨r',hr,rfl⟩:=eF.mp h;rw [O7 hr]; rfl
theorem a1S {α:Type}:∀ (r:List α),W3 (r.map some)=some r
 | []=>rfl
 | a::r=>by show (W3 (r.map some)).map (a::·)=_; rw [a1S r]; rfl
theorem a3q {α:Type}:∀ {l:List (Option α)},W3 l=none->none∈l
 | [],h=>by cases h
 | none::_,_=>bB
 | some a::l,h=>by
  unfold W3 at h;exact aU _ (a3q (Option.map_eq_none_iff.mp h))
def E7 (z:S):Option (List Int):=W3 ((Txt.split z (ch 44)).map y6)
theorem U3 {z p:S} {c:Nat} (h:p∈Txt.split z (ch c)):p.length<=z.length:=mI h
theorem T7 {z:S} {c:Nat}:(Txt.split z (ch c)).length<=z.length+1:=by
 have:=mJ z (ch c) (aF 1);omega
theorem a3Q:∀ l:List (Option Int),inV .non (l.map a8l)=l.any (·.isNone)
 | []=>rfl
 | o::l=>by
  have ih:=a3Q l;unfold inV at ih ⊢;rw [bD,eX,eX,ih]
  cases o <;> rfl
theorem a9J (l:List (Option Int)):(l.map a8l).all a0P=true:=by
 rw [dB];intro y hy;obtain ⟨o,_,rfl⟩:=aZ.mp hy
 cases o <;> rfl
theorem any_none {α:Type} {l:List (Option α)}:(l.any (·.isNone)=true) ↔ W3 l=none:=by
 rw [fL];constructor
 ·rintro ⟨o,ho,hn⟩
  cases o with
  | some _=>cases hn
  | none =>
   cases e:W3 l with
   | none=>rfl
   | some r =>
    rw [O7 e] at ho;obtain ⟨_,_,h⟩:=aZ.mp ho
    cases h
 ·intro h
  exact ⟨none,a3q h,rfl⟩
section
variable {P:Program} {w:World} {K:W.Frag} {mg:Str->Option Value} {base:Heap} {f:Addr} {fd:FuncData} {n:Nat}
def a6R (K:W.Frag):Sp:=λ vs H Q _=>∃ z:S,vs=[.str z]/\K7 z/\z.length<=100000/\(E7 z=none->∀ H',Same H H'->Q .non H')/\∀ ns,E7 z=some ns->∀ t H',Same H H'->H' t=some (.tup (ns.map V.int))->Q (.ref t) H'
theorem scReadA:i9 ["text","amounts"] ["text"] (d0 P2):=⟨rfl,rfl,rfl,by decide +kernel,rfl,by decide +kernel,by decide +kernel⟩
theorem b1W:(["word"]:List Str).Nodup:=by decide +kernel
theorem b0d {fa:Addr} {da:FuncData} (F:Fun K "read_amounts" "read_amounts" P2 f fd) (T:v7 mg) (C:J3 P w K mg base n "read_number" ["text"] a4w fa da):FnOk P w K mg base K5 (n+1) f fd ["text"] (a6R K):=by
 refine F.ok scReadA (λ vs H Q E h=>?_) (λ cdv A outer s H vs Q E hr h=>?_)
 ·obtain ⟨z,rfl,_⟩:=h
  rfl
 obtain ⟨z,rfl,ha,hl,q0,q1⟩:=h;refine ⟨_,d9 (a5x (i:=1) ["word"] [] scReadA.nd rfl rfl rfl (G2 (T8 eG gX gY a0J (pv 0) (c6 j9 c7))) (λ _ _ _ _=>j0 (i:=0) b1W rfl (aC rfl)) (λ _ _ _ _=>j4 C.ok hr rfl C.m C.k C.b .nil r6 (c6 (pv 0) c7)))
  (e7 (j6 (a0N (j8 a3a B9 (pv 1) rfl) B9 (p8 a0m rfl T.tuple gW (c6 (pv 1) c7))))),?_⟩
 have few:=T7 (z:=z) (c:=44);refine ⟨_,rfl,rfl,z,ch 44,rfl,rfl,by decide,by rw [sizeLine_eq]; omega,λ l hl'=>?_⟩;have s1:=Same.new hl' (.lst ((Txt.split z (ch 44)).map V.str));refine ⟨l,rfl,⟨_,SqL.of upd_same⟩,λ p hp=>?_⟩;refine O3 (C2 (SqL.of upd_same)) hp (by rw [aA,sizeLine_eq]; omega) (λ i y _=>∃ x,(Txt.split z (ch 44))[i]?=some x/\y=a8l (y6 x)) (λ _ _ _ _ r _=>r) (λ i y H2 zs N hy e hp' hN=>?_) (λ zs H2 e hp' len pr=>?_)
 ·rw [aE] at hy
  obtain ⟨x,hx,rfl⟩:=eF.mp hy;have hxm:=bE hx;exact ⟨Wk.set (by decide),_,rfl,x,rfl,Tx.asc_part ha hxm,aK (U3 hxm) hl,λ H3 e3=>hN _ _ e3 ⟨x,hx,rfl⟩⟩
 have ez:zs=((Txt.split z (ch 44)).map y6).map a8l:=by
  rw [aA] at len;refine bX λ i=>?_
  by_cases hi:i<zs.length
  ·obtain ⟨h,hh,e1⟩:=pr i _ (aG hi)
   rw [aG hi,e1,aE,aE,hh]; rfl
  ·rw [bH (by omega),bH (by rw [aA,aA]; omega)]
 rw [ez] at hp';have e2:=s1.trans e;refine ⟨_,rfl,p,_,rfl,.inl (SqL.of hp'),rfl,a9J _,_,rfl,?_⟩;refine A2 (λ c=>?_) (λ c=>?_)
 ·have c':((Txt.split z (ch 44)).map y6).any (·.isNone)=true:=by rw [<- a3Q]; exact c
  exact q0 (any_none.mp c') _ e2
 ·have c':¬ ((Txt.split z (ch 44)).map y6).any (·.isNone)=true:=by rw [<- a3Q]; exact c
  cases hr':E7 z with
  | none=>exact absurd (any_none.mpr hr') c'
  | some ns =>
   have en:=O7 hr';have ev:((Txt.split z (ch 44)).map y6).map a8l=ns.map V.int:=by rw [en,aW]; rfl
   rw [ev] at hp';refine ⟨_,rfl,p,_,rfl,.inl ⟨SqL.of hp',λ t ht=>?_⟩⟩;exact q1 ns hr' t _ (e2.trans (Same.new ht _)) upd_same
def AnyH (h:d8):Prop:=(1<=h.1.length/\h.1.length<=4)/\(1<=h.2.length/\h.2.length<=4)/\GoodK h h.1.length h.2.length
def a5Y (K:W.Frag):Sp:=λ vs H Q _=>∃ (v:V) (h:d8),vs=[v]/\HS K H v h/\h.1.length<=200000/\h.2.length<=200000/\∀ (b:Bool) (H':Hp),Same H H'->(b=true ↔ AnyH h)->Q (.bl b) H'
theorem scAnyH:i9 ["thing","takes","gives"] ["thing"] (d0 O9):=⟨rfl,rfl,rfl,by decide +kernel,rfl,by decide +kernel,by decide +kernel⟩
theorem b1r {fa:Addr} {da:FuncData} (F:Fun K "is_any_house" "is_any_house" O9 f fd) (T:v7 mg) (CM:∃ t,mg "MOST_KINDS"=some (.int 4 t)) (C:Cal P w K mg base n "is_house" ["thing","many_takes","many_gives"] (a4D K) fa da):FnOk P w K mg base K5 (n+1) f fd ["thing"] (a5Y K):=by
 refine F.ok scAnyH (λ vs H Q E h=>?_) (λ cdv A outer s H vs Q E hr h=>?_)
 ·obtain ⟨v,h,rfl,_⟩:=h
  rfl
 obtain ⟨v,h,rfl,⟨a,ta,ga,rfl,h0,h1,h2⟩,l1,l2,q⟩:=h;obtain ⟨tm,hM⟩:=CM;refine ⟨_,d9 (C3 (pv 0) (E4 rfl (j5 (j0 (i:=1) scAnyH.nd rfl (aC rfl)) (j5 (j0 (i:=2) scAnyH.nd rfl (aC rfl)) y4))))
  (d9 (w4 (J4 (PW.pt (W6 (Y4 W7 W7 e8 (i8 i7 rfl T.len aR (c6 (pv 1) c7)) (x5 (v:=.int 4) rfl hM ⟨_,rfl⟩)) (R0 (Y4 W7 W7 e8 (i8 i7 rfl T.len aR (c6 (pv 2) c7)) (x5 (v:=.int 4) rfl hM ⟨_,rfl⟩)))))) (e7 (j6 a3I)) m7)
  (e7 (j6 (j4 C.ok hr rfl C.m C.k C.b .nil r6 (c6 (pv 0) (c6 (i8 i7 rfl T.len aR (c6 (pv 1) c7)) (c6 (i8 i7 rfl T.len aR (c6 (pv 2) c7)) c7))))))),?_⟩
 refine ⟨_,rfl,a,_,rfl,h0,rfl,_,_,rfl,_,_,rfl,rfl,?_⟩;have ln:∀ l:List Int,((l.map V.int).length:Int)=(l.length:Int):=λ l=>by rw [aA]
 have no:¬ AnyH h->Q (.bl false) H:=λ c=>q false H (Same.refl _) ⟨(λ z=>nomatch z),λ z=>absurd z c⟩;refine ⟨_,rfl,ta,_,rfl,.inr h1,_,_,rfl,rfl,_,rfl,?_⟩
 by_cases c1:1<=h.1.length
 rotate_left
 ·rw [decide_eq_false (by rw [ln]; omega)]
  refine D6 ⟨_,rfl,D6 (G5 (no λ z=>c1 z.1.1))⟩
 rw [decide_eq_true (show (1:Int)<=((h.1.map V.int).length:Int) by rw [ln]; omega)];refine G5 ⟨_,_,rfl,rfl,_,rfl,?_⟩
 by_cases c2:h.1.length<=4
 rotate_left
 ·rw [decide_eq_false (by rw [ln]; omega)]
  exact D6 (G5 (no λ z=>c2 z.1.2))
 rw [decide_eq_true (show ((h.1.map V.int).length:Int)<=4 by rw [ln]; omega)];refine G5 ?_;refine ⟨_,rfl,ga,_,rfl,.inr h2,_,_,rfl,rfl,_,rfl,?_⟩
 by_cases c3:1<=h.2.length
 rotate_left
 ·rw [decide_eq_false (by rw [ln]; omega)]
  refine D6 ⟨_,rfl,G5 (no λ z=>c3 z.2.1.1)⟩
 rw [decide_eq_true (show (1:Int)<=((h.2.map V.int).length:Int) by rw [ln]; omega)];refine G5 ⟨_,_,rfl,rfl,_,rfl,?_⟩
 by_cases c4:h.2.length<=4
 rotate_left
 ·rw [decide_eq_false (by rw [ln]; omega)]
  exact G5 (no λ z=>c4 z.2.1.2)
 rw [decide_eq_true (show ((h.2.map V.int).length:Int)<=4 by rw [ln]; omega)];refine D6 ?_;refine ⟨_,rfl,_,rfl,ta,_,rfl,.inr h1,_,rfl,ga,_,rfl,.inr h2,.ref a,h,_,_,rfl,⟨a,ta,ga,rfl,h0,h1,h2⟩,⟨by omega,by omega⟩,λ b H' e i=>?_⟩;refine q b H' e (i.trans ?_);rw [ln,ln];exact ⟨λ g=>⟨⟨c1,c2⟩,⟨c3,c4⟩,g⟩,λ g=>g.2.2⟩
end
end Rim
namespace Rim
open PySem L2 Fr
open Tx (S cs ch p9 K7 B7 y6)
open Classical in
noncomputable def D4 (z:S):Option d8:=match (Txt.split z (ch 62)).map E7 with
 | [some a,some b]=>if AnyH (a,b) then some (a,b) else none
 | _=>none
def AV (H:Hp) (v:V):Option (List Int)->Prop
 | none=>v=.non
 | some ns=>∃ t,v=.ref t/\H t=some (.tup (ns.map V.int))
def dA:Option (List Int)->PyData
 | none=>.none
 | some ns=>.tuple (ns.map PyData.int)
theorem a3n {K:W.Frag} {H:Hp}:∀ ns:List Int,Dps K H (ns.map V.int) (ns.map PyData.int)
 | []=>.nil
 | n::ns=>.cons (.int n) (a3n ns)
theorem AV.dp {K:W.Frag} {H:Hp} {v:V} {o:Option (List Int)} (h:AV H v o):Dp K H v (dA o):=by
 cases o with
 | none=>cases (show v=.non from h); exact .non
 | some ns=>obtain ⟨t,rfl,h2⟩:=h; exact .tup (SqT.of h2) (a3n ns)
theorem a3w:∀ ns:List Int,PyData.canLayAll0 (ns.map PyData.int)=true
 | []=>by rw [eY,PyData.canLayAll0]
 | n::ns=>by rw [bD,PyData.canLayAll0,a3w ns]; rfl
theorem b5y (o:Option (List Int)):(dA o).canLay0=true:=by
 cases o with
 | none=>rfl
 | some ns=>unfold dA; rw [PyData.canLay0]; exact a3w ns
theorem b4M (o:Option (List Int)):PyData.eqv (dA o) .none=o.isNone:=by
 cases o with
 | none=>simp [dA,PyData.eqv]
 | some ns=>simp [dA,PyData.eqv]
theorem b0s:∀ os:List (Option (List Int)),PyData.canLayAll0 (os.map dA)=true
 | []=>by rw [eY,PyData.canLayAll0]
 | o::os=>by rw [bD,PyData.canLayAll0,b0s os,b5y]; rfl
theorem b4X {K:W.Frag} {H:Hp} {vs:List V} {os:List (Option (List Int))} (h:aN (AV H) vs os):Dps K H vs (os.map dA):=by
 induction h with
 | nil=>exact .nil
 | cons r _ ih=>exact .cons r.dp ih
theorem a0R {α β γ:Type} {R:β->γ->Prop} {f:α->γ}:∀ {ys:List β} {xs:List α},ys.length=xs.length->(∀ (i:Nat) y,ys[i]?=some y->∃ x,xs[i]?=some x/\R y (f x))->aN R ys (xs.map f)
 | [],[],_,_=>.nil
 | y::ys,x::xs,hl,h=>by
  obtain ⟨x',hx,r⟩:=h 0 y rfl
  cases hx;exact .cons r (a0R (by simpa using hl) λ i y' h'=>h (i+1) y' (by simpa using h'))
 | [],_::_,hl,_=>by simp at hl
 | _::_,[],hl,_=>by simp at hl
theorem a3v {z:S} {ns:List Int} (h:E7 z=some ns):ns.length<=z.length+1:=by
 have:=congrArg gF (O7 h);rw [aA,aA] at this;have:=T7 (z:=z) (c:=44);omega
section
variable {P:Program} {w:World} {K:W.Frag} {mg:Str->Option Value} {base:Heap} {f:Addr} {fd:FuncData} {n:Nat}
def a3P (K:W.Frag):Sp:=λ vs H Q _=>∃ z:S,vs=[.str z]/\K7 z/\z.length<=100000/\(D4 z=none->∀ H',Same H H'->Q .non H')/\∀ h,D4 z=some h->∀ t ta ga H',Same H H'->H' t=some (.tup [.ref ta,.ref ga])->H' ta=some (.tup (h.1.map V.int))->H' ga=some (.tup (h.2.map V.int))->Q (.ref t) H'
theorem scReadH:i9 ["text","sides","house"] ["text"] (d0 U9):=⟨rfl,rfl,rfl,by decide +kernel,rfl,by decide +kernel,by decide +kernel⟩
theorem b1z:(["side"]:List Str).Nodup:=by decide +kernel
theorem a9m {fa fb:Addr} {da db:FuncData} (F:Fun K "read_house" "read_house" U9 f fd) (T:v7 mg) (C:J3 P w K mg base n "read_amounts" ["text"] (a6R K) fa da) (D:J3 P w K mg base n "is_any_house" ["thing"] (a5Y K) fb db):FnOk P w K mg base K5 (n+1) f fd ["text"] (a3P K):=by
 refine F.ok scReadH (λ vs H Q E h=>?_) (λ cdv A outer s H vs Q E hr h=>?_)
 ·obtain ⟨z,rfl,_⟩:=h
  rfl
 obtain ⟨z,rfl,ha,hl,q0,q1⟩:=h;refine ⟨_,d9 (a5x (i:=1) ["side"] [] scReadH.nd rfl rfl rfl (G2 (T8 eG gX gY a0J (pv 0) (c6 j9 c7))) (λ _ _ _ _=>j0 (i:=0) b1z rfl (aC rfl)) (λ _ _ _ _=>j4 C.ok hr rfl C.m C.k C.b .nil r6 (c6 (pv 0) c7)))
  (d9 (w4 (PW.pt (a0Z (j8 a3E (i8 i7 rfl T.len aR (c6 (pv 1) c7)) e8 (m9 _)) (V0 (j8 (a5R hr) B9 (pv 1) rfl)))) (e7 (j6 B9)) m7)
  (d9 (p7 (i:=2) scReadH.nd rfl (aC rfl) (p8 a0m rfl T.tuple gW (c6 (pv 1) c7)))
  (e7 (j6 (a0N (S2 (j4 D.ok hr rfl D.m D.k D.b .nil r6 (c6 (pv 2) c7))) (pv 2) B9))))),?_⟩
 have few:=T7 (z:=z) (c:=62);refine ⟨_,rfl,rfl,z,ch 62,rfl,rfl,by decide,by rw [sizeLine_eq]; omega,λ l hl'=>?_⟩;have s1:=Same.new hl' (.lst ((Txt.split z (ch 62)).map V.str));refine ⟨l,rfl,⟨_,SqL.of upd_same⟩,λ p hp=>?_⟩;refine O3 (C2 (SqL.of upd_same)) hp (by rw [aA,sizeLine_eq]; omega) (λ i y H'=>∃ x,(Txt.split z (ch 62))[i]?=some x/\∀ H'':Hp,(∀ b o,b≠p->H' b=some o->H'' b=some o)->AV H'' y (E7 x)) (λ i y Ha Hb ⟨h,h1,h2⟩ st=>⟨h,h1,λ H'' st2=>h2 H'' λ b o hb hh=>st2 b o hb (st b o hb hh)⟩) (λ i y H2 zs N hy e hp' hN=>?_) (λ zs H2 e hp' len pr=>?_)
 ·rw [aE] at hy
  obtain ⟨x,hx,rfl⟩:=eF.mp hy;have hxm:=bE hx;refine ⟨Wk.set (by decide),_,rfl,x,rfl,Tx.asc_part ha hxm,aK (U3 hxm) hl,λ c H3 e3=>hN _ _ e3 ⟨x,hx,λ H'' _=>by rw [c]; rfl⟩,λ ns c t H3 e3 ht=>hN _ _ e3 ⟨x,hx,λ H'' st=>by rw [c]; exact ⟨t,rfl,st _ _ (A5 ht (e3 _ _ hp') nofun) ht⟩⟩⟩
 have e2:=s1.trans e;rw [aA] at len;have PA:aN (AV H2) zs ((Txt.split z (ch 62)).map E7):=a0R len λ i y hy=>by
  obtain ⟨x,hx,r⟩:=pr i y hy;exact ⟨x,hx,r _ λ b o _ h=>h⟩
 have no:D4 z=none->Q .non H2:=λ c=>q0 c _ e2;refine ⟨_,rfl,p,_,rfl,.inl (SqL.of hp'),rfl,_,rfl,?_⟩;have nomatch2:((Txt.split z (ch 62)).map E7).length≠2\/none∈(Txt.split z (ch 62)).map E7->D4 z=none:=λ c=>by
  unfold D4;generalize (Txt.split z (ch 62)).map E7=os at c;rcases os with _ | ⟨o,_ | ⟨o',_ | ⟨o'',r⟩⟩⟩
  ·rfl
  ·cases o <;> rfl
  ·cases o <;> cases o' <;> first | rfl | (simp at c)
  ·cases o <;> cases o' <;> rfl
 have pl:((Txt.split z (ch 62)).map E7).length=zs.length:=by rw [aA]; exact len.symm
 refine A2 (λ c=>?_) (λ c=>?_)
 ·have:¬ ((zs.length:Int)=2):=λ h=>by simp [h] at c
  refine G5 (no (nomatch2 (.inl ?_)));rw [pl]; omega
 ·have c2:zs.length=2:=by
   have:(zs.length:Int)=2:=by simpa using c
   omega
  refine ⟨_,rfl,p,zs,_,.none,rfl,SqL.of hp',b4X PA,.non,b0s _,rfl,by decide,_,rfl,?_⟩;have ea:((((Txt.split z (ch 62)).map E7).map dA).any λ e=>PyData.eqv e .none)=((Txt.split z (ch 62)).map E7).any (·.isNone):=by
   rw [fG]
   congr 1
   funext o
   exact b4M o
  rw [ea];refine A2 (λ c3=>?_) (λ c3=>?_)
  ·obtain ⟨o,ho,hn⟩:=fL.mp c3
   have:o=none:=by cases o with | none=>rfl | some _=>cases hn
   subst this;exact no (nomatch2 (.inr ho))
  ·obtain ⟨a,b,hab⟩:∃ a b,(Txt.split z (ch 62)).map E7=[some a,some b]:=by
    rw [<- pl] at c2;generalize (Txt.split z (ch 62)).map E7=os at c2 c3;rcases os with _ | ⟨o,_ | ⟨o',_ | ⟨o'',r⟩⟩⟩
    ·simp at c2
    ·simp at c2
    ·cases o with
     | none=>simp at c3
     | some a=>cases o' with
      | none=>simp at c3
      | some b=>exact ⟨a,b,rfl⟩
    ·simp at c2
   have eH:∀ {x:Option d8},(open Classical in if AnyH (a,b) then some (a,b) else none)=x->D4 z=x:=λ h=>by
    unfold D4; rw [hab]; exact h
   rw [hab] at PA;obtain ⟨x1,x2,hx1,hx2⟩:∃ x1 x2,(Txt.split z (ch 62))[0]?=some x1/\(Txt.split z (ch 62))[1]?=some x2:=⟨_,_,aG (by omega),aG (by omega)⟩;have r1:E7 x1=some a:=by
    have:=congrArg (λ l=>l[0]?) hab;simp only [aE,hx1] at this;exact aJ this
   have r2:E7 x2=some b:=by
    have:=congrArg (λ l=>l[1]?) hab;simp only [aE,hx2] at this;exact aJ this
   have n1:=a3v r1;have n2:=a3v r2;have m1:=U3 (bE hx1);have m2:=U3 (bE hx2)
   cases PA with
   | cons v1 PA=>cases PA with
    | cons v2 PA =>
     cases PA;obtain ⟨ta,rfl,hta⟩:=v1;obtain ⟨ga,rfl,hga⟩:=v2;refine ⟨_,rfl,p,_,rfl,.inl ⟨SqL.of hp',λ t ht=>?_⟩⟩;have t1:=Same.new ht (.tup [V.ref ta,V.ref ga]);refine ⟨_,rfl,.ref t,(a,b),rfl,⟨t,ta,ga,rfl,SqT.of upd_same,SqT.of (t1 _ _ hta),SqT.of (t1 _ _ hga)⟩,by show a.length<=_; omega,by show b.length<=_; omega,λ b' H3 e3 i=>⟨_,rfl,?_⟩⟩;have e23:=e2.trans (t1.trans e3);refine A2 (λ c4=>?_) (λ c4=>?_)
     ·refine ⟨_,rfl,q1 (a,b) (eH (if_pos (i.mp c4))) t ta ga H3 e23 (e3 _ _ upd_same) (e3 _ _ (t1 _ _ hta)) (e3 _ _ (t1 _ _ hga))⟩
     ·exact q0 (eH (if_neg λ g=>c4 (i.mpr g))) _ e23
end
end Rim
namespace Rim
open PySem L2 Fr
open Tx (S cs ch p9 K7 B7 y6)
def IsB (hs:List d8):Prop:=(1<=hs.length/\hs.length<=16)/\∃ h0,hs[0]?=some h0/\AnyH h0/\∀ h∈hs,GoodK h h0.1.length h0.2.length
open Classical in
noncomputable def a0G (z:S):Option (List d8):=match W3 ((Txt.split z (ch 10)).map D4) with
 | some hs=>if IsB hs then some hs else none
 | none=>none
theorem a8g {z:S} {h:d8} (e:D4 z=some h):AnyH h:=by
 unfold D4 at e
 split at e
 ·split at e
  ·cases e; assumption
  ·cases e
 ·cases e
section
variable {P:Program} {w:World} {K:W.Frag} {mg:Str->Option Value} {base:Heap} {f:Addr} {fd:FuncData} {n:Nat}
def b3i (K:W.Frag):Sp:=λ vs H Q _=>∃ (a:Addr) (xs:List V) (hs:List d8),vs=[.ref a]/\SqL K H a xs/\Bk K H xs hs/\hs.length<=200000/\(∀ h∈hs,S5 h)/\∀ (b:Bool) (H':Hp),Same H H'->(b=true ↔ IsB hs)->Q (.bl b) H'
theorem scIsB:i9 ["thing","takes","gives"] ["thing"] (d0 a1k):=⟨rfl,rfl,rfl,by decide +kernel,rfl,by decide +kernel,by decide +kernel⟩
theorem b5G:(["house","takes","gives"]:List Str).Nodup:=by decide +kernel
theorem b4i {fa fb:Addr} {da db:FuncData} (F:Fun K "is_book" "is_book" a1k f fd) (T:v7 mg) (CM:∃ t,mg "MOST_HOUSES"=some (.int 16 t)) (D:J3 P w K mg base n "is_any_house" ["thing"] (a5Y K) fb db) (C:Cal P w K mg base n "is_house" ["thing","many_takes","many_gives"] (a4D K) fa da):FnOk P w K mg base K5 (n+1) f fd ["thing"] (b3i K):=by
 refine F.ok scIsB (λ vs H Q E h=>?_) (λ cdv A outer s H vs Q E hr h=>?_)
 ·obtain ⟨a,xs,hs,rfl,_⟩:=h
  rfl
 obtain ⟨a,xs,hs,rfl,hS,hB,hl,hm,q⟩:=h;obtain ⟨tm,hM⟩:=CM;refine ⟨_,d9 (w4 (PW.pt (a0Z (J4 (Y4 W7 W7 e8 (i8 i7 rfl T.len aR (c6 (pv 0) c7)) (x5 (v:=.int 16) rfl hM ⟨_,rfl⟩))) (V0 (J4 (S2 (j4 D.ok hr rfl D.m D.k D.b .nil r6 (c6 (p6 m6 (pv 0) e8 (λ _ _=>rfl)) c7))))))) (e7 (j6 a3I)) m7)
  (d9 (C3 (p6 m6 (pv 0) e8 (λ _ _=>rfl)) (E4 rfl (j5 (j0 (i:=1) scIsB.nd rfl (dM rfl)) (j5 (j0 (i:=2) scIsB.nd rfl (dM rfl)) y4))))
  (e7 (j6 (i8 (a5k rfl) rfl T.all kQ (c6 (R1 ["house"] [1,2] rfl (G2 (pv 0)) (λ _ _ _ _=>j0 (i:=0) b5G rfl (aC rfl)) (λ _ _ _ _=>j4 C.ok hr rfl C.m C.k C.b .nil r6 (c6 (pv 0) (c6 (i8 (b0M K rfl) rfl T.len aR (c6 (pv 1) c7)) (c6 (i8 (b0M K rfl) rfl T.len aR (c6 (pv 2) c7)) c7))))) c7))))),?_⟩
 have xl:xs.length=hs.length:=Paired.length hB;have no:¬ IsB hs->Q (.bl false) H:=λ c=>q false H (Same.refl _) ⟨(λ z=>nomatch z),λ z=>absurd z c⟩;refine ⟨_,rfl,a,_,rfl,.inl hS,_,_,rfl,rfl,_,rfl,?_⟩
 by_cases c1:1<=hs.length
 rotate_left
 ·rw [decide_eq_false (by omega)]
  exact D6 ⟨_,rfl,G5 (no λ z=>c1 z.1.1)⟩
 rw [decide_eq_true (show (1:Int)<=(xs.length:Int) by omega)];refine G5 ⟨_,_,rfl,rfl,_,rfl,?_⟩
 by_cases c2:hs.length<=16
 rotate_left
 ·rw [decide_eq_false (by omega)]
  exact G5 (no λ z=>c2 z.1.2)
 rw [decide_eq_true (show (xs.length:Int)<=16 by omega)];refine D6 ?_;obtain ⟨h0,hh0⟩:∃ h,hs[0]?=some h:=⟨_,aG (by omega)⟩;obtain ⟨x0,hx0⟩:∃ x,xs[0]?=some x:=⟨_,aG (by omega)⟩;obtain ⟨h0',hh0',r0⟩:=Paired.at hB hx0;rw [hh0] at hh0'; cases hh0';have m0:=hm h0 (bE hh0);refine ⟨_,rfl,a,_,_,_,rfl,rfl,hS,y8 hx0,x0,h0,rfl,r0,by have:=m0.1; omega,by have:=m0.2; omega,λ b H1 e1 i1=>⟨_,rfl,?_⟩⟩;refine A2 (λ c3=>?_) (λ c3=>?_)
 ·have c3':¬ b=true:=by simpa using c3
  exact q false H1 e1 ⟨(λ z=>nomatch z),λ z=>by
   obtain ⟨_,h0',hh0',g,_⟩:=z;rw [hh0] at hh0'; cases hh0';exact absurd (i1.mpr g) c3'⟩
 have c3':AnyH h0:=i1.mp (by simpa using c3);obtain ⟨b0,tb,gb,rfl,p1,p2,p3⟩:=r0.same e1;refine ⟨_,rfl,a,_,_,_,rfl,rfl,e1.seq hS,y8 hx0,b0,_,rfl,p1,rfl,_,_,rfl,_,_,rfl,rfl,?_⟩;refine ⟨_,rfl,a,rfl,⟨_,e1.seq hS⟩,λ p hp=>?_⟩;refine O3 (C2 (e1.seq hS)) hp (m8 (by omega)) (λ i y _=>∃ h b,hs[i]?=some h/\y=.bl b/\(b=true ↔ GoodK h h0.1.length h0.2.length)) (λ _ _ _ _ r _=>r) (λ i y H2 zs N hy e hp' hN=>?_) (λ zs H2 e hp' len pr=>?_)
 ·obtain ⟨h,hh,r⟩:=Paired.at hB hy
  have ln:∀ l:List Int,((l.map V.int).length:Int)=(l.length:Int):=λ l=>by rw [aA]
  refine ⟨Wk.set (by decide),_,rfl,_,rfl,tb,_,rfl,.inr (e.tseq p2),_,rfl,gb,_,rfl,.inr (e.tseq p3),y,h,_,_,rfl,(r.same e1).same e,hm h (bE hh),λ b' H3 e3 i3=>hN _ _ e3 ⟨h,b',hh,rfl,?_⟩⟩;rw [ln,ln] at i3;exact i3
 obtain ⟨bs,hbs,hb⟩:∃ bs:List Bool,zs=bs.map V.bl/\∀ i b,bs[i]?=some b->∃ h,hs[i]?=some h/\(b=true ↔ GoodK h h0.1.length h0.2.length):=by
  refine ⟨zs.map (λ v=>match v with | .bl b=>b | _=>false),?_,λ i b hi=>?_⟩
  ·rw [aW]
   refine bX λ i=>?_;rw [aE]
   cases hz:zs[i]? with
   | none=>rfl
   | some v =>
    obtain ⟨h,b,_,rfl,_⟩:=pr i v hz;rfl
  ·rw [aE] at hi
   cases hz:zs[i]? with
   | none=>rw [hz] at hi; cases hi
   | some v =>
    obtain ⟨h,b',hh,rfl,ii⟩:=pr i v hz;rw [hz] at hi
    cases hi;exact ⟨h,hh,ii⟩
 rw [hbs] at hp';refine ⟨p,bs,rfl,.inl (SqL.of hp'),q _ _ (e1.trans e) ?_⟩;have bl:bs.length=hs.length:=by
  rw [hbs,aA] at len;omega
 rw [dB];constructor
 ·intro z
  refine ⟨⟨c1,c2⟩,h0,hh0,c3',λ h hh=>?_⟩;obtain ⟨i,hi⟩:=fU hh;have hil:=(bQ.mp hi).1;obtain ⟨h',hh',ii⟩:=hb i _ (aG (by omega));rw [hi] at hh'; cases hh';exact ii.mp (z _ (dH _))
 ·rintro ⟨_,h0',hh0',_,g⟩ b hb'
  rw [hh0] at hh0'; cases hh0';obtain ⟨i,hi⟩:=fU hb';obtain ⟨h,hh,ii⟩:=hb i b hi;exact ii.mpr (g h (bE hh))
variable {CT:Addr}
def HO' (K:W.Frag) (H:Hp) (v:V):Option d8->Prop
 | none=>v=.non
 | some h=>HS K H v h
def dH':Option d8->PyData
 | none=>.none
 | some h=>Y5 h
def a7o (K:W.Frag) (CT:Addr):Sp:=λ vs H Q E=>∃ z:S,vs=[.str z]/\K7 z/\z.length<=100000/\(a0G z=none->∀ H',Same H H'->E (.ref CT) none H')/\∀ hs,a0G z=some hs->∀ l xs H',Same H H'->H l=none->H' l=some (.lst xs)->Bk K H' xs hs->Q (.ref l) H'
theorem scReadB:i9 ["text","book"] ["text"] (d0 Y0):=⟨rfl,rfl,rfl,by decide +kernel,rfl,by decide +kernel,by decide +kernel⟩
theorem b2w:(["row"]:List Str).Nodup:=by decide +kernel
theorem b3z (o:Option d8):PyData.eqv (dH' o) .none=o.isNone:=by
 cases o with
 | none=>simp [dH',PyData.eqv]
 | some h=>simp [dH',Y5,PyData.eqv]
theorem b0x {fa fb:Addr} {da db:FuncData} (F:Fun K "read_book" "read_book" Y0 f fd) (T:v7 mg) (kT:P0 K CT) (mT:mg "NoText"=some (.ref CT)) (C:J3 P w K mg base n "read_house" ["text"] (a3P K) fa da) (D:J3 P w K mg base n "is_book" ["thing"] (b3i K) fb db):FnOk P w K mg base (R3 P w) (n+1) f fd ["text"] (a7o K CT):=by
 refine F.ok1 scReadB (λ vs H Q E h=>?_) (λ cdv A outer s H vs Q E hr h=>?_)
 ·obtain ⟨z,rfl,_⟩:=h
  rfl
 obtain ⟨z,rfl,ha,hl,q0,q1⟩:=h;refine ⟨_,d9 (a5x (i:=1) ["row"] [] scReadB.nd rfl rfl rfl (G2 (T8 eG gX gY a0J (pv 0) (c6 j9 c7))) (λ _ _ _ _=>j0 (i:=0) b2w rfl (aC rfl)) (λ _ _ _ _=>j4 C.ok hr rfl C.m C.k C.b .nil r6 (c6 (pv 0) c7)))
  (d9 (w4 (PW.pt (a0Z (j8 (a5R hr) B9 (pv 1) rfl) (V0 (J4 (S2 (j4 D.ok hr rfl D.m D.k D.b .nil r6 (c6 (pv 1) c7))))))) (e7 (M9 kT rfl mT hr.hd (c6 j9 c7))) m7)
  (e7 (j6 (pv 1)))),?_⟩
 have few:=T7 (z:=z) (c:=10);refine ⟨_,rfl,rfl,z,ch 10,rfl,rfl,by decide,by rw [sizeLine_eq]; omega,λ l hl'=>?_⟩;have s1:=Same.new hl' (.lst ((Txt.split z (ch 10)).map V.str));refine ⟨l,rfl,⟨_,SqL.of upd_same⟩,λ p hp=>?_⟩;refine O3 (C2 (SqL.of upd_same)) hp (by rw [aA,sizeLine_eq]; omega) (λ i y H'=>∃ x,(Txt.split z (ch 10))[i]?=some x/\∀ H'':Hp,(∀ b o,b≠p->H' b=some o->H'' b=some o)->HO' K H'' y (D4 x)) (λ i y Ha Hb ⟨h,h1,h2⟩ st=>⟨h,h1,λ H'' st2=>h2 H'' λ b o hb hh=>st2 b o hb (st b o hb hh)⟩) (λ i y H2 zs N hy e hp' hN=>?_) (λ zs H2 e hp' len pr=>?_)
 ·rw [aE] at hy
  obtain ⟨x,hx,rfl⟩:=eF.mp hy;have hxm:=bE hx;refine ⟨Wk.set (by decide),_,rfl,x,rfl,Tx.asc_part ha hxm,aK (U3 hxm) hl,λ c H3 e3=>hN _ _ e3 ⟨x,hx,λ H'' _=>by rw [c]; rfl⟩,λ h c t ta ga H3 e3 ht hta hga=>hN _ _ e3 ⟨x,hx,λ H'' st=>?_⟩⟩;rw [c];have hp3:=e3 _ _ hp';exact ⟨t,ta,ga,rfl,SqT.of (st _ _ (A5 ht hp3 nofun) ht),SqT.of (st _ _ (A5 hta hp3 nofun) hta),SqT.of (st _ _ (A5 hga hp3 nofun) hga)⟩
 have e2:=s1.trans e;rw [aA] at len;have PA:aN (HO' K H2) zs ((Txt.split z (ch 10)).map D4):=a0R len λ i y hy=>by
  obtain ⟨x,hx,r⟩:=pr i y hy;exact ⟨x,hx,r _ λ b o _ h=>h⟩
 have dpH:∀ {vs:List V} {os:List (Option d8)},aN (HO' K H2) vs os->Dps K H2 vs (os.map dH'):=λ h=>by
  induction h with
  | nil=>exact .nil
  | @cons v o vs os r _ ih =>
   refine .cons ?_ ih
   cases o with
   | none=>cases (show v=.non from r); exact .non
   | some h=>exact HS.dp r
 have ly:∀ os:List (Option d8),PyData.canLayAll0 (os.map dH')=true:=λ os=>by
  induction os with
  | nil=>rw [eY,PyData.canLayAll0]
  | cons o os ih =>
   rw [bD,PyData.canLayAll0,ih]
   cases o with
   | none=>rfl
   | some h=>show ((Y5 h).canLay0&&true)=true; rw [a3A]; rfl
 refine ⟨_,rfl,p,zs,_,.none,rfl,SqL.of hp',dpH PA,.non,ly _,rfl,by decide,_,rfl,?_⟩;have ea:((((Txt.split z (ch 10)).map D4).map dH').any λ e=>PyData.eqv e .none)=((Txt.split z (ch 10)).map D4).any (·.isNone):=by
  rw [fG]
  congr 1
  funext o
  exact b3z o
 rw [ea];refine A2 (λ c=>?_) (λ c=>?_)
 ·refine G5 ⟨(by show 1<=1000; decide),q0 ?_ _ e2⟩
  unfold a0G;rw [any_none.mp c]
 ·cases hr':W3 ((Txt.split z (ch 10)).map D4) with
  | none=>exact absurd (any_none.mpr hr') c
  | some hs =>
   have en:=O7 hr';rw [en] at PA;have hB:Bk K H2 zs hs:=by
    have gen:∀ {vs:List V} {hs:List d8},aN (HO' K H2) vs (hs.map some)->Bk K H2 vs hs:=λ {vs hs} h=>by
     induction hs generalizing vs with
     | nil=>cases h; exact .nil
     | cons g hs ih =>
      cases h with
      | cons r t=>exact .cons r (ih t)
    exact gen PA
   have hany:∀ h∈hs,AnyH h:=λ h hh=>by
    have:some h∈(Txt.split z (ch 10)).map D4:=by rw [en]; exact aZ.mpr ⟨h,hh,rfl⟩
    obtain ⟨x,_,hx⟩:=aZ.mp this;exact a8g hx
   have hlen:hs.length=zs.length:=(Paired.length hB).symm;refine ⟨_,rfl,p,zs,hs,rfl,SqL.of hp',hB,by omega,λ h hh=>⟨by have:=(hany h hh).1.2; omega,by have:=(hany h hh).2.1.2; omega⟩,λ b H3 e3 i3=>⟨_,rfl,?_⟩⟩;have eB:∀ {x:Option (List d8)},(open Classical in if IsB hs then some hs else none)=x->a0G z=x:=λ h=>by
    unfold a0G; rw [hr']; exact h
   cases b with
   | true=>exact D6 ⟨_,rfl,q1 hs (eB (if_pos (i3.mp rfl))) p zs H3 (e2.trans e3) (s1.free hp) (e3 _ _ hp') (Bk.same e3 hB)⟩
   | false=>exact G5 ⟨(by show 1<=1000; decide),q0 (eB (if_neg λ g=>by have:=i3.mpr g; cases this)) _ (e2.trans e3)⟩
end
end Rim
namespace L2
open PySem PySem.Spec PyProof.Rows
def EntIs (e:DictEntry) (kv:Str×Addr):Prop:=∃ t,e.key=.str kv.1 t/\e.val=.ref kv.2
theorem a4J (z:Str):∀ {es:List DictEntry} {kvs:List (Str×Addr)},aN EntIs es kvs->(es.find? (·.key.isStr z)).map (·.val)=(kvs.lookup z).map Value.ref
 | _,_,.nil=>rfl
 | _,_,.cons (a:=e) (b:=kv) ⟨t,hk,hv⟩ r=>by
  rw [List.find?_cons,cK];have hs:e.key.isStr z=(z==kv.1):=by
   rw [hk]
   show (kv.1==z)=(z==kv.1)
   rw [dR,beq_iff_eq,beq_iff_eq];exact ⟨Eq.symm,Eq.symm⟩
  rw [hs]
  cases (z==kv.1) with
  | true=>simp [hv]
  | false=>exact a4J z r
theorem a7d:∀ {es:List DictEntry} {kvs:List (Str×Addr)},aN EntIs es kvs->es.any (·.refKey)=false
 | _,_,.nil=>rfl
 | _,_,.cons (a:=e) ⟨t,hk,_⟩ r=>by
  rw [eX,a7d r,hW];unfold DictEntry.refKey;rw [hk]
structure KTab (K:W.Frag) (Pm:Params) (mg:Str->Option Value) (name:Str) (d:Addr) (kvs:List (Str×Addr)):Prop where
 m:mg name=some (.ref d)
 ex:∃ es n,K.lookup d=some ⟨.type "dict",none,.dict es n,#[]⟩/\W.KeysLit Pm es.toList/\aN EntIs es.toList kvs
 sys:(d==sysModules)=false
theorem KTab.ns {K:W.Frag} {Pm:Params} {mg:Str->Option Value} {name:Str} {d:Addr} {kvs:List (Str×Addr)} (T:KTab K Pm mg name d kvs) (z:Str):W.nsIn K d z=some ((kvs.lookup z).map Value.ref):=by
 obtain ⟨es,n,hl,_,hp⟩:=T.ex;unfold W.nsIn;rw [hl];dsimp only;have h:=a4J z hp
 cases e:es.toList.find? (·.key.isStr z) with
 | some x=>rw [e] at h; dsimp only; rw [<- h]; rfl
 | none=>rw [e] at h; dsimp only; rw [a7d hp,if_neg bI,<- h]; rfl
theorem KTab.k {K:W.Frag} {Pm:Params} {mg:Str->Option Value} {name:Str} {d:Addr} {kvs:List (Str×Addr)} (T:KTab K Pm mg name d kvs):a7t K Pm d:=by
 obtain ⟨es,n,hl,hk,_⟩:=T.ex;exact ⟨es,n,hl,hk⟩
def b5v (K:W.Frag) (Pm:Params) (neg:Bool):R2:=λ x y H Q=>∃ d z r,x=.str z/\y=.ref d/\a7t K Pm d/\W.nsIn K d z=some r/\(d==sysModules)=false/\Q (.bl (if neg then !r.isSome else r.isSome)) H
theorem a9D (K:W.Frag) (Pm:Params) {X:Cx} (hK:X.K=K) (hP:X.w.params=Pm):W5 X (compareOp .In) (b5v K Pm false):=by
 subst hK;subst hP;intro pins s σ H x y v u Q I rx ry h;obtain ⟨d,z,r,rfl,rfl,⟨es,n,hl,hk⟩,e,hs,q⟩:=h
 cases ry;obtain ⟨tk,rfl⟩:=rx;obtain ⟨m,hm⟩:=I.fr;exact W.topIn_K hm I.mod.kin hl hk e hs ⟨.bl r.isSome,H,I.tok _,rfl,q⟩
theorem a8f (K:W.Frag) (Pm:Params) {X:Cx} (hK:X.K=K) (hP:X.w.params=Pm):W5 X (compareOp .NotIn) (b5v K Pm true):=by
 subst hK;subst hP;intro pins s σ H x y v u Q I rx ry h;obtain ⟨d,z,r,rfl,rfl,⟨es,n,hl,hk⟩,e,hs,q⟩:=h
 cases ry;obtain ⟨tk,rfl⟩:=rx;obtain ⟨m,hm⟩:=I.fr;refine wpAny_notIn_of (strKind_is X.prog X.w z tk) hs (W.mapOf_K (prog:=X.prog) (I.mod.kin.keeps hm.keep) hl hk) ?_;rw [W.find_K hl e];exact ⟨.bl (!r.isSome),H,I.tok _,rfl,q⟩
def b7o (X:Cx) (E:XK) (f:Addr) (sp:Sp):Prop:=∃ (CX:CXT) (k:Nat) (fd:FuncData) (ps:List Str),FnOk X.prog X.w X.K X.mg X.base CX k f fd ps sp/\Room k X.A/\W.keepIn X.K (.ref f)=true/\Binds X.K fd ps []/\R5 CX X E
def b3F (F:Addr->Sp->Prop) (E:XK) (tv:TE) (t:TA):TE:=λ σ H Q=>tv σ H λ v H1=>∃ f sp,v=.ref f/\F f sp/\t σ H1 λ vs H2=>sp vs H2 Q E
theorem a5e {X:Cx} {F:Addr->Sp->Prop} {E:XK} {x:Str} {p pos:Pos} {e:Expr} {es:List Expr} {tv:TE} {t:TA} (hF:∀ f sp,F f sp->b7o X E f sp) (hv:PE X (.Name x p) tv) (ha:PA X (e::es) t)
  (he:starEach (e::es) X.env=(false,eval e X.env)::starEach es X.env:=by rfl) (hpl:(backTo pos (starEach es X.env)).any (·.1)=false:=by rfl) :
  PE X (.Call (.Name x p) (e::es) [] pos) (b3F F E tv t):=by
 intro pins s σ H Q I h;refine wpAny_Call_Name_kw ?_;refine y9 (hv pins s σ H _ I h) λ u s1 ⟨v,H1,I1,rv,f,sp,ev,hf,q⟩=>?_;subst ev
 cases rv;obtain ⟨CX,k,fd,ps,ok,hr,hk,hb,hx⟩:=hF f sp hf;refine W.callWith_K (h₀:=X.base) I1.ok.mod.kin hk (y9 (ha pos pins s1 σ H1 _ I1 q) λ us s2 ⟨vs,H2,I2,r,q2⟩=>⟨I2.kIn,?_⟩) he hpl;exact a4e (dvs:=[]) ok hr hb .nil hx I2 r (by rw [dJ]; exact q2)
end L2
namespace Rim
open PySem L2 Fr
open Tx (S cs ch p9 K7 B7 y6)
inductive Th where
 | k (n:Int)
 | h (x:d8)
 | w (z:S)
open Classical in
noncomputable def A0 (form:Str) (z:S):Option Th :=
 if form="K" then (y6 z).map Th.k else if form="HOUSE" then (D4 z).map Th.h else if W4 z then some (.w z) else none
def ThV (K:W.Frag) (H:Hp) (v:V):Th->Prop
 | .k n=>v=.int n
 | .h x=>∃ t ta ga,v=.ref t/\H t=some (.tup [.ref ta,.ref ga])/\H ta=some (.tup (x.1.map V.int))/\H ga=some (.tup (x.2.map V.int))
 | .w z=>v=.str z
def ThO (K:W.Frag) (H:Hp) (v:V):Option Th->Prop
 | none=>v=.non
 | some t=>ThV K H v t
structure b0j (K:W.Frag) (mg:Str->Option Value) (o:Addr):Prop where
 m:mg "SIZES"=some (.ref o)
 s:∀ H,SqT K H o [.str "any",.str "one",.str "less",.str "more"]
section
variable {P:Program} {w:World} {K:W.Frag} {mg:Str->Option Value} {base:Heap} {f oZ:Addr} {fd:FuncData} {n:Nat}
def a4k (K:W.Frag):Sp:=λ vs H Q _=>∃ (form:Str) (z:S),vs=[.str form,.str z]/\K7 z/\z.length<=100000/\∀ v H',Same H H'->ThO K H' v (A0 form z)->Q v H'
theorem b2g:i9 ["form","text"] ["form","text"] (d0 U7):=⟨rfl,rfl,rfl,by decide +kernel,rfl,by decide +kernel,by decide +kernel⟩
theorem a9x {fa fb:Addr} {da db:FuncData} (F:Fun K "read_thing" "read_thing" U7 f fd) (Z:b0j K mg oZ) (C:J3 P w K mg base n "read_number" ["text"] a4w fa da) (D:J3 P w K mg base n "read_house" ["text"] (a3P K) fb db):FnOk P w K mg base K5 (n+1) f fd ["form","text"] (a4k K):=by
 refine F.ok b2g (λ vs H Q E h=>?_) (λ cdv A outer s H vs Q E hr h=>?_)
 ·obtain ⟨form,z,rfl,_⟩:=h
  rfl
 obtain ⟨form,z,rfl,ha,hl,q⟩:=h;refine ⟨_,d9 (w4 (j8 Z1 (pv 0) j9 (m9 _)) (e7 (j6 (j4 C.ok hr rfl C.m C.k C.b .nil r6 (c6 (pv 1) c7)))) m7)
  (d9 (w4 (j8 Z1 (pv 0) j9 (m9 _)) (e7 (j6 (j4 D.ok hr rfl D.m D.k D.b .nil r6 (c6 (pv 1) c7)))) m7)
  (e7 (j6 (a0N (j8 a3a (pv 1) (x5 (v:=.ref oZ) rfl Z.m rfl) rfl) (pv 1) B9)))),?_⟩
 refine ⟨_,rfl,rfl,_,rfl,?_⟩;refine A2 (λ c=>?_) (λ c=>?_)
 ·have c':form="K":=V.str.inj (of_decide_eq_true c)
  refine ⟨_,rfl,z,rfl,ha,hl,λ H1 e1=>q _ H1 e1 ?_⟩;unfold A0;rw [if_pos c']
  cases y6 z <;> rfl
 have c1:¬ form="K":=λ h=>c (decide_eq_true (congrArg V.str h));refine ⟨_,rfl,rfl,_,rfl,?_⟩;refine A2 (λ c=>?_) (λ c=>?_)
 ·have c':form="HOUSE":=V.str.inj (of_decide_eq_true c)
  have er:A0 form z=(D4 z).map Th.h:=by unfold A0; rw [if_neg c1,if_pos c']
  refine ⟨_,rfl,z,rfl,ha,hl,λ e H1 e1=>q _ H1 e1 ?_,λ h e t ta ga H1 e1 h1 h2 h3=>q _ H1 e1 ?_⟩
  ·rw [er,e]; rfl
  ·rw [er,e]; exact ⟨t,ta,ga,rfl,h1,h2,h3⟩
 have c2:¬ form="HOUSE":=λ h=>c (decide_eq_true (congrArg V.str h));have ev:∀ a:Str,eqV (V.str a) (V.str z)=decide (z=a):=λ a=>by
  show (a==z)=decide (z=a)
  rw [dR,beq_iff_eq,decide_eq_true_iff];exact ⟨Eq.symm,Eq.symm⟩
 have ei:(inV (V.str z) [.str "any",.str "one",.str "less",.str "more"]=true) ↔ W4 z:=by
  unfold inV W4;simp only [eX,List.any_nil,ev,hW,jC,decide_eq_true_iff]
 refine ⟨_,rfl,oZ,_,rfl,.inr (Z.s _),rfl,rfl,_,rfl,?_⟩;refine A2 (λ c=>?_) (λ c=>?_)
 ·refine ⟨_,rfl,q _ H (Same.refl _) ?_⟩
  unfold A0;rw [if_neg c1,if_neg c2,if_pos (ei.mp c)];rfl
 ·refine q _ H (Same.refl _) ?_
  unfold A0;rw [if_neg c1,if_neg c2,if_neg λ h=>c (ei.mpr h)];rfl
end
end Rim
namespace Rim
open PySem L2 Fr
open Tx (S cs ch p9 K7 B7 y6)
def FORML:List (Str×List Str):=[("house",["HOUSE"]),("drop",["K"]),("alter",["K","HOUSE"]),("sizes",["WORD"]),("back",[]),("share",["K"]),("grow",["K"]),("others",["K"]),("alone",["K"]),("scale",["K"]),("rim",[]),("levels",[]),("order",[]),("book",[])]
structure a5N (K:W.Frag) (Pm:Params) (mg:Str->Option Value) (d:Addr) (kvs:List (Str×Addr)):Prop where
 t:KTab K Pm mg "FORMS" d kvs
 p:aN (λ (kv:Str×Addr) (fl:Str×List Str)=>kv.1=fl.1/\∀ H,SqT K H kv.2 (fl.2.map V.str)) kvs FORML
theorem b3g {K:W.Frag} (z:Str):∀ {kvs:List (Str×Addr)} {fl:List (Str×List Str)},aN (λ (kv:Str×Addr) (fl:Str×List Str)=>kv.1=fl.1/\∀ H,SqT K H kv.2 (fl.2.map V.str)) kvs fl->(kvs.lookup z=none/\fl.lookup z=none)\/∃ a fs,kvs.lookup z=some a/\fl.lookup z=some fs/\∀ H,SqT K H a (fs.map V.str)
 | _,_,.nil=>.inl ⟨rfl,rfl⟩
 | _,_,.cons (a:=kv) (b:=fl) ⟨e,h⟩ r=>by
  obtain ⟨k,a⟩:=kv;obtain ⟨k',fs⟩:=fl;have e':k=k':=e;subst e';rw [cK,cK]
  cases (z==k) with
  | true=>exact .inr ⟨a,fs,rfl,rfl,h⟩
  | false=>exact b3g z r
noncomputable def C5 (z:S):Option (Str×List Th):=match Txt.split z (ch 32) with
 | []=>none
 | w::r=>match FORML.lookup w with
  | none=>none
  | some fs=>if r.length=fs.length then (W3 (bG A0 fs r)).map (λ ts=>(w,ts)) else none
def dT:Th->PyData
 | .k n=>.int n
 | .h x=>Y5 x
 | .w z=>.str z
def dTO:Option Th->PyData
 | none=>.none
 | some t=>dT t
def b2J:Option Th->Prop
 | some (.w z)=>W4 z
 | _=>True
theorem a9e (form:Str) (z:S):b2J (A0 form z):=by
 unfold A0
 split
 ·cases y6 z <;> exact trivial
 ·split
  ·cases D4 z <;> exact trivial
  ·split
   ·assumption
   ·exact trivial
theorem b5s {o:Option Th} (h:b2J o):(dTO o).canLay0=true:=by
 match o,h with
 | none,_=>rfl
 | some (.k n),_=>rfl
 | some (.h x),_=>exact a3A x
 | some (.w z),h=>rcases (show W4 z from h) with rfl | rfl | rfl | rfl <;> (show (PyData.str _).canLay0=true; rw [PyData.canLay0]; decide +kernel)
theorem b5A (o:Option Th):PyData.eqv (dTO o) .none=o.isNone:=by
 match o with
 | none=>simp [dTO,PyData.eqv]
 | some (.k n)=>simp [dTO,dT,PyData.eqv]
 | some (.h x)=>simp [dTO,dT,Y5,PyData.eqv]
 | some (.w z)=>simp [dTO,dT,PyData.eqv]
theorem ThO.dp {K:W.Frag} {H:Hp} {v:V} {o:Option Th} (h:ThO K H v o):Dp K H v (dTO o):=by
 match o,h with
 | none,h=>cases (show v=.non from h); exact .non
 | some (.k n),h=>cases (show v=.int n from h); exact .int n
 | some (.h x),h =>
  obtain ⟨t,ta,ga,rfl,h1,h2,h3⟩:=h;exact HS.dp ⟨t,ta,ga,rfl,SqT.of h1,SqT.of h2,SqT.of h3⟩
 | some (.w z),h=>cases (show v=.str z from h); exact .str z
section
variable {P:Program} {w:World} {K:W.Frag} {mg:Str->Option Value} {base:Heap} {f dF CR:Addr} {fd:FuncData} {n:Nat} {kvs:List (Str×Addr)}
def a4q (K:W.Frag) (CR:Addr):Sp:=λ vs H Q E=>∃ z:S,vs=[.str z]/\K7 z/\z.length<=100000/\(C5 z=none->∀ H',Same H H'->E (.ref CR) none H')/\∀ wd ts,C5 z=some (wd,ts)->∀ t l us H',Same H H'->H' t=some (.tup [.str wd,.ref l])->H' l=some (.lst us)->aN (ThV K H') us ts->Q (.ref t) H'
theorem scReadR:i9 ["row","words","word","things"] ["row"] (d0 M4):=⟨rfl,rfl,rfl,by decide +kernel,rfl,by decide +kernel,by decide +kernel⟩
theorem a7n:(["form","text"]:List Str).Nodup:=by decide +kernel
noncomputable def rrT {cdv:Value} {A:Around} {outer:List Env} {s:Shared} {H:Hp} {E:XK} {fa:Addr} {da:FuncData} (T:v7 mg) (FT:a5N K w.params mg dF kvs) (kR:P0 K CR) (mR:mg "NoRow"=some (.ref CR)) (C:J3 P w K mg base n "read_thing" ["form","text"] (a4k K) fa da)
  (hr:Room n (A.deeper (bY "read_row" (d0 M4) s.heap.objs.size f cdv))) (hA:A.handled=none) :
  { t:TS // PSs (M3 (R3 P w) P w K mg base ["row","words","word","things"] "read_row" (d0 M4) f cdv A outer s H E) (t9 M4) t } :=
 ⟨_,d9 (p7 (i:=1) scReadR.nd rfl (aC rfl) (T8 eG gX gY a0J (pv 0) (c6 j9 c7)))
  (d9 (p7 (i:=2) scReadR.nd rfl (aC rfl) (p6 m6 (pv 1) e8 (λ _ _=>rfl)))
  (d9 (w4 (PW.pt (a0Z (j8 (a8f K w.params rfl rfl) (pv 2) (x5 (v:=.ref dF) rfl FT.t.m rfl) rfl) (V0 (j8 a3E (j7 a6g (i8 i7 rfl T.len aR (c6 (pv 1) c7)) e8) (i8 i7 rfl T.len aR (c6 (p6 (a1p K w.params rfl rfl) (x5 (v:=.ref dF) rfl FT.t.m rfl) (pv 2) (λ _ _=>rfl)) c7)) (m9 _))))) (e7 (M9 kR rfl mR hA (c6 j9 c7))) m7)
  (d9 (a5x (i:=3) ["form","text"] [] scReadR.nd rfl rfl rfl (a8L false true K rfl rfl T.zip (c6 (p6 (a1p K w.params rfl rfl) (x5 (v:=.ref dF) rfl FT.t.m rfl) (pv 2) (λ _ _=>rfl)) (c6 (C6 G1 (pv 1) (E8 e8) F0) c7))) (λ _ _ _ _=>a0x K (n:=2) rfl rfl (j5 (j0 (i:=0) a7n rfl (aC rfl)) (j5 (j0 (i:=1) a7n rfl (aC rfl)) y4))) (λ _ _ _ _=>j4 C.ok hr rfl C.m C.k C.b .nil r6 (c6 (pv 0) (c6 (pv 1) c7))))
  (d9 (w4 (j8 (a5R hr) B9 (pv 3) rfl) (e7 (M9 kR rfl mR hA (c6 j9 c7))) m7)
  (e7 (j6 (v9 (c6 (pv 2) (c6 (pv 3) c7)))))))))⟩
theorem a9s {fa:Addr} {da:FuncData} (F:Fun K "read_row" "read_row" M4 f fd) (T:v7 mg) (FT:a5N K w.params mg dF kvs) (kR:P0 K CR) (mR:mg "NoRow"=some (.ref CR)) (C:J3 P w K mg base n "read_thing" ["form","text"] (a4k K) fa da):FnOk P w K mg base (R3 P w) (n+1) f fd ["row"] (a4q K CR):=by
 refine F.ok1 scReadR (λ vs H Q E h=>?_) (λ cdv A outer s H vs Q E hr h=>?_)
 ·obtain ⟨z,rfl,_⟩:=h
  rfl
 obtain ⟨z,rfl,ha,hl,q0,q1⟩:=h;refine ⟨_,(rrT T FT kR mR C hr hr.hd).2,?_⟩;have few:=T7 (z:=z) (c:=32);refine ⟨_,rfl,rfl,z,ch 32,rfl,rfl,by decide,by rw [sizeLine_eq]; omega,λ l hl'=>?_⟩;have s1:=Same.new hl' (.lst ((Txt.split z (ch 32)).map V.str));obtain ⟨wd,r,hw⟩:∃ wd r,Txt.split z (ch 32)=wd::r:=by
  cases h:Txt.split z (ch 32) with
  | nil=>exact absurd h (Tx.split_ne z 32)
  | cons a b=>exact ⟨a,b,rfl⟩
 have hH1:(r9 H l (.lst ((Txt.split z (ch 32)).map V.str))) l=some (.lst ((wd::r).map V.str)):=by rw [upd_same,hw]
 generalize r9 H l (.lst ((Txt.split z (ch 32)).map V.str))=H1 at *;rw [hw] at few;refine ⟨_,rfl,l,_,_,_,rfl,rfl,SqL.of hH1,y8 (j:=0) rfl,?_⟩;have wl:((wd::r).map V.str).length=r.length+1:=by rw [aA]; rfl
 refine ⟨_,rfl,dF,wd,_,rfl,rfl,FT.t.k,FT.t.ns wd,FT.t.sys,_,rfl,?_⟩;rcases b3g wd FT.p with ⟨l1,l2⟩ | ⟨fa',fs,l1,l2,hq⟩
 ·rw [l1]
  refine G5 (G5 ⟨(by show 1<=1000; decide),q0 ?_ _ s1⟩);unfold C5;rw [hw];dsimp only;rw [l2]
 rw [l1];refine D6 ?_;have fsl:((fs.map V.str).length:Int)=(fs.length:Int):=by rw [aA]
 refine ⟨_,rfl,l,_,rfl,.inl (SqL.of hH1),_,_,rfl,rfl,_,rfl,dF,wd,fa',rfl,rfl,FT.t.k,by rw [FT.t.ns wd,l1]; rfl,fa',_,rfl,.inr (hq _),rfl,_,rfl,?_⟩;have eR:∀ {x},(if r.length=fs.length then (W3 (bG A0 fs r)).map (λ ts=>(wd,ts)) else none)=x->C5 z=x:=λ h=>by
  unfold C5;rw [hw];dsimp only;rw [l2];exact h
 have key:(V.int ((((wd::r).map V.str).length:Int) - 1)=V.int (((fs.map V.str).length:Nat):Int)) ↔ r.length=fs.length:=by
  rw [wl,fsl];constructor
  ·intro h
   have:=V.int.inj h;omega
  ·intro h
   congr 1
   omega
 refine A2 (λ c=>?_) (λ c=>?_)
 ·have c':¬ r.length=fs.length:=λ h=>by
   rw [decide_eq_true (key.mpr h)] at c
   cases c
  exact ⟨(by show 1<=1000; decide),q0 (eR (if_neg c')) _ s1⟩
 have c':r.length=fs.length:=key.mp (by simpa using c);refine ⟨_,rfl,dF,wd,fa',rfl,rfl,FT.t.k,by rw [FT.t.ns wd,l1]; rfl,_,rfl,_,rfl,l,_,rfl,SqL.of hH1,λ l3 hl3=>?_⟩;have ec:U2 ((wd::r).map V.str) (some 1) none=r.map V.str:=by
  have:=U0 ((wd::r).map V.str) 1 (by rw [wl]; omega);exact this
 rw [ec];have rl:r.length<=z.length:=by rw [cG] at few; omega
 have s3:=Same.new hl3 (.lst (r.map V.str));have e13:=s1.trans s3;have asc:∀ x∈r,K7 x/\x.length<=100000:=λ x hx=>by
  have hm:x∈Txt.split z (ch 32):=by rw [hw]; exact aU _ hx
  exact ⟨Tx.asc_part ha hm,aK (U3 hm) hl⟩
 refine ⟨fa',l3,rfl,⟨_,hq _⟩,⟨_,SqL.of upd_same⟩,λ p hp=>?_⟩;refine a6m (b1:=false) (b2:=true) (xs:=fs.map V.str) (ys:=r.map V.str) (hq _) (SqL.of upd_same) hp (by rw [aA,sizeLine_eq]; omega) (λ i y H'=>∃ fm x,fs[i]?=some fm/\r[i]?=some x/\∀ H'':Hp,(∀ b o,b≠p->H' b=some o->H'' b=some o)->ThO K H'' y (A0 fm x)) (λ i y Ha Hb ⟨h,h0,h1,h1',h2⟩ st=>⟨h,h0,h1,h1',λ H'' st2=>h2 H'' λ b o hb hh=>st2 b o hb (st b o hb hh)⟩) (λ i x y H2 zs N hx hy e hp' hN=>?_) (λ zs H2 e hp' len pr=>?_)
 ·rw [aE] at hx hy
  obtain ⟨fm,hfm,rfl⟩:=eF.mp hx;obtain ⟨tx,htx,rfl⟩:=eF.mp hy;obtain ⟨a1,a2⟩:=asc tx (bE htx);refine ⟨_,rfl,_,rfl,fm,tx,rfl,a1,a2,λ v H3 e3 ho=>hN _ _ e3 ⟨fm,tx,hfm,htx,λ H'' st=>?_⟩⟩;have hp3:=e3 _ _ hp'
  revert ho
  generalize A0 fm tx=o;intro ho
  match o,ho with
  | none,ho=>exact ho
  | some (.k n),ho=>exact ho
  | some (.w z),ho=>exact ho
  | some (.h x),⟨t,ta,ga,e0,h1,h2,h3⟩=>exact ⟨t,ta,ga,e0,st _ _ (A5 h1 hp3 nofun) h1,st _ _ (A5 h2 hp3 nofun) h2,st _ _ (A5 h3 hp3 nofun) h3⟩
 have e2:=e13.trans e;have zl:zs.length=(bG A0 fs r).length:=by
  rw [len,aA,aA,eN]
 have PA:aN (ThO K H2) zs (bG A0 fs r):=by
  have:=a0R (R:=ThO K H2) (f:=λ o:Option Th=>o) (ys:=zs) (xs:=bG A0 fs r) zl λ i y hy=>by
   obtain ⟨fm,tx,hfm,htx,rr⟩:=pr i y hy;exact ⟨_,by rw [gQ,hfm,htx],rr _ λ b o _ h=>h⟩
  rw [List.map_id'] at this;exact this
 have okT:∀ o∈List.zipWith A0 fs r,b2J o:=λ o ho=>by
  obtain ⟨i,hi⟩:=fU ho;rw [gQ] at hi
  split at hi
  ·cases hi; exact a9e _ _
  ·cases hi
 have dpT:∀ {vs:List V} {os:List (Option Th)},aN (ThO K H2) vs os->Dps K H2 vs (os.map dTO):=λ h=>by
  induction h with
  | nil=>exact .nil
  | cons r _ ih=>exact .cons r.dp ih
 have ly:∀ os:List (Option Th),(∀ o∈os,b2J o)->PyData.canLayAll0 (os.map dTO)=true:=λ os=>by
  induction os with
  | nil=>intro _; rw [eY,PyData.canLayAll0]
  | cons o os ih =>
   intro h;rw [bD,PyData.canLayAll0,ih λ x hx=>h x (aU _ hx),b5s (h o bB)]; rfl
 refine ⟨_,rfl,p,zs,_,.none,rfl,SqL.of hp',dpT PA,.non,ly _ okT,rfl,by decide,_,rfl,?_⟩;have ea:(((bG A0 fs r).map dTO).any λ e=>PyData.eqv e .none)=(bG A0 fs r).any (·.isNone):=by
  rw [fG]
  congr 1
  funext o
  exact b5A o
 rw [ea];refine A2 (λ c=>?_) (λ c=>?_)
 ·refine ⟨(by show 1<=1000; decide),q0 (eR ?_) _ e2⟩
  rw [if_pos c',any_none.mp c]; rfl
 ·cases hr':W3 (bG A0 fs r) with
  | none=>exact absurd (any_none.mpr hr') c
  | some ts =>
   have en:=O7 hr';rw [en] at PA;refine ⟨_,rfl,_,rfl,(by show 2<=sizeLine; decide),λ t ht=>?_⟩;have t1:=Same.new ht (.tup [V.str wd,V.ref p]);refine q1 wd ts (eR (by rw [if_pos c',hr']; rfl)) t p zs _ (e2.trans t1) upd_same (t1 _ _ hp') ?_;have gen:∀ {vs:List V} {us:List Th},aN (ThO K H2) vs (us.map some)->aN (ThV K (r9 H2 t (.tup [V.str wd,V.ref p]))) vs us:=λ {vs us} h=>by
    induction us generalizing vs with
    | nil=>cases h; exact .nil
    | cons g us ih =>
     cases h with
     | cons r' t' =>
      refine .cons ?_ (ih t')
      match g,r' with
      | .k n,r'=>exact r'
      | .w z,r'=>exact r'
      | .h x,⟨t2,ta,ga,e0,h1,h2,h3⟩=>exact ⟨t2,ta,ga,e0,t1 _ _ h1,t1 _ _ h2,t1 _ _ h3⟩
   exact gen PA
end
end Rim
namespace L2
open PySem PySem.Spec PyProof.Rows
def b7r (K:W.Frag) (ta:TE) (f:Str):TG:=λ v σ H Q=>ta σ H λ x H2=>∃ a C dx fs,x=.ref a/\H2 a=some (.ins C dx fs)/\Cls K C/\NoAttr K C f/\fs.length<1000/\Q σ (r9 H2 a (.ins C dx (S8 f v fs)))
theorem a0W {M:Model} {A:Around} {E:Value->Shared->Prop} {s:Shared} {env:Env} {o:Expr} {attr:Str} {pos':Pos} {v:Value} {Q:Unit->Shared->Prop}
  (h:wpAny M A (eval o env) (λ ov s₂=>wpAny M A (setAttr ov attr v) Q E s₂) E s):wpAny M A (assign (.Attribute o attr pos') env v) Q E s:=λ Γ p hΓ=>by
 simp only [assign_Attribute,Sem.wp_bind',Sem.wp_holding,Sem.wp_cmd_standAt,Sem.wp_release,Sem.wp_pure'];exact Sem.wp_mono M Γ _ (λ ov _ s₂ h₂=>h₂ Γ _ hΓ) (λ _ _ _ h'=>h') _ _ (h Γ _ hΓ)
theorem a3K {X:Cx} {o:Expr} {f:Str} {pos:Pos} {ta:TE} (ha:PE X o ta):PG X (.Attribute o f pos) (b7r X.K ta f):=by
 intro pins s σ H v u Q I r h;refine a0W (y9 (ha pins s σ H _ I h) λ ov s2 ⟨x,H2,I2,rx,a,C,dx,fs,ex,ea,c,n,l,q2⟩=>?_);subst ex;obtain rfl:ov=Value.ref a:=rx;exact a2p I2 ea c n l r λ s3 I3=>⟨σ,_,I3,q2⟩
end L2
namespace Rim
open PySem L2 Fr
end Rim
namespace L2
open PySem
def a6F (o:Option HO):Prop:=∀ u,o=some u->(∀ zs,u≠.tup zs)/\∀ a b,u≠.frz a b
structure Fr0 (X:Addr->Prop) (H H':Hp):Prop where
 k:∀ b o,¬ X b->H b=some o->H' b=some o
 m:∀ x,X x->a6F (H x)
section
variable {X:Addr->Prop} {H H':Hp} {K:W.Frag} {a:Addr} {xs:List V}
theorem Fr0.tup (e:Fr0 X H H') (h:H a=some (.tup xs)):H' a=some (.tup xs):=e.k a _ (λ x=>(e.m a x _ h).1 xs rfl) h
theorem Fr0.seqT (e:Fr0 X H H') (h:SqT K H a xs):SqT K H' a xs:=by
 rcases h with (h | ⟨o,h⟩) | h
 ·exact .inl (.inl (e.tup h))
 ·exact .inl (.inr ⟨o,e.k a _ (λ x=>(e.m a x _ h).2 _ _ rfl) h⟩)
 ·exact .inr h
theorem T6 {o:Option HO} {xs:List V} (h:o=some (.lst xs)):a6F o:=λ u e=>by
 rw [h] at e;obtain rfl:=aJ e;exact ⟨λ zs z=>HO.noConfusion z,λ a b z=>HO.noConfusion z⟩
theorem Z3 {o:Option HO} {C dx:Addr} {fs:List (Str×V)} (h:o=some (.ins C dx fs)):a6F o:=λ u e=>by
 rw [h] at e;obtain rfl:=aJ e;exact ⟨λ zs z=>HO.noConfusion z,λ a b z=>HO.noConfusion z⟩
theorem a1u {P:Addr} {pos:Pos} {qual:Str} {H:Hp} (T:LamTab P pos qual H):a6F (H P):=λ u e=>by
 rcases T with t | ⟨c,t,_⟩ <;> (rw [t] at e; obtain rfl:=aJ e; exact ⟨λ zs z=>HO.noConfusion z,λ a b z=>HO.noConfusion z⟩)
end
end L2
namespace Rim
open PySem L2 Fr
theorem HS.fr0 {X:Addr->Prop} {K:W.Frag} {H H':Hp} {v:V} {h:d8} (e:Fr0 X H H') (x:HS K H v h):HS K H' v h:=by
 obtain ⟨a,t,g,h0,h1,h2,h3⟩:=x;exact ⟨a,t,g,h0,e.seqT h1,e.seqT h2,e.seqT h3⟩
theorem Bk.fr0 {X:Addr->Prop} {K:W.Frag} {H H':Hp} {vs:List V} {hs:List d8} (e:Fr0 X H H') (x:Bk K H vs hs):Bk K H' vs hs:=Paired.imp' (λ _ _ r=>HS.fr0 e r) x
abbrev KFs (kt kg:Nat) (z:Str) (ta wa pa:Addr):List (Str×V):=[("many_takes",.int (kt:Int)),("many_gives",.int (kg:Int)),("sizes",.str z),("there",.ref ta),("worth",.ref wa),("past",.ref pa)]
structure TK (K:W.Frag) (C:Addr):Prop where
 cl:Cls K C
 nT:NoAttr K C "many_takes"
 nG:NoAttr K C "many_gives"
 nS:NoAttr K C "sizes"
 nH:NoAttr K C "there"
 nW:NoAttr K C "worth"
 nP:NoAttr K C "past"
abbrev Lev:=List d8×List Q2
def b3e (K:W.Frag) (H:Hp) (lo:List Addr) (ta wa:Addr) (L:Lev):Prop:=ta∈lo/\wa∈lo/\(∃ xs,H ta=some (.lst xs)/\Bk K H xs L.1)/\∃ ys,H wa=some (.lst ys)/\aN (FrT H) ys L.2
def b3t (K:W.Frag) (H:Hp) (lo:List Addr):List V->List Lev->Prop:=aN λ v L=>∃ t ta wa,v=.ref t/\H t=some (.tup [.ref ta,.ref wa])/\b3e K H lo ta wa L
structure b7V (K:W.Frag) (C:Addr) (H:Hp) (p:Addr) (kt kg:Nat) (z:Str) (L:Lev) (past:List Lev) (pa:Addr) (lo:List Addr):Prop where
 no:pa ∉ lo
 ls:∀ b∈lo,∃ xs,H b=some (.lst xs)
 ex:∃ dx ta wa pv,H p=some (.ins C dx (KFs kt kg z ta wa pa))/\b3e K H lo ta wa L/\H pa=some (.lst pv)/\b3t K H lo pv past
section
variable {P:Program} {w:World} {K:W.Frag} {mg:Str->Option Value} {base:Heap} {f C CN CB CT CL Pt:Addr} {fd:FuncData} {n:Nat}
def Left (Pt p pa:Addr) (H H':Hp):Prop:=∀ b o,b≠p->b≠Pt->b≠pa->H b=some o->H' b=some o
structure Fit (z:Str) (kt kg:Nat):Prop where
 z:W4 z
 t1:1<=kt
 t4:kt<=4
 g4:kg<=4
end
open Tx (S cs ch p9 K7 B7 y6)
abbrev DS:=List d8×Str
abbrev DFs (ba:Addr) (z:Str) (pa:Addr):List (Str×V):=[("book",.ref ba),("sizes",.str z),("past",.ref pa)]
structure TD (K:W.Frag) (C:Addr):Prop where
 cl:Cls K C
 nB:NoAttr K C "book"
 nS:NoAttr K C "sizes"
 nP:NoAttr K C "past"
def BkL (K:W.Frag) (H:Hp) (b:Addr) (hs:List d8):Prop:=∃ xs,H b=some (.lst xs)/\Bk K H xs hs
def DPast (K:W.Frag) (H:Hp) (lo:List Addr):List V->List DS->Prop:=aN λ v L=>∃ t b,v=.ref t/\H t=some (.tup [.ref b,.str L.2])/\b∈lo/\BkL K H b L.1
structure DkAt (K:W.Frag) (C:Addr) (H:Hp) (p:Addr) (L:DS) (past:List DS) (pa:Addr) (lo:List Addr):Prop where
 no:pa ∉ lo
 ls:∀ b∈lo,∃ xs,H b=some (.lst xs)
 ex:∃ dx ba pv,H p=some (.ins C dx (DFs ba L.2 pa))/\ba∈lo/\BkL K H ba L.1/\H pa=some (.lst pv)/\DPast K H lo pv past
theorem BkL.fr0 {X:Addr->Prop} {K:W.Frag} {H H':Hp} {b:Addr} {hs:List d8} (e:Fr0 X H H') (n:¬ X b) (h:BkL K H b hs):BkL K H' b hs:=by
 obtain ⟨xs,h1,h2⟩:=h;exact ⟨xs,e.k _ _ n h1,h2.fr0 e⟩
theorem DPast.fr0 {X:Addr->Prop} {K:W.Frag} {H H':Hp} {lo lo':List Addr} {pv:List V} {past:List DS} (e:Fr0 X H H') (n:∀ b∈lo,¬ X b) (s:∀ b∈lo,b∈lo') (h:DPast K H lo pv past):DPast K H' lo' pv past :=
 Paired.imp' (λ _ _ ⟨t,b,h1,h2,h3,h4⟩=>⟨t,b,h1,e.tup h2,s _ h3,h4.fr0 e (n _ h3)⟩) h
theorem DkAt.fr0 {X:Addr->Prop} {K:W.Frag} {C:Addr} {H H':Hp} {p:Addr} {L:DS} {past:List DS} {pa:Addr} {lo:List Addr} (e:Fr0 X H H') (n:∀ b∈lo,¬ X b) (np:¬ X p) (na:¬ X pa) (h:DkAt K C H p L past pa lo):DkAt K C H' p L past pa lo:=by
 obtain ⟨dx,ba,pv,h1,h2,h3,h4,h5⟩:=h.ex;exact ⟨h.no,λ b hb=>by obtain ⟨xs,q⟩:=h.ls b hb; exact ⟨xs,e.k _ _ (n b hb) q⟩,dx,ba,pv,e.k _ _ np h1,h2,h3.fr0 e (n _ h2),e.k _ _ na h4,h5.fr0 e n λ _ h=>h⟩
theorem DkAt.same {K:W.Frag} {C:Addr} {H H':Hp} {p:Addr} {L:DS} {past:List DS} {pa:Addr} {lo:List Addr} (e:Same H H') (h:DkAt K C H p L past pa lo):DkAt K C H' p L past pa lo :=
 h.fr0 (X:=λ _=>False) ⟨λ b o _ q=>e b o q,λ _ x=>x.elim⟩ (λ _ _ x=>x) (λ x=>x) λ x=>x
def a7v (p pa:Addr) (H H':Hp):Prop:=∀ b o,b≠p->b≠pa->H b=some o->H' b=some o
section
variable {P:Program} {w:World} {K:W.Frag} {mg:Str->Option Value} {base:Heap} {f C CT CL CR:Addr} {fd:FuncData} {n:Nat}
def a6S (K:W.Frag) (C CT:Addr):Sp:=λ vs H Q E=>∃ (p dx:Addr) (z:S),vs=[.ref p,.str z]/\H p=some (.ins C dx [])/\K7 z/\z.length<=100000/\(a0G z=none->∀ H',Same H H'->E (.ref CT) none H') ∧
 ∀ hs,a0G z=some hs->∀ (H':Hp) (pa:Addr) (lo:List Addr),DkAt K C H' p (hs,"any") [] pa lo->(∀ b o,b≠p->H b=some o->H' b=some o)->H pa=none->(∀ b∈lo,H b=none)->Q .non H'
theorem b2k:i9 ["self","text"] ["self","text"] (d0 N6):=⟨rfl,rfl,rfl,by decide +kernel,rfl,by decide +kernel,by decide +kernel⟩
theorem b0v {fa:Addr} {da:FuncData} (F:Fun K "__init__" "Desk.__init__" N6 f fd) (T:TD K C) (Cb:a0K P w K mg base n "read_book" ["text"] (a7o K CT) fa da):FnOk P w K mg base (R3 P w) (n+1) f fd ["self","text"] (a6S K C CT):=by
 refine F.ok1 b2k (λ vs H Q E h=>?_) (λ cdv A outer s H vs Q E hr h=>?_)
 ·obtain ⟨p,dx,z,rfl,_⟩:=h
  rfl
 obtain ⟨p,dx,z,rfl,hp,ha,hl,q0,q1⟩:=h;refine ⟨_,d9 (R9 (pv 0) (j4 Cb.ok hr rfl Cb.m Cb.k Cb.b .nil Q7 (c6 (pv 1) c7)) rfl) (PSs.nox (d9 (R9 (pv 0) j9 rfl) (e7 (R9 (pv 0) (x4 c7) rfl)))),?_⟩;refine ⟨_,rfl,z,rfl,ha,hl,q0,λ hs er l xs H1 e1 hl0 hlx hB=>?_⟩;have hp1:=e1 _ _ hp;have npl:p≠l:=A5 hp1 hlx nofun;refine ⟨_,rfl,p,C,dx,_,rfl,hp1,T.cl,T.nB,(by show 0<1000; decide),?_⟩;refine ⟨_,rfl,p,C,dx,_,rfl,upd_same,T.cl,T.nS,(by show 1<1000; decide),?_⟩;rw [V5];refine ⟨(by show 0<=sizeLine; decide),λ pa hpa=>?_⟩;have n1:p≠pa:=c8 upd_same hpa;refine ⟨_,rfl,p,C,dx,_,rfl,by rw [c9 n1]; exact upd_same,T.cl,T.nP,(by show 2<1000; decide),?_⟩;have hpa1:H1 pa=none:=by rw [c9 n1.symm] at hpa; exact hpa
 have nla:l≠pa:=λ z0=>by rw [z0,hpa1] at hlx; cases hlx
 have hpa0:H pa=none:=e1.free hpa1;have kp:∀ b o,b≠p->b≠pa->H1 b=some o->r9 (r9 (r9 H1 p (.ins C dx (S8 "sizes" (.str "any") (S8 "book" (.ref l) [])))) pa (.lst [])) p (.ins C dx (DFs l "any" pa)) b=some o:=λ b o h1 h2 h=>by
  rw [c9 h1,c9 h2,c9 h1]; exact h
 have fr:Fr0 (λ b=>b=p\/b=pa) H1 (r9 (r9 (r9 H1 p (.ins C dx (S8 "sizes" (.str "any") (S8 "book" (.ref l) [])))) pa (.lst [])) p (.ins C dx (DFs l "any" pa))):=⟨λ b o h1 h2=>kp b o (λ z0=>h1 (.inl z0)) (λ z0=>h1 (.inr z0)) h2,λ x hx=>by
  rcases hx with rfl | rfl
  ·exact Z3 hp1
  ·intro u hu; rw [hpa1] at hu; cases hu⟩
 refine q1 hs er _ pa [l] ⟨λ h=>nla (aQ.mp h).symm,λ b hb=>?_,dx,l,[],upd_same,.head _,⟨xs,kp _ _ npl.symm nla hlx,hB.fr0 fr⟩,?_,.nil⟩ (λ b o hb h=>?_) hpa0 λ b hb=>?_
 ·rw [aQ.mp hb]
  exact ⟨xs,kp _ _ npl.symm nla hlx⟩
 ·rw [c9 n1.symm,upd_same]
 ·exact kp _ _ hb (c8 h hpa0) (e1 _ _ h)
 ·rw [aQ.mp hb]; exact hl0
theorem X5 {α:Type} {l:List α} {k:Nat} (h:l.length=k+1):∃ l' x,l=l'++[x]/\l'.length=k:=by
 rcases iN l with e | ⟨l',x,e⟩
 ·subst e; simp at h
 ·rw [iO] at e
  subst e;exact ⟨l',x,rfl,by simpa using h⟩
theorem K2 {α β:Type} {F:α->β->Prop}:∀ {l:List α} {m:List β} {x:α} {y:β},aN F (l++[x]) (m++[y])->aN F l m/\F x y
 | [],[],_,_,.cons r _=>⟨.nil,r⟩
 | a::l,b::m,_,_,.cons r t=>by
  obtain ⟨h1,h2⟩:=K2 t;exact ⟨.cons r h1,h2⟩
 | [],b::m,_,_,h=>by
  have:=Paired.length h;simp at this
 | a::l,[],_,_,h=>by
  have:=Paired.length h;simp at this
def a2e (K:W.Frag) (C CL:Addr):Sp:=λ vs H Q E=>∃ (p pa:Addr) (L:DS) (past:List DS) (lo:List Addr),vs=[.ref p]/\DkAt K C H p L past pa lo/\(past=[]->∀ H',Same H H'->E (.ref CL) none H') ∧
 ∀ past0 L0,past=past0++[L0]->∀ H',DkAt K C H' p L0 past0 pa lo->a7v p pa H H'->Q (.str "ok") H'
theorem b1U:i9 ["self"] ["self"] (d0 M1):=⟨rfl,rfl,rfl,by decide +kernel,rfl,by decide +kernel,by decide +kernel⟩
theorem a9P (F:Fun K "take_back" "Desk.take_back" M1 f fd) (T:TD K C) (kL:P0 K CL) (mL:mg "NothingLeft"=some (.ref CL)):FnOk P w K mg base (R3 P w) (n+1) f fd ["self"] (a2e K C CL):=by
 refine F.ok1 b1U (λ vs H Q E h=>?_) (λ cdv A outer s H vs Q E hr h=>?_)
 ·obtain ⟨p,pa,L,past,lo,rfl,_⟩:=h
  rfl
 obtain ⟨p,pa,L,past,lo,rfl,DK,q0,q1⟩:=h;refine ⟨_,d9 (w4 (J4 (a0I (r8 (pv 0) rfl) (λ _=>rfl))) (e7 (M9 kL rfl mL hr.hd (c6 j9 c7))) m7)
  (PSs.nox (d9 (C3 (a9S eQ kS kU a9N (r8 (pv 0) rfl)) (E4 rfl (j5 (a3K (pv 0)) (j5 (a3K (pv 0)) y4))))
  (e7 (j6 j9)))),?_⟩
 obtain ⟨dx,ba,pv0,hp,hba,hbk,hpa,hps⟩:=DK.ex;have lpv:pv0.length=past.length:=Paired.length hps;refine ⟨_,rfl,p,C,dx,_,_,rfl,hp,T.cl,T.nP,rfl,_,.inl ⟨_,SqL.of hpa,rfl⟩,?_⟩;rcases iN past with e | ⟨past0,L0,e⟩
 ·subst e
  have:pv0=[]:=gS (by simpa using lpv);subst this;refine G5 ?_;exact ⟨(by show 1<=1000; decide),q0 rfl H (Same.refl _)⟩
 ·rw [iO] at e
  subst e;obtain ⟨pv1,v,rfl,l1⟩:=X5 (l:=pv0) (k:=past0.length) (by rw [lpv]; simp);obtain ⟨hps1,t,b0,rfl,ht,hb0,hk0⟩:=K2 hps;have ne0:(!(pv1++[V.ref t]).isEmpty)=true:=by simp
  rw [ne0];refine D6 ?_;have gl:(pv1++[V.ref t])[(pv1++[V.ref t]).length - 1]?=some (V.ref t):=by simp
  refine ⟨_,rfl,p,C,dx,_,_,rfl,hp,T.cl,T.nP,rfl,.inl ⟨rfl,_,SqL.of hpa⟩,pa,_,_,rfl,rfl,hpa,gl,?_⟩;have npp:p≠pa:=A5 hp hpa nofun;have nta:t≠pa:=A5 ht hpa nofun;refine ⟨t,_,rfl,SqT.of (by rw [c9 nta]; exact ht),rfl,_,_,rfl,⟨_,rfl,p,C,dx,_,rfl,by rw [c9 npp]; exact hp,T.cl,T.nB,(by show 3<1000; decide),_,_,rfl,⟨_,rfl,p,C,dx,_,rfl,upd_same,T.cl,T.nS,(by show 3<1000; decide),rfl,?_⟩⟩⟩;rw [V5];have ed:(pv1++[V.ref t]).dropLast=pv1:=by simp
  rw [ed];have fr:Fr0 (λ b=>b=p\/b=pa) H (r9 (r9 H pa (.lst pv1)) p (.ins C dx (DFs b0 L0.2 pa))):=⟨λ b o h1 h2=>by
   rw [c9 (λ z0=>h1 (.inl z0)),c9 (λ z0=>h1 (.inr z0))]; exact h2,λ x hx=>by
   rcases hx with rfl | rfl
   ·exact Z3 hp
   ·exact T6 hpa⟩
  have nlo:∀ b∈lo,¬ (b=p\/b=pa):=λ b hb z0=>by
   obtain ⟨xs,hx⟩:=DK.ls b hb;rcases z0 with rfl | rfl
   ·rw [hp] at hx; cases hx
   ·exact DK.no hb
  refine q1 past0 L0 rfl _ ⟨DK.no,λ b hb=>?_,dx,b0,pv1,upd_same,hb0,hk0.fr0 fr (nlo _ hb0),by rw [c9 npp.symm,upd_same],DPast.fr0 fr nlo (λ _ h=>h) hps1⟩ λ b o h1 h2 h=>?_
  ·obtain ⟨xs,hx⟩:=DK.ls b hb
   exact ⟨xs,fr.k _ _ (nlo b hb) hx⟩
  ·exact fr.k _ _ (λ z0=>z0.elim h1 h2) h
end
end Rim
namespace Rim
open PySem L2 Fr
open Tx (S cs ch p9 K7 B7 y6)
structure a8Z (P:Program) (w:World) (K:W.Frag) (mg:Str->Option Value) (base:Heap) (CX:CXT) (n:Nat) (C:Addr) (m:Str) (ps:List Str) (sp:Sp) (f:Addr) (fd:FuncData):Prop where
 ok:FnOk P w K mg base CX n f fd ps sp
 bd:Binds K fd ps []
 me:a7H K C m f
section
variable {P:Program} {w:World} {K:W.Frag} {mg:Str->Option Value} {base:Heap} {f C CL CR dA dD:Addr} {fd:FuncData} {n:Nat} {kA kD:List (Str×Addr)}
def Fn1 (P:Program) (w:World) (K:W.Frag) (mg:Str->Option Value) (base:Heap) (n:Nat) (g:Addr) (sp:Sp):Prop:=∃ gd,FnOk P w K mg base (R3 P w) n g gd ["book","sizes","things"] sp/\Binds K gd ["book","sizes","things"] []/\W.keepIn K (.ref g)=true
def a9C (K:W.Frag) (C CL CR:Addr) (kA kD:List (Str×Addr)) (FA:Addr->Sp->Prop):Sp:=λ vs H Q E=>∃ (p pa:Addr) (z:S) (L:DS) (past:List DS) (lo:List Addr),vs=[.ref p,.str z]/\DkAt K C H p L past pa lo/\past.length<=1000/\K7 z/\z.length<=100000 ∧
 (C5 z=none->∀ H',Same H H'->E (.ref CR) none H') ∧
 ∀ wd ts,C5 z=some (wd,ts)->∀ l us ba H1,Same H H1->H1 l=some (.lst us)->aN (ThV K H1) us ts->ba∈lo->BkL K H1 ba L.1 →
  (∀ g,kA.lookup wd=some g->∃ sp,FA g sp/\sp [.ref ba,.str L.2,.ref l] H1 Q E) ∧
  (kA.lookup wd=none->∀ g,kD.lookup wd=some g->∃ sp,FA g sp/\∀ Q':VK,(∀ v H2,(∃ t an b' z' hs',v=.ref t/\H2 t=some (.tup [.str an,.ref b',.str z'])/\Same H1 H2/\BkL K H2 b' hs'/\b'≠pa/\∀ H' lo',DkAt K C H' p (hs',z') (past++[L]) pa lo'->(∀ b∈lo',b=b'\/b∈lo)->a7v p pa H2 H'->Q (.str an) H')->Q' v H2)->sp [.ref ba,.str L.2,.ref l] H1 Q' E) ∧
  (kA.lookup wd=none->kD.lookup wd=none->a2e K C CL [.ref p] H1 Q E)
theorem scSay:i9 ["self","row","word","things","ask","deed","answer","book","sizes"] ["self","row"] (d0 M5):=⟨rfl,rfl,rfl,by decide +kernel,rfl,by decide +kernel,by decide +kernel⟩
noncomputable def b6T {cdv:Value} {A:Around} {outer:List Env} {s:Shared} {H:Hp} {E:XK} {f1 f2:Addr} {d1 d2:FuncData} {FA:Addr->Sp->Prop} (T:TD K C) (TA:KTab K w.params mg "ASKS" dA kA) (TDd:KTab K w.params mg "DEEDS" dD kD) (Cr:a0K P w K mg base n "read_row" ["row"] (a4q K CR) f1 d1) (Ct:a8Z P w K mg base (R3 P w) n C "take_back" ["self"] (a2e K C CL) f2 d2) (hFA:∀ g sp,FA g sp->Fn1 P w K mg base n g sp)
  (hr:Room n (A.deeper (bY "Desk.say" (d0 M5) s.heap.objs.size f cdv))) :
  { t:TS // PSs (M3 (R3 P w) P w K mg base ["self","row","word","things","ask","deed","answer","book","sizes"] "Desk.say" (d0 M5) f cdv A outer s H E) (t9 M5) t } :=
 ⟨_,d9 (C3 (j4 Cr.ok hr rfl Cr.m Cr.k Cr.b .nil Q7 (c6 (pv 1) c7)) (E4 rfl (j5 (j0 (i:=2) scSay.nd rfl (aC rfl)) (j5 (j0 (i:=3) scSay.nd rfl (aC rfl)) y4))))
  (d9 (w4 (j8 (a9D K w.params rfl rfl) (pv 2) (x5 (v:=.ref dA) rfl TA.m rfl) rfl)
   (d9 (p7 (i:=4) scSay.nd rfl (aC rfl) (p6 (a1p K w.params rfl rfl) (x5 (v:=.ref dA) rfl TA.m rfl) (pv 2) (λ _ _=>rfl)))
   (e7 (j6 (a5e (F:=FA) (E:=E) (λ g sp h=>let ⟨gd,h1,h2,h3⟩:=hFA g sp h; ⟨R3 P w,n,gd,_,h1,hr,h3,h2,Q7⟩) (pv 4) (c6 (r8 (pv 0) rfl) (c6 (r8 (pv 0) rfl) (c6 (pv 3) c7))))))) m7)
  (d9 (w4 (j8 (a9D K w.params rfl rfl) (pv 2) (x5 (v:=.ref dD) rfl TDd.m rfl) rfl)
   (d9 (p7 (i:=5) scSay.nd rfl (aC rfl) (p6 (a1p K w.params rfl rfl) (x5 (v:=.ref dD) rfl TDd.m rfl) (pv 2) (λ _ _=>rfl)))
   (d9 (C3 (a5e (F:=FA) (E:=E) (λ g sp h=>let ⟨gd,h1,h2,h3⟩:=hFA g sp h; ⟨R3 P w,n,gd,_,h1,hr,h3,h2,Q7⟩) (pv 5) (c6 (r8 (pv 0) rfl) (c6 (r8 (pv 0) rfl) (c6 (pv 3) c7)))) (E4 rfl (j5 (j0 (i:=6) scSay.nd rfl (aC rfl)) (j5 (j0 (i:=7) scSay.nd rfl (aC rfl)) (j5 (j0 (i:=8) scSay.nd rfl (aC rfl)) y4)))))
   (PSs.nox (d9 (J5 (T8 eQ fQ fR O4 (r8 (pv 0) rfl) (c6 (v9 (c6 (r8 (pv 0) rfl) (c6 (r8 (pv 0) rfl) c7))) c7)))
   (d9 (C3 (v9 (c6 (pv 7) (c6 (pv 8) c7))) (E4 rfl (j5 (a3K (pv 0)) (j5 (a3K (pv 0)) y4))))
   (e7 (j6 (pv 6)))))))) m7)
  (e7 (j6 (Y3 (pv 0) T.cl Ct.me Ct.ok hr Ct.bd .nil Q7)))))⟩
theorem b4w {f1 f2:Addr} {d1 d2:FuncData} {FA:Addr->Sp->Prop} (F:Fun K "say" "Desk.say" M5 f fd) (T:TD K C) (TA:KTab K w.params mg "ASKS" dA kA) (TDd:KTab K w.params mg "DEEDS" dD kD) (Cr:a0K P w K mg base n "read_row" ["row"] (a4q K CR) f1 d1) (Ct:a8Z P w K mg base (R3 P w) n C "take_back" ["self"] (a2e K C CL) f2 d2) (hFA:∀ g sp,FA g sp->Fn1 P w K mg base n g sp) :
  FnOk P w K mg base (R3 P w) (n+1) f fd ["self","row"] (a9C K C CL CR kA kD FA):=by
 refine F.ok1 scSay (λ vs H Q E h=>?_) (λ cdv A outer s H vs Q E hr h=>?_)
 ·obtain ⟨p,pa,z,L,past,lo,rfl,_⟩:=h
  rfl
 obtain ⟨p,pa,z,L,past,lo,rfl,DK,hpl,ha,hl,q0,q1⟩:=h;refine ⟨_,(b6T T TA TDd Cr Ct hFA hr).2,?_⟩;refine ⟨_,rfl,z,rfl,ha,hl,q0,λ wd ts er t l us H1 e1 ht hlu hth=>?_⟩;have DK1:=DK.same e1;obtain ⟨dx,ba,pv0,hp,hba,hbk,hpa,hps⟩:=DK1.ex;obtain ⟨qa,qd,qb⟩:=q1 wd ts er l us ba H1 e1 hlu hth hba hbk;refine ⟨t,_,rfl,SqT.of ht,rfl,_,_,rfl,_,_,rfl,rfl,?_⟩;refine ⟨_,rfl,dA,wd,_,rfl,rfl,TA.k,TA.ns wd,TA.sys,_,rfl,?_⟩
 cases hA:kA.lookup wd with
 | some g =>
  obtain ⟨sp,hg,hsp⟩:=qa g hA;refine G5 ?_;refine ⟨_,rfl,dA,wd,g,rfl,rfl,TA.k,by rw [TA.ns wd,hA]; rfl,?_⟩;exact ⟨_,rfl,g,sp,rfl,hg,_,rfl,p,C,dx,_,_,rfl,hp,T.cl,T.nB,rfl,_,rfl,p,C,dx,_,_,rfl,hp,T.cl,T.nS,rfl,_,rfl,hsp⟩
 | none =>
  refine D6 ?_;refine ⟨_,rfl,dD,wd,_,rfl,rfl,TDd.k,TDd.ns wd,TDd.sys,_,rfl,?_⟩
  cases hD:kD.lookup wd with
  | none =>
   refine D6 ?_;exact ⟨_,rfl,p,dx,_,rfl,hp,rfl,qb hA hD⟩
  | some g =>
   obtain ⟨sp,hg,hsp⟩:=qd hA g hD;refine G5 ?_;refine ⟨_,rfl,dD,wd,g,rfl,rfl,TDd.k,by rw [TDd.ns wd,hD]; rfl,?_⟩;refine ⟨_,rfl,g,sp,rfl,hg,_,rfl,p,C,dx,_,_,rfl,hp,T.cl,T.nB,rfl,_,rfl,p,C,dx,_,_,rfl,hp,T.cl,T.nS,rfl,_,rfl,?_⟩;refine hsp _ ?_;rintro v H2 ⟨t2,an,b',z',hs',rfl,ht2,e2,hbk',nb,qq⟩;have hp2:=e2 _ _ hp;have hpa2:=e2 _ _ hpa;have npp:p≠pa:=A5 hp2 hpa2 nofun;have pl:pv0.length=past.length:=Paired.length hps;refine ⟨t2,_,rfl,SqT.of ht2,rfl,_,_,rfl,_,_,rfl,_,_,rfl,rfl,?_⟩;refine ⟨_,rfl,p,C,dx,_,_,rfl,hp2,T.cl,T.nP,rfl,.inl ⟨rfl,_,SqL.of hpa2⟩,_,rfl,p,C,dx,_,_,rfl,hp2,T.cl,T.nB,rfl,_,rfl,p,C,dx,_,_,rfl,hp2,T.cl,T.nS,rfl,(by show 2<=sizeLine; decide),λ tt htt=>?_⟩;have s3:=Same.new htt (.tup [V.ref ba,V.str L.2]);have hpa3:=s3 _ _ hpa2;have hp3:=s3 _ _ hp2;refine ⟨pa,pv0,_,rfl,rfl,hpa3,by rw [sizeLine_eq]; omega,?_⟩;have htt3:(r9 H2 tt (.tup [V.ref ba,V.str L.2])) tt=some (.tup [V.ref ba,V.str L.2]):=upd_same;generalize r9 H2 tt (.tup [V.ref ba,V.str L.2])=H3 at *;have ntp:tt≠pa:=A5 htt3 hpa3 nofun;have nttp:tt≠p:=A5 htt3 hp3 nofun;refine ⟨_,rfl,_,rfl,(by show 2<=sizeLine; decide),λ t5 ht5=>?_⟩;have hp4:(r9 H3 pa (.lst (pv0++[V.ref tt]))) p=some (.ins C dx (DFs ba L.2 pa)):=by rw [c9 npp]; exact hp3
   have n5:p≠t5:=c8 hp4 ht5;have n5a:pa≠t5:=c8 upd_same ht5;refine ⟨t5,_,rfl,SqT.of upd_same,rfl,_,_,rfl,⟨_,rfl,p,C,dx,_,rfl,by rw [c9 n5]; exact hp4,T.cl,T.nB,(by show 3<1000; decide),_,_,rfl,⟨_,rfl,p,C,dx,_,rfl,upd_same,T.cl,T.nS,(by show 3<1000; decide),rfl,?_⟩⟩⟩;rw [V5];have h5:H3 t5=none:=by rw [c9 n5a.symm] at ht5; exact ht5
   have fr:Fr0 (λ b=>b=p\/b=pa) H3 (r9 (r9 (r9 H3 pa (.lst (pv0++[V.ref tt]))) t5 (.tup [V.ref b',V.str z'])) p (.ins C dx (DFs b' z' pa))):=⟨λ b o h1 h2=>by
    rw [c9 (λ z0=>h1 (.inl z0)),c9 (c8 h2 h5),c9 (λ z0=>h1 (.inr z0))]; exact h2,λ x hx=>by
    rcases hx with rfl | rfl
    ·exact Z3 hp3
    ·exact T6 hpa3⟩
   have e13:=e2.trans s3;have DK3:=DK1.same e13;have nlo:∀ b∈lo,¬ (b=p\/b=pa):=λ b hb z0=>by
    obtain ⟨xs,hx⟩:=DK3.ls b hb;rcases z0 with rfl | rfl
    ·rw [hp3] at hx; cases hx
    ·exact DK3.no hb
   obtain ⟨xs',hx',hB'⟩:=hbk';have hx3:=s3 _ _ hx';have nb':¬ (b'=p\/b'=pa):=λ z0=>by
    rcases z0 with rfl | z0
    ·rw [hp3] at hx3; cases hx3
    ·exact nb z0
   have hps3:DPast K H3 lo pv0 past:=Paired.imp' (λ _ _ ⟨t,b,h1,h2,h3,h4⟩=>⟨t,b,h1,e13 _ _ h2,h3,h4.fr0 (X:=λ _=>False) ⟨λ b o _ q=>e13 b o q,λ _ x=>x.elim⟩ λ x=>x⟩) hps;have hbk3:BkL K H3 ba L.1:=hbk.fr0 (X:=λ _=>False) ⟨λ b o _ q=>e13 b o q,λ _ x=>x.elim⟩ λ x=>x;refine ⟨_,rfl,qq _ (b'::lo) ⟨λ h=>?_,λ b hb=>?_,dx,b',pv0++[V.ref tt],upd_same,.head _,⟨xs',fr.k _ _ nb' hx3,(Bk.same s3 hB').fr0 fr⟩,by rw [c9 npp.symm,c9 n5a,upd_same],?_⟩ (λ b hb=>aO.mp hb) λ b o h1 h2 h=>fr.k _ _ (λ z0=>z0.elim h1 h2) (s3 _ _ h)⟩
   ·rcases aO.mp h with h | h
    ·exact nb h.symm
    ·exact DK3.no h
   ·rcases aO.mp hb with rfl | hb
    ·exact ⟨xs',fr.k _ _ nb' hx3⟩
    ·obtain ⟨xs,hx⟩:=DK3.ls b hb
     exact ⟨xs,fr.k _ _ (nlo b hb) hx⟩
   ·refine Paired.app (DPast.fr0 fr nlo (λ _ h=>aU _ h) hps3) (.cons ⟨tt,ba,rfl,fr.tup htt3,aU _ hba,hbk3.fr0 fr (nlo _ hba)⟩ .nil)
end
end Rim
namespace Rim
open PySem L2 Fr
structure GrU (z:Str) (hs:List d8) (h:d8) (kt kg:Nat) (A B:Int):Prop where
 s:b3E z hs h kt kg A B
 a:Big 20000 A
 p:0<A
 b:0<B
 c:B<2 ^ 8000
section
variable {P:Program} {w:World} {K:W.Frag} {mg:Str->Option Value} {base:Heap} {f Pt d CN CB:Addr} {fd:FuncData} {n:Nat} {C:Addr}
end
structure b7S (z:Str) (hs:List d8) (h:d8) (kt kg:Nat) (ws:List Int) (v:Int):Prop where
 m:Mx z hs ws v
 t:∀ j,j<kt->L6 hs ws 0 j<=h.1.getD j 0*v
 g:∀ j,j<kg->h.2.getD j 0*v<=L6 hs ws 1 j
 s:h.2.sum*v - h.1.sum*v<w6 (hs.map λ g=>g.2.sum - g.1.sum) ws
section
variable {z:Str} {hs:List d8} {h:d8} {kt kg i:Nat} {S:Lp.Bo} {far:Int}
end
section
variable {z:Str} {hs:List d8} {h:d8} {kt kg i:Nat} {far:Int}
end
section
variable {z:Str} {hs R:List d8} {h:d8} {kt kg:Nat} {far A B:Int}
end
section
variable {z:Str} {O hs:List d8} {h:d8} {kt kg:Nat} {far A B k:Int}
end
structure FrB (n:Nat) (x:Q2):Prop where
 p1:0<x.1
 b1:x.1<2 ^ n
 p2:0<x.2
 b2:x.2<2 ^ n
theorem a6y {A B:Int} (hA:0<A) (hB:0<B):0<(low A B).1/\(low A B).1<=A:=by
 obtain ⟨h1,_⟩:=a0b (t:=A) hB;have hg:=a4h (a:=A) hB;have p:0<(low A B).1:=by
  rcases Int.lt_or_le 0 (low A B).1 with q | q
  ·exact q
  ·have:=fC q (aX hg)
   omega
 refine ⟨p,?_⟩;have:=dO (show (1:Int)<=gI A B by omega) (aX p);omega
theorem FrB.low {n:Nat} {A B:Int} (hA:0<A) (hB:0<B) (h1:A<2 ^ n) (h2:B<2 ^ n):FrB n (low A B) :=
 ⟨(a6y hA hB).1,gR (a6y hA hB).2 h1,a6T hB,gR (b4n hB) h2⟩
section
variable {P:Program} {w:World} {K:W.Frag} {mg:Str->Option Value} {base:Heap} {f Pt CN:Addr} {fd:FuncData} {n:Nat}
structure ShB (z:Str) (hs:List d8) (h:d8) (kt kg:Nat) (x:Q2):Prop where
 s:∃ A B,IsShare z hs h kt kg A B/\0<A/\x=low A B
 b:FrB 1200 x
theorem ShB.eq {z:Str} {hs:List d8} {h:d8} {kt kg:Nat} {far:Int} {x y:Q2} (hz:W4 z) (a:ShB z hs h kt kg x) (b:ShB z hs h kt kg y) (hG:∀ g∈hs,HG far kt kg g) (gh:HG far kt kg h):x=y:=by
 obtain ⟨A,B,I,_,rfl⟩:=a.s;obtain ⟨A',B',J,_,rfl⟩:=b.s;exact b3D I.1 J.1 (I.eq hz J (λ g hg=>⟨(hG g hg).lt,(hG g hg).lg⟩) gh.lt gh.lg)
theorem b4Q:∀ k,k<18->Lp.bnd (2 ^ 60) (k+1)<2 ^ 1200:=by decide +kernel
theorem Best.b {z:Str} {hs:List d8} {h:d8} {kt kg:Nat} {S:Lp.Bo} {far:Int} (hz:W4 z) (B:Best z hs h S) (hG:∀ g∈hs,HG far kt kg g) (gh:HG far kt kg h) (hf:far<=2 ^ 60) (few:hs.length<=16) (kt1:1<=kt) (kt4:kt<=20) (kg4:kg<=20):ShB z hs h kt kg (low (S.T (mE hs) (qE z h)) S.d):=by
 have U:=B.u hz hG gh kt1 kt4 kg4;have hM:=b3d (z:=z) gh hG hf (qE z h);have hb:=b4Q (hs.length+1) (by omega);have hd:=U.b;have hp:=U.p;have i1:(S.T (mE hs) (qE z h)).natAbs<2 ^ 1200:=dY (B.1.w.bndT hM (aF _) (aF _)) hb;have i2:S.d.natAbs<2 ^ 1200:=dY (B.1.w.bndd hM) hb;have cast:∀ x:Int,0<x->x.natAbs<2 ^ 1200->x<2 ^ 1200:=λ x h0 h=>by
  have e:x=(x.natAbs:Int):=by omega
  rw [e]; exact_mod_cast h
 exact ⟨⟨_,_,U.s,hp,rfl⟩,FrB.low hp hd (cast _ hp i1) (cast _ hd i2)⟩
end
open Tx (S cs ch p9 K7 B7 y6)
theorem b3j {far:Int} {kt kg:Nat} {h:d8} (g:HG far kt kg h) (hf:far<=10 ^ 9) (h1:kt<=4) (h2:kg<=4):Sm h.1/\Sm h.2 :=
 ⟨⟨by rw [g.lt]; omega,λ x hx=>by have:=g.t x hx; omega⟩,⟨by rw [g.lg]; omega,λ x hx=>by have:=g.g x hx; omega⟩⟩
theorem FrB.logs {n:Nat} {x:Q2} (h:FrB n x) (hn:n<=1900):x.1.natAbs.log2<1920/\x.2.natAbs.log2<1920:=by
 have gen:∀ {a:Int},0<a->a<2 ^ n->a.natAbs.log2<1920:=λ {a} h0 h1=>by
  have h2:a.natAbs<2 ^ n:=by
   have:((a.natAbs:Nat):Int)<((2 ^ n:Nat):Int):=by
    rw [Int.natAbs_of_nonneg (aX h0)]
    exact_mod_cast h1
   exact_mod_cast this
  have:=(fM (by omega)).mpr h2;omega
 exact ⟨gen h.p1 h.b1,gen h.p2 h.b2⟩
section
variable {P:Program} {w:World} {K:W.Frag} {mg:Str->Option Value} {base:Heap} {f CN CB CT Pt:Addr} {fd:FuncData} {n:Nat}
def b0J (K:W.Frag) (CN Pt:Addr):Sp:=λ vs H Q E=>∃ (ba:Addr) (xs:List V) (hs:List d8) (number:Int) (z:Str) (far:Int) (kt kg:Nat),vs=[.ref ba,.int number,.str z]/\W4 z/\a3Z K H ba xs hs far kt kg/\1<=kt/\number.natAbs.log2<1920/\LT Pt H ∧
 (∀ (i:Nat) (h:d8) (x:Q2) (H':Hp) (u:V),number=(i:Int)->hs[i]?=some h->ShB z hs h kt kg x->C9 Pt H H'->LT Pt H'->FrT H' u x->Q u H')/\(¬ Y8 xs.length number->E (.ref CN) none H)
theorem a3m (F:FnOk P w K mg base (R3 P w) n f fd ["book","number","sizes"] (a0U K CN Pt)):FnOk P w K mg base (R3 P w) n f fd ["book","number","sizes"] (b0J K CN Pt):=F.imp λ vs H Q E h=>by
 obtain ⟨ba,xs,hs,number,z,far,kt,kg,rfl,hz,B,kt1,lm,L,kG,kE⟩:=h;exact ⟨ba,xs,hs,number,z,far,kt,kg,rfl,hz,B,lm,L,λ i h S H' u hi hh BS e L' hu=>kG i h _ H' u hi hh (BS.b hz B.g (B.g h (bE hh)) B.far B.few kt1 B.t B.k) e L' hu,kE⟩
abbrev a0C:List Str:=["book","sizes","things"]
def a2N (K:W.Frag) (CN Pt:Addr):Sp:=λ vs H Q E=>∃ (ba l:Addr) (xs us:List V) (hs:List d8) (num:Int) (z:Str) (kt kg:Nat),vs=[.ref ba,.str z,.ref l]/\W4 z/\a3Z K H ba xs hs (10 ^ 9) kt kg/\1<=kt/\H l=some (.lst us)/\us[0]?=some (.int num)/\num.natAbs.log2<1920/\LT Pt H ∧
 (∀ (i:Nat) (h:d8) (x:Q2) (H':Hp),num=(i:Int)->hs[i]?=some h->ShB z hs h kt kg x->C9 Pt H H'->LT Pt H'->Q (.str (a1a x)) H')/\(¬ Y8 xs.length num->E (.ref CN) none H)
theorem a9Z:i9 a0C a0C (d0 V6):=⟨rfl,rfl,rfl,by decide +kernel,rfl,by decide +kernel,by decide +kernel⟩
theorem a8A {f1 f2:Addr} {d1 d2:FuncData} (F:Fun K "tell_share" "tell_share" V6 f fd) (Cs:a0K P w K mg base n "share" ["book","number","sizes"] (a0U K CN Pt) f1 d1) (Cf:J3 P w K mg base n "fraction_text" ["one"] (a1T K) f2 d2):FnOk P w K mg base (R3 P w) (n+1) f fd a0C (a2N K CN Pt):=by
 refine F.ok1 a9Z (λ vs H Q E h=>?_) (λ cdv A outer s H vs Q E hr h=>?_)
 ·obtain ⟨ba,l,xs,us,hs,num,z,kt,kg,rfl,_⟩:=h
  rfl
 obtain ⟨ba,l,xs,us,hs,num,z,kt,kg,rfl,hz,B,kt1,hl,h0,lm,L,q,hE⟩:=h;refine ⟨_,e7 (j6 (j4 Cf.ok hr rfl Cf.m Cf.k Cf.b .nil r6 (c6 (j4 (a3m Cs.ok) hr rfl Cs.m Cs.k Cs.b .nil Q7 (c6 (pv 0) (c6 (p6 m6 (pv 2) e8 (λ _ _=>rfl)) (c6 (pv 1) c7)))) c7))),?_⟩;refine ⟨_,rfl,_,rfl,l,_,_,_,rfl,rfl,SqL.of hl,y8 (j:=0) h0,_,rfl,ba,xs,hs,num,z,10 ^ 9,kt,kg,rfl,hz,B,kt1,lm,L,λ i h x H1 u hi hh X e1 L1 hu=>?_,hE⟩;obtain ⟨a1,a2⟩:=X.b.logs (by decide);exact ⟨u,x,rfl,hu.v,a1,a2,q i h x H1 hi hh X e1 L1⟩
def a3U (K:W.Frag):Sp:=λ vs H Q _=>∃ (ba:Addr) (v1 v2:V) (xs:List V) (hs:List d8),vs=[.ref ba,v1,v2]/\SqL K H ba xs/\Bk K H xs hs/\hs.length<=100/\(∀ h∈hs,Sm h.1/\Sm h.2)/\∀ H',Same H H'->Q (.str (V9 hs)) H'
theorem b1F:i9 a0C a0C (d0 X7):=⟨rfl,rfl,rfl,by decide +kernel,rfl,by decide +kernel,by decide +kernel⟩
theorem a8P {f1:Addr} {d1:FuncData} (F:Fun K "tell_book" "tell_book" X7 f fd) (Cb:J3 P w K mg base n "book_text" ["book"] (a7m K) f1 d1):FnOk P w K mg base (R3 P w) (n+1) f fd a0C (a3U K):=by
 refine F.ok1 b1F (λ vs H Q E h=>?_) (λ cdv A outer s H vs Q E hr h=>?_)
 ·obtain ⟨ba,v1,v2,xs,hs,rfl,_⟩:=h
  rfl
 obtain ⟨ba,v1,v2,xs,hs,rfl,hS,hB,hl,hm,q⟩:=h;refine ⟨_,e7 (j6 (j4 Cb.ok hr rfl Cb.m Cb.k Cb.b .nil r6 (c6 (pv 0) c7))),?_⟩;exact ⟨_,rfl,ba,xs,hs,rfl,hS,hB,hl,hm,λ H' e=>q H' e⟩
end
end Rim
namespace Rim
open PySem L2 Fr
open Tx (S cs ch p9 K7 B7 y6)
section
variable {P:Program} {w:World} {K:W.Frag} {mg:Str->Option Value} {base:Heap} {f CN CB CT Pt:Addr} {fd:FuncData} {n:Nat}
abbrev b3c:List Str:=["book","sizes","things","takes","gives"]
theorem K3 {k:Nat} (h:k<=1000):(k:Int).natAbs.log2<1920:=b1y (by omega)
def b0R (K:W.Frag) (CB CT:Addr):Sp:=λ vs H Q E=>∃ (ba l:Addr) (xs us:List V) (hs:List d8) (z:Str) (v:V) (h:d8) (kt kg:Nat),vs=[.ref ba,.str z,.ref l]/\H ba=some (.lst xs)/\Bk K H xs hs/\1<=hs.length/\hs.length<=16/\(∀ g∈hs,g.1.length=kt/\g.2.length=kg)/\kt<=4/\kg<=4/\H l=some (.lst us)/\us[0]?=some v/\HS K H v h/\S5 h ∧
 (GoodK h kt kg->hs.length<16->∀ (t r:Addr) (H':Hp),Same H H'->H r=none->H' t=some (.tup [.str (p9 (hs.length:Int)),.ref r,.str z])->H' r=some (.lst (xs++[v]))->Q (.ref t) H')/\(¬ GoodK h kt kg->∀ H',Same H H'->E (.ref CB) none H')/\(GoodK h kt kg->16<=hs.length->∀ H',Same H H'->E (.ref CT) none H')
theorem scPut:i9 b3c a0C (d0 W8):=⟨rfl,rfl,rfl,by decide +kernel,rfl,by decide +kernel,by decide +kernel⟩
theorem b3N {f1:Addr} {d1:FuncData} (F:Fun K "put_house" "put_house" W8 f fd) (T:v7 mg) (zs:mg "str"=none) (Cm:a0K P w K mg base n "with_one_more" ["houses","house","many_takes","many_gives"] (a3t K CB CT) f1 d1):FnOk P w K mg base (R3 P w) (n+1) f fd a0C (b0R K CB CT):=by
 refine F.ok1 scPut (λ vs H Q E h=>?_) (λ cdv A outer s H vs Q E hr h=>?_)
 ·obtain ⟨ba,l,xs,us,hs,z,v,h,kt,kg,rfl,_⟩:=h
  rfl
 obtain ⟨ba,l,xs,us,hs,z,v,h,kt,kg,rfl,hba,hB,h1,h16,hk,k4,g4,hl,h0,hv,hs',q,qB,qT⟩:=h;refine ⟨_,d9 (C3 (p6 m6 (pv 0) e8 (λ _ _=>rfl)) (E4 rfl (j5 (j0 (i:=3) scPut.nd rfl (aC rfl)) (j5 (j0 (i:=4) scPut.nd rfl (aC rfl)) y4))))
  (e7 (j6 (v9 (c6 (p8 x9 rfl zs dC (c6 (i8 i7 rfl T.len aR (c6 (pv 0) c7)) c7)) (c6 (j4 Cm.ok hr rfl Cm.m Cm.k Cm.b .nil Q7 (c6 (pv 0) (c6 (p6 m6 (pv 2) e8 (λ _ _=>rfl)) (c6 (i8 i7 rfl T.len aR (c6 (pv 3) c7)) (c6 (i8 i7 rfl T.len aR (c6 (pv 4) c7)) c7))))) (c6 (pv 1) c7)))))),?_⟩
 have xl:xs.length=hs.length:=Paired.length hB;obtain ⟨g0,hg0⟩:∃ g,hs[0]?=some g:=⟨_,aG (by omega)⟩;obtain ⟨x0,hx0⟩:∃ x,xs[0]?=some x:=⟨_,aG (by omega)⟩;obtain ⟨g0',hg0',⟨b,tb,gb,rfl,p1,p2,p3⟩⟩:=Paired.at hB hx0;rw [hg0] at hg0'; cases hg0';obtain ⟨e1,e2⟩:=hk g0 (bE hg0);have l1:((g0.1.map V.int).length:Int)=(kt:Int):=by rw [aA,e1]
 have l2:((g0.2.map V.int).length:Int)=(kg:Int):=by rw [aA,e2]
 refine ⟨_,rfl,ba,_,_,_,rfl,rfl,SqL.of hba,y8 hx0,b,_,rfl,p1,rfl,_,_,rfl,_,_,rfl,rfl,?_⟩;refine ⟨_,rfl,ba,_,rfl,.inl (SqL.of hba),_,rfl,K3 (by omega),?_⟩;refine ⟨_,rfl,_,rfl,l,_,_,_,rfl,rfl,SqL.of hl,y8 (j:=0) h0,_,rfl,tb,_,rfl,.inr p2,_,rfl,gb,_,rfl,.inr p3,?_⟩;rw [l1,l2];refine ⟨ba,v,xs,h,(kt:Int),(kg:Int),rfl,hba,by omega,hv,hs',K3 (by omega),K3 (by omega),λ g lt r H1 e hr0 hr1=>?_,qB,λ g ge H' e=>qT g (by omega) H' e⟩;refine ⟨_,rfl,(by show 3<=sizeLine; decide),λ t ht=>?_⟩;have t1:=Same.new ht (.tup [V.str (p9 (xs.length:Int)),V.ref r,V.str z]);refine q g (by omega) t r _ (e.trans t1) hr0 ?_ (t1 _ _ hr1);rw [<- xl]; exact upd_same
def a5I (K:W.Frag) (CN CB:Addr):Sp:=λ vs H Q E=>∃ (ba l:Addr) (xs us:List V) (z:Str) (num:Int),vs=[.ref ba,.str z,.ref l]/\H ba=some (.lst xs)/\xs.length<=1000/\H l=some (.lst us)/\us[0]?=some (.int num)/\num.natAbs.log2<1920 ∧
 (∀ i:Nat,num=(i:Int)->i<xs.length->2<=xs.length->∀ (t r:Addr) (H':Hp),Same H H'->H r=none->H' t=some (.tup [.str "ok",.ref r,.str z])->H' r=some (.lst (a0i xs i))->Q (.ref t) H')/\(¬ Y8 xs.length num->∀ H',Same H H'->E (.ref CN) none H')/\(Y8 xs.length num->xs.length=1->∀ H',Same H H'->E (.ref CB) none H')
theorem scDrop:i9 ["book","sizes","things","left"] a0C (d0 V4):=⟨rfl,rfl,rfl,by decide +kernel,rfl,by decide +kernel,by decide +kernel⟩
theorem Y7 {α:Type} {l:List α} {i:Nat} (h:i<l.length):(a0i l i).length=l.length - 1:=by
 unfold a0i;rw [aI,cI,dL];omega
theorem b1Q {f1:Addr} {d1:FuncData} (F:Fun K "drop_house" "drop_house" V4 f fd) (kB:P0 K CB) (mB:mg "NoBook"=some (.ref CB)) (Cw:a0K P w K mg base n "without" ["houses","number"] (a3o K CN) f1 d1):FnOk P w K mg base (R3 P w) (n+1) f fd a0C (a5I K CN CB):=by
 refine F.ok1 scDrop (λ vs H Q E h=>?_) (λ cdv A outer s H vs Q E hr h=>?_)
 ·obtain ⟨ba,l,xs,us,z,num,rfl,_⟩:=h
  rfl
 obtain ⟨ba,l,xs,us,z,num,rfl,hba,hx,hl,h0,lm,q,qN,qB⟩:=h;refine ⟨_,d9 (p7 (i:=3) scDrop.nd rfl (aC rfl) (j4 Cw.ok hr rfl Cw.m Cw.k Cw.b .nil Q7 (c6 (pv 0) (c6 (p6 m6 (pv 2) e8 (λ _ _=>rfl)) c7))))
  (d9 (w4 (J4 (a0I (pv 3) (λ _=>rfl))) (e7 (M9 kB rfl mB hr.hd (c6 j9 c7))) m7)
  (e7 (j6 (v9 (c6 j9 (c6 (pv 3) (c6 (pv 1) c7))))))),?_⟩
 refine ⟨_,rfl,_,rfl,l,_,_,_,rfl,rfl,SqL.of hl,y8 (j:=0) h0,ba,xs,num,rfl,SqL.of hba,hx,lm,λ i r H1 hi hil e1 hr0 hr1=>?_,λ bad=>qN bad H (Same.refl _)⟩;subst hi;have ll:=Y7 (l:=xs) hil;refine ⟨_,rfl,_,.inl ⟨_,SqL.of hr1,rfl⟩,?_⟩
 by_cases c:2<=xs.length
 ·have:(!(a0i xs i).isEmpty)=true:=by
   cases e:a0i xs i with
   | nil=>rw [e] at ll; simp at ll; omega
   | cons _ _=>rfl
  rw [this];refine D6 ?_;refine ⟨_,rfl,_,rfl,(by show 3<=sizeLine; decide),λ t ht=>?_⟩;have t1:=Same.new ht (.tup [V.str "ok",V.ref r,V.str z]);exact q i rfl hil c t r _ (e1.trans t1) hr0 upd_same (t1 _ _ hr1)
 ·have:(!(a0i xs i).isEmpty)=false:=by
   have:a0i xs i=[]:=gS (by omega);rw [this]; rfl
  rw [this];refine G5 ?_;exact ⟨(by show 1<=1000; decide),qB ⟨by omega,by omega⟩ (by omega) _ e1⟩
def a2i (K:W.Frag) (CN CB:Addr):Sp:=λ vs H Q E=>∃ (ba l:Addr) (xs us:List V) (hs:List d8) (z:Str) (num:Int) (v:V) (h:d8) (kt kg:Nat),vs=[.ref ba,.str z,.ref l]/\H ba=some (.lst xs)/\Bk K H xs hs/\1<=hs.length/\hs.length<=16/\(∀ g∈hs,g.1.length=kt/\g.2.length=kg)/\kt<=4/\kg<=4/\H l=some (.lst us)/\us[0]?=some (.int num)/\num.natAbs.log2<1920/\us[1]?=some v/\HS K H v h/\S5 h ∧
 (∀ i:Nat,num=(i:Int)->i<xs.length->GoodK h kt kg->∀ (t r:Addr) (H':Hp),Same H H'->H r=none->H' t=some (.tup [.str "ok",.ref r,.str z])->H' r=some (.lst ((xs.take i++[v])++xs.drop (i+1)))->Q (.ref t) H')/\(¬ Y8 xs.length num->∀ H',Same H H'->E (.ref CN) none H')/\(Y8 xs.length num->¬ GoodK h kt kg->∀ H',Same H H'->E (.ref CB) none H')
theorem scAlterD:i9 b3c a0C (d0 S3):=⟨rfl,rfl,rfl,by decide +kernel,rfl,by decide +kernel,by decide +kernel⟩
theorem a8c {f1:Addr} {d1:FuncData} (F:Fun K "alter_house" "alter_house" S3 f fd) (T:v7 mg) (Ca:a0K P w K mg base n "with_another" ["houses","number","house","many_takes","many_gives"] (a3J K CN CB) f1 d1):FnOk P w K mg base (R3 P w) (n+1) f fd a0C (a2i K CN CB):=by
 refine F.ok1 scAlterD (λ vs H Q E h=>?_) (λ cdv A outer s H vs Q E hr h=>?_)
 ·obtain ⟨ba,l,xs,us,hs,z,num,v,h,kt,kg,rfl,_⟩:=h
  rfl
 obtain ⟨ba,l,xs,us,hs,z,num,v,h,kt,kg,rfl,hba,hB,h1,h16,hk,k4,g4,hl,h0,lm,h1',hv,hs',q,qN,qB⟩:=h;refine ⟨_,d9 (C3 (p6 m6 (pv 0) e8 (λ _ _=>rfl)) (E4 rfl (j5 (j0 (i:=3) scAlterD.nd rfl (aC rfl)) (j5 (j0 (i:=4) scAlterD.nd rfl (aC rfl)) y4))))
  (e7 (j6 (v9 (c6 j9 (c6 (j4 Ca.ok hr rfl Ca.m Ca.k Ca.b .nil Q7 (c6 (pv 0) (c6 (p6 m6 (pv 2) e8 (λ _ _=>rfl)) (c6 (p6 m6 (pv 2) e8 (λ _ _=>rfl)) (c6 (i8 i7 rfl T.len aR (c6 (pv 3) c7)) (c6 (i8 i7 rfl T.len aR (c6 (pv 4) c7)) c7)))))) (c6 (pv 1) c7)))))),?_⟩
 have xl:xs.length=hs.length:=Paired.length hB;obtain ⟨g0,hg0⟩:∃ g,hs[0]?=some g:=⟨_,aG (by omega)⟩;obtain ⟨x0,hx0⟩:∃ x,xs[0]?=some x:=⟨_,aG (by omega)⟩;obtain ⟨g0',hg0',⟨b,tb,gb,rfl,p1,p2,p3⟩⟩:=Paired.at hB hx0;rw [hg0] at hg0'; cases hg0';obtain ⟨e1,e2⟩:=hk g0 (bE hg0);have l1:((g0.1.map V.int).length:Int)=(kt:Int):=by rw [aA,e1]
 have l2:((g0.2.map V.int).length:Int)=(kg:Int):=by rw [aA,e2]
 refine ⟨_,rfl,ba,_,_,_,rfl,rfl,SqL.of hba,y8 hx0,b,_,rfl,p1,rfl,_,_,rfl,_,_,rfl,rfl,?_⟩;refine ⟨_,rfl,_,rfl,l,_,_,_,rfl,rfl,SqL.of hl,y8 (j:=0) h0,_,rfl,l,_,_,_,rfl,rfl,SqL.of hl,y8 (j:=1) h1',_,rfl,tb,_,rfl,.inr p2,_,rfl,gb,_,rfl,.inr p3,?_⟩;rw [l1,l2];refine ⟨ba,v,xs,h,num,(kt:Int),(kg:Int),rfl,hba,by omega,hv,hs',lm,K3 (by omega),K3 (by omega),λ i hi lt g r H1 e hr0 hr1=>?_,qN,qB⟩;refine ⟨_,rfl,(by show 3<=sizeLine; decide),λ t ht=>?_⟩;have t1:=Same.new ht (.tup [V.str "ok",V.ref r,V.str z]);exact q i hi lt g t r _ (e.trans t1) hr0 upd_same (t1 _ _ hr1)
def a6f (K:W.Frag):Sp:=λ vs H Q _=>∃ (v:V) (z:Str) (l:Addr) (us:List V) (z':S),vs=[v,.str z,.ref l]/\H l=some (.lst us)/\us[0]?=some (.str z')/\∀ (t:Addr) (H':Hp),Same H H'->H' t=some (.tup [.str "ok",v,.str z'])->Q (.ref t) H'
theorem b4u:i9 a0C a0C (d0 Y9):=⟨rfl,rfl,rfl,by decide +kernel,rfl,by decide +kernel,by decide +kernel⟩
theorem b1X (F:Fun K "set_sizes" "set_sizes" Y9 f fd):FnOk P w K mg base (R3 P w) (n+1) f fd a0C (a6f K):=by
 refine F.ok1 b4u (λ vs H Q E h=>?_) (λ cdv A outer s H vs Q E hr h=>?_)
 ·obtain ⟨v,z,l,us,z',rfl,_⟩:=h
  rfl
 obtain ⟨v,z,l,us,z',rfl,hl,h0,q⟩:=h;refine ⟨_,e7 (j6 (v9 (c6 j9 (c6 (pv 0) (c6 (p6 m6 (pv 2) e8 (λ _ _=>rfl)) c7))))),?_⟩;refine ⟨_,rfl,_,rfl,l,_,_,_,rfl,rfl,SqL.of hl,y8 (j:=0) h0,(by show 3<=sizeLine; decide),λ t ht=>?_⟩;exact q t _ (Same.new ht _) upd_same
end
end Rim
namespace L2
open PySem PySem.W
theorem a0D {K:Frag} {C:Addr} {B:List Value} {nid:String} (q:excIn K C B nid=true):∃ nm qn N bs bm hdct sn sub ab col dd k0 k1 k2 k3 k5,K.lookup C=some (excClassObj nm qn C N bs bm hdct sn sub ab col dd k0 k1 k2 k3 k5 nid)/\nsOkIn K N=true/\nsIn K N "__init__"=some none/\tailIn K B bm=true:=by
 unfold excIn at q
 split at q
 ·rename_i e1 e2 e3 lk
  split at q
  ·rename_i C' bm w0 w1 w2 w3 nn w5 em es
   simp only [cY,beq_iff_eq,Bool.not_eq_true'] at q;obtain ⟨⟨⟨⟨⟨u1,u2⟩,u3⟩,u4⟩,u5⟩,u6⟩:=q
   cases u1
   cases u2;obtain ⟨n1,n2,n3,n4,n5,n6,n7,n8,n9,n10,n11⟩:=e2;obtain ⟨ls⟩:=e3
   replace em:n3=_:=em
   replace u3:n11=false:=u3
   replace es:ls=_:=es
   subst em u3 es;exact ⟨n1,n5,n4,n2,bm,n6,n7,n8,n9,n10,e1,w0,w1,w2,w3,w5,lk,u5,u6,u4⟩
  ·cases q
 ·cases q
def FunI (K:Frag) (x qual:Str) (st:Stmt) (f:Addr) (cd:Value):Prop:=∃ oc od kV dc pm an ct sl,K.lookup f=some ⟨oc,od,.func (fnOf x qual (E2 st) (t9 st) (d0 st) .none kV dc pm an cd ct),sl⟩/\codeIn K cd qual=true/\keepIn K (.ref f)=true
theorem fun_in {K:Frag} {x qual:Str} {st:Stmt} {f:Addr} {cd oc kV dc pm ct:Value} {od an:Option Addr} {sl:Array (Option Value)} (l:K.lookup f=some ⟨oc,od,.func (fnOf x qual (E2 st) (t9 st) (d0 st) .none kV dc pm an cd ct),sl⟩) (c:codeIn K cd qual=true) (k:keepIn K (.ref f)=true):FunI K x qual st f cd:=⟨_,_,_,_,_,_,_,_,l,c,k⟩
theorem FunI.fn {K:Frag} {x qual:Str} {st:Stmt} {f:Addr} {cd:Value} (h:FunI K x qual st f cd):∃ fd,Fun K x qual st f fd/\fd.code=cd/\keepIn K (.ref f)=true:=by
 obtain ⟨_,_,_,_,_,_,_,_,l,c,k⟩:=h;exact ⟨_,b0C l c k,rfl,k⟩
theorem Fun.b1 {K:Frag} {x qual:Str} {st:Stmt} {f:Addr} {fd:FuncData} {p0:Str} (F:Fun K x qual st f fd) (h:∀ (kV doc pm:Value) (an:Option Addr) (cdv ct v0:Value),bindArgs (fnOf x qual (E2 st) (t9 st) (d0 st) .none kV doc pm an cdv ct) ⟨[v0],[]⟩=pure [(p0,v0)]):Binds K fd [p0] [] :=
 F.binds λ a b c d e g us hl=>match us,hl with | [v0],_=>h a b c d e g v0
theorem Fun.b2 {K:Frag} {x qual:Str} {st:Stmt} {f:Addr} {fd:FuncData} {p0 p1:Str} (F:Fun K x qual st f fd) (h:∀ (kV doc pm:Value) (an:Option Addr) (cdv ct v0 v1:Value),bindArgs (fnOf x qual (E2 st) (t9 st) (d0 st) .none kV doc pm an cdv ct) ⟨[v0,v1],[]⟩=pure [(p0,v0),(p1,v1)]):Binds K fd [p0,p1] [] :=
 F.binds λ a b c d e g us hl=>match us,hl with | [v0,v1],_=>h a b c d e g v0 v1
theorem Fun.b3 {K:Frag} {x qual:Str} {st:Stmt} {f:Addr} {fd:FuncData} {p0 p1 p2:Str} (F:Fun K x qual st f fd) (h:∀ (kV doc pm:Value) (an:Option Addr) (cdv ct v0 v1 v2:Value),bindArgs (fnOf x qual (E2 st) (t9 st) (d0 st) .none kV doc pm an cdv ct) ⟨[v0,v1,v2],[]⟩=pure [(p0,v0),(p1,v1),(p2,v2)]):Binds K fd [p0,p1,p2] [] :=
 F.binds λ a b c d e g us hl=>match us,hl with | [v0,v1,v2],_=>h a b c d e g v0 v1 v2
theorem Fun.b4 {K:Frag} {x qual:Str} {st:Stmt} {f:Addr} {fd:FuncData} {p0 p1 p2 p3:Str} (F:Fun K x qual st f fd) (h:∀ (kV doc pm:Value) (an:Option Addr) (cdv ct v0 v1 v2 v3:Value),bindArgs (fnOf x qual (E2 st) (t9 st) (d0 st) .none kV doc pm an cdv ct) ⟨[v0,v1,v2,v3],[]⟩=pure [(p0,v0),(p1,v1),(p2,v2),(p3,v3)]):Binds K fd [p0,p1,p2,p3] [] :=
 F.binds λ a b c d e g us hl=>match us,hl with | [v0,v1,v2,v3],_=>h a b c d e g v0 v1 v2 v3
theorem Fun.b5 {K:Frag} {x qual:Str} {st:Stmt} {f:Addr} {fd:FuncData} {p0 p1 p2 p3 p4:Str} (F:Fun K x qual st f fd) (h:∀ (kV doc pm:Value) (an:Option Addr) (cdv ct v0 v1 v2 v3 v4:Value),bindArgs (fnOf x qual (E2 st) (t9 st) (d0 st) .none kV doc pm an cdv ct) ⟨[v0,v1,v2,v3,v4],[]⟩=pure [(p0,v0),(p1,v1),(p2,v2),(p3,v3),(p4,v4)]):Binds K fd [p0,p1,p2,p3,p4] [] :=
 F.binds λ a b c d e g us hl=>match us,hl with | [v0,v1,v2,v3,v4],_=>h a b c d e g v0 v1 v2 v3 v4
end L2
namespace Rim
open PySem L2 Fr
structure b4m (K:W.Frag) (mg:Str->Option Value) (cE cB cH cR cT cM cL:Addr):Prop where
 mE:mg "RimError"=some (.ref cE)
 mB:mg "NoBook"=some (.ref cB)
 mH:mg "NoHouse"=some (.ref cH)
 mR:mg "NoRow"=some (.ref cR)
 mT:mg "NoText"=some (.ref cT)
 mM:mg "TooMany"=some (.ref cM)
 mL:mg "NothingLeft"=some (.ref cL)
 kE:P0 K cE
structure J8 (K:W.Frag) (c cE cB cH cR cT cM cL:Addr) (b1 b2 b3 b4 b5 b6:Bool):Prop where
 k:P0 K c
 sub:W.mroIn K c (.ref cE)=some true
 i1:W.kitOne K (.ref c) (.ref cB)=some b1
 i2:W.kitOne K (.ref c) (.ref cH)=some b2
 i3:W.kitOne K (.ref c) (.ref cR)=some b3
 i4:W.kitOne K (.ref c) (.ref cT)=some b4
 i5:W.kitOne K (.ref c) (.ref cM)=some b5
 i6:W.kitOne K (.ref c) (.ref cL)=some b6
 v:W.kitOne K (.ref c) (.type "ValueError")=some true
abbrev a0h (b1 b2 b3 b4 b5 b6:Bool):List V:=[.bl b1,.bl b2,.bl b3,.bl b4,.bl b5,.bl b6,.bl true]
section
variable {P:Program} {w:World} {K:W.Frag} {mg:Str->Option Value} {base:Heap} {f g:Addr} {fd gd:FuncData} {n:Nat}
def a8S (K:W.Frag) (cE cB cH cR cT cM cL:Addr):Sp:=λ vs H Q _=>∃ (ea c:Addr) (b1 b2 b3 b4 b5 b6:Bool),vs=[.ref ea]/\H ea=some (a8m ea c)/\J8 K c cE cB cH cR cT cM cL b1 b2 b3 b4 b5 b6/\∀ (r:Addr) (H':Hp),Same H H'->H' r=some (.lst (a0h b1 b2 b3 b4 b5 b6))->Q (.ref r) H'
theorem scKin:i9 ["e","kin"] ["e"] (d0 U5):=⟨rfl,rfl,rfl,by decide +kernel,rfl,by decide +kernel,by decide +kernel⟩
theorem b0Z:bootBuiltins "ValueError"=some (.type "ValueError"):=by decide +kernel
theorem b2A {cE cB cH cR cT cM cL:Addr} (F:Fun K "_law_a_kin" "_law_a_kin" U5 f fd) (T:v7 mg) (R:b4m K mg cE cB cH cR cT cM cL):FnU P w K mg base (n+1) f fd ["e"] (a8S K cE cB cH cR cT cM cL):=by
 refine F.okU scKin (λ vs H Q E h=>?_) (λ cdv A outer s H vs Q E hr h=>?_)
 ·obtain ⟨ea,c,b1,b2,b3,b4,b5,b6,rfl,_⟩:=h
  rfl
 obtain ⟨ea,c,b1,b2,b3,b4,b5,b6,rfl,he,M,q⟩:=h;refine ⟨_,d9 (p7 (i:=1) scKin.nd rfl (aC rfl) (x4 (c6 (i8 C4 rfl T.isi dE (c6 (pv 0) (c6 (x5 (v:=.ref cB) rfl R.mB rfl) c7)))
   (c6 (i8 C4 rfl T.isi dE (c6 (pv 0) (c6 (x5 (v:=.ref cH) rfl R.mH rfl) c7)))
   (c6 (i8 C4 rfl T.isi dE (c6 (pv 0) (c6 (x5 (v:=.ref cR) rfl R.mR rfl) c7)))
   (c6 (i8 C4 rfl T.isi dE (c6 (pv 0) (c6 (x5 (v:=.ref cT) rfl R.mT rfl) c7))) c7))))))
  (e7 (j6 (j7 A6 (pv 1) (x4 (c6 (i8 C4 rfl T.isi dE (c6 (pv 0) (c6 (x5 (v:=.ref cM) rfl R.mM rfl) c7)))
   (c6 (i8 C4 rfl T.isi dE (c6 (pv 0) (c6 (x5 (v:=.ref cL) rfl R.mL rfl) c7)))
   (c6 (i8 C4 rfl T.isi dE (c6 (pv 0) (c6 (a1d (v:=.ty "ValueError") rfl T.ve b0Z rfl) c7))) c7))))))),?_⟩
 refine ⟨_,rfl,ea,c,_,b1,rfl,he,M.k,λ u ru=>by cases ru; exact M.i1,_,rfl,ea,c,_,b2,rfl,he,M.k,λ u ru=>by cases ru; exact M.i2,_,rfl,ea,c,_,b3,rfl,he,M.k,λ u ru=>by cases ru; exact M.i3,
  _,rfl,ea,c,_,b4,rfl,he,M.k,λ u ru=>by cases ru; exact M.i4,(by show 4<=sizeLine; decide),λ l1 hl1=>?_⟩
 have s1:=Same.new hl1 (.lst [V.bl b1,V.bl b2,V.bl b3,V.bl b4]);have he1:=s1 _ _ he;refine ⟨_,rfl,_,rfl,ea,c,_,b5,rfl,he1,M.k,λ u ru=>by cases ru; exact M.i5,_,rfl,ea,c,_,b6,rfl,he1,M.k,λ u ru=>by cases ru; exact M.i6,_,rfl,ea,c,_,true,rfl,he1,M.k,λ u ru=>by cases ru; exact M.v,(by show 3<=sizeLine; decide),λ l2 hl2=>?_⟩;have s2:=Same.new hl2 (.lst [V.bl b5,V.bl b6,V.bl true]);refine ⟨l1,l2,_,_,rfl,rfl,s2 _ _ upd_same,upd_same,(by show 7<=sizeLine; decide),λ l3 hl3=>?_⟩;exact q l3 _ (s1.trans (s2.trans (Same.new hl3 _))) upd_same
abbrev a9Y (x:Str):List V:=a0h (decide (V.str "NoBook"=V.str x)) (decide (V.str "NoHouse"=V.str x)) (decide (V.str "NoRow"=V.str x)) (decide (V.str "NoText"=V.str x)) (decide (V.str "TooMany"=V.str x)) (decide (V.str "NothingLeft"=V.str x))
def a3X:Sp:=λ vs H Q _=>∃ x:Str,vs=[.str x]/\∀ (r:Addr) (H':Hp),Same H H'->H' r=some (.lst (a9Y x))->Q (.ref r) H'
theorem scDue:i9 ["name","names"] ["name"] (d0 O8):=⟨rfl,rfl,rfl,by decide +kernel,rfl,by decide +kernel,by decide +kernel⟩
theorem b5u:(["one","name"]:List Str).Nodup:=by decide +kernel
theorem b1c (F:Fun K "_law_due_kin" "_law_due_kin" O8 f fd) (T:v7 mg):FnOk P w K mg base K5 (n+1) f fd ["name"] a3X:=by
 refine F.ok scDue (λ vs H Q E h=>?_) (λ cdv A outer s H vs Q E hr h=>?_)
 ·obtain ⟨x,rfl,_⟩:=h
  rfl
 obtain ⟨nm,rfl,q⟩:=h;refine ⟨_,d9 (p7 (i:=1) scDue.nd rfl (aC rfl) (x4 (c6 j9 (c6 j9 (c6 j9 (c6 j9 (c6 j9 (c6 j9 c7))))))))
  (e7 (j6 (j7 A6 (R1 ["one"] [0] rfl (G2 (pv 1)) (λ _ _ _ _=>j0 (i:=0) b5u rfl (aC rfl)) (λ _ _ _ _=>Q6 Z1 (pv 0) (pv 1) (m9 _))) (x4 (c6 a3I c7))))),?_⟩
 refine ⟨(by show 6<=sizeLine; decide),λ l1 hl1=>?_⟩;have s1:=Same.new hl1 (.lst [.str "NoBook",.str "NoHouse",.str "NoRow",.str "NoText",.str "TooMany",.str "NothingLeft"]);refine ⟨_,rfl,l1,rfl,⟨_,SqL.of upd_same⟩,λ p hp=>?_⟩;refine a0w (C2 (SqL.of upd_same)) hp (by decide) (λ x=>.bl (decide (x=.str nm))) (λ i x H' N hx e hN=>?_) ?_
 ·have hy:∃ y,x=.str y:=by
   have:=bE hx;simp only [aO,cS,or_false] at this;rcases this with rfl | rfl | rfl | rfl | rfl | rfl <;> exact ⟨_,rfl⟩
  obtain ⟨y,rfl⟩:=hy;exact ⟨Wk.set (by decide),_,rfl,_,rfl,rfl,hN⟩
 ·have s2:=Same.new hp (.lst (kM (λ x=>V.bl (decide (x=V.str nm))) [.str "NoBook",.str "NoHouse",.str "NoRow",.str "NoText",.str "TooMany",.str "NothingLeft"]))
  refine ⟨(by show 1<=sizeLine; decide),λ l2 hl2=>?_⟩;have s3:=Same.new hl2 (.lst [V.bl true]);refine ⟨p,l2,_,_,rfl,rfl,s3 _ _ upd_same,upd_same,(by show 7<=sizeLine; decide),λ l3 hl3=>?_⟩;exact q l3 _ (s1.trans (s2.trans (s3.trans (Same.new hl3 _)))) (by rw [upd_same]; congr 2)
structure b6l (P:Program) (w:World) (K:W.Frag) (mg:Str->Option Value) (base:Heap) (n:Nat) (x:Str) (ps:List Str) (sp:Sp) (fa:Addr) (d:FuncData):Prop where
 ok:FnU P w K mg base n fa d ps sp
 b:Binds K d ps []
 k:W.keepIn K (.ref fa)=true
 m:mg x=some (.ref fa)
def a4X (b1 b2 b3 b4 b5 b6:Bool):PyData:=.list [.bool b1,.bool b2,.bool b3,.bool b4,.bool b5,.bool b6,.bool true]
theorem b2s {K:W.Frag} {H:Hp} {a:Addr} {b1 b2 b3 b4 b5 b6:Bool} (h:H a=some (.lst (a0h b1 b2 b3 b4 b5 b6))):Dp K H (.ref a) (a4X b1 b2 b3 b4 b5 b6) :=
 .lst (SqL.of h) (.cons (.bl _) (.cons (.bl _) (.cons (.bl _) (.cons (.bl _) (.cons (.bl _) (.cons (.bl _) (.cons (.bl _) .nil)))))))
end
end Rim
namespace L2
open PySem PySem.Spec PyProof.Rows
def b4r (C:Addr) (m:Str) (sp:Sp) (EX:St->XK) (ta:TE) (t:TA):TE:=λ σ H Q=>ta σ H λ x H1=>∃ a dx fs,x=.ref a/\H1 a=some (.ins C dx fs)/\fs.lookup m=none/\t σ H1 λ vs H2=>sp (x::vs) H2 Q (EX σ)
section
variable {X:Cx} {CX:CXT} {k:Nat} {f C:Addr} {fd:FuncData} {ps:List Str} {sp:Sp} {EX:St->XK} {m:Str} {pos apos:Pos} {o e:Expr} {es:List Expr} {ta:TE} {t:TA}
theorem b2l {pins:List (Addr×Obj)} {σ:St} {H:Hp} {s:Shared} {Q:VK} {us:List Value} {vs:List V} (F:FnOk X.prog X.w X.K X.mg X.base CX k f fd ps sp) (hr:Room k X.A) (hb:Binds X.K fd ps []) (hx:a2d CX X EX)
  (I:Inv X pins σ H s) (r:Vals vs us) (h:sp vs H Q (EX σ)):wpAny (model X.prog X.w) X.A (call (.ref f) us) (EP X pins σ Q) X.xe s:=by
 have hl:(us++[]).length=ps.length:=by rw [dJ,<- r.length]; exact F.len _ _ _ _ h
 have hb':=hb s us I.kIn hl;rw [dJ] at hb';refine wpAny_call (codeAny_mono (F.run X.A X.stack s H ⟨us,[]⟩ us vs Q (EX σ) hr I.env0 hb' r h) λ rr s' hq=>?_)
 cases rr with
 | error e=>exact hx pins σ H s e s' I hq
 | ok fl =>
  cases fl with
  | ret u=>exact I.after hq
  | next=>exact bN hq
  | brk=>exact bN hq
  | cont=>exact bN hq
theorem b0f {pl:Sem Bool} (he:PE X o ta) (c:Cls X.K C) (hm:a7H X.K C m f) (F:FnOk X.prog X.w X.K X.mg X.base CX k f fd ps sp) (hr:Room k X.A) (hb:Binds X.K fd ps []) (hx:a2d CX X EX) (ha:PA X (e::es) t)
  (hst:starEach (e::es) X.env=(false,eval e X.env)::starEach es X.env:=by rfl) (hpl:(backTo pos (starEach es X.env)).any (·.1)=false:=by rfl)
  (ht:eval (.Call (.Attribute o m apos) (e::es) [] pos) X.env=(do
   let ov <- eval o X.env
   standAt apos.atName
   let (f,first) <- holding [ov] (getMethod ov m pl)
   callWith pos f first (backTo pos (starEach (e::es) X.env)) (backToKw pos (keywordEach [] X.env))):=by rfl) :
  PE X (.Call (.Attribute o m apos) (e::es) [] pos) (b4r C m sp EX ta t):=by
 intro pins s σ H Q I h;refine W.methodCall_KW (pl:=pl) (y9 (he pins s σ H _ I h) λ u s1 ⟨x,H1,I1,rx,a,dx,fs,ex,ea,l,q⟩=>?_) ht;subst ex;obtain rfl:u=Value.ref a:=rx;refine a0v I1 ea c hm l ?_;refine W.callWith_K (first:=[.ref a]) (h₀:=X.base) I.ok.mod.kin hm.kp (y9 (ha pos pins s1 σ H1 _ I1 q) λ us s2 ⟨vs,H2,I2,r,q2⟩=>⟨I2.kIn,?_⟩) hst hpl;exact b2l (us:=.ref a::us) (vs:=.ref a::vs) F hr hb hx I2 (.cons rfl r) q2
end
end L2
namespace Rim
open PySem L2 Fr
open Tx (S cs ch p9 K7 B7 y6)
section
variable {P:Program} {w:World} {K:W.Frag} {mg:Str->Option Value} {base:Heap} {f C CL CR:Addr} {fd:FuncData} {n:Nat} {kA kD:List (Str×Addr)} {FA:Addr->Sp->Prop} {cE cB cH cR cT cM cL:Addr}
def Kn (K:W.Frag) (cE cB cH cR cT cM cL:Addr) (Q:VK) (c:Value) (H':Hp):Prop:=∃ (ca:Addr) (b1 b2 b3 b4 b5 b6:Bool),c=.ref ca/\J8 K ca cE cB cH cR cT cM cL b1 b2 b3 b4 b5 b6/\∀ r k2 H2,Same H' H2->H2 r=some (.tup [.non,.ref k2])->H2 k2=some (.lst (a0h b1 b2 b3 b4 b5 b6))->Q (.ref r) H2
def N4 (K:W.Frag) (C CL CR cE cB cH cR cT cM cL:Addr) (kA kD:List (Str×Addr)) (FA:Addr->Sp->Prop):Sp:=λ vs H Q _=>∃ (p dx:Addr) (fs:List (Str×V)) (z:S),vs=[.ref p,.str z]/\H p=some (.ins C dx fs)/\fs.lookup ("say":Str)=none/\∀ kl,H kl=none->∀ (Q1:VK) (E1:XK),(∀ v H',(∀ r,H' r=none->Q (.ref r) (r9 H' r (.tup [v,.ref kl])))->Q1 v H')->(∀ c H',Kn K cE cB cH cR cT cM cL Q c H'->E1 c none H') →
 a9C K C CL CR kA kD FA [.ref p,.str z] (r9 H kl (.lst [])) Q1 E1
theorem scSaid:i9 ["desk","row","found","kin","e"] ["desk","row"] (d0 X3):=⟨rfl,rfl,rfl,by decide +kernel,rfl,by decide +kernel,by decide +kernel⟩
theorem b1g {f1 fc:Addr} {d1 dc:FuncData} (F:Fun K "_law_said" "_law_said" X3 f fd) (T:TD K C) (R:b4m K mg cE cB cH cR cT cM cL)
  (Cs:a8Z P w K mg base (R3 P w) n C "say" ["self","row"] (a9C K C CL CR kA kD FA) f1 d1) (Ck:b6l P w K mg base n "_law_a_kin" ["e"] (a8S K cE cB cH cR cT cM cL) fc dc) :
  FnOk P w K mg base K5 (n+1) f fd ["desk","row"] (N4 K C CL CR cE cB cH cR cT cM cL kA kD FA):=by
 refine F.ok scSaid (λ vs H Q E h=>?_) (λ cdv A outer s H vs Q E hr h=>?_)
 ·obtain ⟨p,dx,fs,z,rfl,_⟩:=h
  rfl
 obtain ⟨p,dx,fs,z,rfl,hp,hfs,hc⟩:=h;refine ⟨_,d9 (p7 (i:=2) scSaid.nd rfl (aC rfl) B9)
  (d9 (p7 (i:=3) scSaid.nd rfl (aC rfl) (x4 c7))
  (d9 (b3x (i:=4) R.kE scSaid.nd rfl rfl rfl rfl R.mE
   (λ EX pn WE hx=>e7 (p7 (i:=2) scSaid.nd rfl (aC rfl) (b0f (pv 0) T.cl Cs.me Cs.ok hr Cs.bd hx (c6 (pv 1) c7))))
   (λ ea=>e7 (p7 (i:=3) scSaid.nd rfl (aC rfl) (b0K Ck.ok (hr.u _) rfl Ck.m Ck.k Ck.b (c6 (pv 4) c7)))))
  (e7 (j6 (v9 (c6 (pv 2) (c6 (pv 3) c7))))))),?_⟩
 refine ⟨(by show 0<=sizeLine; decide),λ kl hkl=>?_⟩;have s1:=Same.new hkl (.lst []);have hc1:=hc kl hkl;have hp1:=s1 _ _ hp;generalize r9 H kl (.lst [])=H1 at *;refine ⟨λ σ' c _ H'=>σ'=[some (.ref p),some (.str z),some .non,some (.ref kl),none]/\Kn K cE cB cH cR cT cM cL Q c H',?_,?_⟩
 rotate_left
 ·rintro σ' H' c ea d' ⟨rfl,ca,b1,b2,b3,b4,b5,b6,hk,M,q⟩ hea Da hC
  cases hC
  cases hk;refine ⟨M.k,M.sub,?_⟩;refine ⟨_,rfl,ea,_,_,_,_,_,_,_,rfl,upd_same,M,λ r2 H3 e3 hr2=>?_⟩;refine ⟨_,rfl,_,rfl,(by show 2<=sizeLine; decide),λ rt hrt=>?_⟩;have s4:=Same.new hrt (.tup [V.non,V.ref r2]);exact q rt r2 _ ((Same.new hea _).trans (e3.trans s4)) upd_same (s4 _ _ hr2)
 ·refine ⟨_,rfl,p,dx,_,rfl,hp1,hfs,_,rfl,?_⟩
  unfold G6;dsimp only;refine hc1 _ _ ?_ ?_
  rotate_left
  ·intro c H' hk
   exact ⟨rfl,hk⟩
  intro v H' q;exact ⟨_,rfl,_,rfl,(by show 2<=sizeLine; decide),λ rt hrt=>q rt hrt⟩
end
end Rim
namespace Rim
open PySem L2 Fr
open Tx (S cs ch p9 K7 B7 y6)
abbrev SD:=DS×List DS
structure OkB (kt kg:Nat) (hs:List d8):Prop where
 l1:1<=hs.length
 l16:hs.length<=16
 g:∀ h∈hs,HG (10 ^ 9) kt kg h
 t1:1<=kt
 t4:kt<=4
 g4:kg<=4
theorem OkB.k {kt kg:Nat} {hs:List d8} (o:OkB kt kg hs):∀ g∈hs,g.1.length=kt/\g.2.length=kg:=λ g hg=>⟨(o.g g hg).lt,(o.g g hg).lg⟩
structure Dq41 (K:W.Frag) (C Pt:Addr) (H:Hp) (p pa:Addr) (lo:List Addr) (S:SD):Prop where
 d:DkAt K C H p S.1 S.2 pa lo
 l:S.2.length<=900
 t:LT Pt H
def a0n (K:W.Frag) (C Pt:Addr) (H:Hp) (p pa:Addr) (lo:List Addr) (S':SD) (an:S) (Q:VK):Prop:=∀ (H':Hp) (r kl:Addr) (lo':List Addr),DkAt K C H' p S'.1 S'.2 pa lo'->Left Pt p pa H H'->LT Pt H'->(∀ b∈lo',b∈lo\/H b=none)->H' r=some (.tup [.str an,.ref kl])->H' kl=some (.lst [])->Q (.ref r) H'
def a3R (H:Hp) (ks:List V) (Q:VK):Prop:=∀ (H':Hp) (r kl:Addr),Same H H'->H' r=some (.tup [.non,.ref kl])->H' kl=some (.lst ks)->Q (.ref r) H'
theorem b0r {Pt p pa:Addr} {H H':Hp} {C dx:Addr} {fs:List (Str×V)} {xs:List V} (T:LT Pt H) (hp:H p=some (.ins C dx fs)) (hpa:H pa=some (.lst xs)) (lf:a7v p pa H H'):LT Pt H':=by
 rcases T with e | ⟨c,e1,e2⟩
 ·exact .inl (lf _ _ (A5 e hp nofun) (A5 e hpa nofun) e)
 ·exact .inr ⟨c,lf _ _ (A5 e1 hp nofun) (A5 e1 hpa nofun) e1,lf _ _ (A5 e2 hp nofun) (A5 e2 hpa nofun) e2⟩
section
variable {P:Program} {w:World} {K:W.Frag} {mg:Str->Option Value} {base:Heap} {C Pt CL CR:Addr} {kA kD:List (Str×Addr)} {FA:Addr->Sp->Prop} {cE cB cH cR cT cM cL:Addr} {H:Hp} {p pa:Addr} {lo:List Addr} {Q:VK} {E:XK} {row:S}
theorem U4 {kl:Addr} {H2 H':Hp} {S':SD} {S0:SD} {an:S} {lo':List Addr} (D:Dq41 K C Pt H p pa lo S0) (hkl:H kl=none) (tl:a0n K C Pt H p pa lo S' an Q) (e:Same (r9 H kl (.lst [])) H2) (DK:DkAt K C H' p S'.1 S'.2 pa lo') (sub:∀ b∈lo',b∈lo\/H b=none) (lf:a7v p pa H2 H') :
  ∀ r,H' r=none->Q (.ref r) (r9 H' r (.tup [.str an,.ref kl])):=by
 intro r hr;have s1:=Same.new hkl (.lst []);obtain ⟨dx,ba,pv,hp,_,_,hpa,_⟩:=D.d.ex;have e0:=s1.trans e;have hp2:=e0 _ _ hp;have hpa2:=e0 _ _ hpa;have nkp:kl≠p:=(c8 hp hkl).symm;have nka:kl≠pa:=(c8 hpa hkl).symm;have s3:=Same.new hr (.tup [V.str an,V.ref kl]);exact tl _ r kl lo' (DK.same s3) (λ b o n1 _ n3 h=>s3 _ _ (lf b o n1 n3 (e0 _ _ h))) ((b0r (D.t.same e0) hp2 hpa2 lf).same s3) sub upd_same (s3 _ _ (lf kl _ nkp nka (e _ _ upd_same)))
theorem a2B {kl:Addr} {H2 H':Hp} {S0:SD} {an:S} (D:Dq41 K C Pt H p pa lo S0) (hkl:H kl=none) (tl:a0n K C Pt H p pa lo S0 an Q) (e:Same (r9 H kl (.lst [])) H2) (e1:C9 Pt H2 H') (T':LT Pt H') :
  ∀ r,H' r=none->Q (.ref r) (r9 H' r (.tup [.str an,.ref kl])):=by
 intro r hr;have s1:=Same.new hkl (.lst []);have e0:=s1.trans e;have D2:=D.d.same e0;have T2:=D.t.same e0;obtain ⟨dx,ba,pv,hp,_,_,hpa,_⟩:=D2.ex;have nP:∀ b o,H2 b=some o->(∀ a,o≠.tbl a)->b≠Pt:=λ b o h n z=>by
  subst z;rcases T2 with q | ⟨c,q,_⟩ <;> rw [q] at h <;> cases h <;> exact n _ rfl
 have s3:=Same.new hr (.tup [V.str an,V.ref kl]);have D':DkAt K C H' p S0.1 S0.2 pa lo:=D2.fr0 (X:=λ b=>b=Pt) ⟨λ b o n h=>e1 b o n h,λ x hx=>by subst hx; exact a1u T2⟩ (λ b hb z=>by obtain ⟨xs,hx⟩:=D2.ls b hb; exact nP b _ hx nofun z) (nP _ _ hp nofun) (nP _ _ hpa nofun);exact tl _ r kl lo (D'.same s3) (λ b o n1 n2 n3 h=>s3 _ _ (e1 b o n2 (e0 _ _ h))) (T'.same s3) (λ b hb=>.inl hb) upd_same (s3 _ _ (e1 kl _ (nP kl _ (e _ _ upd_same) nofun) (e _ _ upd_same)))
theorem a1J {ca kl:Addr} {b1 b2 b3 b4 b5 b6:Bool} {H':Hp} (hkl:H kl=none) (e:Same (r9 H kl (.lst [])) H') (M:J8 K ca cE cB cH cR cT cM cL b1 b2 b3 b4 b5 b6) (q:a3R H (a0h b1 b2 b3 b4 b5 b6) Q):Kn K cE cB cH cR cT cM cL Q (.ref ca) H' :=
 ⟨ca,_,_,_,_,_,_,rfl,M,λ r k2 H2 e2 h1 h2=>q H2 r k2 ((Same.new hkl _).trans (e.trans e2)) h1 h2⟩
structure Way (k:List (Str×Addr)) (FA:Addr->Sp->Prop) (x:Str) (sp:Sp):Prop where
 w:∃ g,k.lookup x=some g/\FA g sp
abbrev kNB:List V:=a0h true false false false false false
abbrev kNH:List V:=a0h false true false false false false
abbrev kTM:List V:=a0h false false false false true false
abbrev kNL:List V:=a0h false false false false false true
theorem b3h {H:Hp} {v:V} {h:d8} (e:ThV K H v (.h h)):HS K H v h:=by
 obtain ⟨t,ta,ga,rfl,h1,h2,h3⟩:=e;exact ⟨t,ta,ga,rfl,SqT.of h1,SqT.of h2,SqT.of h3⟩
theorem a7y {kl b':Addr} {H1:Hp} {lo':List Addr} (hkl:H kl=none) (e1:Same (r9 H kl (.lst [])) H1) (hb:b'∈lo\/H1 b'=none) (s:∀ b∈lo',b=b'\/b∈lo):∀ b∈lo',b∈lo\/H b=none:=λ b h=>by
 rcases s b h with rfl | h
 ·exact hb.imp id λ q=>((Same.new hkl _).trans e1).free q
 ·exact .inl h
theorem a5a {hs:List d8} {z:Str} {past:List DS} {h:d8} {kt kg:Nat} (D:Dq41 K C Pt H p pa lo ((hs,z),past)) (ob:OkB kt kg hs) (ha:K7 row) (hl:row.length<=100000) (er:C5 row=some (("house":Str),[Th.h h])) (sk:S5 h) (nA:kA.lookup ("house":Str)=none) (W:Way kD FA "house" (b0R K cB cM)) (MB:J8 K cB cE cB cH cR cT cM cL true false false false false false) (MM:J8 K cM cE cB cH cR cT cM cL false false false false true false)
  (q1:GoodK h kt kg->hs.length<16->a0n K C Pt H p pa lo ((hs++[h],z),past++[(hs,z)]) (p9 (hs.length:Int)) Q) (q2:¬ GoodK h kt kg->a3R H kNB Q) (q3:GoodK h kt kg->16<=hs.length->a3R H kTM Q) :
  N4 K C CL CR cE cB cH cR cT cM cL kA kD FA [.ref p,.str row] H Q E:=by
 obtain ⟨dx,ba0,pv,hp,_,_,hpa,_⟩:=D.d.ex;refine ⟨p,dx,_,row,rfl,hp,rfl,λ kl hkl Q1 E1 hQ hE=>?_⟩;have s1:=Same.new hkl (.lst []);refine ⟨p,pa,row,(hs,z),past,lo,rfl,D.d.same s1,aK D.l (by decide),ha,hl,λ e=>(by rw [er] at e; cases e),λ wd ts e l us ba H1 e1 hlu hth hba hbk=>?_⟩;rw [er] at e; cases e;have hpa1:=e1 _ _ (s1 _ _ hpa);obtain ⟨g,hg,hF⟩:=W.w;refine ⟨λ g' h'=>(by rw [nA] at h'; cases h'),λ _ g' h'=>?_,λ _ h'=>(by rw [hg] at h'; cases h')⟩;rw [hg] at h'; cases h';refine ⟨_,hF,λ Q' hQ'=>?_⟩;obtain ⟨xs,hx,hB⟩:=hbk;have xl:xs.length=hs.length:=Paired.length hB
 cases hth with
 | cons hv hn =>
 cases hn;have hv':=b3h hv;refine ⟨ba,l,xs,_,hs,z,_,h,kt,kg,rfl,hx,hB,ob.l1,ob.l16,ob.k,ob.t4,ob.g4,hlu,rfl,hv',sk,λ gk l16 t r H2 e2 hr0 ht hr=>?_,λ bad H2 e2=>hE _ _ (a1J hkl (e1.trans e2) MB (q2 bad)),λ gk l16 H2 e2=>hE _ _ (a1J hkl (e1.trans e2) MM (q3 gk l16))⟩;refine hQ' _ _ ⟨t,_,r,z,hs++[h],rfl,ht,e2,⟨_,hr,Paired.app (Bk.same e2 hB) (.cons (hv'.same e2) .nil)⟩,(c8 hpa1 hr0).symm,λ H3 lo' DK sub lf=>hQ _ _ ?_⟩;exact U4 D hkl (q1 gk l16) (e1.trans e2) DK (a7y hkl e1 (.inr hr0) sub) lf
theorem a7B {hs:List d8} {z:Str} {past:List DS} {num:Int} (D:Dq41 K C Pt H p pa lo ((hs,z),past)) (l16:hs.length<=16) (ha:K7 row) (hl:row.length<=100000) (er:C5 row=some (("drop":Str),[Th.k num])) (lm:num.natAbs.log2<1920) (nA:kA.lookup ("drop":Str)=none) (W:Way kD FA "drop" (a5I K cH cB)) (MB:J8 K cB cE cB cH cR cT cM cL true false false false false false) (MH:J8 K cH cE cB cH cR cT cM cL false true false false false false)
  (q1:∀ i:Nat,num=(i:Int)->i<hs.length->2<=hs.length->a0n K C Pt H p pa lo ((a0i hs i,z),past++[(hs,z)]) "ok" Q) (q2:¬ Y8 hs.length num->a3R H kNH Q) (q3:Y8 hs.length num->hs.length=1->a3R H kNB Q) :
  N4 K C CL CR cE cB cH cR cT cM cL kA kD FA [.ref p,.str row] H Q E:=by
 obtain ⟨dx,ba0,pv,hp,_,_,hpa,_⟩:=D.d.ex;refine ⟨p,dx,_,row,rfl,hp,rfl,λ kl hkl Q1 E1 hQ hE=>?_⟩;have s1:=Same.new hkl (.lst []);refine ⟨p,pa,row,(hs,z),past,lo,rfl,D.d.same s1,aK D.l (by decide),ha,hl,λ e=>(by rw [er] at e; cases e),λ wd ts e l us ba H1 e1 hlu hth hba hbk=>?_⟩;rw [er] at e; cases e;have hpa1:=e1 _ _ (s1 _ _ hpa);obtain ⟨g,hg,hF⟩:=W.w;refine ⟨λ g' h'=>(by rw [nA] at h'; cases h'),λ _ g' h'=>?_,λ _ h'=>(by rw [hg] at h'; cases h')⟩;rw [hg] at h'; cases h';refine ⟨_,hF,λ Q' hQ'=>?_⟩;obtain ⟨xs,hx,hB⟩:=hbk;have xl:xs.length=hs.length:=Paired.length hB
 cases hth with
 | cons hv hn =>
 cases hn
 cases hv;refine ⟨ba,l,xs,_,z,num,rfl,hx,by omega,hlu,rfl,lm,λ i hi hil h2 t r H2 e2 hr0 ht hr=>?_,λ bad H2 e2=>hE _ _ (a1J hkl (e1.trans e2) MH (q2 (by rw [<- xl]; exact bad))),λ gk h1 H2 e2=>hE _ _ (a1J hkl (e1.trans e2) MB (q3 (by rw [<- xl]; exact gk) (by omega)))⟩;refine hQ' _ _ ⟨t,_,r,z,a0i hs i,rfl,ht,e2,⟨_,hr,Paired.app (Paired.take i (Bk.same e2 hB)) (Paired.drop (i+1) (Bk.same e2 hB))⟩,(c8 hpa1 hr0).symm,λ H3 lo' DK sub lf=>hQ _ _ ?_⟩;exact U4 D hkl (q1 i hi (by omega) (by omega)) (e1.trans e2) DK (a7y hkl e1 (.inr hr0) sub) lf
theorem a5U {hs:List d8} {z:Str} {past:List DS} {num:Int} {h:d8} {kt kg:Nat} (D:Dq41 K C Pt H p pa lo ((hs,z),past)) (ob:OkB kt kg hs) (ha:K7 row) (hl:row.length<=100000) (er:C5 row=some (("alter":Str),[Th.k num,Th.h h])) (lm:num.natAbs.log2<1920) (sk:S5 h) (nA:kA.lookup ("alter":Str)=none) (W:Way kD FA "alter" (a2i K cH cB)) (MB:J8 K cB cE cB cH cR cT cM cL true false false false false false) (MH:J8 K cH cE cB cH cR cT cM cL false true false false false false)
  (q1:∀ i:Nat,num=(i:Int)->i<hs.length->GoodK h kt kg->a0n K C Pt H p pa lo (((hs.take i++[h])++hs.drop (i+1),z),past++[(hs,z)]) "ok" Q) (q2:¬ Y8 hs.length num->a3R H kNH Q) (q3:Y8 hs.length num->¬ GoodK h kt kg->a3R H kNB Q) :
  N4 K C CL CR cE cB cH cR cT cM cL kA kD FA [.ref p,.str row] H Q E:=by
 obtain ⟨dx,ba0,pv,hp,_,_,hpa,_⟩:=D.d.ex;refine ⟨p,dx,_,row,rfl,hp,rfl,λ kl hkl Q1 E1 hQ hE=>?_⟩;have s1:=Same.new hkl (.lst []);refine ⟨p,pa,row,(hs,z),past,lo,rfl,D.d.same s1,aK D.l (by decide),ha,hl,λ e=>(by rw [er] at e; cases e),λ wd ts e l us ba H1 e1 hlu hth hba hbk=>?_⟩;rw [er] at e; cases e;have hpa1:=e1 _ _ (s1 _ _ hpa);obtain ⟨g,hg,hF⟩:=W.w;refine ⟨λ g' h'=>(by rw [nA] at h'; cases h'),λ _ g' h'=>?_,λ _ h'=>(by rw [hg] at h'; cases h')⟩;rw [hg] at h'; cases h';refine ⟨_,hF,λ Q' hQ'=>?_⟩;obtain ⟨xs,hx,hB⟩:=hbk;have xl:xs.length=hs.length:=Paired.length hB
 cases hth with
 | cons hk hn =>
 cases hk
 cases hn with
 | cons hv hn =>
 cases hn;have hv':=b3h hv;refine ⟨ba,l,xs,_,hs,z,num,_,h,kt,kg,rfl,hx,hB,ob.l1,ob.l16,ob.k,ob.t4,ob.g4,hlu,rfl,lm,rfl,hv',sk,λ i hi hil gk t r H2 e2 hr0 ht hr=>?_,λ bad H2 e2=>hE _ _ (a1J hkl (e1.trans e2) MH (q2 (by rw [<- xl]; exact bad))),λ gd bad H2 e2=>hE _ _ (a1J hkl (e1.trans e2) MB (q3 (by rw [<- xl]; exact gd) bad))⟩;refine hQ' _ _ ⟨t,_,r,z,(hs.take i++[h])++hs.drop (i+1),rfl,ht,e2,⟨_,hr,Paired.app (Paired.app (Paired.take i (Bk.same e2 hB)) (.cons (hv'.same e2) .nil)) (Paired.drop (i+1) (Bk.same e2 hB))⟩,(c8 hpa1 hr0).symm,λ H3 lo' DK sub lf=>hQ _ _ ?_⟩;exact U4 D hkl (q1 i hi (by omega) gk) (e1.trans e2) DK (a7y hkl e1 (.inr hr0) sub) lf
theorem a6k {hs:List d8} {z:Str} {past:List DS} {z':S} (D:Dq41 K C Pt H p pa lo ((hs,z),past)) (ha:K7 row) (hl:row.length<=100000) (er:C5 row=some (("sizes":Str),[Th.w z'])) (nA:kA.lookup ("sizes":Str)=none) (W:Way kD FA "sizes" (a6f K))
  (q1:a0n K C Pt H p pa lo ((hs,z'),past++[(hs,z)]) "ok" Q) :
  N4 K C CL CR cE cB cH cR cT cM cL kA kD FA [.ref p,.str row] H Q E:=by
 obtain ⟨dx,ba0,pv,hp,_,_,hpa,_⟩:=D.d.ex;refine ⟨p,dx,_,row,rfl,hp,rfl,λ kl hkl Q1 E1 hQ hE=>?_⟩;have s1:=Same.new hkl (.lst []);refine ⟨p,pa,row,(hs,z),past,lo,rfl,D.d.same s1,aK D.l (by decide),ha,hl,λ e=>(by rw [er] at e; cases e),λ wd ts e l us ba H1 e1 hlu hth hba hbk=>?_⟩;rw [er] at e; cases e;have hpa1:=e1 _ _ (s1 _ _ hpa);obtain ⟨g,hg,hF⟩:=W.w;refine ⟨λ g' h'=>(by rw [nA] at h'; cases h'),λ _ g' h'=>?_,λ _ h'=>(by rw [hg] at h'; cases h')⟩;rw [hg] at h'; cases h';refine ⟨_,hF,λ Q' hQ'=>?_⟩;obtain ⟨xs,hx,hB⟩:=hbk;have xl:xs.length=hs.length:=Paired.length hB
 cases hth with
 | cons hv hn =>
 cases hn
 cases hv;refine ⟨_,z,l,_,z',rfl,hlu,rfl,λ t H2 e2 ht=>?_⟩;refine hQ' _ _ ⟨t,_,ba,z',hs,rfl,ht,e2,⟨_,e2 _ _ hx,Bk.same e2 hB⟩,λ z0=>D.d.no (z0 ▸ hba),λ H3 lo' DK sub lf=>hQ _ _ ?_⟩;exact U4 D hkl q1 (e1.trans e2) DK (a7y hkl e1 (.inl hba) sub) lf
theorem a1h {hs:List d8} {z:Str} {past:List DS} (D:Dq41 K C Pt H p pa lo ((hs,z),past)) (ha:K7 row) (hl:row.length<=100000) (er:C5 row=some (("back":Str),[])) (nA:kA.lookup ("back":Str)=none) (nD:kD.lookup ("back":Str)=none) (ML:J8 K CL cE cB cH cR cT cM cL false false false false false true)
  (q1:∀ past0 L0,past=past0++[L0]->a0n K C Pt H p pa lo (L0,past0) "ok" Q) (q2:past=[]->a3R H kNL Q) :
  N4 K C CL CR cE cB cH cR cT cM cL kA kD FA [.ref p,.str row] H Q E:=by
 obtain ⟨dx,ba0,pv,hp,_,_,hpa,_⟩:=D.d.ex;refine ⟨p,dx,_,row,rfl,hp,rfl,λ kl hkl Q1 E1 hQ hE=>?_⟩;have s1:=Same.new hkl (.lst []);refine ⟨p,pa,row,(hs,z),past,lo,rfl,D.d.same s1,aK D.l (by decide),ha,hl,λ e=>(by rw [er] at e; cases e),λ wd ts e l us ba H1 e1 hlu hth hba hbk=>?_⟩;rw [er] at e; cases e;have hpa1:=e1 _ _ (s1 _ _ hpa);refine ⟨λ g' h'=>(by rw [nA] at h'; cases h'),λ _ g' h'=>(by rw [nD] at h'; cases h'),λ _ _=>?_⟩;refine ⟨p,pa,(hs,z),past,lo,rfl,(D.d.same s1).same e1,λ h0 H2 e2=>hE _ _ (a1J hkl (e1.trans e2) ML (q2 h0)),λ past0 L0 hpq H3 DK lf=>hQ _ _ ?_⟩;exact U4 D hkl (q1 past0 L0 hpq) e1 DK (λ b hb=>.inl hb) lf
theorem a7z {hs:List d8} {z:Str} {past:List DS} {kt kg:Nat} (D:Dq41 K C Pt H p pa lo ((hs,z),past)) (ob:OkB kt kg hs) (ha:K7 row) (hl:row.length<=100000) (er:C5 row=some (("book":Str),[])) (W:Way kA FA "book" (a3U K))
  (q1:a0n K C Pt H p pa lo ((hs,z),past) (V9 hs) Q) :
  N4 K C CL CR cE cB cH cR cT cM cL kA kD FA [.ref p,.str row] H Q E:=by
 obtain ⟨dx,ba0,pv,hp,_,_,hpa,_⟩:=D.d.ex;refine ⟨p,dx,_,row,rfl,hp,rfl,λ kl hkl Q1 E1 hQ hE=>?_⟩;have s1:=Same.new hkl (.lst []);refine ⟨p,pa,row,(hs,z),past,lo,rfl,D.d.same s1,aK D.l (by decide),ha,hl,λ e=>(by rw [er] at e; cases e),λ wd ts e l us ba H1 e1 hlu hth hba hbk=>?_⟩;rw [er] at e; cases e;have hpa1:=e1 _ _ (s1 _ _ hpa);obtain ⟨g,hg,hF⟩:=W.w;refine ⟨λ g' h'=>?_,λ h'=>(by rw [hg] at h'; cases h'),λ h'=>(by rw [hg] at h'; cases h')⟩;rw [hg] at h'; cases h';refine ⟨_,hF,?_⟩;obtain ⟨xs,hx,hB⟩:=hbk;have xl:xs.length=hs.length:=Paired.length hB;refine ⟨ba,_,_,xs,hs,rfl,SqL.of hx,hB,by have:=ob.l16; omega,λ h hh=>b3j (ob.g h hh) (cD _) ob.t4 ob.g4,λ H2 e2=>hQ _ _ ?_⟩;exact a2B D hkl q1 (e1.trans e2) (λ _ _ _ h=>h) ((D.t.same s1).same (e1.trans e2))
theorem a6l {hs:List d8} {z:Str} {past:List DS} {num:Int} {kt kg:Nat} (D:Dq41 K C Pt H p pa lo ((hs,z),past)) (ob:OkB kt kg hs) (hz:W4 z) (ha:K7 row) (hl:row.length<=100000) (er:C5 row=some (("share":Str),[Th.k num])) (lm:num.natAbs.log2<1920) (W:Way kA FA "share" (a2N K cH Pt)) (MH:J8 K cH cE cB cH cR cT cM cL false true false false false false)
  (q1:∀ (i:Nat) (h:d8) (x:Q2),num=(i:Int)->hs[i]?=some h->ShB z hs h kt kg x->a0n K C Pt H p pa lo ((hs,z),past) (a1a x) Q) (q2:¬ Y8 hs.length num->a3R H kNH Q) :
  N4 K C CL CR cE cB cH cR cT cM cL kA kD FA [.ref p,.str row] H Q E:=by
 obtain ⟨dx,ba0,pv,hp,_,_,hpa,_⟩:=D.d.ex;refine ⟨p,dx,_,row,rfl,hp,rfl,λ kl hkl Q1 E1 hQ hE=>?_⟩;have s1:=Same.new hkl (.lst []);refine ⟨p,pa,row,(hs,z),past,lo,rfl,D.d.same s1,aK D.l (by decide),ha,hl,λ e=>(by rw [er] at e; cases e),λ wd ts e l us ba H1 e1 hlu hth hba hbk=>?_⟩;rw [er] at e; cases e;have hpa1:=e1 _ _ (s1 _ _ hpa);obtain ⟨g,hg,hF⟩:=W.w;refine ⟨λ g' h'=>?_,λ h'=>(by rw [hg] at h'; cases h'),λ h'=>(by rw [hg] at h'; cases h')⟩;rw [hg] at h'; cases h';refine ⟨_,hF,?_⟩;obtain ⟨xs,hx,hB⟩:=hbk;have xl:xs.length=hs.length:=Paired.length hB
 cases hth with
 | cons hv hn =>
 cases hn
 cases hv;refine ⟨ba,l,xs,_,hs,num,z,kt,kg,rfl,hz,⟨SqL.of hx,hB,ob.g,by decide,ob.l16,by have:=ob.t4; omega,by have:=ob.g4; omega⟩,ob.t1,hlu,rfl,lm,(D.t.same s1).same e1,λ i h x H2 hi hh X e2 T2=>hQ _ _ ?_,λ bad=>hE _ _ (a1J hkl e1 MH (q2 (by rw [<- xl]; exact bad)))⟩;exact a2B D hkl (q1 i h x hi hh X) e1 e2 T2
end
end Rim
namespace Rim
open PySem L2 Fr
open Tx (S cs ch p9 K7 B7 y6 cs_app X6 ext P3)
theorem J7 (c:Nat) (p q:S) (r:List S):cs (Str.join (ch c) (p::q::r))=cs p++c::cs (Str.join (ch c) (q::r)):=by
 show cs (p++ch c++Str.join (ch c) (q::r))=_
 rw [cs_app,cs_app,X6,cQ]; rfl
theorem a4s {c d:Nat}:∀ {ps:List S},d∈cs (Str.join (ch c) ps)->d=c\/∃ p∈ps,d∈cs p
 | [],h=>by cases h
 | [p],h=>.inr ⟨p,.head _,h⟩
 | p::q::r,h=>by
  rw [J7] at h;rcases bK.mp h with h | h
  ·exact .inr ⟨p,.head _,h⟩
  ·rcases aO.mp h with h | h
   ·exact .inl h
   ·rcases a4s h with h | ⟨x,hx,h⟩
    ·exact .inl h
    ·exact .inr ⟨x,.tail _ hx,h⟩
theorem a5S {n:Int} (h:0<=n) {d:Nat} (hd:d∈cs (p9 n)):48<=d/\d<=57:=by
 obtain ⟨m,rfl⟩:=fX h;have:=Tx.num_digits m d hd;omega
theorem a1Z {ns:List Int} (h:∀ n∈ns,0<=n) {d:Nat} (hd:d∈cs (T1 ns)):d=44\/(48<=d/\d<=57):=by
 rcases a4s hd with e | ⟨p,hp,hd⟩
 ·exact .inl e
 ·obtain ⟨n,hn,rfl⟩:=aZ.mp hp
  exact .inr (a5S (h n hn) hd)
theorem a1C (h:d8):o4 h=Str.join (ch 62) [T1 h.1,T1 h.2]:=by
 refine ext ?_;rw [J7];unfold o4;rw [cs_app,cs_app,cs_app]
 show cs (T1 h.1)++([62]++(cs (T1 h.2)++[]))=_
 rw [dJ]; rfl
def Pos (h:d8):Prop:=(∀ n∈h.1,0<=n)/\∀ n∈h.2,0<=n
theorem a2l {h:d8} (p:Pos h) {d:Nat} (hd:d∈cs (o4 h)):d=44\/d=62\/(48<=d/\d<=57):=by
 rw [a1C] at hd;rcases a4s hd with e | ⟨x,hx,hd⟩
 ·exact .inr (.inl e)
 ·rcases aO.mp hx with rfl | hx
  ·exact (a1Z p.1 hd).imp id .inr
  ·rw [aQ.mp hx] at hd
   exact (a1Z p.2 hd).imp id .inr
theorem a2t {ns:List Int} (h0:ns≠[]) (h:∀ n∈ns,0<=n/\n<10 ^ 10):E7 (T1 ns)=some ns:=by
 unfold E7 T1;rw [P3 (by simpa using h0) (λ p hp z=>by
  obtain ⟨n,hn,rfl⟩:=aZ.mp hp;have:=a5S (h n hn).1 z;omega)]
 have:(ns.map p9).map y6=ns.map some:=by
  rw [aW];refine cU λ n hn=>?_;obtain ⟨h1,h2⟩:=h n hn;obtain ⟨m,rfl⟩:=fX h1;exact Tx.read_num (by omega)
 rw [this,a1S]
theorem AnyH.pos {h:d8} (a:AnyH h):Pos h:=⟨λ n hn=>by have:=a.2.2.1.2 n hn; omega,λ n hn=>(a.2.2.2.1.2 n hn).1⟩
theorem a1G {h:d8} (a:AnyH h):D4 (o4 h)=some h:=by
 unfold D4;rw [a1C,P3 (by simp) (λ p hp z=>by
  rcases aO.mp hp with rfl | hp
  ·have:=a1Z a.pos.1 z; omega
  ·rw [aQ.mp hp] at z
   have:=a1Z a.pos.2 z; omega)]
 have n1:h.1≠[]:=λ z=>by have:=a.1.1; rw [z] at this; simp at this
 have n2:h.2≠[]:=λ z=>by have:=a.2.1.1; rw [z] at this; simp at this
 have e1:=a2t n1 (λ n hn=>by have:=a.2.2.1.2 n hn; omega);have e2:=a2t n2 (λ n hn=>by have:=a.2.2.2.1.2 n hn; omega)
 show (match [E7 (T1 h.1),E7 (T1 h.2)] with
  | [some a,some b]=>_
  | _=>none)=_
 rw [e1,e2];exact if_pos a
theorem IsB.any {hs:List d8} (b:IsB hs):∀ h∈hs,AnyH h:=λ h hh=>by
 obtain ⟨_,h0,e0,a0,g⟩:=b;have gh:=g h hh;have l1:h.1.length=h0.1.length:=by have:=gh.1.1; omega
 have l2:h.2.length=h0.2.length:=by have:=gh.2.1.1; omega
 refine ⟨by rw [l1]; exact a0.1,by rw [l2]; exact a0.2.1,?_⟩;rw [l1,l2]; exact gh
theorem a6t {hs:List d8} (b:IsB hs):a0G (V9 hs)=some hs:=by
 have ne:hs.map o4≠[]:=λ z=>by
  have:=b.1.1;rw [jK.mp z] at this; simp at this
 have:W3 ((Txt.split (V9 hs) (ch 10)).map D4)=some hs:=by
  unfold V9;rw [P3 ne (λ p hp z=>by
   obtain ⟨h,hh,rfl⟩:=aZ.mp hp;have:=a2l (b.any h hh).pos z;omega),aW]
  have:hs.map (D4 ∘ o4)=hs.map some:=cU λ h hh=>a1G (b.any h hh);rw [this,a1S]
 unfold a0G;rw [this];exact if_pos b
theorem P5 {w:S} {fs:List Str} {r:List S} {ts:List Th} (hw:32 ∉ cs w) (hr:∀ p∈r,32 ∉ cs p) (hf:FORML.lookup w=some fs) (hl:r.length=fs.length) (ht:bG A0 fs r=ts.map some):C5 (Str.join (ch 32) (w::r))=some (w,ts):=by
 unfold C5;rw [P3 (by simp) (λ p hp=>by
  rcases aO.mp hp with rfl | hp
  ·exact hw
  ·exact hr p hp)]
 show (match FORML.lookup w with
  | none=>none
  | some fs=>if r.length=fs.length then (W3 (bG A0 fs r)).map (λ ts=>(w,ts)) else none)=_
 rw [hf]
 show (if r.length=fs.length then (W3 (bG A0 fs r)).map (λ ts=>(w,ts)) else none)=_
 rw [if_pos hl,ht,a1S]; rfl
theorem a3T {m:Nat} (h:m<10 ^ 10):A0 "K" (p9 (m:Int))=some (Th.k m):=by
 unfold A0;rw [if_pos rfl,Tx.read_num h]; rfl
theorem a7s {h:d8} (a:AnyH h):A0 "HOUSE" (o4 h)=some (Th.h h):=by
 unfold A0;rw [if_neg (by decide +kernel),if_pos rfl,a1G a]; rfl
theorem b2D {z:S} (h:W4 z):A0 "WORD" z=some (Th.w z):=by
 unfold A0;rw [if_neg (by decide +kernel),if_neg (by decide +kernel),if_pos h]
theorem a2M {m:Nat} {c:Nat} (h:c<48\/57<c):c ∉ cs (p9 (m:Int)):=λ z=>by
 have:=a5S (jN m) z;omega
theorem a2J {h:d8} (a:AnyH h):32 ∉ cs (o4 h):=λ z=>by have:=a2l a.pos z; omega
theorem a3k {h:d8} (a:AnyH h):C5 (("house ":Str)++o4 h)=some (("house":Str),[Th.h h]):=by
 have e:("house ":Str)++o4 h=Str.join (ch 32) [("house":Str),o4 h]:=by
  refine ext ?_;rw [J7,cs_app]; rfl
 rw [e];exact P5 (by decide +kernel) (λ p hp=>by rw [aQ.mp hp]; exact a2J a) (fs:=["HOUSE"]) rfl rfl (by show [A0 "HOUSE" (o4 h)]=_; rw [a7s a]; rfl)
theorem a9T {m:Nat} (hm:m<10 ^ 10):C5 (("drop ":Str)++p9 (m:Int))=some (("drop":Str),[Th.k m]):=by
 have e:("drop ":Str)++p9 (m:Int)=Str.join (ch 32) [("drop":Str),p9 (m:Int)]:=by
  refine ext ?_;rw [J7,cs_app]; rfl
 rw [e];exact P5 (by decide +kernel) (λ p hp=>by rw [aQ.mp hp]; exact a2M (by omega)) (fs:=["K"]) rfl rfl (by show [A0 "K" (p9 m)]=_; rw [a3T hm]; rfl)
theorem a8k {m:Nat} (hm:m<10 ^ 10):C5 (("share ":Str)++p9 (m:Int))=some (("share":Str),[Th.k m]):=by
 have e:("share ":Str)++p9 (m:Int)=Str.join (ch 32) [("share":Str),p9 (m:Int)]:=by
  refine ext ?_;rw [J7,cs_app]; rfl
 rw [e];exact P5 (by decide +kernel) (λ p hp=>by rw [aQ.mp hp]; exact a2M (by omega)) (fs:=["K"]) rfl rfl (by show [A0 "K" (p9 m)]=_; rw [a3T hm]; rfl)
theorem a8o {m:Nat} {h:d8} (hm:m<10 ^ 10) (a:AnyH h):C5 (("alter ":Str)++p9 (m:Int)++(" ":Str)++o4 h)=some (("alter":Str),[Th.k m,Th.h h]):=by
 have e:("alter ":Str)++p9 (m:Int)++(" ":Str)++o4 h=Str.join (ch 32) [("alter":Str),p9 (m:Int),o4 h]:=by
  refine ext ?_;rw [J7,J7,cs_app,cs_app,cs_app]
  show ([97,108,116,101,114,32]++cs (p9 (m:Int))++[32])++cs (o4 h)=[97,108,116,101,114]++32::(cs (p9 (m:Int))++32::cs (o4 h))
  simp
 rw [e];exact P5 (by decide +kernel) (λ p hp=>by
  rcases aO.mp hp with rfl | hp
  ·exact a2M (by omega)
  ·rw [aQ.mp hp]; exact a2J a) (fs:=["K","HOUSE"]) rfl rfl (by show [A0 "K" (p9 m),A0 "HOUSE" (o4 h)]=_; rw [a3T hm,a7s a]; rfl)
theorem a7S {z:S} (hz:W4 z):C5 (("sizes ":Str)++z)=some (("sizes":Str),[Th.w z]):=by
 have e:("sizes ":Str)++z=Str.join (ch 32) [("sizes":Str),z]:=by
  refine ext ?_;rw [J7,cs_app]; rfl
 rw [e];exact P5 (by decide +kernel) (λ p hp=>by rw [aQ.mp hp]; rcases hz with rfl | rfl | rfl | rfl <;> decide +kernel) (fs:=["WORD"]) rfl rfl (by show [A0 "WORD" z]=_; rw [b2D hz]; rfl)
theorem a2x:C5 ("back":Str)=some (("back":Str),[]):=P5 (w:="back") (r:=[]) (by decide +kernel) (λ _ h=>by cases h) (fs:=[]) rfl rfl rfl
theorem b0b:C5 ("book":Str)=some (("book":Str),[]):=P5 (w:="book") (r:=[]) (by decide +kernel) (λ _ h=>by cases h) (fs:=[]) rfl rfl rfl
end Rim
namespace Rim
open PySem L2 Fr
open Tx (S cs ch p9 K7 B7 y6 cs_app X6 ext)
theorem b2C {z:S} (h:K7 z):(PyData.str z).canLay0=true:=by
 rw [PyData.canLay0];unfold PyData.strOk;rw [<- Array.all_toList,dB];intro c hc;have:=h c hc;exact decide_eq_true (by omega)
def tdD (an:S):PyData:=.tuple [.str an,.list []]
theorem a2S {an:S} (h:K7 an):(tdD an).canLay0=true:=by
 unfold tdD;rw [PyData.canLay0,PyData.canLayAll0,PyData.canLayAll0,PyData.canLayAll0,b2C h];rfl
theorem a5V (an:S):(tdD an).depth<=60:=by
 unfold tdD;simp [PyData.depth,PyData.depthAll]
theorem a3B {K:W.Frag} {H:Hp} {r kl:Addr} {an:S} (h1:H r=some (.tup [.str an,.ref kl])) (h2:H kl=some (.lst [])):Dp K H (.ref r) (tdD an) :=
 .tup (SqT.of h1) (.cons (.str an) (.cons (.lst (SqL.of h2) .nil) .nil))
def rfD (d:PyData):PyData:=.tuple [.none,d]
theorem b1J {σ:St} {H:Hp} {td:TE} {due:S} {Q:VK} (hd:∀ Q1:VK,Q1 (.str due) H->td σ H Q1) (q:∀ t el H',Same H H'->H' t=some (.tup [.str due,.ref el])->H' el=some (.lst [])->Q (.ref t) H'):a2k (A3 td (A3 (a7M G6) G6)) σ H Q:=by
 refine hd _ ⟨(by show 0<=sizeLine; decide),λ el hel=>⟨(by show 2<=sizeLine; decide),λ t ht=>?_⟩⟩;have s1:=Same.new hel (.lst []);have s2:=Same.new ht (.tup [V.str due,V.ref el]);exact q t el _ (s1.trans s2) upd_same (s2 _ _ upd_same)
def H1 (h:d8):Prop:=∃ t g:Int,h=([t],[g])/\1<=t/\t<=100/\1<=g/\g<=100
structure OkH (m:Nat) (hs:List d8):Prop where
 l1:1<=hs.length
 lm:hs.length<=m
 h:∀ h∈hs,H1 h
theorem H1.gk {h:d8} (a:H1 h):GoodK h 1 1:=by
 obtain ⟨t,g,rfl,h1,h2,h3,h4⟩:=a;refine ⟨⟨rfl,λ x hx=>?_⟩,⟨rfl,λ x hx=>?_⟩,g,.head _,by omega⟩
 ·rw [aQ.mp hx]; omega
 ·rw [aQ.mp hx]; omega
theorem H1.sk {h:d8} (a:H1 h):S5 h:=by
 obtain ⟨t,g,rfl,_⟩:=a;exact ⟨(by show 1<=1000; decide),(by show 1<=1000; decide)⟩
theorem H1.any {h:d8} (a:H1 h):AnyH h:=by
 have:=a.gk;obtain ⟨t,g,rfl,_⟩:=a;exact ⟨⟨by show 1<=1; decide,by show 1<=4; decide⟩,⟨by show 1<=1; decide,by show 1<=4; decide⟩,this⟩
theorem H1.sm {h:d8} (a:H1 h):Sm h.1/\Sm h.2:=b3j a.gk.hg (cD _) (by decide) (by decide)
theorem OkH.b {m:Nat} {hs:List d8} (o:OkH m hs) (hm:m<=16):OkB 1 1 hs:=⟨o.l1,aK o.lm hm,λ h hh=>(o.h h hh).gk.hg,by decide,by decide,by decide⟩
theorem OkH.mono {m k:Nat} {hs:List d8} (o:OkH m hs) (hm:m<=k):OkH k hs:=⟨o.l1,aK o.lm hm,o.h⟩
theorem a4M (t g:Int):o4 ([t],[g])=p9 t++((">":Str)++p9 g):=by
 refine ext ?_;rw [a1C,J7,cs_app,cs_app]; rfl
theorem a7T {h:d8} (p:Pos h):K7 (o4 h):=λ d hd=>by have:=a2l p hd; omega
theorem H1.asc {h:d8} (a:H1 h):K7 (o4 h):=a7T a.any.pos
theorem H1.len {h:d8} (a:H1 h):(o4 h).length<=2300:=a2q a.sm.1 a.sm.2
theorem a5b {hs:List d8} (h:∀ g∈hs,H1 g):K7 (V9 hs):=Tx.join_asc (by decide) λ p hp=>by
 obtain ⟨g,hg,rfl⟩:=aZ.mp hp;exact (h g hg).asc
theorem M7 (x y:S):(x++y).length=x.length+y.length:=by rw [Tx.len_cs,cs_app,aI,<- Tx.len_cs,<- Tx.len_cs]
theorem a2m {m:Nat} (h:m<10 ^ 10):(p9 (m:Int)).length<=10:=U1 (by omega) (by omega)
theorem a8F {x:Q2} {n:Nat} (h:FrB n x):K7 (a1a x):=by
 have h1:=h.p1;have h2:=h.p2;obtain ⟨a,ha⟩:=fX (aX h1);obtain ⟨b,hb⟩:=fX (aX h2);unfold a1a;rw [ha,hb]
 split
 ·exact Tx.num_asc a
 ·refine Tx.asc_app (Tx.num_asc a) (Tx.asc_app ?_ (Tx.asc_app (Tx.num_asc b) ?_))
  ·intro c hc; rw [X6] at hc; rw [aQ.mp hc]; decide
  ·intro c hc; cases hc
inductive a4u (hs:List d8) (z:Str):S->S->List d8->Str->Prop
 | sizes {w:S}:W4 w->a4u hs z (("sizes ":Str)++w) "ok" hs w
 | drop {i:Nat}:i<hs.length->2<=hs.length->a4u hs z (("drop ":Str)++p9 (i:Int)) "ok" (a0i hs i) z
 | alter {i:Nat} {h:d8}:i<hs.length->H1 h->a4u hs z (("alter ":Str)++p9 (i:Int)++(" ":Str)++o4 h) "ok" ((hs.take i++[h])++hs.drop (i+1)) z
 | put {h:d8}:hs.length<16->H1 h->a4u hs z (("house ":Str)++o4 h) (p9 (hs.length:Int)) (hs++[h]) z
structure DW (K:W.Frag) (Pt cE cB cH cR cT cM cL:Addr) (kA kD:List (Str×Addr)) (FA:Addr->Sp->Prop):Prop where
 nh:kA.lookup ("house":Str)=none
 nd:kA.lookup ("drop":Str)=none
 na:kA.lookup ("alter":Str)=none
 ns:kA.lookup ("sizes":Str)=none
 nb:kA.lookup ("back":Str)=none
 nbD:kD.lookup ("back":Str)=none
 wh:Way kD FA "house" (b0R K cB cM)
 wd:Way kD FA "drop" (a5I K cH cB)
 wa:Way kD FA "alter" (a2i K cH cB)
 ws:Way kD FA "sizes" (a6f K)
 wb:Way kA FA "book" (a3U K)
 wS:Way kA FA "share" (a2N K cH Pt)
 MB:J8 K cB cE cB cH cR cT cM cL true false false false false false
 MH:J8 K cH cE cB cH cR cT cM cL false true false false false false
 MM:J8 K cM cE cB cH cR cT cM cL false false false false true false
 ML:J8 K cL cE cB cH cR cT cM cL false false false false false true
def b4R (P:Program) (w:World) (K:W.Frag) (mg:Str->Option Value) (base:Heap) (N:Nat):Addr->Sp->Prop:=λ g sp=>∀ n:Nat,Fn1 P w K mg base (n+N) g sp
theorem E9 {z:S} (h:(cs z).all (λ c=>decide (c<128))=true):K7 z:=λ c hc=>of_decide_eq_true (dB.mp h c hc)
section
variable {P:Program} {w:World} {K:W.Frag} {mg:Str->Option Value} {base:Heap} {f C Pt:Addr} {fd:FuncData} {n:Nat} {kA kD:List (Str×Addr)} {FA:Addr->Sp->Prop} {cE cB cH cR cT cM cL:Addr} {H:Hp} {p pa:Addr} {lo:List Addr} {Q:VK} {E:XK} {row:S}
theorem a1i {hs hs':List d8} {z z':Str} {past:List DS} {due:S} {m:Nat} (W:DW K Pt cE cB cH cR cT cM cL kA kD FA) (D:Dq41 K C Pt H p pa lo ((hs,z),past)) (o:OkH m hs) (hm:m<=16) (st:a4u hs z row due hs' z') (q:a0n K C Pt H p pa lo ((hs',z'),past++[(hs,z)]) due Q) :
  N4 K C cL cR cE cB cH cR cT cM cL kA kD FA [.ref p,.str row] H Q E:=by
 have l16:hs.length<=16:=aK o.lm hm
 cases st with
 | sizes hw=>exact a6k D (by rcases hw with rfl | rfl | rfl | rfl <;> exact E9 (by decide +kernel)) (by rcases hw with rfl | rfl | rfl | rfl <;> decide +kernel) (a7S hw) W.ns W.ws q
 | @drop i hi h2 =>
  refine a7B D l16 (Tx.asc_app (E9 (by decide +kernel)) (Tx.num_asc i)) ?_ (a9T (by omega)) (K3 (by omega)) W.nd W.wd W.MB W.MH (λ j hj hl _=>?_) (λ bad=>absurd ⟨by omega,by omega⟩ bad) (λ _ h1=>absurd h1 (by omega))
  ·rw [M7]
   have:=a2m (m:=i) (by omega);have:(("drop ":Str):S).length=5:=by decide +kernel
   omega
  have:j=i:=by omega
  subst this;exact q
 | @alter i h hi hh =>
  refine a5U D (o.b hm) (Tx.asc_app (Tx.asc_app (Tx.asc_app (E9 (by decide +kernel)) (Tx.num_asc i)) (E9 (by decide +kernel))) hh.asc) ?_ (a8o (by omega) hh.any) (K3 (by omega)) hh.sk W.na W.wa W.MB W.MH (λ j hj hl _=>?_) (λ bad=>absurd ⟨by omega,by omega⟩ bad) (λ _ h1=>absurd hh.gk h1)
  ·rw [M7,M7,M7]
   have:=a2m (m:=i) (by omega);have:=hh.len;have:(("alter ":Str):S).length=6:=by decide +kernel
   have:((" ":Str):S).length=1:=by decide +kernel
   omega
  ·have:j=i:=by omega
   subst this;exact q
 | @put h hl hh =>
  refine a5a D (o.b hm) (Tx.asc_app (E9 (by decide +kernel)) hh.asc) ?_ (a3k hh.any) hh.sk W.nh W.wh W.MB W.MM (λ _ _=>q) (λ bad=>absurd hh.gk bad) (λ _ bad=>absurd bad (by omega));rw [M7];have:=hh.len;have:(("house ":Str):S).length=6:=by decide +kernel
  omega
end
end Rim
namespace L2
open PySem PySem.Spec PyProof.Rows
section
variable {b:Bool} {xs:List V} {K:W.Frag} {l:Addr} {fr:List Nat} {tc:TT} {te:TE} {σ:St} {H1:Hp} {p:Addr} {D:Hp->Prop}
end
end L2
namespace L2
open PySem
end L2
namespace Rim
open PySem L2 Fr
section
variable {P:Program} {w:World} {K:W.Frag} {mg:Str->Option Value} {base:Heap} {f:Addr} {fd:FuncData} {n:Nat}
theorem b2e {n:Nat} {fr:List Nat} {σ:St} {i j:Nat} {v u:V} (hi:i<n) (hj:j<n):Wk (blkσ n fr σ) (((blkσ n fr σ).set i (some v)).set j (some u)):=by
 refine ⟨by simp,λ k w e=>?_⟩;have:¬ k<n:=λ hk=>by
  unfold blkσ at e;rw [bV (by simpa using hk),dW] at e
  split at e <;> cases e
 rw [bM (by omega),bM (by omega)]; exact e
structure b7Y (pt pg:List Int) (ps D L:Int):Prop where
 l:0<L
 d:L∣D
 t:∀ x∈pt,(low x D).2∣L
 g:∀ x∈pg,(low x D).2∣L
 s:(low ps D).2∣L
end
end Rim
namespace L2
open PySem
def b4V (t:TT):TT:=λ σ H Q=>∃ M:Bool->Hp->Prop,t σ H M/\∀ b H',M b H'->Q b H'
theorem b1u {X:Cx} {e:Expr} {t:TT} (h:PT X e t):PT X e (b4V t):=λ pins s σ H Q I ⟨M,h1,h2⟩=>y9 (h pins s σ H M I h1) λ b s' ⟨H',I',q⟩=>⟨H',I',h2 b H' q⟩
end L2
namespace Rim
open PySem L2 Fr
open Tx (S cs ch p9 K7 B7 y6 cs_app X6 ext)
section
variable {P:Program} {w:World} {K:W.Frag} {mg:Str->Option Value} {base:Heap} {f C Pt:Addr} {fd:FuncData} {n:Nat} {kA kD:List (Str×Addr)} {FA:Addr->Sp->Prop} {cE cB cH cR cT cM cL:Addr}
def Z5 (K:W.Frag):Sp:=λ vs H Q _=>∃ (a:Addr) (xs:List V) (hs:List d8),vs=[.ref a]/\SqL K H a xs/\Bk K H xs hs/\hs.length<=100/\(∀ h∈hs,H1 h)/\∀ H',Same H H'->Q (.str (V9 hs)) H'
theorem b2y:i9 ["book"] ["book"] (d0 S6):=⟨rfl,rfl,rfl,by decide +kernel,rfl,by decide +kernel,by decide +kernel⟩
theorem a7w:(["takes","gives"]:List Str).Nodup:=by decide +kernel
theorem a9k (F:Fun K "_law_a_text" "_law_a_text" S6 f fd) (zs:mg "str"=none):FnOk P w K mg base K5 (n+1) f fd ["book"] (Z5 K):=by
 refine F.ok b2y (λ vs H Q E h=>?_) (λ cdv A outer s H vs Q E hr h=>?_)
 ·obtain ⟨a,xs,hs,rfl,_⟩:=h
  rfl
 obtain ⟨a,xs,hs,rfl,hS,hB,hl,hm,q⟩:=h;refine ⟨_,e7 (j6 (T8 eG gT gU a1R j9 (c6 (R1 ["takes","gives"] [] rfl (G2 (pv 0)) (λ _ _ _ _=>a0x K (n:=2) rfl rfl (j5 (j0 (i:=0) a7w rfl (aC rfl)) (j5 (j0 (i:=1) a7w rfl (aC rfl)) y4)))
  (λ _ _ _ _=>j7 B6 (j7 B6 (p8 x9 rfl zs dC (c6 (p6 (a9X K rfl) (pv 0) e8 (λ _ _=>rfl)) c7)) j9) (p8 x9 rfl zs dC (c6 (p6 (a9X K rfl) (pv 1) e8 (λ _ _=>rfl)) c7)))) c7))),?_⟩
 have xl:xs.length=hs.length:=Paired.length hB;refine ⟨rfl,_,rfl,a,rfl,⟨_,hS⟩,λ p hp=>?_⟩;refine O3 (C2 hS) hp (m8 (by omega)) (λ i y _=>∃ h,hs[i]?=some h/\y=.str (o4 h)) (λ _ _ _ _ r _=>r) (λ i y H2 zs N hy e hp' hN=>?_) (λ zs H2 e hp' len pr=>?_)
 ·obtain ⟨h,hh,⟨b,ta,ga,rfl,p1,p2,p3⟩⟩:=Paired.at hB hy
  have h1:=hm h (bE hh);obtain ⟨t,g,rfl,t1,t2,g1,g2⟩:=id h1;refine ⟨b,_,rfl,e.tseq p1,rfl,_,_,rfl,_,_,rfl,rfl,b2e (by decide) (by decide),?_⟩;have n1:(p9 t).length<=10:=U1 (by omega) (by omega);have n2:(p9 g).length<=10:=U1 (by omega) (by omega);have l1:((">":Str):S).length=1:=by decide +kernel
  refine ⟨_,rfl,ta,_,0,_,rfl,rfl,e.tseq p2,rfl,t,rfl,a1f (by omega) (by omega),p9 t,_,rfl,rfl,by rw [l1,sizeLine_eq]; omega,_,rfl,ga,_,0,_,rfl,rfl,e.tseq p3,rfl,g,rfl,a1f (by omega) (by omega),_,p9 g,rfl,rfl,by rw [M7,l1,sizeLine_eq]; omega,?_⟩;refine hN _ _ (Same.refl _) ⟨_,hh,?_⟩;rw [a4M];refine congrArg V.str (ext ?_);rw [cs_app,cs_app,cs_app,cs_app,cQ]
 ·have ez:zs=(hs.map o4).map V.str:=by
   refine bX λ i=>?_
   by_cases hi:i<zs.length
   ·obtain ⟨h,hh,e1⟩:=pr i _ (aG hi)
    rw [aG hi,e1,aE,aE,hh]; rfl
   ·rw [bH (by omega),bH (by rw [aA,aA]; omega)]
  rw [ez] at hp';refine ⟨_,p,hs.map o4,rfl,rfl,SqL.of hp',?_,?_⟩
  ·have h1:=R7 (B:=2300) (l:=hs.map o4) λ x hx=>by
    obtain ⟨h,hh,rfl⟩:=aZ.mp hx;exact (hm h hh).len
   refine aK (fY h1 _) ?_;rw [aA]
   show hs.length*2300+hs.length*1<=_
   omega
  ·rw [Tx.join_eq]
   exact q _ e
def a5o (K:W.Frag):Sp:=λ vs H Q _=>∃ (b:Addr) (xs:List V) (hs:List d8) (z:Str) (pick:Int),vs=[.ref b,.str z,.int pick]/\H b=some (.lst xs)/\Bk K H xs hs/\OkH 5 hs/\W4 z/\0<=pick/\pick<10000 ∧
 ∀ (H':Hp) (r lt b':Addr) (row due:S) (hs':List d8) (z':Str) (ys:List V),Same H H'->H' r=some (.tup [.str row,.str due,.ref lt])->H' lt=some (.tup [.ref b',.str z'])->H' b'=some (.lst ys)->Bk K H' ys hs'->a4u hs z row due hs' z'->OkH 5 hs'->W4 z'->(b'=b\/H b'=none)->K7 due->Q (.ref r) H'
abbrev b2M:List Str:=["book","sizes","pick","house","text","word","at"]
theorem scNext41:i9 b2M ["book","sizes","pick"] (d0 G8):=⟨rfl,rfl,rfl,by decide +kernel,rfl,by decide +kernel,by decide +kernel⟩
noncomputable def b1a {cdv:Value} {A:Around} {outer:List Env} {s:Shared} {H:Hp} {E:XK} {f1:Addr} {d1:FuncData} (T:v7 mg) (zs:mg "str"=none) (Ct:J3 P w K mg base n "_law_a_text" ["book"] (Z5 K) f1 d1)
  (hr:Room n (A.deeper (bY "_law_next" (d0 G8) s.heap.objs.size f cdv))) :
  { t:TS // PSs (M3 K5 P w K mg base b2M "_law_next" (d0 G8) f cdv A outer s H E).nox (t9 G8) t } :=
 ⟨_,v5 (p7 (i:=3) scNext41.nd rfl (aC rfl) (v9 (c6 (v9 (c6 (j7 G4 e8 (j7 E5 (pv 2) e8)) c7)) (c6 (v9 (c6 (j7 G4 e8 (j7 E5 (j7 a0X (pv 2) e8) e8)) c7)) c7))))
  (v5 (p7 (i:=4) scNext41.nd rfl (aC rfl) (j4 Ct.ok hr rfl Ct.m Ct.k Ct.b .nil r6 (c6 (x4 (c6 (pv 3) c7)) c7)))
  (v5 (w4 (j8 Z1 (j7 E5 (pv 2) e8) e8 (m9 _))
   (v5 (p7 (i:=5) scNext41.nd rfl (aC rfl) (p6 m6 (x4 (c6 j9 (c6 j9 (c6 j9 (c6 j9 c7))))) (j7 E5 (j7 a0X (pv 2) e8) e8) (λ _ _=>rfl)))
   (e7 (j6 (v9 (c6 (j7 B6 j9 (pv 5)) (c6 j9 (c6 (v9 (c6 (pv 0) (c6 (pv 5) c7))) c7))))))) m7)
  (v5 (p7 (i:=6) scNext41.nd rfl (aC rfl) (j7 E5 (j7 a0X (pv 2) e8) (i8 i7 rfl T.len aR (c6 (pv 0) c7))))
  (v5 (w4 (b1u (PW.pt (a0Z (j8 a1H (i8 i7 rfl T.len aR (c6 (pv 0) c7)) e8 (m9 _)) (V0 (PW.pt (W6 (j8 a1H (i8 i7 rfl T.len aR (c6 (pv 0) c7)) e8 (m9 _)) (R0 (j8 a0S (j7 E5 (pv 2) e8) e8 (m9 _)))))))))
   (e7 (j6 (v9 (c6 (j7 B6 j9 (p8 x9 rfl zs dC (c6 (pv 6) c7))) (c6 j9 (c6 (v9 (c6 (j7 A6 (C6 G1 (pv 0) F0 (E8 (pv 6))) (C6 G1 (pv 0) (E8 (j7 G4 (pv 6) e8)) F0)) (c6 (pv 1) c7))) c7)))))) m7)
  (v5 (w4 (j8 a0S (j7 E5 (pv 2) e8) e8 (m9 _))
   (e7 (j6 (v9 (c6 (j7 B6 (j7 B6 (j7 B6 j9 (p8 x9 rfl zs dC (c6 (pv 6) c7))) j9) (pv 4)) (c6 j9 (c6 (v9 (c6 (j7 A6 (j7 A6 (C6 G1 (pv 0) F0 (E8 (pv 6))) (x4 (c6 (pv 3) c7))) (C6 G1 (pv 0) (E8 (j7 G4 (pv 6) e8)) F0)) (c6 (pv 1) c7))) c7)))))) m7)
  (e7 (j6 (v9 (c6 (j7 B6 j9 (pv 4)) (c6 (p8 x9 rfl zs dC (c6 (i8 i7 rfl T.len aR (c6 (pv 0) c7)) c7)) (c6 (v9 (c6 (j7 A6 (pv 0) (x4 (c6 (pv 3) c7))) (c6 (pv 1) c7))) c7)))))))))))⟩
end
end Rim
namespace Rim
open PySem L2 Fr
open Tx (S cs ch p9 K7 B7 y6 cs_app X6 ext)
abbrev b3Y:List V:=[V.str "any",V.str "one",V.str "less",V.str "more"]
theorem b3C {i:Int} (h0:0<=i) (h4:i<4):∃ z,atI b3Y i=some (.str z)/\W4 z:=by
 have:i=0\/i=1\/i=2\/i=3:=by omega
 rcases this with rfl | rfl | rfl | rfl
 ·exact ⟨"any",rfl,.inl rfl⟩
 ·exact ⟨"one",rfl,.inr (.inl rfl)⟩
 ·exact ⟨"less",rfl,.inr (.inr (.inl rfl))⟩
 ·exact ⟨"more",rfl,.inr (.inr (.inr rfl))⟩
theorem b2f {z:S} (h:W4 z):z.length<=4:=by rcases h with rfl | rfl | rfl | rfl <;> decide +kernel
theorem a2r:K7 ("ok":Str):=E9 (by decide +kernel)
section
variable {P:Program} {w:World} {K:W.Frag} {mg:Str->Option Value} {base:Heap} {f C Pt:Addr} {fd:FuncData} {n:Nat} {kA kD:List (Str×Addr)} {FA:Addr->Sp->Prop} {cE cB cH cR cT cM cL:Addr}
theorem a8d {f1:Addr} {d1:FuncData} (F:Fun K "_law_next" "_law_next" G8 f fd) (T:v7 mg) (zs:mg "str"=none) (Ct:J3 P w K mg base n "_law_a_text" ["book"] (Z5 K) f1 d1) :
  FnOk P w K mg base K5 (n+1) f fd ["book","sizes","pick"] (a5o K):=by
 refine F.ok scNext41 (λ vs H Q E h=>?_) (λ cdv A outer s H vs Q E hr h=>?_)
 ·obtain ⟨b,xs,hs,z,pick,rfl,_⟩:=h
  rfl
 obtain ⟨b,xs,hs,z,pick,rfl,hb,hB,ok,hz,pk0,pk1,q⟩:=h;refine ⟨_,(b1a T zs Ct hr).2,?_⟩;have xl:xs.length=hs.length:=Paired.length hB;have l1:=ok.l1;have lm:=ok.lm;refine ⟨λ σ' H'=>∃ hv,σ'=[some (.ref b),some (.str z),some (.int pick),some hv,none,none,none]/\Same H H'/\HS K H' hv ([1+pick % 30],[1+pick / 30 % 30]),?_,?_⟩
 ·refine ⟨_,rfl,_,_,rfl,rfl,(by show (0:Int)<30; decide),_,_,rfl,rfl,(by show 1<=sizeLine; decide),λ t1 ht1=>?_⟩
  have s1:=Same.new ht1 (.tup [V.int (1+pick % 30)]);refine ⟨_,rfl,_,_,rfl,rfl,(by show (0:Int)<30/\(30:Int)<1073741824; decide),_,_,rfl,rfl,(by show (0:Int)<30; decide),_,_,rfl,rfl,(by show 1<=sizeLine; decide),λ t2 ht2=>?_⟩;have s2:=Same.new ht2 (.tup [V.int (1+pick / 30 % 30)]);refine ⟨(by show 2<=sizeLine; decide),λ t3 ht3=>?_⟩;have s3:=Same.new ht3 (.tup [V.ref t1,V.ref t2]);exact ⟨.ref t3,rfl,s1.trans (s2.trans s3),t3,t1,t2,rfl,SqT.of upd_same,SqT.of (s3 _ _ (s2 _ _ upd_same)),SqT.of (s3 _ _ upd_same)⟩
 intro σ1 H1' hM_; refine N1 λ G_ hG_=>?_; obtain ⟨hv,rfl,e1,hH⟩:=hM_; subst hG_;have h1:H1 ([1+pick % 30],[1+pick / 30 % 30]):=⟨_,_,rfl,by omega,by omega,by omega,by omega⟩;generalize (([1+pick % 30],[1+pick / 30 % 30]):d8)=h at *;refine ⟨λ σ' H'=>σ'=[some (.ref b),some (.str z),some (.int pick),some hv,some (.str (o4 h)),none,none]/\Same H H'/\HS K H' hv h,?_,?_⟩
 ·refine ⟨_,rfl,(by show 1<=sizeLine; decide),λ l hl=>?_⟩
  have s1:=Same.new hl (.lst [hv]);refine ⟨l,_,[h],rfl,SqL.of upd_same,.cons (hH.same s1) .nil,(by show 1<=100; decide),λ g hg=>by rw [aQ.mp hg]; exact h1,λ H2 e2=>?_⟩;exact ⟨rfl,e1.trans (s1.trans e2),(hH.same s1).same e2⟩
 rintro _ H2 ⟨rfl,e2,hH2⟩;have hb2:=e2 _ _ hb;have hB2:=Bk.same e2 hB;have hlen:=h1.len;refine ⟨λ σ' H'=>σ'=[some (.ref b),some (.str z),some (.int pick),some hv,some (.str (o4 h)),none,none]/\H2=H',?_,?_⟩
 ·refine ⟨_,rfl,_,_,rfl,rfl,(by show (0:Int)<7; decide),rfl,_,rfl,?_⟩
  refine A2 (λ c=>?_) (λ c=>⟨rfl,rfl⟩);refine ⟨λ σ' H'=>∃ wd,σ'=[some (.ref b),some (.str z),some (.int pick),some hv,some (.str (o4 h)),some (.str wd),none]/\Same H2 H'/\W4 wd,?_,?_⟩
  ·refine ⟨(by show 4<=sizeLine; decide),λ sl hsl=>?_⟩
   have s1:=Same.new hsl (.lst b3Y);obtain ⟨wd,hz1,hz2⟩:=b3C (i:=pick / 7 % 4) (by omega) (by omega);refine ⟨_,rfl,_,_,rfl,rfl,(by show (0:Int)<7/\(7:Int)<1073741824; decide),_,_,rfl,rfl,(by show (0:Int)<4; decide),sl,b3Y,_,_,rfl,rfl,SqL.of upd_same,hz1,?_⟩;exact ⟨wd,rfl,s1,hz2⟩
  intro σ3 H3 hM_; refine N1 λ G_ hG_=>?_; obtain ⟨wd,rfl,e3,hwd⟩:=hM_; subst hG_;have lw:=b2f hwd;have ls:(("sizes ":Str):S).length=6:=by decide +kernel
  refine ⟨_,rfl,_,_,rfl,rfl,by rw [ls,sizeLine_eq]; omega,_,rfl,_,rfl,(by show 2<=sizeLine; decide),λ lt hlt=>⟨(by show 3<=sizeLine; decide),λ r hr0=>?_⟩⟩;have s1:=Same.new hlt (.tup [V.ref b,V.str wd]);have s2:=Same.new hr0 (.tup [V.str (("sizes ":Str)++wd),V.str "ok",V.ref lt]);have e4:=e2.trans (e3.trans (s1.trans s2));exact q _ r lt b _ _ hs wd xs e4 upd_same (s2 _ _ upd_same) (e4 _ _ hb) (Bk.same e4 hB) (.sizes hwd) ok hwd (.inl rfl) a2r
 rintro _ _ ⟨rfl,rfl⟩;refine ⟨λ σ' H'=>∃ i:Nat,σ'=[some (.ref b),some (.str z),some (.int pick),some hv,some (.str (o4 h)),none,some (.int (i:Int))]/\H2=H'/\i<hs.length,?_,?_⟩
 ·refine ⟨_,rfl,_,_,rfl,rfl,(by show (0:Int)<7/\(7:Int)<1073741824; decide),_,rfl,b,xs,rfl,.inl (SqL.of hb2),_,_,rfl,rfl,(by show (0:Int)<(xs.length:Int); omega),?_⟩
  have a1:=fE (pick / 7) (show (xs.length:Int)≠0 by omega);have a2:=fF (pick / 7) (show (0:Int)<(xs.length:Int) by omega);refine ⟨(pick / 7 % (xs.length:Int)).toNat,?_,rfl,by omega⟩;rw [show (((pick / 7 % (xs.length:Int)).toNat:Nat):Int)=pick / 7 % (xs.length:Int) by omega];rfl
 intro σ3 H3 hM_; refine N1 λ G_ hG_=>?_; obtain ⟨i,rfl,rfl,hi⟩:=hM_; subst hG_;have ni:=a2m (m:=i) (by omega);have out_ok:2<=hs.length->OkH 5 (a0i hs i):=λ h2=>⟨by rw [Y7 hi]; omega,by rw [Y7 hi]; omega,λ g hg=>ok.h g (a9d hg)⟩;refine ⟨λ σ' H'=>σ'=[some (.ref b),some (.str z),some (.int pick),some hv,some (.str (o4 h)),none,some (.int (i:Int))]/\H2=H'/\hs.length<=4,?_,?_⟩
 ·refine ⟨λ b H'=>H2=H'/\(b=true->2<=hs.length)/\(b=false->hs.length<=4),?_,?_⟩
  ·refine ⟨_,rfl,b,xs,rfl,.inl (SqL.of hb2),_,_,rfl,rfl,_,rfl,?_⟩
   refine A2 (λ c=>?_) (λ c=>?_)
   ·exact ⟨rfl,λ _=>by have:=of_decide_eq_true c; omega,nofun⟩
   ·have c4:hs.length<=4:=by have:=of_decide_eq_false (dZ.mpr c); omega
    refine ⟨_,rfl,b,xs,rfl,.inl (SqL.of hb2),_,_,rfl,rfl,_,rfl,?_⟩;refine A2 (λ d=>?_) (λ d=>?_)
    ·have d1:2<=hs.length:=by have:=of_decide_eq_true d; omega
     exact ⟨_,rfl,_,_,rfl,rfl,(by show (0:Int)<7; decide),_,_,rfl,rfl,_,rfl,rfl,λ _=>d1,λ _=>c4⟩
    ·exact ⟨rfl,nofun,λ _=>c4⟩
  rintro t H4 ⟨rfl,y1,y2⟩
  cases t with
  | false=>exact D6 ⟨rfl,rfl,y2 rfl⟩
  | true =>
   refine G5 ?_;have l2:=y1 rfl;have ls:(("drop ":Str):S).length=5:=by decide +kernel
   refine ⟨_,rfl,(i:Int),rfl,K3 (by omega),_,p9 (i:Int),rfl,rfl,by rw [ls,sizeLine_eq]; omega,?_⟩;refine ⟨_,rfl,_,rfl,_,rfl,b,_,rfl,SqL.of hb2,λ b1 hb1=>?_⟩;rw [a0p _ _ (by omega)];have s1:=Same.new hb1 (.lst (xs.take i));refine ⟨_,rfl,_,rfl,_,_,rfl,rfl,_,rfl,b,_,rfl,SqL.of (s1 _ _ hb2),λ b2 h2=>?_⟩;rw [show ((i:Int)+1)=((i+1:Nat):Int) by omega,U0 _ _ (by omega)];have s2:=Same.new h2 (.lst (xs.drop (i+1)));refine ⟨b1,b2,_,_,rfl,rfl,s2 _ _ upd_same,upd_same,by rw [sizeLine_eq]; simp; omega,λ r hr0=>?_⟩;have s3:=Same.new hr0 (.lst (xs.take i++xs.drop (i+1)));refine ⟨_,rfl,(by show 2<=sizeLine; decide),λ lt hlt=>⟨(by show 3<=sizeLine; decide),λ rr hrr=>?_⟩⟩;have s4:=Same.new hlt (.tup [V.ref r,V.str z]);have s5:=Same.new hrr (.tup [V.str (("drop ":Str)++p9 (i:Int)),V.str "ok",V.ref lt]);have e13:=e2.trans (s1.trans s2);have e5:=e13.trans (s3.trans (s4.trans s5));exact q _ rr lt r _ _ (a0i hs i) z _ e5 upd_same (s5 _ _ upd_same) (s5 _ _ (s4 _ _ upd_same)) ((Bk.same e5 hB).out i) (.drop hi l2) (out_ok l2) hz (.inr (e13.free hr0)) a2r
 rintro _ _ ⟨rfl,rfl,l4⟩;refine ⟨λ σ' H'=>σ'=[some (.ref b),some (.str z),some (.int pick),some hv,some (.str (o4 h)),none,some (.int (i:Int))]/\H2=H',?_,?_⟩
 ·refine ⟨_,rfl,_,_,rfl,rfl,(by show (0:Int)<7; decide),_,_,rfl,rfl,_,rfl,?_⟩
  refine A2 (λ c=>?_) (λ c=>⟨rfl,rfl⟩);have la:(("alter ":Str):S).length=6:=by decide +kernel
  have lb:((" ":Str):S).length=1:=by decide +kernel
  refine ⟨_,rfl,(i:Int),rfl,K3 (by omega),_,p9 (i:Int),rfl,rfl,by rw [la,sizeLine_eq]; omega,_,_,rfl,rfl,by rw [M7,la,lb,sizeLine_eq]; omega,_,rfl,_,o4 h,rfl,rfl,by rw [M7,M7,la,lb,sizeLine_eq]; omega,?_⟩;refine ⟨_,rfl,_,rfl,_,rfl,b,_,rfl,SqL.of hb2,λ b1 hb1=>?_⟩;rw [a0p _ _ (by omega)];have s1:=Same.new hb1 (.lst (xs.take i));refine ⟨_,rfl,(by show 1<=sizeLine; decide),λ b3 h3=>?_⟩;have s1b:=Same.new h3 (.lst [hv]);refine ⟨b1,b3,_,_,rfl,rfl,s1b _ _ upd_same,upd_same,by rw [sizeLine_eq]; simp; omega,λ b4 h4'=>?_⟩;have s1c:=Same.new h4' (.lst (xs.take i++[hv]));have s1d:=s1.trans (s1b.trans s1c);refine ⟨_,rfl,_,rfl,_,_,rfl,rfl,_,rfl,b,_,rfl,SqL.of (s1d _ _ hb2),λ b2 h2=>?_⟩;rw [show ((i:Int)+1)=((i+1:Nat):Int) by omega,U0 _ _ (by omega)];have s2:=Same.new h2 (.lst (xs.drop (i+1)));refine ⟨b4,b2,_,_,rfl,rfl,s2 _ _ upd_same,upd_same,by rw [sizeLine_eq]; simp; omega,λ r hr0=>?_⟩;have s3:=Same.new hr0 (.lst ((xs.take i++[hv])++xs.drop (i+1)));refine ⟨_,rfl,(by show 2<=sizeLine; decide),λ lt hlt=>⟨(by show 3<=sizeLine; decide),λ rr hrr=>?_⟩⟩;have s4:=Same.new hlt (.tup [V.ref r,V.str z]);have s5:=Same.new hrr (.tup [V.str (("alter ":Str)++p9 (i:Int)++(" ":Str)++o4 h),V.str "ok",V.ref lt]);have e13:=s1d.trans s2;have e35:=s3.trans (s4.trans s5);have e25:=e13.trans e35;have bk:=Bk.same (e2.trans e25) hB;refine q _ rr lt r _ _ ((hs.take i++[h])++hs.drop (i+1)) z _ (e2.trans e25) upd_same (s5 _ _ upd_same) (s5 _ _ (s4 _ _ upd_same)) (Paired.app (Paired.app (Paired.take i bk) (.cons (hH2.same e25) .nil)) (Paired.drop (i+1) bk)) (.alter hi h1) ⟨?_,?_,λ g hg=>?_⟩ hz (.inr ((e2.trans e13).free hr0)) a2r
  ·simp; omega
  ·simp; omega
  ·rcases bK.mp hg with hg | hg
   ·rcases bK.mp hg with hg | hg
    ·exact ok.h g (fV hg)
    ·rw [aQ.mp hg]; exact h1
   ·exact ok.h g (fW hg)
 rintro _ _ ⟨rfl,rfl⟩;have lh:(("house ":Str):S).length=6:=by decide +kernel
 refine ⟨_,rfl,_,o4 h,rfl,rfl,by rw [lh,sizeLine_eq]; omega,_,rfl,b,xs,rfl,.inl (SqL.of hb2),_,rfl,K3 (by omega),?_⟩;refine ⟨_,rfl,_,rfl,(by show 1<=sizeLine; decide),λ b3 h3=>?_⟩;have s1:=Same.new h3 (.lst [hv]);refine ⟨b,b3,_,_,rfl,rfl,s1 _ _ hb2,upd_same,by rw [sizeLine_eq]; simp; omega,λ r hr0=>?_⟩;have s3:=Same.new hr0 (.lst (xs++[hv]));refine ⟨_,rfl,(by show 2<=sizeLine; decide),λ lt hlt=>⟨(by show 3<=sizeLine; decide),λ rr hrr=>?_⟩⟩;rw [xl];have s4:=Same.new hlt (.tup [V.ref r,V.str z]);have s5:=Same.new hrr (.tup [V.str (("house ":Str)++o4 h),V.str (p9 (hs.length:Int)),V.ref lt]);have e35:=s3.trans (s4.trans s5);have e25:=s1.trans e35;refine q _ rr lt r _ _ (hs++[h]) z _ (e2.trans e25) upd_same (s5 _ _ upd_same) (s5 _ _ (s4 _ _ upd_same)) (Paired.app (Bk.same (e2.trans e25) hB) (.cons (hH2.same e25) .nil)) (.put (by omega) h1) ⟨?_,?_,λ g hg=>?_⟩ hz (.inr ((e2.trans s1).free hr0)) (Tx.num_asc _)
 ·simp
 ·simp; omega
 ·rcases bK.mp hg with hg | hg
  ·exact ok.h g hg
  ·rw [aQ.mp hg]; exact h1
end
end Rim
namespace L2
open PySem
theorem LamTab.ne {P:Addr} {pos:Pos} {qual:Str} {H:Hp} {b:Addr} {o:HO} (T:LamTab P pos qual H) (h:H b=some o) (n:∀ ps,o≠.tbl ps):b≠P:=λ z=>by
 subst z;rcases T with t | ⟨c,t,_⟩
 ·rw [h] at t; exact n _ (aJ t)
 ·rw [h] at t; exact n _ (aJ t)
section
variable {fr:List Nat} {te:TE} {σ:St} {H1:Hp} {p:Addr} {D:Hp->Prop} {P:Addr} {pos:Pos} {qual:Str} {n:Nat}
end
end L2
namespace Rim
open PySem L2 Fr
open Tx (S cs ch p9 K7 B7 y6 cs_app X6 ext)
section
variable {P:Program} {w:World} {K:W.Frag} {mg:Str->Option Value} {base:Heap} {f C Pt:Addr} {fd:FuncData} {n:Nat} {kA kD:List (Str×Addr)} {FA:Addr->Sp->Prop} {cE cB cH cR cT cM cL:Addr}
def a3d (K:W.Frag) (C Pt:Addr):Sp:=λ vs H Q _=>∃ (p pa b:Addr) (lo:List Addr) (xs:List V) (hs:List d8) (z:Str) (past:List DS),vs=[.ref p,.ref b,.str z]/\Dq41 K C Pt H p pa lo ((hs,z),past)/\OkH 16 hs/\W4 z/\H b=some (.lst xs)/\Bk K H xs hs/\b≠pa ∧
 ∀ (H':Hp) (lo':List Addr),Dq41 K C Pt H' p pa lo' ((hs,z),past)->Left Pt p pa H H'->(∀ c∈lo',c∈lo\/H c=none)->Q (.bl true) H'
theorem a7U:i9 ["desk","book","sizes"] ["desk","book","sizes"] (d0 D5):=⟨rfl,rfl,rfl,by decide +kernel,rfl,by decide +kernel,by decide +kernel⟩
noncomputable def b0D {cdv:Value} {A:Around} {outer:List Env} {s:Shared} {H:Hp} {E:XK} {f1 f2 f3 f4:Addr} {d1 d2 d3 d4:FuncData} (Cs:Cal P w K mg base n "_law_said" ["desk","row"] (N4 K C cL cR cE cB cH cR cT cM cL kA kD FA) f1 d1) (Ct:J3 P w K mg base n "_law_a_text" ["book"] (Z5 K) f2 d2) (Cf:J3 P w K mg base n "fraction_text" ["one"] (a1T K) f3 d3) (Ch:a0K P w K mg base n "share" ["book","number","sizes"] (a0U K cH Pt) f4 d4)
  (hr:Room n (A.deeper (bY "_law_right" (d0 D5) s.heap.objs.size f cdv))) :
  { t:TS // PSs (M3 K5 P w K mg base ["desk","book","sizes"] "_law_right" (d0 D5) f cdv A outer s H E).nox (t9 D5) t } :=
 ⟨_,v5 (w4 (j8 (a0s hr) (j4 Cs.ok hr rfl Cs.m Cs.k Cs.b .nil r6 (c6 (pv 0) (c6 j9 c7))) (v9 (c6 (j4 Ct.ok hr rfl Ct.m Ct.k Ct.b .nil r6 (c6 (pv 1) c7)) (c6 (x4 c7) c7))) (m9 _)) K1 m7)
  (e7 (j6 (Q6 (b0E hr) (j4 Cs.ok hr rfl Cs.m Cs.k Cs.b .nil r6 (c6 (pv 0) (c6 j9 c7))) (v9 (c6 (j4 Cf.ok hr rfl Cf.m Cf.k Cf.b .nil r6 (c6 (j4 (a3m Ch.ok) hr rfl Ch.m Ch.k Ch.b .nil a8G (c6 (pv 1) (c6 e8 (c6 (pv 2) c7)))) c7)) (c6 (x4 c7) c7))) (m9 _))))⟩
theorem Dq41.fr {H H':Hp} {p pa:Addr} {lo:List Addr} {S0:SD} (D:Dq41 K C Pt H p pa lo S0) (lf:Left Pt p pa H H'):Fr0 (λ b=>b=p\/b=pa\/b=Pt) H H':=by
 obtain ⟨dx,ba,pv,hp,_,_,hpa,_⟩:=D.d.ex;exact ⟨λ b o hx e=>lf b o (λ z=>hx (.inl z)) (λ z=>hx (.inr (.inr z))) (λ z=>hx (.inr (.inl z))) e,λ x hx=>by
  rcases hx with rfl | rfl | rfl
  ·exact Z3 hp
  ·exact T6 hpa
  ·exact a1u D.t⟩
theorem Dq41.lst {H H':Hp} {p pa b:Addr} {lo:List Addr} {S0:SD} {xs:List V} (D:Dq41 K C Pt H p pa lo S0) (lf:Left Pt p pa H H') (h:H b=some (.lst xs)) (n:b≠pa):H' b=some (.lst xs):=by
 obtain ⟨dx,ba,pv,hp,_,_,hpa,_⟩:=D.d.ex;exact lf b _ (A5 h hp nofun) (D.t.ne h nofun) n h
theorem Dq41.same {H H':Hp} {p pa:Addr} {lo:List Addr} {S0:SD} (e:Same H H') (D:Dq41 K C Pt H p pa lo S0):Dq41 K C Pt H' p pa lo S0:=⟨D.d.same e,D.l,D.t.same e⟩
theorem Dq41.same1 {H H':Hp} {p pa:Addr} {lo:List Addr} {S0:SD} (e:C9 Pt H H') (T':LT Pt H') (D:Dq41 K C Pt H p pa lo S0):Dq41 K C Pt H' p pa lo S0:=by
 obtain ⟨dx,ba,pv,hp,_,_,hpa,_⟩:=D.d.ex;exact ⟨D.d.fr0 (X:=λ b=>b=Pt) ⟨λ b o n h=>e b o n h,λ x hx=>by subst hx; exact a1u D.t⟩ (λ b hb z=>by obtain ⟨xs,hx⟩:=D.d.ls b hb; exact D.t.ne hx nofun z) (D.t.ne hp nofun) (D.t.ne hpa nofun),D.l,T'⟩
theorem b0y {lo lo1 lo2:List Addr} {p pa:Addr} {H H1:Hp} {S0:SD} (D:Dq41 K C Pt H p pa lo S0) (lf:Left Pt p pa H H1) (D1:Dq41 K C Pt H1 p pa lo1 S0) (D2:∀ c∈lo2,c∈lo1\/H1 c=none) (s1:∀ c∈lo1,c∈lo\/H c=none):∀ c∈lo2,c∈lo\/H c=none:=λ c hc=>by
 rcases D2 c hc with h | h
 ·exact s1 c h
 ·cases e:H c with
  | none=>exact .inr rfl
  | some o =>
   exfalso;obtain ⟨dx,ba,pv,hp,_,_,hpa,_⟩:=D1.d.ex;have n1:c≠p:=λ z=>by subst z; rw [hp] at h; cases h
   have n2:c≠pa:=λ z=>by subst z; rw [hpa] at h; cases h
   have n3:c≠Pt:=λ z=>by
    subst z;rcases D1.t with q | ⟨c,q,_⟩ <;> rw [q] at h <;> cases h
   rw [lf c o n1 n3 n2 e] at h; cases h
theorem a5O {f1 f2 f3 f4:Addr} {d1 d2 d3 d4:FuncData} (F:Fun K "_law_right" "_law_right" D5 f fd) (W:DW K Pt cE cB cH cR cT cM cL kA kD FA) (Cs:Cal P w K mg base n "_law_said" ["desk","row"] (N4 K C cL cR cE cB cH cR cT cM cL kA kD FA) f1 d1) (Ct:J3 P w K mg base n "_law_a_text" ["book"] (Z5 K) f2 d2) (Cf:J3 P w K mg base n "fraction_text" ["one"] (a1T K) f3 d3) (Ch:a0K P w K mg base n "share" ["book","number","sizes"] (a0U K cH Pt) f4 d4) :
  FnOk P w K mg base K5 (n+1) f fd ["desk","book","sizes"] (a3d K C Pt):=by
 refine F.ok a7U (λ vs H Q E h=>?_) (λ cdv A outer s H vs Q E hr h=>?_)
 ·obtain ⟨p,pa,b,lo,xs,hs,z,past,rfl,_⟩:=h
  rfl
 obtain ⟨p,pa,b,lo,xs,hs,z,past,rfl,D,ok,hz,hb,hB,nb,q⟩:=h;refine ⟨_,(b0D Cs Ct Cf Ch hr).2,?_⟩;have l1:=ok.l1;have ob:=ok.b (aF _);obtain ⟨h0,hh0⟩:∃ g,hs[0]?=some g:=⟨_,aG (by omega)⟩;refine ⟨λ σ' H'=>σ'=[some (.ref p),some (.ref b),some (.str z)]/\∃ lo',Dq41 K C Pt H' p pa lo' ((hs,z),past)/\Left Pt p pa H H'/\∀ c∈lo',c∈lo\/H c=none,?_,?_⟩
 ·refine ⟨_,rfl,?_⟩
  dsimp only [A3,G6,tC,cJ,bO];refine a7z D ob (E9 (by decide +kernel)) (by decide +kernel) b0b W.wb λ H1' r kl lo1 DK lf LT1 sub hr1 hkl=>?_;have D1:Dq41 K C Pt H1' p pa lo1 ((hs,z),past):=⟨DK,D.l,LT1⟩;have hb1:=D.lst lf hb nb;have hB1:=hB.fr0 (D.fr lf);refine ⟨_,rfl,b,xs,hs,rfl,SqL.of hb1,hB1,by have:=ok.lm; omega,ok.h,λ H2 e2=>?_⟩;refine ⟨(by show 0<=sizeLine; decide),λ el hel=>⟨(by show 2<=sizeLine; decide),λ t ht=>?_⟩⟩;have s1:=Same.new hel (.lst []);have s2:=Same.new ht (.tup [V.str (V9 hs),V.ref el]);have e3:=e2.trans (s1.trans s2);have ba:=a2S (a5b ok.h);refine ⟨tdD (V9 hs),tdD (V9 hs),a3B (e3 _ _ hr1) (e3 _ _ hkl),a3B upd_same (s2 _ _ upd_same),ba,ba,aK (fZ _ _) (a5V _),_,rfl,?_⟩;rw [T4 _ ba];exact D6 ⟨rfl,lo1,D1.same e3,λ c o n1 n2 n3 h=>e3 _ _ (lf c o n1 n2 n3 h),sub⟩
 intro σ1 H1' hM_; refine N1 λ G_ hG_=>?_; obtain ⟨rfl,lo1,D1,lf1,sub1⟩:=hM_; subst hG_;have hb1:=D.lst lf1 hb nb;have hB1:=hB.fr0 (D.fr lf1);refine ⟨_,rfl,?_⟩;have er:C5 ("share 0":Str)=some (("share":Str),[Th.k ((0:Nat):Int)]):=by
  rw [show ("share 0":Str)=("share ":Str)++p9 ((0:Nat):Int) from by decide +kernel];exact a8k (m:=0) (by decide)
 dsimp only [A3,G6,tC,cJ,bO];refine a6l D1 ob hz (num:=((0:Nat):Int)) (E9 (by decide +kernel)) (by decide +kernel) er (by decide) W.wS W.MH (λ i h x hi hh X H2 r kl lo2 DK lf LT2 sub hr2 hkl=>?_) (λ bad=>absurd ⟨by omega,by omega⟩ bad);have:i=0:=by omega
 subst this;rw [hh0] at hh; cases hh;have D2:Dq41 K C Pt H2 p pa lo2 ((hs,z),past):=⟨DK,D.l,LT2⟩;have hb2:=D1.lst lf hb1 nb;have hB2:=hB1.fr0 (D1.fr lf);refine ⟨_,rfl,_,rfl,b,xs,hs,0,z,10 ^ 9,1,1,rfl,hz,⟨SqL.of hb2,hB2,ob.g,by decide,ob.l16,by decide,by decide⟩,by decide,by decide,LT2,λ i h y H3 u hi hh Y e3 L3 hu=>?_,λ bad=>?_⟩
 rotate_left
 ·have xl:xs.length=hs.length:=Paired.length hB
  exact absurd ⟨by omega,by omega⟩ bad
 have:i=0:=by omega
 subst this;rw [hh0] at hh; cases hh;have exy:y=x:=Y.eq hz X ob.g (ob.g _ (bE hh0));subst exy;obtain ⟨a1,a2⟩:=Y.b.logs (by decide);refine ⟨u,y,rfl,hu.v,a1,a2,?_⟩;refine ⟨(by show 0<=sizeLine; decide),λ el hel=>⟨(by show 2<=sizeLine; decide),λ t ht=>?_⟩⟩;have s1:=Same.new hel (.lst []);have s2:=Same.new ht (.tup [V.str (a1a y),V.ref el]);have e4:=s1.trans s2;have nr:r≠Pt:=LT2.ne hr2 nofun;have nk:kl≠Pt:=LT2.ne hkl nofun;have ba:=a2S (a8F Y.b);have D3:=D2.same1 e3 L3;refine ⟨tdD (a1a y),tdD (a1a y),a3B (e4 _ _ (e3 _ _ nr hr2)) (e4 _ _ (e3 _ _ nk hkl)),a3B upd_same (s2 _ _ upd_same),ba,ba,aK (fZ _ _) (a5V _),?_⟩;rw [T4 _ ba];exact q _ lo2 (D3.same e4) (λ c o n1 n2 n3 h=>e4 _ _ (e3 _ _ n2 (lf c o n1 n2 n3 (lf1 c o n1 n2 n3 h)))) (b0y D lf1 D1 sub sub1)
end
end Rim
namespace Rim
open PySem L2 Fr
abbrev a0t (X:Cx) (e:Expr):Prop:=∀ r,starEach (e::r) X.env=(false,eval e X.env)::starEach r X.env
theorem nsT {X:Cx} {es:List Expr} {k:Nat} {p:eU}:a0t X (.Tuple es k p):=λ _=>rfl
theorem nsL {X:Cx} {es:List Expr} {p:eU}:a0t X (.List es p):=λ _=>rfl
theorem nsC {X:Cx} {c:Const} {k:Nat} {p:eU}:a0t X (.Constant c k p):=λ _=>rfl
theorem b3k {X:Cx} {a:Expr} {t:TE} {k:Nat} {p:eU} (n:a0t X a) (h:PE X a t):PE X (.Tuple [a] k p) (a2k (A3 t G6)):=v9 (c6 h c7 (n _))
theorem b2V {X:Cx} {a:Expr} {t:TE} {p:eU} (n:a0t X a) (h:PE X a t):PE X (.List [a] p) (a7M (A3 t G6)):=x4 (c6 h c7 (n _))
theorem b2X {X:Cx} {a b:Expr} {t u:TE} {k:Nat} {p:eU} (n:a0t X a) (m:a0t X b) (h:PE X a t) (g:PE X b u):PE X (.Tuple [a,b] k p) (a2k (A3 t (A3 u G6))):=v9 (c6 h (c6 g c7 (m _)) (n _))
abbrev a9h:TE:=a7M (A3 (a2k (A3 (a7M (A3 (a2k (A3 (a2k (A3 (tC (.int 3)) G6)) (A3 (a2k (A3 (tC (.int 4)) G6)) G6))) G6)) (A3 (tC (.str "any")) G6))) G6)
theorem b2a {X:Cx} {e:Expr} {j1 j2 j3 k1 k2 k3 k4:Nat} {p1 p2 p3 q1 q2 q3 q4 q5 q6:eU} (he:e=.List [.Tuple [.List [.Tuple [.Tuple [.Constant (.int 3) j1 p1] k1 q1,.Tuple [.Constant (.int 4) j2 p2] k2 q2] k3 q3] q4,.Constant (.str "any") j3 p3] k4 q5] q6):PE X e a9h:=by
 subst he;have a1:=b3k (X:=X) (k:=k1) (p:=q1) (nsC (c:=.int 3) (k:=j1) (p:=p1)) e8;have a2:=b3k (X:=X) (k:=k2) (p:=q2) (nsC (c:=.int 4) (k:=j2) (p:=p2)) e8;have m1:=nsT (X:=X) (es:=[.Constant (.int 3) j1 p1]) (k:=k1) (p:=q1);have m2:=nsT (X:=X) (es:=[.Constant (.int 4) j2 p2]) (k:=k2) (p:=q2)
 revert a1 a2 m1 m2
 generalize Expr.Tuple [.Constant (.int 3) j1 p1] k1 q1=e1;generalize Expr.Tuple [.Constant (.int 4) j2 p2] k2 q2=e2;intro a1 a2 m1 m2;have a3:=b2X (k:=k3) (p:=q3) m1 m2 a1 a2;have m3:=nsT (X:=X) (es:=[e1,e2]) (k:=k3) (p:=q3)
 revert a3 m3
 generalize Expr.Tuple [e1,e2] k3 q3=e3;intro a3 m3;have a4:=b2V (p:=q4) m3 a3;have m4:=nsL (X:=X) (es:=[e3]) (p:=q4)
 revert a4 m4
 generalize Expr.List [e3] q4=e4;intro a4 m4;have a5:=b2X (k:=k4) (p:=q5) m4 (nsC (X:=X) (c:=.str "any") (k:=j3) (p:=p3)) a4 j9;have m5:=nsT (X:=X) (es:=[e4,.Constant (.str "any") j3 p3]) (k:=k4) (p:=q5)
 revert a5 m5
 generalize Expr.Tuple [e4,.Constant (.str "any") j3 p3] k4 q5=e5;intro a5 m5;exact b2V m5 a5
@[irreducible] def pastE:Expr:=.List [.Tuple [.List [.Tuple [.Tuple [.Constant (.int 3) 0 ⟨401,16,401,17⟩] 0 ⟨401,15,401,19⟩,.Tuple [.Constant (.int 4) 0 ⟨401,22,401,23⟩] 0 ⟨401,21,401,25⟩] 0 ⟨401,14,401,26⟩] ⟨401,13,401,27⟩,.Constant (.str "any") 0 ⟨401,29,401,34⟩] 0 ⟨401,12,401,35⟩] ⟨401,11,401,36⟩
theorem a8T {X:Cx}:PE X pastE a9h:=b2a (by unfold pastE; rfl)
abbrev nth (i:Nat):Stmt:=(t9 N5).getD i (.Pass ⟨0,0,0,0⟩)
theorem b6B:nth 1=.Assign [.Name "past" ⟨401,4,401,8⟩] pastE ⟨401,4,401,36⟩:=by kernel_rfl
theorem a9g:t9 N5=[nth 0,nth 1,nth 2,nth 3,nth 4,nth 5,nth 6,nth 7,nth 8]:=by kernel_rfl
open Tx (S cs ch p9 K7 B7 y6 cs_app X6 ext)
section
variable {P:Program} {w:World} {K:W.Frag} {mg:Str->Option Value} {base:Heap} {f C Pt:Addr} {fd:FuncData} {n:Nat} {kA kD:List (Str×Addr)} {FA:Addr->Sp->Prop} {cE cB cH cR cT cM cL:Addr}
abbrev b5N:List Str:=["script","heads","past","desk","picks","pick","row","due","later","k"]
theorem scLaw:i9 b5N ["script"] (d0 N5):=⟨rfl,rfl,rfl,by decide +kernel,rfl,by decide +kernel,by decide +kernel⟩
structure Calls (P:Program) (w:World) (K:W.Frag) (mg:Str->Option Value) (base:Heap) (n:Nat) (C Pt cE cB cH cR cT cM cL:Addr) (kA kD:List (Str×Addr)) (FA:Addr->Sp->Prop) (a1 a2 a3 a4 a5 a6 a7:Addr) (d1 d2 d3 d4 d5 d6 d7:FuncData):Prop where
 ce:Cal P w K mg base n "_law_cell_at" ["script","k"] (a9Q K) a1 d1
 dw:Cal P w K mg base n "_law_draws" ["cell","many","base"] (a7g K) a2 d2
 tx:J3 P w K mg base n "_law_a_text" ["book"] (Z5 K) a3 d3
 nx:Cal P w K mg base n "_law_next" ["book","sizes","pick"] (a5o K) a4 d4
 sd:Cal P w K mg base n "_law_said" ["desk","row"] (N4 K C cL cR cE cB cH cR cT cM cL kA kD FA) a5 d5
 rt:Cal P w K mg base n "_law_right" ["desk","book","sizes"] (a3d K C Pt) a6 d6
 du:Cal P w K mg base n "_law_due_kin" ["name"] a3X a7 d7
structure V8 (P:Program) (w:World) (K:W.Frag) (mg:Str->Option Value) (base:Heap) (n:Nat) (C cT fi:Addr) (di:FuncData):Prop where
 mak:Mk K C fi
 ok:FnOk P w K mg base (R3 P w) n fi di ["self","text"] (a6S K C cT)
 bd:Binds K di ["self","text"] []
 m:mg "Desk"=some (.ref C)
abbrev a1P (P:Program) (w:World) (K:W.Frag) (mg:Str->Option Value) (base:Heap) (f:Addr) (cdv:Value) (A:Around) (outer:List Env) (s:Shared) (H:Hp) (E:XK):Cx:=(M3 K5 P w K mg base b5N "law" (d0 N5) f cdv A outer s H E).nox
variable {cdv:Value} {A:Around} {outer:List Env} {s:Shared} {H:Hp} {E:XK} {a1 a2 a3 a4 a5 a6 a7 fi:Addr} {d1 d2 d3 d4 d5 d6 d7 di:FuncData}
noncomputable def b0U (Cs:Calls P w K mg base n C Pt cE cB cH cR cT cM cL kA kD FA a1 a2 a3 a4 a5 a6 a7 d1 d2 d3 d4 d5 d6 d7) (hr:Room n (A.deeper (bY "law" (d0 N5) s.heap.objs.size f cdv))):{ t:TS // PS (a1P P w K mg base f cdv A outer s H E) (nth 4) t } :=
 ⟨_,a1s PassesOwn.never rfl (G2 (C6 G1 (pv 4) F0 (E8 (j7 G4 e8 (j7 E5 (p6 m6 (pv 1) e8 (λ _ _=>rfl)) e8))))) (j0 (i:=5) scLaw.nd rfl (aC rfl))
  (v5 (C3 (j4 Cs.nx.ok hr rfl Cs.nx.m Cs.nx.k Cs.nx.b .nil r6 (c6 (p6 V3 (p6 m6 (pv 2) (P4 G7 e8) (λ _ _=>rfl)) e8 (λ _ _=>rfl)) (c6 (p6 V3 (p6 m6 (pv 2) (P4 G7 e8) (λ _ _=>rfl)) e8 (λ _ _=>rfl)) (c6 (pv 5) c7)))) (E4 rfl (j5 (j0 (i:=6) scLaw.nd rfl (aC rfl)) (j5 (j0 (i:=7) scLaw.nd rfl (aC rfl)) (j5 (j0 (i:=8) scLaw.nd rfl (aC rfl)) y4)))))
  (v5 (w4 (j8 (a0s hr) (j4 Cs.sd.ok hr rfl Cs.sd.m Cs.sd.k Cs.sd.b .nil r6 (c6 (pv 3) (c6 (pv 6) c7))) (v9 (c6 (pv 7) (c6 (x4 c7) c7))) (m9 _)) K1 m7)
  (v5 (J5 (T8 eQ fQ fR O4 (pv 2) (c6 (pv 8) c7)))
  (e7 (w4 (PW.pt (W6 (j8 Z1 (j7 E5 (pv 5) e8) e8 (m9 _)) (R0 (J4 (a0I (j4 Cs.rt.ok hr rfl Cs.rt.m Cs.rt.k Cs.rt.b .nil r6 (c6 (pv 3) (c6 (p6 V3 (pv 8) e8 (λ _ _=>rfl)) (c6 (p6 V3 (pv 8) e8 (λ _ _=>rfl)) c7)))) (λ _=>rfl)))))) K1 m7)))))⟩
noncomputable def tWh (T:v7 mg) (zs:mg "str"=none) (Cs:Calls P w K mg base n C Pt cE cB cH cR cT cM cL kA kD FA a1 a2 a3 a4 a5 a6 a7 d1 d2 d3 d4 d5 d6 d7) (hr:Room n (A.deeper (bY "law" (d0 N5) s.heap.objs.size f cdv))):{ t:TS // PS (a1P P w K mg base f cdv A outer s H E) (nth 5) t } :=
 ⟨_,a2T PassesOwn.never (j8 a1H (i8 i7 rfl T.len aR (c6 (pv 2) c7)) e8 (m9 _))
  (v5 (w4 (j8 Z1 (j7 E5 (i8 i7 rfl T.len aR (c6 (pv 2) c7)) e8) e8 (m9 _))
   (v5 (w4 (j8 (a0s hr) (j4 Cs.sd.ok hr rfl Cs.sd.m Cs.sd.k Cs.sd.b .nil r6 (c6 (pv 3) (c6 j9 c7))) (v9 (c6 (p8 x9 rfl zs dC (c6 (i8 i7 rfl T.len aR (c6 (p6 V3 (p6 m6 (pv 2) (P4 G7 e8) (λ _ _=>rfl)) e8 (λ _ _=>rfl)) c7)) c7)) (c6 (x4 c7) c7))) (m9 _)) K1 m7)
   (e7 (w4 (j8 (a0s hr) (j4 Cs.sd.ok hr rfl Cs.sd.m Cs.sd.k Cs.sd.b .nil r6 (c6 (pv 3) (c6 j9 c7))) (v9 (c6 j9 (c6 (x4 c7) c7))) (m9 _)) K1 m7))) m7)
  (v5 (w4 (j8 (a0s hr) (j4 Cs.sd.ok hr rfl Cs.sd.m Cs.sd.k Cs.sd.b .nil r6 (c6 (pv 3) (c6 j9 c7))) (v9 (c6 j9 (c6 (x4 c7) c7))) (m9 _)) K1 m7)
  (v5 (J5 (a9S eQ kS kU a9N (pv 2)))
  (e7 (w4 (PW.pt (W6 (j8 Z1 (j7 E5 (i8 i7 rfl T.len aR (c6 (pv 2) c7)) e8) e8 (m9 _)) (R0 (J4 (a0I (j4 Cs.rt.ok hr rfl Cs.rt.m Cs.rt.k Cs.rt.b .nil r6 (c6 (pv 3) (c6 (p6 V3 (p6 m6 (pv 2) (P4 G7 e8) (λ _ _=>rfl)) e8 (λ _ _=>rfl)) (c6 (p6 V3 (p6 m6 (pv 2) (P4 G7 e8) (λ _ _=>rfl)) e8 (λ _ _=>rfl)) c7)))) (λ _=>rfl)))))) K1 m7)))))⟩
noncomputable def t0 (T:v7 mg) (zs:mg "str"=none) (M:V8 P w K mg base n C cT fi di) (Cs:Calls P w K mg base (n+1) C Pt cE cB cH cR cT cM cL kA kD FA a1 a2 a3 a4 a5 a6 a7 d1 d2 d3 d4 d5 d6 d7) (hr:Room (n+1) (A.deeper (bY "law" (d0 N5) s.heap.objs.size f cdv))):{ t:TS // PS (a1P P w K mg base f cdv A outer s H E) (nth 0) t } :=
 ⟨_,p7 (i:=1) scLaw.nd rfl (aC rfl) (j4 Cs.dw.ok hr rfl Cs.dw.m Cs.dw.k Cs.dw.b .nil r6 (c6 (j4 Cs.ce.ok hr rfl Cs.ce.m Cs.ce.k Cs.ce.b .nil r6 (c6 (pv 0) (c6 e8 c7))) (c6 e8 (c6 e8 c7))))⟩
theorem sw1:swapsWith pastE (some (.Name "past" ⟨401,4,401,8⟩)) 401 (a1P P w K mg base f cdv A outer s H E).env=pure false:=by
 unfold pastE;rfl
theorem t1:PS (a1P P w K mg base f cdv A outer s H E) (.Assign [.Name "past" ⟨401,4,401,8⟩] pastE ⟨401,4,401,36⟩) (a4A a9h (Q5 2)):=by
 exact p7 (i:=2) scLaw.nd rfl (aC rfl) a8T sw1
noncomputable def t2 (T:v7 mg) (zs:mg "str"=none) (M:V8 P w K mg base n C cT fi di) (Cs:Calls P w K mg base (n+1) C Pt cE cB cH cR cT cM cL kA kD FA a1 a2 a3 a4 a5 a6 a7 d1 d2 d3 d4 d5 d6 d7) (hr:Room (n+1) (A.deeper (bY "law" (d0 N5) s.heap.objs.size f cdv))):{ t:TS // PS (a1P P w K mg base f cdv A outer s H E) (nth 2) t } :=
 ⟨_,p7 (i:=3) scLaw.nd rfl (aC rfl) (a6L M.mak M.ok hr rfl M.m M.bd .nil a8G (c6 (j4 Cs.tx.ok hr rfl Cs.tx.m Cs.tx.k Cs.tx.b .nil r6 (c6 (p6 V3 (p6 m6 (pv 2) e8 (λ _ _=>rfl)) e8 (λ _ _=>rfl)) c7)) c7))⟩
noncomputable def t3 (T:v7 mg) (zs:mg "str"=none) (M:V8 P w K mg base n C cT fi di) (Cs:Calls P w K mg base (n+1) C Pt cE cB cH cR cT cM cL kA kD FA a1 a2 a3 a4 a5 a6 a7 d1 d2 d3 d4 d5 d6 d7) (hr:Room (n+1) (A.deeper (bY "law" (d0 N5) s.heap.objs.size f cdv))):{ t:TS // PS (a1P P w K mg base f cdv A outer s H E) (nth 3) t } :=
 ⟨_,p7 (i:=4) scLaw.nd rfl (aC rfl) (j4 Cs.dw.ok hr rfl Cs.dw.m Cs.dw.k Cs.dw.b .nil r6 (c6 (j4 Cs.ce.ok hr rfl Cs.ce.m Cs.ce.k Cs.ce.b .nil r6 (c6 (pv 0) (c6 e8 c7))) (c6 e8 (c6 (j7 a8V e8 e8) c7))))⟩
noncomputable def t6 (T:v7 mg) (zs:mg "str"=none) (M:V8 P w K mg base n C cT fi di) (Cs:Calls P w K mg base (n+1) C Pt cE cB cH cR cT cM cL kA kD FA a1 a2 a3 a4 a5 a6 a7 d1 d2 d3 d4 d5 d6 d7) (hr:Room (n+1) (A.deeper (bY "law" (d0 N5) s.heap.objs.size f cdv))):{ t:TS // PS (a1P P w K mg base f cdv A outer s H E) (nth 6) t } :=
 ⟨_,w4 (j8 (a0s hr) (j4 Cs.sd.ok hr rfl Cs.sd.m Cs.sd.k Cs.sd.b .nil r6 (c6 (pv 3) (c6 j9 c7))) (v9 (c6 B9 (c6 (j4 Cs.du.ok hr rfl Cs.du.m Cs.du.k Cs.du.b .nil r6 (c6 j9 c7)) c7))) (m9 _)) K1 m7⟩
noncomputable def t7 (T:v7 mg) (zs:mg "str"=none) (M:V8 P w K mg base n C cT fi di) (Cs:Calls P w K mg base (n+1) C Pt cE cB cH cR cT cM cL kA kD FA a1 a2 a3 a4 a5 a6 a7 d1 d2 d3 d4 d5 d6 d7) (hr:Room (n+1) (A.deeper (bY "law" (d0 N5) s.heap.objs.size f cdv))):{ t:TS // PS (a1P P w K mg base f cdv A outer s H E) (nth 7) t } :=
 ⟨_,a1s PassesOwn.never rfl (a0c rfl T.range (c6 e8 c7)) (j0 (i:=9) scLaw.nd rfl (aC rfl))
   (e7 (w4 (j8 (a0s hr) (j4 Cs.sd.ok hr rfl Cs.sd.m Cs.sd.k Cs.sd.b .nil r6 (c6 (pv 3) (c6 (j7 B6 (j7 B6 j9 (p8 x9 rfl zs dC (c6 (j7 G4 (pv 9) e8) c7))) j9) c7))) (v9 (c6 (p8 x9 rfl zs dC (c6 (j7 G4 (pv 9) e8) c7)) (c6 (x4 c7) c7))) (m9 _)) K1 m7))⟩
noncomputable def t8 (T:v7 mg) (zs:mg "str"=none) (M:V8 P w K mg base n C cT fi di) (Cs:Calls P w K mg base (n+1) C Pt cE cB cH cR cT cM cL kA kD FA a1 a2 a3 a4 a5 a6 a7 d1 d2 d3 d4 d5 d6 d7) (hr:Room (n+1) (A.deeper (bY "law" (d0 N5) s.heap.objs.size f cdv))):{ t:TS // PS (a1P P w K mg base f cdv A outer s H E) (nth 8) t } :=
 ⟨_,j6 (Q6 (b0E hr) (j4 Cs.sd.ok hr rfl Cs.sd.m Cs.sd.k Cs.sd.b .nil r6 (c6 (pv 3) (c6 j9 c7))) (v9 (c6 B9 (c6 (j4 Cs.du.ok hr rfl Cs.du.m Cs.du.k Cs.du.b .nil r6 (c6 j9 c7)) c7))) (m9 _))⟩
theorem b6D {X:Cx} {b0 b1 b2 b3 b4 b5 b6 b7 b8:Stmt} {l:List Stmt} {u0 u1 u2 u3 u4 u5 u6 u7 u8:TS} (e:l=[b0,b1,b2,b3,b4,b5,b6,b7,b8]) (h0:PS X b0 u0) (h1:PS X b1 u1) (h2:PS X b2 u2) (h3:PS X b3 u3) (h4:PS X b4 u4) (h5:PS X b5 u5) (h6:PS X b6 u6) (h7:PS X b7 u7) (h8:PS X b8 u8) :
  PSs X l (N7 u0 (N7 u1 (N7 u2 (N7 u3 (N7 u4 (N7 u5 (N7 u6 (N7 u7 u8)))))))):=by
 subst e;exact v5 h0 (v5 h1 (v5 h2 (v5 h3 (v5 h4 (v5 h5 (v5 h6 (v5 h7 (e7 h8))))))))
@[irreducible] def lawB:List Stmt:=t9 N5
theorem a7e:lawB=t9 N5:=by unfold lawB; rfl
theorem b1v:lawB=[nth 0,.Assign [.Name "past" ⟨401,4,401,8⟩] pastE ⟨401,4,401,36⟩,nth 2,nth 3,nth 4,nth 5,nth 6,nth 7,nth 8]:=by
 rw [a7e,<- b6B];exact a9g
theorem b1k (T:v7 mg) (zs:mg "str"=none) (M:V8 P w K mg base n C cT fi di) (Cs:Calls P w K mg base (n+1) C Pt cE cB cH cR cT cM cL kA kD FA a1 a2 a3 a4 a5 a6 a7 d1 d2 d3 d4 d5 d6 d7) (hr:Room (n+1) (A.deeper (bY "law" (d0 N5) s.heap.objs.size f cdv))):PSs (a1P P w K mg base f cdv A outer s H E) lawB
  (N7 (t0 (outer:=outer) (H:=H) (E:=E) T zs M Cs hr).1 (N7 (a4A a9h (Q5 2)) (N7 (t2 (outer:=outer) (H:=H) (E:=E) T zs M Cs hr).1 (N7 (t3 (outer:=outer) (H:=H) (E:=E) T zs M Cs hr).1 (N7 (b0U (outer:=outer) (H:=H) (E:=E) Cs hr).1 (N7 (tWh (outer:=outer) (H:=H) (E:=E) T zs Cs hr).1 (N7 (t6 (outer:=outer) (H:=H) (E:=E) T zs M Cs hr).1 (N7 (t7 (outer:=outer) (H:=H) (E:=E) T zs M Cs hr).1 (t8 (outer:=outer) (H:=H) (E:=E) T zs M Cs hr).1)))))))) :=
 b6D b1v (t0 (outer:=outer) (H:=H) (E:=E) T zs M Cs hr).2 t1 (t2 (outer:=outer) (H:=H) (E:=E) T zs M Cs hr).2 (t3 (outer:=outer) (H:=H) (E:=E) T zs M Cs hr).2 (b0U (outer:=outer) (H:=H) (E:=E) Cs hr).2 (tWh (outer:=outer) (H:=H) (E:=E) T zs Cs hr).2 (t6 (outer:=outer) (H:=H) (E:=E) T zs M Cs hr).2 (t7 (outer:=outer) (H:=H) (E:=E) T zs M Cs hr).2 (t8 (outer:=outer) (H:=H) (E:=E) T zs M Cs hr).2
noncomputable def b6n (T:v7 mg) (zs:mg "str"=none) (M:V8 P w K mg base n C cT fi di) (Cs:Calls P w K mg base (n+1) C Pt cE cB cH cR cT cM cL kA kD FA a1 a2 a3 a4 a5 a6 a7 d1 d2 d3 d4 d5 d6 d7) (hr:Room (n+1) (A.deeper (bY "law" (d0 N5) s.heap.objs.size f cdv))):{ t:TS // PSs (a1P P w K mg base f cdv A outer s H E) (t9 N5) t } :=
 ⟨N7 (t0 (outer:=outer) (H:=H) (E:=E) T zs M Cs hr).1 (N7 (a4A a9h (Q5 2)) (N7 (t2 (outer:=outer) (H:=H) (E:=E) T zs M Cs hr).1 (N7 (t3 (outer:=outer) (H:=H) (E:=E) T zs M Cs hr).1 (N7 (b0U (outer:=outer) (H:=H) (E:=E) Cs hr).1 (N7 (tWh (outer:=outer) (H:=H) (E:=E) T zs Cs hr).1 (N7 (t6 (outer:=outer) (H:=H) (E:=E) T zs M Cs hr).1 (N7 (t7 (outer:=outer) (H:=H) (E:=E) T zs M Cs hr).1 (t8 (outer:=outer) (H:=H) (E:=E) T zs M Cs hr).1))))))),by
  have h:=b1k (s:=s) (E:=E) (H:=H) (outer:=outer) T zs M Cs hr;rw [a7e] at h
  assumption⟩
end
end Rim
namespace Rim
open PySem L2 Fr
open Tx (S cs ch p9 K7 B7 y6 cs_app X6 ext)
def LeftL (Pt p pa pl:Addr) (H H':Hp):Prop:=∀ b o,b≠p->b≠Pt->b≠pa->b≠pl->H b=some o->H' b=some o
theorem LeftL.refl {Pt p pa pl:Addr} {H:Hp}:LeftL Pt p pa pl H H:=λ _ _ _ _ _ _ h=>h
theorem LeftL.trans {Pt p pa pl:Addr} {H H1 H2:Hp} (a:LeftL Pt p pa pl H H1) (b:LeftL Pt p pa pl H1 H2):LeftL Pt p pa pl H H2:=λ c o n1 n2 n3 n4 h=>b c o n1 n2 n3 n4 (a c o n1 n2 n3 n4 h)
theorem Left.toL {Pt p pa pl:Addr} {H H':Hp} (a:Left Pt p pa H H'):LeftL Pt p pa pl H H':=λ c o n1 n2 n3 _ h=>a c o n1 n2 n3 h
theorem Same.toL {Pt p pa pl:Addr} {H H':Hp} (a:Same H H'):LeftL Pt p pa pl H H':=λ c o _ _ _ _ h=>a c o h
theorem LeftL.write {Pt p pa pl:Addr} {H H':Hp} {o:HO} (a:LeftL Pt p pa pl H H'):LeftL Pt p pa pl H (r9 H' pl o):=λ c u n1 n2 n3 n4 h=>by rw [c9 n4]; exact a c u n1 n2 n3 n4 h
abbrev Al41 (K:W.Frag) (H:Hp) (pa pl:Addr):Addr->DS->Prop:=λ a M=>∃ b xs,H a=some (.tup [.ref b,.str M.2])/\H b=some (.lst xs)/\Bk K H xs M.1/\b≠pa/\b≠pl
structure B41 (K:W.Frag) (H:Hp) (pa:Addr) (lo:List Addr) (pl:Addr) (as:List Addr) (ms:List DS):Prop where
 hl:H pl=some (.lst (as.map V.ref))
 al:aN (Al41 K H pa pl) as ms
 n1:pl≠pa
 n2:pl ∉ lo
section
variable {K:W.Frag} {C Pt:Addr} {H H':Hp} {p pa pl:Addr} {lo lo' as:List Addr} {S0 S1:SD} {ms:List DS}
theorem Al41.fr {X:Addr->Prop} (e:Fr0 X H H') (nx:∀ b xs,H b=some (.lst xs)->b≠pa->b≠pl->¬ X b) {a:Addr} {M:DS} (h:Al41 K H pa pl a M):Al41 K H' pa pl a M:=by
 obtain ⟨b,xs,h1,h2,h3,h4,h5⟩:=h;exact ⟨b,xs,e.tup h1,e.k _ _ (nx b xs h2 h4 h5) h2,h3.fr0 e,h4,h5⟩
theorem B41.same (e:Same H H') (b:B41 K H pa lo pl as ms):B41 K H' pa lo pl as ms :=
 ⟨e _ _ b.hl,Paired.imp' (λ _ _ h=>Al41.fr (X:=λ _=>False) ⟨λ c o _ q=>e c o q,λ _ x=>x.elim⟩ (λ _ _ _ _ _ x=>x) h) b.al,b.n1,b.n2⟩
theorem B41.told (D:Dq41 K C Pt H p pa lo S0) (lf:Left Pt p pa H H') (sub:∀ c∈lo',c∈lo\/H c=none) (b:B41 K H pa lo pl as ms):B41 K H' pa lo' pl as ms:=by
 obtain ⟨dx,ba,pv,hp,_,_,hpa,_⟩:=D.d.ex;refine ⟨D.lst lf b.hl b.n1,Paired.imp' (λ _ _ h=>Al41.fr (D.fr lf) (λ c xs hc n1 n2 hx=>?_) h) b.al,b.n1,λ hb=>?_⟩
 ·rcases hx with hx | hx | hx
  ·exact A5 hc hp nofun hx
  ·exact n1 hx
  ·exact D.t.ne hc nofun hx
 ·rcases sub pl hb with h | h
  ·exact b.n2 h
  ·rw [b.hl] at h; cases h
theorem Dq41.write {vs ws:List V} (D:Dq41 K C Pt H p pa lo S0) (h:H pl=some (.lst vs)) (n1:pl≠pa) (n2:pl ∉ lo):Dq41 K C Pt (r9 H pl (.lst ws)) p pa lo S0:=by
 obtain ⟨dx,ba,pv,hp,_,_,hpa,_⟩:=D.d.ex;exact ⟨D.d.fr0 (X:=λ b=>b=pl) ⟨λ b o hx e=>by rw [c9 hx]; exact e,λ x hx=>by rw [hx]; exact T6 h⟩ (λ b hb z0=>n2 (z0 ▸ hb)) (λ z0=>A5 h hp nofun z0.symm) (λ z0=>n1 z0.symm),D.l,D.t.write h⟩
theorem B41.write {as':List Addr} {ms':List DS} (b:B41 K H pa lo pl as ms) (al:aN (Al41 K H pa pl) as' ms'):B41 K (r9 H pl (.lst (as'.map V.ref))) pa lo pl as' ms' :=
 ⟨upd_same,Paired.imp' (λ _ _ h=>Al41.fr (X:=λ b=>b=pl) ⟨λ c o hx e=>by rw [c9 hx]; exact e,λ x hx=>by rw [hx]; exact T6 b.hl⟩ (λ _ _ _ _ n z=>n z) h) al,b.n1,b.n2⟩
theorem LeftL.lst (D:Dq41 K C Pt H p pa lo S0) (lf:LeftL Pt p pa pl H H') {b:Addr} {xs:List V} (h:H b=some (.lst xs)) (n:b≠pa) (n2:b≠pl):H' b=some (.lst xs):=by
 obtain ⟨dx,ba,pv,hp,_,_,hpa,_⟩:=D.d.ex;exact lf b _ (A5 h hp nofun) (D.t.ne h nofun) n n2 h
end
structure G41 (K:W.Frag) (C Pt:Addr) (H:Hp) (p pa:Addr) (lo:List Addr) (pl:Addr) (as:List Addr) (L:DS) (stk:List DS):Prop where
 d:Dq41 K C Pt H p pa lo (L,stk)
 b:B41 K H pa lo pl as (stk++[L])
 ok:∀ M∈stk++[L],OkH 5 M.1/\W4 M.2
theorem G41.same {K:W.Frag} {C Pt:Addr} {H H':Hp} {p pa:Addr} {lo:List Addr} {pl:Addr} {as:List Addr} {L:DS} {stk:List DS} (e:Same H H') (g:G41 K C Pt H p pa lo pl as L stk):G41 K C Pt H' p pa lo pl as L stk:=⟨g.d.same e,g.b.same e,g.ok⟩
theorem G41.top {K:W.Frag} {C Pt:Addr} {H:Hp} {p pa:Addr} {lo:List Addr} {pl:Addr} {as:List Addr} {L:DS} {stk:List DS} (g:G41 K C Pt H p pa lo pl as L stk):OkH 5 L.1/\W4 L.2:=g.ok L (cA _ (.head _))
theorem G41.last {K:W.Frag} {C Pt:Addr} {H:Hp} {p pa:Addr} {lo:List Addr} {pl:Addr} {as:List Addr} {L:DS} {stk:List DS} (g:G41 K C Pt H p pa lo pl as L stk):∃ as0 a,as=as0++[a]/\atI (as.map V.ref) (-1)=some (V.ref a)/\Al41 K H pa pl a L/\aN (Al41 K H pa pl) as0 stk:=by
 obtain ⟨as0,a,e,l0⟩:=X5 (l:=as) (k:=stk.length) (by have:=Paired.length g.b.al; rw [aI] at this; simpa using this);subst e;obtain ⟨h1,h2⟩:=K2 g.b.al;exact ⟨as0,a,rfl,by rw [bP]; exact a9f _ _,h2,h1⟩
def Bot41 (ms:List DS):Prop:=∃ r,ms=(([([3],[4])]:List d8),("any":Str))::r
theorem Bot41.snoc {ms:List DS} {M:DS} (h:Bot41 ms):Bot41 (ms++[M]):=by
 obtain ⟨r,rfl⟩:=h;exact ⟨r++[M],rfl⟩
theorem Bot41.drop {ms:List DS} {M0 M:DS} (h:Bot41 ((ms++[M0])++[M])):Bot41 (ms++[M0]):=by
 obtain ⟨r,e⟩:=h
 cases ms with
 | nil=>simp at e; exact ⟨[],by rw [e.1]; rfl⟩
 | cons a ms=>simp at e; exact ⟨ms++[M0],by rw [e.1]; rfl⟩
theorem b4j:a9Y "NothingLeft"=a0h false false false false false true:=by decide
theorem b3X:a9Y "TooMany"=a0h false false false false true false:=by decide
theorem a1B {b1 b2 b3 b4 b5 b6:Bool}:(rfD (a4X b1 b2 b3 b4 b5 b6)).canLay0=true:=by rfl
theorem a8X {b1 b2 b3 b4 b5 b6:Bool}:(rfD (a4X b1 b2 b3 b4 b5 b6)).depth<=60:=by
 unfold rfD a4X;simp [PyData.depth,PyData.depthAll]
theorem a6J {K:W.Frag} {H:Hp} {r kl:Addr} {b1 b2 b3 b4 b5 b6:Bool} (h1:H r=some (.tup [.non,.ref kl])) (h2:H kl=some (.lst (a0h b1 b2 b3 b4 b5 b6))):Dp K H (.ref r) (rfD (a4X b1 b2 b3 b4 b5 b6)) :=
 .tup (SqT.of h1) (.cons .non (.cons (b2s h2) .nil))
theorem a1e {K:W.Frag} {σ:St} {H:Hp} {td:TE} {due:S} {r kl:Addr} {Q:VK} (ha:K7 due) (h1:H r=some (.tup [.str due,.ref kl])) (h2:H kl=some (.lst [])) (hd:∀ Q1:VK,Q1 (.str due) H->td σ H Q1) (q:∀ H',Same H H'->Q (.bl false) H'):a2k (A3 td (A3 (a7M G6) G6)) σ H λ y H2=>b3G K (.ref r) y H2 Q:=by
 refine b1J hd λ t el H2 e2 ht hel=>?_;refine ⟨tdD due,tdD due,a3B (e2 _ _ h1) (e2 _ _ h2),a3B ht hel,a2S ha,a2S ha,aK (fZ _ _) (a5V _),?_⟩;rw [T4 _ (a2S ha)];exact q _ e2
theorem b4t {K:W.Frag} {σ:St} {H:Hp} {b1 b2 b3 b4 b5 b6:Bool} {r kl:Addr} {E:XK} {x:Str} {Q:VK} (hx:a9Y x=a0h b1 b2 b3 b4 b5 b6) (h1:H r=some (.tup [.non,.ref kl])) (h2:H kl=some (.lst (a0h b1 b2 b3 b4 b5 b6))) (q:∀ H',Same H H'->Q (.bl false) H'):a2k (A3 (tC .non) (A3 (a7x a3X [] E (A3 (tC (.str x)) G6)) G6)) σ H λ y H2=>b3G K (.ref r) y H2 Q:=by
 refine ⟨x,rfl,λ r2 H2 e2 hr2=>⟨(by show 2<=sizeLine; decide),λ t ht=>?_⟩⟩;rw [hx] at hr2;have s1:=Same.new ht (.tup [V.non,V.ref r2]);have e3:=e2.trans s1;refine ⟨_,_,a6J (e3 _ _ h1) (e3 _ _ h2),a6J upd_same (s1 _ _ hr2),a1B,a1B,aK (fZ _ _) a8X,?_⟩;rw [T4 _ a1B];exact q _ e3
theorem b3v {K:W.Frag} {σ:St} {H:Hp} {b1 b2 b3 b4 b5 b6:Bool} {r kl:Addr} {E:XK} {x:Str} {Q:VK} (hx:a9Y x=a0h b1 b2 b3 b4 b5 b6) (h1:H r=some (.tup [.non,.ref kl])) (h2:H kl=some (.lst (a0h b1 b2 b3 b4 b5 b6))) (q:∀ H',Same H H'->Q (.bl true) H'):a2k (A3 (tC .non) (A3 (a7x a3X [] E (A3 (tC (.str x)) G6)) G6)) σ H λ y H2=>b5I K (.ref r) y H2 Q:=by
 refine ⟨x,rfl,λ r2 H2 e2 hr2=>⟨(by show 2<=sizeLine; decide),λ t ht=>?_⟩⟩;rw [hx] at hr2;have s1:=Same.new ht (.tup [V.non,V.ref r2]);have e3:=e2.trans s1;refine ⟨_,_,a6J (e3 _ _ h1) (e3 _ _ h2),a6J upd_same (s1 _ _ hr2),a1B,a1B,aK (fZ _ _) a8X,?_⟩;rw [T4 _ a1B];exact q _ e3
theorem b5r (i:Int):(("house ":Str)++p9 i)++(">2":Str)=("house ":Str)++o4 ([i],[2]):=by
 rw [a4M];refine ext ?_;rw [cs_app,cs_app,cs_app,cs_app,cs_app,cQ]
 congr 2
end Rim
namespace Rim
open PySem L2 Fr
open Tx (S cs ch p9 K7 B7 y6 cs_app X6 ext)
def a6Z (K:W.Frag) (Pt:Addr):Sp:=λ vs H Q _=>∃ (a:Addr) (ns:List Int),vs=[.ref a]/\SqL K H a (ns.map V.int)/\ns.length<=63/\LT Pt H/\∀ H',Q (.bl true) H'
section
variable {P:Program} {w:World} {K:W.Frag} {mg:Str->Option Value} {base:Heap} {f C Pt:Addr} {fd:FuncData} {n:Nat} {kA kD:List (Str×Addr)} {FA:Addr->Sp->Prop} {cE cB cH cR cT cM cL:Addr}
theorem h34:H1 ([3],[4]):=⟨3,4,rfl,by decide,by decide,by decide,by decide⟩
theorem h11:H1 ([1],[1]):=⟨1,1,rfl,by decide,by decide,by decide,by decide⟩
theorem b34:IsB [([3],[4])]:=⟨⟨by decide,by decide⟩,_,rfl,h34.any,λ h hh=>by rw [aQ.mp hh]; exact h34.gk⟩
theorem b3Q {a1 a2 a3 a4 a5 a6 a7 fi:Addr} {d1 d2 d3 d4 d5 d6 d7 di:FuncData} (F:Fun K "law" "law" N5 f fd) (T:v7 mg) (zs:mg "str"=none) (W:DW K Pt cE cB cH cR cT cM cL kA kD FA) (M:V8 P w K mg base n C cT fi di) (Cs:Calls P w K mg base (n+1) C Pt cE cB cH cR cT cM cL kA kD FA a1 a2 a3 a4 a5 a6 a7 d1 d2 d3 d4 d5 d6 d7) :
  FnOk P w K mg base K5 (n+2) f fd ["script"] (a6Z K Pt):=by
 refine F.ok scLaw (λ vs H Q E h=>?_) (λ cdv A outer s H vs Q E hr h=>?_)
 ·obtain ⟨a,ns,rfl,_⟩:=h
  rfl
 obtain ⟨a,ns,rfl,hS,h63,LTH,q⟩:=h;refine ⟨_,(b6n T zs M Cs hr).2,?_⟩;refine ⟨λ σ' H'=>∃ (hd:Addr) (ds:List Int),σ'=[some (.ref a),some (.ref hd),none,none,none,none,none,none,none,none]/\Same H H'/\H' hd=some (.lst (ds.map V.int))/\ds.length=2/\(∀ d∈ds,0<=d/\d<1000),?_,?_⟩
 ·refine ⟨_,rfl,a,ns,0,rfl,hS,by decide,λ c0=>?_⟩
  exact ⟨_,2,1000,rfl,by decide,by decide,by decide,λ hd H1 ds e1 hhd ld bd=>⟨hd,ds,rfl,e1,hhd,ld,bd⟩⟩
 intro σ1 H1 hM_; refine N1 λ G_ hG_=>?_; obtain ⟨hd,ds,rfl,e1,hhd,ld,bd⟩:=hM_; subst hG_;have L1:=LTH.same e1;have hS1:=e1.seq hS;refine ⟨λ σ' H'=>∃ pl al b0 xs0,σ'=[some (.ref a),some (.ref hd),some (.ref pl),none,none,none,none,none,none,none]/\Same H1 H'/\H' pl=some (.lst [.ref al])/\H' al=some (.tup [.ref b0,.str "any"])/\H' b0=some (.lst xs0)/\Bk K H' xs0 [([3],[4])]/\b0≠pl,?_,?_⟩
 ·refine ⟨(by show 1<=sizeLine; decide),λ t1 ht1=>⟨(by show 1<=sizeLine; decide),λ t2 ht2=>⟨(by show 2<=sizeLine; decide),λ t3 ht3=>⟨(by show 1<=sizeLine; decide),λ t4 ht4=>⟨(by show 2<=sizeLine; decide),λ t5 ht5=>⟨(by show 1<=sizeLine; decide),λ t6 ht6=>?_⟩⟩⟩⟩⟩⟩
  have s1:=Same.new ht1 (.tup [V.int 3]);have s2:=Same.new ht2 (.tup [V.int 4]);have s3:=Same.new ht3 (.tup [V.ref t1,V.ref t2]);have s4:=Same.new ht4 (.lst [V.ref t3]);have s5:=Same.new ht5 (.tup [V.ref t4,V.str "any"]);have s6:=Same.new ht6 (.lst [V.ref t5]);have s56:=s5.trans s6;have s46:=s4.trans s56;refine ⟨t6,t5,t4,[.ref t3],rfl,s1.trans (s2.trans (s3.trans s46)),upd_same,s6 _ _ upd_same,s56 _ _ upd_same,.cons ⟨t3,t1,t2,rfl,SqT.of (s46 _ _ upd_same),SqT.of (s46 _ _ (s3 _ _ (s2 _ _ upd_same))),SqT.of (s46 _ _ (s3 _ _ upd_same))⟩ .nil,?_⟩;exact c8 (s5 _ _ upd_same) ht6
 intro σ2 H2 hM_; refine N1 λ G_ hG_=>?_; obtain ⟨pl,al,b0,xs0,rfl,e2,hpl,hal,hb0,hB0,nb0⟩:=hM_; subst hG_;have hhd2:=e2 _ _ hhd;have hS2:=e2.seq hS1;have L2:=L1.same e2;refine ⟨λ σ' H'=>∃ p pa lo,σ'=[some (.ref a),some (.ref hd),some (.ref pl),some (.ref p),none,none,none,none,none,none]/\Same H2 H'/\G41 K C Pt H' p pa lo pl [al] ([([3],[4])],"any") []/\hd≠pa,?_,?_⟩
 ·refine ⟨_,rfl,pl,_,0,_,rfl,rfl,SqL.of hpl,rfl,al,_,0,_,rfl,rfl,SqT.of hal,rfl,b0,xs0,_,rfl,SqL.of hb0,hB0,(by show 1<=100; decide),λ h hh=>by rw [aQ.mp hh]; exact h34,λ H3 e3=>?_⟩
  refine λ x dx hx hdx nd=>?_;have sx:∀ b o,H3 b=some o->(r9 (r9 H3 dx (.own x)) x (.ins C dx [])) b=some o:=λ b o q0=>by rw [c9 (c8 q0 hx),c9 (c8 q0 hdx)]; exact q0
  have er:=a6t b34;have asc:K7 (V9 [([3],[4])]):=a5b λ h hh=>by rw [aQ.mp hh]; exact h34
  refine ⟨x,dx,_,rfl,upd_same,asc,(by have:=h34.len; exact aK this (by decide)),λ e=>(by rw [er] at e; cases e),λ hs e H4 pa lo DK k f1 f2=>?_⟩;rw [er] at e; cases e;have e4:Same H3 H4:=λ b o q0=>k b o (c8 q0 hx) (sx b o q0);have e24:=e3.trans e4;have fre:∀ {b o},H2 b=some o->(r9 (r9 H3 dx (.own x)) x (.ins C dx [])) b=none->False:=λ q0 q1=>by rw [sx _ _ (e3 _ _ q0)] at q1; cases q1
  have npa:∀ {b o},H2 b=some o->b≠pa:=λ q0 z0=>by subst z0; exact fre q0 f1
  refine ⟨rfl,x,pa,lo,rfl,e24,⟨⟨DK,by decide,L2.same e24⟩,⟨e24 _ _ hpl,.cons ⟨b0,xs0,e24 _ _ hal,e24 _ _ hb0,Bk.same e24 hB0,npa hb0,nb0⟩ .nil,npa hpl,λ hb=>fre hpl (f2 _ hb)⟩,λ M0 hM0=>?_⟩,npa hhd2⟩;rw [aQ.mp hM0];exact ⟨⟨by decide,by decide,λ h hh=>by rw [aQ.mp hh]; exact h34⟩,.inl rfl⟩
 intro σ3 H3 hM_; refine N1 λ G_ hG_=>?_; obtain ⟨p,pa,lo,rfl,e3,g3,nhd⟩:=hM_; subst hG_;have hhd3:=e3 _ _ hhd2;have hS3:=e3.seq hS2;refine ⟨λ σ' H'=>∃ (pk:Addr) (ds:List Int),σ'=[some (.ref a),some (.ref hd),some (.ref pl),some (.ref p),some (.ref pk),none,none,none,none,none]/\Same H3 H'/\H' pk=some (.lst (ds.map V.int))/\ds.length=320/\(∀ d∈ds,0<=d/\d<10000),?_,?_⟩
 ·refine ⟨_,rfl,a,ns,1,rfl,hS3,by decide,λ c1=>?_⟩
  refine ⟨_,_,rfl,rfl,⟨by decide,by decide,by decide⟩,_,320,10000,rfl,by decide,by decide,by decide,λ pk H6 ds' e6 hpk ld' bd'=>?_⟩;exact ⟨pk,ds',rfl,e6,hpk,ld',bd'⟩
 intro σ4 H4 hM_; refine N1 λ G_ hG_=>?_; obtain ⟨pk,ps,rfl,e4,hpk,lps,bps⟩:=hM_; subst hG_;have g4:=g3.same e4;have hhd4:=e4 _ _ hhd3;refine ⟨λ σ' H'=>∃ o5 o6 o7 o8 lo' as L stk,σ'=[some (.ref a),some (.ref hd),some (.ref pl),some (.ref p),some (.ref pk),o5,o6,o7,o8,none]/\G41 K C Pt H' p pa lo' pl as L stk/\stk.length<=320/\Bot41 (stk++[L]),?_,?_⟩
 ·obtain ⟨v0,m0,i0⟩:∃ v,v∈ds/\atI (ds.map V.int) ((0:Nat):Int)=some (.int v):=b1x (by omega) (by omega)
  have b0':=bd v0 m0;refine ⟨_,rfl,_,rfl,hd,_,0,_,rfl,rfl,SqL.of hhd4,i0,_,_,rfl,rfl,(by show (0:Int)<140; decide),_,_,rfl,rfl,180+v0 % 140,rfl,pk,_,rfl,SqL.of hpk,λ sl hsl=>?_⟩;obtain ⟨m,hm,em⟩:∃ m:Nat,m<=320/\180+v0 % 140=(m:Int):=⟨(180+v0 % 140).toNat,by omega,by omega⟩;rw [em,a0p _ _ (by rw [aA]; omega),<- List.map_take];have s5:=Same.new hsl (.lst ((ps.take m).map V.int));have g5:=g4.same s5;obtain ⟨dx4,ba4,pv4,hp4,_,_,hpa4,_⟩:=g4.d.d.ex;have nsl:sl≠pa:=(c8 hpa4 hsl).symm;have nsp:sl≠pl:=(c8 g4.b.hl hsl).symm;have hsl5:(r9 H4 sl (.lst ((ps.take m).map V.int))) sl=some (.lst ((ps.take m).map V.int)):=upd_same;generalize r9 H4 sl (.lst ((ps.take m).map V.int))=H5 at *;refine ⟨sl,rfl,⟨_,SqL.of hsl5⟩,?_⟩;refine b0H (xs:=(ps.take m).map V.int) (λ i σ H'=>∃ o5 o6 o7 o8 lo' as L stk,σ=[some (.ref a),some (.ref hd),some (.ref pl),some (.ref p),some (.ref pk),o5,o6,o7,o8,none]/\LeftL Pt p pa pl H5 H'/\G41 K C Pt H' p pa lo' pl as L stk/\stk.length=i/\Bot41 (stk++[L]))
   ⟨_,_,_,_,lo,[al],_,[],rfl,LeftL.refl,g5,rfl,⟨[],rfl⟩⟩ (λ i σ H' _ ⟨_,_,_,_,_,_,_,_,_,lf,_⟩=>SqL.of (lf.lst g5.d hsl5 nsl nsp)) ?_ ?_
  rotate_left
  ·rintro σ H9 ⟨o5,o6,o7,o8,lo',as,L,stk,rfl,lf,g9,hl9,bot9⟩
   refine ⟨o5,o6,o7,o8,lo',as,L,stk,rfl,g9,?_,bot9⟩;rw [hl9,aA,cI]; omega
  rintro i x σ H9 hx ⟨o5,o6,o7,o8,lo',as,L,stk,rfl,lf,g9,hl9,bot9⟩;obtain ⟨pick,rfl⟩:=a0o hx;have pkb:0<=pick/\pick<10000:=by
   rw [aE] at hx
   cases e:(ps.take m)[i]? with
   | none=>rw [e] at hx; cases hx
   | some v=>rw [e] at hx; cases hx; exact bps _ (fV (bE e))
  have ilt:i<320:=by
   have:=(bQ.mp hx).1;rw [aA,cI] at this;omega
  obtain ⟨as0,at0,eas,atl,⟨bt,xt,hat,hbt,hBt,nbt,nbl⟩,al0⟩:=g9.last;have tp:=g9.top;refine ⟨λ σ' H'=>∃ row due lt b' hs' z' ys,σ'=[some (.ref a),some (.ref hd),some (.ref pl),some (.ref p),some (.ref pk),some (.int pick),some (.str row),some (.str due),some (.ref lt),none]/\Same H9 H'/\H' lt=some (.tup [.ref b',.str z'])/\H' b'=some (.lst ys)/\Bk K H' ys hs'/\a4u L.1 L.2 row due hs' z'/\OkH 5 hs'/\W4 z'/\b'≠pa/\b'≠pl/\K7 due,?_,?_⟩
  ·refine ⟨_,rfl,_,rfl,pl,_,_,_,rfl,rfl,SqL.of g9.b.hl,atl,at0,_,0,_,rfl,rfl,SqT.of hat,rfl,_,rfl,_,rfl,pl,_,_,_,rfl,rfl,SqL.of g9.b.hl,atl,at0,_,1,_,rfl,rfl,SqT.of hat,rfl,_,rfl,?_⟩
   refine ⟨bt,xt,L.1,L.2,pick,rfl,hbt,hBt,tp.1,tp.2,pkb.1,pkb.2,λ H10 r lt b' row due hs' z' ys e10 hr hlt hb' hB' st ok' hz' hbb asc=>?_⟩;obtain ⟨dx9,ba9,pv9,hp9,_,_,hpa9,_⟩:=g9.d.d.ex;refine ⟨r,_,rfl,SqT.of hr,rfl,_,_,rfl,_,_,rfl,_,_,rfl,rfl,?_⟩;refine ⟨row,due,lt,b',hs',z',ys,rfl,e10,hlt,hb',hB',st,ok',hz',?_,?_,asc⟩
   ·rcases hbb with rfl | hbb
    ·exact nbt
    ·exact (c8 hpa9 hbb).symm
   ·rcases hbb with rfl | hbb
    ·exact nbl
    ·exact (c8 g9.b.hl hbb).symm
  intro σ10 H10 hM_; refine N1 λ G_ hG_=>?_; obtain ⟨row,due,lt,b',hs',z',ys,rfl,e10,hlt,hb',hB',st,ok',hz',nb1,nb2,asc⟩:=hM_; subst hG_;have g10:=g9.same e10;refine ⟨λ σ' H'=>∃ lo2,σ'=[some (.ref a),some (.ref hd),some (.ref pl),some (.ref p),some (.ref pk),some (.int pick),some (.str row),some (.str due),some (.ref lt),none]/\Left Pt p pa H10 H'/\Dq41 K C Pt H' p pa lo2 ((hs',z'),stk++[L])/\B41 K H' pa lo2 pl as (stk++[L])/\Al41 K H' pa pl lt (hs',z'),?_,?_⟩
  ·refine ⟨_,rfl,_,rfl,?_⟩
   dsimp only [G6,cJ,bO];refine a1i W g10.d tp.1 (by decide) st λ H11 r kl lo2 DK lf11 LT11 sub hr hkl=>?_;refine a1e asc hr hkl (λ Q1 q1=>⟨_,rfl,q1⟩) λ H12 e12=>⟨_,rfl,D6 ?_⟩;have D11:Dq41 K C Pt H11 p pa lo2 ((hs',z'),stk++[L]):=⟨DK,(by show (stk++[L]).length<=900; rw [aI,hl9]; simp; omega),LT11⟩;have fr:=g10.d.fr lf11;have b11:=B41.told g10.d lf11 sub g10.b;have hb11:=g10.d.lst lf11 hb' nb1;exact ⟨lo2,rfl,λ c o n1 n2 n3 h=>e12 _ _ (lf11 c o n1 n2 n3 h),D11.same e12,b11.same e12,b',ys,e12 _ _ (fr.tup hlt),e12 _ _ hb11,Bk.same e12 (hB'.fr0 fr),nb1,nb2⟩
  intro σ11 H11 hM_; refine N1 λ G_ hG_=>?_; obtain ⟨lo2,rfl,lf11,D11,b11,a11⟩:=hM_; subst hG_;refine ⟨λ σ' H'=>∃ as2,σ'=[some (.ref a),some (.ref hd),some (.ref pl),some (.ref p),some (.ref pk),some (.int pick),some (.str row),some (.str due),some (.ref lt),none]/\LeftL Pt p pa pl H11 H'/\G41 K C Pt H' p pa lo2 pl as2 (hs',z') (stk++[L])/\Al41 K H' pa pl lt (hs',z'),?_,?_⟩
  ·have lenm:(as.map V.ref).length<sizeLine:=by
    rw [aA,Paired.length b11.al,aI,hl9,sizeLine_eq];simp; omega
   refine ⟨_,rfl,.inl ⟨rfl,_,SqL.of b11.hl⟩,_,rfl,pl,_,_,rfl,rfl,b11.hl,lenm,?_⟩;have al2:aN (Al41 K H11 pa pl) (as++[lt]) ((stk++[L])++[(hs',z')]):=Paired.app b11.al (.cons a11 .nil);have b12:=b11.write al2;have D12:=D11.write (ws:=(as++[lt]).map V.ref) b11.hl b11.n1 b11.n2;rw [show as.map V.ref++[V.ref lt]=(as++[lt]).map V.ref from by rw [bP]; rfl];refine ⟨as++[lt],rfl,LeftL.refl.write,⟨D12,b12,λ M0 h0=>?_⟩,?_⟩
   ·rcases bK.mp h0 with h0 | h0
    ·exact g9.ok M0 h0
    ·rw [aQ.mp h0]; exact ⟨ok',hz'⟩
   ·exact (K2 b12.al).2
  intro σ12 H12 hM_; refine N1 λ G_ hG_=>?_; obtain ⟨as2,rfl,lf12,g12,⟨b2,x2,ha2,hb2,hB2,n1,n2⟩⟩:=hM_; subst hG_;have lf0:LeftL Pt p pa pl H5 H12:=lf.trans ((Same.toL e10).trans ((Left.toL lf11).trans lf12));refine ⟨_,rfl,_,_,rfl,rfl,(by show (0:Int)<16; decide),rfl,_,rfl,?_⟩;refine A2 (λ c=>?_) (λ c=>D6 ⟨_,_,_,_,lo2,as2,_,stk++[L],rfl,lf0,g12,by rw [aI,hl9]; rfl,bot9.snoc⟩);refine ⟨_,rfl,_,rfl,lt,_,0,_,rfl,rfl,SqT.of ha2,rfl,_,rfl,lt,_,1,_,rfl,rfl,SqT.of ha2,rfl,?_⟩;refine ⟨p,pa,b2,lo2,x2,hs',z',stk++[L],rfl,g12.d,ok'.mono (by decide),hz',hb2,hB2,n1,λ H13 lo3 D13 lf13 sub13=>?_⟩;refine ⟨_,rfl,D6 ⟨_,_,_,_,lo3,as2,_,stk++[L],rfl,lf0.trans (Left.toL lf13),⟨D13,B41.told g12.d lf13 sub13 g12.b,g12.ok⟩,by rw [aI,hl9]; rfl,bot9.snoc⟩⟩
 intro σ5 H5 hM_; refine N1 λ G_ hG_=>?_; obtain ⟨o5,o6,o7,o8,lo5,as5,L5,stk5,rfl,g5,hs5,bot5⟩:=hM_; subst hG_;refine ⟨λ σ' H'=>∃ lo',σ'=[some (.ref a),some (.ref hd),some (.ref pl),some (.ref p),some (.ref pk),o5,o6,o7,o8,none]/\Dq41 K C Pt H' p pa lo' (([([3],[4])],"any"),[]),?_,?_⟩
 ·refine ⟨λ m σ' H'=>∃ lo' as L stk,m=stk.length/\σ'=[some (.ref a),some (.ref hd),some (.ref pl),some (.ref p),some (.ref pk),o5,o6,o7,o8,none]/\G41 K C Pt H' p pa lo' pl as L stk/\stk.length<=320/\Bot41 (stk++[L]),⟨_,lo5,as5,L5,stk5,rfl,rfl,g5,hs5,bot5⟩,?_⟩
  rintro m σ' H8 ⟨lo8,as8,L8,stk8,rfl,rfl,g8,hs8,bot8⟩;have las:as8.length=stk8.length+1:=by have:=Paired.length g8.b.al; rw [aI] at this; simpa using this
  refine ⟨_,rfl,pl,_,rfl,.inl (SqL.of g8.b.hl),_,_,rfl,rfl,_,rfl,?_⟩;rw [aA,las];rcases iN stk8 with e | ⟨stk9,L9,e⟩
  ·subst e
   rw [decide_eq_false (show ¬ (1:Int)<(([]:List DS).length+1:Nat) by simp)];obtain ⟨r,e⟩:=bot8;have e':L8=(([([3],[4])]:List d8),("any":Str)):=by simp at e; exact e.1
   subst e';exact D6 ⟨lo8,rfl,g8.d⟩
  rw [iO] at e;subst e;rw [decide_eq_true (show (1:Int)<((stk9++[L9]).length+1:Nat) by simp; omega)];refine G5 ?_;refine ⟨λ σ' H'=>∃ lo' as,σ'=[some (.ref a),some (.ref hd),some (.ref pl),some (.ref p),some (.ref pk),o5,o6,o7,o8,none]/\G41 K C Pt H' p pa lo' pl as L9 stk9,λ σ' H' ⟨lo',as,h1,h2⟩=>⟨stk9.length,by simp,lo',as,L9,stk9,rfl,h1,h2,by simp at hs8; omega,bot8.drop⟩,?_⟩;have tp:=g8.top;refine ⟨λ σ' H'=>∃ lo',σ'=[some (.ref a),some (.ref hd),some (.ref pl),some (.ref p),some (.ref pk),o5,o6,o7,o8,none]/\G41 K C Pt H' p pa lo' pl as8 L8 (stk9++[L9]),?_,?_⟩
  ·refine ⟨_,rfl,pl,_,rfl,.inl (SqL.of g8.b.hl),_,_,rfl,rfl,(by show (0:Int)<50; decide),rfl,_,rfl,?_⟩
   refine A2 (λ c=>?_) (λ c=>⟨lo8,rfl,g8⟩);refine ⟨λ σ' H'=>∃ lo',σ'=[some (.ref a),some (.ref hd),some (.ref pl),some (.ref p),some (.ref pk),o5,o6,o7,o8,none]/\Dq41 K C Pt H' p pa lo' ((L8.1++[([1],[1])],L8.2),(stk9++[L9])++[L8])/\B41 K H' pa lo' pl as8 ((stk9++[L9])++[L8]),?_,?_⟩
   ·refine ⟨_,rfl,?_⟩
    dsimp only [A3,G6,tC,cJ,bO];have st:a4u L8.1 L8.2 ("house 1>1":Str) (p9 (L8.1.length:Int)) (L8.1++[([1],[1])]) L8.2:=by
     rw [show ("house 1>1":Str)=("house ":Str)++o4 ([1],[1]) from by decide +kernel];exact .put (by have:=tp.1.lm; omega) h11
    refine a1i W g8.d tp.1 (by decide) st λ H11 r kl lo2 DK lf11 LT11 sub hr hkl=>?_;have b11:=B41.told g8.d lf11 sub g8.b;have D11:Dq41 K C Pt H11 p pa lo2 ((L8.1++[([1],[1])],L8.2),(stk9++[L9])++[L8]):=⟨DK,(by show ((stk9++[L9])++[L8]).length<=900; simp at hs8 ⊢; omega),LT11⟩;obtain ⟨as0,at0,eas,atl,⟨bt,xt,hat,hbt,hBt,nbt,nbl⟩,al0⟩:=g8.last;have fr:=g8.d.fr lf11;refine a1e (due:=p9 (L8.1.length:Int)) (Tx.num_asc _) hr hkl (λ Q1 q1=>?_) λ H12 e12=>⟨_,rfl,D6 ⟨lo2,rfl,D11.same e12,b11.same e12⟩⟩;refine ⟨_,rfl,_,rfl,pl,_,_,_,rfl,rfl,SqL.of b11.hl,atl,at0,_,0,_,rfl,rfl,SqT.of (fr.tup hat),rfl,bt,xt,rfl,.inl (SqL.of (g8.d.lst lf11 hbt nbt)),_,rfl,?_⟩;rw [Paired.length hBt];exact ⟨K3 (by have:=tp.1.lm; omega),q1⟩
   intro σ9 H9 hM_; refine N1 λ G_ hG_=>?_; obtain ⟨lo9,rfl,D9,b9⟩:=hM_; subst hG_;refine ⟨_,rfl,?_⟩;dsimp only [A3,G6,tC,cJ,bO];refine a1h D9 (E9 (by decide +kernel)) (by decide +kernel) a2x W.nb W.nbD W.ML (λ past0 L0 e0 H11 r kl lo2 DK lf11 LT11 sub hr hkl=>?_) (λ e0=>by simp at e0);have ee:=kW e0 rfl;have e1':past0=stk9++[L9]:=ee.1.symm;have e2':L0=L8:=by have:=ee.2; simp at this; exact this.symm
   subst e1' e2';refine a1e a2r hr hkl (λ Q1 q1=>q1) λ H12 e12=>⟨_,rfl,D6 ⟨lo2,rfl,⟨⟨DK.same e12,g8.d.l,LT11.same e12⟩,(B41.told D9 lf11 sub b9).same e12,g8.ok⟩⟩⟩
  intro σ9 H9 hM_; refine N1 λ G_ hG_=>?_; obtain ⟨lo9,rfl,g9⟩:=hM_; subst hG_;refine ⟨λ σ' H'=>∃ lo',σ'=[some (.ref a),some (.ref hd),some (.ref pl),some (.ref p),some (.ref pk),o5,o6,o7,o8,none]/\Dq41 K C Pt H' p pa lo' (L9,stk9)/\B41 K H' pa lo' pl as8 ((stk9++[L9])++[L8]),?_,?_⟩
  ·refine ⟨_,rfl,?_⟩
   dsimp only [A3,G6,tC,cJ,bO];refine a1h g9.d (E9 (by decide +kernel)) (by decide +kernel) a2x W.nb W.nbD W.ML (λ past0 L0 e0 H11 r kl lo2 DK lf11 LT11 sub hr hkl=>?_) (λ e0=>by simp at e0);have ee:=kW e0 rfl;have e1':past0=stk9:=ee.1.symm;have e2':L0=L9:=by have:=ee.2; simp at this; exact this.symm
   subst e1' e2';refine a1e a2r hr hkl (λ Q1 q1=>q1) λ H12 e12=>⟨_,rfl,D6 ⟨lo2,rfl,⟨DK.same e12,(by show past0.length<=900; simp at hs8; omega),LT11.same e12⟩,(B41.told g9.d lf11 sub g9.b).same e12⟩⟩
  intro σ10 H10 hM_; refine N1 λ G_ hG_=>?_; obtain ⟨lo10,rfl,D10,b10⟩:=hM_; subst hG_;refine ⟨λ σ' H'=>∃ as9,σ'=[some (.ref a),some (.ref hd),some (.ref pl),some (.ref p),some (.ref pk),o5,o6,o7,o8,none]/\G41 K C Pt H' p pa lo10 pl as9 L9 stk9,?_,?_⟩
  ·obtain ⟨as9,al9,eas,las9⟩:=X5 (l:=as8) (k:=(stk9++[L9]).length) (by rw [las])
   subst eas;obtain ⟨al10,_⟩:=K2 b10.al;have gl:((as9++[al9]).map V.ref)[((as9++[al9]).map V.ref).length - 1]?=some (V.ref al9):=by simp
   refine ⟨_,rfl,.inl ⟨rfl,_,SqL.of b10.hl⟩,pl,_,_,rfl,rfl,b10.hl,gl,?_⟩;have ed:((as9++[al9]).map V.ref).dropLast=as9.map V.ref:=by simp
   rw [ed];exact ⟨as9,rfl,D10.write b10.hl b10.n1 b10.n2,b10.write al10,λ M0 h0=>g8.ok M0 (dI _ h0)⟩
  intro σ11 H11 hM_; refine N1 λ G_ hG_=>?_; obtain ⟨as9,rfl,g11⟩:=hM_; subst hG_;refine ⟨_,rfl,pl,_,rfl,.inl (SqL.of g11.b.hl),_,_,rfl,rfl,(by show (0:Int)<20; decide),rfl,_,rfl,?_⟩;refine A2 (λ c=>?_) (λ c=>D6 ⟨lo10,as9,rfl,g11⟩);obtain ⟨as0,at0,eas,atl,⟨bt,xt,hat,hbt,hBt,nbt,nbl⟩,al0⟩:=g11.last;have tp9:=g11.top;refine ⟨_,rfl,_,rfl,_,rfl,pl,_,_,_,rfl,rfl,SqL.of g11.b.hl,atl,at0,_,0,_,rfl,rfl,SqT.of hat,rfl,_,rfl,_,rfl,pl,_,_,_,rfl,rfl,SqL.of g11.b.hl,atl,at0,_,1,_,rfl,rfl,SqT.of hat,rfl,?_⟩;refine ⟨p,pa,bt,lo10,xt,L9.1,L9.2,stk9,rfl,g11.d,tp9.1.mono (by decide),tp9.2,hbt,hBt,nbt,λ H13 lo3 D13 lf13 sub13=>?_⟩;exact ⟨_,rfl,D6 ⟨lo3,as9,rfl,D13,B41.told g11.d lf13 sub13 g11.b,g11.ok⟩⟩
 intro σ8 H8 hM_; refine N1 λ G_ hG_=>?_; obtain ⟨lo8,rfl,D8⟩:=hM_; subst hG_;refine ⟨λ σ' H'=>σ'=[some (.ref a),some (.ref hd),some (.ref pl),some (.ref p),some (.ref pk),o5,o6,o7,o8,none]/\Same H8 H',?_,?_⟩
 ·refine ⟨_,rfl,?_⟩
  dsimp only [A3,G6,tC,cJ,bO];refine a1h D8 (E9 (by decide +kernel)) (by decide +kernel) a2x W.nb W.nbD W.ML (λ past0 L0 e0=>by simp at e0) (λ e0 H11 r kl e11 hr hkl=>?_);exact b4t b4j hr hkl λ H12 e12=>⟨_,rfl,D6 ⟨rfl,e11.trans e12⟩⟩
 rintro _ H9 ⟨rfl,e9⟩;have D9:=D8.same e9;refine ⟨λ σ' H'=>∃ o9 lo' L stk,σ'=[some (.ref a),some (.ref hd),some (.ref pl),some (.ref p),some (.ref pk),o5,o6,o7,o8,o9]/\Dq41 K C Pt H' p pa lo' (L,stk)/\OkH 16 L.1/\L.1.length=16,?_,?_⟩
 ·refine ⟨15,rfl,by omega,by omega,?_⟩
  refine a1j (n:=15) (λ i σ H'=>∃ o9 lo' L stk,σ=[some (.ref a),some (.ref hd),some (.ref pl),some (.ref p),some (.ref pk),o5,o6,o7,o8,o9]/\Dq41 K C Pt H' p pa lo' (L,stk)/\OkH 16 L.1/\L.1.length=i+1/\stk.length=i)
   ⟨_,lo8,_,[],rfl,D9,⟨by decide,by decide,λ h hh=>by rw [aQ.mp hh]; exact h34⟩,rfl,rfl⟩ ?_ ?_
  rotate_left
  ·rintro σ H10 ⟨o9,lo',L,stk,rfl,h1,h2,h3,h4⟩
   exact ⟨o9,lo',L,stk,rfl,h1,h2,h3⟩
  rintro i σ H10 hi ⟨o9,lo',L,stk,rfl,h1,h2,h3,h4⟩;rw [iK];have ni:(p9 ((i:Int)+1)).length<=10:=U1 (by omega) (by omega);have lh:(("house ":Str):S).length=6:=by decide +kernel
  have l2:((">2":Str):S).length=2:=by decide +kernel
  have lg:((i:Int)+1).natAbs.log2<1920:=a1f (by omega) (by omega);refine ⟨_,rfl,_,rfl,_,_,rfl,rfl,_,rfl,lg,_,p9 ((i:Int)+1),rfl,rfl,by rw [lh,sizeLine_eq]; omega,_,_,rfl,rfl,by rw [M7,lh,l2,sizeLine_eq]; omega,?_⟩;dsimp only [G6,cJ,bO];have st:a4u L.1 L.2 ((("house ":Str)++p9 ((i:Int)+1))++(">2":Str)) (p9 (L.1.length:Int)) (L.1++[([(i:Int)+1],[2])]) L.2:=by
   rw [b5r];exact .put (by omega) ⟨_,_,rfl,by omega,by omega,by omega,by omega⟩
  refine a1i W h1 h2 (by decide) st λ H11 r kl lo2 DK lf11 LT11 sub hr hkl=>?_;rw [show (L.1.length:Int)=(i:Int)+1 by omega] at hr;refine a1e (due:=p9 ((i:Int)+1)) (Tx.num_asc (i+1)) hr hkl (λ Q1 q1=>⟨_,rfl,_,_,rfl,rfl,_,rfl,lg,q1⟩) λ H12 e12=>⟨_,rfl,D6 ⟨_,lo2,_,stk++[L],rfl,⟨DK.same e12,(by show (stk++[L]).length<=900; simp; omega),LT11.same e12⟩,⟨?_,?_,λ g hg=>?_⟩,?_,?_⟩⟩
  ·simp
  ·simp; omega
  ·rcases bK.mp hg with hg | hg
   ·exact h2.h g hg
   ·rw [aQ.mp hg]; exact ⟨_,_,rfl,by omega,by omega,by omega,by omega⟩
  ·simp; omega
  ·simp; omega
 intro σ10 H10 hM_; refine N1 λ G_ hG_=>?_; obtain ⟨o9,lo',L,stk,rfl,h1,h2,h3⟩:=hM_; subst hG_;refine ⟨_,rfl,?_⟩;dsimp only [A3,G6,tC,cJ,bO];have h55:Rim.H1 ([5],[5]):=⟨5,5,rfl,by decide,by decide,by decide,by decide⟩;have er:C5 ("house 5>5":Str)=some (("house":Str),[Th.h ([5],[5])]):=by
  rw [show ("house 5>5":Str)=("house ":Str)++o4 ([5],[5]) from by decide +kernel];exact a3k h55.any
 refine a5a h1 (h2.b (by decide)) (E9 (by decide +kernel)) (by decide +kernel) er h55.sk W.nh W.wh W.MB W.MM (λ _ bad=>absurd bad (by omega)) (λ bad=>absurd h55.gk bad) (λ _ _ H11 r kl e11 hr hkl=>?_);exact b3v b3X hr hkl λ H12 e12=>q _
end
end Rim
namespace Rim
open PySem L2 Fr
theorem all_mk {l:W.OpenLaw} {w:World} {K:W.Frag} {h:Heap} {mg:Str->Option Value} {fa:Addr} {Ct Pt:Addr} (X:K.In h) (G:h.Ns mainGlobals mg) (hfa:mg "law"=some (.ref fa))
    {f1 f2 f3 f4 f5 f6 f7 f8 f9 f10 f11 f12 f13 f14 f15 f16 f17 f18 f19 f20 f21 f22 f23 f24 f25 f26 f27 f28 f29 f30 f31 f32 f33 f34 f35 f36 f37 f38 f39 f40 f41 f42 f43 f44 f45 f46 f47 f48 f49 f50 f51 f52 f53 CB dS tS0 tS1 tS2 tS3 cE_NoHouse cE_NoBook cE_RimError cE_NoRow cE_NoText cE_TooMany cE_NothingLeft:Addr} {cd1 cd2 cd3 cd4 cd5 cd6 cd7 cd8 cd9 cd10 cd11 cd12 cd13 cd14 cd15 cd16 cd17 cd18 cd19 cd21 cd22 cd23 cd24 cd25 cd26 cd27 cd28 cd29 cd30 cd31 cd32 cd33 cd34 cd35 cd36 cd37 cd38 cd39 cd40 cd41 cd42 cd43 cd44 cd45 cd46 cd47 cd48 cd49 cd50 cd51 cd52 ocL kVL dcL pmL cdL ctL:Value} {odL anL:Option Addr} {slL:Array (Option Value)} {odS0 odS1 odS2 odS3:Option Addr} {slS0 slS1 slS2 slS3:Array (Option Value)} {eS:Array DictEntry} {nS nS0 nS1 nS2 nS3:Nat} {tkA tkB tkC tkD:Tok} {tkC_MOST_AMOUNT:Tok} {tkC_MOST_HOUSES:Tok} {tkC_MOST_FIGURES:Tok} {tkC_MOST_KINDS:Tok} {CD dT_ASKS dT_DEEDS dT_FORMS oZ:Addr} {eT_ASKS eT_DEEDS eT_FORMS:Array DictEntry} {nT_ASKS nT_DEEDS nT_FORMS nZ:Nat} {odZ:Option Addr} {slZ:Array (Option Value)} {tkZ0 tkZ1 tkZ2 tkZ3 tkFIG:Tok} {gT_grow gT_others gT_alone gT_scale gT_rim gT_levels gT_order:Addr} {tF_house tF_drop tF_alter tF_sizes tF_back tF_share tF_grow tF_others tF_alone tF_scale tF_rim tF_levels tF_order tF_book:Addr} {odF_house odF_drop odF_alter odF_sizes odF_back odF_share odF_grow odF_others odF_alone odF_scale odF_rim odF_levels odF_order odF_book:Option Addr} {slF_house slF_drop slF_alter slF_sizes slF_back slF_share slF_grow slF_others slF_alone slF_scale slF_rim slF_levels slF_order slF_book:Array (Option Value)} {nF_house nF_drop nF_alter nF_sizes nF_back nF_share nF_grow nF_others nF_alone nF_scale nF_rim nF_levels nF_order nF_book:Nat} {tkF_house0 tkF_drop0 tkF_alter0 tkF_alter1 tkF_sizes0 tkF_share0 tkF_grow0 tkF_others0 tkF_alone0 tkF_scale0:Tok}
    (aD:W.nsIn K mainGlobals "Desk"=some (some (.ref CD)))
    (aB:W.nsIn K mainGlobals "Board"=some (some (.ref CB)))
    (a1:W.nsIn K mainGlobals "read_number"=some (some (.ref f1)))
    (l1:FunI K "read_number" "read_number" R8 f1 cd1)
    (a2:W.nsIn K mainGlobals "read_amounts"=some (some (.ref f2)))
    (l2:FunI K "read_amounts" "read_amounts" P2 f2 cd2)
    (a3:W.nsIn K mainGlobals "is_whole"=some (some (.ref f3)))
    (l3:FunI K "is_whole" "is_whole" a0r f3 cd3)
    (a4:W.nsIn K mainGlobals "are_amounts"=some (some (.ref f4)))
    (l4:FunI K "are_amounts" "are_amounts" S9 f4 cd4)
    (a5:W.nsIn K mainGlobals "is_house"=some (some (.ref f5)))
    (l5:FunI K "is_house" "is_house" a0y f5 cd5)
    (a6:W.nsIn K mainGlobals "is_any_house"=some (some (.ref f6)))
    (l6:FunI K "is_any_house" "is_any_house" O9 f6 cd6)
    (a7:W.nsIn K mainGlobals "read_house"=some (some (.ref f7)))
    (l7:FunI K "read_house" "read_house" U9 f7 cd7)
    (a8:W.nsIn K mainGlobals "is_book"=some (some (.ref f8)))
    (l8:FunI K "is_book" "is_book" a1k f8 cd8)
    (a9:W.nsIn K mainGlobals "read_book"=some (some (.ref f9)))
    (l9:FunI K "read_book" "read_book" Y0 f9 cd9)
    (a10:W.findIn K (.ref CD) "__init__"=some (some (.ref f10)))
    (l10:FunI K "__init__" "Desk.__init__" N6 f10 cd10)
    (n10:W.isFn K (.ref f10)=true)
    (a11:W.nsIn K mainGlobals "_law_cell_at"=some (some (.ref f11)))
    (l11:FunI K "_law_cell_at" "_law_cell_at" b0B f11 cd11)
    (a12:W.nsIn K mainGlobals "_law_draws"=some (some (.ref f12)))
    (l12:FunI K "_law_draws" "_law_draws" a5P f12 cd12)
    (a13:W.nsIn K mainGlobals "_law_a_text"=some (some (.ref f13)))
    (l13:FunI K "_law_a_text" "_law_a_text" S6 f13 cd13)
    (a14:W.nsIn K mainGlobals "_law_next"=some (some (.ref f14)))
    (l14:FunI K "_law_next" "_law_next" G8 f14 cd14)
    (a15:W.nsIn K mainGlobals "read_thing"=some (some (.ref f15)))
    (l15:FunI K "read_thing" "read_thing" U7 f15 cd15)
    (a16:W.nsIn K mainGlobals "read_row"=some (some (.ref f16)))
    (l16:FunI K "read_row" "read_row" M4 f16 cd16)
    (a17:W.findIn K (.ref CD) "take_back"=some (some (.ref f17)))
    (l17:FunI K "take_back" "Desk.take_back" M1 f17 cd17)
    (n17:W.isFn K (.ref f17)=true)
    (a18:W.nsIn K mainGlobals "house_of"=some (some (.ref f18)))
    (l18:FunI K "house_of" "house_of" b3P f18 cd18)
    (a19:W.findIn K (.ref CB) "__init__"=some (some (.ref f19)))
    (l19:FunI K "__init__" "Board.__init__" a4V f19 cd19)
    (n19:W.isFn K (.ref f19)=true)
    (a20:W.findIn K (.ref CB) "coming"=some (some (.ref f20)))
    (l20:FunI K "coming" "Board.coming" a4z f20 (.ref Ct))
    (n20:W.isFn K (.ref f20)=true)
    (a21:W.findIn K (.ref CB) "is_ahead"=some (some (.ref f21)))
    (l21:FunI K "is_ahead" "Board.is_ahead" a5C f21 cd21)
    (n21:W.isFn K (.ref f21)=true)
    (a22:W.findIn K (.ref CB) "going"=some (some (.ref f22)))
    (l22:FunI K "going" "Board.going" a6h f22 cd22)
    (n22:W.isFn K (.ref f22)=true)
    (a23:W.nsIn K mainGlobals "swept"=some (some (.ref f23)))
    (l23:FunI K "swept" "swept" a6s f23 cd23)
    (a24:W.findIn K (.ref CB) "exchange"=some (some (.ref f24)))
    (l24:FunI K "exchange" "Board.exchange" O6 f24 cd24)
    (n24:W.isFn K (.ref f24)=true)
    (a25:W.findIn K (.ref CB) "amounts"=some (some (.ref f25)))
    (l25:FunI K "amounts" "Board.amounts" b0V f25 cd25)
    (n25:W.isFn K (.ref f25)=true)
    (a26:W.findIn K (.ref CB) "weights"=some (some (.ref f26)))
    (l26:FunI K "weights" "Board.weights" b3L f26 cd26)
    (n26:W.isFn K (.ref f26)=true)
    (a27:W.nsIn K mainGlobals "greatest"=some (some (.ref f27)))
    (l27:FunI K "greatest" "greatest" M2 f27 cd27)
    (a28:W.nsIn K mainGlobals "house_rows"=some (some (.ref f28)))
    (l28:FunI K "house_rows" "house_rows" Q0 f28 cd28)
    (a29:W.nsIn K mainGlobals "greatest_earned"=some (some (.ref f29)))
    (l29:FunI K "greatest_earned" "greatest_earned" a0g f29 cd29)
    (a30:W.nsIn K mainGlobals "common_divisor"=some (some (.ref f30)))
    (l30:FunI K "common_divisor" "common_divisor" b4p f30 cd30)
    (a31:W.nsIn K mainGlobals "lowest"=some (some (.ref f31)))
    (l31:FunI K "lowest" "lowest" b4e f31 cd31)
    (a32:W.nsIn K mainGlobals "held_against"=some (some (.ref f32)))
    (l32:FunI K "held_against" "held_against" a8K f32 cd32)
    (a33:W.nsIn K mainGlobals "share"=some (some (.ref f33)))
    (l33:FunI K "share" "share" a6c f33 cd33)
    (a34:W.nsIn K mainGlobals "fraction_text"=some (some (.ref f34)))
    (l34:FunI K "fraction_text" "fraction_text" N8 f34 cd34)
    (a35:W.nsIn K mainGlobals "tell_share"=some (some (.ref f35)))
    (l35:FunI K "tell_share" "tell_share" V6 f35 cd35)
    (a36:W.nsIn K mainGlobals "numbers_text"=some (some (.ref f36)))
    (l36:FunI K "numbers_text" "numbers_text" P6 f36 cd36)
    (a37:W.nsIn K mainGlobals "house_text"=some (some (.ref f37)))
    (l37:FunI K "house_text" "house_text" V1 f37 cd37)
    (a38:W.nsIn K mainGlobals "book_text"=some (some (.ref f38)))
    (l38:FunI K "book_text" "book_text" Y1 f38 cd38)
    (a39:W.nsIn K mainGlobals "tell_book"=some (some (.ref f39)))
    (l39:FunI K "tell_book" "tell_book" X7 f39 cd39)
    (a40:W.nsIn K mainGlobals "refuse_unfit"=some (some (.ref f40)))
    (l40:FunI K "refuse_unfit" "refuse_unfit" P8 f40 cd40)
    (a41:W.nsIn K mainGlobals "with_one_more"=some (some (.ref f41)))
    (l41:FunI K "with_one_more" "with_one_more" N3 f41 cd41)
    (a42:W.nsIn K mainGlobals "put_house"=some (some (.ref f42)))
    (l42:FunI K "put_house" "put_house" W8 f42 cd42)
    (a43:W.nsIn K mainGlobals "without"=some (some (.ref f43)))
    (l43:FunI K "without" "without" a2Q f43 cd43)
    (a44:W.nsIn K mainGlobals "drop_house"=some (some (.ref f44)))
    (l44:FunI K "drop_house" "drop_house" V4 f44 cd44)
    (a45:W.nsIn K mainGlobals "with_another"=some (some (.ref f45)))
    (l45:FunI K "with_another" "with_another" P7 f45 cd45)
    (a46:W.nsIn K mainGlobals "alter_house"=some (some (.ref f46)))
    (l46:FunI K "alter_house" "alter_house" S3 f46 cd46)
    (a47:W.nsIn K mainGlobals "set_sizes"=some (some (.ref f47)))
    (l47:FunI K "set_sizes" "set_sizes" Y9 f47 cd47)
    (a48:W.findIn K (.ref CD) "say"=some (some (.ref f48)))
    (l48:FunI K "say" "Desk.say" M5 f48 cd48)
    (n48:W.isFn K (.ref f48)=true)
    (a49:W.nsIn K mainGlobals "_law_a_kin"=some (some (.ref f49)))
    (l49:FunI K "_law_a_kin" "_law_a_kin" U5 f49 cd49)
    (a50:W.nsIn K mainGlobals "_law_said"=some (some (.ref f50)))
    (l50:FunI K "_law_said" "_law_said" X3 f50 cd50)
    (a51:W.nsIn K mainGlobals "_law_right"=some (some (.ref f51)))
    (l51:FunI K "_law_right" "_law_right" D5 f51 cd51)
    (a52:W.nsIn K mainGlobals "_law_due_kin"=some (some (.ref f52)))
    (l52:FunI K "_law_due_kin" "_law_due_kin" O8 f52 cd52)
    (a53:W.nsIn K mainGlobals "law"=some (some (.ref f53)))
    (l53:K.lookup f53=some ⟨ocL,odL,.func (W.fnOf "law" "law" (E2 N5) (t9 N5) (d0 N5) .none kVL dcL pmL anL cdL ctL),slL⟩)
    (c53:W.codeIn K cdL "law"=true)
    (k53:W.keepIn K (.ref f53)=true)
    (z1:W.nsIn K mainGlobals "len"=some none)
    (z2:W.nsIn K mainGlobals "all"=some none)
    (z3:W.nsIn K mainGlobals "any"=some none)
    (z4:W.nsIn K mainGlobals "max"=some none)
    (z5:W.nsIn K mainGlobals "min"=some none)
    (z6:W.nsIn K mainGlobals "sum"=some none)
    (z7:W.nsIn K mainGlobals "tuple"=some none)
    (z8:W.nsIn K mainGlobals "list"=some none)
    (z9:W.nsIn K mainGlobals "int"=some none)
    (z10:W.nsIn K mainGlobals "bool"=some none)
    (z11:W.nsIn K mainGlobals "range"=some none)
    (z12:W.nsIn K mainGlobals "isinstance"=some none)
    (z13:W.nsIn K mainGlobals "abs"=some none)
    (z14:W.nsIn K mainGlobals "zip"=some none)
    (z15:W.nsIn K mainGlobals "enumerate"=some none)
    (z16:W.nsIn K mainGlobals "ValueError"=some none)
    (z17:W.nsIn K mainGlobals "sorted"=some none)
    (bp:W.plainGet K CB Str.empty=true)
    (bh:W.hasDictIn K CB=true)
    (bo:W.plainOver K CB=true)
    (bs:W.findIn K (.ref CB) "__setattr__"=some (some (.builtin "object.__setattr__")))
    (b_many:W.findIn K (.ref CB) "many"=some none)
    (b_scale:W.findIn K (.ref CB) "scale"=some none)
    (b_cells:W.findIn K (.ref CB) "cells"=some none)
    (b_outs:W.findIn K (.ref CB) "outs"=some none)
    (b_ins:W.findIn K (.ref CB) "ins"=some none)
    (bm:W.makesIn K CB=true)
    (bk:W.keepIn K (.ref CB)=true)
    (ddp:W.plainGet K CD Str.empty=true)
    (ddh:W.hasDictIn K CD=true)
    (ddo:W.plainOver K CD=true)
    (dds:W.findIn K (.ref CD) "__setattr__"=some (some (.builtin "object.__setattr__")))
    (dd_book:W.findIn K (.ref CD) "book"=some none)
    (dd_sizes:W.findIn K (.ref CD) "sizes"=some none)
    (dd_past:W.findIn K (.ref CD) "past"=some none)
    (ddm:W.makesIn K CD=true)
    (ddk:W.keepIn K (.ref CD)=true)
    (dmASKS:W.nsIn K mainGlobals "ASKS"=some (some (.ref dT_ASKS)))
    (dlASKS:K.lookup dT_ASKS=some ⟨.type "dict",none,.dict eT_ASKS nT_ASKS,#[]⟩)
    (dkASKS:W.KeysLit w.params eT_ASKS.toList)
    (dpASKS:aN L2.EntIs eT_ASKS.toList [("share",f35),("grow",gT_grow),("others",gT_others),("alone",gT_alone),("scale",gT_scale),("rim",gT_rim),("levels",gT_levels),("order",gT_order),("book",f39)])
    (dyASKS:(dT_ASKS==sysModules)=false)
    (dmDEEDS:W.nsIn K mainGlobals "DEEDS"=some (some (.ref dT_DEEDS)))
    (dlDEEDS:K.lookup dT_DEEDS=some ⟨.type "dict",none,.dict eT_DEEDS nT_DEEDS,#[]⟩)
    (dkDEEDS:W.KeysLit w.params eT_DEEDS.toList)
    (dpDEEDS:aN L2.EntIs eT_DEEDS.toList [("house",f42),("drop",f44),("alter",f46),("sizes",f47)])
    (dyDEEDS:(dT_DEEDS==sysModules)=false)
    (dmFORMS:W.nsIn K mainGlobals "FORMS"=some (some (.ref dT_FORMS)))
    (dlFORMS:K.lookup dT_FORMS=some ⟨.type "dict",none,.dict eT_FORMS nT_FORMS,#[]⟩)
    (dkFORMS:W.KeysLit w.params eT_FORMS.toList)
    (dpFORMS:aN L2.EntIs eT_FORMS.toList [("house",tF_house),("drop",tF_drop),("alter",tF_alter),("sizes",tF_sizes),("back",tF_back),("share",tF_share),("grow",tF_grow),("others",tF_others),("alone",tF_alone),("scale",tF_scale),("rim",tF_rim),("levels",tF_levels),("order",tF_order),("book",tF_book)])
    (dyFORMS:(dT_FORMS==sysModules)=false)
    (fl_house:K.lookup tF_house=some ⟨.type "tuple",odF_house,.seq #[.str "HOUSE" tkF_house0] nF_house,slF_house⟩)
    (fl_drop:K.lookup tF_drop=some ⟨.type "tuple",odF_drop,.seq #[.str "K" tkF_drop0] nF_drop,slF_drop⟩)
    (fl_alter:K.lookup tF_alter=some ⟨.type "tuple",odF_alter,.seq #[.str "K" tkF_alter0,.str "HOUSE" tkF_alter1] nF_alter,slF_alter⟩)
    (fl_sizes:K.lookup tF_sizes=some ⟨.type "tuple",odF_sizes,.seq #[.str "WORD" tkF_sizes0] nF_sizes,slF_sizes⟩)
    (fl_back:K.lookup tF_back=some ⟨.type "tuple",odF_back,.seq #[] nF_back,slF_back⟩)
    (fl_share:K.lookup tF_share=some ⟨.type "tuple",odF_share,.seq #[.str "K" tkF_share0] nF_share,slF_share⟩)
    (fl_grow:K.lookup tF_grow=some ⟨.type "tuple",odF_grow,.seq #[.str "K" tkF_grow0] nF_grow,slF_grow⟩)
    (fl_others:K.lookup tF_others=some ⟨.type "tuple",odF_others,.seq #[.str "K" tkF_others0] nF_others,slF_others⟩)
    (fl_alone:K.lookup tF_alone=some ⟨.type "tuple",odF_alone,.seq #[.str "K" tkF_alone0] nF_alone,slF_alone⟩)
    (fl_scale:K.lookup tF_scale=some ⟨.type "tuple",odF_scale,.seq #[.str "K" tkF_scale0] nF_scale,slF_scale⟩)
    (fl_rim:K.lookup tF_rim=some ⟨.type "tuple",odF_rim,.seq #[] nF_rim,slF_rim⟩)
    (fl_levels:K.lookup tF_levels=some ⟨.type "tuple",odF_levels,.seq #[] nF_levels,slF_levels⟩)
    (fl_order:K.lookup tF_order=some ⟨.type "tuple",odF_order,.seq #[] nF_order,slF_order⟩)
    (fl_book:K.lookup tF_book=some ⟨.type "tuple",odF_book,.seq #[] nF_book,slF_book⟩)
    (zm:W.nsIn K mainGlobals "SIZES"=some (some (.ref oZ)))
    (zl:K.lookup oZ=some ⟨.type "tuple",odZ,.seq #[.str "any" tkZ0,.str "one" tkZ1,.str "less" tkZ2,.str "more" tkZ3] nZ,slZ⟩)
    (zf:W.nsIn K mainGlobals "FIGURES"=some (some (.str "0123456789" tkFIG)))
    (zstr:W.nsIn K mainGlobals "str"=some none)
    (s1:W.nsIn K mainGlobals "SIZE_SIGNS"=some (some (.ref dS)))
    (s3:K.lookup dS=some ⟨.type "dict",none,.dict eS nS,#[]⟩)
    (s4:W.KeysLit w.params eS.toList)
    (sa0:W.nsIn K dS "any"=some (some (.ref tS0)))
    (sb0:K.lookup tS0=some ⟨.type "tuple",odS0,.seq #[] nS0,slS0⟩)
    (sa1:W.nsIn K dS "one"=some (some (.ref tS1)))
    (sb1:K.lookup tS1=some ⟨.type "tuple",odS1,.seq #[.int 1 tkA,.int (-1) tkB] nS1,slS1⟩)
    (sa2:W.nsIn K dS "less"=some (some (.ref tS2)))
    (sb2:K.lookup tS2=some ⟨.type "tuple",odS2,.seq #[.int (-1) tkC] nS2,slS2⟩)
    (sa3:W.nsIn K dS "more"=some (some (.ref tS3)))
    (sb3:K.lookup tS3=some ⟨.type "tuple",odS3,.seq #[.int 1 tkD] nS3,slS3⟩)
    (xmNoHouse:W.nsIn K mainGlobals "NoHouse"=some (some (.ref cE_NoHouse)))
    (xoNoHouse:W.excIn K cE_NoHouse [.type "ValueError",.type "Exception",.type "BaseException",.type "object"] "ValueError.__new__"=true)
    (xgaNoHouse:W.findIn K (.ref cE_NoHouse) "__getattribute__"=some (some (.builtin "BaseException.__getattribute__")))
    (xgnNoHouse:W.findIn K (.ref cE_NoHouse) "__getattr__"=some none)
    (xcaNoHouse:W.findIn K (.ref cE_NoHouse) "__class__"=some (some (.builtin "object.__class__")))
    (xmoNoHouse:W.mroIn K cE_NoHouse (.type "object")=some true)
    (xmbNoHouse:W.mroIn K cE_NoHouse (.type "BaseException")=some true)
    (xmNoBook:W.nsIn K mainGlobals "NoBook"=some (some (.ref cE_NoBook)))
    (xoNoBook:W.excIn K cE_NoBook [.type "ValueError",.type "Exception",.type "BaseException",.type "object"] "ValueError.__new__"=true)
    (xgaNoBook:W.findIn K (.ref cE_NoBook) "__getattribute__"=some (some (.builtin "BaseException.__getattribute__")))
    (xgnNoBook:W.findIn K (.ref cE_NoBook) "__getattr__"=some none)
    (xcaNoBook:W.findIn K (.ref cE_NoBook) "__class__"=some (some (.builtin "object.__class__")))
    (xmoNoBook:W.mroIn K cE_NoBook (.type "object")=some true)
    (xmbNoBook:W.mroIn K cE_NoBook (.type "BaseException")=some true)
    (xmRimError:W.nsIn K mainGlobals "RimError"=some (some (.ref cE_RimError)))
    (xoRimError:W.excIn K cE_RimError [.type "ValueError",.type "Exception",.type "BaseException",.type "object"] "ValueError.__new__"=true)
    (xgaRimError:W.findIn K (.ref cE_RimError) "__getattribute__"=some (some (.builtin "BaseException.__getattribute__")))
    (xgnRimError:W.findIn K (.ref cE_RimError) "__getattr__"=some none)
    (xcaRimError:W.findIn K (.ref cE_RimError) "__class__"=some (some (.builtin "object.__class__")))
    (xmoRimError:W.mroIn K cE_RimError (.type "object")=some true)
    (xmbRimError:W.mroIn K cE_RimError (.type "BaseException")=some true)
    (xmNoRow:W.nsIn K mainGlobals "NoRow"=some (some (.ref cE_NoRow)))
    (xoNoRow:W.excIn K cE_NoRow [.type "ValueError",.type "Exception",.type "BaseException",.type "object"] "ValueError.__new__"=true)
    (xgaNoRow:W.findIn K (.ref cE_NoRow) "__getattribute__"=some (some (.builtin "BaseException.__getattribute__")))
    (xgnNoRow:W.findIn K (.ref cE_NoRow) "__getattr__"=some none)
    (xcaNoRow:W.findIn K (.ref cE_NoRow) "__class__"=some (some (.builtin "object.__class__")))
    (xmoNoRow:W.mroIn K cE_NoRow (.type "object")=some true)
    (xmbNoRow:W.mroIn K cE_NoRow (.type "BaseException")=some true)
    (xmNoText:W.nsIn K mainGlobals "NoText"=some (some (.ref cE_NoText)))
    (xoNoText:W.excIn K cE_NoText [.type "ValueError",.type "Exception",.type "BaseException",.type "object"] "ValueError.__new__"=true)
    (xgaNoText:W.findIn K (.ref cE_NoText) "__getattribute__"=some (some (.builtin "BaseException.__getattribute__")))
    (xgnNoText:W.findIn K (.ref cE_NoText) "__getattr__"=some none)
    (xcaNoText:W.findIn K (.ref cE_NoText) "__class__"=some (some (.builtin "object.__class__")))
    (xmoNoText:W.mroIn K cE_NoText (.type "object")=some true)
    (xmbNoText:W.mroIn K cE_NoText (.type "BaseException")=some true)
    (xmTooMany:W.nsIn K mainGlobals "TooMany"=some (some (.ref cE_TooMany)))
    (xoTooMany:W.excIn K cE_TooMany [.type "ValueError",.type "Exception",.type "BaseException",.type "object"] "ValueError.__new__"=true)
    (xgaTooMany:W.findIn K (.ref cE_TooMany) "__getattribute__"=some (some (.builtin "BaseException.__getattribute__")))
    (xgnTooMany:W.findIn K (.ref cE_TooMany) "__getattr__"=some none)
    (xcaTooMany:W.findIn K (.ref cE_TooMany) "__class__"=some (some (.builtin "object.__class__")))
    (xmoTooMany:W.mroIn K cE_TooMany (.type "object")=some true)
    (xmbTooMany:W.mroIn K cE_TooMany (.type "BaseException")=some true)
    (xmNothingLeft:W.nsIn K mainGlobals "NothingLeft"=some (some (.ref cE_NothingLeft)))
    (xoNothingLeft:W.excIn K cE_NothingLeft [.type "ValueError",.type "Exception",.type "BaseException",.type "object"] "ValueError.__new__"=true)
    (xgaNothingLeft:W.findIn K (.ref cE_NothingLeft) "__getattribute__"=some (some (.builtin "BaseException.__getattribute__")))
    (xgnNothingLeft:W.findIn K (.ref cE_NothingLeft) "__getattr__"=some none)
    (xcaNothingLeft:W.findIn K (.ref cE_NothingLeft) "__class__"=some (some (.builtin "object.__class__")))
    (xmoNothingLeft:W.mroIn K cE_NothingLeft (.type "object")=some true)
    (xmbNothingLeft:W.mroIn K cE_NothingLeft (.type "BaseException")=some true)
    (cmMOST_AMOUNT:W.nsIn K mainGlobals "MOST_AMOUNT"=some (some (.int 1000000000 tkC_MOST_AMOUNT)))
    (cmMOST_HOUSES:W.nsIn K mainGlobals "MOST_HOUSES"=some (some (.int 16 tkC_MOST_HOUSES)))
    (cmMOST_FIGURES:W.nsIn K mainGlobals "MOST_FIGURES"=some (some (.int 10 tkC_MOST_FIGURES)))
    (cmMOST_KINDS:W.nsIn K mainGlobals "MOST_KINDS"=some (some (.int 4 tkC_MOST_KINDS)))
    (eSub_NoBook:W.mroIn K cE_NoBook (.ref cE_RimError)=some true)
    (eI_NoBook_NoHouse:W.kitOne K (.ref cE_NoBook) (.ref cE_NoHouse)=some false)
    (eI_NoBook_NoRow:W.kitOne K (.ref cE_NoBook) (.ref cE_NoRow)=some false)
    (eI_NoBook_NoText:W.kitOne K (.ref cE_NoBook) (.ref cE_NoText)=some false)
    (eI_NoBook_TooMany:W.kitOne K (.ref cE_NoBook) (.ref cE_TooMany)=some false)
    (eI_NoBook_NothingLeft:W.kitOne K (.ref cE_NoBook) (.ref cE_NothingLeft)=some false)
    (eIV_NoBook:W.kitOne K (.ref cE_NoBook) (.type "ValueError")=some true)
    (eSub_NoHouse:W.mroIn K cE_NoHouse (.ref cE_RimError)=some true)
    (eI_NoHouse_NoBook:W.kitOne K (.ref cE_NoHouse) (.ref cE_NoBook)=some false)
    (eI_NoHouse_NoRow:W.kitOne K (.ref cE_NoHouse) (.ref cE_NoRow)=some false)
    (eI_NoHouse_NoText:W.kitOne K (.ref cE_NoHouse) (.ref cE_NoText)=some false)
    (eI_NoHouse_TooMany:W.kitOne K (.ref cE_NoHouse) (.ref cE_TooMany)=some false)
    (eI_NoHouse_NothingLeft:W.kitOne K (.ref cE_NoHouse) (.ref cE_NothingLeft)=some false)
    (eIV_NoHouse:W.kitOne K (.ref cE_NoHouse) (.type "ValueError")=some true)
    (eSub_TooMany:W.mroIn K cE_TooMany (.ref cE_RimError)=some true)
    (eI_TooMany_NoBook:W.kitOne K (.ref cE_TooMany) (.ref cE_NoBook)=some false)
    (eI_TooMany_NoHouse:W.kitOne K (.ref cE_TooMany) (.ref cE_NoHouse)=some false)
    (eI_TooMany_NoRow:W.kitOne K (.ref cE_TooMany) (.ref cE_NoRow)=some false)
    (eI_TooMany_NoText:W.kitOne K (.ref cE_TooMany) (.ref cE_NoText)=some false)
    (eI_TooMany_NothingLeft:W.kitOne K (.ref cE_TooMany) (.ref cE_NothingLeft)=some false)
    (eIV_TooMany:W.kitOne K (.ref cE_TooMany) (.type "ValueError")=some true)
    (eSub_NothingLeft:W.mroIn K cE_NothingLeft (.ref cE_RimError)=some true)
    (eI_NothingLeft_NoBook:W.kitOne K (.ref cE_NothingLeft) (.ref cE_NoBook)=some false)
    (eI_NothingLeft_NoHouse:W.kitOne K (.ref cE_NothingLeft) (.ref cE_NoHouse)=some false)
    (eI_NothingLeft_NoRow:W.kitOne K (.ref cE_NothingLeft) (.ref cE_NoRow)=some false)
    (eI_NothingLeft_NoText:W.kitOne K (.ref cE_NothingLeft) (.ref cE_NoText)=some false)
    (eI_NothingLeft_TooMany:W.kitOne K (.ref cE_NothingLeft) (.ref cE_TooMany)=some false)
    (eIV_NothingLeft:W.kitOne K (.ref cE_NothingLeft) (.type "ValueError")=some true)
   :∃ fd:FuncData,(∀ (s:Shared) (v:Value),BindsTo s fd ⟨[v],[]⟩ [("script",v)])/\∀ base:Heap,K.In base->base.Ns mainGlobals mg->U8 mg base->(∀ t∈[(Ct,Pt)],W.CodeHd base t.1 t.2)->FnOk l.prog w K mg base K5 13 fa fd ["script"] (a6Z K Pt):=by
  have e:=hfa.symm.trans (W.mg_of X G a53)
  cases e;obtain ⟨_,F1,hc1,k1⟩:=l1.fn;obtain ⟨_,F2,hc2,k2⟩:=l2.fn;obtain ⟨_,F3,hc3,k3⟩:=l3.fn;obtain ⟨_,F4,hc4,k4⟩:=l4.fn;obtain ⟨_,F5,hc5,k5⟩:=l5.fn;obtain ⟨_,F6,hc6,k6⟩:=l6.fn;obtain ⟨_,F7,hc7,k7⟩:=l7.fn;obtain ⟨_,F8,hc8,k8⟩:=l8.fn;obtain ⟨_,F9,hc9,k9⟩:=l9.fn;obtain ⟨_,F10,hc10,k10⟩:=l10.fn;obtain ⟨_,F11,hc11,k11⟩:=l11.fn;obtain ⟨_,F12,hc12,k12⟩:=l12.fn;obtain ⟨_,F13,hc13,k13⟩:=l13.fn;obtain ⟨_,F14,hc14,k14⟩:=l14.fn;obtain ⟨_,F15,hc15,k15⟩:=l15.fn;obtain ⟨_,F16,hc16,k16⟩:=l16.fn;obtain ⟨_,F17,hc17,k17⟩:=l17.fn;obtain ⟨_,F18,hc18,k18⟩:=l18.fn;obtain ⟨_,F19,hc19,k19⟩:=l19.fn;obtain ⟨_,F20,hc20,k20⟩:=l20.fn;obtain ⟨_,F21,hc21,k21⟩:=l21.fn;obtain ⟨_,F22,hc22,k22⟩:=l22.fn;obtain ⟨_,F23,hc23,k23⟩:=l23.fn;obtain ⟨_,F24,hc24,k24⟩:=l24.fn;obtain ⟨_,F25,hc25,k25⟩:=l25.fn;obtain ⟨_,F26,hc26,k26⟩:=l26.fn;obtain ⟨_,F27,hc27,k27⟩:=l27.fn;obtain ⟨_,F28,hc28,k28⟩:=l28.fn;obtain ⟨_,F29,hc29,k29⟩:=l29.fn;obtain ⟨_,F30,hc30,k30⟩:=l30.fn;obtain ⟨_,F31,hc31,k31⟩:=l31.fn;obtain ⟨_,F32,hc32,k32⟩:=l32.fn;obtain ⟨_,F33,hc33,k33⟩:=l33.fn;obtain ⟨_,F34,hc34,k34⟩:=l34.fn;obtain ⟨_,F35,hc35,k35⟩:=l35.fn;obtain ⟨_,F36,hc36,k36⟩:=l36.fn;obtain ⟨_,F37,hc37,k37⟩:=l37.fn;obtain ⟨_,F38,hc38,k38⟩:=l38.fn;obtain ⟨_,F39,hc39,k39⟩:=l39.fn;obtain ⟨_,F40,hc40,k40⟩:=l40.fn;obtain ⟨_,F41,hc41,k41⟩:=l41.fn;obtain ⟨_,F42,hc42,k42⟩:=l42.fn;obtain ⟨_,F43,hc43,k43⟩:=l43.fn;obtain ⟨_,F44,hc44,k44⟩:=l44.fn;obtain ⟨_,F45,hc45,k45⟩:=l45.fn;obtain ⟨_,F46,hc46,k46⟩:=l46.fn;obtain ⟨_,F47,hc47,k47⟩:=l47.fn;obtain ⟨_,F48,hc48,k48⟩:=l48.fn;obtain ⟨_,F49,hc49,k49⟩:=l49.fn;obtain ⟨_,F50,hc50,k50⟩:=l50.fn;obtain ⟨_,F51,hc51,k51⟩:=l51.fn;obtain ⟨_,F52,hc52,k52⟩:=l52.fn;have F53:=b0C (st:=N5) l53 c53 k53;have b1:Binds K _ ["text"] []:=F1.b1 λ _ _ _ _ _ _ _=>rfl;have b2:Binds K _ ["text"] []:=F2.b1 λ _ _ _ _ _ _ _=>rfl;have b3:Binds K _ ["thing"] []:=F3.b1 λ _ _ _ _ _ _ _=>rfl;have b4:Binds K _ ["thing","many","least"] []:=F4.b3 λ _ _ _ _ _ _ _ _ _=>rfl;have b5:Binds K _ ["thing","many_takes","many_gives"] []:=F5.b3 λ _ _ _ _ _ _ _ _ _=>rfl;have b6:Binds K _ ["thing"] []:=F6.b1 λ _ _ _ _ _ _ _=>rfl;have b7:Binds K _ ["text"] []:=F7.b1 λ _ _ _ _ _ _ _=>rfl;have b8:Binds K _ ["thing"] []:=F8.b1 λ _ _ _ _ _ _ _=>rfl;have b9:Binds K _ ["text"] []:=F9.b1 λ _ _ _ _ _ _ _=>rfl;have b10:Binds K _ ["self","text"] []:=F10.b2 λ _ _ _ _ _ _ _ _=>rfl;have b11:Binds K _ ["script","k"] []:=F11.b2 λ _ _ _ _ _ _ _ _=>rfl;have b12:Binds K _ ["cell","many","base"] []:=F12.b3 λ _ _ _ _ _ _ _ _ _=>rfl;have b13:Binds K _ ["book"] []:=F13.b1 λ _ _ _ _ _ _ _=>rfl;have b14:Binds K _ ["book","sizes","pick"] []:=F14.b3 λ _ _ _ _ _ _ _ _ _=>rfl;have b15:Binds K _ ["form","text"] []:=F15.b2 λ _ _ _ _ _ _ _ _=>rfl;have b16:Binds K _ ["row"] []:=F16.b1 λ _ _ _ _ _ _ _=>rfl;have b17:Binds K _ ["self"] []:=F17.b1 λ _ _ _ _ _ _ _=>rfl;have b18:Binds K _ ["book","number"] []:=F18.b2 λ _ _ _ _ _ _ _ _=>rfl;have b19:Binds K _ ["self","goal","rows","bounds"] []:=F19.b4 λ _ _ _ _ _ _ _ _ _ _=>rfl;have b20:Binds K _ ["self"] []:=F20.b1 λ _ _ _ _ _ _ _=>rfl;have b21:Binds K _ ["self","row","other","column"] []:=F21.b4 λ _ _ _ _ _ _ _ _ _ _=>rfl;have b22:Binds K _ ["self","column"] []:=F22.b2 λ _ _ _ _ _ _ _ _=>rfl;have b23:Binds K _ ["cells","lead","column","scale"] []:=F23.b4 λ _ _ _ _ _ _ _ _ _ _=>rfl;have b24:Binds K _ ["self","row","column"] []:=F24.b3 λ _ _ _ _ _ _ _ _ _=>rfl;have b25:Binds K _ ["self"] []:=F25.b1 λ _ _ _ _ _ _ _=>rfl;have b26:Binds K _ ["self"] []:=F26.b1 λ _ _ _ _ _ _ _=>rfl;have b27:Binds K _ ["goal","rows","bounds"] []:=F27.b3 λ _ _ _ _ _ _ _ _ _=>rfl;have b28:Binds K _ ["houses","sizes"] []:=F28.b2 λ _ _ _ _ _ _ _ _=>rfl;have b29:Binds K _ ["houses","house","sizes"] []:=F29.b3 λ _ _ _ _ _ _ _ _ _=>rfl;have b30:Binds K _ ["one","other"] []:=F30.b2 λ _ _ _ _ _ _ _ _=>rfl;have b31:Binds K _ ["top","bottom"] []:=F31.b2 λ _ _ _ _ _ _ _ _=>rfl;have b32:Binds K _ ["houses","house","sizes"] []:=F32.b3 λ _ _ _ _ _ _ _ _ _=>rfl;have b33:Binds K _ ["book","number","sizes"] []:=F33.b3 λ _ _ _ _ _ _ _ _ _=>rfl;have b34:Binds K _ ["one"] []:=F34.b1 λ _ _ _ _ _ _ _=>rfl;have b35:Binds K _ ["book","sizes","things"] []:=F35.b3 λ _ _ _ _ _ _ _ _ _=>rfl;have b36:Binds K _ ["numbers"] []:=F36.b1 λ _ _ _ _ _ _ _=>rfl;have b37:Binds K _ ["house"] []:=F37.b1 λ _ _ _ _ _ _ _=>rfl;have b38:Binds K _ ["book"] []:=F38.b1 λ _ _ _ _ _ _ _=>rfl;have b39:Binds K _ ["book","sizes","things"] []:=F39.b3 λ _ _ _ _ _ _ _ _ _=>rfl;have b40:Binds K _ ["thing","many_takes","many_gives"] []:=F40.b3 λ _ _ _ _ _ _ _ _ _=>rfl;have b41:Binds K _ ["houses","house","many_takes","many_gives"] []:=F41.b4 λ _ _ _ _ _ _ _ _ _ _=>rfl;have b42:Binds K _ ["book","sizes","things"] []:=F42.b3 λ _ _ _ _ _ _ _ _ _=>rfl;have b43:Binds K _ ["houses","number"] []:=F43.b2 λ _ _ _ _ _ _ _ _=>rfl;have b44:Binds K _ ["book","sizes","things"] []:=F44.b3 λ _ _ _ _ _ _ _ _ _=>rfl;have b45:Binds K _ ["houses","number","house","many_takes","many_gives"] []:=F45.b5 λ _ _ _ _ _ _ _ _ _ _ _=>rfl;have b46:Binds K _ ["book","sizes","things"] []:=F46.b3 λ _ _ _ _ _ _ _ _ _=>rfl;have b47:Binds K _ ["book","sizes","things"] []:=F47.b3 λ _ _ _ _ _ _ _ _ _=>rfl;have b48:Binds K _ ["self","row"] []:=F48.b2 λ _ _ _ _ _ _ _ _=>rfl;have b49:Binds K _ ["e"] []:=F49.b1 λ _ _ _ _ _ _ _=>rfl;have b50:Binds K _ ["desk","row"] []:=F50.b2 λ _ _ _ _ _ _ _ _=>rfl;have b51:Binds K _ ["desk","book","sizes"] []:=F51.b3 λ _ _ _ _ _ _ _ _ _=>rfl;have b52:Binds K _ ["name"] []:=F52.b1 λ _ _ _ _ _ _ _=>rfl;have T:v7 mg:=⟨W.mg_none_of X G z1,W.mg_none_of X G z2,W.mg_none_of X G z3,W.mg_none_of X G z4,W.mg_none_of X G z5,W.mg_none_of X G z6,W.mg_none_of X G z7,W.mg_none_of X G z8,W.mg_none_of X G z9,W.mg_none_of X G z10,W.mg_none_of X G z11,W.mg_none_of X G z12,W.mg_none_of X G z13,W.mg_none_of X G z14,W.mg_none_of X G z15,W.mg_none_of X G z16,W.mg_none_of X G z17⟩;have TBd:TB K CB:=⟨⟨bp,bh,bo,bs⟩,b_many,b_scale,b_cells,b_outs,b_ins⟩;have zs:=W.mg_none_of X G zstr;have TDd:TD K CD:=⟨⟨ddp,ddh,ddo,dds⟩,dd_book,dd_sizes,dd_past⟩;have T_ASKS:KTab K w.params mg "ASKS" dT_ASKS [("share",f35),("grow",gT_grow),("others",gT_others),("alone",gT_alone),("scale",gT_scale),("rim",gT_rim),("levels",gT_levels),("order",gT_order),("book",f39)]:=⟨W.mg_of X G dmASKS,⟨_,_,dlASKS,dkASKS,dpASKS⟩,dyASKS⟩;have T_DEEDS:KTab K w.params mg "DEEDS" dT_DEEDS [("house",f42),("drop",f44),("alter",f46),("sizes",f47)]:=⟨W.mg_of X G dmDEEDS,⟨_,_,dlDEEDS,dkDEEDS,dpDEEDS⟩,dyDEEDS⟩;have T_FORMS:KTab K w.params mg "FORMS" dT_FORMS [("house",tF_house),("drop",tF_drop),("alter",tF_alter),("sizes",tF_sizes),("back",tF_back),("share",tF_share),("grow",tF_grow),("others",tF_others),("alone",tF_alone),("scale",tF_scale),("rim",tF_rim),("levels",tF_levels),("order",tF_order),("book",tF_book)]:=⟨W.mg_of X G dmFORMS,⟨_,_,dlFORMS,dkFORMS,dpFORMS⟩,dyFORMS⟩;have FT:a5N K w.params mg dT_FORMS [("house",tF_house),("drop",tF_drop),("alter",tF_alter),("sizes",tF_sizes),("back",tF_back),("share",tF_share),("grow",tF_grow),("others",tF_others),("alone",tF_alone),("scale",tF_scale),("rim",tF_rim),("levels",tF_levels),("order",tF_order),("book",tF_book)]:=⟨T_FORMS,.cons ⟨rfl,λ H=>.inr ⟨_,_,_,fl_house,rfl,rfl,(by show 1<=sizeLine; decide),.cons ⟨_,rfl⟩ (.nil)⟩⟩ (.cons ⟨rfl,λ H=>.inr ⟨_,_,_,fl_drop,rfl,rfl,(by show 1<=sizeLine; decide),.cons ⟨_,rfl⟩ (.nil)⟩⟩ (.cons ⟨rfl,λ H=>.inr ⟨_,_,_,fl_alter,rfl,rfl,(by show 2<=sizeLine; decide),.cons ⟨_,rfl⟩ (.cons ⟨_,rfl⟩ (.nil))⟩⟩ (.cons ⟨rfl,λ H=>.inr ⟨_,_,_,fl_sizes,rfl,rfl,(by show 1<=sizeLine; decide),.cons ⟨_,rfl⟩ (.nil)⟩⟩ (.cons ⟨rfl,λ H=>.inr ⟨_,_,_,fl_back,rfl,rfl,(by show 0<=sizeLine; decide),.nil⟩⟩ (.cons ⟨rfl,λ H=>.inr ⟨_,_,_,fl_share,rfl,rfl,(by show 1<=sizeLine; decide),.cons ⟨_,rfl⟩ (.nil)⟩⟩ (.cons ⟨rfl,λ H=>.inr ⟨_,_,_,fl_grow,rfl,rfl,(by show 1<=sizeLine; decide),.cons ⟨_,rfl⟩ (.nil)⟩⟩ (.cons ⟨rfl,λ H=>.inr ⟨_,_,_,fl_others,rfl,rfl,(by show 1<=sizeLine; decide),.cons ⟨_,rfl⟩ (.nil)⟩⟩ (.cons ⟨rfl,λ H=>.inr ⟨_,_,_,fl_alone,rfl,rfl,(by show 1<=sizeLine; decide),.cons ⟨_,rfl⟩ (.nil)⟩⟩ (.cons ⟨rfl,λ H=>.inr ⟨_,_,_,fl_scale,rfl,rfl,(by show 1<=sizeLine; decide),.cons ⟨_,rfl⟩ (.nil)⟩⟩ (.cons ⟨rfl,λ H=>.inr ⟨_,_,_,fl_rim,rfl,rfl,(by show 0<=sizeLine; decide),.nil⟩⟩ (.cons ⟨rfl,λ H=>.inr ⟨_,_,_,fl_levels,rfl,rfl,(by show 0<=sizeLine; decide),.nil⟩⟩ (.cons ⟨rfl,λ H=>.inr ⟨_,_,_,fl_order,rfl,rfl,(by show 0<=sizeLine; decide),.nil⟩⟩ (.cons ⟨rfl,λ H=>.inr ⟨_,_,_,fl_book,rfl,rfl,(by show 0<=sizeLine; decide),.nil⟩⟩ (.nil))))))))))))))⟩;have ZT:b0j K mg oZ:=⟨W.mg_of X G zm,λ H=>.inr ⟨_,_,_,zl,rfl,rfl,(by show 4<=sizeLine; decide),.cons ⟨_,rfl⟩ (.cons ⟨_,rfl⟩ (.cons ⟨_,rfl⟩ (.cons ⟨_,rfl⟩ .nil)))⟩⟩;have CF:∃ t,mg "FIGURES"=some (.str FIG t):=⟨_,W.mg_of X G zf⟩;have SG:Sg K w.params mg dS:=⟨W.mg_of X G s1,⟨_,_,s3,s4⟩,λ z hz=>by
    rcases hz with rfl | rfl | rfl | rfl
    . exact ⟨_,sa0,λ H=>.inr ⟨_,_,_,sb0,rfl,rfl,(by show 0<=sizeLine; decide),.nil⟩⟩
    . exact ⟨_,sa1,λ H=>.inr ⟨_,_,_,sb1,rfl,rfl,(by show 2<=sizeLine; decide),.cons ⟨_,rfl⟩ (.cons ⟨_,rfl⟩ .nil)⟩⟩
    . exact ⟨_,sa2,λ H=>.inr ⟨_,_,_,sb2,rfl,rfl,(by show 1<=sizeLine; decide),.cons ⟨_,rfl⟩ .nil⟩⟩
    . exact ⟨_,sa3,λ H=>.inr ⟨_,_,_,sb3,rfl,rfl,(by show 1<=sizeLine; decide),.cons ⟨_,rfl⟩ .nil⟩⟩
    ⟩
  have C_MOST_AMOUNT:∃ t,mg "MOST_AMOUNT"=some (.int 1000000000 t):=⟨_,W.mg_of X G cmMOST_AMOUNT⟩;have C_MOST_HOUSES:∃ t,mg "MOST_HOUSES"=some (.int 16 t):=⟨_,W.mg_of X G cmMOST_HOUSES⟩;have C_MOST_FIGURES:∃ t,mg "MOST_FIGURES"=some (.int 10 t):=⟨_,W.mg_of X G cmMOST_FIGURES⟩;have C_MOST_KINDS:∃ t,mg "MOST_KINDS"=some (.int 4 t):=⟨_,W.mg_of X G cmMOST_KINDS⟩;have k_NoHouse:P0 K cE_NoHouse:=⟨a0D xoNoHouse,xgaNoHouse,xgnNoHouse,xcaNoHouse,xmoNoHouse,xmbNoHouse⟩;have m_NoHouse:=W.mg_of X G xmNoHouse;have k_NoBook:P0 K cE_NoBook:=⟨a0D xoNoBook,xgaNoBook,xgnNoBook,xcaNoBook,xmoNoBook,xmbNoBook⟩;have m_NoBook:=W.mg_of X G xmNoBook;have k_RimError:P0 K cE_RimError:=⟨a0D xoRimError,xgaRimError,xgnRimError,xcaRimError,xmoRimError,xmbRimError⟩;have m_RimError:=W.mg_of X G xmRimError;have k_NoRow:P0 K cE_NoRow:=⟨a0D xoNoRow,xgaNoRow,xgnNoRow,xcaNoRow,xmoNoRow,xmbNoRow⟩;have m_NoRow:=W.mg_of X G xmNoRow;have k_NoText:P0 K cE_NoText:=⟨a0D xoNoText,xgaNoText,xgnNoText,xcaNoText,xmoNoText,xmbNoText⟩;have m_NoText:=W.mg_of X G xmNoText;have k_TooMany:P0 K cE_TooMany:=⟨a0D xoTooMany,xgaTooMany,xgnTooMany,xcaTooMany,xmoTooMany,xmbTooMany⟩;have m_TooMany:=W.mg_of X G xmTooMany;have k_NothingLeft:P0 K cE_NothingLeft:=⟨a0D xoNothingLeft,xgaNothingLeft,xgnNothingLeft,xcaNothingLeft,xmoNothingLeft,xmbNothingLeft⟩;have m_NothingLeft:=W.mg_of X G xmNothingLeft;have R:b4m K mg cE_RimError cE_NoBook cE_NoHouse cE_NoRow cE_NoText cE_TooMany cE_NothingLeft:=⟨m_RimError,m_NoBook,m_NoHouse,m_NoRow,m_NoText,m_TooMany,m_NothingLeft,k_RimError⟩;have M_NoBook:J8 K cE_NoBook cE_RimError cE_NoBook cE_NoHouse cE_NoRow cE_NoText cE_TooMany cE_NothingLeft true false false false false false:=⟨k_NoBook,eSub_NoBook,P9 _,eI_NoBook_NoHouse,eI_NoBook_NoRow,eI_NoBook_NoText,eI_NoBook_TooMany,eI_NoBook_NothingLeft,eIV_NoBook⟩;have M_NoHouse:J8 K cE_NoHouse cE_RimError cE_NoBook cE_NoHouse cE_NoRow cE_NoText cE_TooMany cE_NothingLeft false true false false false false:=⟨k_NoHouse,eSub_NoHouse,eI_NoHouse_NoBook,P9 _,eI_NoHouse_NoRow,eI_NoHouse_NoText,eI_NoHouse_TooMany,eI_NoHouse_NothingLeft,eIV_NoHouse⟩;have M_TooMany:J8 K cE_TooMany cE_RimError cE_NoBook cE_NoHouse cE_NoRow cE_NoText cE_TooMany cE_NothingLeft false false false false true false:=⟨k_TooMany,eSub_TooMany,eI_TooMany_NoBook,eI_TooMany_NoHouse,eI_TooMany_NoRow,eI_TooMany_NoText,P9 _,eI_TooMany_NothingLeft,eIV_TooMany⟩;have M_NothingLeft:J8 K cE_NothingLeft cE_RimError cE_NoBook cE_NoHouse cE_NoRow cE_NoText cE_TooMany cE_NothingLeft false false false false false true:=⟨k_NothingLeft,eSub_NothingLeft,eI_NothingLeft_NoBook,eI_NothingLeft_NoHouse,eI_NothingLeft_NoRow,eI_NothingLeft_NoText,eI_NothingLeft_TooMany,P9 _,eIV_NothingLeft⟩;refine ⟨W.fnOf "law" "law" (E2 N5) (t9 N5) (d0 N5) .none kVL dcL pmL anL cdL ctL,λ s v=>.of_eq rfl,λ base _ _ BM hCH=>?_⟩;have g1:=λ n:Nat=>a9M (mg:=mg) (P:=l.prog) (w:=w) (base:=base) (n:=n) F1 T C_MOST_FIGURES CF;have g2:=λ n:Nat=>b0d (mg:=mg) (P:=l.prog) (w:=w) (base:=base) F2 T ⟨g1 (n+0),b1,k1,(W.mg_of X G a1)⟩;have g3:=λ n:Nat=>b1A (mg:=mg) (P:=l.prog) (w:=w) (base:=base) (n:=n) F3 T;have g4:=λ n:Nat=>b1G (mg:=mg) (P:=l.prog) (w:=w) (base:=base) F4 T C_MOST_AMOUNT ⟨g3 (n+0),b3,k3,(W.mg_of X G a3)⟩;have g5:=λ n:Nat=>b1B (mg:=mg) (P:=l.prog) (w:=w) (base:=base) F5 T ⟨g4 (n+0),b4,k4,(W.mg_of X G a4)⟩;have g6:=λ n:Nat=>b1r (mg:=mg) (P:=l.prog) (w:=w) (base:=base) F6 T C_MOST_KINDS ⟨g5 (n+0),b5,k5,(W.mg_of X G a5)⟩;have g7:=λ n:Nat=>a9m (mg:=mg) (P:=l.prog) (w:=w) (base:=base) F7 T ⟨g2 (n+2),b2,k2,(W.mg_of X G a2)⟩ ⟨g6 (n+0),b6,k6,(W.mg_of X G a6)⟩;have g8:=λ n:Nat=>b4i (mg:=mg) (P:=l.prog) (w:=w) (base:=base) F8 T C_MOST_HOUSES ⟨g6 (n+0),b6,k6,(W.mg_of X G a6)⟩ ⟨g5 (n+1),b5,k5,(W.mg_of X G a5)⟩;have g9:=λ n:Nat=>b0x (mg:=mg) (P:=l.prog) (w:=w) (base:=base) F9 T k_NoText m_NoText ⟨g7 (n+0),b7,k7,(W.mg_of X G a7)⟩ ⟨g8 (n+0),b8,k8,(W.mg_of X G a8)⟩;have g10:=λ n:Nat=>b0v (mg:=mg) (P:=l.prog) (w:=w) (base:=base) F10 TDd ⟨g9 (n+0),b9,k9,(W.mg_of X G a9)⟩;have g11:=λ n:Nat=>b1L (mg:=mg) (P:=l.prog) (w:=w) (base:=base) (n:=n) F11 T;have g12:=λ n:Nat=>a9j (mg:=mg) (P:=l.prog) (w:=w) (base:=base) (n:=n) F12 T;have g13:=λ n:Nat=>a9k (mg:=mg) (P:=l.prog) (w:=w) (base:=base) (n:=n) F13 zs;have g14:=λ n:Nat=>a8d (mg:=mg) (P:=l.prog) (w:=w) (base:=base) F14 T zs ⟨g13 (n+0),b13,k13,(W.mg_of X G a13)⟩;have g15:=λ n:Nat=>a9x (mg:=mg) (P:=l.prog) (w:=w) (base:=base) F15 ZT ⟨g1 (n+4),b1,k1,(W.mg_of X G a1)⟩ ⟨g7 (n+0),b7,k7,(W.mg_of X G a7)⟩;have g16:=λ n:Nat=>a9s (mg:=mg) (P:=l.prog) (w:=w) (base:=base) F16 T FT k_NoRow m_NoRow ⟨g15 (n+0),b15,k15,(W.mg_of X G a15)⟩;have g17:=λ n:Nat=>a9P (mg:=mg) (P:=l.prog) (w:=w) (base:=base) (n:=n) F17 TDd k_NothingLeft m_NothingLeft;have g18:=λ n:Nat=>b4f (mg:=mg) (P:=l.prog) (w:=w) (base:=base) (n:=n) F18 T k_NoHouse m_NoHouse;have g19:=λ n:Nat=>b1N (mg:=mg) (P:=l.prog) (w:=w) (base:=base) (n:=n) F19 T TBd;have g20:=λ n:Nat=>a8i (mg:=mg) (P:=l.prog) (w:=w) (base:=base) (n:=n) F20 hc20 (hCH _ (.head _)) BM T TBd;have g21:=λ n:Nat=>a9t (mg:=mg) (P:=l.prog) (w:=w) (base:=base) (n:=n) F21 TBd;have g22:=λ n:Nat=>a8H (mg:=mg) (P:=l.prog) (w:=w) (base:=base) F22 T TBd ⟨g21 (n+0),b21,⟨a21,n21,k21⟩⟩;have g23:=λ n:Nat=>a9l (mg:=mg) (P:=l.prog) (w:=w) (base:=base) (n:=n) F23 T;have g24:=λ n:Nat=>a4T (mg:=mg) (P:=l.prog) (w:=w) (base:=base) F24 TBd ⟨g23 (n+0),b23,k23,(W.mg_of X G a23)⟩;have g25:=λ n:Nat=>b1l (mg:=mg) (P:=l.prog) (w:=w) (base:=base) (n:=n) F25 T TBd;have g26:=λ n:Nat=>b3m (mg:=mg) (P:=l.prog) (w:=w) (base:=base) (n:=n) F26 T TBd;have g27:=λ n:Nat=>a5c (mg:=mg) (P:=l.prog) (w:=w) (base:=base) F27 TBd ⟨⟨bm,a19,n19,bk⟩,g19 (n+2),b19,W.mg_of X G aB,⟨g20 (n+0),b20,⟨a20,n20,k20⟩⟩,⟨g22 (n+1),b22,⟨a22,n22,k22⟩⟩,⟨g24 (n+1),b24,⟨a24,n24,k24⟩⟩,⟨g25 (n+2),b25,⟨a25,n25,k25⟩⟩,⟨g26 (n+2),b26,⟨a26,n26,k26⟩⟩⟩;have g28:=λ n:Nat=>a4B (mg:=mg) (P:=l.prog) (w:=w) (base:=base) (n:=n) F28 T SG;have g29:=λ n:Nat=>a7R (mg:=mg) (P:=l.prog) (w:=w) (base:=base) F29 T SG ⟨g27 (n+0),b27,k27,(W.mg_of X G a27)⟩ ⟨g28 (n+4),b28,k28,(W.mg_of X G a28)⟩;have g30:=λ n:Nat=>b3q (mg:=mg) (P:=l.prog) (w:=w) (base:=base) (n:=n) F30 T;have g31:=λ n:Nat=>b4d (mg:=mg) (P:=l.prog) (w:=w) (base:=base) F31 T ⟨g30 (n+0),b30,k30,(W.mg_of X G a30)⟩;have g32:=λ n:Nat=>b2h (mg:=mg) (P:=l.prog) (w:=w) (base:=base) F32 ⟨g29 (n+0),b29,k29,(W.mg_of X G a29)⟩ ⟨g31 (n+4),b31,k31,(W.mg_of X G a31)⟩;have g33:=λ n:Nat=>a9R (mg:=mg) (P:=l.prog) (w:=w) (base:=base) F33 ⟨g18 (n+6),b18,k18,(W.mg_of X G a18)⟩ ⟨g32 (n+0),b32,k32,(W.mg_of X G a32)⟩;have g34:=λ n:Nat=>b0i (mg:=mg) (P:=l.prog) (w:=w) (base:=base) (n:=n) F34;have g35:=λ n:Nat=>a8A (mg:=mg) (P:=l.prog) (w:=w) (base:=base) F35 ⟨g33 (n+0),b33,k33,(W.mg_of X G a33)⟩ ⟨g34 (n+7),b34,k34,(W.mg_of X G a34)⟩;have g36:=λ n:Nat=>b1q (mg:=mg) (P:=l.prog) (w:=w) (base:=base) (n:=n) F36 zs;have g37:=λ n:Nat=>a8w (mg:=mg) (P:=l.prog) (w:=w) (base:=base) F37 ⟨g36 (n+0),b36,k36,(W.mg_of X G a36)⟩;have g38:=λ n:Nat=>b0n (mg:=mg) (P:=l.prog) (w:=w) (base:=base) F38 ⟨g37 (n+0),b37,k37,(W.mg_of X G a37)⟩;have g39:=λ n:Nat=>a8P (mg:=mg) (P:=l.prog) (w:=w) (base:=base) F39 ⟨g38 (n+0),b38,k38,(W.mg_of X G a38)⟩;have g40:=λ n:Nat=>a8B (mg:=mg) (P:=l.prog) (w:=w) (base:=base) F40 k_NoBook m_NoBook ⟨g5 (n+0),b5,k5,(W.mg_of X G a5)⟩;have g41:=λ n:Nat=>a5W (mg:=mg) (P:=l.prog) (w:=w) (base:=base) F41 T k_TooMany m_TooMany C_MOST_HOUSES ⟨g40 (n+0),b40,k40,(W.mg_of X G a40)⟩;have g42:=λ n:Nat=>b3N (mg:=mg) (P:=l.prog) (w:=w) (base:=base) F42 T zs ⟨g41 (n+0),b41,k41,(W.mg_of X G a41)⟩;have g43:=λ n:Nat=>a6a (mg:=mg) (P:=l.prog) (w:=w) (base:=base) F43 ⟨g18 (n+0),b18,k18,(W.mg_of X G a18)⟩;have g44:=λ n:Nat=>b1Q (mg:=mg) (P:=l.prog) (w:=w) (base:=base) F44 k_NoBook m_NoBook ⟨g43 (n+0),b43,k43,(W.mg_of X G a43)⟩;have g45:=λ n:Nat=>a6r (mg:=mg) (P:=l.prog) (w:=w) (base:=base) F45 ⟨g18 (n+3),b18,k18,(W.mg_of X G a18)⟩ ⟨g40 (n+0),b40,k40,(W.mg_of X G a40)⟩;have g46:=λ n:Nat=>a8c (mg:=mg) (P:=l.prog) (w:=w) (base:=base) F46 T ⟨g45 (n+0),b45,k45,(W.mg_of X G a45)⟩;have g47:=λ n:Nat=>b1X (mg:=mg) (P:=l.prog) (w:=w) (base:=base) (n:=n) F47;have g48:=λ n:Nat=>b4w (FA:=b4R l.prog w K mg base 9) (mg:=mg) (P:=l.prog) (w:=w) (base:=base) F48 TDd T_ASKS T_DEEDS ⟨g16 (n+2),b16,k16,(W.mg_of X G a16)⟩ ⟨g17 (n+8),b17,⟨a17,n17,k17⟩⟩ (λ g sp h=>h n);have DWd:DW K Pt cE_RimError cE_NoBook cE_NoHouse cE_NoRow cE_NoText cE_TooMany cE_NothingLeft [("share",f35),("grow",gT_grow),("others",gT_others),("alone",gT_alone),("scale",gT_scale),("rim",gT_rim),("levels",gT_levels),("order",gT_order),("book",f39)] [("house",f42),("drop",f44),("alter",f46),("sizes",f47)] (b4R l.prog w K mg base 9):=⟨rfl,rfl,rfl,rfl,rfl,rfl,⟨⟨_,rfl,λ n=>⟨_,g42 (n+3),b42,k42⟩⟩⟩,⟨⟨_,rfl,λ n=>⟨_,g44 (n+6),b44,k44⟩⟩⟩,⟨⟨_,rfl,λ n=>⟨_,g46 (n+3),b46,k46⟩⟩⟩,⟨⟨_,rfl,λ n=>⟨_,g47 (n+8),b47,k47⟩⟩⟩,⟨⟨_,rfl,λ n=>⟨_,g39 (n+5),b39,k39⟩⟩⟩,⟨⟨_,rfl,λ n=>⟨_,g35 (n+0),b35,k35⟩⟩⟩,M_NoBook,M_NoHouse,M_TooMany,M_NothingLeft⟩;have g49:=λ n:Nat=>b2A (mg:=mg) (P:=l.prog) (w:=w) (base:=base) (n:=n) F49 T R;have g50:=λ n:Nat=>b1g (mg:=mg) (P:=l.prog) (w:=w) (base:=base) F50 TDd R ⟨g48 (n+0),b48,⟨a48,n48,k48⟩⟩ ⟨g49 (n+9),b49,k49,(W.mg_of X G a49)⟩;have g51:=λ n:Nat=>a5O (mg:=mg) (P:=l.prog) (w:=w) (base:=base) F51 DWd ⟨g50 (n+0),b50,k50,(W.mg_of X G a50)⟩ ⟨g13 (n+10),b13,k13,(W.mg_of X G a13)⟩ ⟨g34 (n+10),b34,k34,(W.mg_of X G a34)⟩ ⟨g33 (n+3),b33,k33,(W.mg_of X G a33)⟩;have g52:=λ n:Nat=>b1c (mg:=mg) (P:=l.prog) (w:=w) (base:=base) (n:=n) F52 T;exact b3Q F53 T zs DWd ⟨⟨ddm,a10,n10,ddk⟩,g10 4,b10,W.mg_of X G aD⟩ ⟨⟨g11 11,b11,k11,(W.mg_of X G a11)⟩,⟨g12 11,b12,k12,(W.mg_of X G a12)⟩,⟨g13 11,b13,k13,(W.mg_of X G a13)⟩,⟨g14 10,b14,k14,(W.mg_of X G a14)⟩,⟨g50 1,b50,k50,(W.mg_of X G a50)⟩,⟨g51 0,b51,k51,(W.mg_of X G a51)⟩,⟨g52 11,b52,k52,(W.mg_of X G a52)⟩⟩
end Rim
def PySem.W.Fast.tw15730309313646856669:Nat:=0
def PySem.W.Fast.tw14611051042831836297:Nat:=0
def PySem.W.Fast.tw8493351471374496132:Nat:=0
def PySem.W.Fast.tw2684345208283457667:Nat:=0
def PySem.W.Fast.tw6912043040497114292:Nat:=0
def PySem.W.Fast.tw7441049001706778246:Nat:=0
def PySem.W.Fast.tw5507346637089267306:Nat:=0
def PySem.W.Fast.tw6311741474273575479:Nat:=0
def PySem.W.Fast.tw4304266427969013357:Nat:=0
def PySem.W.Fast.tw14689570438919598014:Nat:=0
def PySem.W.Fast.tw11090301063038500702:Nat:=0
def PySem.W.Fast.tw17187678616710020555:Nat:=0
def PySem.W.Fast.tw6582092219347672422:Nat:=0
def PySem.W.Fast.tw17685451462344787578:Nat:=0
def PySem.W.Fast.tw3292052648129026405:Nat:=0
def PySem.W.Fast.tw10319036267002731941:Nat:=0
def PySem.W.Fast.tw8024400428584286524:Nat:=0
def PySem.W.Fast.tw8206796682185244813:Nat:=0
def PySem.W.Fast.tw199816615300236567:Nat:=0
def PySem.W.Fast.tw17436715642645502931:Nat:=0
def PySem.W.Fast.tw10682045683101837903:Nat:=0
def PySem.W.Fast.tw11399695686977884230:Nat:=0
def PySem.W.Fast.tw5207061296436514114:Nat:=0
def PySem.W.Fast.tw7551843161246676460:Nat:=0
def PySem.W.Fast.tw10090472618248500263:Nat:=0
def PySem.W.Fast.tw17557005787825251357:Nat:=0
def PySem.W.Fast.tw11309063088841836484:Nat:=0
def PySem.W.Fast.tw199213734174661243:Nat:=0
def PySem.W.Fast.tw7746095213985736407:Nat:=0
def PySem.W.Fast.tw3946246872042303842:Nat:=0
def PySem.W.Fast.tw6137516929250708797:Nat:=0
def PySem.W.Fast.tw16364579044762272459:Nat:=0
def PySem.W.Fast.tw12441218306711246774:Nat:=0
def PySem.W.Fast.tw5751121819814580706:Nat:=0
def PySem.W.Fast.tw2004991454169318003:Nat:=0
def PySem.W.Fast.tw16895589842539313597:Nat:=0
def PySem.W.Fast.tw12117830487057827544:Nat:=0
def PySem.W.Fast.tw1333867582510208205:Nat:=0
def PySem.W.Fast.tw2656966984843095434:Nat:=0
def PySem.W.Fast.tw1235444160344019666:Nat:=0
def PySem.W.Fast.tw12250434775779482117:Nat:=0
def PySem.W.Fast.tw16749318813189840603:Nat:=0
def PySem.W.Fast.tw18286451641435058599:Nat:=0
def PySem.W.Fast.tw6555571275473211965:Nat:=0
def PySem.W.Fast.tw11811891759413201489:Nat:=0
def PySem.W.Fast.tw1741113737262841091:Nat:=0
def PySem.W.Fast.tw16238604968768310130:Nat:=0
def PySem.W.Fast.tw17265060168110967494:Nat:=0
def PySem.W.Fast.tw736669642852067372:Nat:=0
def PySem.W.Fast.tw18401252969372035864:Nat:=0
def PySem.W.Fast.tw5586108092658116062:Nat:=0
def PySem.W.Fast.tw12022143546846289843:Nat:=0
def PySem.W.Fast.tw16273174708377641157:Nat:=0
def PySem.W.Fast.tw8456144707945451989:Nat:=0
def PySem.W.Fast.tw10509489654813086670:Nat:=0
def PySem.W.Fast.tw8445909872110648229:Nat:=0
def PySem.W.Fast.tw3840244909578341241:Nat:=0
def PySem.W.Fast.tw7069911675188681407:Nat:=0
def PySem.W.Fast.tw10353729819343136853:Nat:=0
def PySem.W.Fast.tw17457594534433723964:Nat:=0
def PySem.W.Fast.tw2675334888600422005:Nat:=0
def PySem.W.Fast.tw15098983010201643987:Nat:=0
def PySem.W.Fast.tw15841445224726549667:Nat:=0
def PySem.W.Fast.tw14562969107104947716:Nat:=0
def PySem.W.Fast.tw6123935745859439072:Nat:=0
def PySem.W.Fast.tw14052016314899726586:Nat:=0
def PySem.W.Fast.tw10065236325241934850:Nat:=0
def PySem.W.Fast.tw9227289717169385972:Nat:=0
def PySem.W.Fast.tw18225477609940981522:Nat:=0
def PySem.W.Fast.tw229749233627627251:Nat:=0
def PySem.W.Fast.tw10018729548811714492:Nat:=0
def PySem.W.Fast.tw17350358891529083453:Nat:=0
def PySem.W.Fast.tw1032391927846770212:Nat:=0
def PySem.W.Fast.tw14669748472404079491:Nat:=0
def PySem.W.Fast.tw4043660721949455580:Nat:=0
def PySem.W.Fast.tw18085461697310491745:Nat:=0
def PySem.W.Fast.tw2037901414400830368:Nat:=0
def PySem.W.Fast.tw3402863478104373537:Nat:=0
def PySem.W.Fast.tw3880693947917391691:Nat:=0
def PySem.W.Fast.tw10744072320100572036:Nat:=0
def PySem.W.Fast.tw7401460192793182925:Nat:=0
def PySem.W.Fast.tw6893327059682838385:Nat:=0
def PySem.W.Fast.tw15551170022649685060:Nat:=0
def PySem.W.Fast.tw10062199121963344322:Nat:=0
def PySem.W.Fast.tw17593772834890539538:Nat:=0
def PySem.W.Fast.tw1022379613446288408:Nat:=0
def PySem.W.Fast.tw966722321625336294:Nat:=0
def PySem.W.Fast.tw7411468566095869151:Nat:=0
def PySem.W.Fast.tw11009099315008793667:Nat:=0
def PySem.W.Fast.tw2597227351432200798:Nat:=0
def PySem.W.Fast.tw461131906393189915:Nat:=0
def PySem.W.Fast.tw7901374149576651078:Nat:=0
def PySem.W.Fast.tw17930973524051104962:Nat:=0
def PySem.W.Fast.tw5440101071442346957:Nat:=0
def PySem.W.Fast.tw13199368236619021440:Nat:=0
def PySem.W.Fast.tw15468583618891848110:Nat:=0
def PySem.W.Fast.tw18376286032580651062:Nat:=0
def PySem.W.Fast.tw7611647544076992186:Nat:=0
def PySem.W.Fast.tw8264472448518136767:Nat:=0
def PySem.W.Fast.tw11479353561167139647:Nat:=0
def PySem.W.Fast.tw10230550378996179275:Nat:=0
def PySem.W.Fast.tw12000666401574349967:Nat:=0
def PySem.W.Fast.tw3403334257821851553:Nat:=0
def PySem.W.Fast.tw5650737259065832175:Nat:=0
def PySem.W.Fast.tw14445514566408301926:Nat:=0
def PySem.W.Fast.tw1368571962318986276:Nat:=0
def PySem.W.Fast.tw18097430893901753844:Nat:=0
def PySem.W.Fast.tw230912014532215079:Nat:=0
def PySem.W.Fast.tw1563974894534551766:Nat:=0
def PySem.W.Fast.tw3026119794428759880:Nat:=0
def PySem.W.Fast.tw1071567788699515931:Nat:=0
def PySem.W.Fast.tw5702933882833114459:Nat:=0
def PySem.W.Fast.tw1993894595480040408:Nat:=0
def PySem.W.Fast.tw10708860617501799628:Nat:=0
def PySem.W.Fast.tw7014398018709682212:Nat:=0
def PySem.W.Fast.tw3259980321079763755:Nat:=0
def PySem.W.Fast.tw4664847317592265527:Nat:=0
def PySem.W.Fast.tw10624163567133685934:Nat:=0
def PySem.W.Fast.tw8015407973385807637:Nat:=0
def PySem.W.Fast.tw677434761681168027:Nat:=0
def PySem.W.Fast.tw15431846798966670202:Nat:=0
def PySem.W.Fast.tw6404023075436920257:Nat:=0
def PySem.W.Fast.tw8539368732227721284:Nat:=0
def PySem.W.Fast.tw11818955816482362487:Nat:=0
def PySem.W.Fast.tw2656649930260898743:Nat:=0
def PySem.W.Fast.tw10516667606549849668:Nat:=0
def PySem.W.Fast.tw10651666630775166366:Nat:=0
def PySem.W.Fast.tw8230223343882902910:Nat:=0
def PySem.W.Fast.tw1974259440989369175:Nat:=0
def PySem.W.Fast.tw3397825315183944792:Nat:=0
def PySem.W.Fast.tw8926228981561768184:Nat:=0
def PySem.W.Fast.tw17256182350563764854:Nat:=0
def PySem.W.Fast.tw18310871401290234868:Nat:=0
def PySem.W.Fast.tw10202759163675311915:Nat:=0
def PySem.W.Fast.tw1680067340442343156:Nat:=0
def PySem.W.Fast.tw4300719229578270514:Nat:=0
def PySem.W.Fast.tw12054983754593809145:Nat:=0
def PySem.W.Fast.tw11178200285692621885:Nat:=0
def PySem.W.Fast.tw14794517599538379365:Nat:=0
def PySem.W.Fast.tw15276790969014702342:Nat:=0
def PySem.W.Fast.tw14074649687162241993:Nat:=0
def PySem.W.Fast.tw8829401984424199963:Nat:=0
def PySem.W.Fast.tw9008195718086776465:Nat:=0
def PySem.W.Fast.tw10958295648091214556:Nat:=0
def PySem.W.Fast.tw17446251414474290697:Nat:=0
def PySem.W.Fast.tw3664308291054700184:Nat:=0
def PySem.W.Fast.tw1879983621492601326:Nat:=0
def PySem.W.Fast.tw13478002614948853812:Nat:=0
def PySem.W.Fast.tw7504587862003788616:Nat:=0
def PySem.W.Fast.tw14998128471812486641:Nat:=0
def PySem.W.Fast.tw8862516738638851611:Nat:=0
def PySem.W.Fast.tw15183973535728451159:Nat:=0
def PySem.W.Fast.tw17861166458930477044:Nat:=0
def PySem.W.Fast.tw902356427541351204:Nat:=0
def PySem.W.Fast.tw873578439476426817:Nat:=0
def PySem.W.Fast.tw10474714850677083264:Nat:=0
def PySem.W.Fast.tw6985799414637499091:Nat:=0
def PySem.W.Fast.tw15444975625417054888:Nat:=0
def PySem.W.Fast.tw16873827970497441527:Nat:=0
def PySem.W.Fast.tw1856940258250261094:Nat:=0
def PySem.W.Fast.tw15768368941300867114:Nat:=0
def PySem.W.Fast.tw14569054241557633185:Nat:=0
def PySem.W.Fast.tw12469131735390218646:Nat:=0
def PySem.W.Fast.tw7027256436780575498:Nat:=0
def PySem.W.Fast.tw10946970905641391240:Nat:=0
def PySem.W.Fast.tw10544586838972575344:Nat:=0
def PySem.W.Fast.tw4871299251846624220:Nat:=0
def PySem.W.Fast.tw4979645707683420656:Nat:=0
def PySem.W.Fast.tw17872022725148215248:Nat:=0
def PySem.W.Fast.tw1007565685687445184:Nat:=0
def PySem.W.Fast.tw6566131214398206288:Nat:=0
def PySem.W.Fast.tw5871800828884961147:Nat:=0
def PySem.W.Fast.tw18331768425108812153:Nat:=0
def PySem.W.Fast.tw3594605052056982194:Nat:=0
def PySem.W.Fast.tw14683806505172648392:Nat:=0
def PySem.W.Fast.tw2415732100685427744:Nat:=0
def PySem.W.Fast.tw14687716778805886237:Nat:=0
def PySem.W.Fast.tw13795089576645926666:Nat:=0
def PySem.W.Fast.tw15368258561670506336:Nat:=0
def PySem.W.Fast.tw14034078387981860739:Nat:=0
def PySem.W.Fast.tw7721544761847394503:Nat:=0
def PySem.W.Fast.tw2404774955182454758:Nat:=0
def PySem.W.Fast.tw2355955105866359929:Nat:=0
def PySem.W.Fast.tw791431494125345366:Nat:=0
def PySem.W.Fast.tw16042712031368098256:Nat:=0
def PySem.W.Fast.tw11440045822720992591:Nat:=0
def PySem.W.Fast.tw7393230068257320458:Nat:=0
def PySem.W.Fast.tw14831856979757634766:Nat:=0
def PySem.W.Fast.tw1463968824157869018:Nat:=0
def PySem.W.Fast.tw16653229172868845335:Nat:=0
def PySem.W.Fast.tw6543431604292311763:Nat:=0
def PySem.W.Fast.tw8990976581576838251:Nat:=0
def PySem.W.Fast.tw13970130393891898689:Nat:=0
def PySem.W.Fast.tw15110100296993915017:Nat:=0
def PySem.W.Fast.tw8716363738282319090:Nat:=0
def PySem.W.Fast.tw9764397357438187725:Nat:=0
def PySem.W.Fast.tw328096165203314834:Nat:=0
def PySem.W.Fast.tw6237655969602185134:Nat:=0
def PySem.W.Fast.tw4222140860923077072:Nat:=0
def PySem.W.Fast.tw3182633647000113248:Nat:=0
def PySem.W.Fast.tw17266914443776468753:Nat:=0
def PySem.W.Fast.tw15574171945168424391:Nat:=0
def PySem.W.Fast.tw6822115339854681009:Nat:=0
def PySem.W.Fast.tw12109217599447690605:Nat:=0
def PySem.W.Fast.tw1673803432046698544:Nat:=0
def PySem.W.Fast.tw1396016643635355322:Nat:=0
def PySem.W.Fast.tw13600699878150601812:Nat:=0
def PySem.W.Fast.tw1178472421874110360:Nat:=0
def PySem.W.Fast.tw6064207002113676523:Nat:=0
def PySem.W.Fast.tw7528426729812246753:Nat:=0
def PySem.W.Fast.tw3952339978322906535:Nat:=0
def PySem.W.Fast.tw10892819587154149309:Nat:=0
def PySem.W.Fast.tw10265529607510227715:Nat:=0
def PySem.W.Fast.tw15273442211886110539:Nat:=0
def PySem.W.Fast.tw10077580540086569425:Nat:=0
def PySem.W.Fast.tw7556891518899821099:Nat:=0
def PySem.W.Fast.tw9617857737661313001:Nat:=0
def PySem.W.Fast.tw5403271469482295278:Nat:=0
def PySem.W.Fast.tw9954321669185070376:Nat:=0
def PySem.W.Fast.tw10292749607135361482:Nat:=0
def PySem.W.Fast.tw7435842916404109314:Nat:=0
def PySem.W.Fast.tw11028933302648324423:Nat:=0
def PySem.W.Fast.tw4407675648309615485:Nat:=0
def PySem.W.Fast.tw5403163937209902018:Nat:=0
def PySem.W.Fast.tw16382603016587854030:Nat:=0
def PySem.W.Fast.tw5742802964091304216:Nat:=0
def PySem.W.Fast.tw7563552546075034911:Nat:=0
def PySem.W.Fast.tw14242710113044041569:Nat:=0
def PySem.W.Fast.tw13600261964329394937:Nat:=0
def PySem.W.Fast.tw8261259117926939573:Nat:=0
def PySem.W.Fast.tw7134266175592787165:Nat:=0
def PySem.W.Fast.tw3626560711069333682:Nat:=0
def PySem.W.Fast.tw3489231698183615569:Nat:=0
def PySem.W.Fast.tw1857148486531818285:Nat:=0
def PySem.W.Fast.tw4358454437349874525:Nat:=0
def PySem.W.Fast.tw5967721611663845915:Nat:=0
def PySem.W.Fast.tw10162196559240918544:Nat:=0
def PySem.W.Fast.tw2500753872323188348:Nat:=0
def PySem.W.Fast.tw16955146865290881493:Nat:=0
def PySem.W.Fast.tw18410919515872257461:Nat:=0
def PySem.W.Fast.tw14553485508357774243:Nat:=0
def PySem.W.Fast.tw18145678886955056203:Nat:=0
def PySem.W.Fast.tw1589281631797587047:Nat:=0
def PySem.W.Fast.tw11455318743842466907:Nat:=0
def PySem.W.Fast.tw8989094682210757142:Nat:=0
def PySem.W.Fast.tw2983079371644377654:Nat:=0
def PySem.W.Fast.tw8294859848936103333:Nat:=0
def PySem.W.Fast.tw13231512937828886026:Nat:=0
def PySem.W.Fast.tw2486626407620426678:Nat:=0
def PySem.W.Fast.tw2557911939110468182:Nat:=0
def PySem.W.Fast.tw10006821920016255241:Nat:=0
def PySem.W.Fast.tw4333015451671225933:Nat:=0
def PySem.W.Fast.tw8279728780210220727:Nat:=0
def PySem.W.Fast.tw14298453668637243838:Nat:=0
def PySem.W.Fast.tw17014109540242458881:Nat:=0
def PySem.W.Fast.tw13496819329406080937:Nat:=0
def PySem.W.Fast.tw16672436418663092614:Nat:=0
def PySem.W.Fast.tw9348549457298707876:Nat:=0
def PySem.W.Fast.tw1849108937156209908:Nat:=0
def PySem.W.Fast.tw7763735943019027818:Nat:=0
def PySem.W.Fast.tw9609610044285346496:Nat:=0
def PySem.W.Fast.tw5354679392181345716:Nat:=0
def PySem.W.Fast.tw2009768780854836830:Nat:=0
def PySem.W.Fast.tw8253743898404779721:Nat:=0
def PySem.W.Fast.tw13158718380677493578:Nat:=0
def PySem.W.Fast.tw7658339103588799910:Nat:=0
def PySem.W.Fast.tw4473768810574590155:Nat:=0
def PySem.W.Fast.tw12356900068602017877:Nat:=0
def PySem.W.Fast.tw9749698822562923613:Nat:=0
def PySem.W.Fast.tw1118824088834706006:Nat:=0
def PySem.W.Fast.tw14217112976139258394:Nat:=0
def PySem.W.Fast.tw15061760039727866685:Nat:=0
def PySem.W.Fast.tw11143162250845112628:Nat:=0
def PySem.W.Fast.tw715904081918694536:Nat:=0
def PySem.W.Fast.tw15940642828830208459:Nat:=0
def PySem.W.Fast.tw11516770400556923097:Nat:=0
def PySem.W.Fast.tw1871359010245088073:Nat:=0
def PySem.W.Fast.tw16746972497875980543:Nat:=0
def PySem.W.Fast.tw5956694377989410571:Nat:=0
def PySem.W.Fast.tw10535658862195900322:Nat:=0
def PySem.W.Fast.tw17550619198570521148:Nat:=0
def PySem.W.Fast.tw12909285419158107795:Nat:=0
def PySem.W.Fast.tw10103480041507697020:Nat:=0
def PySem.W.Fast.tw14166575738566497279:Nat:=0
def PySem.W.Fast.tw5720181409439556986:Nat:=0
def PySem.W.Fast.tw2159788200063332939:Nat:=0
def PySem.W.Fast.tw7380817038762074688:Nat:=0
def PySem.W.Fast.tw9889594009762811104:Nat:=0
def PySem.W.Fast.tw18108771916742286461:Nat:=0
def PySem.W.Fast.tw3075617093338790667:Nat:=0
def PySem.W.Fast.tw14394807733414989902:Nat:=0
def PySem.W.Fast.tw10467015869782126379:Nat:=0
def PySem.W.Fast.tw17196059242082894797:Nat:=0
def PySem.W.Fast.tw12242866415917692937:Nat:=0
def PySem.W.Fast.tw17143335389759985684:Nat:=0
def PySem.W.Fast.tw8485686730468311227:Nat:=0
def PySem.W.Fast.tw11506338562832641046:Nat:=0
def PySem.W.Fast.tw2275228781034778879:Nat:=0
def PySem.W.Fast.tw17903993803870749837:Nat:=0
def PySem.W.Fast.tw1648085041109436307:Nat:=0
def PySem.W.Fast.tw626851242983121042:Nat:=0
def PySem.W.Fast.tw14452791793866655980:Nat:=0
def PySem.W.Fast.tw13098462360766603640:Nat:=0
def PySem.W.Fast.tw15416121522863043273:Nat:=0
def PySem.W.Fast.tw13686545504395021260:Nat:=0
def PySem.W.Fast.tw2214214847753980529:Nat:=0
def PySem.W.Fast.tw16622981555309108071:Nat:=0
def PySem.W.Fast.tw2198686145691293223:Nat:=0
def PySem.W.Fast.tw5031706384554020698:Nat:=0
def PySem.W.Fast.tw1587684979315773965:Nat:=0
def PySem.W.Fast.tw5087696669615116989:Nat:=0
def PySem.W.Fast.tw3028648887101083977:Nat:=0
def PySem.W.Fast.tw1799629598223143057:Nat:=0
def PySem.W.Fast.tw10334641332144107846:Nat:=0
def PySem.W.Fast.tw1013378892818663011:Nat:=0
def PySem.W.Fast.tw13952868610372465990:Nat:=0
def PySem.W.Fast.tw7933683124434340562:Nat:=0
def PySem.W.Fast.tw1886090718982222980:Nat:=0
def PySem.W.Fast.tw11180084896894993337:Nat:=0
def PySem.W.Fast.tw17898699399453655748:Nat:=0
def PySem.W.Fast.tw4936574593675354933:Nat:=0
def PySem.W.Fast.tw6173347305467513975:Nat:=0
def PySem.W.Fast.tw10636572783151680843:Nat:=0
def PySem.W.Fast.tw11950797668022557034:Nat:=0
def PySem.W.Fast.tw14365033265160532924:Nat:=0
def PySem.W.Fast.tw11289441488062425610:Nat:=0
def PySem.W.Fast.tw16707758691025022051:Nat:=0
def PySem.W.Fast.tw8003792654876978927:Nat:=0
def PySem.W.Fast.tw196153766482157847:Nat:=0
def PySem.W.Fast.tw4809365996476032470:Nat:=0
def PySem.W.Fast.tw15677545516585585535:Nat:=0
def PySem.W.Fast.tw7923391881227040235:Nat:=0
def PySem.W.Fast.tw17847799090406141624:Nat:=0
def PySem.W.Fast.tw3747611271429642692:Nat:=0
def PySem.W.Fast.tw101734671214406268:Nat:=0
def PySem.W.Fast.tw15926506984505245282:Nat:=0
def PySem.W.Fast.tw4094835481058221102:Nat:=0
def PySem.W.Fast.tw3942788004891210154:Nat:=0
def PySem.W.Fast.tw9676734440134011116:Nat:=0
def PySem.W.Fast.tw7412694796059097104:Nat:=0
def PySem.W.Fast.tw14777686790969270399:Nat:=0
def PySem.W.Fast.tw17214711842933542823:Nat:=0
def PySem.W.Fast.tw17266261014454663849:Nat:=0
namespace Rim
open PySem L2 Fr
theorem walk {l:W.OpenLaw} {q:Program} {loose:List Str} {XP:(Str->Option Value)->Heap->Prop} {YP:World->Heap->Prop} {d:DefRec} {K:Params->W.Frag} {Ct Pt:Addr} (hn:l.most=some 63) (hdf:d.params.defaults=[])
  (hY:∀ (w:World) (h:Heap),YP w h->(K w.params).In h/\∀ t∈[(Ct,Pt)],h.get? t.2=some (W.tabObj #[]))
  (hC:∀ (w:World),∀ t∈[(Ct,Pt)],W.codeHdIn (K w.params) t.1 t.2=true/\(K w.params).lookup t.2=none)
  (F:∀ (w:World) (mg:Str->Option Value) (fa:Addr) (h:Heap),(K w.params).In h->h.Ns mainGlobals mg->mg d.name=some (.ref fa) →
   ∃ fd:FuncData,(∀ (s:Shared) (u:Value),BindsTo s fd ⟨[u],[]⟩ [("script",u)])/\∀ base:Heap,(K w.params).In base->base.Ns mainGlobals mg->U8 mg base->(∀ t∈[(Ct,Pt)],W.CodeHd base t.1 t.2)->FnOk l.prog w (K w.params) mg base K5 13 fa fd ["script"] (a6Z (K w.params) Pt)) :
  W.WalkO q loose XP YP l.row.toRowW d [] (λ f vs=>iB f vs) :=
 L2.walk_ofT (n:=63) (k:=13) (x:="script") (Ts:=[(Ct,Pt)]) (CX:=λ _=>K5) (sp:=λ w=>a6Z (K w.params) Pt) hn (by decide) hdf ⟨rfl,by decide,by decide⟩ hY hC F (λ _ _ a ns hl hT hS=>⟨a,ns,rfl,hS,hl,.inl (hT _ (.head _)),λ _=>rfl⟩) λ _ _ _ _ _ z=>z
end Rim
open PySem PySem.W PyProof.Rows
set_option maxRecDepth 100000 in
set_option maxHeartbeats 0 in
theorem PySem.Challenge.cw_rimhouse_k41_hundreds_of_desk_deeds_holds : PySem.Challenge.rw_rimhouse_k41_hundreds_of_desk_deeds.Holds := by
  w_on; o_law; km_head; (case hw=>w_witness2)
  k_fill
  refine' Rim.walk (l:=PySem.Challenge.rw_rimhouse_k41_hundreds_of_desk_deeds) (Ct:=_) (Pt:=229) rfl rfl ?Y ?C ?F
  case Y=>exact λ w h Y=>⟨W.km_in_of Y,λ t ht=>by rw [aQ.mp ht]; exact W.km_tabs_of Y _ (.tail _ (.head _))⟩
  case F =>
    intro w mg fa h KX G hmg;refine' Rim.all_mk KX G hmg ?aD ?aB ?a1 ?l1 ?a2 ?l2 ?a3 ?l3 ?a4 ?l4 ?a5 ?l5 ?a6 ?l6 ?a7 ?l7 ?a8 ?l8 ?a9 ?l9 ?a10 ?l10 ?n10 ?a11 ?l11 ?a12 ?l12 ?a13 ?l13 ?a14 ?l14 ?a15 ?l15 ?a16 ?l16 ?a17 ?l17 ?n17 ?a18 ?l18 ?a19 ?l19 ?n19 ?a20 ?l20 ?n20 ?a21 ?l21 ?n21 ?a22 ?l22 ?n22 ?a23 ?l23 ?a24 ?l24 ?n24 ?a25 ?l25 ?n25 ?a26 ?l26 ?n26 ?a27 ?l27 ?a28 ?l28 ?a29 ?l29 ?a30 ?l30 ?a31 ?l31 ?a32 ?l32 ?a33 ?l33 ?a34 ?l34 ?a35 ?l35 ?a36 ?l36 ?a37 ?l37 ?a38 ?l38 ?a39 ?l39 ?a40 ?l40 ?a41 ?l41 ?a42 ?l42 ?a43 ?l43 ?a44 ?l44 ?a45 ?l45 ?a46 ?l46 ?a47 ?l47 ?a48 ?l48 ?n48 ?a49 ?l49 ?a50 ?l50 ?a51 ?l51 ?a52 ?l52 ?a53 ?l53 ?c53 ?k53 ?z1 ?z2 ?z3 ?z4 ?z5 ?z6 ?z7 ?z8 ?z9 ?z10 ?z11 ?z12 ?z13 ?z14 ?z15 ?z16 ?z17 ?bp ?bh ?bo ?bs ?b_many ?b_scale ?b_cells ?b_outs ?b_ins ?bm ?bk ?ddp ?ddh ?ddo ?dds ?dd_book ?dd_sizes ?dd_past ?ddm ?ddk ?dmASKS ?dlASKS ?dkASKS ?dpASKS ?dyASKS ?dmDEEDS ?dlDEEDS ?dkDEEDS ?dpDEEDS ?dyDEEDS ?dmFORMS ?dlFORMS ?dkFORMS ?dpFORMS ?dyFORMS ?fl_house ?fl_drop ?fl_alter ?fl_sizes ?fl_back ?fl_share ?fl_grow ?fl_others ?fl_alone ?fl_scale ?fl_rim ?fl_levels ?fl_order ?fl_book ?zm ?zl ?zf ?zstr ?s1 ?s3 ?s4 ?sa0 ?sb0 ?sa1 ?sb1 ?sa2 ?sb2 ?sa3 ?sb3 ?xmNoHouse ?xoNoHouse ?xgaNoHouse ?xgnNoHouse ?xcaNoHouse ?xmoNoHouse ?xmbNoHouse ?xmNoBook ?xoNoBook ?xgaNoBook ?xgnNoBook ?xcaNoBook ?xmoNoBook ?xmbNoBook ?xmRimError ?xoRimError ?xgaRimError ?xgnRimError ?xcaRimError ?xmoRimError ?xmbRimError ?xmNoRow ?xoNoRow ?xgaNoRow ?xgnNoRow ?xcaNoRow ?xmoNoRow ?xmbNoRow ?xmNoText ?xoNoText ?xgaNoText ?xgnNoText ?xcaNoText ?xmoNoText ?xmbNoText ?xmTooMany ?xoTooMany ?xgaTooMany ?xgnTooMany ?xcaTooMany ?xmoTooMany ?xmbTooMany ?xmNothingLeft ?xoNothingLeft ?xgaNothingLeft ?xgnNothingLeft ?xcaNothingLeft ?xmoNothingLeft ?xmbNothingLeft ?cmMOST_AMOUNT ?cmMOST_HOUSES ?cmMOST_FIGURES ?cmMOST_KINDS ?eSub_NoBook ?eI_NoBook_NoHouse ?eI_NoBook_NoRow ?eI_NoBook_NoText ?eI_NoBook_TooMany ?eI_NoBook_NothingLeft ?eIV_NoBook ?eSub_NoHouse ?eI_NoHouse_NoBook ?eI_NoHouse_NoRow ?eI_NoHouse_NoText ?eI_NoHouse_TooMany ?eI_NoHouse_NothingLeft ?eIV_NoHouse ?eSub_TooMany ?eI_TooMany_NoBook ?eI_TooMany_NoHouse ?eI_TooMany_NoRow ?eI_TooMany_NoText ?eI_TooMany_NothingLeft ?eIV_TooMany ?eSub_NothingLeft ?eI_NothingLeft_NoBook ?eI_NothingLeft_NoHouse ?eI_NothingLeft_NoRow ?eI_NothingLeft_NoText ?eI_NothingLeft_TooMany ?eIV_NothingLeft
    (case aD=>k_is)
    (case aB=>k_is)
    (case a1=>k_is)
    (case l1=>(refine' L2.fun_in ?l ?c ?k; (case l=>k_is); (case c=>k_is); (case k=>k_is)))
    (case a2=>k_is)
    (case l2=>(refine' L2.fun_in ?l ?c ?k; (case l=>k_is); (case c=>k_is); (case k=>k_is)))
    (case a3=>k_is)
    (case l3=>(refine' L2.fun_in ?l ?c ?k; (case l=>k_is); (case c=>k_is); (case k=>k_is)))
    (case a4=>k_is)
    (case l4=>(refine' L2.fun_in ?l ?c ?k; (case l=>k_is); (case c=>k_is); (case k=>k_is)))
    (case a5=>k_is)
    (case l5=>(refine' L2.fun_in ?l ?c ?k; (case l=>k_is); (case c=>k_is); (case k=>k_is)))
    (case a6=>k_is)
    (case l6=>(refine' L2.fun_in ?l ?c ?k; (case l=>k_is); (case c=>k_is); (case k=>k_is)))
    (case a7=>k_is)
    (case l7=>(refine' L2.fun_in ?l ?c ?k; (case l=>k_is); (case c=>k_is); (case k=>k_is)))
    (case a8=>k_is)
    (case l8=>(refine' L2.fun_in ?l ?c ?k; (case l=>k_is); (case c=>k_is); (case k=>k_is)))
    (case a9=>k_is)
    (case l9=>(refine' L2.fun_in ?l ?c ?k; (case l=>k_is); (case c=>k_is); (case k=>k_is)))
    (case a10=>k_is)
    (case l10=>(refine' L2.fun_in ?l ?c ?k; (case l=>k_is); (case c=>k_is); (case k=>k_is)))
    (case n10=>k_is)
    (case a11=>k_is)
    (case l11=>(refine' L2.fun_in ?l ?c ?k; (case l=>k_is); (case c=>k_is); (case k=>k_is)))
    (case a12=>k_is)
    (case l12=>(refine' L2.fun_in ?l ?c ?k; (case l=>k_is); (case c=>k_is); (case k=>k_is)))
    (case a13=>k_is)
    (case l13=>(refine' L2.fun_in ?l ?c ?k; (case l=>k_is); (case c=>k_is); (case k=>k_is)))
    (case a14=>k_is)
    (case l14=>(refine' L2.fun_in ?l ?c ?k; (case l=>k_is); (case c=>k_is); (case k=>k_is)))
    (case a15=>k_is)
    (case l15=>(refine' L2.fun_in ?l ?c ?k; (case l=>k_is); (case c=>k_is); (case k=>k_is)))
    (case a16=>k_is)
    (case l16=>(refine' L2.fun_in ?l ?c ?k; (case l=>k_is); (case c=>k_is); (case k=>k_is)))
    (case a17=>k_is)
    (case l17=>(refine' L2.fun_in ?l ?c ?k; (case l=>k_is); (case c=>k_is); (case k=>k_is)))
    (case n17=>k_is)
    (case a18=>k_is)
    (case l18=>(refine' L2.fun_in ?l ?c ?k; (case l=>k_is); (case c=>k_is); (case k=>k_is)))
    (case a19=>k_is)
    (case l19=>(refine' L2.fun_in ?l ?c ?k; (case l=>k_is); (case c=>k_is); (case k=>k_is)))
    (case n19=>k_is)
    (case a20=>k_is)
    (case l20=>(refine' L2.fun_in ?l ?c ?k; (case l=>k_is); (case c=>k_is); (case k=>k_is)))
    (case n20=>k_is)
    (case a21=>k_is)
    (case l21=>(refine' L2.fun_in ?l ?c ?k; (case l=>k_is); (case c=>k_is); (case k=>k_is)))
    (case n21=>k_is)
    (case a22=>k_is)
    (case l22=>(refine' L2.fun_in ?l ?c ?k; (case l=>k_is); (case c=>k_is); (case k=>k_is)))
    (case n22=>k_is)
    (case a23=>k_is)
    (case l23=>(refine' L2.fun_in ?l ?c ?k; (case l=>k_is); (case c=>k_is); (case k=>k_is)))
    (case a24=>k_is)
    (case l24=>(refine' L2.fun_in ?l ?c ?k; (case l=>k_is); (case c=>k_is); (case k=>k_is)))
    (case n24=>k_is)
    (case a25=>k_is)
    (case l25=>(refine' L2.fun_in ?l ?c ?k; (case l=>k_is); (case c=>k_is); (case k=>k_is)))
    (case n25=>k_is)
    (case a26=>k_is)
    (case l26=>(refine' L2.fun_in ?l ?c ?k; (case l=>k_is); (case c=>k_is); (case k=>k_is)))
    (case n26=>k_is)
    (case a27=>k_is)
    (case l27=>(refine' L2.fun_in ?l ?c ?k; (case l=>k_is); (case c=>k_is); (case k=>k_is)))
    (case a28=>k_is)
    (case l28=>(refine' L2.fun_in ?l ?c ?k; (case l=>k_is); (case c=>k_is); (case k=>k_is)))
    (case a29=>k_is)
    (case l29=>(refine' L2.fun_in ?l ?c ?k; (case l=>k_is); (case c=>k_is); (case k=>k_is)))
    (case a30=>k_is)
    (case l30=>(refine' L2.fun_in ?l ?c ?k; (case l=>k_is); (case c=>k_is); (case k=>k_is)))
    (case a31=>k_is)
    (case l31=>(refine' L2.fun_in ?l ?c ?k; (case l=>k_is); (case c=>k_is); (case k=>k_is)))
    (case a32=>k_is)
    (case l32=>(refine' L2.fun_in ?l ?c ?k; (case l=>k_is); (case c=>k_is); (case k=>k_is)))
    (case a33=>k_is)
    (case l33=>(refine' L2.fun_in ?l ?c ?k; (case l=>k_is); (case c=>k_is); (case k=>k_is)))
    (case a34=>k_is)
    (case l34=>(refine' L2.fun_in ?l ?c ?k; (case l=>k_is); (case c=>k_is); (case k=>k_is)))
    (case a35=>k_is)
    (case l35=>(refine' L2.fun_in ?l ?c ?k; (case l=>k_is); (case c=>k_is); (case k=>k_is)))
    (case a36=>k_is)
    (case l36=>(refine' L2.fun_in ?l ?c ?k; (case l=>k_is); (case c=>k_is); (case k=>k_is)))
    (case a37=>k_is)
    (case l37=>(refine' L2.fun_in ?l ?c ?k; (case l=>k_is); (case c=>k_is); (case k=>k_is)))
    (case a38=>k_is)
    (case l38=>(refine' L2.fun_in ?l ?c ?k; (case l=>k_is); (case c=>k_is); (case k=>k_is)))
    (case a39=>k_is)
    (case l39=>(refine' L2.fun_in ?l ?c ?k; (case l=>k_is); (case c=>k_is); (case k=>k_is)))
    (case a40=>k_is)
    (case l40=>(refine' L2.fun_in ?l ?c ?k; (case l=>k_is); (case c=>k_is); (case k=>k_is)))
    (case a41=>k_is)
    (case l41=>(refine' L2.fun_in ?l ?c ?k; (case l=>k_is); (case c=>k_is); (case k=>k_is)))
    (case a42=>k_is)
    (case l42=>(refine' L2.fun_in ?l ?c ?k; (case l=>k_is); (case c=>k_is); (case k=>k_is)))
    (case a43=>k_is)
    (case l43=>(refine' L2.fun_in ?l ?c ?k; (case l=>k_is); (case c=>k_is); (case k=>k_is)))
    (case a44=>k_is)
    (case l44=>(refine' L2.fun_in ?l ?c ?k; (case l=>k_is); (case c=>k_is); (case k=>k_is)))
    (case a45=>k_is)
    (case l45=>(refine' L2.fun_in ?l ?c ?k; (case l=>k_is); (case c=>k_is); (case k=>k_is)))
    (case a46=>k_is)
    (case l46=>(refine' L2.fun_in ?l ?c ?k; (case l=>k_is); (case c=>k_is); (case k=>k_is)))
    (case a47=>k_is)
    (case l47=>(refine' L2.fun_in ?l ?c ?k; (case l=>k_is); (case c=>k_is); (case k=>k_is)))
    (case a48=>k_is)
    (case l48=>(refine' L2.fun_in ?l ?c ?k; (case l=>k_is); (case c=>k_is); (case k=>k_is)))
    (case n48=>k_is)
    (case a49=>k_is)
    (case l49=>(refine' L2.fun_in ?l ?c ?k; (case l=>k_is); (case c=>k_is); (case k=>k_is)))
    (case a50=>k_is)
    (case l50=>(refine' L2.fun_in ?l ?c ?k; (case l=>k_is); (case c=>k_is); (case k=>k_is)))
    (case a51=>k_is)
    (case l51=>(refine' L2.fun_in ?l ?c ?k; (case l=>k_is); (case c=>k_is); (case k=>k_is)))
    (case a52=>k_is)
    (case l52=>(refine' L2.fun_in ?l ?c ?k; (case l=>k_is); (case c=>k_is); (case k=>k_is)))
    (case a53=>k_is)
    (case l53=>k_is)
    (case c53=>k_is)
    (case k53=>k_is)
    (case z1=>k_is)
    (case z2=>k_is)
    (case z3=>k_is)
    (case z4=>k_is)
    (case z5=>k_is)
    (case z6=>k_is)
    (case z7=>k_is)
    (case z8=>k_is)
    (case z9=>k_is)
    (case z10=>k_is)
    (case z11=>k_is)
    (case z12=>k_is)
    (case z13=>k_is)
    (case z14=>k_is)
    (case z15=>k_is)
    (case z16=>k_is)
    (case z17=>k_is)
    (case bp=>k_is)
    (case bh=>k_is)
    (case bo=>k_is)
    (case bs=>k_is)
    (case b_many=>k_is)
    (case b_scale=>k_is)
    (case b_cells=>k_is)
    (case b_outs=>k_is)
    (case b_ins=>k_is)
    (case bm=>k_is)
    (case bk=>k_is)
    (case ddp=>k_is)
    (case ddh=>k_is)
    (case ddo=>k_is)
    (case dds=>k_is)
    (case dd_book=>k_is)
    (case dd_sizes=>k_is)
    (case dd_past=>k_is)
    (case ddm=>k_is)
    (case ddk=>k_is)
    (case dmASKS=>k_is)
    (case dlASKS=>k_is)
    (case dkASKS=>k_keys)
    (case dpASKS=>exact .cons ⟨_,rfl,rfl⟩ (.cons ⟨_,rfl,rfl⟩ (.cons ⟨_,rfl,rfl⟩ (.cons ⟨_,rfl,rfl⟩ (.cons ⟨_,rfl,rfl⟩ (.cons ⟨_,rfl,rfl⟩ (.cons ⟨_,rfl,rfl⟩ (.cons ⟨_,rfl,rfl⟩ (.cons ⟨_,rfl,rfl⟩ (.nil))))))))))
    (case dyASKS=>rfl)
    (case dmDEEDS=>k_is)
    (case dlDEEDS=>k_is)
    (case dkDEEDS=>k_keys)
    (case dpDEEDS=>exact .cons ⟨_,rfl,rfl⟩ (.cons ⟨_,rfl,rfl⟩ (.cons ⟨_,rfl,rfl⟩ (.cons ⟨_,rfl,rfl⟩ (.nil)))))
    (case dyDEEDS=>rfl)
    (case dmFORMS=>k_is)
    (case dlFORMS=>k_is)
    (case dkFORMS=>k_keys)
    (case dpFORMS=>exact .cons ⟨_,rfl,rfl⟩ (.cons ⟨_,rfl,rfl⟩ (.cons ⟨_,rfl,rfl⟩ (.cons ⟨_,rfl,rfl⟩ (.cons ⟨_,rfl,rfl⟩ (.cons ⟨_,rfl,rfl⟩ (.cons ⟨_,rfl,rfl⟩ (.cons ⟨_,rfl,rfl⟩ (.cons ⟨_,rfl,rfl⟩ (.cons ⟨_,rfl,rfl⟩ (.cons ⟨_,rfl,rfl⟩ (.cons ⟨_,rfl,rfl⟩ (.cons ⟨_,rfl,rfl⟩ (.cons ⟨_,rfl,rfl⟩ (.nil)))))))))))))))
    (case dyFORMS=>rfl)
    (case fl_house=>k_is)
    (case fl_drop=>k_is)
    (case fl_alter=>k_is)
    (case fl_sizes=>k_is)
    (case fl_back=>k_is)
    (case fl_share=>k_is)
    (case fl_grow=>k_is)
    (case fl_others=>k_is)
    (case fl_alone=>k_is)
    (case fl_scale=>k_is)
    (case fl_rim=>k_is)
    (case fl_levels=>k_is)
    (case fl_order=>k_is)
    (case fl_book=>k_is)
    (case zm=>k_is)
    (case zl=>k_is)
    (case zf=>k_is)
    (case zstr=>k_is)
    (case s1=>k_is)
    (case s3=>k_is)
    (case s4=>k_keys)
    (case sa0=>k_is)
    (case sb0=>k_is)
    (case sa1=>k_is)
    (case sb1=>k_is)
    (case sa2=>k_is)
    (case sb2=>k_is)
    (case sa3=>k_is)
    (case sb3=>k_is)
    (case xmNoHouse=>k_is)
    (case xoNoHouse=>k_exc)
    (case xgaNoHouse=>k_is)
    (case xgnNoHouse=>k_is)
    (case xcaNoHouse=>k_is)
    (case xmoNoHouse=>k_is)
    (case xmbNoHouse=>k_is)
    (case xmNoBook=>k_is)
    (case xoNoBook=>k_exc)
    (case xgaNoBook=>k_is)
    (case xgnNoBook=>k_is)
    (case xcaNoBook=>k_is)
    (case xmoNoBook=>k_is)
    (case xmbNoBook=>k_is)
    (case xmRimError=>k_is)
    (case xoRimError=>k_exc)
    (case xgaRimError=>k_is)
    (case xgnRimError=>k_is)
    (case xcaRimError=>k_is)
    (case xmoRimError=>k_is)
    (case xmbRimError=>k_is)
    (case xmNoRow=>k_is)
    (case xoNoRow=>k_exc)
    (case xgaNoRow=>k_is)
    (case xgnNoRow=>k_is)
    (case xcaNoRow=>k_is)
    (case xmoNoRow=>k_is)
    (case xmbNoRow=>k_is)
    (case xmNoText=>k_is)
    (case xoNoText=>k_exc)
    (case xgaNoText=>k_is)
    (case xgnNoText=>k_is)
    (case xcaNoText=>k_is)
    (case xmoNoText=>k_is)
    (case xmbNoText=>k_is)
    (case xmTooMany=>k_is)
    (case xoTooMany=>k_exc)
    (case xgaTooMany=>k_is)
    (case xgnTooMany=>k_is)
    (case xcaTooMany=>k_is)
    (case xmoTooMany=>k_is)
    (case xmbTooMany=>k_is)
    (case xmNothingLeft=>k_is)
    (case xoNothingLeft=>k_exc)
    (case xgaNothingLeft=>k_is)
    (case xgnNothingLeft=>k_is)
    (case xcaNothingLeft=>k_is)
    (case xmoNothingLeft=>k_is)
    (case xmbNothingLeft=>k_is)
    (case cmMOST_AMOUNT=>k_is)
    (case cmMOST_HOUSES=>k_is)
    (case cmMOST_FIGURES=>k_is)
    (case cmMOST_KINDS=>k_is)
    (case eSub_NoBook=>k_is)
    (case eI_NoBook_NoHouse=>kit_is)
    (case eI_NoBook_NoRow=>kit_is)
    (case eI_NoBook_NoText=>kit_is)
    (case eI_NoBook_TooMany=>kit_is)
    (case eI_NoBook_NothingLeft=>kit_is)
    (case eIV_NoBook=>kit_is)
    (case eSub_NoHouse=>k_is)
    (case eI_NoHouse_NoBook=>kit_is)
    (case eI_NoHouse_NoRow=>kit_is)
    (case eI_NoHouse_NoText=>kit_is)
    (case eI_NoHouse_TooMany=>kit_is)
    (case eI_NoHouse_NothingLeft=>kit_is)
    (case eIV_NoHouse=>kit_is)
    (case eSub_TooMany=>k_is)
    (case eI_TooMany_NoBook=>kit_is)
    (case eI_TooMany_NoHouse=>kit_is)
    (case eI_TooMany_NoRow=>kit_is)
    (case eI_TooMany_NoText=>kit_is)
    (case eI_TooMany_NothingLeft=>kit_is)
    (case eIV_TooMany=>kit_is)
    (case eSub_NothingLeft=>k_is)
    (case eI_NothingLeft_NoBook=>kit_is)
    (case eI_NothingLeft_NoHouse=>kit_is)
    (case eI_NothingLeft_NoRow=>kit_is)
    (case eI_NothingLeft_NoText=>kit_is)
    (case eI_NothingLeft_TooMany=>kit_is)
    (case eIV_NothingLeft=>kit_is)
  case C=>exact λ w t ht=>by rw [aQ.mp ht]; exact ⟨by kernel_rfl,by kernel_rfl⟩
