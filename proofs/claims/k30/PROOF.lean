import PyProof.Rows.All
import Wide.All
import OpenK.AllK
import Wide.FinOn
import Lean
import PyProof.EqAt
import PyProof.EqKinds
import PyProof.TupleCall
import PyProof.NeData
import PyProof.ZipIter
import PyProof.EnumMake
import PyProof.EnumFor
import KE.KMinKey
import KE.KUnpack
import KE.KNestM
import KE.KSortTup
import PyProof.ListRange
import PyProof.CollectWalk
import PyProof.Rows.SortRev
import PyProof.Rows.SortShellK
import PyProof.Rows.RuleB_bool
import KE.KLam
import PySem.Challenge.RW_rimhouse_k30_whole_standings_and_levels
set_option Elab.async false
set_option maxHeartbeats 16000000
set_option linter.all false
set_option maxRecDepth 100000
namespace L2
open PySem PySem.Spec PyProof.Rows
abbrev Key:=Sum Int Str
def b2j:Key->Value->Bool
 | .inl k,v=>Value.isInt k v
 | .inr x,v=>Value.isStrOf x v
def b5p (w:World):Key->Int
 | .inl k=>hashInt k
 | .inr x=>hashStr w x
theorem B7:∀ {k:Key} {v:Value},b2j k v=true->(∃ i t,k=Sum.inl i/\v=Value.int i t)\/(∃ x t,k=Sum.inr x/\v=Value.str x t)
 | .inl i,v,h=>by
  obtain ⟨t,e⟩:=Value.isInt_shape (k:=i) (v:=v) h;exact .inl ⟨i,t,rfl,e⟩
 | .inr x,v,h=>by
  obtain ⟨t,e⟩:=Value.isStrOf_shape (x:=x) (v:=v) h;exact .inr ⟨x,t,rfl,e⟩
theorem b2v (a b:Int):decide ((Sum.inl a:Key)=Sum.inl b)=(a==b):=by
 by_cases e:a=b
 ·subst e; simp
 ·have h:¬ (Sum.inl a:Key)=Sum.inl b:=λ q=>e (Sum.inl.inj q)
  rw [decide_eq_false h];exact (beq_eq_false_iff_ne.mpr e).symm
theorem b2w (a b:Str):decide ((Sum.inr a:Key)=Sum.inr b)=decide (a=b):=by
 by_cases e:a=b
 ·subst e; simp
 ·have h:¬ (Sum.inr a:Key)=Sum.inr b:=λ q=>e (Sum.inr.inj q)
  rw [decide_eq_false h,decide_eq_false e]
theorem b3i (a:Int) (b:Str):decide ((Sum.inl a:Key)=Sum.inr b)=false:=decide_eq_false (λ q=>nomatch q)
theorem b2S (a:Str) (b:Int):decide ((Sum.inr a:Key)=Sum.inl b)=false:=decide_eq_false (λ q=>nomatch q)
def a3I (prog:Program) (w:World):PySem.KeyKind prog w Key where
 is:=b2j
 hash:=b5p w
 inj:=λ v a b ha hb=>by
  rcases B7 ha with ⟨i,t,rfl,rfl⟩ | ⟨x,t,rfl,rfl⟩
  ·rcases B7 hb with ⟨j,u,rfl,e⟩ | ⟨y,u,rfl,e⟩
   ·injection e with e1 _; rw [e1]
   ·exact nomatch e
  ·rcases B7 hb with ⟨j,u,rfl,e⟩ | ⟨y,u,rfl,e⟩
   ·exact nomatch e
   ·injection e with e1 _; rw [e1]
 byValue:=λ k v h=>by
  rcases B7 h with ⟨i,t,rfl,rfl⟩ | ⟨x,t,rfl,rfl⟩ <;> rfl
 pyHash:=λ hv h=>by
  rcases B7 hv with ⟨i,t,rfl,rfl⟩ | ⟨x,t,rfl,rfl⟩
  ·exact wpAny_pyHash_int h
  ·exact wpAny_pyHash_str h
 eqBool:=λ hu hv h=>by
  rcases B7 hu with ⟨i,t,rfl,rfl⟩ | ⟨x,t,rfl,rfl⟩
  ·rcases B7 hv with ⟨j,u,rfl,rfl⟩ | ⟨y,u,rfl,rfl⟩
   ·rw [b2v] at h; exact wpAny_eqBool_int h
   ·rw [b3i] at h; exact SeqAt.EqAt.int_str i t y u _ _ _ _ h
  ·rcases B7 hv with ⟨j,u,rfl,rfl⟩ | ⟨y,u,rfl,rfl⟩
   ·rw [b2S] at h; exact SeqAt.EqAt.str_int x t j u _ _ _ _ h
   ·rw [b2w] at h; exact wpAny_eqBool_str h
 «strs»:=λ k x t v h=>by
  rcases B7 h with ⟨i,u,rfl,e⟩ | ⟨y,u,rfl,e⟩
  ·exact nomatch e
  ·injection e with e1 _
   subst e1
   cases v <;> rfl
inductive V where
 | non | bl (b:Bool) | int (i:Int) | str (x:Str) | byt (b:Array UInt8) | flt (b:UInt64) | ref (a:Addr) | ty (n:String)
 deriving DecidableEq
def RelV:V->Value->Prop
 | .non,u=>u=Value.none
 | .bl b,u=>u=Value.bool b
 | .int i,u=>∃ t,u=Value.int i t
 | .str x,u=>∃ t,u=Value.str x t
 | .byt b,u=>∃ t,u=Value.bytes b t
 | .flt b,u=>∃ t,u=Value.float b t
 | .ref a,u=>u=Value.ref a
 | .ty n,u=>u=Value.type n
abbrev Vals:List V->List Value->Prop:=Paired RelV
theorem Vals.length {xs:List V} {us:List Value} (r:Vals xs us):xs.length=us.length:=Paired.length r
theorem Vals.get:∀ {xs:List V} {us:List Value} {i:Nat} {x:V},Vals xs us->xs[i]?=some x->∃ u,us[i]?=some u/\RelV x u
 | _,_,_,_,.nil,e=>by simp at e
 | _,_,0,_,.cons r _,e=>by simp at e; subst e; exact ⟨_,rfl,r⟩
 | _,_,i+1,x,.cons _ t,e=>by
  obtain ⟨u,h1,h2⟩:=Vals.get (i:=i) (x:=x) t (by simpa using e);exact ⟨u,by simpa using h1,h2⟩
theorem Vals.set {x:V} {u:Value} (r:RelV x u):∀ {xs:List V} {us:List Value} (i:Nat),Vals xs us->Vals (xs.set i x) (us.set i u)
 | _,_,_,.nil=>.nil
 | _,_,0,.cons _ t=>.cons r t
 | _,_,i+1,.cons q t=>.cons q (Vals.set r i t)
theorem Vals.append:∀ {xs ys:List V} {us ws:List Value},Vals xs us->Vals ys ws->Vals (xs++ys) (us++ws)
 | _,_,_,_,.nil,s=>s
 | _,_,_,_,.cons r t,s=>.cons r (Vals.append t s)
theorem Vals.take:∀ {xs:List V} {us:List Value} (n:Nat),Vals xs us->Vals (xs.take n) (us.take n)
 | _,_,0,_=>.nil
 | _,_,_+1,.nil=>.nil
 | _,_,n+1,.cons r t=>.cons r (Vals.take n t)
theorem Vals.drop:∀ {xs:List V} {us:List Value} (n:Nat),Vals xs us->Vals (xs.drop n) (us.drop n)
 | _,_,0,r=>r
 | _,_,_+1,.nil=>.nil
 | _,_,n+1,.cons _ t=>Vals.drop n t
theorem Vals.none_of:∀ {xs:List V} {us:List Value} {i:Nat},Vals xs us->xs[i]?=none->us[i]?=none:=λ {xs us i} r e=>by
 have h1:=r.length;have h2:xs.length<=i:=List.getElem?_eq_none_iff.mp e;exact List.getElem?_eq_none_iff.mpr (by omega)
def RelO:Option V->Option Value->Prop
 | some v,some u=>RelV v u
 | none,none=>True
 | _,_=>False
def KV {κ:Type}:List (κ×V)->List (κ×Value)->Prop:=Paired λ (p:κ×V) (q:κ×Value)=>p.1=q.1/\RelV p.2 q.2
def kV:Key->V
 | .inl i=>.int i
 | .inr x=>.str x
inductive HO where
  | lst (xs:List V)
  | tup (xs:List V)
  | dK (kvs:List (Key×V)) | dT (kvs:List (List Key×V))
  | set (S:Int->Bool) (n:Nat)
  | ins (C dx:Addr) (fs:List (Str×V))
  | own (x:Addr)
  | xd (fs:List (Str×V))
  | met (f x:Addr)
  | rng (lo hi:Int)
  | frz (o:Obj) (u:HO)
  | tbl (ps:Array Value)
  | ext (φ:Heap->Prop)
abbrev Hp:=Addr->Option HO
def upd (H:Hp) (a:Addr) (o:HO):Hp:=λ b=>if b=a then some o else H b
theorem upd_same {H:Hp} {a:Addr} {o:HO}:upd H a o a=some o:=by unfold upd; rw [if_pos rfl]
theorem c7 {H:Hp} {a b:Addr} {o:HO} (h:b≠a):upd H a o b=H b:=by unfold upd; rw [if_neg h]
theorem a1E {H:Hp} {a:Addr} {o u:HO}:upd (upd H a o) a u=upd H a u:=by
 funext b; unfold upd; split <;> rfl
theorem S2 {H:Hp} {a b:Addr} {o u:HO} (h:H a=some o) (h':H b=some u) (d:o≠u):a≠b:=by
 intro e; subst e; rw [h] at h'; exact d (Option.some.inj h')
theorem g0 {H:Hp} {a b:Addr} {o:HO} (h:H a=some o) (h':H b=none):a≠b:=by
 intro e; subst e; rw [h] at h'; cases h'
section
variable (P:Program) (w:World)
def ObjOk (H:Hp) (h:Heap) (a:Addr):HO->Prop
 | .lst xs=>xs.length<=sizeLine/\∃ (its:List Value) (n:Nat),Vals xs its/\h.get? a=some { cls:=.type "list",data:=.seq its.toArray n }
 | .tup xs=>xs.length<=sizeLine/\∃ its:List Value,Vals xs its/\IsTup h a its.toArray
 | .dK kvs=>kvs.length<=sizeLine/\(a==sysModules)=false/\∃ vs,KV kvs vs/\h.DictOf (a3I P w) a vs
 | .dT kvs=>kvs.length<=sizeLine/\(a==sysModules)=false/\∃ xs:List (List Key×Addr×Value),
   Paired (λ (p:List Key×V) (q:List Key×Addr×Value)=>p.1=q.1/\H q.2.1=some (.tup (p.1.map kV))/\RelV p.2 q.2.2) kvs xs ∧
   ∃ o es ep,h.get? a=some o/\o.ExactDict/\o.data=.dict es ep/\es.toList=xs.map (entryOfKey (tupleKind (a3I P w)))/\(xs.map (·.1)).Nodup
 | .set S n=>h.SetOf (intKind P w) a S n
 | .ins C dx fs=>H dx=some (.own a)/\fs.length<=1000/\dx≠a/\h.get? a=some (W.instObj C dx) ∧
   ∃ mA,h.Ns1 dx mA/\(∀ f,RelO (fs.lookup f) (mA f))/\PySem.Within mA (fs.map (·.1))
 | .own _=>∃ o,h.get? a=some o
 | .xd fs=>∃ mA,h.Ns1 a mA/\∀ f,RelO (fs.lookup f) (mA f)
 | .rng lo hi=>∃ t u v,h.get? a=some { cls:=.type "range",data:=.fields #[.int lo t,.int hi u,.int 1 v] }
 | .frz o u=>h.get? a=some o/\ObjOk H h a u
 | .tbl ps=>h.get? a=some { cls:=.none,data:=.fields ps }
 | .met f x=>h.get? a=some (W.methodObj (.ref f) (.ref x))
 | .ext φ=>φ h/\(∃ o,h.get? a=some o)/\∀ h1 h2:Heap,φ h1->(∀ o,h1.get? a=some o->h2.get? a=some o)->φ h2
def HOk (H:Hp) (h:Heap):Prop:=∀ a o,H a=some o->ObjOk P w H h a o
end
section
variable {P:Program} {w:World} {H H':Hp} {h h':Heap} {a:Addr} {o:HO}
theorem ObjOk.lt (x:ObjOk P w H h a o):a<h.objs.size:=by
 cases o with
 | lst xs=>obtain ⟨_,_,_,_,e⟩:=x; exact Heap.lt_size e
 | tup xs=>obtain ⟨_,_,_,p⟩:=x; exact p.lt
 | dK kvs=>obtain ⟨_,_,_,_,o,_,_,e,_⟩:=x; exact Heap.lt_size e
 | dT kvs=>obtain ⟨_,_,_,_,o,_,_,e,_⟩:=x; exact Heap.lt_size e
 | set S n=>obtain ⟨o,_,_,_,e,_⟩:=x; exact Heap.lt_size e
 | ins C dx fs=>obtain ⟨_,_,_,e,_⟩:=x; exact Heap.lt_size e
 | own y=>obtain ⟨_,e⟩:=x; exact Heap.lt_size e
 | xd fs=>obtain ⟨_,⟨_,_,_,e,_⟩,_⟩:=x; exact Heap.lt_size e
 | rng lo hi=>obtain ⟨_,_,_,e⟩:=x; exact Heap.lt_size e
 | frz ob u=>obtain ⟨e,_⟩:=x; exact Heap.lt_size e
 | tbl ps=>exact Heap.lt_size (show h.get? a=some _ from x)
 | met f y=>exact Heap.lt_size (show h.get? a=some _ from x)
 | ext φ=>obtain ⟨_,⟨_,e⟩,_⟩:=x; exact Heap.lt_size e
theorem Paired.mapP {α β:Type} {F G:α->β->Prop}:∀ {l₁:List α} {l₂:List β},Paired F l₁ l₂->(∀ a b,F a b->G a b)->Paired G l₁ l₂
 | _,_,.nil,_=>.nil
 | _,_,.cons r t,f=>.cons (f _ _ r) (Paired.mapP t f)
theorem Paired.imp' {α β:Type} {F G:α->β->Prop} (f:∀ a b,F a b->G a b) {l₁:List α} {l₂:List β} (r:Paired F l₁ l₂):Paired G l₁ l₂:=Paired.mapP r f
theorem ObjOk.stay (x:ObjOk P w H h a o) (k:∀ b u,(b=a\/H b=some (.own a))->h.get? b=some u->h'.get? b=some u)
  (ho:∀ b,H b=some (.own a)->H' b=some (.own a)) (ht:∀ b xs,H b=some (.tup xs)->H' b=some (.tup xs)):ObjOk P w H' h' a o:=by
 induction o with
 | lst xs=>obtain ⟨z,its,n,r,e⟩:=x; exact ⟨z,its,n,r,k _ _ (.inl rfl) e⟩
 | tup xs=>obtain ⟨z,its,r,ob,e,c⟩:=x; exact ⟨z,its,r,ob,k _ _ (.inl rfl) e,c⟩
 | dK kvs=>obtain ⟨z,y,vs,r,ob,es,ep,e,c⟩:=x; exact ⟨z,y,vs,r,ob,es,ep,k _ _ (.inl rfl) e,c⟩
 | dT kvs =>
  obtain ⟨z,y,xs,r,ob,es,ep,e,c⟩:=x;exact ⟨z,y,xs,Paired.mapP r λ p q z=>⟨z.1,ht _ _ z.2.1,z.2.2⟩,ob,es,ep,k _ _ (.inl rfl) e,c⟩
 | set S n=>obtain ⟨ob,es,ep,t,e,c⟩:=x; exact ⟨ob,es,ep,t,k _ _ (.inl rfl) e,c⟩
 | ins C dx fs =>
  obtain ⟨d,z,ne,e,mA,⟨od,es,ep,e2,c⟩,r⟩:=x;exact ⟨ho _ d,z,ne,k _ _ (.inl rfl) e,mA,⟨od,es,ep,k _ _ (.inr d) e2,c⟩,r⟩
 | own y=>obtain ⟨ob,e⟩:=x; exact ⟨ob,k _ _ (.inl rfl) e⟩
 | xd fs=>obtain ⟨mA,⟨od,es,ep,e,c⟩,r⟩:=x; exact ⟨mA,⟨od,es,ep,k _ _ (.inl rfl) e,c⟩,r⟩
 | rng lo hi=>obtain ⟨t,u,v,e⟩:=x; exact ⟨t,u,v,k _ _ (.inl rfl) e⟩
 | frz ob u ih=>obtain ⟨e,q⟩:=x; exact ⟨k _ _ (.inl rfl) e,ih q⟩
 | tbl ps =>
  have e:h.get? a=some { cls:=.none,data:=.fields ps }:=x
  show h'.get? a=some { cls:=.none,data:=.fields ps }
  exact k a _ (.inl rfl) e
 | met f y =>
  have e:h.get? a=some (W.methodObj (.ref f) (.ref y)):=x
  show h'.get? a=some (W.methodObj (.ref f) (.ref y))
  exact k a _ (.inl rfl) e
 | ext φ=>obtain ⟨p,⟨o,e⟩,st⟩:=x; exact ⟨st _ _ p λ o q=>k _ _ (.inl rfl) q,⟨o,k _ _ (.inl rfl) e⟩,st⟩
theorem HOk.lt (x:HOk P w H h) (e:H a=some o):a<h.objs.size:=(x a o e).lt
theorem HOk.fresh (x:HOk P w H h) (e:h.objs.size<=a):H a=none:=by
 cases q:H a with
 | none=>rfl
 | some u=>exact absurd (Nat.lt_of_lt_of_le (x.lt q) e) (Nat.lt_irrefl _)
theorem HOk.kept (x:HOk P w H h) (k:∀ b u,h.get? b=some u->h'.get? b=some u):HOk P w H h':=λ a o e =>
 (x a o e).stay (λ b u _ q=>k b u q) (λ _ q=>q) λ _ _ q=>q
theorem HOk.laid (x:HOk P w H h) (k:∀ b u,h.get? b=some u->h'.get? b=some u) (hp:h.objs.size<=a) (new:ObjOk P w (upd H a o) h' a o):HOk P w (upd H a o) h':=λ b u e=>by
 have hn:=x.fresh hp
 by_cases hb:b=a
 ·subst hb; rw [upd_same] at e; cases e; exact new
 ·rw [c7 hb] at e
  exact (x b u e).stay (λ c v _ q=>k c v q) (λ c q=>by rw [c7 (g0 q hn)]; exact q) λ c xs q=>by rw [c7 (g0 q hn)]; exact q
end
def Rd (H:Hp) (a:Addr) (u:HO):Prop:=H a=some u\/∃ o,H a=some (.frz o u)
theorem Rd.ok {P:Program} {w:World} {H:Hp} {h:Heap} {a:Addr} {u:HO} (r:Rd H a u) (x:HOk P w H h):ObjOk P w H h a u:=by
 rcases r with r | ⟨o,r⟩
 ·exact x a u r
 ·obtain ⟨_,q⟩:=x a _ r
  exact q
def Mut:Option HO->Prop
 | some (.lst _)=>True
 | some (.dK _)=>True
 | some (.dT _)=>True
 | some (.set _ _)=>True
 | some (.ins _ _ _)=>True
 | some (.ext _)=>True
 | _=>False
section
variable {P:Program} {w:World} {H:Hp} {h h':Heap} {x e:Addr} {o':HO}
theorem HOk.write (ok:HOk P w H h) (mu:Mut (H x)) (he:e=x\/H e=some (.own x)) (k:∀ b u,b≠e->h.get? b=some u->h'.get? b=some u) (heo:∃ u,h'.get? e=some u)
  (new:ObjOk P w (upd H x o') h' x o'):HOk P w (upd H x o') h':=λ b u q=>by
 have nown:∀ c y,H c=some (.own y)->c≠x:=λ c y r z=>by subst z; rw [r] at mu; exact mu
 have ntup:∀ c xs,H c=some (.tup xs)->c≠x:=λ c xs r z=>by subst z; rw [r] at mu; exact mu
 by_cases hb:b=x
 ·subst hb; rw [upd_same] at q; cases q; exact new
 ·rw [c7 hb] at q
  by_cases hbe:b=e
  ·have q':H b=some (.own x):=by
    rcases he with z | z
    ·exact absurd (hbe.trans z) hb
    ·rw [hbe]; exact z
   rw [q] at q'; cases q';obtain ⟨v,hv⟩:=heo;exact ⟨v,by rw [hbe]; exact hv⟩
  ·refine (ok b u q).stay (λ c v hc r=>k c v ?_ r) (λ c r=>by rw [c7 (nown c b r)]; exact r) λ c xs r=>by rw [c7 (ntup c xs r)]; exact r
   rcases hc with rfl | hc
   ·exact hbe
   ·rintro rfl
    rcases he with z | z
    ·exact nown c b hc z
    ·rw [hc] at z; cases z; exact hb rfl
end
structure Un (fs ex:List Addr) (H H':Hp) (h h':Heap):Prop where
 keep:∀ b o,h.get? b=some o->H b=none->b ∉ fs->b ∉ ex->h'.get? b=some o
 slot:∀ b o,h.get? b=some o->H b=none->b∈fs->b ∉ ex->∃ sl,h'.get? b=some { o with slots:=sl }
 free:∀ b o,h.get? b=some o->H b=none->b ∉ ex->H' b=none
 there:∀ b o,h.get? b=some o->b ∉ ex->∃ o',h'.get? b=some o'
 tups:∀ b xs,H b=some (.tup xs)->H' b=some (.tup xs)
 frzs:∀ b o u,H b=some (.frz o u)->H' b=some (.frz o u)
 tbls:∀ b ps,H b=some (.tbl ps)->∃ more,H' b=some (.tbl (ps++more))
section
variable {fs fs' ex ex':List Addr} {H H1 H2:Hp} {h h1 h2 h':Heap} {a x e:Addr} {o:HO}
theorem Un.any (u:Un fs ex H H1 h h1) {b:Addr} {ob:Obj} (q:h.get? b=some ob) (n:H b=none) (hx:b ∉ ex):∃ sl,h1.get? b=some { ob with slots:=sl }:=by
 by_cases hb:b∈fs
 ·exact u.slot b ob q n hb hx
 ·exact ⟨ob.slots,u.keep b ob q n hb hx⟩
theorem Un.kept (k:∀ b u,h.get? b=some u->h'.get? b=some u):Un fs ex H H h h' :=
 ⟨λ b ob q _ _ _=>k b ob q,λ b ob q _ _ _=>⟨ob.slots,k b ob q⟩,λ _ _ _ n _=>n,λ b ob q _=>⟨ob,k b ob q⟩,λ _ _ q=>q,λ _ _ _ q=>q,λ _ ps q=>⟨#[],by rw [q]; simp⟩⟩
theorem Un.refl:Un fs ex H H h h:=Un.kept λ _ _ q=>q
theorem Un.laid (k:∀ b u,h.get? b=some u->h'.get? b=some u) (hp:h.objs.size<=a) (hn:H a=none):Un fs ex H (upd H a o) h h' where
 keep:=λ b u q _ _ _=>k b u q
 slot:=λ b u q _ _ _=>⟨u.slots,k b u q⟩
 free:=λ b u q n _=>by rw [c7 (Nat.ne_of_lt (Nat.lt_of_lt_of_le (Heap.lt_size q) hp))]; exact n
 there:=λ b u q _=>⟨u,k b u q⟩
 tups:=λ b xs q=>by rw [c7 (g0 q hn)]; exact q
 frzs:=λ b u xs q=>by rw [c7 (g0 q hn)]; exact q
 tbls:=λ b ps q=>⟨#[],by rw [c7 (g0 q hn),q]; simp⟩
theorem Un.write (mu:Mut (H x)) (he:e=x\/H e=some (.own x)) (k:∀ b u,b≠e->h.get? b=some u->h'.get? b=some u) (heo:∃ u,h'.get? e=some u):Un fs ex H (upd H x o) h h':=by
 have hx:∀ b,H b=none->b≠x:=λ b n z=>by subst z; rw [n] at mu; exact mu
 have hb:∀ b,H b=none->b≠e:=λ b n z=>by
  subst z;rcases he with r | r
  ·exact hx b n r
  ·rw [n] at r; cases r
 have hm:∀ b u,H b=some u->¬ Mut (some u)->b≠x:=λ b u q nm z=>by subst z; rw [q] at mu; exact nm mu
 refine ⟨λ b u q n _ _=>k b u (hb b n) q,λ b u q n _ _=>⟨u.slots,k b u (hb b n) q⟩,λ b u q n _=>by rw [c7 (hx b n)]; exact n,λ b u q _=>?_,
  λ b xs q=>by rw [c7 (hm b _ q λ z=>z)]; exact q,λ b u xs q=>by rw [c7 (hm b _ q λ z=>z)]; exact q,λ b ps q=>⟨#[],by rw [c7 (hm b _ q λ z=>z),q]; simp⟩⟩
 by_cases hbe:b=e
 ·subst hbe; exact heo
 ·exact ⟨u,k b u hbe q⟩
end
def trk (h:Heap) (H:Hp):List Addr:=(List.range h.objs.size).filter λ a=>(H a).isSome
def a2B (h:Heap) (H:Hp):Heap:=W.hideAll h (trk h H)
theorem a8g (h:Heap) (H:Hp):(a2B h H).objs.size=h.objs.size:=W.hideAll_size _ _
theorem a9w {h:Heap} {H:Hp} {b:Addr} {o:Obj} (e:h.get? b=some o) (n:H b=none):(a2B h H).get? b=some o :=
 W.hideAll_get _ e λ hm=>by
  have q:(H b).isSome=true:=(List.mem_filter.mp hm).2;rw [n] at q; simp at q
theorem b1j {h:Heap} {H:Hp} {b:Addr} {o:Obj} (e:(a2B h H).get? b=some o):h.get? b=some o/\H b=none:=by
 have e':h.get? b=some o:=W.of_hideAll (trk h H) e;refine ⟨e',?_⟩
 cases q:H b with
 | none=>rfl
 | some x =>
  have hm:b∈trk h H:=List.mem_filter.mpr ⟨List.mem_range.mpr (Heap.lt_size e'),by simp [q]⟩;have z:(a2B h H).get? b=none:=W.hideAll_none (trk h H) hm;rw [z] at e; cases e
def b1m (g h:Heap) (L:Addr):List (Addr×Obj):=(List.range h.objs.size).filterMap λ a=>if a=L\/(g.get? a).isSome=true then none else (h.get? a).map λ o=>(a,o)
def rest (g h:Heap) (L d:Addr):List (Addr×Obj):=(b1m g h L).filter λ p=>decide (p.1≠d)
structure Mod (K:W.Frag) (mg:Str->Option Value) (base:Heap):Prop where
 kin:K.In base
 glob:base.Ns mainGlobals mg
 blt:∃ mb,base.Ns builtinsNs mb/\∀ x:Str,x≠"__name__"->mb x=bootBuiltins x
 nolimit:base.NoLimit
structure Cx where
 prog:Program
 w:World
 K:W.Frag
 mg:Str->Option Value
 base:Heap
 A:Around
 N:List Str
 s₀:Shared
 H₀:Hp
 env:Env
 outer:List Env
 stack:List Env
 ex:List Addr
 fn:Str->Bool
 calm:Bool
 pn:List (Addr×Obj)
 xe:Value->Shared->Prop
def frs (l:List Env):List Addr:=l.filterMap (·.frame)
abbrev Cx.fs (X:Cx):List Addr:=frs X.outer
def Vis (sc:Scope) (x:Str):Prop:=sc.names.lookup x=some .local\/sc.names.lookup x=some .cell\/sc.names.lookup x=some .free
def Loc (sc:Scope) (x:Str):Prop:=sc.names.lookup x=some .local\/sc.names.lookup x=some .cell
def b6b (env:Env) (h:Heap) (m:Str->Option Value) (x:Str) (u:Value):Prop :=
 (env.kindOf x=some .local/\m x=some u)\/((env.kindOf x=some .cell\/env.kindOf x=some .free)/\∃ c,env.cells.lookup x=some c/\h.IsCell c (some u))
structure Cx.Ok (X:Cx):Prop where
 mod:Mod X.K X.mg X.base
 kind:X.env.scope.kind=.function
 glob:X.env.globals=mainGlobals
 blt:X.env.builtins=builtinsNs
 above:X.s₀.heap.objs.size<=X.env.locals
 inj:∀ x y c,X.env.cells.lookup x=some c->X.env.cells.lookup y=some c->x=y
 has:∀ x,(X.env.kindOf x=some .cell\/X.env.kindOf x=some .free)->∃ c,X.env.cells.lookup x=some c
 cab:∀ x c,X.fn x=true->X.env.cells.lookup x=some c->X.s₀.heap.objs.size<=c
 hd:X.calm=true->X.A.handled=none
 frames:X.A.frames=some X.stack
 stk:X.stack=X.outer\/(X.stack=X.env::X.outer/\X.env.frame=some X.env.locals)
 exf:∀ b∈X.ex,b≠X.env.locals/\∀ x c,X.env.cells.lookup x=some c->c≠b
 bs:∀ b o,X.base.get? b=some o->X.s₀.heap.get? b=some o/\X.H₀ b=none
 bsz:X.base.objs.size<=X.s₀.heap.objs.size
 noex:∀ b o,X.base.get? b=some o->b ∉ X.ex
 exfs:∀ b∈X.ex,b ∉ X.fs
 funs:X.s₀.heap.FunFrames X.base X.outer
 frf:∀ b∈X.fs,X.H₀ b=none
structure Inv (X:Cx) (pins:List (Addr×Obj)) (σ:List (Option V)) (H:Hp) (s:Shared):Prop where
 ok:X.Ok
 os:s.os=X.s₀.os
 bare:AllBare s.gens
 base:Un X.fs X.ex X.H₀ H X.s₀.heap s.heap
 loc:∃ m,s.heap.Ns X.env.locals m/\∀ (i:Nat) (x:Str) (v:V),X.N[i]?=some x->σ[i]?=some (some v)->Vis X.env.scope x->∃ u,RelV v u/\b6b X.env s.heap m x u
 cell:∀ x c,X.env.cells.lookup x=some c->∃ v,s.heap.IsCell c v
 free:H X.env.locals=none
 freeC:∀ x c,X.env.cells.lookup x=some c->H c=none
 pin:∀ p∈X.pn++pins,s.heap.get? p.1=some p.2/\H p.1=none/\p.1≠X.env.locals/\p.1 ∉ X.fs/\∀ v,p.2.data≠.cell v
 hok:HOk X.prog X.w H s.heap
 len:σ.length=X.N.length
section
variable {X:Cx} {pins:List (Addr×Obj)} {σ:List (Option V)} {H H':Hp} {s:Shared} {h':Heap}
theorem Cx.Ok.nofr (ok:X.Ok) {b:Addr} {o:Obj} (e:X.base.get? b=some o):b ∉ X.fs:=λ hb=>by
 have:=(ok.funs.mem hb).1;rw [e] at this; cases this
theorem Inv.bs (I:Inv X pins σ H s):∀ b o,X.base.get? b=some o->s.heap.get? b=some o/\H b=none:=λ b o e =>
 ⟨I.base.keep b o (I.ok.bs b o e).1 (I.ok.bs b o e).2 (I.ok.nofr e) (I.ok.noex b o e),I.base.free b o (I.ok.bs b o e).1 (I.ok.bs b o e).2 (I.ok.noex b o e)⟩
theorem Inv.bk (I:Inv X pins σ H s):∀ b o,X.base.get? b=some o->s.heap.get? b=some o:=λ b o e=>(I.bs b o e).1
theorem Inv.mod (I:Inv X pins σ H s):Mod X.K X.mg X.base:=I.ok.mod
theorem Inv.kIn (I:Inv X pins σ H s):X.K.In s.heap:=I.ok.mod.kin.keeps I.bk
theorem Inv.nolimit (I:Inv X pins σ H s):s.heap.NoLimit:=I.ok.mod.nolimit.keeps I.bk
theorem Inv.fr (I:Inv X pins σ H s):∃ m,Fr X.base X.env.locals s.heap m :=
 let ⟨m,hn,_⟩:=I.loc
 ⟨m,hn,I.bk,Nat.le_trans I.ok.bsz I.ok.above⟩
theorem Inv.lt (I:Inv X pins σ H s):X.env.locals<s.heap.objs.size:=let ⟨_,hn,_⟩:=I.loc; hn.lt
theorem Inv.sz (I:Inv X pins σ H s):X.s₀.heap.objs.size<=s.heap.objs.size:=Nat.le_trans I.ok.above (Nat.le_of_lt I.lt)
theorem Inv.nofs (I:Inv X pins σ H s) {a:Addr} (h:s.heap.objs.size<=a):a ∉ X.fs:=λ hb=>by
 obtain ⟨_,o,ho,_⟩:=I.ok.funs.mem hb;exact absurd (Nat.lt_of_lt_of_le (Heap.lt_size ho) (Nat.le_trans I.sz h)) (Nat.lt_irrefl _)
theorem Inv.cne (I:Inv X pins σ H s):∀ x c,X.env.cells.lookup x=some c->c≠X.env.locals:=λ x c e z=>by
 obtain ⟨v,o,ho,hd⟩:=I.cell x c e;obtain ⟨m,⟨o',es,ep,ho',hd',_⟩,_⟩:=I.loc;rw [z,ho'] at ho; cases ho; rw [hd'] at hd; cases hd
theorem Inv.funs (I:Inv X pins σ H s):s.heap.FunFrames X.base X.outer:=by
 have all:∀ (l:List Env),(∀ b∈frs l,b∈X.fs)->X.s₀.heap.FunFrames X.base l->s.heap.FunFrames X.base l:=by
  intro l
  induction l with
  | nil=>intro _ _; trivial
  | cons env r ih =>
   intro hs hl;obtain ⟨hk,⟨L,o,hf,hn,ho,hd⟩,hr⟩:=hl;have hL:L∈X.fs:=hs L (by unfold frs; rw [List.filterMap_cons,hf]; exact List.mem_cons_self);obtain ⟨sl,e⟩:=I.base.slot L o ho (I.ok.frf L hL) hL λ z=>I.ok.exfs L z hL;exact ⟨hk,⟨L,_,hf,hn,e,hd⟩,ih (λ b hb=>hs b (by unfold frs; rw [List.filterMap_cons,hf]; exact List.mem_cons_of_mem _ hb)) hr⟩
 exact all X.outer (λ _ hb=>hb) I.ok.funs
theorem Inv.stack (I:Inv X pins σ H s):s.heap.FunFrames X.base X.stack:=by
 rcases I.ok.stk with e | ⟨e,hf⟩
 ·rw [e]; exact I.funs
 ·rw [e]
  obtain ⟨m,hn,_⟩:=I.loc;refine .cons (by rw [I.ok.kind]; decide) hf hn ?_ I.funs;exact Heap.get?_none_of_le (Nat.le_trans I.ok.bsz I.ok.above)
theorem Inv.stkSub (I:Inv X pins σ H s):∀ b∈frs X.stack,b∈X.env.locals::X.fs:=λ b hb=>by
 rcases I.ok.stk with e | ⟨e,hf⟩
 ·rw [e] at hb; exact List.mem_cons_of_mem _ hb
 ·rw [e] at hb
  unfold frs at hb;rw [List.filterMap_cons,hf] at hb;exact hb
theorem Inv.stkFree (I:Inv X pins σ H s):∀ b∈frs X.stack,H b=none:=λ b hb=>by
 rcases List.mem_cons.mp (I.stkSub b hb) with e | hb
 ·rw [e]; exact I.free
 ·obtain ⟨_,o,ho,_⟩:=I.ok.funs.mem hb
  exact I.base.free b o ho (I.ok.frf b hb) λ z=>I.ok.exfs b z hb
theorem Inv.step {g':Array GenState} {t':Nat} {d':Drawn} {ch:List Addr} (I:Inv X pins σ H s)
  (hch:∀ b∈ch,(b∈X.ex\/X.s₀.heap.objs.size<=b)/\b≠X.env.locals/\(∀ x c,X.env.cells.lookup x=some c->c≠b)/\∀ p∈X.pn++pins,p.1≠b)
  (keep:∀ b o,b≠X.env.locals->b ∉ X.fs->b ∉ ch->s.heap.get? b=some o->H b=none->h'.get? b=some o)
  (slot:∀ b o,b≠X.env.locals->b∈X.fs->b ∉ ch->s.heap.get? b=some o->H b=none->∃ sl,h'.get? b=some { o with slots:=sl }) (free:∀ b o,b ∉ ch->s.heap.get? b=some o->H b=none->H' b=none)
  (there:∀ b o,b ∉ ch->s.heap.get? b=some o->∃ o',h'.get? b=some o')
  (tups:∀ b xs,H b=some (.tup xs)->H' b=some (.tup xs)) (frzs:∀ b o u,H b=some (.frz o u)->H' b=some (.frz o u)) (tbls:∀ b ps,H b=some (.tbl ps)->∃ more,H' b=some (.tbl (ps++more)))
  (ns:∀ m,s.heap.Ns X.env.locals m->h'.Ns X.env.locals m) (hok:HOk X.prog X.w H' h') (hg:AllBare g') :
  Inv X pins σ H' { s with heap:=h',gens:=g',drawn:=d',toks:=t' }:=by
 have neL:∀ b o,X.s₀.heap.get? b=some o->b≠X.env.locals:=λ b o e=>Nat.ne_of_lt (Nat.lt_of_lt_of_le (Heap.lt_size e) I.ok.above);have neC:∀ b o,X.s₀.heap.get? b=some o->b ∉ X.ex->b ∉ ch:=λ b o e hx hb=>by
  rcases (hch b hb).1 with z | z
  ·exact hx z
  ·exact absurd (Nat.lt_of_lt_of_le (Heap.lt_size e) z) (Nat.lt_irrefl _)
 have cellK:∀ x c,X.env.cells.lookup x=some c->∀ v,s.heap.IsCell c v->h'.IsCell c v:=λ x c e v ⟨o,ho,hd⟩=>by
  have nch:c ∉ ch:=λ z=>(hch c z).2.2.1 x c e rfl
  by_cases hc:c∈X.fs
  ·obtain ⟨sl,q⟩:=slot c o (I.cne x c e) hc nch ho (I.freeC x c e)
   exact ⟨_,q,hd⟩
  ·exact ⟨o,keep c o (I.cne x c e) hc nch ho (I.freeC x c e),hd⟩
 refine ⟨I.ok,I.os,hg,⟨λ b o e n hb hx=>?_,λ b o e n hb hx=>?_,λ b o e n hx=>?_,λ b o e hx=>?_,λ b xs e=>tups b xs (I.base.tups b xs e),λ b o xs e=>frzs b o xs (I.base.frzs b o xs e),λ b ps e=>?_⟩,?_,λ x c e=>?_,?_,λ x c e=>?_,λ p hp=>?_,hok,I.len⟩
 ·exact keep b o (neL b o e) hb (neC b o e hx) (I.base.keep b o e n hb hx) (I.base.free b o e n hx)
 ·obtain ⟨sl,e1⟩:=I.base.slot b o e n hb hx
  obtain ⟨sl',e2⟩:=slot b _ (neL b o e) hb (neC b o e hx) e1 (I.base.free b o e n hx);exact ⟨sl',e2⟩
 ·obtain ⟨o',e1⟩:=I.base.there b o e hx
  exact free b o' (neC b o e hx) e1 (I.base.free b o e n hx)
 ·obtain ⟨o',e1⟩:=I.base.there b o e hx
  exact there b o' (neC b o e hx) e1
 ·obtain ⟨m1,e1⟩:=I.base.tbls b ps e
  obtain ⟨m2,e2⟩:=tbls b _ e1;exact ⟨m1++m2,by rw [e2,Array.append_assoc]⟩
 ·obtain ⟨m,hn,hl⟩:=I.loc
  refine ⟨m,ns m hn,λ i x v e1 e2 e3=>?_⟩;obtain ⟨u,r,l⟩:=hl i x v e1 e2 e3;refine ⟨u,r,?_⟩;rcases l with l | ⟨k,c,e,z⟩
  ·exact .inl l
  ·exact .inr ⟨k,c,e,cellK x c e _ z⟩
 ·obtain ⟨v,z⟩:=I.cell x c e
  exact ⟨v,cellK x c e v z⟩
 ·obtain ⟨m,⟨o,_,_,ho,_⟩,_⟩:=I.loc
  exact free _ o (λ z=>(hch _ z).2.1 rfl) ho I.free
 ·obtain ⟨v,o,ho,hd⟩:=I.cell x c e
  exact free c o (λ z=>(hch c z).2.2.1 x c e rfl) ho (I.freeC x c e)
 ·obtain ⟨e,n,ne,nf,d⟩:=I.pin p hp
  have nch:p.1 ∉ ch:=λ z=>(hch p.1 z).2.2.2 p hp rfl;exact ⟨keep p.1 p.2 ne nf nch e n,free p.1 p.2 nch e n,ne,nf,d⟩
theorem Inv.un {t':Nat} (I:Inv X pins σ H s) (u:Un X.fs [] H H' s.heap h') (hok:HOk X.prog X.w H' h'):Inv X pins σ H' { s with heap:=h',toks:=t' }:=by
 obtain ⟨m,⟨o,es,ep,ho,r⟩,_⟩:=id I.loc;obtain ⟨sl,hL⟩:=u.any ho I.free (by simp);exact I.step (g':=s.gens) (d':=s.drawn) (ch:=[]) (λ _ z=>nomatch z) (λ b o _ hb _ e n=>u.keep b o e n hb (by simp)) (λ b o _ hb _ e n=>u.slot b o e n hb (by simp)) (λ b o _ e n=>u.free b o e n (by simp)) (λ b o _ e=>u.there b o e (by simp)) u.tups u.frzs u.tbls (λ m' hm=>by
  obtain ⟨o',es',ep',ho',r'⟩:=hm;rw [ho] at ho'; cases ho';exact ⟨_,es',ep',hL,r'⟩) hok I.bare
theorem Inv.call {g':Array GenState} {t':Nat} {d':Drawn} {ch:List Addr} (I:Inv X pins σ H s) (u:Un (frs X.stack) ch H H' s.heap h') (hok:HOk X.prog X.w H' h') (hg:AllBare g')
  (hch:∀ b∈ch,(b∈X.ex\/X.s₀.heap.objs.size<=b)/\b≠X.env.locals/\(∀ x c,X.env.cells.lookup x=some c->c≠b)/\∀ p∈X.pn++pins,p.1≠b) :
  Inv X pins σ H' { s with heap:=h',gens:=g',drawn:=d',toks:=t' }:=by
 obtain ⟨m,⟨o,es,ep,ho,r⟩,_⟩:=id I.loc;obtain ⟨sl,hL⟩:=u.any ho I.free λ z=>(hch _ z).2.1 rfl;exact I.step (ch:=ch) hch (λ b o hL hb hc e n=>u.keep b o e n (λ z=>(List.mem_cons.mp (I.stkSub b z)).elim hL hb) hc) (λ b o _ _ hc e n=>u.any e n hc) (λ b o hc e n=>u.free b o e n hc) (λ b o hc e=>u.there b o e hc) u.tups u.frzs u.tbls (λ m' hm=>by
  obtain ⟨o',es',ep',ho',r'⟩:=hm;rw [ho] at ho'; cases ho';exact ⟨_,es',ep',hL,r'⟩) hok hg
theorem Inv.turned {t':Nat} {it:Addr} (I:Inv X pins σ H s) (k:∀ b o,b≠it->s.heap.get? b=some o->h'.get? b=some o) (hn:H it=none) (hL:it≠X.env.locals)
  (h1:it∈X.ex\/X.s₀.heap.objs.size<=it) (h2:∀ x c,X.env.cells.lookup x=some c->c≠it) (h3:∀ p∈X.pn++pins,p.1≠it):Inv X pins σ H { s with heap:=h',toks:=t' }:=by
 have nit:∀ b u,H b=some u->b≠it:=λ b u e z=>by rw [z,hn] at e; cases e
 refine I.step (g':=s.gens) (d':=s.drawn) (ch:=[it]) (λ b hb=>?_) (λ b o _ _ hc e _=>k b o (λ z=>hc (by simp [z])) e) (λ b o _ _ hc e _=>⟨o.slots,k b o (λ z=>hc (by simp [z])) e⟩) (λ _ _ _ _ n=>n)
  (λ b o hc e=>⟨o,k b o (λ z=>hc (by simp [z])) e⟩) (λ _ _ e=>e) (λ _ _ _ e=>e) (λ b ps e=>⟨#[],by rw [e]; simp⟩) (λ m hm=>?_) (λ b u e=>?_) I.bare
 ·have e:b=it:=by simpa using hb
  subst e;exact ⟨h1,hL,h2,h3⟩
 ·obtain ⟨o,es,ep,ho,r⟩:=hm
  exact ⟨o,es,ep,k _ o (Ne.symm hL) ho,r⟩
 ·refine (I.hok b u e).stay (λ c v hc q=>k c v ?_ q) (λ _ q=>q) λ _ _ q=>q
  rcases hc with z | z
  ·rw [z]; exact nit b u e
  ·exact nit c _ z
theorem Inv.tok (I:Inv X pins σ H s) (t:Nat):Inv X pins σ H { s with toks:=t }:=I.un (h':=s.heap) (t':=t) Un.refl I.hok
theorem Inv.kept {t':Nat} (I:Inv X pins σ H s) (k:∀ b u,s.heap.get? b=some u->h'.get? b=some u):Inv X pins σ H { s with heap:=h',toks:=t' }:=I.un (Un.kept k) (I.hok.kept k)
theorem Inv.laid {a:Addr} {o:HO} {t':Nat} (I:Inv X pins σ H s) (k:∀ b u,s.heap.get? b=some u->h'.get? b=some u) (hp:s.heap.objs.size<=a) (new:ObjOk X.prog X.w (upd H a o) h' a o) :
  Inv X pins σ (upd H a o) { s with heap:=h',toks:=t' }:=I.un (Un.laid k hp (I.hok.fresh hp)) (I.hok.laid k hp new)
theorem Inv.write {x e:Addr} {o:HO} {t':Nat} (I:Inv X pins σ H s) (mu:Mut (H x)) (he:e=x\/H e=some (.own x)) (k:∀ b u,b≠e->s.heap.get? b=some u->h'.get? b=some u) (heo:∃ u,h'.get? e=some u)
  (new:ObjOk X.prog X.w (upd H x o) h' x o):Inv X pins σ (upd H x o) { s with heap:=h',toks:=t' }:=I.un (Un.write mu he k heo) (I.hok.write mu he k heo new)
theorem Inv.weak {σ':List (Option V)} (I:Inv X pins σ H s) (hl:σ'.length=σ.length) (w:∀ (i:Nat) v,σ'[i]?=some (some v)->σ[i]?=some (some v)):Inv X pins σ' H s :=
 ⟨I.ok,I.os,I.bare,I.base,let ⟨m,hn,hl'⟩:=I.loc; ⟨m,hn,λ i x v e1 e2 e3=>hl' i x v e1 (w i v e2) e3⟩,I.cell,I.free,I.freeC,I.pin,I.hok,hl.trans I.len⟩
theorem Inv.pins_of {pins':List (Addr×Obj)} (I:Inv X pins σ H s) (h:∀ p∈pins',s.heap.get? p.1=some p.2/\H p.1=none/\p.1≠X.env.locals/\p.1 ∉ X.fs/\∀ v,p.2.data≠.cell v):Inv X pins' σ H s :=
 ⟨I.ok,I.os,I.bare,I.base,I.loc,I.cell,I.free,I.freeC,λ p hp=>(List.mem_append.mp hp).elim (λ z=>I.pin p (List.mem_append_left _ z)) (h p),I.hok,I.len⟩
theorem a5a {N:List Str} (hN:N.Nodup) {i j:Nat} {x:Str} (a:N[i]?=some x) (b:N[j]?=some x):i=j:=by
 obtain ⟨h1,e1⟩:=List.getElem?_eq_some_iff.mp a;obtain ⟨h2,e2⟩:=List.getElem?_eq_some_iff.mp b;exact (List.getElem_inj hN).mp (e1.trans e2.symm)
theorem a0P {M:Model} {A:Around} {E:Value->Shared->Prop} {i:Nat} {x:Str} {v:V} {u:Value} {Q:Unit->Shared->Prop} (I:Inv X pins σ H s) (hN:X.N.Nodup) (hi:X.N[i]?=some x) (hx:Loc X.env.scope x) (r:RelV v u)
  (h:∀ s',Inv X pins (σ.set i (some v)) H s'->(∃ a,Heap.SameBut a s.heap s'.heap/\(a=X.env.locals\/X.env.cells.lookup x=some a))->Q () s') (hf:X.fn x=true\/X.env.scope.names.lookup x=some .local:=by first | exact .inl rfl | exact .inr rfl | assumption):wpAny M A (storeName X.env x u) Q E s:=by
 obtain ⟨m,hn,hl⟩:=id I.loc;have hcls:(X.env.scope.kind==.class || (X.env.scope.kind==.module&&X.env.locals != X.env.globals))=false:=by rw [I.ok.kind]; rfl
 have hiσ:i<σ.length:=by rw [I.len]; exact (List.getElem?_eq_some_iff.mp hi).1
 have cne:=I.cne;have tracked:∀ {a:Addr} {h':Heap},(∃ o,s.heap.get? a=some o/\H a=none)->Heap.SameBut a s.heap h'->HOk X.prog X.w H h':=λ {a h'} ha hs b ob e=>by
  obtain ⟨_,_,hfree⟩:=ha;refine (I.hok b ob e).stay (λ c w' hc q=>(hs.2 c ?_).trans q) (λ _ q=>q) λ _ _ q=>q;rintro rfl;rcases hc with rfl | hc
  ·rw [hfree] at e; cases e
  ·rw [hfree] at hc; cases hc
 rcases hx with hk | hk
 ·refine wpAny_storeName_local hk hn (λ h' hn' hs=>?_) hcls
  obtain ⟨oL,_,_,hoL,_⟩:=id hn;refine h _ ⟨I.ok,I.os,I.bare,⟨λ b o e n hb hx=>?_,λ b o e n hb hx=>?_,I.base.free,λ b o e hx=>?_,I.base.tups,I.base.frzs,I.base.tbls⟩,⟨_,hn',λ j y v' e1 e2 e3=>?_⟩,λ y c e=>?_,I.free,I.freeC,λ p hp=>?_,tracked ⟨oL,hoL,I.free⟩ hs,by simpa using I.len⟩ ⟨_,hs,.inl rfl⟩
  ·exact (hs.2 b (Nat.ne_of_lt (Nat.lt_of_lt_of_le (Heap.lt_size e) I.ok.above))).trans (I.base.keep b o e n hb hx)
  ·obtain ⟨sl,e1⟩:=I.base.slot b o e n hb hx
   exact ⟨sl,(hs.2 b (Nat.ne_of_lt (Nat.lt_of_lt_of_le (Heap.lt_size e) I.ok.above))).trans e1⟩
  ·obtain ⟨o',e1⟩:=I.base.there b o e hx
   exact ⟨o',(hs.2 b (Nat.ne_of_lt (Nat.lt_of_lt_of_le (Heap.lt_size e) I.ok.above))).trans e1⟩
  ·by_cases hj:j=i
   ·subst hj
    rw [hi] at e1; cases e1;rw [List.getElem?_set_self hiσ] at e2
    cases e2;exact ⟨u,r,.inl ⟨hk,by simp⟩⟩
   ·rw [List.getElem?_set_ne (Ne.symm hj)] at e2
    obtain ⟨u',r',q⟩:=hl j y v' e1 e2 e3;refine ⟨u',r',?_⟩;rcases q with ⟨k,e⟩ | ⟨k,c,e,z⟩
    ·refine .inl ⟨k,?_⟩
     have:y≠x:=λ e=>hj (a5a hN e1 (e ▸ hi));simp [this,e]
    ·exact .inr ⟨k,c,e,z.sameBut hs (cne y c e)⟩
  ·obtain ⟨w',z⟩:=I.cell y c e
   exact ⟨w',z.sameBut hs (cne y c e)⟩
  ·obtain ⟨e,n,ne,nf,d⟩:=I.pin p hp
   exact ⟨(hs.2 p.1 ne).trans e,n,ne,nf,d⟩
 ·have hfn:X.fn x=true:=by
   rcases hf with z | z
   ·exact z
   ·rw [z] at hk; cases hk
  obtain ⟨c,hc⟩:=I.ok.has x (.inl hk);obtain ⟨w',z⟩:=I.cell x c hc;refine wpAny_storeName_cell I.ok.kind hk hc z (λ h' hc' hs=>?_);obtain ⟨oc,hoc,hocd⟩:=id z;refine h { s with heap:=h' } ⟨I.ok,I.os,I.bare,⟨λ b o e n hb hx=>?_,λ b o e n hb hx=>?_,I.base.free,λ b o e hx=>?_,I.base.tups,I.base.frzs,I.base.tbls⟩,⟨m,hn.sameBut hs (Ne.symm (cne x c hc)),λ j y v' e1 e2 e3=>?_⟩,λ y c' e=>?_,I.free,I.freeC,λ p hp=>?_,tracked ⟨oc,hoc,I.freeC x c hc⟩ hs,by simpa using I.len⟩ ⟨c,hs,.inr hc⟩
  ·exact (hs.2 b (Nat.ne_of_lt (Nat.lt_of_lt_of_le (Heap.lt_size e) (I.ok.cab x c hfn hc)))).trans (I.base.keep b o e n hb hx)
  ·obtain ⟨sl,e1⟩:=I.base.slot b o e n hb hx
   exact ⟨sl,(hs.2 b (Nat.ne_of_lt (Nat.lt_of_lt_of_le (Heap.lt_size e) (I.ok.cab x c hfn hc)))).trans e1⟩
  ·obtain ⟨o',e1⟩:=I.base.there b o e hx
   exact ⟨o',(hs.2 b (Nat.ne_of_lt (Nat.lt_of_lt_of_le (Heap.lt_size e) (I.ok.cab x c hfn hc)))).trans e1⟩
  ·by_cases hj:j=i
   ·subst hj
    rw [hi] at e1; cases e1;rw [List.getElem?_set_self hiσ] at e2
    cases e2;exact ⟨u,r,.inr ⟨.inl hk,c,hc,hc'⟩⟩
   ·rw [List.getElem?_set_ne (Ne.symm hj)] at e2
    obtain ⟨u',r',q⟩:=hl j y v' e1 e2 e3;refine ⟨u',r',?_⟩;rcases q with q | ⟨k,c',e,z'⟩
    ·exact .inl q
    ·refine .inr ⟨k,c',e,z'.sameBut hs ?_⟩
     rintro rfl;exact hj (a5a hN e1 (I.ok.inj _ _ _ e hc ▸ hi))
  ·by_cases hcc:c'=c
   ·subst hcc; exact ⟨_,hc'⟩
   ·obtain ⟨w2,z2⟩:=I.cell y c' e
    exact ⟨w2,z2.sameBut hs hcc⟩
  ·obtain ⟨e,n,ne,nf,d⟩:=I.pin p hp
   refine ⟨(hs.2 p.1 ?_).trans e,n,ne,nf,d⟩;intro q;rw [q,hoc] at e;have q':oc=p.2:=Option.some.inj e;exact d w' (by rw [<- q']; exact hocd)
theorem a0G {M:Model} {A:Around} {E:Value->Shared->Prop} {i:Nat} {x:Str} {v:V} {u:Value} {Q:Unit->Shared->Prop} (I:Inv X pins σ H s) (hN:X.N.Nodup) (hi:X.N[i]?=some x) (hx:Loc X.env.scope x) (r:RelV v u)
  (h:∀ s',Inv X pins (σ.set i (some v)) H s'->Q () s') (hf:X.fn x=true\/X.env.scope.names.lookup x=some .local:=by first | exact .inl rfl | exact .inr rfl | assumption):wpAny M A (storeName X.env x u) Q E s :=
 a0P I hN hi hx r (λ s' I' _=>h s' I') hf
theorem Inv.call' {s':Shared} {ch:List Addr} (I:Inv X pins σ H s) (ho:s'.os=s.os) (u:Un (frs X.stack) ch H H' s.heap s'.heap) (hok:HOk X.prog X.w H' s'.heap) (hg:AllBare s'.gens)
  (hch:∀ b∈ch,(b∈X.ex\/X.s₀.heap.objs.size<=b)/\b≠X.env.locals/\(∀ x c,X.env.cells.lookup x=some c->c≠b)/\∀ p∈X.pn++pins,p.1≠b):Inv X pins σ H' s':=by
 obtain ⟨h',g',d',t',o'⟩:=s';have e:o'=s.os:=ho;subst e;exact I.call (g':=g') (t':=t') (d':=d') u hok hg hch
end
abbrev XK:=Value->Option Addr->Hp->Prop
abbrev St:=List (Option V)
abbrev VK:=V->Hp->Prop
abbrev TE:=St->Hp->VK->Prop
abbrev TT:=St->Hp->(Bool->Hp->Prop)->Prop
abbrev TA:=St->Hp->(List V->Hp->Prop)->Prop
structure Ends where
 nx:St->Hp->Prop
 rt:VK
 bk:St->Hp->Prop:=λ _ _=>False
 ct:St->Hp->Prop:=λ _ _=>False
abbrev TS:=Ends->St->Hp->Prop
def EP (X:Cx) (pins:List (Addr×Obj)) (σ:St) (Q:VK) (u:Value) (s':Shared):Prop:=∃ v H',Inv X pins σ H' s'/\RelV v u/\Q v H'
def TP (X:Cx) (pins:List (Addr×Obj)) (σ:St) (Q:Bool->Hp->Prop) (b:Bool) (s':Shared):Prop:=∃ H',Inv X pins σ H' s'/\Q b H'
def AP (X:Cx) (pins:List (Addr×Obj)) (σ:St) (Q:List V->Hp->Prop) (us:List Value) (s':Shared):Prop:=∃ vs H',Inv X pins σ H' s'/\Vals vs us/\Q vs H'
def SP (X:Cx) (pins:List (Addr×Obj)) (D:Ends) (f:Flow) (s':Shared):Prop :=
 match f with
 | .next=>∃ σ' H',Inv X pins σ' H' s'/\D.nx σ' H'
 | .brk=>∃ σ' H',Inv X pins σ' H' s'/\D.bk σ' H'
 | .cont=>∃ σ' H',Inv X pins σ' H' s'/\D.ct σ' H'
 | .ret u=>∃ v σ' H',Inv X pins σ' H' s'/\RelV v u/\D.rt v H'
def PE (X:Cx) (e:Expr) (t:TE):Prop :=
 ∀ (pins:List (Addr×Obj)) (s:Shared) (σ:St) (H:Hp) (Q:VK),Inv X pins σ H s->t σ H Q->wpAny (model X.prog X.w) X.A (eval e X.env) (EP X pins σ Q) X.xe s
def PT (X:Cx) (e:Expr) (t:TT):Prop :=
 ∀ (pins:List (Addr×Obj)) (s:Shared) (σ:St) (H:Hp) (Q:Bool->Hp->Prop),Inv X pins σ H s->t σ H Q->wpAny (model X.prog X.w) X.A (isTrue e X.env (eval e X.env)) (TP X pins σ Q) X.xe s
def PW (X:Cx) (e:Expr) (t:TT):Prop :=
 ∀ (whole:Sem Value) (pins:List (Addr×Obj)) (s:Shared) (σ:St) (H:Hp) (Q:Bool->Hp->Prop),Inv X pins σ H s->t σ H Q->wpAny (model X.prog X.w) X.A (isTrue e X.env whole) (TP X pins σ Q) X.xe s
theorem PW.pt {X:Cx} {e:Expr} {t:TT} (h:PW X e t):PT X e t:=h _
def PA (X:Cx) (es:List Expr) (t:TA):Prop :=
 ∀ (pos:Pos) (pins:List (Addr×Obj)) (s:Shared) (σ:St) (H:Hp) (Q:List V->Hp->Prop),Inv X pins σ H s->t σ H Q->wpAny (model X.prog X.w) X.A (spliced (backTo pos (starEach es X.env))) (AP X pins σ Q) X.xe s
def PS (X:Cx) (st:Stmt) (t:TS):Prop :=
 ∀ (pins:List (Addr×Obj)) (s:Shared) (σ:St) (H:Hp) (D:Ends),Inv X pins σ H s->t D σ H->wpAny (model X.prog X.w) X.A (exec st X.env) (SP X pins D) X.xe s
def PSs (X:Cx) (st:List Stmt) (t:TS):Prop :=
 ∀ (pins:List (Addr×Obj)) (s:Shared) (σ:St) (H:Hp) (D:Ends),Inv X pins σ H s->t D σ H->wpAny (model X.prog X.w) X.A (execs st X.env) (SP X pins D) X.xe s
theorem C2 {α:Type} {t:Sem α} {Q Q':α->Shared->Prop} {M:Model} {A:Around} {E:Value->Shared->Prop} {s:Shared} (h:wpAny M A t Q E s) (hQ:∀ a s,Q a s->Q' a s):wpAny M A t Q' E s:=wpAny_mono h hQ λ _ _ x=>x
section
variable {X:Cx}
theorem bin {a b:Expr} {ta tb:TE} (ha:PE X a ta) (hb:PE X b tb) {pins:List (Addr×Obj)} {s:Shared} {σ:St} {H:Hp} {R:V->V->Hp->Prop} (I:Inv X pins σ H s) (h:ta σ H λ x H1=>tb σ H1 λ y H2=>R x y H2)
  {α:Type} {Q:α->Shared->Prop} {f:Value->Value->Sem α}
  (hf:∀ v u s2 x y H2,Inv X pins σ H2 s2->RelV x v->RelV y u->R x y H2->wpAny (model X.prog X.w) X.A (f v u) Q X.xe s2) :
  wpAny (model X.prog X.w) X.A (eval a X.env) (λ v s₁=>wpAny (model X.prog X.w) X.A (eval b X.env) (λ u s₂=>wpAny (model X.prog X.w) X.A (f v u) Q X.xe s₂) X.xe s₁) X.xe s:=by
 refine C2 (ha pins s σ H _ I h) λ v s1 ⟨x,H1,I1,r1,q1⟩=>?_;refine C2 (hb pins s1 σ H1 _ I1 q1) λ u s2 ⟨y,H2,I2,r2,q2⟩=>?_;exact hf v u s2 x y H2 I2 r1 r2 q2
def a7J (i:Nat):TE:=λ σ H Q=>∃ v,σ[i]?=some (some v)/\Q v H
def tC (v:V):TE:=λ _ H Q=>Q v H
theorem b2I {i:Nat} {x:Str} {pos:Pos} (hN:X.N[i]?=some x) (hv:Vis X.env.scope x) (hd:(x==("__debug__":Str))=false:=by decide) (hcd:(x==("__classdict__":Str))=false:=by decide):PE X (.Name x pos) (a7J i):=by
 intro pins s σ H Q I h;obtain ⟨v,e,h⟩:=h;obtain ⟨m,hn,hl⟩:=I.loc;obtain ⟨u,r,l⟩:=hl i x v hN e hv;have fin:EP X pins σ Q u s:=⟨v,H,I,r,h⟩;rcases l with ⟨hk,hm⟩ | ⟨hk,c,hc,hcell⟩
 ·exact wpAny_Name (wpAny_loadName_local I.ok.kind hk hn hm fin) hd
 ·rcases hk with hk | hk
  ·exact wpAny_Name (wpAny_loadName_cell I.ok.kind hk hc hcell fin) hd
  ·exact wpAny_Name (wpAny_loadName_free I.ok.kind hk hc hcell fin hcd) hd
theorem i3 {i j pos}:PE X (.Constant (.int i) j pos) (tC (.int i)):=λ _ _ _ H _ I h=>wpAny_Constant_int ⟨.int i,H,I.tok _,⟨_,rfl⟩,h⟩
theorem b4C {b j pos}:PE X (.Constant (.bool b) j pos) (tC (.bl b)):=λ _ _ _ H _ I h=>Constant_bool ⟨.bl b,H,I,rfl,h⟩
theorem N9 {j pos}:PE X (.Constant .none j pos) (tC .non):=λ _ _ _ H _ I h=>Constant_none ⟨.non,H,I,rfl,h⟩
theorem P8 {x j pos}:PE X (.Constant (.str x) j pos) (tC (.str x)):=λ _ _ _ H _ I h=>Calls.Constant_str ⟨.str x,H,I.tok _,⟨_,rfl⟩,h⟩
def Gl (X:Cx) (x:Str):Prop:=X.env.kindOf x=some .globalImplicit
theorem a1H {E:Value->Shared->Prop} {pins:List (Addr×Obj)} {s:Shared} {σ:St} {H:Hp} {x:Str} {u:Value} {pos:Pos} {Q:Value->Shared->Prop} (I:Inv X pins σ H s) (hg:Gl X x) (hm:X.mg x=some u) (h:Q u s)
  (hd:(x==("__debug__":Str))=false:=by decide):wpAny (model X.prog X.w) X.A (eval (.Name x pos) X.env) Q E s :=
 Calls.Name_function_global I.ok.kind hg (Calls.loadGlobal_global (by rw [I.ok.glob]; exact I.mod.glob.keeps I.bk) hm h) hd
theorem T9 {E:Value->Shared->Prop} {pins:List (Addr×Obj)} {s:Shared} {σ:St} {H:Hp} {x:Str} {u:Value} {pos:Pos} {Q:Value->Shared->Prop} (I:Inv X pins σ H s) (hg:Gl X x) (hm:X.mg x=none) (hv:bootBuiltins x=some u) (h:Q u s)
  (hn:x≠"__name__":=by decide) (hd:(x==("__debug__":Str))=false:=by decide):wpAny (model X.prog X.w) X.A (eval (.Name x pos) X.env) Q E s:=by
 obtain ⟨mb,h1,h2⟩:=I.mod.blt;exact Calls.Name_function_global I.ok.kind hg (Calls.loadGlobal_builtin (by rw [I.ok.glob]; exact I.mod.glob.keeps I.bk) hm (by rw [I.ok.blt]; exact h1.keeps I.bk) ((h2 x hn).trans hv) h) hd
theorem a1I {x:Str} {v:V} {u:Value} {pos:Pos} (hg:Gl X x) (hm:X.mg x=some u) (r:RelV v u) (hd:(x==("__debug__":Str))=false:=by decide):PE X (.Name x pos) (tC v) :=
 λ _ _ _ H _ I h=>a1H I hg hm ⟨v,H,I,r,h⟩ hd
variable {a b:Expr} {ta tb:TE} {pos:Pos}
def tB (t:TE):TT:=λ σ H Q=>t σ H λ x H1=>∃ c,x=.bl c/\Q c H1
theorem a5O {e:Expr} {t:TE} (h:PE X e t) (he:∀ whole,isTrue e X.env whole=(do let v <- whole; standAt e.pos; holding [v] (truthy v)):=by intro _; rfl):PT X e (tB t):=by
 intro pins s σ H Q I hw;refine isTrue_plain (C2 (h pins s σ H _ I hw) λ v s1 ⟨x,H1,I1,r1,q1⟩=>?_) (he _);obtain ⟨d,rfl,q⟩:=q1
 cases r1;exact wpAny_truthy_bool ⟨H1,I1,q⟩
variable {tA tB':TT} {rest:List Expr}
def b6l (t u:TT):TT:=λ σ H Q=>t σ H λ c H1=>if c=true then u σ H1 Q else Q false H1
def tOr (t u:TT):TT:=λ σ H Q=>t σ H λ c H1=>if c=true then Q true H1 else u σ H1 Q
def b5I (t:TT):TT:=λ σ H Q=>t σ H λ c H1=>Q (!c) H1
theorem a3s (ha:PT X a tA):PW X (.BoolOp .And [a] pos) tA:=by
 intro wh pins s σ H Q I h;refine isTrue_and (C2 (ha pins s σ H Q I h) λ c s1 e=>?_)
 cases c with
 | true=>exact isTrue_and_nil e
 | false=>exact e
theorem a9N (ha:PT X a tA):PW X (.BoolOp .Or [a] pos) tA:=by
 intro wh pins s σ H Q I h;refine isTrue_or (C2 (ha pins s σ H Q I h) λ c s1 e=>?_)
 cases c with
 | false=>exact isTrue_or_nil e
 | true=>exact e
theorem a5V (ha:PT X a tA) (hb:PW X (.BoolOp .And (b::rest) pos) tB'):PW X (.BoolOp .And (a::b::rest) pos) (b6l tA tB'):=by
 intro wh pins s σ H Q I h;refine isTrue_and (C2 (ha pins s σ H _ I h) λ c s1 ⟨H1,I1,q1⟩=>?_)
 cases c with
 | true=>exact hb wh pins s1 σ H1 Q I1 q1
 | false=>exact ⟨H1,I1,q1⟩
theorem b1R (ha:PT X a tA) (hb:PW X (.BoolOp .Or (b::rest) pos) tB'):PW X (.BoolOp .Or (a::b::rest) pos) (tOr tA tB'):=by
 intro wh pins s σ H Q I h;refine isTrue_or (C2 (ha pins s σ H _ I h) λ c s1 ⟨H1,I1,q1⟩=>?_)
 cases c with
 | true=>exact ⟨H1,I1,q1⟩
 | false=>exact hb wh pins s1 σ H1 Q I1 q1
theorem b3r (ha:PT X a tA):PT X (.UnaryOp .Not a pos) (b5I tA):=by
 intro pins s σ H Q I h;exact isTrue_not (ha pins s σ H (λ c H1=>Q (!c) H1) I h)
def tIf (t:TT) (ta tb:TE):TE:=λ σ H Q=>t σ H λ c H1=>if c=true then ta σ H1 Q else tb σ H1 Q
theorem a9P {c:Expr} (hc:PT X c tA) (ha:PE X a ta) (hb:PE X b tb):PE X (.IfExp c a b pos) (tIf tA ta tb):=by
 intro pins s σ H Q I h;refine wpAny_IfExp (C2 (hc pins s σ H _ I h) λ d s1 ⟨H1,I1,q1⟩=>?_)
 cases d with
 | true=>exact ha pins s1 σ H1 Q I1 q1
 | false=>exact hb pins s1 σ H1 Q I1 q1
end
def SqL (K:W.Frag) (H:Hp) (a:Addr) (xs:List V):Prop :=
 Rd H a (.lst xs) ∨
  ∃ (o:Obj) (its:Array Value) (n:Nat),K.lookup a=some o/\o.cls=.type "list"/\o.dict=none/\o.data=.seq its n/\its.size<=sizeLine/\Vals xs its.toList
def SqT (K:W.Frag) (H:Hp) (a:Addr) (xs:List V):Prop :=
 Rd H a (.tup xs) ∨
  ∃ (o:Obj) (its:Array Value) (n:Nat),K.lookup a=some o/\o.cls=.type "tuple"/\o.data=.seq its n/\its.size<=sizeLine/\Vals xs its.toList
def b5W:Value->Option V
 | .none=>some .non
 | .bool b=>some (.bl b)
 | .int i _=>some (.int i)
 | .str x _=>some (.str x)
 | .bytes b _=>some (.byt b)
 | .float b _=>some (.flt b)
 | .ref a=>some (.ref a)
 | .type n=>some (.ty n)
 | _=>none
theorem RelV.abs {x:V} {u:Value} (r:RelV x u):b5W u=some x:=by
 cases x with
 | non=>cases r; rfl
 | bl _=>cases r; rfl
 | int _=>obtain ⟨t,rfl⟩:=r; rfl
 | str _=>obtain ⟨t,rfl⟩:=r; rfl
 | byt _=>obtain ⟨t,rfl⟩:=r; rfl
 | flt _=>obtain ⟨t,rfl⟩:=r; rfl
 | ref _=>cases r; rfl
 | ty _=>cases r; rfl
theorem RelV.inj {x y:V} {u:Value} (r:RelV x u) (q:RelV y u):x=y:=Option.some.inj (r.abs.symm.trans q.abs)
theorem Vals.inj:∀ {xs ys:List V} {us:List Value},Vals xs us->Vals ys us->xs=ys
 | _,_,_,.nil,.nil=>rfl
 | _,_,_,.cons r t,.cons r' t'=>by rw [r.inj r',Vals.inj t t']
section
variable {X:Cx} {pins:List (Addr×Obj)} {σ:St} {H:Hp} {s:Shared} {a:Addr} {xs ys:List V}
theorem SqL.of {K:W.Frag} (h:H a=some (.lst xs)):SqL K H a xs:=.inl (.inl h)
theorem SqT.of {K:W.Frag} (h:H a=some (.tup xs)):SqT K H a xs:=.inl (.inl h)
theorem Inv.list (I:Inv X pins σ H s) (h:SqL X.K H a xs):∃ its:List Value,Vals xs its/\PlainL s.heap a its.toArray/\xs.length<=sizeLine:=by
 rcases h with h | ⟨o,its,n,hk,hc,hd,hs,hz,r⟩
 ·obtain ⟨z,its,n,r,e⟩:=h.ok I.hok
  exact ⟨its,r,⟨_,n,e,rfl,rfl,rfl⟩,z⟩
 ·refine ⟨its.toList,r,⟨o,n,I.kIn a o hk,hc,hd,by simpa using hs⟩,?_⟩
  have e:=r.length;simp only [Array.length_toList] at e;omega
theorem Inv.tuple (I:Inv X pins σ H s) (h:SqT X.K H a xs):∃ its:List Value,Vals xs its/\IsTup s.heap a its.toArray/\xs.length<=sizeLine:=by
 rcases h with h | ⟨o,its,n,hk,hc,hs,hz,r⟩
 ·obtain ⟨z,its,r,p⟩:=h.ok I.hok
  exact ⟨its,r,p,z⟩
 ·refine ⟨its.toList,r,⟨o,I.kIn a o hk,hc,n,by simpa using hs⟩,?_⟩
  have e:=r.length;simp only [Array.length_toList] at e;omega
theorem Inv.list_inj (I:Inv X pins σ H s) (h:SqL X.K H a xs) (h':SqL X.K H a ys):xs=ys:=by
 obtain ⟨its,r,⟨o,n,e,_,_,d⟩,_⟩:=I.list h;obtain ⟨its',r',⟨o',n',e',_,_,d'⟩,_⟩:=I.list h';rw [e] at e'; cases e';rw [d] at d';injection d' with d1 _
 have:its=its':=by simpa using congrArg Array.toList d1
 subst this;exact r.inj r'
theorem Inv.tuple_inj (I:Inv X pins σ H s) (h:SqT X.K H a xs) (h':SqT X.K H a ys):xs=ys:=by
 obtain ⟨its,r,⟨o,e,_,n,d⟩,_⟩:=I.tuple h;obtain ⟨its',r',⟨o',e',_,n',d'⟩,_⟩:=I.tuple h';rw [e] at e'; cases e';rw [d] at d';injection d' with d1 _
 have:its=its':=by simpa using congrArg Array.toList d1
 subst this;exact r.inj r'
end
abbrev Cx.wish (X:Cx) (E:Value->Shared->Prop):Cx:={ X with xe:=E }
abbrev Cx.nox (X:Cx):Cx:=X.wish λ _ _=>False
theorem Cx.Ok.wish {X:Cx} (ok:X.Ok) (E:Value->Shared->Prop):(X.wish E).Ok :=
 ⟨ok.mod,ok.kind,ok.glob,ok.blt,ok.above,ok.inj,ok.has,ok.cab,ok.hd,ok.frames,ok.stk,ok.exf,ok.bs,ok.bsz,ok.noex,ok.exfs,ok.funs,ok.frf⟩
theorem Cx.Ok.unwish {X:Cx} {E:Value->Shared->Prop} (ok:(X.wish E).Ok):X.Ok :=
 ⟨ok.mod,ok.kind,ok.glob,ok.blt,ok.above,ok.inj,ok.has,ok.cab,ok.hd,ok.frames,ok.stk,ok.exf,ok.bs,ok.bsz,ok.noex,ok.exfs,ok.funs,ok.frf⟩
section
variable {X:Cx} {pins:List (Addr×Obj)} {σ:St} {H:Hp} {s:Shared} {E:Value->Shared->Prop}
theorem Inv.wish (I:Inv X pins σ H s) (E:Value->Shared->Prop):Inv (X.wish E) pins σ H s:=⟨I.ok.wish E,I.os,I.bare,I.base,I.loc,I.cell,I.free,I.freeC,I.pin,I.hok,I.len⟩
theorem Inv.unwish (I:Inv (X.wish E) pins σ H s):Inv X pins σ H s:=⟨I.ok.unwish,I.os,I.bare,I.base,I.loc,I.cell,I.free,I.freeC,I.pin,I.hok,I.len⟩
theorem SP.unwish {D:Ends} {f:Flow} {s':Shared} (h:SP (X.wish E) pins D f s'):SP X pins D f s':=by
 cases f with
 | next=>obtain ⟨σ',H',I,q⟩:=h; exact ⟨σ',H',I.unwish,q⟩
 | brk=>obtain ⟨σ',H',I,q⟩:=h; exact ⟨σ',H',I.unwish,q⟩
 | cont=>obtain ⟨σ',H',I,q⟩:=h; exact ⟨σ',H',I.unwish,q⟩
 | ret u=>obtain ⟨v,σ',H',I,r,q⟩:=h; exact ⟨v,σ',H',I.unwish,r,q⟩
theorem PSs.nox {st:List Stmt} {t:TS} (h:PSs X.nox st t):PSs X st t:=λ pins s σ H D I hw =>
 wpAny_mono (h pins s σ H D (I.wish _) hw) (λ _ _ q=>q.unwish) λ _ _ z=>False.elim z
end
section
variable {X:Cx} {st:Stmt} {rest:List Stmt} {t u:TS} {e:Expr} {te:TE} {pos:Pos}
def b4M:TS:=λ D σ H=>D.nx σ H
def b5B (t u:TS):TS:=λ D σ H=>t { D with nx:=u D } σ H
theorem t7:PSs X [] b4M:=λ _ _ σ H _ I h=>wpAny_execs_nil ⟨σ,H,I,h⟩
theorem i4 (h1:PS X st t) (h2:PSs X rest u):PSs X (st::rest) (b5B t u):=by
 intro pins s σ H D I h;refine wpAny_execs_cons (C2 (h1 pins s σ H { D with nx:=u D } I h) λ f s1 q=>?_)
 cases f with
 | next =>
  obtain ⟨σ',H',I',q⟩:=q;exact h2 pins s1 σ' H' D I' q
 | ret v=>exact q
 | brk=>exact q
 | cont=>exact q
theorem i6 (h1:PS X st t):PSs X [st] t:=by
 intro pins s σ H D I h;refine wpAny_execs_cons (C2 (h1 pins s σ H D I h) λ f s1 q=>?_)
 cases f with
 | next=>exact wpAny_execs_nil q
 | ret v=>exact q
 | brk=>exact q
 | cont=>exact q
theorem Inv.quiet {pins:List (Addr×Obj)} {σ:St} {H:Hp} {s:Shared} (I:Inv X pins σ H s):interactive X.env=false:=by simp [interactive,I.ok.kind]
def b4i (te:TE):TS:=λ D σ H=>te σ H λ _ H1=>D.nx σ H1
theorem Q8 (he:PE X e te) (hs:swapsWith e none pos.line X.env=pure false:=by rfl):PS X (.Expr e pos) (b4i te):=by
 intro pins s σ H D I h;exact wpAny_Expr_any (C2 (he pins s σ H _ I h) λ v s1 ⟨x,H1,I1,r1,q1⟩=>⟨σ,H1,I1,q1⟩) I.quiet hs
def b5Y (te:TE):TS:=λ D σ H=>te σ H D.rt
theorem r9 (he:PE X e te):PS X (.Return (some e) pos) (b5Y te):=by
 intro pins s σ H D I h;exact wpAny_Return_some (C2 (he pins s σ H _ I h) λ v s1 ⟨x,H1,I1,r1,q1⟩=>⟨x,σ,H1,I1,r1,q1⟩)
def b5P (c:TT) (t u:TS):TS:=λ D σ H=>c σ H λ b H1=>if b=true then t D σ H1 else u D σ H1
theorem A6 {c:Expr} {a b:List Stmt} {tc:TT} (hc:PT X c tc) (ha:PSs X a t) (hb:PSs X b u):PS X (.If c a b pos) (b5P tc t u):=by
 intro pins s σ H D I h;refine wpAny_If (C2 (hc pins s σ H _ I h) λ d s1 ⟨H1,I1,q1⟩=>?_)
 cases d with
 | true=>exact ha pins s1 σ H1 D I1 q1
 | false=>exact hb pins s1 σ H1 D I1 q1
def b3M:TS:=λ _ _ _=>False
theorem a2J {sts:List Stmt}:PSs X sts b3M:=λ _ _ _ _ _ _ h=>h.elim
end
abbrev TG:=V->St->Hp->(St->Hp->Prop)->Prop
abbrev TGs:=List V->St->Hp->(St->Hp->Prop)->Prop
def PG (X:Cx) (target:Expr) (t:TG):Prop :=
 ∀ (pins:List (Addr×Obj)) (s:Shared) (σ:St) (H:Hp) (v:V) (u:Value) (Q:St->Hp->Prop),Inv X pins σ H s->RelV v u->t v σ H Q →
  wpAny (model X.prog X.w) X.A (assign target X.env u) (λ _ s'=>∃ σ' H',Inv X pins σ' H' s'/\Q σ' H') X.xe s
def PGs (X:Cx) (ts:List Expr) (t:TGs):Prop :=
 ∀ (pins:List (Addr×Obj)) (s:Shared) (σ:St) (H:Hp) (vs:List V) (us:List Value) (Q:St->Hp->Prop),Inv X pins σ H s->Vals vs us->t vs σ H Q →
  wpAny (model X.prog X.w) X.A (assignInOrder ((assignEach ts X.env).map (·.2)) us) (λ _ s'=>∃ σ' H',Inv X pins σ' H' s'/\Q σ' H') X.xe s
abbrev b2G:=V->V->V->Hp->(Hp->Prop)->Prop
def b4m (X:Cx) (t:b2G):Prop :=
 ∀ (pins:List (Addr×Obj)) (s:Shared) (σ:St) (H:Hp) (o i v:V) (ov iv u:Value) (Q:Hp->Prop),Inv X pins σ H s->RelV o ov->RelV i iv->RelV v u->t o i v H Q →
  wpAny (model X.prog X.w) X.A (setItem ov iv u) (λ _ s'=>∃ H',Inv X pins σ H' s'/\Q H') X.xe s
section
variable {X:Cx} {pos:Pos}
def J6 (i:Nat):TG:=λ v σ H Q=>Q (σ.set i (some v)) H
theorem i9 {i:Nat} {x:Str} (hN:X.N.Nodup) (hi:X.N[i]?=some x) (hx:Loc X.env.scope x) (hf:X.fn x=true\/X.env.scope.names.lookup x=some .local:=by first | exact .inl rfl | exact .inr rfl | assumption):PG X (.Name x pos) (J6 i):=by
 intro pins s σ H v u Q I r h;exact wpAny_assign_Name (a0G I hN hi hx r (λ s' I'=>⟨_,H,I',h⟩) hf)
def a8a:TGs:=λ vs σ H Q=>vs=[]/\Q σ H
def V4 (t:TG) (u:TGs):TGs:=λ vs σ H Q=>∃ v r,vs=v::r/\t v σ H λ σ' H'=>u r σ' H' Q
theorem A8:PGs X [] a8a:=by
 intro pins s σ H vs us Q I r h;obtain ⟨e,h⟩:=h;subst e
 cases r;exact assignInOrder_nil ⟨σ,H,I,h⟩
theorem j8 {e:Expr} {es:List Expr} {t:TG} {u:TGs} (h1:PG X e t) (h2:PGs X es u)
  (hs:(assignEach (e::es) X.env).map (·.2)=assign e X.env::(assignEach es X.env).map (·.2):=by rfl):PGs X (e::es) (V4 t u):=by
 intro pins s σ H vs us Q I r h;obtain ⟨v,vr,e1,h⟩:=h;subst e1
 cases r with
 | cons r rr =>
  rw [hs];refine assignInOrder_cons (C2 (h1 pins s σ H _ _ _ I r h) λ _ s1 ⟨σ1,H1,I1,q1⟩=>?_);exact h2 pins s1 σ1 H1 _ _ Q I1 rr q1
def a5x (K:W.Frag) (n:Nat) (t:TGs):TG:=λ v σ H Q=>∃ a xs,v=.ref a/\SqT K H a xs/\xs.length=n/\t xs σ H Q
theorem a0e {es:List Expr} {k:Nat} {t:TGs} {n:Nat} (hc:X.calm=true) (h:PGs X es t)
  (hn:(assignEach es X.env).length=n:=by rfl) (hst:(assignEach es X.env).findIdx? (·.1)=none:=by rfl):PG X (.Tuple es k pos) (a5x X.K n t):=by
 intro pins s σ H v u Q I r hw;obtain ⟨a,xs,e1,hq,hl,hw⟩:=hw;subst e1
 cases r;obtain ⟨its,rv,ht,hz⟩:=I.tuple hq;refine assign_Tuple_tuple (I.ok.hd hc) ht (by simp [hn,<- hl,rv.length]) hst λ h' hx=>?_;have I1:Inv X pins σ H { s with heap:=h' }:=I.kept (t':=s.toks) λ b o e=>hx b o (Nat.ne_of_lt (Heap.lt_size e)) e;exact h pins _ σ H xs _ Q I1 (by simpa using rv) hw
def b5K (to ti:TE) (t:b2G):TG:=λ v σ H Q=>to σ H λ o H1=>ti σ H1 λ i H2=>t o i v H2 λ H3=>Q σ H3
theorem R0 {o i:Expr} {to ti:TE} {t:b2G} (ho:PE X o to) (hi:PE X i ti) (hs:b4m X t)
  (ha:∀ v,assign (.Subscript o i pos) X.env v=(do
   let ov <- holding [v] (eval o X.env)
   let iv <- holding [v,ov] (eval i X.env)
   standAt pos
   holding [v,ov,iv] (setItem ov iv v)
   release [v,ov,iv] []):=by intro _; rfl):PG X (.Subscript o i pos) (b5K to ti t):=by
 intro pins s σ H v u Q I r h;rw [ha];refine wpAny_bind (wpAny_holding (C2 (ho pins s σ H _ I h) λ ov s1 ⟨x,H1,I1,r1,q1⟩=>?_));refine wpAny_bind (wpAny_holding (C2 (hi pins s1 σ H1 _ I1 q1) λ iv s2 ⟨y,H2,I2,r2,q2⟩=>?_));refine wpAny_bind (wpAny_standAt (wpAny_bind (wpAny_holding (C2 (hs pins s2 σ H2 x y v ov iv u _ I2 r1 r2 r q2) λ _ s3 ⟨H3,I3,q3⟩=>?_))));exact wpAny_release ⟨σ,H3,I3,q3⟩
def a7O (te:TE) (g:TG):TS:=λ D σ H=>te σ H λ x H1=>g x σ H1 D.nx
theorem J9 {tg e:Expr} {te:TE} {g:TG} (he:PE X e te) (hg:PG X tg g) (hs:swapsWithSole [tg] e pos.line X.env=pure false:=by rfl) (hw:swappedStores [tg] e X.env=pure none:=by rfl)
  (h1:(assignEach [tg] X.env).map (·.2)=[assign tg X.env]:=by rfl):PS X (.Assign [tg] e pos) (a7O te g):=by
 intro pins s σ H D I h;refine wpAny_Assign_stores (C2 (he pins s σ H _ I h) λ v s1 ⟨x,H1,I1,r1,q1⟩=>?_) hs hw;rw [h1];exact C2 (hg pins s1 σ H1 x v _ I1 r1 q1) λ _ s2 q=>q
theorem j4 {i:Nat} {x:Str} {e:Expr} {te:TE} {pos':Pos} (hN:X.N.Nodup) (hi:X.N[i]?=some x) (hx:Loc X.env.scope x) (he:PE X e te) (hs:swapsWith e (some (.Name x pos')) pos.line X.env=pure false:=by rfl) (hf:X.fn x=true\/X.env.scope.names.lookup x=some .local:=by first | exact .inl rfl | exact .inr rfl | assumption) :
  PS X (.Assign [.Name x pos'] e pos) (a7O te (J6 i)):=by
 intro pins s σ H D I h;refine wpAny_Assign_Name (C2 (he pins s σ H _ I h) λ v s1 ⟨y,H1,I1,r1,q1⟩=>?_) hs;exact a0G I1 hN hi hx r1 (λ s2 I2=>⟨_,H1,I2,q1⟩) hf
def b6i (i j:Nat) (ta:TA):TS:=λ D σ H=>ta σ H λ vs H1=>∃ v w,vs=[v,w]/\D.nx ((σ.set i (some v)).set j (some w)) H1
theorem b3I {i j:Nat} {x y:Str} {a b:Expr} {ta:TA} {px py pt:Pos} {kt k2 pt2} (hc:X.calm=true) (hN:X.N.Nodup) (hi:X.N[i]?=some x) (hj:X.N[j]?=some y) (hij:i≠j)
  (hx:X.env.scope.names.lookup x=some .local) (hy:X.env.scope.names.lookup y=some .local) (ha:PA X [a,b] ta)
  (hw:swappedStores [.Tuple [.Name x px,.Name y py] kt pt] (.Tuple [a,b] k2 pt2) X.env=pure (some [x,y]))
  (hs:swapsWithSole [.Tuple [.Name x px,.Name y py] kt pt] (.Tuple [a,b] k2 pt2) pos.line X.env=pure false:=by rfl) :
  PS X (.Assign [.Tuple [.Name x px,.Name y py] kt pt] (.Tuple [a,b] k2 pt2) pos) (b6i i j ta):=by
 intro pins s σ H D I h;rw [exec_Assign_arm];refine wpAny_bind (wpAny_standAt ?_);rw [hs];refine wpAny_bind (wpAny_pure ?_);rw [if_neg (by decide)];refine wpAny_bind (Tuple_ (C2 (ha _ pins s σ H _ I h) λ us s1 ⟨vs,H1,I1,r1,q1⟩=>?_));obtain ⟨v,w,e1,q1⟩:=q1;subst e1;obtain ⟨u1,u2,rfl,rv,rw'⟩:∃ u1 u2,us=[u1,u2]/\RelV v u1/\RelV w u2:=by
  cases r1 with
  | cons p q =>
   cases q with
   | cons p' q' =>
    cases q';exact ⟨_,_,rfl,p,p'⟩
 refine wpAny_newObj_type ?_ (by show 2<=sizeLine; decide);have I2:Inv X pins σ H1 { s1 with heap:=s1.heap.push { cls:=.type "tuple",data:=.seq [u1,u2].toArray } }:=I1.kept (t':=s1.toks) λ b o e=>Heap.get?_push_of_some _ e;rw [hw];refine wpAny_bind (wpAny_pure ?_)
 show wpAny (model X.prog X.w) X.A (do rule "assign.swapped-stores"; let items <- unpackItems (.ref s1.heap.objs.size) 2 none; assignInOrder [λ v=>bindName X.env y v,λ v=>bindName X.env x v] items.reverse; pure Flow.next) _ _ _
 refine wpAny_bind (wpAny_rule (wpAny_bind (unpackItems_tuple (items:=#[u1,u2]) (I.ok.hd hc) (IsTup.new s1.heap _) λ h' hx'=>?_)));have I3:=I2.kept (h':=h') (t':=s1.toks) λ b o e=>hx' b o (Nat.ne_of_lt (Heap.lt_size e)) e
 show wpAny _ _ (assignInOrder [λ v=>bindName X.env y v,λ v=>bindName X.env x v] [u2,u1] >>= λ _=>pure Flow.next) _ _ _
 refine wpAny_bind (assignInOrder_cons (wpAny_bindName (a0G I3 hN hj (.inl hy) rw' (λ s2 I4=>?_) (.inr hy))));refine assignInOrder_cons (wpAny_bindName (a0G I4 hN hi (.inl hx) rv (λ s3 I5=>assignInOrder_nil (wpAny_pure ?_)) (.inr hx)));rw [List.set_comm _ _ (Ne.symm hij)] at I5;exact ⟨_,H1,I5,q1⟩
end
section
variable {X:Cx} {pos:Pos}
def a9u (c:TT) (tb:TS):TS:=λ D σ H=>∃ W:Nat->St->Hp->Prop,(∃ m,W m σ H)/\∀ m σ H,W m σ H →
 c σ H λ b H1=>if b=true then ∃ N:St->Hp->Prop,(∀ σ' H',N σ' H'->∃ m',m'<m/\W m' σ' H')/\tb { D with nx:=N,ct:=N,bk:=D.nx } σ H1 else D.nx σ H1
theorem a2v {c:Expr} {body:List Stmt} {tc:TT} {tb:TS} (hp:PassesOwn (model X.prog X.w) X.A X.env X.xe) (hc:PT X c tc) (hb:PSs X body tb):PS X (.While c body [] pos) (a9u tc tb):=by
 intro pins s σ H D I h;obtain ⟨W,⟨m0,w0⟩,turn⟩:=h;refine wpAny_While (codeAny_whileLoop (λ n s'=>∃ σ' H',Inv X pins σ' H' s'/\W n σ' H') ?_ m0 ⟨σ,H,I,w0⟩);rintro n s1 ⟨σ1,H1,I1,w1⟩;refine wpAny_passesOwn hp (C2 (hc pins s1 σ1 H1 _ I1 (turn n σ1 H1 w1)) λ b s2 ⟨H2,I2,q2⟩=>?_)
 cases b with
 | true =>
  obtain ⟨N,hN,q2⟩:=q2;rw [if_pos rfl];refine wpAny_passesOwn hp (C2 (hb pins s2 σ1 H2 _ I2 q2) λ f s3 q3=>?_)
  cases f with
  | next =>
   obtain ⟨σ3,H3,I3,n3⟩:=q3;obtain ⟨m',hm,w3⟩:=hN σ3 H3 n3;exact ⟨m',hm,σ3,H3,I3,w3⟩
  | cont =>
   obtain ⟨σ3,H3,I3,n3⟩:=q3;obtain ⟨m',hm,w3⟩:=hN σ3 H3 n3;exact ⟨m',hm,σ3,H3,I3,w3⟩
  | brk=>exact q3
  | ret v=>exact q3
 | false =>
  rw [if_neg Bool.false_ne_true];exact wpAny_execs_nil ⟨σ1,H2,I2,q2⟩
end
structure It where
 go:Nat->Hp->Prop
 yld:Nat->Hp->V->Hp->Prop
 stop:Nat->Hp->Prop
def V2 (X:Cx) (pins:List (Addr×Obj)) (H:Hp) (b:Addr):Prop :=
 H b=none/\b≠X.env.locals/\b ∉ X.fs/\(b∈X.ex\/X.s₀.heap.objs.size<=b)/\(∀ x c,X.env.cells.lookup x=some c->c≠b)/\∀ p∈X.pn++pins,p.1≠b
theorem Inv.fpOk {X:Cx} {pins:List (Addr×Obj)} {σ:St} {H H':Hp} {s:Shared} {b:Addr} (I:Inv X pins σ H s) (hb:s.heap.objs.size<=b) (hn:H' b=none):V2 X pins H' b:=by
 refine ⟨hn,Nat.ne_of_gt (Nat.lt_of_lt_of_le I.lt hb),I.nofs hb,.inr (Nat.le_trans I.sz hb),λ x c e z=>?_,λ p hp z=>?_⟩
 ·obtain ⟨v,q⟩:=I.cell x c e
  exact absurd (Nat.lt_of_lt_of_le q.lt (by rw [z]; exact hb)) (Nat.lt_irrefl _)
 ·exact absurd (Nat.lt_of_lt_of_le (Heap.lt_size (I.pin p hp).1) (by rw [z]; exact hb)) (Nat.lt_irrefl _)
structure a7A (P:Program) (w:World) (K:W.Frag) (tg:Expr) (J:It) (fp:List Addr) (it:Addr) (tn:Nat->Heap->Prop):Prop where
 mem:it∈fp
 obj:∀ i h,tn i h->∀ b∈fp,∃ o,h.get? b=some o/\∀ v,o.data≠.cell v
 keep:∀ i h h',tn i h->(∀ b∈fp,∀ o,h.get? b=some o->h'.get? b=some o)->tn i h'
 item:∀ (X:Cx),X.prog=P->X.w=w->X.K=K->X.calm=true->∀ (i:Nat) (pins:List (Addr×Obj)) (s:Shared) (σ:St) (H:Hp) (E:Value->Shared->Prop),Inv X pins σ H s->(∀ b∈fp,V2 X pins H b)->tn i s.heap->J.go i H →
  wpAny (model P w) X.A (pyNext (.ref it)) (λ r s1=>∃ u,r=some u ∧
   wpAny (model P w) X.A (letOwnedTupleGo tg (.ref it) u) (λ _ s2=>∃ x H',Inv X pins σ H' s2/\RelV x u/\J.yld i H x H'/\tn (i+1) s2.heap/\∀ b∈fp,H' b=none) E s1) E s
 done:∀ (X:Cx),X.prog=P->X.w=w->X.K=K->X.calm=true->∀ (i:Nat) (pins:List (Addr×Obj)) (s:Shared) (σ:St) (H:Hp) (E:Value->Shared->Prop),Inv X pins σ H s->(∀ b∈fp,V2 X pins H b)->tn i s.heap->J.stop i H →
  wpAny (model P w) X.A (pyNext (.ref it)) (λ r s1=>r=none/\Inv X pins σ H s1) E s
 self:∀ (A:Around) (i:Nat) (s:Shared) (Q:Value->Shared->Prop) (E:Value->Shared->Prop),tn i s.heap->Q (.ref it) s->wpAny (model P w) A (pyIter (.ref it)) Q E s
abbrev TI:=St->Hp->(It->Hp->Prop)->Prop
def PIE (X:Cx) (pins:List (Addr×Obj)) (σ:St) (tg:Expr) (R:It->Hp->Prop) (itv:Value) (s2:Shared):Prop :=
 ∃ (it:Addr) (fp:List Addr) (tn:Nat->Heap->Prop) (J:It) (H':Hp),itv=.ref it/\Inv X pins σ H' s2/\a7A X.prog X.w X.K tg J fp it tn/\tn 0 s2.heap/\(∀ b∈fp,V2 X pins H' b)/\R J H'
def PI (X:Cx) (tg iter:Expr) (wi:TI):Prop :=
 ∀ (pins:List (Addr×Obj)) (s:Shared) (σ:St) (H:Hp) (R:It->Hp->Prop),Inv X pins σ H s->wi σ H R →
  wpAny (model X.prog X.w) X.A (eval iter X.env) (λ v s1=>wpAny (model X.prog X.w) X.A (pyIter v) (PIE X pins σ tg R) X.xe s1) X.xe s
theorem a9C {M:Model} {A:Around} {E:Value->Shared->Prop} {s:Shared} {tg:Expr} {it:Addr} {u:Value} {o:Obj} {n:String} {vs:Array Value} {Q:Unit->Shared->Prop} (ho:s.heap.get? it=some o) (hc:o.cls=.type n) (hd:o.data=.fields vs)
    (hn:["enumerate","zip","dict_itemiterator","dict_reverseitemiterator","odict_iterator","itertools.zip_longest","itertools.pairwise"].contains n=false) (hQ:Q () s):wpAny M A (letOwnedTupleGo tg (.ref it) u) Q E s:=by
  unfold letOwnedTupleGo
  cases tg <;> first
    | exact wpAny_pure hQ
    | (cases u <;> first
        | exact wpAny_pure hQ
        | (refine wpAny_bind (wpAny_load ho ?_)
           rw [hc,hd]
           show wpAny M A (if (["enumerate","zip","dict_itemiterator","dict_reverseitemiterator","odict_iterator","itertools.zip_longest","itertools.pairwise"].contains n&&vs[0]?==some (rawInt _))=true then _ else _) Q E s
           rw [if_neg (by intro h; rw [hn,Bool.false_and] at h; cases h)];exact wpAny_pure hQ))
def Itl (K:W.Frag) (a:Addr):It :=
 ⟨λ i H=>∃ xs x,SqL K H a xs/\xs[i]?=some x,λ i H x H'=>H'=H/\∀ xs,SqL K H a xs->xs[i]?=some x,λ i H=>∃ xs,SqL K H a xs/\xs.length<=i⟩
def Itt (K:W.Frag) (a:Addr):It :=
 ⟨λ i H=>∃ xs x,SqT K H a xs/\xs[i]?=some x,λ i H x H'=>H'=H/\∀ xs,SqT K H a xs->xs[i]?=some x,λ i H=>∃ xs,SqT K H a xs/\xs.length<=i⟩
def Itr (lo:Int) (n:Nat):It:=⟨λ i _=>i<n,λ i H x H'=>H'=H/\x=.int (lo+i),λ i _=>n<=i⟩
theorem a7U {P:Program} {w:World} {K:W.Frag} {tg:Expr} (a it:Addr):a7A P w K tg (Itl K a) [it] it (λ i h=>h.IsListIter it a i) where
 mem:=by simp
 obj:=λ i h st b hb=>by
  have e:b=it:=by simpa using hb
  subst e;obtain ⟨o,e,c,d⟩:=st;exact ⟨o,e,λ v z=>by rw [d] at z; cases z⟩
 keep:=λ i h h' st k=>st.at λ o e=>k it (by simp) o e
 item:=by
  intro X hP hw hK hc i pins s σ H E I hf st hg;subst hP hw hK;obtain ⟨xs,x,hq,hx⟩:=hg;obtain ⟨its,rv,p,hz⟩:=I.list hq;obtain ⟨u,hu,ru⟩:=rv.get hx;obtain ⟨f0,f1,f2,f3,f4,f5⟩:=hf it (by simp);refine wpAny_pyNext_list_item st p.isList (x:=u) (by simpa using hu) λ h' st' sb=>?_;have I1:Inv X pins σ H { s with heap:=h' }:=I.turned (t':=s.toks) (λ b o hb e=>(sb.2 b hb).trans e) f0 f1 f3 f4 f5;obtain ⟨o,e,c,d⟩:=id st';exact ⟨u,rfl,a9C (s:={ s with heap:=h' }) e c d (by decide) ⟨x,H,I1,ru,⟨rfl,λ ys hy=>by rw [I.list_inj hy hq]; exact hx⟩,st',λ b hb=>(hf b hb).1⟩⟩
 done:=by
  intro X hP hw hK hc i pins s σ H E I hf st hg;subst hP hw hK;obtain ⟨xs,hq,hx⟩:=hg;obtain ⟨its,rv,p,hz⟩:=I.list hq;obtain ⟨f0,f1,f2,f3,f4,f5⟩:=hf it (by simp);have hl:=rv.length;exact wpAny_pyNext_list_end (I.ok.hd hc) st p.isList (by simp; omega) λ h' eb=>⟨rfl,I.turned (t':=s.toks) (λ b o hb e=>eb b o hb e) f0 f1 f3 f4 f5⟩
 self:=λ _ _ _ _ _ st h=>wpAny_pyIter_listiter st h
theorem a5q {P:Program} {w:World} {K:W.Frag} {tg:Expr} (a it:Addr):a7A P w K tg (Itt K a) [it] it (λ i h=>h.IsTupleIter it a i) where
 mem:=by simp
 obj:=λ i h st b hb=>by
  have e:b=it:=by simpa using hb
  subst e;obtain ⟨o,e,c,d⟩:=st;exact ⟨o,e,λ v z=>by rw [d] at z; cases z⟩
 keep:=λ i h h' st k=>st.at λ o e=>k it (by simp) o e
 item:=by
  intro X hP hw hK hc i pins s σ H E I hf st hg;subst hP hw hK;obtain ⟨xs,x,hq,hx⟩:=hg;obtain ⟨its,rv,p,hz⟩:=I.tuple hq;obtain ⟨u,hu,ru⟩:=rv.get hx;obtain ⟨f0,f1,f2,f3,f4,f5⟩:=hf it (by simp);refine wpAny_pyNext_tuple_item st (show s.heap.IsTuple a its.toArray from p) (x:=u) (by simpa using hu) λ h' st' sb=>?_;have I1:Inv X pins σ H { s with heap:=h' }:=I.turned (t':=s.toks) (λ b o hb e=>(sb.2 b hb).trans e) f0 f1 f3 f4 f5;obtain ⟨o,e,c,d⟩:=id st';exact ⟨u,rfl,a9C (s:={ s with heap:=h' }) e c d (by decide) ⟨x,H,I1,ru,⟨rfl,λ ys hy=>by rw [I.tuple_inj hy hq]; exact hx⟩,st',λ b hb=>(hf b hb).1⟩⟩
 done:=by
  intro X hP hw hK hc i pins s σ H E I hf st hg;subst hP hw hK;obtain ⟨xs,hq,hx⟩:=hg;obtain ⟨its,rv,p,hz⟩:=I.tuple hq;obtain ⟨f0,f1,f2,f3,f4,f5⟩:=hf it (by simp);have hl:=rv.length;exact wpAny_pyNext_tuple_end (I.ok.hd hc) st (show s.heap.IsTuple a its.toArray from p) (by simp; omega) λ h' eb=>⟨rfl,I.turned (t':=s.toks) (λ b o hb e=>eb b o hb e) f0 f1 f3 f4 f5⟩
 self:=λ _ _ _ _ _ st h=>wpAny_pyIter_tupleiter st h
theorem a5f {P:Program} {w:World} {K:W.Frag} {tg:Expr} (it:Addr) (lo:Int) (n:Nat):a7A P w K tg (Itr lo n) [it] it (λ i h=>IsRangeIter h it (lo+(i:Nat)*1) ((n:Int) - (i:Nat)) 1) where
 mem:=by simp
 obj:=λ i h st b hb=>by
  have e:b=it:=by simpa using hb
  subst e;exact ⟨_,st,λ v z=>by
   have z':Data.fields _=Data.cell v:=z
   cases z'⟩
 keep:=λ i h h' st k=>k it (by simp) _ st
 item:=by
  intro X hP hw hK hc i pins s σ H E I hf st hg;subst hP hw hK;obtain ⟨f0,f1,f2,f3,f4,f5⟩:=hf it (by simp);have W:=Walks.range (prog:=X.prog) (w:=X.w) (I.ok.hd hc) it lo 1 n;refine W.item i s _ _ hg st λ v h' tk hv st' kk=>?_;obtain ⟨t,rfl⟩:=hv;have I1:Inv X pins σ H { s with heap:=h',toks:=tk }:=I.turned (λ b o hb e=>kk b o (by simpa using hb) e) f0 f1 f3 f4 f5;refine ⟨_,rfl,a9C (s:={ s with heap:=h',toks:=tk }) (n:="range_iterator") st' rfl rfl (by decide) ⟨.int (lo+i),H,I1,⟨t,?_⟩,⟨rfl,rfl⟩,st',λ b hb=>(hf b hb).1⟩⟩;rw [Int.mul_one]
 done:=by
  intro X hP hw hK hc i pins s σ H E I hf st hg;subst hP hw hK;obtain ⟨f0,f1,f2,f3,f4,f5⟩:=hf it (by simp);exact wpAny_pyNext_range_end (I.ok.hd hc) st (by have:n<=i:=hg; omega) λ h' eb=>⟨rfl,I.turned (t':=s.toks) (λ b o hb e=>eb b o hb e) f0 f1 f3 f4 f5⟩
 self:=λ _ _ _ _ _ st h=>wpAny_pyIter_rangeiter st h
section
variable {X:Cx} {tg:Expr}
def b4c (K:W.Frag) (tl:TE):TI:=λ σ H R=>tl σ H λ x H1=>∃ a,x=.ref a/\(∃ xs,SqL K H1 a xs)/\R (Itl K a) H1
def b4w (K:W.Frag) (tl:TE):TI:=λ σ H R=>tl σ H λ x H1=>∃ a,x=.ref a/\(∃ xs,SqT K H1 a xs)/\R (Itt K a) H1
theorem B9 {l:Expr} {tl:TE} (hl:PE X l tl):PI X tg l (b4c X.K tl):=by
 intro pins s σ H R I h;refine C2 (hl pins s σ H _ I h) λ v s1 ⟨x,H1,I1,r1,q1⟩=>?_;obtain ⟨a,e,⟨xs,hq⟩,q⟩:=q1;subst e
 cases r1;obtain ⟨its,rv,p,hz⟩:=I1.list hq;refine wpAny_pyIter_list p.isList ?_;refine ⟨s1.heap.objs.size,[s1.heap.objs.size],_,_,H1,rfl,I1.kept (t':=s1.toks) λ b o e=>Heap.get?_push_of_some _ e,a7U a _,⟨_,Heap.get?_push_size _ rfl,rfl,rfl⟩,λ b hb=>?_,q⟩;have e:b=s1.heap.objs.size:=by simpa using hb
 subst e;exact I1.fpOk (Nat.le_refl _) (I1.hok.fresh (Nat.le_refl _))
theorem a5H {l:Expr} {tl:TE} (hl:PE X l tl):PI X tg l (b4w X.K tl):=by
 intro pins s σ H R I h;refine C2 (hl pins s σ H _ I h) λ v s1 ⟨x,H1,I1,r1,q1⟩=>?_;obtain ⟨a,e,⟨xs,hq⟩,q⟩:=q1;subst e
 cases r1;obtain ⟨its,rv,p,hz⟩:=I1.tuple hq;refine wpAny_pyIter_tuple (show s1.heap.IsTuple a its.toArray from p) ?_;refine ⟨s1.heap.objs.size,[s1.heap.objs.size],_,_,H1,rfl,I1.kept (t':=s1.toks) λ b o e=>Heap.get?_push_of_some _ e,a5q a _,⟨_,Heap.get?_push_size _ rfl,rfl,rfl⟩,λ b hb=>?_,q⟩;have e:b=s1.heap.objs.size:=by simpa using hb
 subst e;exact I1.fpOk (Nat.le_refl _) (I1.hok.fresh (Nat.le_refl _))
theorem a4S {pins:List (Addr×Obj)} {σ:St} {H:Hp} {s:Shared} {R:It->Hp->Prop} {E:Value->Shared->Prop} {lo hi:Int} {t u v:Tok} {tk:Nat} (I:Inv X pins σ H s) (h1:-(2 ^ 62)<=lo) (h2:lo<2 ^ 62) (h3:-(2 ^ 62)<=hi) (h4:hi<2 ^ 62)
  (q:R (Itr lo (hi - lo).toNat) H):wpAny (model X.prog X.w) X.A (pyIter (.ref s.heap.objs.size)) (PIE X pins σ tg R) E { s with heap:=s.heap.push { cls:=.type "range",data:=.fields #[.int lo t,.int hi u,.int 1 v] },toks:=tk }:=by
 refine wpAny_pyIter_range (IsRange.new ..) (small_one h1 h2 h3 h4) ?_;have I1:Inv X pins σ H { s with heap:=s.heap.push { cls:=.type "range",data:=.fields #[.int lo t,.int hi u,.int 1 v] },toks:=tk }:=I.kept λ b o e=>Heap.get?_push_of_some _ e;refine ⟨(s.heap.push { cls:=.type "range",data:=.fields #[.int lo t,.int hi u,.int 1 v] }).objs.size,[(s.heap.push { cls:=.type "range",data:=.fields #[.int lo t,.int hi u,.int 1 v] }).objs.size],_,_,H,rfl,
  I1.kept (t':=tk) λ b o e=>Heap.get?_push_of_some _ e,a5f _ lo (hi - lo).toNat,?_,λ b hb=>?_,q⟩
 ·have e1:lo+((0:Nat):Int)*1=lo:=by simp
  have e2:(((hi - lo).toNat:Nat):Int) - ((0:Nat):Int)=Builtin.Range.rangeSize lo hi 1:=by rw [rangeSize_one]; split <;> omega
  show IsRangeIter _ _ (lo+((0:Nat):Int)*1) ((((hi - lo).toNat:Nat):Int) - ((0:Nat):Int)) 1
  rw [e1,e2];exact Heap.get?_push_size _ rfl
 ·have e:b=(s.heap.push { cls:=.type "range",data:=.fields #[.int lo t,.int hi u,.int 1 v] }).objs.size:=by simpa using hb
  subst e;exact I1.fpOk (Nat.le_refl _) (I1.hok.fresh (Nat.le_refl _))
def b4t (ta:TA):TI:=λ σ H R=>ta σ H λ vs H1=>∃ j:Int,vs=[.int j]/\-(2 ^ 62)<=j/\j<2 ^ 62/\R (Itr 0 j.toNat) H1
def b4E (ta:TA):TI:=λ σ H R=>ta σ H λ vs H1=>∃ i j:Int,vs=[.int i,.int j]/\(-(2 ^ 62)<=i/\i<2 ^ 62/\-(2 ^ 62)<=j/\j<2 ^ 62)/\R (Itr i (j - i).toNat) H1
theorem K3 {a:Expr} {ta:TA} {p pos:Pos} (hg:Gl X "range") (hm:X.mg "range"=none) (ha:PA X [a] ta) (hs:starEach [a] X.env=[(false,eval a X.env)]:=by rfl):PI X tg (.Call (.Name "range" p) [a] [] pos) (b4t ta):=by
 intro pins s σ H R I h;refine Call_ (T9 I hg hm boot_range (PyProof.Rows.callWith_type1 (C2 (ha pos pins s σ H _ I h) λ us s1 ⟨vs,H1,I1,r1,q1⟩=>?_) hs rfl));obtain ⟨j,e,q1,q2,q⟩:=q1;subst e
 cases r1 with
 | cons r rr =>
  cases rr;obtain ⟨t,rfl⟩:=r;exact call_range_1 (a4S I1 (by omega) (by omega) q1 q2 (by simpa using q))
theorem a8f {a b:Expr} {ta:TA} {p pos:Pos} (hg:Gl X "range") (hm:X.mg "range"=none) (ha:PA X [a,b] ta) (hs:starEach [a,b] X.env=[(false,eval a X.env),(false,eval b X.env)]:=by rfl) (hs2:starEach [b] X.env=[(false,eval b X.env)]:=by rfl) :
  PI X tg (.Call (.Name "range" p) [a,b] [] pos) (b4E ta):=by
 intro pins s σ H R I h;refine Call_ (T9 I hg hm boot_range (PyProof.Rows.callWith_type1 (C2 (ha pos pins s σ H _ I h) λ us s1 ⟨vs,H1,I1,r1,q1⟩=>?_) (by rw [hs,hs2]) (by rw [hs2]; rfl)));obtain ⟨i,j,e,⟨q1,q2,q3,q4⟩,q⟩:=q1;subst e
 cases r1 with
 | cons r rr =>
  cases rr with
  | cons r' rr =>
   cases rr;obtain ⟨t,rfl⟩:=r;obtain ⟨t',rfl⟩:=r';exact call_range_2 (a4S I1 q1 q2 q3 q4 q)
def b5G (wi:TI) (g:TG) (tb:TS):TS:=λ D σ H=>wi σ H λ J H1=>∃ W:Nat->Nat->St->Hp->Prop,(∃ m,W 0 m σ H1)/\∀ i m σ H,W i m σ H →
 (J.stop i H/\D.nx σ H)\/(J.go i H/\∃ N:St->Hp->Prop,(∀ σ' H',N σ' H'->∃ m',m'<m/\W (i+1) m' σ' H')/\∀ x H',J.yld i H x H'->g x σ H' λ σ2 H2=>tb { D with nx:=N,ct:=N,bk:=D.nx } σ2 H2)
def a2h (fp:List Addr) (h:Heap):List (Addr×Obj):=fp.filterMap λ b=>(h.get? b).map λ o=>(b,o)
theorem U5 {fp:List Addr} {h:Heap} {b:Addr} {o:Obj} (hb:b∈fp) (e:h.get? b=some o):(b,o)∈a2h fp h:=List.mem_filterMap.mpr ⟨b,hb,by rw [e]; rfl⟩
theorem a8b {fp:List Addr} {h:Heap} {p:Addr×Obj} (hp:p∈a2h fp h):p.1∈fp/\h.get? p.1=some p.2:=by
 obtain ⟨b,hb,e⟩:=List.mem_filterMap.mp hp
 cases q:h.get? b with
 | none=>rw [q] at e; cases e
 | some o =>
  rw [q] at e;have e':(b,o)=p:=Option.some.inj e;subst e';exact ⟨hb,q⟩
theorem Inv.pinned {pins:List (Addr×Obj)} {σ:St} {H:Hp} {s:Shared} {fp:List Addr} (I:Inv X pins σ H s) (hf:∀ b∈fp,V2 X pins H b) (ho:∀ b∈fp,∃ o,s.heap.get? b=some o/\∀ v,o.data≠.cell v):Inv X (pins++a2h fp s.heap) σ H s :=
 I.pins_of λ p hp=>(List.mem_append.mp hp).elim (λ z=>I.pin p (List.mem_append_right _ z)) λ z=>by
  obtain ⟨hb,e⟩:=a8b z;obtain ⟨f0,f1,f2,_⟩:=hf p.1 hb;obtain ⟨o,e',d⟩:=ho p.1 hb;rw [e] at e'; cases e';exact ⟨e,f0,f1,f2,d⟩
theorem Inv.unpinned {pins pl:List (Addr×Obj)} {σ:St} {H:Hp} {s:Shared} (I:Inv X (pins++pl) σ H s):Inv X pins σ H s:=I.pins_of λ p hp=>I.pin p (List.mem_append_right _ (List.mem_append_left _ hp))
theorem P4 {iter:Expr} {body:List Stmt} {wi:TI} {g:TG} {tb:TS} {pos:Pos} (hp:PassesOwn (model X.prog X.w) X.A X.env X.xe) (hc:X.calm=true) (hi:PI X tg iter wi) (hg:PG X tg g) (hb:PSs X body tb)
  (hs:∀ x,foldedSetIterable iter X.env x=pure x:=by intro _; rfl):PS X (.For tg iter body [] pos) (b5G wi g tb):=by
 intro pins s σ H D I h;refine wpAny_For (C2 (hi pins s σ H _ I h) λ v s1 h1=>C2 h1 λ itv s2 h2=>?_) hs;obtain ⟨it,fp,tn,J,H2,e,I2,T,st2,f2,W,⟨m0,w0⟩,turn⟩:=h2;subst e;have stat:∀ {H':Hp},(∀ b∈fp,H' b=none)->∀ b∈fp,V2 X pins H' b:=λ hn b hb=>⟨hn b hb,(f2 b hb).2⟩;refine codeAny_forLoop_any (λ n s'=>∃ i σ' H',Inv X pins σ' H' s'/\tn i s'.heap/\(∀ b∈fp,H' b=none)/\W i n σ' H') ?_ m0 ⟨0,σ,H2,I2,st2,λ b hb=>(f2 b hb).1,w0⟩;rintro n s3 ⟨i,σ3,H3,I3,st3,fr3,w3⟩;rcases turn i n σ3 H3 w3 with ⟨stop,qn⟩ | ⟨go,N,hN,step⟩
 ·refine wpAny_passesOwn hp (C2 (T.done X rfl rfl rfl hc i pins s3 σ3 H3 X.xe I3 (stat fr3) st3 stop) λ r s4 ⟨hr,I4⟩=>?_)
  subst hr;exact wpAny_execs_nil ⟨σ3,H3,I4,qn⟩
 ·refine wpAny_passesOwn hp (C2 (T.item X rfl rfl rfl hc i pins s3 σ3 H3 X.xe I3 (stat fr3) st3 go) λ r s4 ⟨u,hr,h4⟩=>?_)
  subst hr;refine wpAny_passesOwn hp (C2 h4 λ _ s5 ⟨x,H5,I5,r5,y5,st5,fr5⟩=>?_);have I5':=I5.pinned (stat fr5) (T.obj _ _ st5);refine wpAny_passesOwn hp (C2 (hg _ s5 σ3 H5 x u _ I5' r5 (step x H5 y5)) λ _ s6 ⟨σ6,H6,I6,q6⟩=>?_);refine wpAny_passesOwn hp (C2 (hb _ s6 σ6 H6 _ I6 q6) λ f s7 q7=>?_);have again:∀ {σ7:St} {H7:Hp},Inv X (pins++a2h fp s5.heap) σ7 H7 s7->N σ7 H7->∃ m,m<n/\∃ i σ' H',Inv X pins σ' H' s7/\tn i s7.heap/\(∀ b∈fp,H' b=none)/\W i m σ' H':=λ {σ7 H7} I7 n7=>by
   obtain ⟨m',hm,w7⟩:=hN σ7 H7 n7;refine ⟨m',hm,i+1,σ7,H7,I7.unpinned,T.keep _ _ _ st5 λ b hb o e=>(I7.pin (b,o) (List.mem_append_right _ (List.mem_append_right _ (U5 hb e)))).1,λ b hb=>?_,w7⟩;obtain ⟨o,e,d⟩:=T.obj _ _ st5 b hb;exact (I7.pin (b,o) (List.mem_append_right _ (List.mem_append_right _ (U5 hb e)))).2.1
  cases f with
  | next=>obtain ⟨σ7,H7,I7,n7⟩:=q7; exact again I7 n7
  | cont=>obtain ⟨σ7,H7,I7,n7⟩:=q7; exact again I7 n7
  | brk=>obtain ⟨σ7,H7,I7,q7⟩:=q7; exact ⟨σ7,H7,I7.unpinned,q7⟩
  | ret v=>obtain ⟨x7,σ7,H7,I7,r7,q7⟩:=q7; exact ⟨x7,σ7,H7,I7.unpinned,r7,q7⟩
end
theorem a2l {K:W.Frag} {a:Addr} {xs:List V} {g:TG} {tb:TS} {D:Ends} {σ:St} {H:Hp} (Pv:Nat->St->Hp->Prop) (h0:Pv 0 σ H) (hl:∀ i σ H,i<=xs.length->Pv i σ H->SqL K H a xs)
  (hs:∀ i x σ H,xs[i]?=some x->Pv i σ H->g x σ H λ σ2 H2=>tb { D with nx:=Pv (i+1),ct:=Pv (i+1),bk:=D.nx } σ2 H2) (hd:∀ σ H,Pv xs.length σ H->D.nx σ H) :
  ∃ W:Nat->Nat->St->Hp->Prop,(∃ m,W 0 m σ H)/\∀ i m σ H,W i m σ H →
   ((Itl K a).stop i H/\D.nx σ H)\/((Itl K a).go i H/\∃ N:St->Hp->Prop,(∀ σ' H',N σ' H'->∃ m',m'<m/\W (i+1) m' σ' H')/\∀ x H',(Itl K a).yld i H x H'->g x σ H' λ σ2 H2=>tb { D with nx:=N,ct:=N,bk:=D.nx } σ2 H2):=by
 refine ⟨λ i m σ H=>m=xs.length - i/\i<=xs.length/\Pv i σ H,⟨xs.length,by simp,Nat.zero_le _,h0⟩,?_⟩;rintro i m σ H ⟨rfl,hi,p⟩;have q:=hl i σ H hi p
 by_cases hlt:i<xs.length
 ·refine .inr ⟨⟨xs,xs[i],q,by simp [hlt]⟩,Pv (i+1),λ σ' H' p'=>⟨xs.length - (i+1),by omega,rfl,hlt,p'⟩,λ x H' y=>?_⟩
  obtain ⟨e,y⟩:=y;subst e;exact hs i x σ _ (y xs q) p
 ·have e:i=xs.length:=by omega
  subst e;exact .inl ⟨⟨xs,q,Nat.le_refl _⟩,hd σ H p⟩
theorem Y2 {lo:Int} {n:Nat} {g:TG} {tb:TS} {D:Ends} {σ:St} {H:Hp} (Pv:Nat->St->Hp->Prop) (h0:Pv 0 σ H)
  (hs:∀ i σ H,i<n->Pv i σ H->g (.int (lo+i)) σ H λ σ2 H2=>tb { D with nx:=Pv (i+1),ct:=Pv (i+1),bk:=D.nx } σ2 H2) (hd:∀ σ H,Pv n σ H->D.nx σ H) :
  ∃ W:Nat->Nat->St->Hp->Prop,(∃ m,W 0 m σ H)/\∀ i m σ H,W i m σ H →
   ((Itr lo n).stop i H/\D.nx σ H)\/((Itr lo n).go i H/\∃ N:St->Hp->Prop,(∀ σ' H',N σ' H'->∃ m',m'<m/\W (i+1) m' σ' H')/\∀ x H',(Itr lo n).yld i H x H'->g x σ H' λ σ2 H2=>tb { D with nx:=N,ct:=N,bk:=D.nx } σ2 H2):=by
 refine ⟨λ i m σ H=>m=n - i/\i<=n/\Pv i σ H,⟨n,by simp,Nat.zero_le _,h0⟩,?_⟩;rintro i m σ H ⟨rfl,hi,p⟩
 by_cases hlt:i<n
 ·refine .inr ⟨hlt,Pv (i+1),λ σ' H' p'=>⟨n - (i+1),by omega,rfl,hlt,p'⟩,λ x H' y=>?_⟩
  obtain ⟨e,y⟩:=y;subst e y;exact hs i σ _ hlt p
 ·have e:i=n:=by omega
  subst e;exact .inl ⟨Nat.le_refl _,hd σ H p⟩
theorem a4p {c:TT} {tb:TS} {D:Ends} {σ:St} {H:Hp} (Pv:St->Hp->Prop) (μ:St->Hp->Nat) (h0:Pv σ H)
  (hs:∀ σ H,Pv σ H->c σ H λ b H1=>if b=true then tb { D with nx:=λ σ' H'=>Pv σ' H'/\μ σ' H'<μ σ H,ct:=λ σ' H'=>Pv σ' H'/\μ σ' H'<μ σ H,bk:=D.nx } σ H1 else D.nx σ H1)
  (mono:∀ σ H Q Q',(∀ b H1,Q b H1->Q' b H1)->c σ H Q->c σ H Q'):a9u c tb D σ H:=by
 refine ⟨λ m σ H=>m=μ σ H/\Pv σ H,⟨_,rfl,h0⟩,?_⟩;rintro m σ H ⟨rfl,p⟩;refine mono σ H _ _ (λ b H1 q=>?_) (hs σ H p)
 cases b with
 | true=>exact ⟨_,λ σ' H' ⟨p',l⟩=>⟨_,l,rfl,p'⟩,q⟩
 | false=>exact q
abbrev R2:=V->V->Hp->VK->Prop
def OpR (X:Cx) (f:Value->Value->Sem Value) (r:R2):Prop :=
 ∀ (pins:List (Addr×Obj)) (s:Shared) (σ:St) (H:Hp) (x y:V) (v u:Value) (Q:VK),Inv X pins σ H s->RelV x v->RelV y u->r x y H Q →
  wpAny (model X.prog X.w) X.A (f v u) (EP X pins σ Q) X.xe s
def UnR (X:Cx) (f:Value->Sem Value) (r:V->Hp->VK->Prop):Prop :=
 ∀ (pins:List (Addr×Obj)) (s:Shared) (σ:St) (H:Hp) (x:V) (v:Value) (Q:VK),Inv X pins σ H s->RelV x v->r x H Q →
  wpAny (model X.prog X.w) X.A (f v) (EP X pins σ Q) X.xe s
def O1 (X:Cx) (f:Value) (r:List V->Hp->VK->Prop):Prop :=
 ∀ (pins:List (Addr×Obj)) (s:Shared) (σ:St) (H:Hp) (xs:List V) (us:List Value) (Q:VK),Inv X pins σ H s->Vals xs us->r xs H Q →
  wpAny (model X.prog X.w) X.A (call f us) (EP X pins σ Q) X.xe s
def b5S (X:Cx) (r:V->Hp->(Bool->Hp->Prop)->Prop):Prop :=
 ∀ (pins:List (Addr×Obj)) (s:Shared) (σ:St) (H:Hp) (x:V) (v:Value) (Q:Bool->Hp->Prop),Inv X pins σ H s->RelV x v->r x H Q →
  wpAny (model X.prog X.w) X.A (truthy v) (TP X pins σ Q) X.xe s
def tOp (r:R2) (ta tb:TE):TE:=λ σ H Q=>ta σ H λ x H1=>tb σ H1 λ y H2=>r x y H2 Q
def tUn (r:V->Hp->VK->Prop) (ta:TE):TE:=λ σ H Q=>ta σ H λ x H1=>r x H1 Q
def rI (C:Int->Int->Prop) (g:Int->Int->V):R2:=λ x y H Q=>∃ i j,x=.int i/\y=.int j/\C i j/\Q (g i j) H
def rI0 (g:Int->Int->V):R2:=λ x y H Q=>∃ i j,x=.int i/\y=.int j/\Q (g i j) H
def rU (g:Int->V):V->Hp->VK->Prop:=λ x H Q=>∃ i,x=.int i/\Q (g i) H
section
variable {X:Cx} {a b c:Expr} {ta tb tc:TE} {pos:Pos}
theorem b3a (ha:PE X a ta) (hb:PE X b tb) {pins:List (Addr×Obj)} {s:Shared} {σ:St} {H:Hp} {R:V->V->Hp->Prop} (I:Inv X pins σ H s)
  (h:ta σ H λ x H1=>tb σ H1 λ y H2=>R x y H2) {Q:Value->Shared->Prop} {f:Value->Value->Sem Value}
  (hf:∀ v u s2 x y H2,Inv X pins σ H2 s2->RelV x v->RelV y u->R x y H2->wpAny (model X.prog X.w) X.A (f v u) Q X.xe s2) :
  wpAny (model X.prog X.w) X.A (eval a X.env) (λ v s₁=>wpAny (model X.prog X.w) X.A (eval b X.env) (λ u s₂=>wpAny (model X.prog X.w) X.A (f v u) Q X.xe s₂) X.xe s₁) X.xe s:=by
 refine C2 (ha pins s σ H _ I h) λ v s1 ⟨x,H1,I1,r1,q1⟩=>?_;refine C2 (hb pins s1 σ H1 _ I1 q1) λ u s2 ⟨y,H2,I2,r2,q2⟩=>?_;exact hf v u s2 x y H2 I2 r1 r2 q2
theorem i8 {op:Operator} {r:R2} (ho:OpR X (binaryOp op) r) (ha:PE X a ta) (hb:PE X b tb):PE X (.BinOp a op b pos) (tOp r ta tb):=by
 intro pins s σ H Q I h;exact wpAny_BinOp (b3a ha hb I h λ v u s2 x y H2 I2 rx ry q=>ho pins s2 σ H2 x y v u Q I2 rx ry q)
theorem S3 {op:UnaryOp} {r:V->Hp->VK->Prop} (ho:UnR X (unaryOp op) r) (ha:PE X a ta):PE X (.UnaryOp op a pos) (tUn r ta):=by
 intro pins s σ H Q I h;exact UnaryOp_ (C2 (ha pins s σ H _ I h) λ v s1 ⟨x,H1,I1,r1,q1⟩=>ho pins s1 σ H1 x v Q I1 r1 q1)
theorem opI {f:Value->Value->Sem Value} {C:Int->Int->Prop} {g:Int->Int->Int}
  (rule:∀ (i j:Int) (t u:Tok) (s:Shared) (Q:Value->Shared->Prop) (E:Value->Shared->Prop),C i j->Q (.int (g i j) s.toks) { s with toks:=s.toks+1 }->wpAny (model X.prog X.w) X.A (f (.int i t) (.int j u)) Q E s) :
  OpR X f (rI C λ i j=>.int (g i j)):=by
 intro pins s σ H x y v u Q I rx ry h;obtain ⟨i,j,rfl,rfl,hc,q⟩:=h;obtain ⟨t,rfl⟩:=rx;obtain ⟨t',rfl⟩:=ry;exact rule i j t t' s _ _ hc ⟨.int (g i j),H,I.tok _,⟨_,rfl⟩,q⟩
theorem b4H {f:Value->Value->Sem Value} {g:Int->Int->Int}
  (rule:∀ (i j:Int) (t u:Tok) (s:Shared) (Q:Value->Shared->Prop) (E:Value->Shared->Prop),Q (.int (g i j) s.toks) { s with toks:=s.toks+1 }->wpAny (model X.prog X.w) X.A (f (.int i t) (.int j u)) Q E s) :
  OpR X f (rI0 λ i j=>.int (g i j)):=by
 intro pins s σ H x y v u Q I rx ry h;obtain ⟨i,j,rfl,rfl,q⟩:=h;obtain ⟨t,rfl⟩:=rx;obtain ⟨t',rfl⟩:=ry;exact rule i j t t' s _ _ ⟨.int (g i j),H,I.tok _,⟨_,rfl⟩,q⟩
theorem b1g {f:Value->Value->Sem Value} {g:Int->Int->Bool}
  (rule:∀ (i j:Int) (t u:Tok) (s:Shared) (Q:Value->Shared->Prop) (E:Value->Shared->Prop),Q (.bool (g i j)) s->wpAny (model X.prog X.w) X.A (f (.int i t) (.int j u)) Q E s) :
  OpR X f (rI0 λ i j=>.bl (g i j)):=by
 intro pins s σ H x y v u Q I rx ry h;obtain ⟨i,j,rfl,rfl,q⟩:=h;obtain ⟨t,rfl⟩:=rx;obtain ⟨t',rfl⟩:=ry;exact rule i j t t' s _ _ ⟨.bl (g i j),H,I,rfl,q⟩
def b5T (i j:Int):Prop:=0<j/\j<1073741824
def b6d (i j:Int):Prop:=0<=j/\j<=1000000/\i.natAbs<2 ^ 64
def CMul (i j:Int):Prop:=(-(2 ^ 64)<i/\i<2 ^ 64)\/(-(2 ^ 64)<j/\j<2 ^ 64)
theorem CMul.ok {i j:Int} (h:CMul i j):IntMulOk i j:=by
 rcases h with ⟨h1,h2⟩ | ⟨h1,h2⟩
 ·exact .of_left (intBits_le_64 h1 h2)
 ·exact .of_right (intBits_le_64 h1 h2)
theorem C3:OpR X (binaryOp .Add) (rI0 λ i j=>.int (i+j)):=b4H λ _ _ _ _ _ _ _ q=>add_int q
theorem a2k:OpR X (binaryOp .Sub) (rI0 λ i j=>.int (i - j)):=b4H λ _ _ _ _ _ _ _ q=>sub_int q
theorem T5:OpR X (binaryOp .Mult) (rI CMul λ i j=>.int (i*j)):=opI λ _ _ _ _ _ _ _ hc q=>mul_int q hc.ok
theorem Z2:OpR X (binaryOp .FloorDiv) (rI b5T λ i j=>.int (i / j)):=opI λ i j _ _ _ _ _ hc q=>by
 have h1:(0:Int)<j:=hc.1;have h2:j<1073741824:=hc.2;exact floordiv_int (by omega) (by rw [Int.fdiv_eq_ediv_of_nonneg i (by omega)]; exact q) (.inl (PyProof.noPylong_small (by omega)))
theorem x6:OpR X (binaryOp .Mod) (rI (λ _ j=>0<j) λ i j=>.int (i % j)):=opI λ i j _ _ _ _ _ hc q=>by
 have h1:(0:Int)<j:=hc;exact mod_int' (by omega) (by rw [Int.fmod_eq_emod_of_nonneg i (by omega)]; exact q)
theorem a3y:OpR X (binaryOp .Pow) (rI b6d λ i j=>.int (i ^ j.toNat)):=opI λ _ _ _ _ _ _ _ hc q=>pow_int_small hc.1 hc.2.1 hc.2.2 q
theorem unI {f:Value->Sem Value} {g:Int->Int}
  (rule:∀ (i:Int) (t:Tok) (s:Shared) (Q:Value->Shared->Prop) (E:Value->Shared->Prop),Q (.int (g i) s.toks) { s with toks:=s.toks+1 }->wpAny (model X.prog X.w) X.A (f (.int i t)) Q E s) :
  UnR X f (rU λ i=>.int (g i)):=by
 intro pins s σ H x v Q I rx h;obtain ⟨i,rfl,q⟩:=h;obtain ⟨t,rfl⟩:=rx;exact rule i t s _ _ ⟨.int (g i),H,I.tok _,⟨_,rfl⟩,q⟩
theorem K6:UnR X (unaryOp .USub) (rU λ i=>.int (-i)):=unI λ _ _ _ _ _ q=>neg_int q
end
def b4Z:V->V->Bool
 | .non,.non=>true | .non,.int _=>true | .int _,.non=>true | .non,.bl _=>true | .bl _,.non=>true | .non,.str _=>true | .str _,.non=>true
 | .int _,.int _=>true | .bl _,.bl _=>true | .str _,.str _=>true | .byt _,.byt _=>true
 | .int _,.str _=>true | .str _,.int _=>true | .bl _,.str _=>true | .str _,.bl _=>true
 | _,_=>false
def rEq:R2:=λ x y H Q=>b4Z x y=true/\Q (.bl (decide (x=y))) H
def rNe:R2:=λ x y H Q=>b4Z x y=true/\Q (.bl (!decide (x=y))) H
theorem a6n {i j:Int}:decide (V.int i=V.int j)=(i==j):=by
 rw [Bool.eq_iff_iff];simp
theorem a9f {i j:Bool}:decide (V.bl i=V.bl j)=(i==j):=by
 rw [Bool.eq_iff_iff];simp
theorem a6l {i j:Str}:decide (V.str i=V.str j)=(i==j):=by
 rw [Bool.eq_iff_iff];simp
theorem a7k {i j:Array UInt8}:decide (V.byt i=V.byt j)=(i.toList==j.toList):=by
 rw [Bool.eq_iff_iff]
 cases i
 cases j;simp
section
variable {X:Cx} {a b c:Expr} {ta tb tc:TE} {pos:Pos}
theorem v7 {pins:List (Addr×Obj)} {σ:St} {H:Hp} {s:Shared} {Q:VK} {k k':Bool} (I:Inv X pins σ H s) (q:Q (.bl k) H) (e:k=k'):EP X pins σ Q (.bool k') s:=by
 subst e;exact ⟨.bl k,H,I,rfl,q⟩
theorem a2K:OpR X (compareOp .Eq) rEq:=by
 intro pins s σ H x y v u Q I rx ry h;obtain ⟨hs,q⟩:=h
 cases x with
 | non =>
  cases rx
  cases y with
  | non=>cases ry; exact PySem.EqNone.eq_none_none (v7 I q (by simp))
  | bl j=>cases ry; exact PySem.EqNone.eq_none_bool (v7 I q (by simp))
  | int j=>obtain ⟨t',rfl⟩:=ry; exact PySem.EqNone.eq_none_int (v7 I q (by simp))
  | str j=>obtain ⟨t',rfl⟩:=ry; exact PySem.EqNone.eq_none_str (v7 I q (by simp))
  | _=>exact absurd (show false=true from hs) Bool.false_ne_true
 | bl i =>
  cases rx
  cases y with
  | non=>cases ry; exact PySem.EqNone.eq_bool_none (v7 I q (by simp))
  | bl j=>cases ry; exact eq_bool (v7 I q a9f)
  | str j=>obtain ⟨t',rfl⟩:=ry; exact PySem.EqMixed.eq_bool_str (v7 I q (by simp))
  | _=>exact absurd (show false=true from hs) Bool.false_ne_true
 | int i =>
  obtain ⟨t,rfl⟩:=rx
  cases y with
  | non=>cases ry; exact PySem.EqNone.eq_int_none (v7 I q (by simp))
  | int j=>obtain ⟨t',rfl⟩:=ry; exact eq_int (v7 I q a6n)
  | str j=>obtain ⟨t',rfl⟩:=ry; exact PySem.EqMixed.eq_int_str (v7 I q (by simp))
  | _=>exact absurd (show false=true from hs) Bool.false_ne_true
 | str i =>
  obtain ⟨t,rfl⟩:=rx
  cases y with
  | non=>cases ry; exact PySem.EqNone.eq_str_none (v7 I q (by simp))
  | bl j=>cases ry; exact PySem.EqMixed.eq_str_bool (v7 I q (by simp))
  | int j=>obtain ⟨t',rfl⟩:=ry; exact PySem.EqMixed.eq_str_int (v7 I q (by simp))
  | str j=>obtain ⟨t',rfl⟩:=ry; exact eq_str (v7 I q a6l)
  | _=>exact absurd (show false=true from hs) Bool.false_ne_true
 | byt i =>
  obtain ⟨t,rfl⟩:=rx
  cases y with
  | byt j=>obtain ⟨t',rfl⟩:=ry; exact W.eq_bytes (v7 I q a7k)
  | _=>exact absurd (show false=true from hs) Bool.false_ne_true
 | _=>cases y <;> exact absurd (show false=true from hs) Bool.false_ne_true
theorem b1X:OpR X (compareOp .NotEq) rNe:=by
 intro pins s σ H x y v u Q I rx ry h;obtain ⟨hs,q⟩:=h
 cases x with
 | non =>
  cases rx
  cases y with
  | non=>cases ry; exact PySem.EqNone.ne_none_none (v7 I q (by simp))
  | bl j=>cases ry; exact PySem.EqNone.ne_none_bool (v7 I q (by simp))
  | int j=>obtain ⟨t',rfl⟩:=ry; exact PySem.EqNone.ne_none_int (v7 I q (by simp))
  | str j=>obtain ⟨t',rfl⟩:=ry; exact PySem.EqNone.ne_none_str (v7 I q (by simp))
  | _=>exact absurd (show false=true from hs) Bool.false_ne_true
 | bl i =>
  cases rx
  cases y with
  | non=>cases ry; exact PySem.EqNone.ne_bool_none (v7 I q (by simp))
  | bl j=>cases ry; exact ne_bool (v7 I q (congrArg not a9f))
  | str j=>obtain ⟨t',rfl⟩:=ry; exact PySem.EqMixed.ne_bool_str (v7 I q (by simp))
  | _=>exact absurd (show false=true from hs) Bool.false_ne_true
 | int i =>
  obtain ⟨t,rfl⟩:=rx
  cases y with
  | non=>cases ry; exact PySem.EqNone.ne_int_none (v7 I q (by simp))
  | int j=>obtain ⟨t',rfl⟩:=ry; exact ne_int (v7 I q (congrArg not a6n))
  | str j=>obtain ⟨t',rfl⟩:=ry; exact PySem.EqMixed.ne_int_str (v7 I q (by simp))
  | _=>exact absurd (show false=true from hs) Bool.false_ne_true
 | str i =>
  obtain ⟨t,rfl⟩:=rx
  cases y with
  | non=>cases ry; exact PySem.EqNone.ne_str_none (v7 I q (by simp))
  | bl j=>cases ry; exact PySem.EqMixed.ne_str_bool (v7 I q (by simp))
  | int j=>obtain ⟨t',rfl⟩:=ry; exact PySem.EqMixed.ne_str_int (v7 I q (by simp))
  | str j=>obtain ⟨t',rfl⟩:=ry; exact ne_str (v7 I q (congrArg not a6l))
  | _=>exact absurd (show false=true from hs) Bool.false_ne_true
 | byt i =>
  obtain ⟨t,rfl⟩:=rx
  cases y with
  | byt j=>obtain ⟨t',rfl⟩:=ry; exact W.ne_bytes (v7 I q (congrArg not a7k))
  | _=>exact absurd (show false=true from hs) Bool.false_ne_true
 | _=>cases y <;> exact absurd (show false=true from hs) Bool.false_ne_true
theorem Z8:OpR X (compareOp .Lt) (rI0 λ i j=>.bl (decide (i<j))):=b1g λ _ _ _ _ _ _ _ q=>lt_int q
theorem b4u:OpR X (compareOp .LtE) (rI0 λ i j=>.bl (decide (i<=j))):=b1g λ _ _ _ _ _ _ _ q=>le_int q
theorem a0q:OpR X (compareOp .Gt) (rI0 λ i j=>.bl (decide (j<i))):=b1g λ _ _ _ _ _ _ _ q=>gt_int q
theorem a8v:OpR X (compareOp .GtE) (rI0 λ i j=>.bl (decide (j<=i))):=b1g λ _ _ _ _ _ _ _ q=>ge_int q
theorem a0X:OpR X (compareOp .Is) (λ x y H Q=>y=.non/\Q (.bl (decide (x=.non))) H):=by
 intro pins s σ H x y v u Q I rx ry h;obtain ⟨rfl,q⟩:=h
 cases ry;refine is_none_gen (v7 I q ?_)
 cases x <;> first
  | (cases rx; rfl)
  | (obtain ⟨t,rfl⟩:=rx; rfl)
theorem a6g:OpR X (compareOp .IsNot) (λ x y H Q=>y=.non/\Q (.bl (!decide (x=.non))) H):=by
 intro pins s σ H x y v u Q I rx ry h;obtain ⟨rfl,q⟩:=h
 cases ry;refine isnot_none_gen (v7 I q ?_)
 cases x <;> first
  | (cases rx; rfl)
  | (obtain ⟨t,rfl⟩:=rx; rfl)
theorem r6 (b:Expr) {op:CmpOp} (h:op≠.In:=by decide) (h2:op≠.NotIn:=by decide):behindInMarks op b=false:=by
 have e1:(op==CmpOp.In)=false:=by cases op <;> first | rfl | exact absurd rfl h
 have e2:(op==CmpOp.NotIn)=false:=by cases op <;> first | rfl | exact absurd rfl h2
 cases b <;> simp [behindInMarks,e1,e2]
theorem Q4 {op:CmpOp} {r:R2} (ho:OpR X (compareOp op) r) (ha:PE X a ta) (hb:PE X b tb) (hm:behindInMarks op b=false):PE X (.Compare a [op] [b] pos) (tOp r ta tb):=by
 intro pins s σ H Q I h;exact wpAny_Compare1 (b3a ha hb I h λ v u s2 x y H2 I2 rx ry q=>ho pins s2 σ H2 x y v u Q I2 rx ry q) hm
def b2c (t:TE):TT:=λ σ H Q=>t σ H λ x H'=>∃ k,x=.bl k/\Q k H'
theorem m9 {op:CmpOp} {r:R2} (ho:OpR X (compareOp op) r) (ha:PE X a ta) (hb:PE X b tb) (hm:behindInMarks op b=false):PT X (.Compare a [op] [b] pos) (b2c (tOp r ta tb)):=by
 intro pins s σ H Q I h;refine wpAny_isTrue_Compare1 (C2 (ha pins s σ H _ I h) λ v s1 ⟨x,H1,I1,r1,q1⟩=>C2 (hb pins s1 σ H1 _ I1 q1) λ u s2 ⟨y,H2,I2,r2,q2⟩ =>
  C2 (ho pins s2 σ H2 x y v u _ I2 r1 r2 q2) λ c s3 ⟨z,H3,I3,r3,k,e,q3⟩=>?_) hm
 subst e
 cases r3;exact wpAny_truthy_bool ⟨H3,I3,q3⟩
def b3m (r r':R2) (ta tb tc:TE):TE:=λ σ H Q=>ta σ H λ x H1=>tb σ H1 λ y H2=>r x y H2 λ z H3=>∃ k,z=.bl k ∧
 (if k=true then tc σ H3 λ w' H4=>r' y w' H4 Q else Q (.bl false) H3)
theorem a8j {op op':CmpOp} {r r':R2} (ho:OpR X (compareOp op) r) (ho':OpR X (compareOp op') r') (ha:PE X a ta) (hb:PE X b tb) (hc:PE X c tc)
  (hm:lastMarks [op,op'] [b,c]=false:=by with_unfolding_all rfl):PT X (.Compare a [op,op'] [b,c] pos) (b2c (b3m r r' ta tb tc)):=by
 intro pins s σ H Q I h;refine isTrue_chain (C2 (ha pins s σ H _ I h) λ v s1 ⟨x,H1,I1,r1,q1⟩=>test_link (C2 (hb pins s1 σ H1 _ I1 q1) λ u s2 ⟨y,H2,I2,r2,q2⟩ =>
  C2 (ho pins s2 σ H2 x y v u _ I2 r1 r2 q2) λ d s3 ⟨z,H3,I3,r3,k,e,q3⟩=>?_)) hm
 subst e
 cases r3;refine wpAny_truthy_bool ?_
 cases k with
 | false =>
  obtain ⟨k',e',q'⟩:=q3
  cases e';exact ite_ff ⟨H3,I3,q'⟩
 | true =>
  refine ite_tt (test_last (C2 (hc pins s3 σ H3 _ I3 q3) λ w' s4 ⟨z',H4,I4,r4,q4⟩=>C2 (ho' pins s4 σ H4 y z' u w' _ I4 r2 r4 q4) λ d' s5 ⟨z2,H5,I5,r5,k2,e2,q5⟩=>?_));subst e2
  cases r5;exact wpAny_truthy_bool ⟨H5,I5,q5⟩
def b4d (K:W.Frag) (x:V) (H:Hp) (k:Bool):Prop :=
 match x with
 | .non=>k=false
 | .bl b=>k=b
 | .int i=>k=(i != 0)
 | .str y=>y.length<=sizeLine/\k=((y.length:Int) != 0)
 | .byt y=>y.size<=sizeLine/\k=((y.size:Int) != 0)
 | .ref p=>(∃ xs,SqL K H p xs/\k=!xs.isEmpty)\/(∃ xs,SqT K H p xs/\k=!xs.isEmpty)\/∃ kvs,H p=some (.dK kvs)/\k=!kvs.isEmpty
 | _=>False
theorem a5h {κ:Type} {kvs:List (κ×V)} {vs:List (κ×Value)} (r:KV kvs vs):(!vs.isEmpty)=!kvs.isEmpty:=by
 cases r <;> rfl
theorem a1T {xs:List V} {its:List Value} (r:Vals xs its):(!its.toArray.isEmpty)=!xs.isEmpty:=by
 cases r <;> simp
theorem a1Q:(sizeLine:Nat)<2 ^ 63:=by rw [sizeLine_eq]; decide
theorem b2H:b5S X (λ x H Q=>∃ k,b4d X.K x H k/\Q k H):=by
 intro pins s σ H x v Q I rx h;obtain ⟨k,e,q⟩:=h;have hl:=a1Q;have hs:sizeLine=16777216:=sizeLine_eq
 cases x with
 | non =>
  cases rx;have e':k=false:=e;subst e';exact truthy_none ⟨H,I,q⟩
 | bl b =>
  cases rx;have e':k=b:=e;subst e';exact wpAny_truthy_bool ⟨H,I,q⟩
 | int i =>
  obtain ⟨t,rfl⟩:=rx;have e':k=(i != 0):=e;subst e';exact PySem.P.truthy_int ⟨H,I,q⟩
 | str y =>
  obtain ⟨t,rfl⟩:=rx;obtain ⟨hy,e'⟩:y.length<=sizeLine/\k=((y.length:Int) != 0):=e;subst e';exact PySem.P.truthy_str (by omega) ⟨H,I.tok _,q⟩
 | byt y =>
  obtain ⟨t,rfl⟩:=rx;obtain ⟨hy,e'⟩:y.size<=sizeLine/\k=((y.size:Int) != 0):=e;subst e';exact W.truthy_bytes (by omega) ⟨H,I.tok _,q⟩
 | ref p =>
  cases rx;have e':(∃ xs,SqL X.K H p xs/\k=!xs.isEmpty)\/(∃ xs,SqT X.K H p xs/\k=!xs.isEmpty)\/∃ kvs,H p=some (.dK kvs)/\k=!kvs.isEmpty:=e;rcases e' with ⟨xs,hx,e'⟩ | ⟨xs,hx,e'⟩ | ⟨kvs,hx,e'⟩
  ·subst e'
   obtain ⟨its,r,pl,hz⟩:=I.list hx;have hlen:=r.length;exact wpAny_truthy_list pl.isList (by simp only [List.size_toArray]; omega) ⟨H,I.tok _,by rw [a1T r]; exact q⟩
  ·subst e'
   obtain ⟨its,r,pl,hz⟩:=I.tuple hx;have hlen:=r.length;exact truthy_tuple pl (by simp only [List.size_toArray]; omega) ⟨H,I.tok _,by rw [a1T r]; exact q⟩
  ·subst e'
   obtain ⟨hz,hS,vs,r,m⟩:kvs.length<=sizeLine/\(p==sysModules)=false/\∃ vs,KV kvs vs/\s.heap.DictOf (a3I X.prog X.w) p vs:=I.hok p _ hx;have hlen:kvs.length=vs.length:=Paired.length r;exact wpAny_truthy_dict hS m (by omega) ⟨H,I.tok _,by rw [a5h r]; exact q⟩
 | _=>exact (show False from e).elim
theorem a8l (ha:PE X a ta) (he:∀ whole,isTrue a X.env whole=(do let v <- whole; standAt a.pos; holding [v] (truthy v))) :
  PT X a (λ σ H Q=>ta σ H λ x H'=>∃ k,b4d X.K x H' k/\Q k H'):=by
 intro pins s σ H Q I h;exact isTrue_plain (C2 (ha pins s σ H _ I h) λ v s1 ⟨x,H1,I1,r1,q1⟩=>b2H pins s1 σ H1 x v Q I1 r1 q1) (he _)
theorem O7 {x:V} {us:List Value} (r:Vals [x] us):∃ u,us=[u]/\RelV x u:=by
 cases r with
 | cons r1 r2=>cases r2; exact ⟨_,rfl,r1⟩
theorem a9l {x y:V} {us:List Value} (r:Vals [x,y] us):∃ u w',us=[u,w']/\RelV x u/\RelV y w':=by
 cases r with
 | cons r1 r2 =>
  cases r2 with
  | cons r3 r4=>cases r4; exact ⟨_,_,rfl,r1,r3⟩
theorem b0c:O1 X (.builtin "abs") (λ xs H Q=>∃ i,xs=[.int i]/\Q (.int (if i<0 then -i else i)) H):=by
 intro pins s σ H xs us Q I r h;obtain ⟨i,rfl,q⟩:=h;obtain ⟨u,rfl,t,rfl⟩:=O7 r;exact call_abs_int λ u tk=>⟨.int (if i<0 then -i else i),H,I.tok _,⟨_,rfl⟩,q⟩
theorem X9 (hc:X.calm=true):O1 X (.builtin "min") (λ xs H Q=>∃ i j,xs=[.int i,.int j]/\Q (.int (if j<i then j else i)) H):=by
 intro pins s σ H xs us Q I r h;obtain ⟨i,j,rfl,q⟩:=h;obtain ⟨u,w',rfl,⟨t,rfl⟩,⟨t',rfl⟩⟩:=a9l r;refine min_two_ints (I.ok.hd hc) λ h' tk k=>⟨_,H,I.kept k,?_,q⟩
 by_cases hj:j<i
 ·rw [if_pos hj,if_pos hj]; exact ⟨_,rfl⟩
 ·rw [if_neg hj,if_neg hj]; exact ⟨_,rfl⟩
theorem a2Q:O1 X (.type "int") (λ xs H Q=>(∃ i,xs=[.int i]/\Q (.int i) H)\/∃ k,xs=[.bl k]/\Q (.int (if k then 1 else 0)) H):=by
 intro pins s σ H xs us Q I r h;rcases h with ⟨i,rfl,q⟩ | ⟨k,rfl,q⟩
 ·obtain ⟨u,rfl,t,rfl⟩:=O7 r
  exact call_int_int ⟨.int i,H,I,⟨_,rfl⟩,q⟩
 ·obtain ⟨u,rfl,r1⟩:=O7 r
  cases r1;exact call_int_bool ⟨.int (if k then 1 else 0),H,I.tok _,⟨_,rfl⟩,q⟩
end
structure ObjM (h:Heap) (x dx C:Addr) (mA:Str->Option Value):Prop where
 obj:h.get? x=some (W.instObj C dx)
 ns:h.Ns1 dx mA
 ne:dx≠x
theorem a7X {h:Heap} {dx:Addr} {mA:Str->Option Value} (n:h.Ns1 dx mA):∃ od,h.get? dx=some od/\∀ name,W.lookIn name od=some (mA name):=by
 obtain ⟨o,es,ep,ho,hd,hk,_,hm⟩:=n;refine ⟨o,ho,λ name=>?_⟩;have e:=hm name;unfold nsFind findBy at e;rw [<- Array.find?_toList] at e;unfold W.lookIn;rw [hd];dsimp only
 split
 ·rename_i y q
  rw [q] at e;exact congrArg some e
 ·rename_i q
  rw [q] at e;have a:es.toList.any (·.refKey)=false:=by
   rw [List.any_eq_false];intro y hy;obtain ⟨z,t,hkey⟩:=hk y (Array.mem_toList_iff.mp hy);simp [DictEntry.refKey,hkey]
  have a':¬ es.toList.any (·.refKey)=true:=by rw [a]; exact Bool.false_ne_true
  rw [if_neg a'];exact congrArg some e
theorem ObjM.look {h:Heap} {x dx C:Addr} {mA:Str->Option Value} (I:ObjM h x dx C mA):∃ od,W.InstAt h x (W.instObj C dx) C (some od)/\∀ name,W.lookIn name od=some (mA name) :=
 let ⟨od,ho,hl⟩:=a7X I.ns
 ⟨od,⟨I.obj,rfl,rfl,ho⟩,hl⟩
section
variable {prog:Program} {w:World} {A:Around} {E:Value->Shared->Prop} {s:Shared} {K:W.Frag} {x dx C f:Addr} {mA:Str->Option Value} {name:Str} {v:Value}
theorem b0C {expr:Bool} {Q:Value->Shared->Prop} (X:K.In s.heap) (I:ObjM s.heap x dx C mA) (hg:W.plainGet K C name=true) (hh:W.hasDictIn K C=true)
  (ha:W.findIn K (.ref C) name=some none) (hv:mA name=some v) (hv':W.handedIn v=true) (h:Q v { s with toks:=s.toks+1 }) :
  wpAny (model prog w) A (getAttr (.ref x) name expr) Q E s:=by
 obtain ⟨od,J,hl⟩:=I.look;exact W.get_value X J (W.plainGet_of hg).1 (W.findObj_own hh ha rfl (by rw [hl,hv])) hv' h
theorem a9d {pl:Sem Bool} {Q:Value×List Value->Shared->Prop} (X:K.In s.heap) (I:ObjM s.heap x dx C mA) (hg:W.plainGet K C name=true)
  (hf:W.findIn K (.ref C) name=some (some (.ref f))) (ht:W.isFn K (.ref f)=true) (hv:mA name=none) (h:Q (.ref f,[.ref x]) s) :
  wpAny (model prog w) A (getMethod (.ref x) name pl) Q E s:=by
 obtain ⟨od,J,hl⟩:=I.look;exact W.method_fn X J (W.plainGet_of hg).1 (W.plainGet_of hg).2 hf (beq_iff_eq.mp ht) (by show (W.lookIn name od).map (·.isSome)=some false; rw [hl,hv]; rfl) h
theorem b0p {ns:List Str} {Q:Unit->Shared->Prop} (X:K.In s.heap) (I:ObjM s.heap x dx C mA)
  (hs:W.findIn K (.ref C) "__setattr__"=some (some (.builtin "object.__setattr__"))) (hp:W.plainOver K C=true) (ht:W.takerIn K C name=some none) (hh:W.hasDictIn K C=true)
  (hw:PySem.Within mA ns) (hsz:ns.length<=sizeLine)
  (h:∀ h',ObjM h' x dx C (λ y=>if y=name then some v else mA y)->Heap.SameBut dx s.heap h'->Q () { s with heap:=h',toks:=s.toks+2 }) :
  wpAny (model prog w) A (setAttr (.ref x) name v) Q E s:=by
 obtain ⟨od,J,hl⟩:=I.look;refine W.set_plain X J hs (W.osa_open (s:={ s with toks:=s.toks+1 }) (r:=none) X J hp ht λ b=>?_);obtain ⟨cd,hc,hd'⟩:=W.any_some hh;have hx:s.heap.get? x=some ⟨.ref C,some dx,.plain,#[]⟩:=I.obj;refine wpAny_bind (wpAny_pure (wpAny_bind (wpAny_bind (wpAny_loadPart hx (wpAny_bind (W.Looks.here (s:={ s with toks:=s.toks+1 }) (W.looks_clsIn X hc) ?_))))));rw [hd'];refine wpAny_pure (a:=some dx) (wpAny_bind (wpAny_pure (wpAny_bind ?_)));refine wpAny_nsSet1 (s:={ s with toks:=s.toks+1 }) I.ns λ h' hn2 hs2=>?_;obtain ⟨oD,esD,epD,hoD,hdD,hcD⟩:=hn2.count (PySem.Within.cons name v hw);refine wpAny_bind (wpAny_lookBehind hoD (by rw [hdD]; exact pastItsLine_dict (Nat.le_trans hcD (by rw [List.length_cons]; omega))) ?_);exact wpAny_pure (h _ ⟨(hs2.2 _ (Ne.symm I.ne)).trans I.obj,hn2,I.ne⟩ hs2)
theorem a8r {R:Result->Shared->Prop} {vs:List Value} {kw:List (Str×Value)} (X:K.In s.heap) (hm:W.makesIn K C=true)
  (hi:W.findIn K (.ref C) "__init__"=some (some (.ref f))) (hf:W.typeIn K (.ref f)=some (.type "function"))
  (h:codeAny (model prog w) (A.under (.builtin "type.__call__" ⟨.ref C::vs,kw⟩)) (.call (.ref f) ⟨.ref (s.heap.objs.size+1)::vs,kw⟩) (W.InitBack (s.heap.objs.size+1) R)
   { s with heap:=(s.heap.push W.emptyDict).push (W.instObj C s.heap.objs.size) }) :
  codeAny (model prog w) A (.call (.ref C) ⟨vs,kw⟩) R s:=by
 obtain ⟨hh,g,d,t,os⟩:=s;exact W.make_core (W.makes_of X hm) (W.looks_findIn X hi) (λ self=>W.bind_fn X self hf) (.inl rfl) h
end
def Z4 (f:Str) (v:V):List (Str×V)->List (Str×V)
 | []=>[(f,v)]
 | (g,x)::r=>if g=f then (g,v)::r else (g,x)::Z4 f v r
theorem a1i (f g:Str) (v:V):∀ fs:List (Str×V),(Z4 f v fs).lookup g=if g=f then some v else fs.lookup g
 | []=>by
  show List.lookup g [(f,v)]=_
  by_cases h:g=f
  ·have hb:(g==f)=true:=beq_iff_eq.mpr h
   simp only [List.lookup,hb,if_pos h]
  ·have hb:(g==f)=false:=beq_eq_false_iff_ne.mpr h
   simp only [List.lookup,hb,if_neg h]
 | (k,x)::r=>by
  have ih:=a1i f g v r;rw [show Z4 f v ((k,x)::r)=(if k=f then (k,v)::r else (k,x)::Z4 f v r) from rfl]
  by_cases hk:k=f
  ·rw [if_pos hk]
   by_cases h:g=k
   ·have hb:(g==k)=true:=beq_iff_eq.mpr h
    simp only [List.lookup,hb,if_pos (h.trans hk)]
   ·have hb:(g==k)=false:=beq_eq_false_iff_ne.mpr h
    simp only [List.lookup,hb,if_neg (λ e:g=f=>h (e.trans hk.symm))]
  ·rw [if_neg hk]
   by_cases h:g=k
   ·have hb:(g==k)=true:=beq_iff_eq.mpr h
    simp only [List.lookup,hb,if_neg (λ e:g=f=>hk (h.symm.trans e))]
   ·have hb:(g==k)=false:=beq_eq_false_iff_ne.mpr h
    simp only [List.lookup,hb];exact ih
theorem a0Q (f:Str) (v:V):∀ fs:List (Str×V),f∈(Z4 f v fs).map (·.1)/\∀ g,g∈fs.map (·.1)->g∈(Z4 f v fs).map (·.1)
 | []=>⟨by simp [Z4],λ g h=>by simp at h⟩
 | (k,x)::r=>by
  obtain ⟨i1,i2⟩:=a0Q f v r;rw [show Z4 f v ((k,x)::r)=(if k=f then (k,v)::r else (k,x)::Z4 f v r) from rfl]
  by_cases hk:k=f
  ·rw [if_pos hk]
   subst hk;exact ⟨by simp,λ g h=>by simpa using h⟩
  ·rw [if_neg hk]
   refine ⟨?_,λ g h=>?_⟩
   ·rw [List.map_cons]
    exact List.mem_cons_of_mem _ i1
   ·rw [List.map_cons] at h ⊢
    rcases List.mem_cons.mp h with e | e
    ·exact List.mem_cons.mpr (.inl e)
    ·exact List.mem_cons_of_mem _ (i2 g e)
theorem a1o (f:Str) (v:V):∀ fs:List (Str×V),(Z4 f v fs).length<=fs.length+1
 | []=>by simp [Z4]
 | (k,x)::r=>by
  have ih:=a1o f v r;rw [show Z4 f v ((k,x)::r)=(if k=f then (k,v)::r else (k,x)::Z4 f v r) from rfl]
  by_cases hk:k=f
  ·rw [if_pos hk,List.length_cons,List.length_cons]; omega
  ·rw [if_neg hk,List.length_cons,List.length_cons]; omega
theorem RelO.some_of {v:V} {o:Option Value} (r:RelO (some v) o):∃ u,o=some u/\RelV v u:=by
 cases o with
 | none=>exact (show False from r).elim
 | some u=>exact ⟨u,rfl,r⟩
theorem RelO.none_of {o:Option Value} (r:RelO none o):o=none:=by
 cases o with
 | none=>rfl
 | some u=>exact (show False from r).elim
theorem a7w {v:V} {u:Value} (r:RelV v u):W.handedIn u=true:=by
 cases v with
 | non=>cases (show u=Value.none from r); rfl
 | bl b=>cases (show u=Value.bool b from r); rfl
 | int i=>obtain ⟨t,e⟩:=(show ∃ t,u=Value.int i t from r); cases e; rfl
 | str x=>obtain ⟨t,e⟩:=(show ∃ t,u=Value.str x t from r); cases e; rfl
 | byt b=>obtain ⟨t,e⟩:=(show ∃ t,u=Value.bytes b t from r); cases e; rfl
 | flt b=>obtain ⟨t,e⟩:=(show ∃ t,u=Value.float b t from r); cases e; rfl
 | ref a=>cases (show u=Value.ref a from r); rfl
 | ty n=>cases (show u=Value.type n from r); rfl
section
variable {P:Program} {w:World} {H H':Hp} {h h':Heap} {a C dx:Addr} {fs fs':List (Str×V)}
theorem a3C (hok:HOk P w H h) (e:H a=some (.ins C dx fs)):∃ mA,ObjM h a dx C mA/\(∀ f,RelO (fs.lookup f) (mA f))/\PySem.Within mA (fs.map (·.1))/\fs.length<=1000/\H dx=some (.own a):=by
 obtain ⟨d,z,ne,ob,mA,n,r,q⟩:=(show ObjOk P w H h a (.ins C dx fs) from hok a _ e);exact ⟨mA,⟨ob,n,ne⟩,r,q,z,d⟩
end
structure Cls (K:W.Frag) (C:Addr):Prop where
 pg:W.plainGet K C Str.empty=true
 hd:W.hasDictIn K C=true
 po:W.plainOver K C=true
 sa:W.findIn K (.ref C) "__setattr__"=some (some (.builtin "object.__setattr__"))
theorem Cls.get {K:W.Frag} {C:Addr} (c:Cls K C) (f:Str):W.plainGet K C f=true:=c.pg
def NoAttr (K:W.Frag) (C:Addr) (f:Str):Prop:=W.findIn K (.ref C) f=some none
theorem NoAttr.taker {K:W.Frag} {C:Addr} {f:Str} (n:NoAttr K C f):W.takerIn K C f=some none:=by
 unfold W.takerIn;rw [show W.findIn K (.ref C) f=some none from n];rfl
structure Con (K:W.Frag) (C:Addr) (f:Str) (v:V) (u:Value):Prop where
 at_:W.findIn K (.ref C) f=some (some u)
 rel:RelV v u
 get:W.specialIn K u "__get__"=some none
 cp:W.copiedNames.contains f=false
structure b1s (K:W.Frag) (C:Addr) (m:Str) (f:Addr):Prop where
 at_:W.findIn K (.ref C) m=some (some (.ref f))
 fn:W.isFn K (.ref f)=true
 kp:W.keepIn K (.ref f)=true
section
variable {X:Cx} {pins:List (Addr×Obj)} {σ:St} {H:Hp} {s:Shared} {a C dx:Addr} {fs:List (Str×V)} {f:Str} {v:V} {A:Around} {E:Value->Shared->Prop}
theorem a5o {b:Bool} {Q:Value->Shared->Prop} (I:Inv X pins σ H s) (e:H a=some (.ins C dx fs)) (c:Cls X.K C) (n:NoAttr X.K C f) (l:fs.lookup f=some v)
  (h:∀ u s',Inv X pins σ H s'->RelV v u->Q u s'):wpAny (model X.prog X.w) A (getAttr (.ref a) f b) Q E s:=by
 obtain ⟨mA,O,r,_,_,_⟩:=a3C I.hok e;obtain ⟨u,hu,ru⟩:=RelO.some_of (v:=v) (o:=mA f) (by rw [<- l]; exact r f);exact b0C I.kIn O (c.get f) c.hd n hu (a7w ru) (h u _ (I.tok _) ru)
theorem a2q {m:Str} {g:Addr} {pl:Sem Bool} {Q:Value×List Value->Shared->Prop} (I:Inv X pins σ H s) (e:H a=some (.ins C dx fs)) (c:Cls X.K C) (k:b1s X.K C m g) (l:fs.lookup m=none)
  (h:Q (.ref g,[.ref a]) s):wpAny (model X.prog X.w) A (getMethod (.ref a) m pl) Q E s:=by
 obtain ⟨mA,O,r,_,_,_⟩:=a3C I.hok e;have hn:mA m=none:=RelO.none_of (by rw [<- l]; exact r m);exact a9d I.kIn O (c.get m) k.at_ k.fn hn h
theorem a5l {y:V} {u:Value} {Q:Unit->Shared->Prop} (I:Inv X pins σ H s) (e:H a=some (.ins C dx fs)) (c:Cls X.K C) (n:NoAttr X.K C f) (hl:fs.length<1000) (ry:RelV y u)
  (h:∀ s',Inv X pins σ (upd H a (.ins C dx (Z4 f y fs))) s'->Q () s'):wpAny (model X.prog X.w) A (setAttr (.ref a) f u) Q E s:=by
 obtain ⟨mA,O,r,wi,_,ho⟩:=a3C I.hok e;have hz:(fs.map (·.1)).length<=sizeLine:=by rw [List.length_map,sizeLine_eq]; omega
 refine b0p I.kIn O c.sa c.po n.taker c.hd wi hz λ h' O' sb=>h _ ?_;have hd:∃ o,h'.get? dx=some o:=let ⟨o,_,_,e',_⟩:=O'.ns; ⟨o,e'⟩
 refine I.write (x:=a) (e:=dx) (by rw [e]; exact True.intro) (.inr ho) (λ b q hb z=>(sb.2 b hb).trans z) hd ?_;refine ⟨by rw [c7 O.ne]; exact ho,?_,O.ne,O'.obj,_,O'.ns,λ g=>?_,λ g hg=>?_⟩
 ·have:=a1o f y fs; omega
 ·show RelO ((Z4 f y fs).lookup g) (if g=f then some u else mA g)
  rw [a1i]
  by_cases q:g=f
  ·rw [if_pos q,if_pos q]; exact ry
  ·rw [if_neg q,if_neg q]; exact r g
 ·by_cases q:g=f
  ·rw [q]; exact (a0Q f y fs).1
  ·refine (a0Q f y fs).2 g (wi g λ z=>hg ?_)
   show (if g=f then some u else mA g)=none
   rw [if_neg q]; exact z
theorem Inv.made (I:Inv X pins σ H s):Inv X pins σ (upd (upd H s.heap.objs.size (.own (s.heap.objs.size+1))) (s.heap.objs.size+1) (.ins C s.heap.objs.size []))
  { s with heap:=(s.heap.push W.emptyDict).push (W.instObj C s.heap.objs.size) }:=by
 have e1:(s.heap.push W.emptyDict).get? s.heap.objs.size=some W.emptyDict:=Heap.get?_push_size s.heap rfl;have e2:((s.heap.push W.emptyDict).push (W.instObj C s.heap.objs.size)).get? (s.heap.objs.size+1)=some (W.instObj C s.heap.objs.size):=by
  have:=Heap.get?_push_size (s.heap.push W.emptyDict) (o:=W.instObj C s.heap.objs.size) rfl
  rwa [Heap.size_push] at this
 have e3:(s.heap.push W.emptyDict).Ns s.heap.objs.size (λ _=>none):=⟨W.emptyDict,#[],_,e1,rfl,(λ e he=>absurd he (by simp)),λ _=>rfl⟩;have I1:=I.laid (a:=s.heap.objs.size) (o:=.own (s.heap.objs.size+1)) (h':=s.heap.push W.emptyDict) (t':=s.toks) (λ b u q=>Heap.get?_push_of_some _ q) (Nat.le_refl _) ⟨_,e1⟩;refine I1.laid (a:=s.heap.objs.size+1) (o:=.ins C s.heap.objs.size []) (t':=s.toks) (λ b u q=>Heap.get?_push_of_some _ q) (Nat.le_of_eq (Heap.size_push _ _)) ?_;have ne:s.heap.objs.size≠s.heap.objs.size+1:=Nat.ne_of_lt (Nat.lt_succ_self _);refine ⟨by rw [c7 ne,upd_same],Nat.zero_le _,ne,e2,λ _=>none,(Heap.Ns1.of_empty e3).at λ o q=>Heap.get?_push_of_some _ q,λ _=>True.intro,λ y hy=>absurd rfl hy⟩
theorem b0K {prog:Program} {w:World} {env:Env} {e:Expr} {f:Str} {pos:Pos} {s:Shared} {Q:Value->Shared->Prop} (hb:attributeBase e f env (eval e env)=eval e env)
  (h:wpAny (model prog w) A (eval e env) (λ o s₁=>wpAny (model prog w) A (getAttr o f true) Q E s₁) E s):wpAny (model prog w) A (eval (.Attribute e f pos) env) Q E s :=
 Attribute_any_ h (by rw [arm_eval_Attribute,hb])
end
def b4n (K:W.Frag) (ta:TE) (f:Str):TE:=λ σ H Q=>ta σ H λ x H1=>∃ a C dx fs v,x=.ref a/\H1 a=some (.ins C dx fs)/\Cls K C/\NoAttr K C f/\fs.lookup f=some v/\Q v H1
def b6k (K:W.Frag) (ta tv:TE) (f:Str):TS:=λ D σ H=>tv σ H λ y H1=>ta σ H1 λ x H2=>∃ a C dx fs,x=.ref a/\H2 a=some (.ins C dx fs)/\Cls K C/\NoAttr K C f/\fs.length<1000 ∧
 D.nx σ (upd H2 a (.ins C dx (Z4 f y fs)))
section
variable {X:Cx} {o e value:Expr} {f:Str} {pos pos' tpos:Pos} {ta tv:TE}
theorem v5 (he:PE X e ta) (hb:attributeBase e f X.env (eval e X.env)=eval e X.env):PE X (.Attribute e f pos) (b4n X.K ta f):=by
 intro pins s σ H Q I h;refine b0K hb (C2 (he pins s σ H _ I h) λ u s1 ⟨x,H1,I1,rx,a,C,dx,fs,v,ex,ea,c,n,l,q⟩=>?_);subst ex;obtain rfl:u=Value.ref a:=rx;exact a5o I1 ea c n l λ u' s2 I2 ru=>⟨v,H1,I2,ru,q⟩
theorem a0j (ha:PE X o ta) (hv:PE X value tv) (hs:swapsWith value (some (.Attribute o f pos')) pos.line X.env=pure false):PS X (.Assign [.Attribute o f pos'] value pos) (b6k X.K ta tv f):=by
 intro pins s σ H D I h;refine plainObj_wpAny_Assign_Attribute (C2 (hv pins s σ H _ I h) λ u s1 ⟨y,H1,I1,ry,q⟩=>C2 (ha pins s1 σ H1 _ I1 q) λ ov s2 ⟨x,H2,I2,rx,a,C,dx,fs,ex,ea,c,n,l,q2⟩=>?_) hs;subst ex;obtain rfl:ov=Value.ref a:=rx;exact a5l I2 ea c n l ry λ s3 I3=>⟨σ,_,I3,q2⟩
end
section
variable {X:Cx} {pins:List (Addr×Obj)} {σ:St} {H:Hp} {s:Shared} {A:Around} {E:Value->Shared->Prop} {Q:Value->Shared->Prop} {c:Value} {b:Bool}
inductive a2o (K:W.Frag) (H:Hp):V->Value->Prop where
 | non:a2o K H .non (.type "NoneType")
 | bl (x:Bool):a2o K H (.bl x) (.type "bool")
 | int (i:Int):a2o K H (.int i) (.type "int")
 | str (x:Str):a2o K H (.str x) (.type "str")
 | flt (x:UInt64):a2o K H (.flt x) (.type "float")
 | lst {a:Addr} {xs:List V} (e:H a=some (.lst xs)):a2o K H (.ref a) (.type "list")
 | frz {a:Addr} {o:Obj} {xs:List V} (e:H a=some (.frz o (.lst xs))):a2o K H (.ref a) (.type "list")
 | tup {a:Addr} {xs:List V} (e:H a=some (.tup xs)):a2o K H (.ref a) (.type "tuple")
 | dK {a:Addr} {kvs:List (Key×V)} (e:H a=some (.dK kvs)):a2o K H (.ref a) (.type "dict")
 | dT {a:Addr} {kvs:List (List Key×V)} (e:H a=some (.dT kvs)):a2o K H (.ref a) (.type "dict")
 | ins {a C dx:Addr} {fs:List (Str×V)} (e:H a=some (.ins C dx fs)) (cl:Cls K C) (ha:W.findIn K (.ref C) "__class__"=some (some (.builtin "object.__class__")))
   (hn:W.specialIn K (.builtin "object.__class__") "__get__"=some (some (.builtin "getset_descriptor.__get__"))) (htk:W.takesIn K (.builtin "object.__class__")=some true)
   (hm:W.mroIn K C (.type "object")=some true):a2o K H (.ref a) (.ref C)
end
structure Room (k:Nat) (A:Around):Prop where
 hd:A.handled=none
 dp:A.depth+3*k+5<recursionLimit
 un:A.units+16*k+200<cLine
theorem Room.mono {j k:Nat} {A:Around} (r:Room k A) (h:j<=k):Room j A:=⟨r.hd,by have:=r.dp; omega,by have:=r.un; omega⟩
theorem Room.deeper {k:Nat} {A:Around} (r:Room (k+1) A) (env:Env):Room k (A.deeper env) :=
 ⟨r.hd,by have:=r.dp; show A.depth+1+3*k+5<_; omega,by have:=r.un; show A.units+3+16*k+200<_; omega⟩
theorem Room.in1 {k:Nat} {A:Around} (r:Room (k+1) A):Room k A.in1 :=
 ⟨r.hd,by have:=r.dp; show A.depth+3*k+5<_; omega,by have:=r.un; show A.units+1+16*k+200<_; omega⟩
theorem a5i {A:Around} {C:Addr} {us:List Value} {kw:List (Str×Value)}:(A.under (.builtin "type.__call__" ⟨.ref C::us,kw⟩)).depth=A.depth+1:=by
 first | rfl | simp [Around.under,Code.weight,Code.isCreation,Code.isGuard,Code.isCaller,Code.frames,Code.isFrame,guardIds]
theorem a5v {A:Around} {C:Addr} {us:List Value} {kw:List (Str×Value)}:(A.under (.builtin "type.__call__" ⟨.ref C::us,kw⟩)).units=A.units+1:=by
 first | rfl | simp [Around.under,Code.cUnits,Code.frames,Code.isFrame]
theorem Room.make {k:Nat} {A:Around} (r:Room (k+1) A) (C:Addr) (us:List Value) (kw:List (Str×Value)):Room k (A.under (.builtin "type.__call__" ⟨.ref C::us,kw⟩)) :=
 ⟨r.hd,by have:=r.dp; rw [a5i]; omega,by have:=r.un; rw [a5v]; omega⟩
theorem Room.depth {k:Nat} {A:Around} (r:Room k A):A.depth<recursionLimit:=by have:=r.dp; omega
theorem Room.units {k:Nat} {A:Around} (r:Room k A):A.units+64<cLine:=by have:=r.un; omega
def b0O:TA:=λ _ H Q=>Q [] H
def b2q (ta:TE) (tr:TA):TA:=λ σ H Q=>ta σ H λ x H1=>tr σ H1 λ xs H2=>Q (x::xs) H2
section
variable {X:Cx} {e:Expr} {es:List Expr} {te:TE} {t:TA} {pos:Pos}
theorem c6:PA X [] b0O:=λ _ _ _ _ H Q I h=>Calls.spliced_nil ⟨[],H,I,.nil,h⟩
theorem c5 (ha:PE X e te) (hr:PA X es t) (hs:starEach (e::es) X.env=(false,eval e X.env)::starEach es X.env:=by rfl):PA X (e::es) (b2q te t):=by
 intro pos pins s σ H Q I h;rw [hs]
 show wpAny _ _ (spliced ((false,eval e X.env)::backTo pos (starEach es X.env))) _ _ s
 refine Calls.spliced_cons (C2 (ha pins s σ H _ I h) λ u s1 ⟨x,H1,I1,r1,q1⟩=>?_);exact C2 (hr pos pins s1 σ H1 _ I1 q1) λ us s2 ⟨xs,H2,I2,r2,q2⟩=>⟨x::xs,H2,I2,.cons r1 r2,q2⟩
def b5v (t:TA):TE:=λ σ H Q=>t σ H λ xs H1=>xs.length<=sizeLine/\∀ p,H1 p=none->Q (.ref p) (upd H1 p (.tup xs))
def b5D (t:TA):TE:=λ σ H Q=>t σ H λ xs H1=>xs.length<=sizeLine/\∀ p,H1 p=none->Q (.ref p) (upd H1 p (.lst xs))
theorem U7 {x1} (h:PA X es t):PE X (.Tuple es x1 pos) (b5v t):=by
 intro pins s σ H Q I hq;refine wpAny_Tuple_spliced (C2 (h pos pins s σ H _ I hq) λ us s1 ⟨xs,H1,I1,r,z,q⟩=>⟨by rw [<- r.length]; exact z,?_⟩);have hf:H1 s1.heap.objs.size=none:=I1.hok.fresh (Nat.le_refl _);refine ⟨.ref s1.heap.objs.size,upd H1 s1.heap.objs.size (.tup xs),I1.laid (t':=s1.toks) (λ b u e=>Heap.get?_push_of_some _ e) (Nat.le_refl _) ?_,rfl,q _ hf⟩;exact ⟨z,us,r,⟨_,Heap.get?_push_size _ rfl,rfl,_,rfl⟩⟩
theorem v4 (h:PA X es t):PE X (.List es pos) (b5D t):=by
 intro pins s σ H Q I hq;refine wpAny_List_spliced (C2 (h pos pins s σ H _ I hq) λ us s1 ⟨xs,H1,I1,r,z,q⟩=>⟨by rw [<- r.length]; exact z,?_⟩);have hf:H1 s1.heap.objs.size=none:=I1.hok.fresh (Nat.le_refl _);refine ⟨.ref s1.heap.objs.size,upd H1 s1.heap.objs.size (.lst xs),I1.laid (t':=s1.toks) (λ b u e=>Heap.get?_push_of_some _ e) (Nat.le_refl _) ?_,rfl,q _ hf⟩;exact ⟨z,us,0,r,Heap.get?_push_size _ rfl⟩
end
abbrev Sp:=List V->Hp->VK->XK->Prop
abbrev CXT:=List Env->Hp->Shared->XK->Value->Shared->Prop
structure Env0 (P:Program) (w:World) (K:W.Frag) (mg:Str->Option Value) (base:Heap) (A:Around) (outer:List Env) (s:Shared) (H:Hp):Prop where
 frames:A.frames=some outer
 mod:Mod K mg base
 bs:∀ b o,base.get? b=some o->s.heap.get? b=some o/\H b=none
 bsz:base.objs.size<=s.heap.objs.size
 funs:s.heap.FunFrames base outer
 frf:∀ b∈frs outer,H b=none
 hok:HOk P w H s.heap
 bare:AllBare s.gens
def CE (outer:List Env) (P:Program) (w:World) (H:Hp) (s:Shared) (Q:VK) (u:Value) (s':Shared):Prop :=
 ∃ v H',s'.os=s.os/\AllBare s'.gens/\Un (frs outer) [] H H' s.heap s'.heap/\HOk P w H' s'.heap/\RelV v u/\Q v H'
def CR (CX:CXT) (outer:List Env) (P:Program) (w:World) (H:Hp) (s:Shared) (Q:VK) (E:XK) (r:Result) (s':Shared):Prop :=
 match r with
 | .ok (.ret u)=>CE outer P w H s Q u s'
 | .ok _=>False
 | .error e=>CX outer H s E e s'
structure FnOk (P:Program) (w:World) (K:W.Frag) (mg:Str->Option Value) (base:Heap) (CX:CXT) (k:Nat) (f:Addr) (fd:FuncData) (ps:List Str) (sp:Sp):Prop where
 len:∀ vs H Q E,sp vs H Q E->vs.length=ps.length
 run:∀ (A:Around) (outer:List Env) (s:Shared) (H:Hp) (args:Args) (us:List Value) (vs:List V) (Q:VK) (E:XK),Room k A->Env0 P w K mg base A outer s H->BindsTo s fd args (ps.zip us)->Vals vs us->sp vs H Q E →
  codeAny (model P w) A (.call (.ref f) args) (CR CX outer P w H s Q E) s
theorem FnOk.imp {P:Program} {w:World} {K:W.Frag} {mg:Str->Option Value} {base:Heap} {CX:CXT} {k:Nat} {f:Addr} {fd:FuncData} {ps:List Str} {sp sp':Sp} (F:FnOk P w K mg base CX k f fd ps sp)
  (h:∀ vs H Q E,sp' vs H Q E->sp vs H Q E):FnOk P w K mg base CX k f fd ps sp' :=
 ⟨λ vs H Q E q=>F.len vs H Q E (h _ _ _ _ q),λ A outer s H args us vs Q E hr he hb hv hs=>F.run A outer s H args us vs Q E hr he hb hv (h _ _ _ _ hs)⟩
theorem Env0.make {P:Program} {w:World} {K:W.Frag} {mg:Str->Option Value} {base:Heap} {A:Around} {outer:List Env} {s:Shared} {H:Hp} (e:Env0 P w K mg base A outer s H) (C:Addr) (us:List Value) (kw:List (Str×Value)) :
  Env0 P w K mg base (A.under (.builtin "type.__call__" ⟨.ref C::us,kw⟩)) outer s H:=⟨by first | exact e.frames | (simpa [Around.under,Code.envs,Code.isFrame,pushEnvs] using e.frames),e.mod,e.bs,e.bsz,e.funs,e.frf,e.hok,e.bare⟩
section
variable {X:Cx} {pins:List (Addr×Obj)} {σ:St} {H:Hp} {s s':Shared}
theorem Inv.env0 (I:Inv X pins σ H s):Env0 X.prog X.w X.K X.mg X.base X.A X.stack s H :=
 ⟨I.ok.frames,I.ok.mod,I.bs,Nat.le_trans I.ok.bsz I.sz,I.stack,I.stkFree,I.hok,I.bare⟩
theorem Inv.after {Q:VK} {u:Value} (I:Inv X pins σ H s) (h:CE X.stack X.prog X.w H s Q u s'):EP X pins σ Q u s':=by
 obtain ⟨v,H',os,bare,un,hok,r,q⟩:=h;obtain ⟨hh,g,d,t,os'⟩:=s';obtain rfl:os'=s.os:=os;exact ⟨v,H',I.call (h':=hh) (g':=g) (d':=d) (t':=t) (ch:=[]) un hok bare (λ b z=>absurd z (by simp)),r,q⟩
end
def b4A (sp:Sp) (dvs:List V) (E:XK) (t:TA):TE:=λ σ H Q=>t σ H λ vs H1=>sp (vs++dvs) H1 Q E
def b2a (C:Addr) (m:Str) (sp:Sp) (dvs:List V) (E:XK) (ta:TE) (t:TA):TE:=λ σ H Q=>ta σ H λ x H1=>∃ a dx fs,x=.ref a/\H1 a=some (.ins C dx fs)/\fs.lookup m=none ∧
 t σ H1 λ vs H2=>sp (x::(vs++dvs)) H2 Q E
def b4S (C:Addr) (sp:Sp) (dvs:List V) (E:XK) (t:TA):TE:=λ σ H Q=>t σ H λ vs H1=>∀ x dx,H1 x=none->H1 dx=none->dx≠x →
 sp (.ref x::(vs++dvs)) (upd (upd H1 dx (.own x)) x (.ins C dx [])) (λ v H2=>v=.non/\Q (.ref x) H2) E
def Binds (K:W.Frag) (fd:FuncData) (ps:List Str) (ds:List Value):Prop :=
 ∀ (s:Shared) (us:List Value),K.In s.heap->(us++ds).length=ps.length->BindsTo s fd ⟨us,[]⟩ (ps.zip (us++ds))
theorem Binds.all {K:W.Frag} {fd:FuncData} {ps:List Str} (h:∀ us:List Value,us.length=ps.length->bindArgs fd ⟨us,[]⟩=pure (ps.zip us)):Binds K fd ps []:=λ s us _ hl=>by
 rw [List.append_nil] at hl ⊢;exact .of_eq (h us hl)
def T4 (CX:CXT) (X:Cx) (E:XK):Prop:=∀ (pins:List (Addr×Obj)) (σ:St) (H:Hp) (s:Shared) (e:Value) (s':Shared),Inv X pins σ H s->CX X.stack H s E e s'->X.xe e s'
section
variable {X:Cx} {CX:CXT} {k:Nat} {f C:Addr} {fd:FuncData} {ps:List Str} {sp:Sp} {dvs:List V} {ds:List Value} {E:XK} {x m:Str} {p pos apos:Pos} {e o:Expr} {es:List Expr} {ta:TE} {t:TA}
theorem a5k {pins:List (Addr×Obj)} {σ:St} {H:Hp} {s:Shared} {Q:VK} {us:List Value} {vs:List V} (F:FnOk X.prog X.w X.K X.mg X.base CX k f fd ps sp) (hr:Room k X.A) (hb:Binds X.K fd ps ds) (hd:Vals dvs ds) (hx:T4 CX X E)
  (I:Inv X pins σ H s) (r:Vals vs us) (h:sp (vs++dvs) H Q E):wpAny (model X.prog X.w) X.A (call (.ref f) us) (EP X pins σ Q) X.xe s:=by
 have r2:Vals (vs++dvs) (us++ds):=r.append hd;have hl:(us++ds).length=ps.length:=by rw [<- r2.length]; exact F.len _ _ _ _ h
 refine wpAny_call (codeAny_mono (F.run X.A X.stack s H ⟨us,[]⟩ (us++ds) (vs++dvs) Q E hr I.env0 (hb s us I.kIn hl) r2 h) λ r s' hq=>?_)
 cases r with
 | error e=>exact hx pins σ H s e s' I hq
 | ok fl =>
  cases fl with
  | ret u=>exact I.after hq
  | next=>exact False.elim hq
  | brk=>exact False.elim hq
  | cont=>exact False.elim hq
theorem j5 (F:FnOk X.prog X.w X.K X.mg X.base CX k f fd ps sp) (hr:Room k X.A) (hg:Gl X x) (hm:X.mg x=some (.ref f)) (hk:W.keepIn X.K (.ref f)=true) (hb:Binds X.K fd ps ds) (hd:Vals dvs ds) (hx:T4 CX X E)
  (ha:PA X (e::es) t) (hdb:(x==("__debug__":Str))=false:=by decide) (he:starEach (e::es) X.env=(false,eval e X.env)::starEach es X.env:=by rfl) (hpl:(backTo pos (starEach es X.env)).any (·.1)=false:=by rfl) :
  PE X (.Call (.Name x p) (e::es) [] pos) (b4A sp dvs E t):=by
 intro pins s σ H Q I h;refine wpAny_Call_Name_kw (a1H I hg hm ?_ hdb);refine W.callWith_K (h₀:=X.base) I.ok.mod.kin hk (C2 (ha pos pins s σ H _ I h) λ us s1 ⟨vs,H1,I1,r,q⟩=>⟨I1.kIn,?_⟩) he hpl;exact a5k F hr hb hd hx I1 r q
theorem a3p {pl:Sem Bool} (he:PE X o ta) (c:Cls X.K C) (hm:b1s X.K C m f) (F:FnOk X.prog X.w X.K X.mg X.base CX k f fd ps sp) (hr:Room k X.A) (hb:Binds X.K fd ps ds) (hd:Vals dvs ds) (hx:T4 CX X E) (ha:PA X (e::es) t)
  (hst:starEach (e::es) X.env=(false,eval e X.env)::starEach es X.env:=by rfl) (hpl:(backTo pos (starEach es X.env)).any (·.1)=false:=by rfl)
  (ht:eval (.Call (.Attribute o m apos) (e::es) [] pos) X.env=(do
   let ov <- eval o X.env
   standAt apos.atName
   let (f,first) <- holding [ov] (getMethod ov m pl)
   callWith pos f first (backTo pos (starEach (e::es) X.env)) (backToKw pos (keywordEach [] X.env))):=by rfl) :
  PE X (.Call (.Attribute o m apos) (e::es) [] pos) (b2a C m sp dvs E ta t):=by
 intro pins s σ H Q I h;refine W.methodCall_KW (pl:=pl) (C2 (he pins s σ H _ I h) λ u s1 ⟨x,H1,I1,rx,a,dx,fs,ex,ea,l,q⟩=>?_) ht;subst ex;obtain rfl:u=Value.ref a:=rx;refine a2q I1 ea c hm l ?_;refine W.callWith_K (first:=[.ref a]) (h₀:=X.base) I.ok.mod.kin hm.kp (C2 (ha pos pins s1 σ H1 _ I1 q) λ us s2 ⟨vs,H2,I2,r,q2⟩=>⟨I2.kIn,?_⟩) hst hpl;exact a5k (us:=.ref a::us) (vs:=.ref a::vs) F hr hb hd hx I2 (.cons rfl r) q2
theorem a0F {pl:Sem Bool} (he:PE X o ta) (c:Cls X.K C) (hm:b1s X.K C m f) (F:FnOk X.prog X.w X.K X.mg X.base CX k f fd ps sp) (hr:Room k X.A) (hb:Binds X.K fd ps ds) (hd:Vals dvs ds) (hx:T4 CX X E)
  (ht:eval (.Call (.Attribute o m apos) [] [] pos) X.env=(do
   let ov <- eval o X.env
   standAt apos.atName
   let (f,first) <- holding [ov] (getMethod ov m pl)
   callWith pos f first (backTo pos (starEach [] X.env)) (backToKw pos (keywordEach [] X.env))):=by rfl) :
  PE X (.Call (.Attribute o m apos) [] [] pos) (b2a C m sp dvs E ta b0O):=by
 intro pins s σ H Q I h;refine W.methodCall_KW (pl:=pl) (C2 (he pins s σ H _ I h) λ u s1 ⟨x,H1,I1,rx,a,dx,fs,ex,ea,l,q⟩=>?_) ht;subst ex;obtain rfl:u=Value.ref a:=rx;refine a2q I1 ea c hm l ?_;exact W.callWith_K0 (first:=[.ref a]) I1.kIn hm.kp (a5k (us:=[.ref a]) (vs:=[.ref a]) F hr hb hd hx I1 (.cons rfl .nil) q)
structure Mk (K:W.Frag) (C f:Addr):Prop where
 makes:W.makesIn K C=true
 init:W.findIn K (.ref C) "__init__"=some (some (.ref f))
 fn:W.isFn K (.ref f)=true
 kp:W.keepIn K (.ref C)=true
theorem a9Y {pins:List (Addr×Obj)} {σ:St} {H:Hp} {s:Shared} {Q:VK} {us:List Value} {vs:List V} (M:Mk X.K C f) (F:FnOk X.prog X.w X.K X.mg X.base CX k f fd ps sp) (hr:Room (k+1) X.A) (hb:Binds X.K fd ps ds) (hd:Vals dvs ds)
  (hx:T4 CX X E) (I:Inv X pins σ H s) (r:Vals vs us)
  (h:∀ x dx,H x=none->H dx=none->dx≠x->sp (.ref x::(vs++dvs)) (upd (upd H dx (.own x)) x (.ins C dx [])) (λ v H2=>v=.non/\Q (.ref x) H2) E) :
  wpAny (model X.prog X.w) X.A (call (.ref C) us) (EP X pins σ Q) X.xe s:=by
 have hq:=h (s.heap.objs.size+1) s.heap.objs.size (I.hok.fresh (Nat.le_succ _)) (I.hok.fresh (Nat.le_refl _)) (Nat.ne_of_lt (Nat.lt_succ_self _));have I2:=Inv.made (C:=C) I;have r2:Vals (V.ref (s.heap.objs.size+1)::(vs++dvs)) (Value.ref (s.heap.objs.size+1)::(us++ds)):=.cons rfl (r.append hd);have hl:(Value.ref (s.heap.objs.size+1)::us++ds).length=ps.length:=by
  have e:=r2.length;rw [F.len _ _ _ _ hq] at e;exact e.symm
 refine wpAny_call (a8r (f:=f) I.kIn M.makes M.init (beq_iff_eq.mp M.fn) (codeAny_mono (F.run _ X.stack _ _ ⟨Value.ref (s.heap.objs.size+1)::us,[]⟩ (Value.ref (s.heap.objs.size+1)::(us++ds)) _ _ E (hr.make C us [])
  (I2.env0.make C us []) (hb _ (Value.ref (s.heap.objs.size+1)::us) I2.kIn hl) r2 hq) λ r s' hq'=>?_))
 cases r with
 | error e=>exact hx pins σ _ _ e s' I2 hq'
 | ok fl =>
  cases fl with
  | ret u =>
   obtain ⟨v,H',I3,rv,ev,q3⟩:=I2.after hq';subst ev;exact ⟨rv,⟨V.ref (s.heap.objs.size+1),H',I3,rfl,q3⟩⟩
  | next=>exact False.elim hq'
  | brk=>exact False.elim hq'
  | cont=>exact False.elim hq'
theorem b1a (M:Mk X.K C f) (F:FnOk X.prog X.w X.K X.mg X.base CX k f fd ps sp) (hr:Room (k+1) X.A) (hg:Gl X x) (hm:X.mg x=some (.ref C)) (hb:Binds X.K fd ps ds) (hd:Vals dvs ds) (hx:T4 CX X E)
  (ha:PA X (e::es) t) (hdb:(x==("__debug__":Str))=false:=by decide) (he:starEach (e::es) X.env=(false,eval e X.env)::starEach es X.env:=by rfl) (hpl:(backTo pos (starEach es X.env)).any (·.1)=false:=by rfl) :
  PE X (.Call (.Name x p) (e::es) [] pos) (b4S C sp dvs E t):=by
 intro pins s σ H Q I h;refine wpAny_Call_Name_kw (a1H I hg hm ?_ hdb);refine W.callWith_K (h₀:=X.base) I.ok.mod.kin M.kp (C2 (ha pos pins s σ H _ I h) λ us s1 ⟨vs,H1,I1,r,q⟩=>⟨I1.kIn,?_⟩) he hpl;exact a9Y M F hr hb hd hx I1 r q
end
section
variable {X:Cx} {CX:CXT} {k:Nat} {f C:Addr} {fd:FuncData} {ps ks:List Str} {sp:Sp} {E:XK} {x m:Str} {p pos apos kpos:Pos} {e o:Expr} {es:List Expr} {kws:List Keyword} {te ta:TE} {t tk:TA} {nm:Option Str}
structure b5s (K:W.Frag) (fd:FuncData) (ps ks:List Str) (g:List Value->List Value->List Value) (gV:List V->List V->List V):Prop where
 to:∀ (s:Shared) (us ws:List Value),K.In s.heap->(g us ws).length=ps.length->BindsTo s fd ⟨us,ks.zip ws⟩ (ps.zip (g us ws))
 rel:∀ {vs:List V} {us:List Value} {zs:List V} {ws:List Value},Vals vs us->Vals zs ws->Vals (gV vs zs) (g us ws)
variable {g:List Value->List Value->List Value} {gV:List V->List V->List V}
end
structure m8 (N P:List Str) (sc:Scope):Prop where
 kind:sc.kind=.function
 co:sc.isCoroutine=false
 gen:sc.isGenerator=false
 nd:N.Nodup
 pre:N.take P.length=P
 par:∀ x∈P,sc.names.lookup x=some .local\/sc.names.lookup x=some .cell
 nofree:∀ y∈sc.names,y.2≠.free
theorem a3e {kindOf:Str->Option NameKind} {x:Str}:∀ {binds:List (Str×Value)} {m:Str->Option Value},(∀ v,(x,v) ∉ binds)->bindL kindOf binds m x=m x
 | [],_,_=>rfl
 | (n,v)::r,m,h=>by
  unfold bindL;rw [a3e λ w hw=>h w (List.mem_cons_of_mem _ hw)]
  split
  ·have:x≠n:=by rintro rfl; exact h v List.mem_cons_self
   simp [this]
  ·rfl
theorem a2X {kindOf:Str->Option NameKind} {x:Str}:∀ {binds:List (Str×Value)} {m:Str->Option Value},(∀ v,(x,v) ∉ binds)->bindC kindOf binds m x=m x
 | [],_,_=>rfl
 | (n,v)::r,m,h=>by
  unfold bindC;rw [a2X λ w hw=>h w (List.mem_cons_of_mem _ hw)]
  split
  ·rfl
  ·have:x≠n:=by rintro rfl; exact h v List.mem_cons_self
   simp [this]
theorem a2Z {kindOf:Str->Option NameKind} {x:Str} {v:Value}:∀ {P:List Str} {vs:List Value} {i:Nat} {m:Str->Option Value},P.Nodup->P[i]?=some x->vs[i]?=some v->kindOf x=some .local →
  bindL kindOf (P.zip vs) m x=some v
 | [],_,_,_,_,h,_,_=>by simp at h
 | _::_,[],_,_,_,_,h,_=>by simp at h
 | p::P,w::vs,0,m,nd,h1,h2,hk=>by
  simp at h1 h2; subst h1; subst h2
  show bindL kindOf ((p,w)::P.zip vs) m p=_
  unfold bindL;rw [a3e λ v hv=>(List.nodup_cons.mp nd).1 (List.of_mem_zip hv).1,if_pos hk];simp
 | p::P,w::vs,i+1,m,nd,h1,h2,hk=>by
  show bindL kindOf ((p,w)::P.zip vs) m x=_
  unfold bindL;exact a2Z (i:=i) (List.nodup_cons.mp nd).2 (by simpa using h1) (by simpa using h2) hk
theorem a2U {kindOf:Str->Option NameKind} {x:Str} {v:Value}:∀ {P:List Str} {vs:List Value} {i:Nat} {m:Str->Option Value},P.Nodup->P[i]?=some x->vs[i]?=some v->kindOf x≠some .local →
  bindC kindOf (P.zip vs) m x=some v
 | [],_,_,_,_,h,_,_=>by simp at h
 | _::_,[],_,_,_,_,h,_=>by simp at h
 | p::P,w::vs,0,m,nd,h1,h2,hk=>by
  simp at h1 h2; subst h1; subst h2
  show bindC kindOf ((p,w)::P.zip vs) m p=_
  unfold bindC;rw [a2X λ v hv=>(List.nodup_cons.mp nd).1 (List.of_mem_zip hv).1,if_neg hk];simp
 | p::P,w::vs,i+1,m,nd,h1,h2,hk=>by
  show bindC kindOf ((p,w)::P.zip vs) m x=_
  unfold bindC;exact a2U (i:=i) (List.nodup_cons.mp nd).2 (by simpa using h1) (by simpa using h2) hk
def W4 (N:List Str) (vs:List V):St:=vs.map some++List.replicate (N.length - vs.length) none
def K7 (CX:CXT) (P:Program) (w:World) (K:W.Frag) (mg:Str->Option Value) (base:Heap) (N:List Str) (qual:Str) (scope:Scope) (f:Addr) (cd:Value) (A:Around) (outer:List Env) (s:Shared) (H:Hp) (E:XK):Cx where
 prog:=P
 w:=w
 K:=K
 mg:=mg
 base:=base
 A:=A.deeper (envOfC qual scope s.heap.objs.size f cd)
 N:=N
 s₀:=s
 H₀:=H
 env:=envOfC qual scope s.heap.objs.size f cd
 outer:=outer
 stack:=envOfC qual scope s.heap.objs.size f cd::outer
 ex:=[]
 calm:=true
 fn:=λ _=>true
 pn:=[]
 xe:=λ e s'=>wpAny (model P w) (A.deeper (envOfC qual scope s.heap.objs.size f cd)) (leaving (envOfC qual scope s.heap.objs.size f cd) e) (λ _ s''=>CX outer H s E e s'') (λ e' s''=>CX outer H s E e' s'') s'
theorem a4n {sc:Scope} {n:Nat} {x:Str} (h:sc.names.lookup x=some .cell):∃ c,(cellsFrom n sc.names []).lookup x=some c:=by
 have q:=W.cellsFrom_some sc.names n [] (.inl h);exact Option.isSome_iff_exists.mp q
theorem a8c {CX:CXT} {P:Program} {w:World} {K:W.Frag} {mg:Str->Option Value} {base:Heap} {N ps:List Str} {qual:Str} {scope:Scope} {f:Addr} {cd:Value} {A:Around} {outer:List Env} {s s1:Shared} {H:Hp} {E:XK} {us:List Value} {vs:List V}
  (S:m8 N ps scope) (hd:A.handled=none) (e0:Env0 P w K mg base A outer s H) (hl:vs.length=ps.length) (r:Vals vs us)
  (x:InCallC s s.heap.objs.size (bindL (envOfC qual scope s.heap.objs.size f cd).kindOf (ps.zip us) λ _=>none) (cellsFrom (s.heap.objs.size+1) scope.names []) (bindC (envOfC qual scope s.heap.objs.size f cd).kindOf (ps.zip us) λ _=>none) s1) :
  Inv (K7 CX P w K mg base N qual scope f cd A outer s H E) [] (W4 N vs) H s1:=by
 have hpl:ps.length<=N.length:=by have:=congrArg List.length S.pre; rw [List.length_take] at this; omega
 obtain ⟨h1,tk,rfl,hk⟩:=x.done;have noA:∀ b:Addr,b ∉ (K7 CX P w K mg base N qual scope f cd A outer s H E).ex:=λ b z=>absurd (show b∈([]:List Addr) from z) (by simp);refine ⟨⟨e0.mod,S.kind,rfl,rfl,Nat.le_refl _,λ y z c h1 h2=>?_,λ y hy=>?_,λ y c _ h=>?_,λ _=>hd,Around.frames_deeper e0.frames,.inr ⟨rfl,rfl⟩,λ b z=>absurd z (noA b),e0.bs,e0.bsz,λ b _ _=>noA b,λ b z=>absurd z (noA b),e0.funs,e0.frf⟩,
  rfl,e0.bare,Un.kept hk,⟨_,x.toInCall.ns,λ i y v h1 h2 h3=>?_⟩,λ y c h=>⟨_,x.cell y c h⟩,e0.hok.fresh (Nat.le_refl _),λ y c h=>?_,λ p hp=>absurd (show p∈([]:List (Addr×Obj)) from hp) (by simp),e0.hok.kept hk,?_⟩
 ·exact name_of_addr x.apart (PySem.mem_of_lookup h1) (PySem.mem_of_lookup h2)
 ·have hy:scope.names.lookup y=some .cell\/scope.names.lookup y=some .free:=hy
  rcases hy with hy | hy
  ·exact a4n hy
  ·exact absurd rfl (S.nofree _ (PySem.mem_of_lookup hy))
 ·exact Nat.le_of_lt (x.above y c (PySem.mem_of_lookup h))
 ·have hi:i<vs.length:=by
   unfold W4 at h2
   by_cases hi:i<vs.length
   ·exact hi
   ·rw [List.getElem?_append_right (by simpa using hi)] at h2
    rw [List.getElem?_replicate] at h2
    split at h2 <;> cases h2
  have ha:vs[i]?=some v:=by
   unfold W4 at h2;rw [List.getElem?_append_left (by simpa using hi),List.getElem?_map] at h2
   cases e:vs[i]? with
   | none=>rw [e] at h2; cases h2
   | some a=>rw [e] at h2; cases h2; rfl
  obtain ⟨u,hu,rv⟩:=r.get ha;have hp:ps[i]?=some y:=by
   rw [<- S.pre,List.getElem?_take_of_lt (by omega)]; exact h1
  have ndP:ps.Nodup:=by rw [<- S.pre]; exact S.nd.sublist (List.take_sublist _ _)
  refine ⟨u,rv,?_⟩;rcases S.par y (List.mem_of_getElem? hp) with k | k
  ·exact .inl ⟨k,a2Z ndP hp hu k⟩
  ·obtain ⟨c,e⟩:=a4n (n:=s.heap.objs.size+1) k
   refine .inr ⟨.inl k,c,e,?_⟩;have q:=x.cell y c e;rw [a2U ndP hp hu (by show scope.names.lookup y≠_; rw [k]; decide)] at q;exact q
 ·exact e0.hok.fresh (Nat.le_of_lt (x.above y c (PySem.mem_of_lookup h)))
 ·unfold W4
  show _=N.length
  rw [List.length_append,List.length_map,List.length_replicate];omega
theorem a8n {CX:CXT} {P:Program} {w:World} {K:W.Frag} {mg:Str->Option Value} {base:Heap} {k:Nat} {f:Addr} {name qual:Str} {params:Arguments} {body:List Stmt} {scope:Scope} {dV kV doc pm cdv ct oc:Value} {an od:Option Addr}
  {osl:Array (Option Value)} {N ps:List Str} {sp:Sp} (lk:K.lookup f=some ⟨oc,od,.func (W.fnOf name qual params body scope dV kV doc pm an cdv ct),osl⟩) (hcd:W.codeIn K cdv qual=true) (S:m8 N ps scope)
  (len:∀ vs H Q E,sp vs H Q E->vs.length=ps.length)
  (hbody:∀ (A:Around) (outer:List Env) (s:Shared) (H:Hp) (vs:List V) (Q:VK) (E:XK),Room k (A.deeper (envOfC qual scope s.heap.objs.size f cdv))->sp vs H Q E →
   ∃ t,PSs (K7 CX P w K mg base N qual scope f cdv A outer s H E) body t/\t { nx:=λ _ H'=>Q .non H',rt:=Q } (W4 N vs) H) :
  FnOk P w K mg base CX (k+1) f (W.fnOf name qual params body scope dV kV doc pm an cdv ct) ps sp:=by
 refine ⟨len,λ A outer s H args us vs Q E hr e0 hb r hsp=>?_⟩;have hl:=len _ _ _ _ hsp;have KX:K.In s.heap:=e0.mod.kin.keeps λ b o e=>(e0.bs b o e).1;have lim:s.heap.NoLimit:=e0.mod.nolimit.keeps λ b o e=>(e0.bs b o e).1;have hkind:∀ y∈ps.zip us,scope.names.lookup y.1=some .local\/(scope.names.lookup y.1=some .cell/\((cellsFrom (s.heap.objs.size+1) scope.names []).lookup y.1).isSome=true):=λ ⟨n,v⟩ hy=>by
  rcases S.par n (List.of_mem_zip hy).1 with q | q
  ·exact .inl q
  ·exact .inr ⟨q,W.cellsFrom_some _ _ _ (.inl q)⟩
 refine codeAny_call_function hr.depth (KX _ _ lk) rfl S.co S.gen rfl (W.codeRec_of KX hcd) (hb _ _ _ _ ?_);refine wpAny_newFunctionEnv_cells S.kind hkind λ env he s1 x=>?_;subst he;refine ⟨lim.keeps x.toInCall.keep,codeAny_func ?_⟩;obtain ⟨t,ht,hq⟩:=hbody A outer s H vs Q E (hr.deeper _) hsp;have I:Inv (K7 CX P w K mg base N qual scope f cdv A outer s H E) [] (W4 N vs) H s1:=a8c S hr.hd e0 hl r x;refine wpAny_mono (ht [] s1 (W4 N vs) H _ I hq) (λ fl s' hs=>?_) λ e s' hs=>hs;have fin:∀ {σ':St} {H':Hp} {v:V} {u:Value},Inv (K7 CX P w K mg base N qual scope f cdv A outer s H E) [] σ' H' s'->RelV v u->Q v H'->CE outer P w H s Q u s' :=
  λ {σ' H' v u} J rv q=>⟨v,H',J.os,J.bare,J.base,J.hok,rv,q⟩
 cases fl with
 | ret u =>
  obtain ⟨v,σ',H',J,rv,q⟩:=hs;exact fin J rv q
 | next =>
  obtain ⟨σ',H',J,q⟩:=hs;exact fin (v:=V.non) (u:=Value.none) J rfl q
 | brk =>
  obtain ⟨_,_,_,q⟩:=hs;exact False.elim q
 | cont =>
  obtain ⟨_,_,_,q⟩:=hs;exact False.elim q
section
variable {X:Cx} {x:Str} {p pos:Pos} {e:Expr} {es:List Expr} {t:TA} {id T:String} {r:List V->Hp->VK->Prop}
def tCB (r:List V->Hp->VK->Prop) (t:TA):TE:=λ σ H Q=>t σ H λ vs H1=>r vs H1 Q
theorem m6 (hc:O1 X (.builtin id) r) (hg:Gl X x) (hm:X.mg x=none) (hv:bootBuiltins x=some (.builtin id)) (ha:PA X (e::es) t) (hn:x≠"__name__":=by decide) (hdb:(x==("__debug__":Str))=false:=by decide)
  (he:starEach (e::es) X.env=(false,eval e X.env)::starEach es X.env:=by rfl) (hpl:(backTo pos (starEach es X.env)).any (·.1)=false:=by rfl):PE X (.Call (.Name x p) (e::es) [] pos) (tCB r t):=by
 intro pins s σ H Q I h;refine wpAny_Call_Name_kw (T9 I hg hm hv ?_ hn hdb);exact PyProof.Rows.callWith_builtin1 (C2 (ha pos pins s σ H _ I h) λ us s1 ⟨vs,H1,I1,r1,q1⟩=>hc pins s1 σ H1 vs us Q I1 r1 q1) he hpl
theorem r8 (hc:O1 X (.type T) r) (hg:Gl X x) (hm:X.mg x=none) (hv:bootBuiltins x=some (.type T)) (ha:PA X (e::es) t) (hn:x≠"__name__":=by decide) (hdb:(x==("__debug__":Str))=false:=by decide)
  (he:starEach (e::es) X.env=(false,eval e X.env)::starEach es X.env:=by rfl) (hpl:(backTo pos (starEach es X.env)).any (·.1)=false:=by rfl):PE X (.Call (.Name x p) (e::es) [] pos) (tCB r t):=by
 intro pins s σ H Q I h;refine wpAny_Call_Name_kw (T9 I hg hm hv ?_ hn hdb);exact PyProof.Rows.callWith_type1 (C2 (ha pos pins s σ H _ I h) λ us s1 ⟨vs,H1,I1,r1,q1⟩=>hc pins s1 σ H1 vs us Q I1 r1 q1) he hpl
end
end L2
namespace HT
open PySem PyProof.Rows
section
open PySem.SeqAt
open PySem.AutoSeq1 (wpAny_loadPart')
open PySem.MeetsSeq PySem.MeetsSeq2 PySem.MeetsSeq3
end
section
variable {prog:Program} {w:World} {A:Around} {E:Value->Shared->Prop} {s:Shared}
theorem cat_tup {t b:Addr} {vs ws:List Value} {Q:Value->Shared->Prop} (ht:IsTup s.heap t vs.toArray) (hb:IsTup s.heap b ws.toArray) (hv:vs≠[])
  (h1:ws=[]->Q (.ref t) s) (h2:ws≠[]->Q (.ref s.heap.objs.size) { s with heap:=s.heap.push { cls:=.type "tuple",data:=.seq (vs++ws).toArray } })
  (hsz:vs.length+ws.length<=sizeLine):wpAny (model prog w) A (binaryOp .Add (.ref t) (.ref b)) Q E s:=by
 obtain ⟨⟨cls,dd,data,sl⟩,ho,hc,n,hd⟩:=id ht;obtain ⟨⟨cls2,dd2,data2,sl2⟩,ho2,hc2,n2,hd2⟩:=id hb;simp only at hc hd hc2 hd2;subst hc hd hc2 hd2;have e:vs.toArray++ws.toArray=(vs++ws).toArray:=by simp
 by_cases hw:ws=[]
 ·exact concat_meets ⟨_,ho,rfl⟩ ⟨_,ho2,rfl⟩ noFill_tuple_add seq_tuple_add PySem.F.slot_tuple_add PySem.F.entry_tuple_add (PySem.F.args_tuple_add_2 _ _)
   (tuple_addW1 t b vs.toArray ws.toArray n n2 dd dd2 sl sl2 (by simpa using hv) (by simp [hw])) ⟨ho,ho2,h1 hw⟩
 ·refine concat_meets ⟨_,ho,rfl⟩ ⟨_,ho2,rfl⟩ noFill_tuple_add seq_tuple_add PySem.F.slot_tuple_add PySem.F.entry_tuple_add (PySem.F.args_tuple_add_2 _ _)
   (tuple_addW2 t b vs.toArray ws.toArray n n2 dd dd2 sl sl2 (by simpa using hv) (by simpa using hw) (by rw [List.size_toArray,List.size_toArray]; exact hsz)) ⟨ho,ho2,?_⟩
  rw [e];exact h2 hw
def sIx (n d:Nat):Option Int->Nat
 | none=>d
 | some v=>if v<0 then (v+(n:Int)).toNat else min v.toNat n
theorem sIx_none (n d:Nat):sIx n d none=d:=rfl
theorem sIx_nat (n d k:Nat):sIx n d (some (k:Int))=min k n:=by
 show (if (k:Int)<0 then ((k:Int)+(n:Int)).toNat else min (k:Int).toNat n)=min k n
 rw [if_neg (by omega),Int.toNat_natCast]
end
end HT
namespace L2
open PySem PySem.Spec PyProof.Rows
abbrev TO:=St->Hp->(Option Int->Hp->Prop)->Prop
def PO (X:Cx) (e:Option Expr) (t:TO):Prop :=
 ∀ (pins:List (Addr×Obj)) (s:Shared) (σ:St) (H:Hp) (Q:Option Int->Hp->Prop),Inv X pins σ H s->t σ H Q →
  wpAny (model X.prog X.w) X.A (evalPart e X.env) (λ u s'=>∃ o H',Inv X pins σ H' s'/\IsPart u o/\Q o H') X.xe s
def b1t:TO:=λ _ H Q=>Q none H
def b4k (t:TE):TO:=λ σ H Q=>t σ H λ x H1=>∃ i,x=.int i/\Q (some i) H1
section
variable {X:Cx} {e:Expr} {te:TE} {lo hi:Option Expr} {tl th:TO} {pos p2:Pos}
theorem a0H:PO X none b1t:=by
 intro pins s σ H Q I h;rw [evalPart_none];exact wpAny_pure ⟨none,H,I,.none,h⟩
theorem T7 (h:PE X e te):PO X (some e) (b4k te):=by
 intro pins s σ H Q I hw;rw [evalPart_some];refine C2 (h pins s σ H _ I hw) λ u s1 ⟨x,H1,I1,r1,q1⟩=>?_;obtain ⟨i,rfl,q⟩:=q1;obtain ⟨t,rfl⟩:=r1;exact ⟨some i,H1,I1,.int i t,q⟩
def SlR (X:Cx) (r:V->Option Int->Option Int->Hp->VK->Prop):Prop :=
 ∀ (pins:List (Addr×Obj)) (s:Shared) (σ:St) (H:Hp) (x:V) (v vl vu:Value) (lo hi:Option Int) (sl:Addr) (Q:VK),Inv X pins σ H s->RelV x v->s.heap.IsSliceOf sl vl vu .none->IsPart vl lo->IsPart vu hi->r x lo hi H Q →
  ∃ T id,typeLookup (.type T) "__getitem__"=pure (some (.builtin id))/\s.TypeIs v T/\wpAny (model X.prog X.w) X.A (getItem v (.ref sl)) (EP X pins σ Q) X.xe s
def tSl (r:V->Option Int->Option Int->Hp->VK->Prop) (te:TE) (tl th:TO):TE:=λ σ H Q=>te σ H λ x H1=>tl σ H1 λ l H2=>th σ H2 λ u H3=>r x l u H3 Q
theorem S8 {r:V->Option Int->Option Int->Hp->VK->Prop} (hr:SlR X r) (he:PE X e te) (hl:PO X lo tl) (hu:PO X hi th):PE X (.Subscript e (.Slice lo hi none p2) pos) (tSl r te tl th):=by
 intro pins s σ H Q I h;refine Subscript_ (C2 (he pins s σ H _ I h) λ v s1 ⟨x,H1,I1,r1,q1⟩=>?_);refine wpAny_Slice (C2 (hl pins s1 σ H1 _ I1 q1) λ vl s2 ⟨l,H2,I2,pl,q2⟩=>C2 (hu pins s2 σ H2 _ I2 q2) λ vu s3 ⟨u,H3,I3,pu,q3⟩=>?_);rw [evalPart_none];refine wpAny_pure ?_;have I4:Inv X pins σ H3 { s3 with heap:=s3.heap.push { cls:=.type "slice",data:=.fields #[vl,vu,.none] } }:=I3.kept (t':=s3.toks) λ b ob q=>Heap.get?_push_of_some _ q;obtain ⟨T,id,hT,ht,hg⟩:=hr pins { s3 with heap:=s3.heap.push { cls:=.type "slice",data:=.fields #[vl,vu,.none] } } σ H3 x v vl vu l u s3.heap.objs.size Q I4 r1 (Heap.IsSliceOf.new ..) pl pu q3
 show wpAny (model X.prog X.w) X.A (subscriptTail e (.Slice lo hi none p2) v (.ref s3.heap.objs.size)) (EP X pins σ Q) X.xe { s3 with heap:=s3.heap.push { cls:=.type "slice",data:=.fields #[vl,vu,.none] } }
 exact tail_any (ops:=[.ref s3.heap.objs.size,v]) ht hT hg (by with_unfolding_all rfl)
def O8 (xs:List V) (lo hi:Option Int):List V:=(xs.drop (HT.sIx xs.length 0 lo)).take (HT.sIx xs.length xs.length hi - HT.sIx xs.length 0 lo)
theorem a4x (xs:List V) (lo hi:Option Int):(O8 xs lo hi).length<=xs.length:=by
 unfold O8;rw [List.length_take,List.length_drop];omega
def b4g (K:W.Frag):R2:=λ x y H Q=>∃ a b xs ys,x=.ref a/\y=.ref b/\SqT K H a xs/\SqT K H b ys/\xs≠[]/\xs.length+ys.length<=sizeLine ∧
 (ys=[]->Q (.ref a) H)/\(ys≠[]->∀ p,H p=none->Q (.ref p) (upd H p (.tup (xs++ys))))
theorem Vals.nil_iff {xs:List V} {us:List Value} (r:Vals xs us):us=[] ↔ xs=[]:=by
 cases r with
 | nil=>simp
 | cons _ _=>simp
theorem b0U:OpR X (binaryOp .Add) (b4g X.K):=by
 intro pins s σ H x y v u Q I rx ry h;obtain ⟨a,b,xs,ys,rfl,rfl,ha,hb,hx,hz,q1,q2⟩:=h
 cases rx
 cases ry;obtain ⟨its,r1,p1,_⟩:=I.tuple ha;obtain ⟨its2,r2,p2,_⟩:=I.tuple hb;refine HT.cat_tup p1 p2 (λ z=>hx (r1.nil_iff.mp z)) (λ z=>⟨.ref a,H,I,rfl,q1 (r2.nil_iff.mp z)⟩) (λ z=>?_) (by rw [<- r1.length,<- r2.length]; exact hz);refine ⟨.ref s.heap.objs.size,_,I.laid (t':=s.toks) (o:=.tup (xs++ys)) (λ b ob q=>Heap.get?_push_of_some _ q) (Nat.le_refl _) ?_,rfl,q2 (λ w=>z (r2.nil_iff.mpr w)) _ (I.hok.fresh (Nat.le_refl _))⟩;exact ⟨by rw [List.length_append]; exact hz,_,r1.append r2,IsTup.new _ _⟩
end
def ixN (n:Nat) (i:Int):Option Nat:=if 0<=i then (if i<n then some i.toNat else none) else if -(n:Int)<=i then some (i+n).toNat else none
def atI {α:Type} (xs:List α) (i:Int):Option α:=(ixN xs.length i).bind λ j=>xs[j]?
theorem a6c {n:Nat} {i:Int} {j:Nat} (h:ixN n i=some j):seqIndex? i n=some j/\j<n/\-(n:Int)<=i/\i<n:=by
 unfold ixN at h
 by_cases h0:0<=i
 ·rw [if_pos h0] at h
  by_cases h1:i<n
  ·rw [if_pos h1] at h
   have e:i.toNat=j:=Option.some.inj h;exact ⟨by rw [seqIndex_of h0 h1,e],by omega,by omega,h1⟩
  ·rw [if_neg h1] at h; cases h
 ·rw [if_neg h0] at h
  by_cases h1:-(n:Int)<=i
  ·rw [if_pos h1] at h
   have e:(i+n).toNat=j:=Option.some.inj h;exact ⟨by rw [seqIndex_neg (by omega) h1,e],by omega,h1,by omega⟩
  ·rw [if_neg h1] at h; cases h
theorem a7b {α:Type} {xs:List α} {i:Int} {v:α} (h:atI xs i=some v):∃ j,seqIndex? i xs.length=some j/\xs[j]?=some v/\j<xs.length/\-(xs.length:Int)<=i/\i<xs.length:=by
 unfold atI at h
 cases e:ixN xs.length i with
 | none=>rw [e] at h; cases h
 | some j =>
  rw [e] at h;obtain ⟨h1,h2,h3,h4⟩:=a6c e;exact ⟨j,h1,h,h2,h3,h4⟩
theorem t9 {α:Type} {xs:List α} {j:Nat} {v:α} (h:xs[j]?=some v):atI xs (j:Int)=some v:=by
 have hj:j<xs.length:=(List.getElem?_eq_some_iff.mp h).1;have e:ixN xs.length (j:Int)=some j:=by
  unfold ixN;rw [if_pos (by omega),if_pos (by omega)]; simp
 unfold atI; rw [e]; exact h
def b1D (b:Expr):Prop:=∀ o i,subscripted b false o i=operate [o,i] (getItem o i)
def IxR (X:Cx) (r:R2):Prop :=
 ∀ (value slice:Expr) (pins:List (Addr×Obj)) (s:Shared) (σ:St) (H:Hp) (x y:V) (v u:Value) (Q:VK),Inv X pins σ H s->RelV x v->RelV y u->r x y H Q →
  subscripted slice false v u=operate [v,u] (getItem v u)->wpAny (model X.prog X.w) X.A (subscriptTail value slice v u) (EP X pins σ Q) X.xe s
def MtR (X:Cx) (id:String) (r:V->List V->Hp->VK->Prop):Prop :=
 ∀ (pins:List (Addr×Obj)) (s:Shared) (σ:St) (H:Hp) (x:V) (xs:List V) (v:Value) (us:List Value) (Q:VK),Inv X pins σ H s->RelV x v->Vals xs us->r x xs H Q →
  wpAny (model X.prog X.w) X.A (call (.builtin id) (v::us)) (EP X pins σ Q) X.xe s
section
variable {X:Cx} {a b:Expr} {ta tb:TE} {pos:Pos}
theorem j3 {r:R2} (hr:IxR X r) (ha:PE X a ta) (hb:PE X b tb) (hs:b1D b):PE X (.Subscript a b pos) (tOp r ta tb):=by
 intro pins s σ H Q I h;exact Subscript_ (b3a ha hb I h λ v u s2 x y H2 I2 rx ry q=>hr a b pins s2 σ H2 x y v u Q I2 rx ry q (hs _ _))
def b3Y (K:W.Frag):R2:=λ x y H Q=>∃ p xs i v,x=.ref p/\y=.int i/\SqL K H p xs/\atI xs i=some v/\Q v H
def b4x (K:W.Frag):R2:=λ x y H Q=>∃ p xs i v,x=.ref p/\y=.int i/\SqT K H p xs/\atI xs i=some v/\Q v H
theorem i7:IxR X (b3Y X.K):=by
 intro value slice pins s σ H x y v u Q I rx ry h hs;obtain ⟨p,xs,i,z,rfl,rfl,hq,he,q⟩:=h
 cases rx;obtain ⟨t,rfl⟩:=ry;obtain ⟨its,r,pl,hz⟩:=I.list hq;obtain ⟨j,h1,h2,h3,h4,h5⟩:=a7b he;obtain ⟨w,ew,rw'⟩:=r.get h2;have hl:=r.length;have hn:=a1Q;have fin:EP X pins σ Q w s:=⟨z,H,I,rw',q⟩
 by_cases h0:0<=i
 ·have hj:i.toNat=j:=by
   rw [seqIndex_of h0 h5] at h1;exact Option.some.inj h1
  exact item_listR pl.isList h0 (by omega) (by rw [hj]; simpa using ew) fin hs
 ·have hj:(i+(its.toArray.size:Int)).toNat=j:=by
   rw [seqIndex_neg (by omega) h4] at h1;rw [List.size_toArray,<- hl];exact Option.some.inj h1
  exact subscriptTail_builtinR (x:=w) pl.isList.typeIs slot_list_getitem.lookup
   (wpAny_getItem_list_neg (Q:=λ r s'=>r=w/\EP X pins σ Q r s') pl.isList (by omega) (by rw [List.size_toArray] <;> omega) (by omega) (by rw [hj]; simpa using ew) ⟨rfl,fin⟩) hs
theorem E6:IxR X (b4x X.K):=by
 intro value slice pins s σ H x y v u Q I rx ry h hs;obtain ⟨p,xs,i,z,rfl,rfl,hq,he,q⟩:=h
 cases rx;obtain ⟨t,rfl⟩:=ry;obtain ⟨its,r,pl,hz⟩:=I.tuple hq;obtain ⟨j,h1,h2,h3,h4,h5⟩:=a7b he;obtain ⟨w,ew,rw'⟩:=r.get h2;have hl:=r.length;have hn:=a1Q;have fin:EP X pins σ Q w s:=⟨z,H,I,rw',q⟩;exact subscriptTail_builtinR (x:=w) pl.typeIs slot_tuple_getitem.lookup
  (getItem_tuple (j:=j) (Q:=λ r s'=>r=w/\EP X pins σ Q r s') pl (by omega) (by omega) (by rw [List.size_toArray,<- hl]; exact h1) (by simpa using ew) ⟨rfl,fin⟩) hs
theorem a5M (its:List Value) (n j:Nat) (u:Value):Obj.mapSeq (·.setIfInBounds j u) { cls:=.type "list",data:=.seq its.toArray n }={ cls:=.type "list",data:=.seq (its.set j u).toArray n }:=by
 simp [Obj.mapSeq]
theorem Inv.lst {pins:List (Addr×Obj)} {σ:St} {H:Hp} {s:Shared} {p:Addr} {xs:List V} (I:Inv X pins σ H s) (h:H p=some (.lst xs)) :
  ∃ (its:List Value) (n:Nat),Vals xs its/\s.heap.get? p=some { cls:=.type "list",data:=.seq its.toArray n }/\xs.length<=sizeLine:=by
 obtain ⟨z,its,n,r,e⟩:=I.hok p _ h;exact ⟨its,n,r,e,z⟩
theorem Inv.lstUpd {pins:List (Addr×Obj)} {σ:St} {H:Hp} {s:Shared} {p:Addr} {xs ys:List V} {its its':List Value} {n n':Nat} {f:Obj->Obj} (I:Inv X pins σ H s) (h:H p=some (.lst xs))
  (ho:s.heap.get? p=some { cls:=.type "list",data:=.seq its.toArray n }) (hf:f { cls:=.type "list",data:=.seq its.toArray n }={ cls:=.type "list",data:=.seq its'.toArray n' }) (r:Vals ys its') (hz:ys.length<=sizeLine) (t:Nat) :
  Inv X pins σ (upd H p (.lst ys)) { s with heap:=s.heap.update p f,toks:=t }:=by
 have e:(s.heap.update p f).get? p=some { cls:=.type "list",data:=.seq its'.toArray n' }:=by
  rw [Heap.get?_update_self f ho (by rw [hf] <;> rfl),hf]
 refine I.write (x:=p) (e:=p) (by rw [h]; trivial) (.inl rfl) (λ b u hb q=>(Heap.get?_update_other _ _ (Ne.symm hb)).trans q) ⟨_,e⟩ ?_;exact ⟨hz,its',n',r,e⟩
def b4q:V->V->V->Hp->(Hp->Prop)->Prop:=λ o i v H Q=>∃ p xs k j,o=.ref p/\i=.int k/\H p=some (.lst xs)/\ixN xs.length k=some j/\Q (upd H p (.lst (xs.set j v)))
theorem G3:b4m X b4q:=by
 intro pins s σ H o i v ov iv u Q I ro ri rv h;obtain ⟨p,xs,k,j,rfl,rfl,hp,hj,q⟩:=h
 cases ro;obtain ⟨t,rfl⟩:=ri;obtain ⟨its,n,r,ho,hz⟩:=I.lst hp;obtain ⟨h1,h2,h3,h4⟩:=a6c hj;have hl:=r.length;have hn:=a1Q;have I':Inv X pins σ (upd H p (.lst (xs.set j v))) { s with heap:=s.heap.update p (Obj.mapSeq (·.setIfInBounds j u)) } :=
  I.lstUpd hp ho (a5M its n j u) (r.set rv j) (by rw [List.length_set]; exact hz) s.toks
 by_cases h0:0<=k
 ·have hk:k.toNat=j:=by
   rw [seqIndex_of h0 h4] at h1;exact Option.some.inj h1
  exact W.ki_setAt ho h0 (by omega) (by rw [List.size_toArray,<- hl]; exact h4) (by rw [hk]; exact ⟨_,I',q⟩)
 ·have hk:(k+(its.toArray.size:Int)).toNat=j:=by
   rw [seqIndex_neg (by omega) h3] at h1;rw [List.size_toArray,<- hl];exact Option.some.inj h1
  exact W.ki_setBack ho (by omega) (by rw [List.size_toArray,<- hl]; exact h3) (by omega) (by rw [hk]; exact ⟨_,I',q⟩)
theorem a3V (lo hi:Option Int) (n:Nat):(sliceBounds lo hi none n).1=((HT.sIx n 0 lo:Nat):Int)/\(sliceBounds lo hi none n).2.1=((HT.sIx n n hi:Nat):Int)/\(sliceBounds lo hi none n).2.2=1:=by
 refine ⟨?_,?_,rfl⟩
 ·cases lo with
  | none=>simp [sliceBounds,HT.sIx]
  | some i =>
   simp only [sliceBounds,HT.sIx,Option.getD_none,show (1:Int)>0 by decide,if_true]
   by_cases h:i<0
   ·simp only [h,if_true] <;> omega
   ·simp only [h,if_false] <;> omega
 ·cases hi with
  | none=>simp [sliceBounds,HT.sIx]
  | some i =>
   simp only [sliceBounds,HT.sIx,Option.getD_none,show (1:Int)>0 by decide,if_true]
   by_cases h:i<0
   ·simp only [h,if_true] <;> omega
   ·simp only [h,if_false] <;> omega
theorem a2C (its:List Value) (lo hi:Option Int):slicePick its.toArray lo hi none=((its.drop (HT.sIx its.length 0 lo)).take (HT.sIx its.length its.length hi - HT.sIx its.length 0 lo)).toArray:=by
 obtain ⟨h1,h2,h3⟩:=a3V lo hi its.toArray.size;unfold slicePick;rw [h1,h2,h3];simp only [sliceRange_one,pick_run,List.size_toArray] <;> rfl
def b6h (K:W.Frag):V->Option Int->Option Int->Hp->VK->Prop:=λ x lo hi H Q=>∃ a xs,x=.ref a/\SqL K H a xs/\∀ p,H p=none->Q (.ref p) (upd H p (.lst (O8 xs lo hi)))
theorem Y3:SlR X (b6h X.K):=by
 intro pins s σ H x v vl vu lo hi sl Q I rx hs pl pu h;obtain ⟨a,xs,rfl,hx,q⟩:=h
 cases rx;obtain ⟨its,r,ht,hz⟩:=I.list hx;have hlen:=r.length;refine ⟨"list",_,slot_list_getitem.lookup,ht.isList.typeIs,?_⟩;refine wpAny_getItem_list_slice ht.isList hs pl pu .none (by simp) ?_ (by rw [List.size_toArray] <;> omega);rw [a2C,<- hlen];refine ⟨.ref s.heap.objs.size,_,I.laid (t':=s.toks) (o:=.lst (O8 xs lo hi)) (λ b ob q=>Heap.get?_push_of_some _ q) (Nat.le_refl _) ?_,rfl,q _ (I.hok.fresh (Nat.le_refl _))⟩;exact ⟨Nat.le_trans (a4x xs lo hi) hz,_,0,(r.drop (HT.sIx xs.length 0 lo)).take (HT.sIx xs.length xs.length hi - HT.sIx xs.length 0 lo),Heap.get?_push_size _ rfl⟩
def a0a:V->Bool
 | .non=>true
 | .bl _=>true
 | .int _=>true
 | .str _=>true
 | _=>false
def eqV:V->V->Bool
 | .non,.non=>true
 | .bl a,.bl b=>a==b
 | .bl a,.int b=>(if a then 1 else 0)==b
 | .int a,.bl b=>a==(if b then 1 else 0)
 | .int a,.int b=>a==b
 | .str a,.str b=>a==b
 | _,_=>false
theorem b3D {A:Around} {s:Shared} {y x:V} {u v:Value} (ry:RelV y u) (rx:RelV x v) (fy:a0a y=true) (fx:a0a x=true):SeqAt.EqAt A s u v (eqV y x):=by
 cases y with
 | non =>
  cases ry
  cases x with
  | non=>cases rx; exact SeqAt.EqAt.same _
  | bl b=>cases rx; exact SeqAt.EqAt.none_bool b
  | int b=>obtain ⟨t,rfl⟩:=rx; exact SeqAt.EqAt.none_int b t
  | str b=>obtain ⟨t,rfl⟩:=rx; exact SeqAt.EqAt.none_str b t
  | _=>exact absurd (show false=true from fx) Bool.false_ne_true
 | bl a =>
  cases ry
  cases x with
  | non=>cases rx; exact SeqAt.EqAt.bool_none a
  | bl b=>cases rx; exact SeqAt.EqAt.bool_bool a b
  | int b=>obtain ⟨t,rfl⟩:=rx; exact SeqAt.EqAt.bool_int a b t
  | str b=>obtain ⟨t,rfl⟩:=rx; exact SeqAt.EqAt.bool_str a b t
  | _=>exact absurd (show false=true from fx) Bool.false_ne_true
 | int a =>
  obtain ⟨t',rfl⟩:=ry
  cases x with
  | non=>cases rx; exact SeqAt.EqAt.int_none a t'
  | bl b=>cases rx; exact SeqAt.EqAt.int_bool a t' b
  | int b=>obtain ⟨t,rfl⟩:=rx; exact SeqAt.EqAt.int_int a t' b t
  | str b=>obtain ⟨t,rfl⟩:=rx; exact SeqAt.EqAt.int_str a t' b t
  | _=>exact absurd (show false=true from fx) Bool.false_ne_true
 | str a =>
  obtain ⟨t',rfl⟩:=ry
  cases x with
  | non=>cases rx; exact SeqAt.EqAt.str_none a t'
  | bl b=>cases rx; exact SeqAt.EqAt.str_bool a t' b
  | int b=>obtain ⟨t,rfl⟩:=rx; exact SeqAt.EqAt.str_int a t' b t
  | str b=>obtain ⟨t,rfl⟩:=rx; exact SeqAt.EqAt.str_str a t' b t
  | _=>exact absurd (show false=true from fx) Bool.false_ne_true
 | _=>exact absurd (show false=true from fy) Bool.false_ne_true
def eqU (x:V) (u:Value):Bool:=match u with
 | .none=>eqV .non x
 | .bool b=>eqV (.bl b) x
 | .int i _=>eqV (.int i) x
 | .str z _=>eqV (.str z) x
 | _=>false
theorem a5s {x y:V} {u:Value} (r:RelV y u) (f:a0a y=true):eqU x u=eqV y x:=by
 cases y with
 | non=>cases r; rfl
 | bl b=>cases r; rfl
 | int i=>obtain ⟨t,rfl⟩:=r; rfl
 | str z=>obtain ⟨t,rfl⟩:=r; rfl
 | _=>exact absurd (show false=true from f) Bool.false_ne_true
theorem a3U {x:V}:∀ {xs:List V} {us:List Value},Vals xs us->xs.all a0a=true->us.any (eqU x)=xs.any λ y=>eqV y x
 | _,_,.nil,_=>rfl
 | y::xs,u::us,.cons r t,f=>by
  rw [List.all_cons,Bool.and_eq_true] at f;rw [List.any_cons,List.any_cons,a5s r f.1,a3U t f.2]
theorem a0B {A:Around} {s:Shared} {x:V} {v:Value} (rx:RelV x v) (fx:a0a x=true):∀ {xs:List V} {us:List Value},Vals xs us->xs.all a0a=true->∀ u∈us,SeqAt.EqAt A s u v (eqU x u)
 | _,_,.nil,_=>λ u hu=>by cases hu
 | y::xs,u::us,.cons r t,f=>λ u' hu=>by
  rw [List.all_cons,Bool.and_eq_true] at f;rcases List.mem_cons.mp hu with rfl | hu
  ·rw [a5s r f.1]; exact b3D r rx f.1 fx
  ·exact a0B rx fx t f.2 u' hu
def inV (x:V) (xs:List V):Bool:=xs.any λ y=>eqV y x
def rIn (K:W.Frag) (neg:Bool):R2:=λ x y H Q=>∃ p xs,y=.ref p/\(SqL K H p xs\/SqT K H p xs)/\a0a x=true/\xs.all a0a=true/\Q (.bl (if neg then !inV x xs else inV x xs)) H
theorem a3L:OpR X (compareOp .NotIn) (rIn X.K true):=by
 intro pins s σ H x y v u Q I rx ry h;obtain ⟨p,xs,rfl,hq,fx,fs,q⟩:=h
 cases ry;rcases hq with hq | hq
 ·obtain ⟨its,r,pl,hz⟩:=I.list hq
  refine SeqAt.notIn_listAt (eqU x) pl.isList (λ w hw=>a0B rx fx r fs w (by simpa using hw)) ⟨.bl _,H,I,rfl,?_⟩;rw [show its.toArray.any (eqU x)=its.any (eqU x) by simp,a3U r fs];exact q
 ·obtain ⟨its,r,pl,hz⟩:=I.tuple hq
  refine SeqAt.notIn_tupleAt (eqU x) pl (λ w hw=>a0B rx fx r fs w (by simpa using hw)) ⟨.bl _,H,I,rfl,?_⟩;rw [show its.toArray.any (eqU x)=its.any (eqU x) by simp,a3U r fs];exact q
theorem j6:O1 X (.builtin "len") (λ xs H Q=>∃ p ys,xs=[.ref p]/\(SqL X.K H p ys\/SqT X.K H p ys)/\Q (.int ys.length) H):=by
 intro pins s σ H xs us Q I r h;obtain ⟨p,ys,rfl,hq,q⟩:=h;obtain ⟨u,rfl,rx⟩:=O7 r
 cases rx;have hn:=a1Q;rcases hq with hq | hq
 ·obtain ⟨its,r',pl,hz⟩:=I.list hq
  have hlen:=r'.length;exact Calls.call_len_list pl.isList (by simp only [List.size_toArray] <;> omega) ⟨.int ys.length,H,I.tok _,⟨s.toks+1,by rw [List.size_toArray,hlen]⟩,q⟩
 ·obtain ⟨its,r',pl,hz⟩:=I.tuple hq
  have hlen:=r'.length;exact len_tuple pl (by simp only [List.size_toArray] <;> omega) ⟨.int ys.length,H,I.tok _,⟨s.toks+1,by rw [List.size_toArray,hlen]⟩,q⟩
theorem D3:O1 X (.type "list") (λ xs H Q=>∃ p ys,xs=[.ref p]/\(SqL X.K H p ys\/SqT X.K H p ys)/\∀ l,H l=none->Q (.ref l) (upd H l (.lst ys))):=by
 intro pins s σ H xs us Q I r h;obtain ⟨p,ys,rfl,hq,q⟩:=h;obtain ⟨u,rfl,rx⟩:=O7 r
 cases rx;have fin:∀ (its:List Value),Vals ys its->ys.length<=sizeLine->∀ (h':Heap) (c':Nat),(∀ b o',s.heap.get? b=some o'->h'.get? b=some o') →
   h'.get? s.heap.objs.size=some { cls:=.type "list",dict:=none,data:=.seq its.toArray c',slots:=#[] }->EP X pins σ Q (.ref s.heap.objs.size) { s with heap:=h' }:=λ its r' hz h' c' kp e =>
  ⟨.ref s.heap.objs.size,_,I.laid (t':=s.toks) kp (Nat.le_refl _) (show ObjOk X.prog X.w _ h' _ (.lst ys) from ⟨hz,its,c',r',e⟩),rfl,q _ (I.hok.fresh (Nat.le_refl _))⟩
 rcases hq with hq | hq
 ·obtain ⟨its,r',pl,hz⟩:=I.list hq
  have hlen:=r'.length;obtain ⟨o,ho,hc,n,hd⟩:=pl.isList;exact call_list_seq p (.inl rfl) ho hc hd (λ h' c' kp e=>fin its r' hz h' c' kp e) (by simp only [List.size_toArray] <;> omega)
 ·obtain ⟨its,r',pl,hz⟩:=I.tuple hq
  have hlen:=r'.length;obtain ⟨o,ho,hc,n,hd⟩:=pl;exact call_list_seq p (.inr rfl) ho hc hd (λ h' c' kp e=>fin its r' hz h' c' kp e) (by simp only [List.size_toArray] <;> omega)
theorem D8:O1 X (.type "tuple") (λ xs H Q=>∃ p ys,xs=[.ref p]/\((SqL X.K H p ys/\∀ l,H l=none->Q (.ref l) (upd H l (.tup ys)))\/(SqT X.K H p ys/\Q (.ref p) H))):=by
 intro pins s σ H xs us Q I r h;obtain ⟨p,ys,rfl,h⟩:=h;obtain ⟨u,rfl,rx⟩:=O7 r
 cases rx;rcases h with ⟨hq,q⟩ | ⟨hq,q⟩
 ·obtain ⟨its,r',pl,hz⟩:=I.list hq
  have hlen:=r'.length;refine call_tuple_list pl.isList (λ h' kp=>?_) (by simp only [List.size_toArray] <;> omega);have I1:Inv X pins σ H { s with heap:=h' }:=I.kept (t':=s.toks) kp;have I2:Inv X pins σ (upd H h'.objs.size (.tup ys)) { s with heap:=h'.push { cls:=.type "tuple",data:=.seq its.toArray } } :=
   I1.laid (t':=s.toks) (λ b o e=>Heap.get?_push_of_some _ e) (Nat.le_refl _) (show ObjOk X.prog X.w _ _ _ (.tup ys) from ⟨hz,its,r',IsTup.new _ _⟩)
  exact ⟨.ref h'.objs.size,_,I2,rfl,q _ (I1.hok.fresh (Nat.le_refl _))⟩
 ·obtain ⟨its,r',pl,hz⟩:=I.tuple hq
  exact call_tuple_same pl ⟨.ref p,H,I,rfl,q⟩
def tyV (K:W.Frag) (T:String) (x:V) (H:Hp):Prop:=match x with
 | .str _=>T="str"
 | .int _=>T="int"
 | .ref p=>(T="list"/\∃ xs,SqL K H p xs)\/(T="tuple"/\∃ o,K.lookup p=some o/\o.cls=.type "tuple"/\o.dict=none) ∨
   (T="dict"/\((∃ kvs,H p=some (.dK kvs))\/∃ kvs,H p=some (.dT kvs)))\/(T="set"/\∃ S n,H p=some (.set S n))
 | _=>False
theorem b2V {pins:List (Addr×Obj)} {σ:St} {H:Hp} {s:Shared} {T:String} {x:V} {v:Value} (I:Inv X pins σ H s) (r:RelV x v) (ty:tyV X.K T x H) :
  s.TypeIs v T/\∀ a,v=.ref a->∃ ob,s.heap.get? a=some ob/\ob.dict=none:=by
 cases x with
 | str z =>
  obtain ⟨t,rfl⟩:=r
  cases (show T="str" from ty);exact ⟨typeIs_str s z t,λ _ e=>nomatch e⟩
 | int i =>
  obtain ⟨t,rfl⟩:=r
  cases (show T="int" from ty);exact ⟨typeIs_int s i t,λ _ e=>nomatch e⟩
 | ref p =>
  cases r;rcases ty with ⟨rfl,xs,hq⟩ | ⟨rfl,o,hk,hc,hd⟩ | ⟨rfl,hk⟩ | ⟨rfl,S,n,hk⟩
  ·obtain ⟨its,_,pl,_⟩:=I.list hq
   refine ⟨pl.isList.typeIs,λ a e=>?_⟩
   cases e;obtain ⟨o,n,e,c,hd,_⟩:=pl;exact ⟨o,e,hd⟩
  ·refine ⟨⟨o,I.kIn p o hk,hc⟩,λ a e=>?_⟩
   cases e;exact ⟨o,I.kIn _ o hk,hd⟩
  ·have z:∃ o,s.heap.get? p=some o/\o.ExactDict:=by
    rcases hk with ⟨kvs,hk⟩ | ⟨kvs,hk⟩
    ·obtain ⟨_,_,_,_,o,_,_,e,ex,_⟩:=I.hok p _ hk
     exact ⟨o,e,ex⟩
    ·obtain ⟨_,_,_,_,o,_,_,e,ex,_⟩:=I.hok p _ hk
     exact ⟨o,e,ex⟩
   obtain ⟨o,e,ex⟩:=z;refine ⟨⟨o,e,ex.1⟩,λ a e2=>?_⟩
   cases e2;exact ⟨o,e,ex.2.1⟩
  ·obtain ⟨o,_,_,_,e,ex,_⟩:=I.hok p _ hk
   refine ⟨⟨o,e,ex.1⟩,λ a e2=>?_⟩
   cases e2;exact ⟨o,e,ex.2.1⟩
 | _=>exact False.elim ty
def tBM (K:W.Frag) (T:String) (r:V->List V->Hp->VK->Prop) (to:TE) (t:TA):TE:=λ σ H Q=>to σ H λ x H1=>tyV K T x H1/\t σ H1 λ xs H2=>r x xs H2 Q
variable {o e:Expr} {es:List Expr} {to:TE} {t:TA} {name:Str} {apos cpos:Pos} {T id:String} {r:V->List V->Hp->VK->Prop}
theorem a1l (pa:PlainAttrs T) (slot:Slot T name id) (hty:typeOf (.builtin id)=pure (.type "method_descriptor")) (hm:MtR X id r) (ho:PE X o to) (ha:PA X (e::es) t)
    (hbase:attributeBase o name X.env (eval o X.env)=eval o X.env:=by rfl)
    (hfew:((backTo cpos (starEach (e::es) X.env)).all (λ x=>!x.1)&&(backToKw cpos (keywordEach [] X.env)).all (λ x=>x.1.isSome)
     &&decide ((e::es).length+([]:List Keyword).length+(if ([]:List Keyword).isEmpty then 0 else 1)<30))=true:=by rfl)
    (hline:(apos.endLine==cpos.line)=true:=by rfl) (hs:starEach (e::es) X.env=(false,eval e X.env)::starEach es X.env:=by rfl) (hplain:(backTo cpos (starEach es X.env)).any (·.1)=false:=by rfl) :
    PE X (.Call (.Attribute o name apos) (e::es) [] cpos) (tBM X.K T r to t):=by
  intro pins s σ H Q I h;refine wpAny_Call_method_late hbase hfew hline rfl (C2 (ho pins s σ H _ I h) λ v s1 ⟨x,H1,I1,r1,ty,q1⟩=>?_);obtain ⟨h1,h2⟩:=b2V I1 r1 ty;refine ⟨T,id,pa,slot,hty,h1,h2,?_⟩;have hA:=ha cpos pins s1 σ H1 _ I1 q1;rw [hs] at hA ⊢;refine Calls.callWith_builtin (by show (false || (backTo cpos (starEach es X.env)).any (·.1))=false; rw [hplain] <;> rfl) (Calls.evalArgs_plain ?_);exact C2 hA λ us s2 ⟨vs,H2,I2,r2,q2⟩=>hm pins s2 σ H2 x vs v us Q I2 r1 r2 q2
/- xs.append(e),list.index on a module's tuple .. are MtR facts of 06m -/
end
def MtM (X:Cx) (id:String) (r:V->List V->Hp->VK->Prop):Prop :=
 ∀ (pins:List (Addr×Obj)) (s:Shared) (σ:St) (H:Hp) (x:V) (xs:List V) (v:Value) (us:List Value) (Q:VK),Inv X pins σ H s->RelV x v->Vals xs us->r x xs H Q →
  wpAny (model X.prog X.w) X.A (call (.builtin id) (v::us)) (EP X pins σ Q) X.xe s
theorem Vals.one:∀ {x:V} {us:List Value},Vals [x] us->∃ u,us=[u]/\RelV x u
 | _,_,.cons r .nil=>⟨_,rfl,r⟩
theorem Vals.rep {xs:List V} {us:List Value} (h:Vals xs us):∀ k:Nat,Vals (List.replicate k xs).flatten (List.replicate k us).flatten
 | 0=>.nil
 | k+1=>by
  rw [List.replicate_succ,List.replicate_succ,List.flatten_cons,List.flatten_cons];exact Vals.append h (Vals.rep h k)
theorem a2P (its:List Value):∀ (k:Nat) (acc:List Value),
  List.foldl (λ x1 x2=>x1++x2) acc.toArray (List.replicate k its.toArray)=(acc++(List.replicate k its).flatten).toArray
 | 0,acc=>by simp
 | k+1,acc=>by
  have e:acc.toArray++its.toArray=(acc++its).toArray:=by simp
  have e2:(acc++its)++(List.replicate k its).flatten=acc++(List.replicate (k+1) its).flatten:=by
   rw [List.replicate_succ,List.flatten_cons,List.append_assoc]
  rw [<- e2,<- a2P its k (acc++its),<- e,List.replicate_succ,List.foldl_cons]
section
variable {X:Cx} {pins:List (Addr×Obj)} {σ:St} {H:Hp} {s:Shared} {l b:Addr} {xs ys zs:List V}
theorem Inv.lset {its its':List Value} {n:Nat} {f:Array Value->Array Value} {t':Nat} (I:Inv X pins σ H s) (hH:H l=some (.lst xs))
  (e:s.heap.get? l=some { cls:=.type "list",data:=.seq its.toArray n }) (hf:f its.toArray=its'.toArray) (hv:Vals ys its') (hz:ys.length<=sizeLine) :
  Inv X pins σ (upd H l (.lst ys)) { s with heap:=s.heap.update l (Obj.mapSeq f),toks:=t' }:=by
 have q:=PySem.IsL.update e f;rw [hf] at q;refine I.write (x:=l) (e:=l) (by rw [hH]; exact trivial) (.inl rfl) (λ b' u hb hu=>(Heap.get?_update_other s.heap (Obj.mapSeq f) (Ne.symm hb)).trans hu) ⟨_,q⟩ ?_;exact ⟨hz,its',_,hv,q⟩
theorem Inv.lnew {its:List Value} {t':Nat} (I:Inv X pins σ H s) (hv:Vals ys its) (hz:ys.length<=sizeLine) :
  Inv X pins σ (upd H s.heap.objs.size (.lst ys)) { s with heap:=s.heap.push { cls:=.type "list",data:=.seq its.toArray },toks:=t' } :=
 I.laid (λ _ _ q=>Heap.get?_push_of_some _ q) (Nat.le_refl _) ⟨hz,its,0,hv,Heap.get?_push_size _ rfl⟩
theorem Inv.fresh (I:Inv X pins σ H s):H s.heap.objs.size=none:=I.hok.fresh (Nat.le_refl _)
theorem Inv.lstM (I:Inv X pins σ H s) (hH:H l=some (.lst xs)):xs.length<=sizeLine/\∃ (its:List Value) (n:Nat),Vals xs its/\xs.length=its.length/\s.heap.get? l=some { cls:=.type "list",data:=.seq its.toArray n }:=by
 obtain ⟨z,its,n,r,e⟩:=I.hok l _ hH;exact ⟨z,its,n,r,r.length,e⟩
theorem a9h {n:Nat} (h:n<=sizeLine):Builtin.List.listTooLong n=false:=by
 unfold Builtin.List.listTooLong;exact decide_eq_false (by omega)
end
section
variable {X:Cx}
def b0r:V->List V->Hp->VK->Prop:=λ x vs H Q=>∃ l xs y,x=.ref l/\vs=[y]/\H l=some (.lst xs)/\xs.length<sizeLine/\Q .non (upd H l (.lst (xs++[y])))
theorem J8:MtM X "list.append" b0r:=by
 intro pins s σ H x vs v us Q I rx rv h;obtain ⟨l,xs,y,rfl,rfl,hH,hz,q⟩:=h
 cases rx;obtain ⟨u,rfl,ru⟩:=rv.one;obtain ⟨z,its,n,r,hl,e⟩:=I.lstM hH;refine call_meets F.slot_list_append ⟨_,e,rfl⟩ F.entry_list_append (F.args_list_append_2 _ _) (PySem.list_append l its.toArray n u (by rw [List.size_toArray]; omega)) ⟨e,?_⟩;refine ⟨.non,_,I.lset (its':=its++[u]) hH e (by simp) (r.append (.cons ru .nil)) ?_,rfl,q⟩;rw [List.length_append,List.length_singleton];omega
def b6j:R2:=λ x y H Q=>∃ l b xs zs,x=.ref l/\y=.ref b/\H l=some (.lst xs)/\H b=some (.lst zs)/\xs.length+zs.length<=sizeLine/\∀ p,H p=none->Q (.ref p) (upd H p (.lst (xs++zs)))
theorem D0:OpR X (binaryOp .Add) b6j:=by
 intro pins s σ H x y v u Q I rx ry h;obtain ⟨l,b,xs,zs,rfl,rfl,hH,hB,hz,q⟩:=h
 cases rx
 cases ry;obtain ⟨z,its,n,r,hl,e⟩:=I.lstM hH;obtain ⟨z2,its2,n2,r2,hl2,e2⟩:=I.lstM hB;refine PySem.P.add_list e e2 ?_ (by rw [List.size_toArray,List.size_toArray]; omega);have ea:its.toArray++its2.toArray=(its++its2).toArray:=by simp
 rw [ea];exact ⟨.ref _,_,I.lnew (t':=s.toks) (r.append r2) (by rw [List.length_append]; omega),rfl,q _ I.fresh⟩
def b5J:R2:=λ x y H Q=>∃ l k xs,x=.ref l/\y=.int k/\H l=some (.lst xs)/\-(2 ^ 63)<=k/\k<2 ^ 63/\xs.length*k.toNat<=sizeLine ∧
 ∀ p,H p=none->Q (.ref p) (upd H p (.lst (List.replicate k.toNat xs).flatten))
theorem b0Z {α:Type} (xs:List α) (k:Nat):(List.replicate k xs).flatten.length=k*xs.length:=by
 induction k with
 | zero=>simp
 | succ k ih=>rw [List.replicate_succ,List.flatten_cons,List.length_append,ih,Nat.succ_mul,Nat.add_comm]
theorem V6:OpR X (binaryOp .Mult) b5J:=by
 intro pins s σ H x y v u Q I rx ry h;obtain ⟨l,k,xs,rfl,rfl,hH,h1,h2,hz,q⟩:=h
 cases rx;obtain ⟨t,rfl⟩:=ry;obtain ⟨z,its,n,r,hl,e⟩:=I.lstM hH;have hlen:its.toArray.size*k.toNat<=sizeLine:=by rw [List.size_toArray,<- hl]; exact hz
 have hcap:¬ its.toArray.size*k.toNat>(2 ^ 63 - 1) / 8:=by
  have:(sizeLine:Nat)<=(2 ^ 63 - 1) / 8:=by decide
  omega
 have hfit:¬ (!Builtin.List.listFitsIndex k)=true:=by
  rw [fitsIndex_both h1 h2];exact Bool.false_ne_true
 have hlong:¬ Builtin.List.listTooLong (its.toArray.size*k.toNat)=true:=by
  rw [a9h hlen];exact Bool.false_ne_true
 have hnew:List.foldl (λ x1 x2=>x1++x2) #[] (List.replicate (if its.toArray.isEmpty=true then 0 else k.toNat) its.toArray)=(List.replicate k.toNat its).flatten.toArray:=by
  have f0:∀ m:Nat,List.foldl (λ x1 x2=>x1++x2) #[] (List.replicate m its.toArray)=(List.replicate m its).flatten.toArray:=λ m=>by
   have:=a2P its m [];rw [List.nil_append] at this;exact this
  rw [f0]
  cases its with
  | nil=>simp
  | cons a r'=>rw [if_neg (by simp)]
 refine wpAny_binaryOp_repeat_ref (T:="list") (U:="int") (by decide) ⟨_,e,rfl⟩ (λ s'=>typeIs_int s' k t) noFill_list_mul F.fills_int_mul F.slot_int_rmul repeat_list F.slot_int_index.lookup
  (call_meets F.slot_int_rmul (typeIs_int s k t) F.entry_int_rmul (F.args_int_rmul_2 _ _) (int___rmul___int_list k t l its.toArray n)
   ⟨e,rfl,⟨_,e,rfl⟩,call_meets F.slot_list_mul ⟨_,e,rfl⟩ F.entry_list_mul (F.args_list_mul_2 _ _) (AutoListH.list___mul___list_int_3 l its.toArray n k t hfit hcap hlong) ⟨e,?_⟩⟩)
 rw [hnew];exact ⟨.ref _,_,I.lnew (t':=s.toks) (r.rep k.toNat) (by rw [b0Z,Nat.mul_comm]; exact hz),rfl,q _ I.fresh⟩
end
section
variable {prog:Program} {w:World} {A:Around} {E:Value->Shared->Prop} {s:Shared}
end
section
variable {X:Cx}
end
end L2
namespace Att
open PySem PySem.W PySem.Calls PyProof.Rows
theorem a1q {P:Params} {h:Heap}:∀ (ns:List Int) (vs:List Value),WellAll P h vs (ns.map WData.int)->IntsAre vs ns:=by
 intro ns
 induction ns with
 | nil =>
  intro vs w;rw [List.map_nil] at w
  cases w;exact .nil
 | cons n ns ih =>
  intro vs w;rw [List.map_cons] at w
  cases w with
  | cons a b =>
   cases a;exact .cons _ _ (ih _ b)
theorem a7t {l:OpenLaw} {n:Nat} (hn:l.most=some n) {P:Params} {h:Heap} {args:List WData} {vals:List Value}
  (hpre:l.row.toRowW.claim.pre args=true) (hwl:WellAll P h vals args) :
  ∃ a vs ns,vals=[Value.ref a]/\args=[WData.list (ns.map WData.int)]/\h.get? a=some { cls:=.type "list",data:=.seq vs.toArray }/\IntsAre vs ns/\ns.length<=n:=by
 have hsh:WShape.hasAll [] args [.list .int]=true:=(pre_splitW hpre).1;have hc:l.pre.holds [] { args:=args }=true:=(pre_splitW hpre).2;obtain ⟨d,r,rfl,h1,h2⟩:=hasAllW_cons hsh;obtain rfl:=hasAllW_nil h2;obtain ⟨xs,rfl,h3⟩:=hasW_list h1;obtain ⟨ns,rfl⟩:=items_int h3;have hlen:ns.length<=n:=by
  unfold OpenLaw.pre at hc;have h4:(WTm.not (.lt (.lit (.int (n:Int))) (.len (.arg 0)))).holds [] { args:=[.list (ns.map .int)] }=true:=by
   have h4:=(holds_andW hc).1;rw [hn] at h4;exact h4
  have h5:=condW_of h4 (w_not (w_lt w_lit (w_len_list (w_arg rfl))));rw [List.length_map] at h5;refine Nat.le_of_not_lt λ q=>?_;have q':(n:Int)<((ns.length:Nat):Int):=by omega
  first
   | (rw [decide_eq_true q'] at h5; exact absurd h5 (by decide))
   | (simp at h5; omega)
 cases hwl with
 | cons w1 w2 =>
  cases w2
  cases w1 with
  | list ho hall=>exact ⟨_,_,ns,rfl,rfl,ho,a1q ns _ hall,hlen⟩
theorem a8h (l:OpenLaw) (args:List WData):l.row.toRowW.claim.post args (.bool true) args=true :=
 postW_of (r:=l.row.toRowW) (X:=(true==true))
  (show WShape.has [] (.bool true) .bool=true by first | rfl | decide | simp [WShape.has,WShape.arms,WShape.armsAll])
  (show (WTm.eq .res (.lit (.bool true))).value [] { args:=args,res:=some (.bool true),after:=args }=some (.bool (true==true)) from w_eq_bool (w_res rfl) w_lit) rfl
theorem attach_call {l:OpenLaw} {n:Nat} {q:Program} {loose:List Str} {XP:(Str->Option Value)->Heap->Prop} {YP:World->Heap->Prop} {d:DefRec}
  (hn:l.most=some n) (hdf:d.params.defaults=[])
  (call:∀ (w:World) (s₀ s₁:Shared) (mg mb:Str->Option Value) (fa:Addr) (o:Obj) (pm cd doc:Value) (a:Addr) (vs:List Value) (ns:List Int),
   Ground q loose [] XP w s₀ mg mb s₁.heap->YP w s₁.heap →
   s₁.heap.get? fa=some o->o.data=.func (docDef d.name d.params d.body d.scope pm cd doc)->s₁.heap.CodeRec cd d.name->mg d.name=some (.ref fa) →
   s₁.heap.get? a=some { cls:=.type "list",data:=.seq vs.toArray }->IntsAre vs ns->ns.length<=n->s₁.gens=#[] →
   codeAny (model l.prog w) callerA (.call (.ref fa) ⟨[.ref a],[]⟩) (λ r s'=>r=.ok (.ret (.bool true))/\OldK s₁.heap s'.heap/\s'.os=s₁.os/\AllBare s'.gens) s₁) :
  WalkO q loose XP YP l.row.toRowW d [] (λ f vs=>PySem.call f vs):=by
 intro w s₀ s₁ mg mb G Y fa o pm cd doc dV kV ho hd hcd hD hmg hg args vals as hpre hlay hrd hwl hlo;obtain rfl:dV=.none:=Dflts.none hD hdf;obtain rfl:kV=.none:=Dflts.noKw hD;obtain ⟨a,vs,ns,rfl,rfl,hobj,hints,hlen⟩:=a7t hn hpre hwl;refine enter_call (codeAny_mono (call w s₀ s₁ mg mb fa o pm cd doc a vs ns G Y ho (fd_plain hd) hcd hmg hobj hints hlen hg) λ r s' hq=>?_);obtain ⟨rfl,h2,h3,h4⟩:=hq;exact ⟨.inl ⟨.bool true,.bool true,[],rfl,λ _=>rfl,.bool true,a8h l _,λ _=>⟨List.Pairwise.nil,λ _ hm=>(nomatch hm)⟩⟩,h2,h3,h4⟩
section
variable {prog:Program} {w:World} {A:Around} {E:Value->Shared->Prop} {s:Shared} {K:Frag}
end
end Att
namespace L2
open PySem PySem.Spec PyProof.Rows
theorem a3d:∀ {vs:List Value} {ns:List Int},IntsAre vs ns->Vals (ns.map V.int) vs
 | _,_,.nil=>.nil
 | _,_,.cons n t h=>.cons ⟨t,rfl⟩ (a3d h)
def U8 (s:Stmt) (j:Nat):Stmt:=match s with
 | .ClassDef _ _ _ body _ _ _ _ _ _ _=>body.getD j (.Pass ⟨0,0,0,0⟩)
 | _=>.Pass ⟨0,0,0,0⟩
def G4 (s:Stmt):Arguments:=match s with
 | .FunctionDef _ a _ _ _ _ _ _ _ _=>a
 | _=>{ posonlyargs:=[],args:=[],vararg:=none,kwonlyargs:=[],kw_defaults:=[],kwarg:=none,defaults:=[] }
def v6 (s:Stmt):List Stmt:=match s with
 | .FunctionDef _ _ b _ _ _ _ _ _ _=>b
 | _=>[]
def i5 (s:Stmt):Scope:=match s with
 | .FunctionDef _ _ _ _ _ _ sc _ _ _=>sc
 | _=>{ kind:=.function,names:=[],isGenerator:=false,isCoroutine:=false }
abbrev G5:CXT:=λ _ _ _ _ _ _=>False
abbrev E0:XK:=λ _ _ _=>False
theorem w4 {X:Cx}:T4 G5 X E0:=λ _ _ _ _ _ _ _ h=>h.elim
structure Fun (K:W.Frag) (x qual:Str) (st:Stmt) (f:Addr) (fd:FuncData):Prop where
 ex:∃ (oc:Value) (od:Option Addr) (kV doc pm:Value) (an:Option Addr) (cdv ct:Value) (osl:Array (Option Value)),
  fd=W.fnOf x qual (G4 st) (v6 st) (i5 st) .none kV doc pm an cdv ct/\K.lookup f=some ⟨oc,od,.func fd,osl⟩/\W.codeIn K cdv qual=true
 kp:W.keepIn K (.ref f)=true
section
variable {P:Program} {w:World} {K:W.Frag} {mg:Str->Option Value} {base:Heap}
theorem Fun.ok {x qual:Str} {st:Stmt} {f:Addr} {fd:FuncData} {N ps:List Str} {k:Nat} {sp:Sp} (F:Fun K x qual st f fd) (S:m8 N ps (i5 st)) (len:∀ vs H Q E,sp vs H Q E->vs.length=ps.length)
  (hbody:∀ (cdv:Value) (A:Around) (outer:List Env) (s:Shared) (H:Hp) (vs:List V) (Q:VK) (E:XK),Room k (A.deeper (envOfC qual (i5 st) s.heap.objs.size f cdv))->sp vs H Q E →
   ∃ t,PSs (K7 G5 P w K mg base N qual (i5 st) f cdv A outer s H E).nox (v6 st) t/\t { nx:=λ _ H'=>Q .non H',rt:=Q } (W4 N vs) H):FnOk P w K mg base G5 (k+1) f fd ps sp:=by
 obtain ⟨oc,od,kV,doc,pm,an,cdv,ct,osl,rfl,lk,hcd⟩:=F.ex;refine a8n lk hcd S len λ A outer s H vs Q E hr hsp=>?_;obtain ⟨t,h,q⟩:=hbody cdv A outer s H vs Q E hr hsp;exact ⟨t,h.nox,q⟩
theorem Fun.binds {x qual:Str} {st:Stmt} {f:Addr} {fd:FuncData} {ps:List Str} (F:Fun K x qual st f fd)
  (h:∀ (kV doc pm:Value) (an:Option Addr) (cdv ct:Value) (us:List Value),us.length=ps.length->bindArgs (W.fnOf x qual (G4 st) (v6 st) (i5 st) .none kV doc pm an cdv ct) ⟨us,[]⟩=pure (ps.zip us)):Binds K fd ps []:=by
 obtain ⟨oc,od,kV,doc,pm,an,cdv,ct,osl,rfl,lk,hcd⟩:=F.ex;exact .all (h kV doc pm an cdv ct)
theorem a8E {x qual:Str} {st:Stmt} {f:Addr} {oc:Value} {od an:Option Addr} {osl:Array (Option Value)} {kV doc pm cdv ct:Value} (l:K.lookup f=some ⟨oc,od,.func (W.fnOf x qual (G4 st) (v6 st) (i5 st) .none kV doc pm an cdv ct),osl⟩)
  (c:W.codeIn K cdv qual=true) (k:W.keepIn K (.ref f)=true):Fun K x qual st f (W.fnOf x qual (G4 st) (v6 st) (i5 st) .none kV doc pm an cdv ct):=⟨⟨oc,od,kV,doc,pm,an,cdv,ct,osl,rfl,l,c⟩,k⟩
end
theorem j7 {n:Nat} (h:n<=1000):n<sizeLine:=Nat.lt_of_le_of_lt h (by decide)
section
variable {X:Cx}
theorem pv (i:Nat) {x:Str} {pos:Pos} (hN:X.N[i]?=some x:=by rfl) (hv:Vis X.env.scope x:=by first | exact Or.inl rfl | exact Or.inr (Or.inl rfl) | exact Or.inr (Or.inr rfl)) (hd:(x==("__debug__":Str))=false:=by decide)
  (hcd:(x==("__classdict__":Str))=false:=by decide):PE X (.Name x pos) (a7J i):=b2I hN hv hd hcd
end
theorem a1p {A B:Prop} (h:B):if false=true then A else B:=by
 rw [if_neg Bool.false_ne_true];exact h
theorem a7V {A B:Prop} (h:A):if true=true then A else B:=by
 rw [if_pos rfl];exact h
theorem D9 {c A B:Prop} [Decidable c] (h1:c->A) (h2:¬ c->B):if c then A else B:=by
 by_cases h:c
 ·rw [if_pos h]
  exact h1 h
 ·rw [if_neg h]
  exact h2 h
def Same (H H':Hp):Prop:=∀ b o,H b=some o->H' b=some o
theorem Same.refl (H:Hp):Same H H:=λ _ _ h=>h
theorem Same.trans {H H1 H2:Hp} (a:Same H H1) (b:Same H1 H2):Same H H2:=λ c o h=>b c o (a c o h)
theorem Same.free {H H':Hp} (e:Same H H') {l:Addr} (h:H' l=Option.none):H l=Option.none:=by
 cases q:H l with
 | none=>rfl
 | some o =>
  rw [e l o q] at h
  cases h
theorem Same.seq {K:W.Frag} {H H':Hp} {a:Addr} {xs:List V} (e:Same H H') (h:SqL K H a xs):SqL K H' a xs:=by
 rcases h with (h | ⟨o,h⟩) | h
 ·exact .inl (.inl (e _ _ h))
 ·exact .inl (.inr ⟨o,e _ _ h⟩)
 ·exact .inr h
def clo (env:Env):List (Str×NameKind)->List (Str×Addr)->List (Str×Addr)
 | [],cs=>cs
 | (n,k)::r,cs=>if k==.free then (match env.cells.lookup n with | some a=>clo env r ((n,a)::cs) | none=>clo env r cs) else clo env r cs
theorem E5 {scope:Scope} {env:Env} (h:∀ n,(n,NameKind.free)∈scope.names->∃ c,env.cells.lookup n=some c):closureFor scope env=pure (clo env scope.names []):=by
 simp only [closureFor];generalize ([]:List (Str×Addr))=cs
 revert h
 generalize scope.names=l;intro h
 induction l generalizing cs with
 | nil=>rfl
 | cons x r ih =>
  obtain ⟨n,k⟩:=x;have hr:∀ n,(n,NameKind.free)∈r->∃ c,env.cells.lookup n=some c:=λ n hn=>h n (List.mem_cons_of_mem _ hn)
  by_cases hk:k=.free
  ·subst hk
   obtain ⟨c,hc⟩:=h n List.mem_cons_self;have q:=ih ((n,c)::cs) hr;simp only [List.forIn_cons,clo,hc,beq_self_eq_true,if_true,cellOf];exact q
  ·have hb:(k==NameKind.free)=false:=by simpa using hk
   have q:=ih cs hr;simp only [List.forIn_cons,clo,hb,Bool.false_eq_true,if_false];exact q
theorem a0E {env:Env} {x:Str} {c:Addr}:∀ {l:List (Str×NameKind)} {cs:List (Str×Addr)},(∀ x c,cs.lookup x=some c->env.cells.lookup x=some c)->(clo env l cs).lookup x=some c->env.cells.lookup x=some c
 | [],_,h,e=>h x c e
 | (n,k)::r,cs,h,e=>by
  unfold clo at e
  by_cases hk:(k==NameKind.free)=true
  ·rw [if_pos hk] at e
   cases q:env.cells.lookup n with
   | none=>rw [q] at e; exact a0E h e
   | some a =>
    rw [q] at e;refine a0E (cs:=(n,a)::cs) (λ y d z=>?_) e;rw [List.lookup_cons] at z
    cases hy:y==n with
    | true =>
     rw [hy] at z;have:y=n:=by simpa using hy
     subst this;rw [q]; exact z
    | false=>rw [hy] at z; exact h y d z
  ·rw [if_neg hk] at e
   exact a0E h e
theorem a1G {env:Env} {x:Str} {c:Addr}:∀ {l:List (Str×NameKind)} {cs:List (Str×Addr)},(x,c)∈clo env l cs->(env.cells.lookup x=some c/\(x,NameKind.free)∈l)\/(x,c)∈cs
 | [],_,e=>.inr e
 | (n,k)::r,cs,e=>by
  unfold clo at e
  by_cases hk:(k==NameKind.free)=true
  ·rw [if_pos hk] at e
   have hk':k=.free:=by simpa using hk
   cases q:env.cells.lookup n with
   | none =>
    rw [q] at e;exact (a1G e).imp (λ z=>⟨z.1,List.mem_cons_of_mem _ z.2⟩) id
   | some a =>
    rw [q] at e;rcases a1G (cs:=(n,a)::cs) e with z | z
    ·exact .inl ⟨z.1,List.mem_cons_of_mem _ z.2⟩
    ·rcases List.mem_cons.mp z with z | z
     ·cases z
      exact .inl ⟨q,by rw [hk']; exact List.mem_cons_self⟩
     ·exact .inr z
  ·rw [if_neg hk] at e
   exact (a1G e).imp (λ z=>⟨z.1,List.mem_cons_of_mem _ z.2⟩) id
theorem u9:∀ (names:List (Str×NameKind)) (n:Nat) (acc:List (Str×Addr)),cellsFrom n names acc=cellsFrom n names []++acc
 | [],_,_=>rfl
 | (x,k)::r,n,acc=>by
  unfold cellsFrom
  split
  ·rw [u9 r (n+1) ((x,n)::acc),u9 r (n+1) [(x,n)],List.append_assoc]; rfl
  ·exact u9 r n acc
theorem J3 {x:Str} {c:Addr}:∀ {names:List (Str×NameKind)} {n:Nat},(x,c)∈cellsFrom n names []->(x,NameKind.cell)∈names
 | [],_,e=>by cases e
 | (y,k)::r,n,e=>by
  unfold cellsFrom at e
  by_cases hk:(k==NameKind.cell)=true
  ·rw [if_pos hk,u9] at e
   have hk':k=.cell:=by simpa using hk
   rcases List.mem_append.mp e with z | z
   ·exact List.mem_cons_of_mem _ (J3 z)
   ·rw [List.mem_singleton] at z
    cases z;rw [hk']; exact List.mem_cons_self
  ·rw [if_neg hk] at e
   exact List.mem_cons_of_mem _ (J3 e)
theorem R6 {x:Str}:∀ {names:List (Str×NameKind)} {n:Nat},(x,NameKind.cell)∈names->∃ c,(x,c)∈cellsFrom n names []
 | (y,k)::r,n,e=>by
  unfold cellsFrom;rcases List.mem_cons.mp e with z | z
  ·cases z
   rw [if_pos (by rfl),u9];exact ⟨n,List.mem_append_right _ List.mem_cons_self⟩
  ·split
   ·rw [u9]
    obtain ⟨c,hc⟩:=R6 (n:=n+1) z;exact ⟨c,List.mem_append_left _ hc⟩
   ·exact R6 z
theorem a1N {α:Type} {x:Str}:∀ {l₁ l₂:List (Str×α)},(l₁++l₂).lookup x=match l₁.lookup x with | some c=>some c | none=>l₂.lookup x
 | [],_=>rfl
 | (n,c)::r,l₂=>by
  rw [List.cons_append,List.lookup_cons,List.lookup_cons]
  cases hx:x==n with
  | true=>rfl
  | false=>exact a1N (l₁:=r)
theorem Z6 {α:Type} {x:Str} {c:α}:∀ {l:List (Str×α)},(x,c)∈l->∃ c',l.lookup x=some c'
 | (n,d)::r,h=>by
  rw [List.lookup_cons]
  cases hx:x==n with
  | true=>exact ⟨d,rfl⟩
  | false =>
   rcases List.mem_cons.mp h with z | z
   ·cases z; simp at hx
   ·exact Z6 z
theorem Z3 {env:Env} {x:Str}:∀ {l:List (Str×NameKind)} {cs:List (Str×Addr)},(∃ c,cs.lookup x=some c)->∃ c,(clo env l cs).lookup x=some c
 | [],_,h=>h
 | (n,k)::r,cs,h=>by
  unfold clo
  split
  ·split
   ·refine Z3 ?_
    rw [List.lookup_cons]
    cases hy:x==n with
    | true=>exact ⟨_,rfl⟩
    | false=>exact h
   ·exact Z3 h
  ·exact Z3 h
theorem X7 {env:Env} {x:Str} (hx:∃ c,env.cells.lookup x=some c):∀ {l:List (Str×NameKind)} {cs:List (Str×Addr)},(x,NameKind.free)∈l->∃ c,(clo env l cs).lookup x=some c
 | (n,k)::r,cs,h=>by
  rcases List.mem_cons.mp h with e | e
  ·cases e
   obtain ⟨c,hc⟩:=hx;unfold clo;rw [if_pos (by rfl),hc];refine Z3 ⟨c,?_⟩;simp [List.lookup_cons]
  ·unfold clo
   split
   ·split
    ·exact X7 hx e
    ·exact X7 hx e
   ·exact X7 hx e
def R3 (env:Env) (scope:Scope) (C:Addr):List (Str×Addr):=cellsFrom (C+1) scope.names (clo env scope.names [])
theorem E8 {env:Env} {scope:Scope} {C:Addr} {x:Str} {c:Addr} (h:(R3 env scope C).lookup x=some c) :
  ((x,c)∈cellsFrom (C+1) scope.names []/\(x,NameKind.cell)∈scope.names)\/(env.cells.lookup x=some c/\(x,NameKind.free)∈scope.names):=by
 have m:=mem_of_lookup h;unfold R3 at m;rw [u9] at m;rcases List.mem_append.mp m with z | z
 ·exact .inl ⟨z,J3 z⟩
 ·rcases a1G z with y | y
  ·exact .inr y
  ·cases y
theorem a1f {env:Env} {scope:Scope} {C:Addr} {x:Str} (hx:∃ c,env.cells.lookup x=some c) (hf:(x,NameKind.free)∈scope.names) (hn:(x,NameKind.cell) ∉ scope.names):(R3 env scope C).lookup x=env.cells.lookup x:=by
 obtain ⟨c,hc⟩:=X7 (env:=env) (cs:=[]) hx hf;have hc':=a0E (env:=env) (λ _ _ z=>by simp at z) hc;unfold R3;rw [u9,a1N]
 cases q:(cellsFrom (C+1) scope.names []).lookup x with
 | some d=>exact absurd (J3 (mem_of_lookup q)) hn
 | none=>rw [hc',<- hc]
def blk (X:Cx) (os:List Str) (fr:List Nat) (scope:Scope) (C:Addr) (fp:List Addr) (s₀:Shared) (H₀:Hp):Cx :=
 { X with N:=os++fr.map (λ j=>X.N.getD j ""),s₀:=s₀,H₀:=H₀,env:=compEnvC scope (R3 X.env scope C) C X.env,outer:=X.stack,ex:=fp,fn:=λ x=>scope.names.lookup x==some .cell,pn:=[],xe:=λ _ _=>False }
def frv (fr:List Nat) (σ:St):St:=fr.map λ j=>(σ[j]?).join
def blkσ (n:Nat) (fr:List Nat) (σ:St):St:=List.replicate n none++frv fr σ
def Wk (σ0 σ2:St):Prop:=σ2.length=σ0.length/\∀ (i:Nat) v,σ0[i]?=some (some v)->σ2[i]?=some (some v)
def Z5 (outer:Scope) (scope:Scope) (N:List Str) (fr:List Nat):Bool :=
 (scope.names.all λ p=>(scope.names.lookup p.1==some p.2)&&(p.2 != .free || outer.names.lookup p.1==some .cell)) &&
 (fr.all λ j=>decide (j<N.length)&&(outer.names.lookup (N.getD j "")==some .cell)&&(scope.names.lookup (N.getD j "")==some .free))
theorem G7 {x:Str} {k:NameKind}:∀ {l:List (Str×NameKind)},l.lookup x=some k->(x,k)∈l
 | (n,j)::r,h=>by
  rw [List.lookup_cons] at h
  cases hx:x==n with
  | true =>
   rw [hx] at h;have:x=n:=by simpa using hx
   subst this
   cases h;exact List.mem_cons_self
  | false=>rw [hx] at h; exact List.mem_cons_of_mem _ (G7 h)
theorem O2 {env:Env} {x:Str} {k:NameKind}:∀ {names:List (Str×NameKind)},
  (names.map λ (n,k)=>if (k==NameKind.free&&env.scope.kind==.function&&env.kindOf n==some .cell) then (n,NameKind.cell) else (n,k)).lookup x=some k →
  (x,k)∈names\/(x,NameKind.free)∈names
 | [],h=>by simp at h
 | (n,j)::r,h=>by
  rw [List.map_cons] at h;dsimp only at h
  by_cases hc:(j==NameKind.free&&env.scope.kind==.function&&env.kindOf n==some .cell)=true
  ·rw [if_pos hc,List.lookup_cons] at h
   have hj:j=.free:=by
    have:=(Bool.and_eq_true _ _ ▸ (Bool.and_eq_true _ _ ▸ hc).1).1
    simpa using this
   cases hx:x==n with
   | true =>
    have:x=n:=by simpa using hx
    subst this;subst hj;exact .inr List.mem_cons_self
   | false =>
    rw [hx] at h;exact (O2 h).imp (List.mem_cons_of_mem _) (List.mem_cons_of_mem _)
  ·rw [if_neg hc,List.lookup_cons] at h
   cases hx:x==n with
   | true =>
    rw [hx] at h;have:x=n:=by simpa using hx
    subst this
    cases h;exact .inl List.mem_cons_self
   | false =>
    rw [hx] at h;exact (O2 h).imp (List.mem_cons_of_mem _) (List.mem_cons_of_mem _)
section
variable {X:Cx} {os:List Str} {fr:List Nat} {scope:Scope}
theorem O6 (h:Z5 X.env.scope scope X.N fr=true):∀ p∈scope.names,scope.names.lookup p.1=some p.2/\(p.2=.free->X.env.scope.names.lookup p.1=some .cell):=λ p hp=>by
 have q:=List.all_eq_true.mp (Bool.and_eq_true _ _ ▸ h).1 p hp;simp only [Bool.and_eq_true,bne_iff_ne,Bool.or_eq_true,beq_iff_eq,ne_eq] at q;refine ⟨q.1,λ e=>?_⟩;rcases q.2 with z | z
 ·exact absurd e z
 ·exact z
theorem a5t (h:Z5 X.env.scope scope X.N fr=true) {x:Str} {a b:NameKind} (ha:(x,a)∈scope.names) (hb:(x,b)∈scope.names):a=b:=by
 have h1:=(O6 h _ ha).1;have h2:=(O6 h _ hb).1;rw [h1] at h2;exact Option.some.inj h2
theorem b2b (h:Z5 X.env.scope scope X.N fr=true):∀ j∈fr,j<X.N.length/\X.env.scope.names.lookup (X.N.getD j "")=some .cell/\scope.names.lookup (X.N.getD j "")=some .free:=λ j hj=>by
 have q:=List.all_eq_true.mp (Bool.and_eq_true _ _ ▸ h).2 j hj;simp only [Bool.and_eq_true,beq_iff_eq,decide_eq_true_eq] at q;exact ⟨q.1.1,q.1.2,q.2⟩
theorem U4 {pins:List (Addr×Obj)} {σ:St} {H:Hp} {s:Shared} (I:Inv X pins σ H s) (h:Z5 X.env.scope scope X.N fr=true):∀ n,(n,NameKind.free)∈scope.names->∃ c,X.env.cells.lookup n=some c:=λ n hn =>
 I.ok.has n (.inl ((O6 h _ hn).2 rfl))
theorem Inv.block {pins:List (Addr×Obj)} {σ:St} {H:Hp} {s:Shared} {fp:List Addr} {h₁:Heap} {t':Nat} (I:Inv X pins σ H s) (hk:scope.kind=.function) (h:Z5 X.env.scope scope X.N fr=true)
  (hf:∀ b∈fp,V2 X pins H b) (ho:∀ b∈fp,∃ o,s.heap.get? b=some o) (hns:h₁.Ns s.heap.objs.size λ _=>none) (hkeep:∀ b o,s.heap.get? b=some o->h₁.get? b=some o)
  (hcl:CellsOk h₁ (s.heap.objs.size+1) (cellsFrom (s.heap.objs.size+1) scope.names [])) :
  Inv (blk X os fr scope s.heap.objs.size fp s H) [] (blkσ os.length fr σ) H { s with heap:=h₁,toks:=t' } where
 ok:={
  mod:=I.ok.mod
  kind:=hk
  glob:=I.ok.glob
  blt:=I.ok.blt
  above:=Nat.le_refl _
  inj:=λ x y c e1 e2=>by
   have old:∀ {z:Str},X.env.cells.lookup z=some c->c<s.heap.objs.size:=λ {z} e=>by
    obtain ⟨v,q⟩:=I.cell z c e;exact q.lt
   rcases E8 e1 with z1 | z1 <;> rcases E8 e2 with z2 | z2
   ·exact name_of_addr hcl.apart z1.1 z2.1
   ·exact absurd (Nat.lt_of_lt_of_le (Nat.lt_succ_of_lt (old z2.1)) (hcl.empty _ _ z1.1).2) (Nat.lt_irrefl _)
   ·exact absurd (Nat.lt_of_lt_of_le (Nat.lt_succ_of_lt (old z1.1)) (hcl.empty _ _ z2.1).2) (Nat.lt_irrefl _)
   ·exact I.ok.inj x y c z1.1 z2.1
  has:=λ x hx=>by
   have hm:(x,NameKind.cell)∈scope.names\/(x,NameKind.free)∈scope.names:=by
    rcases hx with e | e
    ·exact O2 e
    ·rcases O2 e with z | z
     ·exact .inr z
     ·exact .inr z
   rcases hm with z | z
   ·obtain ⟨c,hc⟩:=R6 (n:=s.heap.objs.size+1) z
    refine Z6 (c:=c) ?_
    show (x,c)∈R3 _ _ _
    unfold R3;rw [u9];exact List.mem_append_left _ hc
   ·obtain ⟨c,hc⟩:=U4 I h x z
    refine ⟨c,?_⟩
    show (R3 _ _ _).lookup x=_
    rw [a1f ⟨c,hc⟩ z (λ w=>by cases a5t h z w)];exact hc
  cab:=λ x c hx e=>by
   have hx':scope.names.lookup x=some .cell:=by simpa using (show (scope.names.lookup x==some .cell)=true from hx)
   rcases E8 e with z | z
   ·exact Nat.le_of_lt (Nat.lt_of_succ_le (hcl.empty _ _ z.1).2)
   ·cases a5t h (G7 hx') z.2
  hd:=I.ok.hd
  frames:=I.ok.frames
  stk:=.inl rfl
  exf:=λ b hb=>by
   obtain ⟨o,e⟩:=ho b hb;refine ⟨Nat.ne_of_lt (Heap.lt_size e),λ x c e1=>?_⟩;rcases E8 e1 with z | z
   ·intro w
    have:=(hcl.empty _ _ z.1).2;rw [w] at this;exact absurd (Nat.lt_of_lt_of_le (Nat.lt_succ_of_lt (Heap.lt_size e)) this) (Nat.lt_irrefl _)
   ·exact (hf b hb).2.2.2.2.1 x c z.1
  bs:=I.bs
  bsz:=Nat.le_trans I.ok.bsz I.sz
  noex:=λ b o e hb=>by
   rcases (hf b hb).2.2.2.1 with z | z
   ·exact I.ok.noex b o e z
   ·exact absurd (Nat.lt_of_lt_of_le (Heap.lt_size e) (Nat.le_trans I.ok.bsz z)) (Nat.lt_irrefl _)
  exfs:=λ b hb hz=>by
   rcases List.mem_cons.mp (I.stkSub b hz) with e | e
   ·exact (hf b hb).2.1 e
   ·exact (hf b hb).2.2.1 e
  funs:=I.stack
  frf:=I.stkFree }
 os:=rfl
 bare:=I.bare
 base:=Un.kept hkeep
 loc:=by
  refine ⟨_,hns,λ i x v e1 e2 _=>?_⟩;have hi:os.length<=i:=by
   refine Nat.le_of_not_lt λ hlt=>?_;unfold blkσ at e2;rw [List.getElem?_append_left (by simpa using hlt)] at e2;rw [List.getElem?_replicate] at e2
   split at e2 <;> cases e2
  have e1':(fr.map λ j=>X.N.getD j "")[i - os.length]?=some x:=by
   rw [<- List.getElem?_append_right (l₁:=os) hi]; exact e1
  have e2':(fr.map λ j=>(σ[j]?).join)[i - os.length]?=some (some v):=by
   have z:(List.replicate os.length (none:Option V)).length<=i:=by simpa using hi
   unfold blkσ at e2;rw [List.getElem?_append_right z,List.length_replicate] at e2;exact e2
  rw [List.getElem?_map] at e1' e2'
  cases q:fr[i - os.length]? with
  | none=>rw [q] at e1'; cases e1'
  | some j =>
   rw [q] at e1' e2';have hj:j∈fr:=List.mem_of_getElem? q;obtain ⟨hjl,hjc,hjf⟩:=b2b h j hj;have ex:X.N.getD j ""=x:=Option.some.inj e1';have ev:(σ[j]?).join=some v:=Option.some.inj e2';have hN:X.N[j]?=some x:=by
    rw [<- ex,List.getD_eq_getElem?_getD,List.getElem?_eq_getElem hjl]; rfl
   have hσ:σ[j]?=some (some v):=by
    cases r:σ[j]? with
    | none=>rw [r] at ev; cases ev
    | some y=>rw [r] at ev; exact congrArg some ev
   rw [ex] at hjc hjf;obtain ⟨m,_,hl⟩:=I.loc;obtain ⟨u,r,lk⟩:=hl j x v hN hσ (.inr (.inl hjc));refine ⟨u,r,?_⟩;have kc:Env.kindOf X.env x=some .cell:=hjc;rcases lk with ⟨k1,_⟩ | ⟨_,c,ec,z⟩
   ·rw [kc] at k1; cases k1
   ·have hfm:=G7 hjf
    have ec':(R3 X.env scope s.heap.objs.size).lookup x=some c:=by
     rw [a1f ⟨c,ec⟩ hfm (λ w=>by cases a5t h hfm w)]; exact ec
    refine .inr ⟨?_,c,ec',?_⟩
    ·have kk:∀ {names:List (Str×NameKind)},names.lookup x=some .free->(names.map λ (n,k)=>if (k==NameKind.free&&X.env.scope.kind==.function&&X.env.kindOf n==some .cell) then (n,NameKind.cell) else (n,k)).lookup x=some .cell:=by
      intro names
      induction names with
      | nil=>intro e; simp at e
      | cons p r ih =>
       obtain ⟨n,k⟩:=p;intro e;rw [List.lookup_cons] at e;rw [List.map_cons];dsimp only
       cases hx:x==n with
       | true =>
        rw [hx] at e
        cases e;have hxn:x=n:=by simpa using hx
        subst hxn;rw [if_pos (by rw [I.ok.kind,kc]; rfl),List.lookup_cons];simp
       | false =>
        rw [hx] at e
        by_cases hc:(k==NameKind.free&&X.env.scope.kind==.function&&X.env.kindOf n==some .cell)=true
        ·rw [if_pos hc,List.lookup_cons,hx]; exact ih e
        ·rw [if_neg hc,List.lookup_cons,hx]; exact ih e
     exact .inl (kk hjf)
    ·obtain ⟨o,ho',hd⟩:=z
     exact ⟨o,hkeep _ _ ho',hd⟩
 cell:=λ x c e=>by
  rcases E8 e with z | z
  ·exact ⟨_,(hcl.empty _ _ z.1).1⟩
  ·obtain ⟨v,o,ho',hd⟩:=I.cell x c z.1
   exact ⟨v,o,hkeep _ _ ho',hd⟩
 free:=I.hok.fresh (Nat.le_refl _)
 freeC:=λ x c e=>by
  rcases E8 e with z | z
  ·exact I.hok.fresh (Nat.le_of_lt (Nat.lt_of_succ_le (hcl.empty _ _ z.1).2))
  ·exact I.freeC x c z.1
 pin:=λ p hp=>nomatch hp
 hok:=I.hok.kept hkeep
 len:=by simp [blkσ,frv,blk]
theorem Inv.unblock {pins:List (Addr×Obj)} {σ σ':St} {H H':Hp} {s s':Shared} {fp:List Addr} {C:Addr} (I:Inv X pins σ H s) (hf:∀ b∈fp,V2 X pins H b) (J:Inv (blk X os fr scope C fp s H) [] σ' H' s'):Inv X pins σ H' s' :=
 I.call' J.os J.base J.hok J.bare λ b hb=>⟨(hf b hb).2.2.2.1,(hf b hb).2.1,(hf b hb).2.2.2.2.1,(hf b hb).2.2.2.2.2⟩
theorem Inv.letgo {pins:List (Addr×Obj)} {σ:St} {H H₀:Hp} {s s₀:Shared} {C:Addr} {h':Heap} (I₀:Inv X pins σ₀ H₀ s₀) (I:Inv X pins σ H s) (hn:H C=none) (hC:s₀.heap.objs.size<=C) (hs:Heap.SameBut C s.heap h'):Inv X pins σ H { s with heap:=h' } :=
 I.turned (t':=s.toks) (it:=C) (λ b o hb e=>(hs.2 b hb).trans e) hn (Nat.ne_of_gt (Nat.lt_of_lt_of_le I₀.lt hC)) (.inr (Nat.le_trans I₀.sz hC))
  (λ x c e z=>by
   obtain ⟨v,q⟩:=I₀.cell x c e;exact absurd (Nat.lt_of_lt_of_le q.lt (by rw [z]; exact hC)) (Nat.lt_irrefl _))
  λ p hp z=>absurd (Nat.lt_of_lt_of_le (Heap.lt_size (I₀.pin p hp).1) (by rw [z]; exact hC)) (Nat.lt_irrefl _)
end
def b2Y (X:Cx) (ifs:List Expr) (t:TT):Prop :=
 ∀ (pins:List (Addr×Obj)) (s:Shared) (σ:St) (H:Hp) (Q:Bool->Hp->Prop),Inv X pins σ H s->t σ H Q →
  wpAny (model X.prog X.w) X.A (forIn ifs true λ c r=>if r=true then do let ok <- isTrue c X.env (eval c X.env); pure (ForInStep.yield ok) else pure (ForInStep.yield r)) (TP X pins σ Q) X.xe s
def a9a:TT:=λ _ H Q=>Q true H
theorem a4u {X:Cx}:b2Y X [] a9a:=λ _ _ _ H _ I h=>wpAny_tests_nil ⟨H,I,h⟩
theorem a4A {X:Cx} {c:Expr} {t:TT} (h:PT X c t):b2Y X [c] t:=λ pins s σ H Q I q=>wpAny_tests_one (h pins s σ H Q I q)
theorem a3R {M:Model} {A:Around} {E:Value->Shared->Prop} {s:Shared} {scope:Scope} {globals:Addr} {closure:List (Str×Addr)} {qual:Str} {env:Env} {Q:Env->Shared->Prop}
  (hQ:Q { scope,locals:=s.heap.objs.size,globals,cells:=cellsFrom (s.heap.objs.size+1) scope.names closure,qual,func:=none,code:=env.code,frame:=env.frame,builtins:=env.builtins } { s with heap:=pushCells (s.heap.push { cls:=.type "dict",data:=.dict #[] }) scope.names }) :
  wpAny M A (newFunctionEnv scope globals closure [] qual none .none (some env)) Q E s:=by
 simp only [newFunctionEnv,Option.isSome_some,if_true];refine wpAny_bind (wpAny_alloc ?_);refine wpAny_bind (wpAny_layCells _ (λ name kind cells=>by cases hkc:kind==NameKind.cell <;> simp [hkc]) _ _ _ _ ?_);rw [show ({ s with heap:=s.heap.push { cls:=.type "dict",data:=.dict #[] } }:Shared).heap.objs.size=s.heap.objs.size+1 from Heap.size_push ..];simp only [List.forIn_nil];exact wpAny_bind (wpAny_pure (wpAny_pure hQ))
theorem a3G {prog:Program} {w:World} {A:Around} {R:Result->Shared->Prop} {s:Shared} {elt target iter:Expr} {ifs:List Expr} {scope:Scope} {pos:Pos} {it acc:Value} {env:Env} (I:Nat->Shared->Prop)
  (turn:∀ n s,I n s->wpAny (model prog w) A (pyNext it) (λ r s₁=>match r with
   | none=>R (.ok .next) s₁
   | some v=>wpAny (model prog w) A (letOwnedTupleGo target it v) (λ _ s₀=>wpAny (model prog w) A (assign target env v) (λ _ s₂ =>
     wpAny (model prog w) A (forIn ifs true λ c r=>if r=true then do let ok <- isTrue c env (eval c env); pure (ForInStep.yield ok) else pure (ForInStep.yield r)) (λ ok s₃ =>
      if ok=true then wpAny (model prog w) A (eval elt env) (λ x s₄ =>
       wpAny (model prog w) A (call (.builtin "list.append") [acc,x]) (λ _ s₅=>∃ m,m<n/\I m s₅) (λ _ _=>False) s₄) (λ _ _=>False) s₃
      else ∃ m,m<n/\I m s₃) (λ _ _=>False) s₂) (λ _ _=>False) s₀) (λ _ _=>False) s₁) (λ _ _=>False) s)
  (n:Nat) (h:I n s) :
  codeAny (model prog w) A (.compLoop (.ListComp elt [⟨target,iter,ifs,0⟩] scope pos) 0 it acc env) R s:=by
 refine codeAny_loop rfl I (λ n s hI=>?_) n h
 show wpAny _ A ((compTurn (.ListComp elt [⟨target,iter,ifs,0⟩] scope pos) 0 it acc env).onRaise (λ x=>do noteFrame x env; theTreesLotGoes x)) _ _ s
 refine wpAny_noted ?_;rw [compTurn_list];refine wpAny_bind (wpAny_standAt (wpAny_bind (wpAny_mono (turn n s hI) (λ r s₁ h₁=>?_) λ _ _ h'=>h'.elim)))
 cases r with
 | none=>exact wpAny_pure h₁
 | some v =>
  refine wpAny_bind (wpAny_mono h₁ (λ _ s₀ h₀=>?_) λ _ _ h'=>h'.elim);refine wpAny_bind (wpAny_mono h₀ (λ _ s₂ h₂=>wpAny_bind (wpAny_mono h₂ (λ ok s₃ h₃=>?_) λ _ _ h'=>h'.elim)) λ _ _ h'=>h'.elim)
  cases ok with
  | false=>exact wpAny_pure ⟨rfl,h₃⟩
  | true =>
   exact wpAny_bind (wpAny_bind (wpAny_mono h₃ (λ x s₄ h₄=>wpAny_bind (wpAny_mono h₄ (λ _ s₅ h₅=>wpAny_pure (wpAny_pure ⟨rfl,h₅⟩)) λ _ _ h'=>h'.elim)) λ _ _ h'=>h'.elim))
def lcW (n:Nat) (fr:List Nat) (g:TG) (te:TE) (σ:St) (J:It) (H1:Hp) (p:Addr) (D:Hp->Prop):Prop :=
 ∃ W:Nat->Nat->List V->Hp->Prop,(∃ m,W 0 m [] (upd H1 p (.lst [])))/\∀ i m ys H,W i m ys H →
  (J.stop i H/\D H)\/(J.go i H/\∀ x H',J.yld i H x H'->g x (blkσ n fr σ) H' λ σ2 H2=>Wk (blkσ n fr σ) σ2/\te σ2 H2 λ v H3=>H3 p=some (.lst ys)/\ys.length<sizeLine/\∃ m',m'<m/\W (i+1) m' (ys++[v]) (upd H3 p (.lst (ys++[v]))))
def tLC (n:Nat) (fr:List Nat) (wi:TI) (g:TG) (te:TE):TE:=λ σ H Q=>wi σ H λ J H1=>∀ p,H1 p=none->lcW n fr g te σ J H1 p (Q (.ref p))
def lcI (n:Nat) (fr:List Nat) (g:TG) (tc:TT) (te:TE) (σ:St) (J:It) (H1:Hp) (p:Addr) (D:Hp->Prop):Prop :=
 ∃ W:Nat->Nat->List V->Hp->Prop,(∃ m,W 0 m [] (upd H1 p (.lst [])))/\∀ i m ys H,W i m ys H →
  (J.stop i H/\D H)\/(J.go i H/\∀ x H',J.yld i H x H'->g x (blkσ n fr σ) H' λ σ2 H2=>Wk (blkσ n fr σ) σ2/\tc σ2 H2 λ ok H2' =>
   if ok=true then te σ2 H2' λ v H3=>H3 p=some (.lst ys)/\ys.length<sizeLine/\∃ m',m'<m/\W (i+1) m' (ys++[v]) (upd H3 p (.lst (ys++[v]))) else ∃ m',m'<m/\W (i+1) m' ys H2')
def b4V (n:Nat) (fr:List Nat) (wi:TI) (g:TG) (tc:TT) (te:TE):TE:=λ σ H Q=>wi σ H λ J H1=>∀ p,H1 p=none->lcI n fr g tc te σ J H1 p (Q (.ref p))
theorem a4v {n:Nat} {fr:List Nat} {g:TG} {te:TE} {σ:St} {J:It} {H1:Hp} {p:Addr} {D:Hp->Prop}:lcI n fr g a9a te σ J H1 p D=lcW n fr g te σ J H1 p D:=by
 unfold lcI lcW a9a;simp only [if_true]
section
variable {X:Cx} {os:List Str} {fr:List Nat} {scope:Scope} {elt tg iter:Expr} {pos:Pos} {wi:TI} {g:TG} {te:TE}
theorem a0r {ifs:List Expr} {tc:TT} {pins:List (Addr×Obj)} {σ:St} {s2:Shared} {D:Addr->Hp->Prop} {itv:Value} {RR:Value->Addr->Result->Shared->Prop}
  (hc:X.calm=true) (hg:∀ C fp s₀ H₀,PG (blk X os fr scope C fp s₀ H₀) tg g) (ht:∀ C fp s₀ H₀,b2Y (blk X os fr scope C fp s₀ H₀) ifs tc) (he:∀ C fp s₀ H₀,PE (blk X os fr scope C fp s₀ H₀) elt te)
  (hk:scope.kind=.function) (hok:Z5 X.env.scope scope X.N fr=true)
  (h2:PIE X pins σ tg (λ J H1=>∀ p,H1 p=none->lcI os.length fr g tc te σ J H1 p (D p)) itv s2)
  (hRR:∀ p C s3 H3 s' H',Inv X pins σ H3 s3->s3.heap.objs.size=C->H' C=none->Inv X pins σ H' s'->(∃ m,s'.heap.Ns C m)->D p H'->RR (.ref p) C (.ok .next) s') :
  wpAny (model X.prog X.w) X.A (newList []) (λ acc s₃=>wpAny (model X.prog X.w) X.A (newFunctionEnv scope X.env.globals (clo X.env scope.names []) [] X.env.qual none .none (some X.env)) (λ cenv s₄ =>
   codeAny (model X.prog X.w) X.A (.compStart (.ListComp elt [⟨tg,iter,ifs,0⟩] scope pos) 0 itv acc { cenv with scope:=relabel scope X.env }) (RR acc cenv.locals) s₄) X.xe s₃) X.xe s2:=by
 obtain ⟨it,fp,tn,J,H2,e,I2,T,st2,f2,hR⟩:=h2;subst e;refine wpAny_newObj_type ?_;have fresh:H2 s2.heap.objs.size=none:=I2.fresh;obtain ⟨W,⟨m0,w0⟩,turn⟩:=hR s2.heap.objs.size fresh;have I3:Inv X pins σ (upd H2 s2.heap.objs.size (.lst [])) { s2 with heap:=s2.heap.push { cls:=.type "list",dict:=none,data:=.seq ([]:List Value).toArray } }:=I2.lnew (ys:=[]) (its:=[]) (t':=s2.toks) .nil (Nat.zero_le _);have obj2:=T.obj _ _ st2;have ne2:∀ b∈fp,b≠s2.heap.objs.size:=λ b hb=>by
  obtain ⟨o,e,_⟩:=obj2 b hb;exact Nat.ne_of_lt (Heap.lt_size e)
 have st3:tn 0 (s2.heap.push { cls:=.type "list",dict:=none,data:=.seq ([]:List Value).toArray }):=T.keep _ _ _ st2 λ b hb o e=>Heap.get?_push_of_some _ e;have f3:∀ b∈fp,V2 X pins (upd H2 s2.heap.objs.size (.lst [])) b:=λ b hb=>⟨by rw [c7 (ne2 b hb)]; exact (f2 b hb).1,(f2 b hb).2⟩;generalize hs3:({ s2 with heap:=s2.heap.push { cls:=.type "list",dict:=none,data:=.seq ([]:List Value).toArray } }:Shared)=s3 at I3 ⊢;have st3':tn 0 s3.heap:=by rw [<- hs3]; exact st3
 generalize s2.heap.objs.size=p at *;refine a3R ?_;have hns:(pushCells (s3.heap.push { cls:=.type "dict",data:=.dict #[] }) scope.names).Ns s3.heap.objs.size λ _=>none:=(Heap.Ns.new s3.heap (.type "dict")).keeps (pushCells_keeps _ _);have hkeep:∀ b o,s3.heap.get? b=some o->(pushCells (s3.heap.push { cls:=.type "dict",data:=.dict #[] }) scope.names).get? b=some o:=λ b o e=>pushCells_keeps _ _ b o (Heap.get?_push_of_some _ e);have hcl:=cellsFrom_ok scope.names (s3.heap.push { cls:=.type "dict",data:=.dict #[] }) (s3.heap.objs.size+1) [] ⟨λ _ _ hm=>(nomatch hm),List.Pairwise.nil⟩ (by rw [Heap.size_push]; exact Nat.le_refl _);rw [Heap.size_push] at hcl;generalize pushCells (s3.heap.push { cls:=.type "dict",data:=.dict #[] }) scope.names=h₁ at hns hkeep hcl ⊢;have obj3:∀ b∈fp,∃ o,s3.heap.get? b=some o:=λ b hb=>by
  obtain ⟨o,e,_⟩:=T.obj _ _ st3' b hb;exact ⟨o,e⟩
 have J0:=I3.block (os:=os) (t':=s3.toks) hk hok f3 obj3 (h₁:=h₁) hns hkeep hcl;have ok0:=J0.ok;have fpY:∀ {H':Hp},(∀ b∈fp,H' b=none)->∀ b∈fp,V2 (blk X os fr scope s3.heap.objs.size fp s3 (upd H2 p (.lst []))) [] H' b:=λ hn b hb =>
  ⟨hn b hb,(ok0.exf b hb).1,ok0.exfs b hb,.inl hb,(ok0.exf b hb).2,λ q hq=>nomatch hq⟩
 have st4:tn 0 h₁:=T.keep _ _ _ st3' λ b hb o e=>hkeep b o e;have fr0:∀ b∈fp,upd H2 p (.lst []) b=none:=λ b hb=>(f3 b hb).1;have loop:∀ s4:Shared,s4={ s3 with heap:=h₁,toks:=s3.toks } →
   codeAny (model X.prog X.w) X.A (.compLoop (.ListComp elt [⟨tg,iter,ifs,0⟩] scope pos) 0 (.ref it) (.ref p) (compEnvC scope (R3 X.env scope s3.heap.objs.size) s3.heap.objs.size X.env)) (RR (.ref p) s3.heap.objs.size) s4:=by
  rintro s4 rfl;refine a3G (λ n s'=>∃ i ys H',Inv (blk X os fr scope s3.heap.objs.size fp s3 (upd H2 p (.lst []))) [] (blkσ os.length fr σ) H' s'/\tn i s'.heap/\(∀ b∈fp,H' b=none)/\W i n ys H') ?_ m0 ⟨0,[],_,J0,st4,fr0,w0⟩;rintro n s5 ⟨i,ys,H5,I5,st5,fr5,w5⟩;rcases turn i n ys H5 w5 with ⟨stop,qd⟩ | ⟨go,step⟩
  ·refine C2 (T.done (blk X os fr scope s3.heap.objs.size fp s3 (upd H2 p (.lst []))) rfl rfl rfl hc i [] s5 _ H5 (λ _ _=>False) I5 (fpY fr5) st5 stop) λ r s6 ⟨hr,I6⟩=>?_
   subst hr;exact hRR p _ s3 _ s6 H5 I3 rfl I6.free (I3.unblock f3 I6) (let ⟨m,hm,_⟩:=I6.loc; ⟨m,hm⟩) qd
  ·refine C2 (T.item (blk X os fr scope s3.heap.objs.size fp s3 (upd H2 p (.lst []))) rfl rfl rfl hc i [] s5 _ H5 (λ _ _=>False) I5 (fpY fr5) st5 go) λ r s6 ⟨u,hr,h6⟩=>?_
   subst hr;refine C2 h6 λ _ s7 ⟨x,H7,I7,r7,y7,st7,fr7⟩=>?_;have I7':=I7.pinned (fpY fr7) (T.obj _ _ st7);refine C2 (hg _ _ _ _ _ s7 _ H7 x u _ I7' r7 (step x H7 y7)) λ _ s8 ⟨σ8,H8,I8,wk8,q8⟩=>?_;have again:∀ {H':Hp} {s':Shared} {zs:List V} {m':Nat},Inv (blk X os fr scope s3.heap.objs.size fp s3 (upd H2 p (.lst []))) ([]++a2h fp s7.heap) σ8 H' s'->m'<n->W (i+1) m' zs H' →
     ∃ m,m<n/\∃ i ys H',Inv (blk X os fr scope s3.heap.objs.size fp s3 (upd H2 p (.lst []))) [] (blkσ os.length fr σ) H' s'/\tn i s'.heap/\(∀ b∈fp,H' b=none)/\W i m ys H':=λ {H' s' zs m'} J' hm' w'=>by
    refine ⟨m',hm',i+1,zs,H',(J'.weak wk8.1.symm λ i v e=>wk8.2 i v e).unpinned,T.keep _ _ _ st7 λ b hb o e=>(J'.pin (b,o) (List.mem_append_right _ (List.mem_append_right _ (U5 hb e)))).1,λ b hb=>?_,w'⟩;obtain ⟨o,e,d⟩:=T.obj _ _ st7 b hb;exact (J'.pin (b,o) (List.mem_append_right _ (List.mem_append_right _ (U5 hb e)))).2.1
   refine C2 (ht _ _ _ _ _ s8 σ8 H8 _ I8 q8) λ ok s9 ⟨H9,I9,q9⟩=>?_
   cases ok with
   | false =>
    obtain ⟨m',hm',w9⟩:=q9;exact again I9 hm' w9
   | true =>
    refine C2 (he _ _ _ _ _ s9 σ8 H9 _ I9 q9) λ y s10 ⟨v,H10,I10,r10,hp10,hz10,m',hm',w10⟩=>?_;refine C2 (J8 (X:=blk X os fr scope s3.heap.objs.size fp s3 (upd H2 p (.lst []))) _ s10 σ8 H10 (.ref p) [v] (.ref p) [y] (λ _ H'=>H'=upd H10 p (.lst (ys++[v]))) I10 rfl (.cons r10 .nil) ⟨p,ys,v,rfl,rfl,hp10,hz10,rfl⟩) λ _ s11 ⟨_,H11,I11,_,e11⟩=>?_;subst e11;exact again I11 hm' w10
 exact codeAny_compStart_list (loop _ rfl) (T.self _ 0 _ _ _ st4 (loop _ rfl))
theorem R8 (os:List Str) (fr:List Nat) (hc:X.calm=true) (hi:PI X tg iter wi) (hg:∀ C fp s₀ H₀,PG (blk X os fr scope C fp s₀ H₀) tg g) (he:∀ C fp s₀ H₀,PE (blk X os fr scope C fp s₀ H₀) elt te)
  (hk:scope.kind=.function:=by rfl) (hok:Z5 X.env.scope scope X.N fr=true:=by rfl) (hs:∀ x,foldedSetIterable iter X.env x=pure x:=by intro _; rfl) :
  PE X (.ListComp elt [⟨tg,iter,[],0⟩] scope pos) (tLC os.length fr wi g te):=by
 intro pins s σ H Q I h;unfold tLC at h;simp only [<- a4v] at h;rw [eval_ListComp];refine wpAny_comprehension_free (use:=none) rfl hs (E5 (U4 I hok)) hk (λ x hx hl=>by have:=(O6 hok x hx).1; rw [hl] at this; exact this) (C2 (hi pins s σ H _ I h) λ v s1 h1=>C2 h1 λ itv s2 h2=>?_);refine a0r (os:=os) (D:=λ p H'=>Q (.ref p) H') (RR:=λ acc C=>compPost (model X.prog X.w) X.A X.xe none (EP X pins σ Q) acc C) hc hg (λ _ _ _ _=>a4u) he hk hok h2 ?_;intro p C s3 H3 s' H' I3 eC hn I' ⟨m,hm⟩ q;refine ⟨m,hm,λ h' hs'=>⟨.ref p,H',I3.letgo I' hn (by omega) hs',rfl,q⟩⟩
theorem a5A {c:Expr} {tc:TT} (os:List Str) (fr:List Nat) (hc:X.calm=true) (hi:PI X tg iter wi) (hg:∀ C fp s₀ H₀,PG (blk X os fr scope C fp s₀ H₀) tg g) (ht:∀ C fp s₀ H₀,PT (blk X os fr scope C fp s₀ H₀) c tc) (he:∀ C fp s₀ H₀,PE (blk X os fr scope C fp s₀ H₀) elt te)
  (hk:scope.kind=.function:=by rfl) (hok:Z5 X.env.scope scope X.N fr=true:=by rfl) (hs:∀ x,foldedSetIterable iter X.env x=pure x:=by intro _; rfl) :
  PE X (.ListComp elt [⟨tg,iter,[c],0⟩] scope pos) (b4V os.length fr wi g tc te):=by
 intro pins s σ H Q I h;rw [eval_ListComp];refine wpAny_comprehension_free (use:=none) rfl hs (E5 (U4 I hok)) hk (λ x hx hl=>by have:=(O6 hok x hx).1; rw [hl] at this; exact this) (C2 (hi pins s σ H _ I h) λ v s1 h1=>C2 h1 λ itv s2 h2=>?_);refine a0r (os:=os) (D:=λ p H'=>Q (.ref p) H') (RR:=λ acc C=>compPost (model X.prog X.w) X.A X.xe none (EP X pins σ Q) acc C) hc hg (λ _ _ _ _=>a4A (ht _ _ _ _)) he hk hok h2 ?_;intro p C s3 H3 s' H' I3 eC hn I' ⟨m,hm⟩ q;refine ⟨m,hm,λ h' hs'=>⟨.ref p,H',I3.letgo I' hn (by omega) hs',rfl,q⟩⟩
theorem a0I {i:Nat} {x:Str} {pos' spos:Pos} (os:List Str) (fr:List Nat) (hN:X.N.Nodup) (hi':X.N[i]?=some x) (hx:X.env.scope.names.lookup x=some .local)
  (hc:X.calm=true) (hi:PI X tg iter wi) (hg:∀ C fp s₀ H₀,PG (blk X os fr scope C fp s₀ H₀) tg g) (he:∀ C fp s₀ H₀,PE (blk X os fr scope C fp s₀ H₀) elt te)
  (hsw:swapsWith (.ListComp elt [⟨tg,iter,[],0⟩] scope pos) (some (.Name x pos')) spos.line X.env=pure true:=by rfl)
  (hk:scope.kind=.function:=by rfl) (hok:Z5 X.env.scope scope X.N fr=true:=by rfl) (hs:∀ x,foldedSetIterable iter X.env x=pure x:=by intro _; rfl) :
  PS X (.Assign [.Name x pos'] (.ListComp elt [⟨tg,iter,[],0⟩] scope pos) spos) (a7O (tLC os.length fr wi g te) (J6 i)):=by
 intro pins s σ H D I h;unfold a7O tLC at h;simp only [<- a4v] at h;rw [exec_Assign_Name_used _ _ _ _ hsw];refine wpAny_bind (wpAny_standAt (wpAny_bind ?_))
 show wpAny _ X.A (do let _ <- comprehension (.ListComp elt [⟨tg,iter,[],0⟩] scope pos) scope X.env _ (newList []) false (eval iter X.env) (some (assign (.Name x pos') X.env))) _ _ s
 refine wpAny_bind (wpAny_mono (wpAny_comprehension_free (use:=some (assign (.Name x pos') X.env)) (Q:=λ _ s'=>SP X pins D .next s') rfl hs (E5 (U4 I hok)) hk (λ x hx hl=>by have:=(O6 hok x hx).1; rw [hl] at this; exact this)
  (C2 (hi pins s σ H _ I h) λ v s1 h1=>C2 h1 λ itv s2 h2=>?_)) (λ _ s' hq=>wpAny_pure (wpAny_pure hq)) λ _ _ e=>e)
 refine a0r (os:=os) (D:=λ p H'=>D.nx (σ.set i (some (.ref p))) H') (RR:=λ acc C=>compPost (model X.prog X.w) X.A X.xe (some (assign (.Name x pos') X.env)) (λ _ s'=>SP X pins D .next s') acc C) hc hg (λ _ _ _ _=>a4u) he hk hok h2 ?_;intro p C s3 H3 s' H' I3 eC hn I' ⟨m,hm⟩ q
 show wpAny _ X.A (assign (.Name x pos') X.env (.ref p)) _ _ _
 refine wpAny_assign_Name (a0P (v:=.ref p) I' hN hi' (.inl hx) rfl (λ s'' I'' ⟨a,hsa,ha⟩=>?_) (.inr hx));have hCa:C≠a:=by
  rcases ha with e | e
  ·rw [e]; exact Nat.ne_of_gt (by rw [<- eC]; exact I3.lt)
  ·obtain ⟨v,z⟩:=I3.cell x a e
   exact Nat.ne_of_gt (by rw [<- eC]; exact z.lt)
 exact ⟨m,hm.sameBut hsa hCa,λ h' hs'=>⟨_,H',I3.letgo I'' hn (by omega) hs',q⟩⟩
end
section
variable {X:Cx} {pins:List (Addr×Obj)} {σ:St} {H:Hp} {s:Shared} {a:Addr} {xs:List V}
abbrev SqA (K:W.Frag) (H:Hp) (a:Addr) (xs:List V):Prop:=SqL K H a xs\/SqT K H a xs
theorem a3Q {h':Heap} {o:Obj} {h:Heap} (hk:∀ b x,b ∉ [h.objs.size]->(h.push o).get? b=some x->h'.get? b=some x):∀ b x,h.get? b=some x->h'.get? b=some x :=
 λ b x e=>hk b x (λ hm=>by rw [List.mem_singleton.mp hm] at e; exact Nat.lt_irrefl _ (Heap.lt_size e)) (Heap.get?_push_of_some _ e)
theorem a1Y (hc:X.calm=true) (I:Inv X pins σ H s) (h:SqA X.K H a xs):∃ its:List Value,Vals xs its/\∀ (Q:Value->Shared->Prop) (E:Value->Shared->Prop),
  (∀ (o:Obj) (St:Nat->Heap->Prop),Walks X.prog X.w X.A.in1 s.heap.objs.size [s.heap.objs.size,a] [s.heap.objs.size] its.toArray.size (λ i v=>its.toArray[i]?=some v) St->St 0 (s.heap.push o) →
   (∀ b∈[s.heap.objs.size,a],b<(s.heap.push o).objs.size)->Q (.ref s.heap.objs.size) { s with heap:=s.heap.push o })->wpAny (model X.prog X.w) X.A.in1 (pyIter (.ref a)) Q E s:=by
 have hh:=I.ok.hd hc;have lt2:∀ (o:Obj),a<s.heap.objs.size->∀ b∈[s.heap.objs.size,a],b<(s.heap.push o).objs.size:=λ o hlt b hb=>by
  rw [Heap.size_push];rcases List.mem_cons.mp hb with rfl | hb
  ·exact Nat.lt_succ_self _
  ·rw [List.mem_singleton.mp hb]; exact Nat.lt_succ_of_lt hlt
 rcases h with h | h
 ·obtain ⟨its,r,p,hz⟩:=I.list h
  have hl:=p.isList;have hlt:a<s.heap.objs.size:=by obtain ⟨_,e,_⟩:=hl; exact Heap.lt_size e
  refine ⟨its,r,λ Q E hQ=>wpAny_pyIter_list hl ?_⟩;exact hQ _ _ (Walks.list (A:=X.A.in1) hh _ a (Nat.ne_of_lt hlt) its.toArray) ⟨⟨_,Heap.get?_push_size _ rfl,rfl,rfl⟩,hl.push _⟩ (lt2 _ hlt)
 ·obtain ⟨its,r,p,hz⟩:=I.tuple h
  have hl:s.heap.IsTuple a its.toArray:=p;have hlt:a<s.heap.objs.size:=by obtain ⟨_,e,_⟩:=hl; exact Heap.lt_size e
  refine ⟨its,r,λ Q E hQ=>wpAny_pyIter_tuple hl ?_⟩;exact hQ _ _ (Walks.tuple (A:=X.A.in1) hh _ a (Nat.ne_of_lt hlt) its.toArray) ⟨⟨_,Heap.get?_push_size _ rfl,rfl,rfl⟩,hl.push _⟩ (lt2 _ hlt)
theorem a6z {ys:List V} {its:List Value} (r:Vals ys its) {i:Nat} {v:Value} (e:its.toArray[i]?=some v):∃ y,ys[i]?=some y/\RelV y v:=by
 have e':its[i]?=some v:=by simpa using e
 cases q:ys[i]? with
 | none=>rw [r.none_of q] at e'; cases e'
 | some y =>
  obtain ⟨u,h1,h2⟩:=r.get q;rw [e'] at h1; cases h1;exact ⟨y,rfl,h2⟩
theorem a5Y (bs:List Bool):((List.range bs.length).all λ i=>(bs[i]?).getD true)=bs.all id:=by
 rw [Bool.eq_iff_iff,List.all_eq_true,List.all_eq_true];constructor
 ·intro h b hb
  obtain ⟨i,hi,e⟩:=List.getElem_of_mem hb;have:=h i (List.mem_range.mpr hi);simp only [List.getElem?_eq_getElem hi,Option.getD_some,e] at this;exact this
 ·intro h i hi
  have hi':=List.mem_range.mp hi;simp only [List.getElem?_eq_getElem hi',Option.getD_some];exact h _ (List.getElem_mem hi')
end
section
variable {X:Cx}
theorem a8t (hc:X.calm=true):O1 X (.builtin "all") (λ vs H Q=>∃ (a:Addr) (bs:List Bool),vs=[.ref a]/\SqA X.K H a (bs.map V.bl)/\Q (.bl (bs.all id)) H):=by
 intro pins s σ H vs us Q I r h;obtain ⟨a,bs,rfl,hs,q⟩:=h;obtain ⟨u,rfl,ru⟩:=O7 r
 cases ru;obtain ⟨its,rv,walk⟩:=a1Y hc I hs;have hlen:its.toArray.size=bs.length:=by rw [List.size_toArray,<- rv.length,List.length_map]
 refine call_all_walk (walk _ _ λ o St W st fp=>?_);refine ⟨_,_,_,_,_,_,λ i=>(bs[i]?).getD true,rfl,W,st,λ i v s' Q' E' hP hQ=>?_,λ h' tk hk=>?_⟩
 ·obtain ⟨y,e,ry⟩:=a6z rv hP
  rw [List.getElem?_map] at e
  cases eb:bs[i]? with
  | none=>rw [eb] at e; cases e
  | some b =>
   rw [eb] at e; cases e
   cases ry;simp only [eb,Option.getD_some] at hQ;exact wpAny_truthy_bool hQ
 ·rw [hlen,a5Y bs]
  exact ⟨.bl _,H,I.kept (a3Q hk),rfl,q⟩
theorem a3A {ns:List Int} {its:List Value} (rv:Vals (ns.map V.int) its):∀ (i:Nat) (v:Value),its.toArray[i]?=some v->∃ t,v=Value.int (ns.getD i 0) t:=λ i v hP=>by
 obtain ⟨y,e,ry⟩:=a6z rv hP;rw [List.getElem?_map] at e
 cases en:ns[i]? with
 | none=>rw [en] at e; cases e
 | some n =>
  rw [en] at e; cases e;obtain ⟨t,rfl⟩:=ry;exact ⟨t,by rw [List.getD_eq_getElem?_getD,en]; rfl⟩
theorem a1j (ns:List Int):∀ j,preSum (λ i=>ns.getD i 0) j=(ns.take j).sum
 | 0=>by simp [preSum]
 | j+1=>by
  rw [preSum,a1j ns j]
  by_cases hj:j<ns.length
  ·rw [List.take_succ_eq_append_getElem hj,List.sum_append,List.getD_eq_getElem?_getD,List.getElem?_eq_getElem hj]; simp
  ·rw [List.take_of_length_le (by omega),List.take_of_length_le (by omega),List.getD_eq_getElem?_getD,List.getElem?_eq_none (by omega)]; simp
theorem b0d (hc:X.calm=true):O1 X (.builtin "sum") (λ vs H Q=>∃ (a:Addr) (ns:List Int),vs=[.ref a]/\SqA X.K H a (ns.map V.int)/\Q (.int ns.sum) H):=by
 intro pins s σ H vs us Q I r h;obtain ⟨a,ns,rfl,hs,q⟩:=h;obtain ⟨u,rfl,ru⟩:=O7 r
 cases ru;obtain ⟨its,rv,walk⟩:=a1Y hc I hs;have hlen:its.toArray.size=ns.length:=by rw [List.size_toArray,<- rv.length,List.length_map]
 refine call_sum_walkG (walk _ _ λ o St W st fp=>?_);refine ⟨_,_,_,_,_,_,λ i=>ns.getD i 0,rfl,W,st,fp,a3A rv,λ h' tk t' hk=>?_⟩;rw [hlen,a1j,List.take_of_length_le (Nat.le_refl _)];exact ⟨.int _,H,I.kept (a3Q hk),⟨_,rfl⟩,q⟩
theorem a7C {l:List Int} {j:Nat} (h:j<l.length):l.getD j 0∈l:=by
 rw [List.getD_eq_getElem?_getD,List.getElem?_eq_getElem h]; exact List.getElem_mem h
theorem a7v {l:List Int} {a:Int} (h:a∈l):∃ j,j<l.length/\l.getD j 0=a:=by
 obtain ⟨j,hj,e⟩:=List.getElem_of_mem h;exact ⟨j,hj,by rw [List.getD_eq_getElem?_getD,List.getElem?_eq_getElem hj]; exact e⟩
theorem a2G (hc:X.calm=true):O1 X (.builtin "max") (λ vs H Q=>∃ (a:Addr) (ns:List Int),vs=[.ref a]/\SqA X.K H a (ns.map V.int)/\ns≠[]/\∀ M,M∈ns->(∀ n∈ns,n<=M)->Q (.int M) H):=by
 intro pins s σ H vs us Q I r h;obtain ⟨a,ns,rfl,hs,hne,q⟩:=h;obtain ⟨u,rfl,ru⟩:=O7 r
 cases ru;obtain ⟨its,rv,walk⟩:=a1Y hc I hs;have hlen:its.toArray.size=ns.length:=by rw [List.size_toArray,<- rv.length,List.length_map]
 have hpos:0<ns.length:=List.length_pos_iff.mpr hne;refine call_max_walk (walk _ _ λ o St W st fp=>?_);refine ⟨_,_,_,_,_,_,_,rfl,W,st,fp,by rw [hlen]; exact hpos,CmpOf.ints_gt (λ i=>ns.getD i 0) (a3A rv),λ v h' tk hP hk=>?_⟩;obtain ⟨h1,h2⟩:=argBest_gt (λ i=>ns.getD i 0) (its.toArray.size - 1);obtain ⟨t,rfl⟩:=a3A rv _ v hP;refine ⟨.int _,H,I.kept (a3Q hk),⟨_,rfl⟩,q _ (a7C (by omega)) λ n hn=>?_⟩;obtain ⟨j,hj,rfl⟩:=a7v hn;exact h2 j (by omega)
end
mutual
inductive Dp (K:W.Frag) (H:Hp):V->PyData->Prop
 | non:Dp K H .non .none
 | bl (b:Bool):Dp K H (.bl b) (.bool b)
 | int (i:Int):Dp K H (.int i) (.int i)
 | str (x:Str):Dp K H (.str x) (.str x)
 | lst {a:Addr} {xs:List V} {ds:List PyData}:SqL K H a xs->Dps K H xs ds->Dp K H (.ref a) (.list ds)
 | tup {a:Addr} {xs:List V} {ds:List PyData}:SqT K H a xs->Dps K H xs ds->Dp K H (.ref a) (.tuple ds)
inductive Dps (K:W.Frag) (H:Hp):List V->List PyData->Prop
 | nil:Dps K H [] []
 | cons {x:V} {xs:List V} {d:PyData} {ds:List PyData}:Dp K H x d->Dps K H xs ds->Dps K H (x::xs) (d::ds)
end
theorem Same.tseq {K:W.Frag} {H H':Hp} {a:Addr} {xs:List V} (e:Same H H') (h:SqT K H a xs):SqT K H' a xs:=by
 rcases h with (h | ⟨o,h⟩) | h
 ·exact .inl (.inl (e _ _ h))
 ·exact .inl (.inr ⟨o,e _ _ h⟩)
 ·exact .inr h
mutual
theorem Dp.same {K:W.Frag} {H H':Hp} (e:Same H H'):∀ {x:V} {d:PyData},Dp K H x d->Dp K H' x d
 | _,_,.non=>.non
 | _,_,.bl b=>.bl b
 | _,_,.int i=>.int i
 | _,_,.str x=>.str x
 | _,_,.lst h r=>.lst (e.seq h) (Dps.same e r)
 | _,_,.tup h r=>.tup (e.tseq h) (Dps.same e r)
theorem Dps.same {K:W.Frag} {H H':Hp} (e:Same H H'):∀ {xs:List V} {ds:List PyData},Dps K H xs ds->Dps K H' xs ds
 | _,_,.nil=>.nil
 | _,_,.cons a r=>.cons (Dp.same e a) (Dps.same e r)
end
section
variable {X:Cx} {pins:List (Addr×Obj)} {σ:St} {H:Hp} {s:Shared}
mutual
theorem Dp.reads (I:Inv X pins σ H s):∀ {x:V} {d:PyData},Dp X.K H x d->∀ {u:Value},RelV x u->∃ as,Reads s.heap u d as
 | _,_,.non,u,r=>by cases r; exact ⟨_,.none⟩
 | _,_,.bl b,u,r=>by cases r; exact ⟨_,.bool b⟩
 | _,_,.int i,u,r=>by obtain ⟨t,rfl⟩:=r; exact ⟨_,.int i t⟩
 | _,_,.str x,u,r=>by obtain ⟨t,rfl⟩:=r; exact ⟨_,.str x t⟩
 | _,_,.lst h q,u,r=>by
  cases r;obtain ⟨its,rv,p,hz⟩:=I.list h;obtain ⟨o,e1,e2,n,e3⟩:=p.isList;obtain ⟨as,ra⟩:=Dps.reads I q rv;exact ⟨_,.list e1 e2 e3 (by simpa using ra)⟩
 | _,_,.tup h q,u,r=>by
  cases r;obtain ⟨its,rv,p,hz⟩:=I.tuple h;obtain ⟨o,e1,e2,n,e3⟩:=(show s.heap.IsTuple _ its.toArray from p);obtain ⟨as,ra⟩:=Dps.reads I q rv;exact ⟨_,.tuple e1 e2 e3 (by simpa using ra)⟩
theorem Dps.reads (I:Inv X pins σ H s):∀ {xs:List V} {ds:List PyData},Dps X.K H xs ds->∀ {us:List Value},Vals xs us->∃ as,ReadsAll s.heap us ds as
 | _,_,.nil,us,r=>by cases r; exact ⟨_,.nil⟩
 | _,_,.cons a q,us,r=>by
  cases r with
  | cons r1 r2 =>
   obtain ⟨as,h1⟩:=Dp.reads I a r1;obtain ⟨bs,h2⟩:=Dps.reads I q r2;exact ⟨_,.cons h1 h2⟩
end
end
section
variable {X:Cx}
def b5z (K:W.Frag):R2:=λ x y H Q=>∃ d e,Dp K H x d/\Dp K H y e/\d.canLay0=true/\e.canLay0=true/\min d.depth e.depth<=60/\Q (.bl (PyData.eqv d e)) H
def b5Z (K:W.Frag):R2:=λ x y H Q=>∃ d e,Dp K H x d/\Dp K H y e/\d.canLay0=true/\e.canLay0=true/\min d.depth e.depth<=60/\Q (.bl (!PyData.eqv d e)) H
theorem a9e {k:Nat} (hr:Room k X.A):OpR X (compareOp .Eq) (b5z X.K):=by
 intro pins s σ H x y v u Q I rx ry h;obtain ⟨d,e,h1,h2,c1,c2,hd,q⟩:=h;obtain ⟨as,r1⟩:=h1.reads I rx;obtain ⟨bs,r2⟩:=h2.reads I ry;exact SeqAt.compareEq_reads r1 r2 c1 c2 (by have:=hr.units; omega) ⟨.bl _,H,I,rfl,q⟩
theorem a0f {k:Nat} (hr:Room k X.A):OpR X (compareOp .NotEq) (b5Z X.K):=by
 intro pins s σ H x y v u Q I rx ry h;obtain ⟨d,e,h1,h2,c1,c2,hd,q⟩:=h;obtain ⟨as,r1⟩:=h1.reads I rx;obtain ⟨bs,r2⟩:=h2.reads I ry;exact SeqAt.compareNe_reads r1 r2 c1 c2 (by have:=hr.units; omega) ⟨.bl _,H,I,rfl,q⟩
end
theorem Same.new {H:Hp} {p:Addr} (h:H p=none) (o:HO):Same H (upd H p o):=λ b u q=>by rw [c7 (g0 q h)]; exact q
theorem Wk.set {n:Nat} {fr:List Nat} {σ:St} {i:Nat} {v:V} (hi:i<n):Wk (blkσ n fr σ) ((blkσ n fr σ).set i (some v)):=by
 refine ⟨by simp,λ j w e=>?_⟩
 by_cases hj:j=i
 ·subst hj
  unfold blkσ at e;rw [List.getElem?_append_left (by simpa using hi),List.getElem?_replicate] at e
  split at e <;> cases e
 ·rw [List.getElem?_set_ne (Ne.symm hj)]; exact e
structure a5j (J:It) (H1:Hp) (xs:List V):Prop where
 go:∀ i H,Same H1 H->i<xs.length->J.go i H
 yld:∀ i H x H',Same H1 H->i<xs.length->J.yld i H x H'->H'=H/\xs[i]?=some x
 stop:∀ H,Same H1 H->J.stop xs.length H
theorem y6 {K:W.Frag} {a:Addr} {xs:List V} {H1:Hp} (h:SqL K H1 a xs):a5j (Itl K a) H1 xs :=
 ⟨λ i H e hi=>⟨xs,xs[i],e.seq h,List.getElem?_eq_getElem hi⟩,λ i H x H' e hi y=>⟨y.1,y.2 xs (e.seq h)⟩,λ H e=>⟨xs,e.seq h,Nat.le_refl _⟩⟩
theorem a1J {K:W.Frag} {a:Addr} {xs:List V} {H1:Hp} (h:SqT K H1 a xs):a5j (Itt K a) H1 xs :=
 ⟨λ i H e hi=>⟨xs,xs[i],e.tseq h,List.getElem?_eq_getElem hi⟩,λ i H x H' e hi y=>⟨y.1,y.2 xs (e.tseq h)⟩,λ H e=>⟨xs,e.tseq h,Nat.le_refl _⟩⟩
theorem a1X {lo:Int} {n:Nat} {H1:Hp}:a5j (Itr lo n) H1 ((List.range n).map λ (i:Nat)=>V.int (lo+(i:Int))) :=
 ⟨λ i H e hi=>(show i<n from by simpa using hi),λ i H x H' e hi y=>⟨y.1,by rw [y.2,List.getElem?_map,List.getElem?_range (by simpa using hi)]; rfl⟩,λ H e=>by simp [Itr]⟩
theorem Paired.app {α β:Type} {F:α->β->Prop}:∀ {a c:List α} {b d:List β},Paired F a b->Paired F c d->Paired F (a++c) (b++d)
 | _,_,_,_,.nil,s=>s
 | _,_,_,_,.cons r t,s=>.cons r (Paired.app t s)
section
variable {xs:List V} {J:It} {n:Nat} {fr:List Nat} {g:TG} {te:TE} {σ:St} {H1:Hp} {p:Addr} {D:Hp->Prop}
theorem R1 (hJ:a5j J H1 xs) (hp:H1 p=none) (hz:xs.length<sizeLine) (F:V->V)
  (step:∀ (i:Nat) x H (N:VK),xs[i]?=some x->Same H1 H->N (F x) H->g x (blkσ n fr σ) H λ σ2 H2=>Wk (blkσ n fr σ) σ2/\te σ2 H2 N)
  (hd:D (upd H1 p (.lst (xs.map F)))):lcW n fr g te σ J H1 p D:=by
 refine ⟨λ i m ys H=>m=xs.length - i/\i<=xs.length/\ys=(xs.take i).map F/\H=upd H1 p (.lst ys),⟨xs.length,by simp,Nat.zero_le _,by simp,rfl⟩,?_⟩;rintro i m ys H ⟨rfl,hi,rfl,rfl⟩;have e:=Same.new (o:=.lst ((xs.take i).map F)) hp
 by_cases hlt:i<xs.length
 ·refine .inr ⟨hJ.go i _ e hlt,λ x H' y=>?_⟩
  obtain ⟨rfl,hx⟩:=hJ.yld i _ x H' e hlt y;refine step i x _ _ hx e ⟨upd_same,by rw [List.length_map,List.length_take]; omega,xs.length - (i+1),by omega,rfl,hlt,?_,a1E⟩;rw [List.take_succ,hx,List.map_append]; rfl
 ·have:i=xs.length:=by omega
  subst this;refine .inl ⟨hJ.stop _ e,?_⟩;rw [List.take_of_length_le (Nat.le_refl _)]; exact hd
theorem a1w (hJ:a5j J H1 xs) (hp:H1 p=none) (hz:xs.length<sizeLine) (R:Nat->V->Hp->Prop) (hR:∀ i y H H',R i y H->(∀ b o,b≠p->H b=some o->H' b=some o)->R i y H')
  (step:∀ (i:Nat) x H ys (N:VK),xs[i]?=some x->Same H1 H->H p=some (.lst ys)->(∀ v H3,Same H H3->R i v H3->N v H3)->g x (blkσ n fr σ) H λ σ2 H2=>Wk (blkσ n fr σ) σ2/\te σ2 H2 N)
  (hd:∀ ys H,Same H1 H->H p=some (.lst ys)->ys.length=xs.length->(∀ i y,ys[i]?=some y->R i y H)->D H):lcW n fr g te σ J H1 p D:=by
 refine ⟨λ i m ys H=>m=xs.length - i/\i<=xs.length/\Same H1 H/\H p=some (.lst ys)/\ys.length=i/\∀ j y,ys[j]?=some y->R j y H,⟨xs.length,by simp,Nat.zero_le _,Same.new hp _,upd_same,rfl,λ j y e=>by simp at e⟩,?_⟩;rintro i m ys H ⟨rfl,hi,e,hH,len,pr⟩
 by_cases hlt:i<xs.length
 ·refine .inr ⟨hJ.go i _ e hlt,λ x H' y=>?_⟩
  obtain ⟨rfl,hx⟩:=hJ.yld i _ x H' e hlt y;refine step i x _ ys _ hx e hH λ v H3 s3 r3=>⟨s3 _ _ hH,by omega,xs.length - (i+1),by omega,rfl,hlt,λ b o q=>?_,upd_same,by rw [List.length_append,len]; rfl,λ j y ey=>?_⟩
  ·rw [c7 (g0 q hp)]; exact s3 _ _ (e _ _ q)
  ·have up:∀ b o,b≠p->H3 b=some o->upd H3 p (.lst (ys++[v])) b=some o:=λ b o hb q=>by rw [c7 hb]; exact q
   by_cases hj:j<ys.length
   ·rw [List.getElem?_append_left hj] at ey
    exact hR j y _ _ (pr j y ey) λ b o hb q=>up b o hb (s3 _ _ q)
   ·rw [List.getElem?_append_right (by omega)] at ey
    have hj':j - ys.length=0:=by
     cases q:j - ys.length with
     | zero=>rfl
     | succ k=>rw [q] at ey; simp at ey
    rw [hj'] at ey;have:j=i:=by omega
    subst this;simp at ey;subst ey;exact hR j v _ _ r3 up
 ·have:i=xs.length:=by omega
  subst this;exact .inl ⟨hJ.stop _ e,hd ys H e hH len pr⟩
end
theorem Inv.turnedLaid {X:Cx} {pins:List (Addr×Obj)} {σ:St} {H:Hp} {s:Shared} {h':Heap} {fp:List Addr} {T:Addr} {xs:List V} {its:List Value} (I:Inv X pins σ H s) (hf:∀ b∈fp,V2 X pins H b)
  (k:∀ b o,b ∉ fp->s.heap.get? b=some o->h'.get? b=some o) (ho:∀ b∈fp,∃ o,h'.get? b=some o) (hT:s.heap.objs.size<=T) (hz:xs.length<=sizeLine) (hv:Vals xs its) (ht:IsTup h' T its.toArray) :
  Inv X pins σ (upd H T (.tup xs)) { s with heap:=h' }:=by
 have hTn:H T=none:=I.hok.fresh hT;have neT:∀ b o,s.heap.get? b=some o->b≠T:=λ b o e=>Nat.ne_of_lt (Nat.lt_of_lt_of_le (Heap.lt_size e) hT);refine I.step (g':=s.gens) (t':=s.toks) (d':=s.drawn) (ch:=fp) (λ b hb=>⟨(hf b hb).2.2.2.1,(hf b hb).2.1,(hf b hb).2.2.2.2.1,(hf b hb).2.2.2.2.2⟩) (λ b o _ _ hc e _=>k b o hc e) (λ b o _ _ hc e _=>⟨o.slots,k b o hc e⟩)
  (λ b o hc e n=>by rw [c7 (neT b o e)]; exact n) (λ b o hc e=>⟨o,k b o hc e⟩) (λ b ys e=>by rw [c7 (g0 e hTn)]; exact e) (λ b o u e=>by rw [c7 (g0 e hTn)]; exact e) (λ b ps e=>⟨#[],by rw [c7 (g0 e hTn),e]; simp⟩)
  (λ m hm=>?_) (λ b u e=>?_) I.bare
 ·obtain ⟨o,es,ep,e1,r⟩:=hm
  exact ⟨o,es,ep,k _ o (λ z=>(hf _ z).2.1 rfl) e1,r⟩
 ·by_cases hb:b=T
  ·subst hb; rw [upd_same] at e; cases e
   exact ⟨hz,its,hv,ht⟩
  ·rw [c7 hb] at e
   have nit:∀ c u,H c=some u->c ∉ fp:=λ c u q z=>by rw [(hf c z).1] at q; cases q
   refine (I.hok b u e).stay (λ c v hc q=>k c v ?_ q) (λ c q=>by rw [c7 (g0 q hTn)]; exact q) λ c ys q=>by rw [c7 (g0 q hTn)]; exact q
   rcases hc with z | z
   ·rw [z]; exact nit b u e
   ·exact nit c _ z
theorem Inv.turnedAll {X:Cx} {pins:List (Addr×Obj)} {σ:St} {H:Hp} {s:Shared} {h':Heap} {fp:List Addr} (I:Inv X pins σ H s) (hf:∀ b∈fp,V2 X pins H b)
  (k:∀ b o,b ∉ fp->s.heap.get? b=some o->h'.get? b=some o):Inv X pins σ H { s with heap:=h' }:=by
 refine I.step (g':=s.gens) (t':=s.toks) (d':=s.drawn) (ch:=fp) (λ b hb=>⟨(hf b hb).2.2.2.1,(hf b hb).2.1,(hf b hb).2.2.2.2.1,(hf b hb).2.2.2.2.2⟩) (λ b o _ _ hc e _=>k b o hc e) (λ b o _ _ hc e _=>⟨o.slots,k b o hc e⟩)
  (λ b o hc e n=>n) (λ b o hc e=>⟨o,k b o hc e⟩) (λ b ys e=>e) (λ b o u e=>e) (λ b ps e=>⟨#[],by rw [e]; simp⟩)
  (λ m hm=>?_) (λ b u e=>?_) I.bare
 ·obtain ⟨o,es,ep,e1,r⟩:=hm
  exact ⟨o,es,ep,k _ o (λ z=>(hf _ z).2.1 rfl) e1,r⟩
 ·have nit:∀ c u,H c=some u->c ∉ fp:=λ c u q z=>by rw [(hf c z).1] at q; cases q
  refine (I.hok b u e).stay (λ c v hc q=>k c v ?_ q) (λ c q=>q) λ c ys q=>q;rcases hc with z | z
  ·rw [z]; exact nit b u e
  ·exact nit c _ z
theorem b3o (n l1 l2:Nat) (h1:l1<n) (h2:l2<n):ZipApart (n+4) (n+2) (n+3) n (n+1) l1 l2 where
 TIz:=(by omega:(n+2:Nat)≠n+4)
 TOz:=(by omega:(n+3:Nat)≠n+4)
 i1z:=(by omega:(n:Nat)≠n+4)
 i2z:=(by omega:(n+1:Nat)≠n+4)
 TITO:=(by omega:(n+2:Nat)≠n+3)
 TIi1:=(by omega:(n+2:Nat)≠n)
 TIi2:=(by omega:(n+2:Nat)≠n+1)
 TOi1:=(by omega:(n+3:Nat)≠n)
 TOi2:=(by omega:(n+3:Nat)≠n+1)
 i12:=(by omega:(n:Nat)≠n+1)
 l1z:=(by omega:(l1:Nat)≠n+4)
 l1TO:=(by omega:(l1:Nat)≠n+3)
 l1i1:=(by omega:(l1:Nat)≠n)
 l1i2:=(by omega:(l1:Nat)≠n+1)
 l2z:=(by omega:(l2:Nat)≠n+4)
 l2TO:=(by omega:(l2:Nat)≠n+3)
 l2i1:=(by omega:(l2:Nat)≠n)
 l2i2:=(by omega:(l2:Nat)≠n+1)
section
variable {X:Cx}
def b4X (i j:Int):Prop:=0<j/\j<2 ^ 8000
theorem log2_lt {y:Nat} (h:y<2 ^ 8000):y.log2<9000:=by
 by_cases h0:y=0
 ·subst h0; decide
 ·exact Nat.lt_of_lt_of_le ((Nat.log2_lt h0).mpr h) (by decide)
theorem V8:OpR X (binaryOp .FloorDiv) (rI b4X λ i j=>.int (i / j)):=opI λ i j _ _ _ _ _ hc q=>by
 have h0:j≠0:=by have:=hc.1; omega
 have e:i.fdiv j=i / j:=Int.fdiv_eq_ediv_of_nonneg i (Int.le_of_lt hc.1);refine floordiv_int h0 (by rw [e]; exact q) (.inl (PyProof.noPylong_of_log2 (log2_lt ?_)));have:=hc.1;have:=hc.2;omega
def Big (n:Nat) (i:Int):Prop:=i.natAbs<2 ^ n
def b4F (i j:Int):Prop:=Big 1000000 i/\Big 1000000 j
theorem a6p {i:Int} (h:Big 1000000 i):Builtin.Int.intBits i<=2 ^ 20:=by
 unfold Builtin.Int.intBits
 split
 ·exact Nat.zero_le _
 ·rename_i h0
  have h0':i.natAbs≠0:=by
   intro z;exact h0 (by rw [Int.natAbs_eq_zero.mp z]; rfl)
  have:=(Nat.log2_lt h0').mpr h;omega
theorem L0:OpR X (binaryOp .Mult) (rI b4F λ i j=>.int (i*j)):=opI λ _ _ _ _ _ _ _ hc q=>mul_int q (IntMulOk.of_bits (a6p hc.1) (a6p hc.2))
end
theorem Same.write {H H':Hp} {p:Addr} {o:HO} (e:Same H H') (hp:H p=none):Same H (upd H' p o):=λ b u q=>by rw [c7 (g0 q hp)]; exact e b u q
section
variable {xs:List V} {J:It} {fr:List Nat} {tc:TT} {σ:St} {H1:Hp} {p:Addr} {D:Hp->Prop}
end
end L2
namespace L2
open PySem PySem.W
section
variable {prog:Program} {w:World} {A:Around} {E:Value->Shared->Prop} {s:Shared} {K:Frag} {x C D:Addr} {ox:Obj}
end
structure b2P (K:Frag) (D:Addr):Prop where
 ob:∃ nm q N bs bm hdct sn sub ab col dd k0 k1 k2 k3 k5,K.lookup D=some (excClassObj nm q D N bs bm hdct sn sub ab col dd k0 k1 k2 k3 k5 "ValueError.__new__")/\nsOkIn K N=true/\nsIn K N "__init__"=some none ∧
  tailIn K [.type "ValueError",.type "Exception",.type "BaseException",.type "object"] bm=true
 ga:findIn K (.ref D) "__getattribute__"=some (some (.builtin "BaseException.__getattribute__"))
 gn:findIn K (.ref D) "__getattr__"=some none
 ca:findIn K (.ref D) "__class__"=some (some (.builtin "object.__class__"))
 mo:mroIn K D (.type "object")=some true
 mb:mroIn K D (.type "BaseException")=some true
end L2
namespace L2
open PySem PySem.Spec PyProof.Rows
theorem ObjOk.got {P:Program} {w:World} {H:Hp} {h:Heap} {a:Addr} {o:HO} (x:ObjOk P w H h a o):∃ ob,h.get? a=some ob:=by
 cases o with
 | lst xs=>obtain ⟨_,_,_,_,e⟩:=x; exact ⟨_,e⟩
 | tup xs=>obtain ⟨_,_,_,ob,e,_⟩:=x; exact ⟨ob,e⟩
 | dK kvs=>obtain ⟨_,_,_,_,ob,_,_,e,_⟩:=x; exact ⟨ob,e⟩
 | dT kvs=>obtain ⟨_,_,_,_,ob,_,_,e,_⟩:=x; exact ⟨ob,e⟩
 | set S n=>obtain ⟨ob,_,_,_,e,_⟩:=x; exact ⟨ob,e⟩
 | ins C dx fs=>obtain ⟨_,_,_,e,_⟩:=x; exact ⟨_,e⟩
 | own y=>exact x
 | xd fs=>obtain ⟨_,⟨ob,_,_,e,_⟩,_⟩:=x; exact ⟨ob,e⟩
 | rng lo hi=>obtain ⟨_,_,_,e⟩:=x; exact ⟨_,e⟩
 | frz ob u=>obtain ⟨e,_⟩:=x; exact ⟨_,e⟩
 | tbl ps=>exact ⟨_,(show h.get? a=some _ from x)⟩
 | met f y=>exact ⟨_,(show h.get? a=some _ from x)⟩
 | ext φ=>obtain ⟨_,e,_⟩:=x; exact e
theorem Un.slots {fs ex:List Addr} {H0 H':Hp} {h0 h1 h2:Heap} (u:Un fs ex H0 H' h0 h1) (hb:∀ b o,h1.get? b=some o->(∃ o0,h0.get? b=some o0)->b ∉ fs->h2.get? b=some o)
  (hf:∀ b∈fs,∀ o,h1.get? b=some o->∃ sl,h2.get? b=some { o with slots:=sl }):Un fs ex H0 H' h0 h2 where
 keep:=λ b o q n hfs hx=>hb b o (u.keep b o q n hfs hx) ⟨o,q⟩ hfs
 slot:=λ b o q n hfs hx=>by
  obtain ⟨sl,e⟩:=u.slot b o q n hfs hx;obtain ⟨sl',e'⟩:=hf b hfs _ e;exact ⟨sl',e'⟩
 free:=u.free
 there:=λ b o q hx=>by
  obtain ⟨o',e⟩:=u.there b o q hx
  by_cases hm:b∈fs
  ·obtain ⟨sl,e'⟩:=hf b hm _ e; exact ⟨_,e'⟩
  ·exact ⟨_,hb b o' e ⟨o,q⟩ hm⟩
 tups:=u.tups
 frzs:=u.frzs
 tbls:=u.tbls
theorem HOk.slots {P:Program} {w:World} {H:Hp} {h h':Heap} (x:HOk P w H h) (k:∀ b u o,H b=some u->h.get? b=some o->h'.get? b=some o):HOk P w H h':=λ a o e =>
 (x a o e).stay (λ b u hb q=>by
  rcases hb with rfl | hb
  ·exact k b o u e q
  ·exact k b _ u hb q) (λ _ q=>q) λ _ _ q=>q
structure Fly (P:Program) (w:World) (l:List Env) (H:Hp) (s:Shared) (ea t D:Addr) (B:Heap) (H':Hp) (s':Shared):Prop where
 os:s'.os=s.os
 bare:AllBare s'.gens
 un:Un (frs l) [] H H' s.heap s'.heap
 hok:HOk P w H' s'.heap
 fly:Heap.FlyingW B l ea (.ref D) (.ref t) s'.heap
 inb:∀ b o,s'.heap.get? b=some o->((∃ o0,s.heap.get? b=some o0)/\b ∉ frs l)\/H' b≠none->B.get? b=some o
def CX1 (P:Program) (w:World):CXT:=λ l H s E e s'=>∃ (ea t D:Addr) (B:Heap) (H':Hp),e=.ref ea/\Fly P w l H s ea t D B H' s'/\E (.ref D) none H'
section
variable {P:Program} {w:World} {l:List Env} {H:Hp} {s s':Shared} {ea t D:Addr} {B h':Heap} {H':Hp}
theorem Fly.inv {X:Cx} {pins:List (Addr×Obj)} {σ:St} (I:Inv X pins σ H s) (F:Fly X.prog X.w X.stack H s ea t D B H' s'):Inv X pins σ H' s' :=
 I.call' F.os F.un F.hok F.bare (λ b z=>absurd z (by simp))
end
section
variable {P:Program} {w:World} {K:W.Frag} {mg:Str->Option Value} {base:Heap} {N:List Str} {qual:Str} {scope:Scope} {f:Addr} {cd:Value} {A:Around} {outer:List Env} {s₀:Shared} {H₀:Hp} {E:XK}
theorem a1c {b:Addr} {o:Obj} {X:Cx} {pins:List (Addr×Obj)} {σ:St} {H:Hp} {s:Shared} (I:Inv X pins σ H s) (e:X.s₀.heap.get? b=some o) (hb:b ∉ frs X.outer):b ∉ frs X.stack:=λ z=>by
 rcases List.mem_cons.mp (I.stkSub b z) with q | q
 ·have:=Nat.lt_of_lt_of_le (Heap.lt_size e) I.ok.above
  rw [q] at this;exact Nat.lt_irrefl _ this
 ·exact hb q
theorem a1n:T4 (CX1 P w) (K7 (CX1 P w) P w K mg base N qual scope f cd A outer s₀ H₀ E) E:=by
 intro pins σ H s e s' I h;obtain ⟨ea,t,D,B,H',rfl,F,hE⟩:=h;have I':=F.inv I;refine wpAny_leaves_onW I.ok.frames rfl F.fly λ h' fl up=>?_;have st:∀ b o,B.get? b=some o->h'.get? b=some o:=fl.1;have bin:∀ b o,s'.heap.get? b=some o->(∃ o0,s₀.heap.get? b=some o0)->b ∉ frs outer->B.get? b=some o:=λ b o q ⟨o0,z⟩ hn=>by
  obtain ⟨o1,q1⟩:=I.base.there b o0 z (by show b ∉ ([]:List Addr); simp);exact F.inb b o q (.inl ⟨⟨o1,q1⟩,a1c I z hn⟩)
 refine ⟨ea,t,D,B,H',rfl,⟨I'.os,F.bare,I'.base.slots (λ b o q z hn=>st b o (bin b o q z hn)) (λ b hb o q=>?_),F.hok.slots (λ b u o e q=>st b o (F.inb b o q (.inr (by rw [e]; simp)))),fl,λ b o q z=>?_⟩,hE⟩
 ·obtain ⟨_,o',ho',hd⟩:=F.fly.2.2.1.2.2.mem hb
  rw [q] at ho'; cases ho';exact up b o q hd
 ·have:∃ o1,s'.heap.get? b=some o1/\B.get? b=some o1:=by
   rcases z with ⟨⟨o0,z⟩,hn⟩ | z
   ·obtain ⟨o1,q1⟩:=I'.base.there b o0 z (by show b ∉ ([]:List Addr); simp)
    exact ⟨o1,q1,bin b o1 q1 ⟨o0,z⟩ hn⟩
   ·cases e:H' b with
    | none=>exact absurd e z
    | some u =>
     obtain ⟨o1,q1⟩:=(F.hok b u e).got;exact ⟨o1,q1,F.inb b o1 q1 (.inr z)⟩
  obtain ⟨o1,_,b1⟩:=this;have:=st b o1 b1;rw [show h'.get? b=some o from q] at this
  cases this;exact b1
theorem b4e {pins:List (Addr×Obj)} {σ:St} {H:Hp} {s:Shared} {h1:Heap} {ea D:Addr} {vs:List Value} (I:Inv (K7 (CX1 P w) P w K mg base N qual scope f cd A outer s₀ H₀ E) pins σ H s) (hx:Heap.MadeExcOf s.heap h1 ea (.ref D) vs)
  (hE:E (.ref D) none H):(K7 (CX1 P w) P w K mg base N qual scope f cd A outer s₀ H₀ E).xe (.ref ea) { s with heap:=h1 }:=by
 have hin:∀ env∈(envOfC qual scope s₀.heap.objs.size f cd::outer),∀ b,env.frame=some b->b∈frs (envOfC qual scope s₀.heap.objs.size f cd::outer):=λ env he b hb=>List.mem_filterMap.mpr ⟨env,he,hb⟩;refine wpAny_leaves_madeW (base:=W.hideAll s.heap (frs (envOfC qual scope s₀.heap.objs.size f cd::outer))) (h:=s.heap) I.ok.frames rfl (λ b o q=>W.of_hideAll _ q) (W.funFrames_hide I.stack hin) hx λ h' t fl _ _ up=>?_;have st:∀ b o,s.heap.get? b=some o->b ∉ frs (envOfC qual scope s₀.heap.objs.size f cd::outer)->h'.get? b=some o:=λ b o q hn=>fl.1 b o (W.hideAll_get _ q hn);have trn:∀ b u,H b=some u->b ∉ frs (envOfC qual scope s₀.heap.objs.size f cd::outer):=λ b u e z=>by
  have:=I.stkFree b z;rw [e] at this; cases this
 refine ⟨ea,t,D,_,H,rfl,⟨I.os,I.bare,I.base.slots (λ b o q ⟨o0,z⟩ hn=>st b o q (a1c I z hn)) (λ b hb o q=>?_),I.hok.slots (λ b u o e q=>st b o q (trn b u e)),fl,λ b o q z=>?_⟩,hE⟩
 ·obtain ⟨_,o',ho',hd⟩:=I.funs.mem hb
  rw [q] at ho'; cases ho';exact up b o (hx.keeps b o q) hd
 ·have:∃ o1,s.heap.get? b=some o1/\b ∉ frs (envOfC qual scope s₀.heap.objs.size f cd::outer):=by
   rcases z with ⟨⟨o0,z⟩,hn⟩ | z
   ·obtain ⟨o1,q1⟩:=I.base.there b o0 z (by show b ∉ ([]:List Addr); simp)
    exact ⟨o1,q1,a1c I z hn⟩
   ·cases e:H b with
    | none=>exact absurd e z
    | some u =>
     obtain ⟨o1,q1⟩:=(I.hok b u e).got;exact ⟨o1,q1,trn b u e⟩
  obtain ⟨o1,q1,hn⟩:=this;have:=st b o1 q1 hn;rw [show h'.get? b=some o from q] at this
  cases this;exact W.hideAll_get _ q1 hn
end
section
variable {X:Cx} {e:Expr} {te:TE} {a:Str} {j:Nat} {p1 p2 p3:Pos}
def tFs (te:TE):TE:=λ σ H Q=>te σ H λ v H1=>∃ i:Int,v=.int i/\i.natAbs.log2<1920/\∀ x,Q (.str x) H1
theorem b1u (he:PE X e te) (ha:a.length<=1000):PE X (.JoinedStr [.Constant (.str a) j p1,.FormattedValue e (-1) none p2] p3) (tFs te):=by
 intro pins s σ H Q I h;refine JoinedStr_many (joinParts_cons ?_);refine C2 (P8 pins s σ H (λ v H'=>v=.str a/\H'=H) I ⟨rfl,rfl⟩) λ u s1 ⟨v,H1,I1,r,hv,hH⟩=>?_;subst hv; subst hH;obtain ⟨tk,rfl⟩:=r;have e0:(Str.empty++a).length=a.length:=by rw [strLen_append]; show 0+a.length=a.length; omega
 refine ⟨by rw [e0]; exact Nat.le_trans ha (by decide),joinParts_cons (FormattedValue_plain ?_)⟩;refine C2 (he pins s1 σ H1 _ I1 h) λ u s2 ⟨v,H2,I2,r,i,hv,hi,q⟩=>?_;subst hv;obtain ⟨tk2,rfl⟩:=r;refine formatField_int_small hi ?_;have hl:(Str.empty++a++Str.ofString (toString i)).length<=sizeLine:=by
  rw [strLen_append,e0];have h1:=int_text_length_le (a:=i) (k:=1920) (by decide) hi;rw [PySem.ofString_length,sizeLine_eq];omega
 refine ⟨hl,joinParts_nil ?_ hl⟩;exact ⟨.str _,H2,(I2.tok _).tok _,⟨_,rfl⟩,q _⟩
end
section
variable {P:Program} {w:World} {K:W.Frag} {mg:Str->Option Value} {base:Heap} {N:List Str} {qual:Str} {scope:Scope} {f:Addr} {cd:Value} {A:Around} {outer:List Env} {s₀:Shared} {H₀:Hp} {E:XK}
 {x:Str} {D:Addr} {e:Expr} {t:TA} {np cpos pos:Pos}
def a8Y (t:TA) (D:Addr) (E:XK):TS:=λ _ σ H=>t σ H λ vs H1=>vs.length<=1000/\E (.ref D) none H1
theorem a8Z (k:b2P K D) (hg:Gl (K7 (CX1 P w) P w K mg base N qual scope f cd A outer s₀ H₀ E) x) (hm:mg x=some (.ref D)) (hh:A.handled=none)
  (ha:PA (K7 (CX1 P w) P w K mg base N qual scope f cd A outer s₀ H₀ E) [e] t)
  (he:starEach [e] (envOfC qual scope s₀.heap.objs.size f cd)=[(false,eval e (envOfC qual scope s₀.heap.objs.size f cd))]:=by rfl) (hdb:(x==("__debug__":Str))=false:=by decide) :
  PS (K7 (CX1 P w) P w K mg base N qual scope f cd A outer s₀ H₀ E) (.Raise (some (.Call (.Name x np) [e] [] cpos)) none pos) (a8Y t D E):=by
 intro pins s σ H Dn I h;obtain ⟨nm,q,Na,bs,bm,hdct,sn,sub,ab,col,dd,k0,k1,k2,k3,k5,lk,ok,ni,tl⟩:=k.ob;have tb:∀ h:Heap,K.In h->OwnTail h [.type "ValueError",.type "Exception",.type "BaseException",.type "object"] bm:=λ h X=>W.tail_of_in X tl;have nsf:∀ h:Heap,K.In h->h.Ns Na (h.nsMap Na)/\h.nsMap Na "__init__"=none:=λ h X=>⟨.of_isNs (W.isNs_of_in X ok),W.nsMap_none_of_in X ok ni⟩;have hN0:=(nsf s.heap I.kIn).1;refine wpAny_Raise_call_subT (C:=D) (nm:=nm) (q:=q) (N:=Na) (bs:=bs) (bm:=bm) (hdct:=hdct) (sn:=sn) (sub:=sub) (ab:=ab) (col:=col) (dd:=dd) (k0:=k0) (k1:=k1) (k2:=k2) (k3:=k3) (k5:=k5) (newId:="ValueError.__new__")
  F.excBase_ValueError (mN:=base.nsMap Na) ((tb base I.mod.kin).hasType (by decide +kernel)) (by show (A.deeper _).handled=none; exact hh) (by rw [show starEach [e] (K7 (CX1 P w) P w K mg base N qual scope f cd A outer s₀ H₀ E).env=_ from he]; rfl)
  (nsf base I.mod.kin).2 (a1H I hg hm ⟨rfl,?_⟩ hdb)
 have h2:=ha cpos pins s σ H _ I h;rw [show starEach [e] (K7 (CX1 P w) P w K mg base N qual scope f cd A outer s₀ H₀ E).env=_ from he] at h2 ⊢;refine Calls.evalArgs_plain (wpAny_mono h2 (λ us s2 ⟨vs,H2,I2,r,hl,hE⟩=>⟨rfl,by rw [<- r.length]; exact Nat.le_of_lt (j7 hl),I2.kIn _ _ lk,(nsf base I.mod.kin).1.keeps I2.bk,tb _ I2.kIn,λ h' ea hx=>b4e I2 hx hE⟩) λ _ _ z=>z)
end
section
variable {X:Cx} {CX:CXT} {k:Nat} {f:Addr} {fd:FuncData} {ps:List Str} {sp:Sp} {EX:St->XK} {x:Str} {p pos:Pos} {e:Expr} {es:List Expr} {t:TA}
end
section
variable {X:Cx} {pins:List (Addr×Obj)} {σ:St} {H:Hp} {s:Shared} {ea:Addr}
end
section
variable {X:Cx} {x n:Str} {R:Addr} {i:Nat} {tb:(St->XK)->TS} {ts:TS} {body suite:List Stmt} {b₀:Stmt} {np hpos pos:Pos}
end
structure b4z (k:Nat) (A:Around):Prop where
 dp:A.depth+3*k+5<recursionLimit
 un:A.units+16*k+200<cLine
structure FnU (P:Program) (w:World) (K:W.Frag) (mg:Str->Option Value) (base:Heap) (k:Nat) (f:Addr) (fd:FuncData) (ps:List Str) (sp:Sp):Prop where
 len:∀ vs H Q E,sp vs H Q E->vs.length=ps.length
 run:∀ (A:Around) (outer:List Env) (s:Shared) (H:Hp) (args:Args) (us:List Value) (vs:List V) (Q:VK) (E:XK),b4z k A->Env0 P w K mg base A outer s H->BindsTo s fd args (ps.zip us)->Vals vs us->sp vs H Q E →
  codeAny (model P w) A (.call (.ref f) args) (CR G5 outer P w H s Q E) s
section
variable {P:Program} {w:World} {K:W.Frag} {mg:Str->Option Value} {base:Heap}
theorem Fun.ok1 {x qual:Str} {st:Stmt} {f:Addr} {fd:FuncData} {N ps:List Str} {k:Nat} {sp:Sp} (F:Fun K x qual st f fd) (S:m8 N ps (i5 st)) (len:∀ vs H Q E,sp vs H Q E->vs.length=ps.length)
  (hbody:∀ (cdv:Value) (A:Around) (outer:List Env) (s:Shared) (H:Hp) (vs:List V) (Q:VK) (E:XK),Room k (A.deeper (envOfC qual (i5 st) s.heap.objs.size f cdv))->sp vs H Q E →
   ∃ t,PSs (K7 (CX1 P w) P w K mg base N qual (i5 st) f cdv A outer s H E) (v6 st) t/\t { nx:=λ _ H'=>Q .non H',rt:=Q } (W4 N vs) H):FnOk P w K mg base (CX1 P w) (k+1) f fd ps sp:=by
 obtain ⟨oc,od,kV,doc,pm,an,cdv,ct,osl,rfl,lk,hcd⟩:=F.ex;exact a8n lk hcd S len λ A outer s H vs Q E hr hsp=>hbody cdv A outer s H vs Q E hr hsp
end
section
variable {X:Cx} {k:Nat} {f:Addr} {fd:FuncData} {ps:List Str} {sp:Sp} {x:Str} {p pos:Pos} {e:Expr} {es:List Expr} {t:TA}
end
section
variable {prog:Program} {w:World} {A:Around} {E:Value->Shared->Prop} {s:Shared}
theorem b1B {j tp:Addr} {i:Nat} {vs:Array Value} {x:Value} {Q:Value->Shared->Prop} (q1:IsTupIter s.heap j tp i) (q2:IsTup s.heap tp vs) (q3:vs[i]?=some x)
  (q:∀ h',IsTupIter h' j tp (i+1)->Heap.SameBut j s.heap h'->Q x { s with heap:=h' }):wpAny (model prog w) A (Builtin.SmallTypes.nextOf (.ref j)) Q E s:=by
 obtain ⟨oj,g1,g2,g3⟩:=id q1;obtain ⟨ot,g4,_,nt,g5⟩:=q2;unfold Builtin.SmallTypes.nextOf;refine wpAny_bind (wpAny_callSpecial?_slot (name:=Str.ofString "__next__") q1.typeIs slot_tupleiter_next (wpAny_call_entry slot_tupleiter_next q1.typeIs entry_tupleiter_next ?_ (args_tupleiter_next _)))
 show wpAny _ _ (field (.ref j) 0 >>= _) _ _ s
 refine wpAny_bind (wpAny_field g1 g3 (x:=.ref tp) rfl ?_)
 show wpAny _ _ (if (Value.ref tp==Value.none)=true then _ else _) _ _ s
 rw [if_neg (λ z=>by cases z)]
 show wpAny _ _ (field (.ref j) 1 >>= _) _ _ s
 refine wpAny_bind (wpAny_field g1 g3 (x:=.int i 0) rfl ?_)
 show wpAny _ _ (seqItems? (.ref tp) >>= _) _ _ s
 refine wpAny_bind (wpAny_seqItems g4 g5 ?_);simp only [Int.toNat_natCast,q3];refine wpAny_bind (wpAny_setField g1 g3 (by simp) (wpAny_pure ⟨x,rfl,wpAny_pure (q _ ?_ (Heap.SameBut.update ..))⟩));refine ⟨_,Heap.get?_update_self _ g1 (Obj.isFreed_of_fields (Obj.data_mapFields g3 _)),(Obj.cls_mapFields ..).trans g2,?_⟩;rw [Obj.data_mapFields g3];simp [rawInt]
theorem b2X {j tp:Addr} {i:Nat} {vs:Array Value} {Q:Value->Shared->Prop} (hh:A.handled=none) (q1:IsTupIter s.heap j tp i) (q2:IsTup s.heap tp vs) (q3:vs[i]?=none)
  (q:∀ h' e,Heap.ExtBut j s.heap h'->(∃ o,h'.get? e=some o/\o.cls=.type "StopIteration")->E (.ref e) { s with heap:=h' }):wpAny (model prog w) A (Builtin.SmallTypes.nextOf (.ref j)) Q E s:=by
 obtain ⟨oj,g1,g2,g3⟩:=id q1;obtain ⟨ot,g4,_,nt,g5⟩:=q2;unfold Builtin.SmallTypes.nextOf;refine wpAny_bind (wpAny_callSpecial?_slot (name:=Str.ofString "__next__") q1.typeIs slot_tupleiter_next (wpAny_call_entry slot_tupleiter_next q1.typeIs entry_tupleiter_next ?_ (args_tupleiter_next _)))
 show wpAny _ _ (field (.ref j) 0 >>= _) _ _ s
 refine wpAny_bind (wpAny_field g1 g3 (x:=.ref tp) rfl ?_)
 show wpAny _ _ (if (Value.ref tp==Value.none)=true then _ else _) _ _ s
 rw [if_neg (λ z=>by cases z)]
 show wpAny _ _ (field (.ref j) 1 >>= _) _ _ s
 refine wpAny_bind (wpAny_field g1 g3 (x:=.int i 0) rfl ?_)
 show wpAny _ _ (seqItems? (.ref tp) >>= _) _ _ s
 refine wpAny_bind (wpAny_seqItems g4 g5 ?_);simp only [Int.toNat_natCast,q3];refine wpAny_bind (wpAny_rule (wpAny_bind (wpAny_setField g1 g3 (by simp) ?_)))
 show wpAny _ _ (do let e <- newExc (.type "StopIteration") []; _) _ _ _
 simp only [newExc,newTuple];refine wpAny_bind (wpAny_bind (wpAny_newObj_type (wpAny_bind (m:=firstArgMember _ _) (wpAny_of_eq (a:=Value.none) (by first | rfl | (simp only [firstArgMember]; rfl)) (wpAny_newObj_type ?_ (by size_fits)))) (by size_fits)));simp only [raiseNew];refine wpAny_bind (wpAny_handled ?_);rw [show A.in1.handled=none from hh];exact wpAny_bind (wpAny_pure (wpAny_throw (q _ _ (((Heap.SameBut.update ..).extBut.push _).push _) ⟨_,Heap.get?_push_size _ rfl,rfl⟩)))
theorem IsTupIter.at' {h h':Heap} {a t:Addr} {i:Nat} (x:IsTupIter h a t i) (e:∀ o,h.get? a=some o->h'.get? a=some o):IsTupIter h' a t i:=let ⟨o,ho,r⟩:=x; ⟨o,e _ ho,r⟩
end
def IsB:Bool->Heap->Addr->Array Value->Prop
 | true,h,t,xs=>h.IsList t xs
 | false,h,t,xs=>IsTup h t xs
def ItB:Bool->Heap->Addr->Addr->Nat->Prop
 | true,h,j,t,k=>h.IsListIter j t k
 | false,h,j,t,k=>IsTupIter h j t k
def SqB:Bool->W.Frag->Hp->Addr->List V->Prop
 | true,K,H,a,xs=>SqL K H a xs
 | false,K,H,a,xs=>SqT K H a xs
def itN:Bool->String
 | true=>"list_iterator"
 | false=>"tuple_iterator"
section
variable {b:Bool} {h h':Heap} {j t c:Addr} {k:Nat} {xs:Array Value}
theorem ItB.at' (x:ItB b h j t k) (e:∀ o,h.get? j=some o->h'.get? j=some o):ItB b h' j t k:=by
 cases b
 ·exact IsTupIter.at' x e
 ·exact Heap.IsListIter.at x e
theorem ItB.extBut (x:ItB b h j t k) (hs:Heap.ExtBut c h h') (n:j≠c):ItB b h' j t k:=x.at' λ o e=>hs j o n e
theorem IsB.at' (x:IsB b h t xs) (e:∀ o,h.get? t=some o->h'.get? t=some o):IsB b h' t xs:=by
 cases b
 ·obtain ⟨o,ho,r⟩:=x; exact ⟨o,e o ho,r⟩
 ·obtain ⟨o,ho,r⟩:=x; exact ⟨o,e o ho,r⟩
theorem IsB.extBut (x:IsB b h t xs) (hs:Heap.ExtBut c h h') (n:t≠c):IsB b h' t xs:=x.at' λ o e=>hs t o n e
theorem IsB.push (x:IsB b h t xs) (o:Obj):IsB b (h.push o) t xs:=x.at' λ _ e=>Heap.get?_push_of_some _ e
theorem IsB.lt (x:IsB b h t xs):t<h.objs.size:=by
 cases b
 ·obtain ⟨o,ho,_⟩:=x; exact Heap.lt_size ho
 ·obtain ⟨o,ho,_⟩:=x; exact Heap.lt_size ho
theorem ItB.mk (e:h.get? j=some { cls:=.type (itN b),data:=.fields #[.ref t,.int 0 0] }):ItB b h j t 0:=by
 cases b
 ·exact ⟨_,e,rfl,rfl⟩
 ·exact ⟨_,e,rfl,rfl⟩
theorem ItB.obj (x:ItB b h j t k):∃ o,h.get? j=some o/\∃ vs,o.data=.fields vs:=by
 cases b
 ·obtain ⟨o,ho,_,d⟩:=x; exact ⟨o,ho,_,d⟩
 ·obtain ⟨o,ho,_,d⟩:=x; exact ⟨o,ho,_,d⟩
theorem Same.sqB {K:W.Frag} {H H':Hp} {a:Addr} {ys:List V} (e:Same H H') (x:SqB b K H a ys):SqB b K H' a ys:=by
 cases b
 ·exact e.tseq x
 ·exact e.seq x
theorem Inv.sqB {X:Cx} {pins:List (Addr×Obj)} {σ:St} {H:Hp} {s:Shared} {a:Addr} {ys:List V} (I:Inv X pins σ H s) (x:SqB b X.K H a ys):∃ its:List Value,Vals ys its/\IsB b s.heap a its.toArray/\ys.length<=sizeLine:=by
 cases b
 ·exact I.tuple x
 ·obtain ⟨i,r,p,z⟩:=I.list x
  exact ⟨i,r,p.isList,z⟩
theorem Inv.sqB_inj {X:Cx} {pins:List (Addr×Obj)} {σ:St} {H:Hp} {s:Shared} {a:Addr} {ys zs:List V} (I:Inv X pins σ H s) (x:SqB b X.K H a ys) (y:SqB b X.K H a zs):ys=zs:=by
 cases b
 ·exact I.tuple_inj x y
 ·exact I.list_inj x y
end
section
variable {prog:Program} {w:World} {A:Around} {E:Value->Shared->Prop} {s:Shared}
theorem a2n {b:Bool} {j tp:Addr} {i:Nat} {vs:Array Value} {x:Value} {Q:Value->Shared->Prop} (q1:ItB b s.heap j tp i) (q2:IsB b s.heap tp vs) (q3:vs[i]?=some x)
  (q:∀ h',ItB b h' j tp (i+1)->Heap.SameBut j s.heap h'->Q x { s with heap:=h' }):wpAny (model prog w) A (Builtin.SmallTypes.nextOf (.ref j)) Q E s:=by
 cases b
 ·exact b1B q1 q2 q3 q
 ·exact wpAny_nextOf_list_item q1 q2 q3 q
theorem a6I {b:Bool} {j tp:Addr} {i:Nat} {vs:Array Value} {Q:Value->Shared->Prop} (hh:A.handled=none) (q1:ItB b s.heap j tp i) (q2:IsB b s.heap tp vs) (q3:vs[i]?=none)
  (q:∀ h' e,Heap.ExtBut j s.heap h'->(∃ o,h'.get? e=some o/\o.cls=.type "StopIteration")->E (.ref e) { s with heap:=h' }):wpAny (model prog w) A (Builtin.SmallTypes.nextOf (.ref j)) Q E s:=by
 cases b
 ·exact b2X hh q1 q2 q3 q
 ·exact wpAny_nextOf_list_end hh q1 q2 q3 q
theorem b2f {b:Bool} {t:Addr} {xs:Array Value} {Q:Value->Shared->Prop} (m:IsB b s.heap t xs) (h:Q (.ref s.heap.objs.size) { s with heap:=s.heap.push { cls:=.type (itN b),data:=.fields #[.ref t,.int 0 0] } }):wpAny (model prog w) A (pyIter (.ref t)) Q E s:=by
 cases b
 ·exact iter_tuple m h
 ·exact wpAny_pyIter_list m h
theorem b0M {b1 b2:Bool} {z ti to j1 j2 t1 t2:Addr} {k1 k2:Nat} {xs ys:Array Value} {x y a b:Value} {Q:Value->Shared->Prop} (D:ZipApart z ti to j1 j2 t1 t2)
  (q0:IsZip s.heap z ti to .none) (p1:IsPair s.heap ti (.ref j1) (.ref j2)) (p2:IsPair s.heap to a b)
  (i1:ItB b1 s.heap j1 t1 k1) (i2:ItB b2 s.heap j2 t2 k2) (l1:IsB b1 s.heap t1 xs) (l2:IsB b2 s.heap t2 ys) (ex:xs[k1]?=some x) (ey:ys[k2]?=some y)
  (q:∀ h',IsZip h' z ti to (rawInt s.heap.objs.size)->IsPair h' to x y->ItB b1 h' j1 t1 (k1+1)->ItB b2 h' j2 t2 (k2+1)->IsPair h' s.heap.objs.size x y →
   (∀ c o,c≠z->c≠to->c≠j1->c≠j2->s.heap.get? c=some o->h'.get? c=some o)->Q (.ref s.heap.objs.size) { s with heap:=h' }) :
  wpAny (model prog w) A (Builtin.«zip.__next__» ⟨[.ref z],[]⟩) (λ fin s'=>∃ v,fin=.done (.ret v)/\Q v s') E s:=by
 show wpAny _ _ (field (.ref z) 2 >>= _) _ _ _
 refine wpAny_bind (wpAny_field q0 rfl (x:=.bool false) rfl (show wpAny _ _ (field (.ref z) 3 >>= _) _ _ _ from wpAny_bind (wpAny_field q0 rfl (x:=.ref ti) rfl (wpAny_bind (wpAny_seqItems p1 rfl ?_)))))
 show wpAny _ _ (do let free <- Builtin.SmallTypes.ownedTupleIsFree (.ref z); _) _ _ _
 unfold Builtin.SmallTypes.ownedTupleIsFree;refine wpAny_bind (wpAny_bind (wpAny_field q0 rfl (x:=.none) rfl (wpAny_pure ?_)));simp only [if_true];refine wpAny_bind (wpAny_rule (wpAny_bind (wpAny_field q0 rfl (x:=.ref to) rfl (wpAny_bind (wpAny_setField_rec q0 (by simp) λ u1 z1 s1=>?_)))));have z1':IsZip u1 z ti to .ellipsis:=z1;refine wpAny_bind ?_;simp only [List.zipIdx_cons,List.zipIdx_nil,List.forIn_cons,List.forIn_nil];refine wpAny_bind (wpAny_bind (wpAny_onRaise (show wpAny _ _ (Builtin.SmallTypes.nextOf (.ref j1) >>= _) _ _ _ from wpAny_bind (a2n (i1.extBut s1.extBut D.i1z) (l1.extBut s1.extBut D.l1z) ex λ u2 j1' s2=>wpAny_pure ?_))));have to2:IsPair u2 to a b:=s2.extBut _ _ D.TOi1 (s1.extBut _ _ D.TOz p2);refine wpAny_bind (wpAny_seqItems to2 rfl (wpAny_bind (wpAny_updateSeq_pair to2 λ u3 to3 s3=>wpAny_bind (wpAny_letGo (wpAny_pure ?_)))));have to3':IsPair u3 to x b:=to3;refine wpAny_bind (wpAny_bind (wpAny_onRaise (show wpAny _ _ (Builtin.SmallTypes.nextOf (.ref j2) >>= _) _ _ _ from wpAny_bind (a2n (((i2.extBut s1.extBut D.i2z).extBut s2.extBut D.i12.symm).extBut s3.extBut D.TOi2.symm)
  (((l2.extBut s1.extBut D.l2z).extBut s2.extBut D.l2i1).extBut s3.extBut D.l2TO) ey λ u4 j2' s4=>wpAny_pure ?_))))
 have to4:IsPair u4 to x b:=s4.extBut _ _ D.TOi2 to3';refine wpAny_bind (wpAny_seqItems to4 rfl (wpAny_bind (wpAny_updateSeq_pair to4 λ u5 to5 s5=>wpAny_bind (wpAny_letGo (wpAny_pure (wpAny_pure ?_))))));have to5':IsPair u5 to x y:=to5;refine wpAny_bind (wpAny_seqItems to5' rfl (wpAny_bind (wpAny_newTuple ?_)));have sz:u5.objs.size=s.heap.objs.size:=by rw [s5.1,s4.1,s3.1,s2.1,s1.1]
 have z5:IsZip u5 z ti to .ellipsis:=s5.extBut _ _ D.TOz.symm (s4.extBut _ _ D.i2z.symm (s3.extBut _ _ D.TOz.symm (s2.extBut _ _ D.i1z.symm z1')));have kp:∀ c o,c≠z->c≠to->c≠j1->c≠j2->s.heap.get? c=some o->u5.get? c=some o:=λ c o n1 n2 n3 n4 e=>s5.extBut _ _ n2 (s4.extBut _ _ n4 (s3.extBut _ _ n2 (s2.extBut _ _ n3 (s1.extBut _ _ n1 e))));have a1:ItB b1 u5 j1 t1 (k1+1):=((j1'.extBut s3.extBut D.TOi1.symm).extBut s4.extBut D.i12).extBut s5.extBut D.TOi1.symm;have a2:ItB b2 u5 j2 t2 (k2+1):=j2'.extBut s5.extBut D.TOi2.symm;have zl:z<u5.objs.size:=Heap.lt_size z5
 show wpAny _ _ (do let r <- Builtin.SmallTypes.ownedTupleHandOut (.ref z) (.ref u5.objs.size); _) _ _ _
 unfold Builtin.SmallTypes.ownedTupleHandOut;have z6:IsZip (u5.push { cls:=.type "tuple",data:=.seq #[x,y] }) z ti to .ellipsis:=Heap.get?_push_of_some _ z5;refine wpAny_bind (wpAny_bind (wpAny_setField_rec z6 (by simp) λ u7 z7 s7=>?_));have z7':IsZip u7 z ti to (rawInt u5.objs.size):=z7;refine wpAny_setField_rec z7' (by simp) λ u8 z8 s8=>?_;have z8':IsZip u8 z ti to (rawInt u5.objs.size):=z8;have up:∀ c o,c≠z->u5.get? c=some o->u8.get? c=some o:=λ c o n1 e=>s8.extBut _ _ n1 (s7.extBut _ _ n1 (Heap.get?_push_of_some _ e));have nt8:IsPair u8 u5.objs.size x y:=s8.extBut _ _ (Nat.ne_of_gt zl) (s7.extBut _ _ (Nat.ne_of_gt zl) (Heap.get?_push_size _ rfl));rw [sz] at z8' nt8;refine wpAny_pure ⟨_,rfl,?_⟩
 show Q (.ref u5.objs.size) _
 rw [sz];exact q u8 z8' (up _ _ D.TOz to5') (ItB.at' a1 λ o e=>up _ o D.i1z e) (ItB.at' a2 λ o e=>up _ o D.i2z e) nt8 λ c o n1 n2 n3 n4 e=>up c o n1 (kp c o n1 n2 n3 n4 e)
theorem b2z {b1 b2:Bool} {z ti to j1 j2 t1 t2:Addr} {k1 k2:Nat} {xs ys:Array Value} {a b:Value} {Q:PySem.Fin->Shared->Prop} (hh:A.handled=none) (D:ZipApart z ti to j1 j2 t1 t2)
  (q0:IsZip s.heap z ti to .none) (p1:IsPair s.heap ti (.ref j1) (.ref j2)) (p2:IsPair s.heap to a b)
  (i1:ItB b1 s.heap j1 t1 k1) (i2:ItB b2 s.heap j2 t2 k2) (l1:IsB b1 s.heap t1 xs) (l2:IsB b2 s.heap t2 ys) (en:xs[k1]?=none\/ys[k2]?=none)
  (q:∀ h' e,(∀ c o,c≠z->c≠to->c≠j1->c≠j2->s.heap.get? c=some o->h'.get? c=some o)->(∃ o,h'.get? e=some o/\o.cls=.type "StopIteration")->E (.ref e) { s with heap:=h' }) :
  wpAny (model prog w) A (Builtin.«zip.__next__» ⟨[.ref z],[]⟩) Q E s:=by
 show wpAny _ _ (field (.ref z) 2 >>= _) _ _ _
 refine wpAny_bind (wpAny_field q0 rfl (x:=.bool false) rfl (show wpAny _ _ (field (.ref z) 3 >>= _) _ _ _ from wpAny_bind (wpAny_field q0 rfl (x:=.ref ti) rfl (wpAny_bind (wpAny_seqItems p1 rfl ?_)))))
 show wpAny _ _ (do let free <- Builtin.SmallTypes.ownedTupleIsFree (.ref z); _) _ _ _
 unfold Builtin.SmallTypes.ownedTupleIsFree;refine wpAny_bind (wpAny_bind (wpAny_field q0 rfl (x:=.none) rfl (wpAny_pure ?_)));simp only [if_true];refine wpAny_bind (wpAny_rule (wpAny_bind (wpAny_field q0 rfl (x:=.ref to) rfl (wpAny_bind (wpAny_setField_rec q0 (by simp) λ u1 z1 s1=>?_)))));have z1':IsZip u1 z ti to .ellipsis:=z1;refine wpAny_bind ?_;simp only [List.zipIdx_cons,List.zipIdx_nil,List.forIn_cons,List.forIn_nil]
 cases ex:xs[k1]? with
 | none =>
  refine wpAny_bind (wpAny_bind (wpAny_onRaise (show wpAny _ _ (Builtin.SmallTypes.nextOf (.ref j1) >>= _) _ _ _ from wpAny_bind (a6I hh (i1.extBut s1.extBut D.i1z) (l1.extBut s1.extBut D.l1z) ex λ u2 e s2 ⟨oe,e1,e2⟩=>?_))));have z2:IsZip u2 z ti to .ellipsis:=s2 _ _ D.i1z.symm z1';have ne:e≠z:=λ c=>by subst c; rw [z2] at e1; cases e1; simp at e2
  exact wpAny_setField_rec z2 (by simp) λ u3 _ s3=>q u3 e (λ c o n1 _ n3 _ m=>s3.extBut _ _ n1 (s2 _ _ n3 (s1.extBut _ _ n1 m))) ⟨oe,s3.extBut _ _ ne e1,e2⟩
 | some x =>
  have ey:ys[k2]?=none:=by
   rcases en with m | m
   ·rw [ex] at m; cases m
   ·exact m
  refine wpAny_bind (wpAny_bind (wpAny_onRaise (show wpAny _ _ (Builtin.SmallTypes.nextOf (.ref j1) >>= _) _ _ _ from wpAny_bind (a2n (i1.extBut s1.extBut D.i1z) (l1.extBut s1.extBut D.l1z) ex λ u2 j1' s2=>wpAny_pure ?_))));have to2:IsPair u2 to a b:=s2.extBut _ _ D.TOi1 (s1.extBut _ _ D.TOz p2);refine wpAny_bind (wpAny_seqItems to2 rfl (wpAny_bind (wpAny_updateSeq_pair to2 λ u3 to3 s3=>wpAny_bind (wpAny_letGo (wpAny_pure ?_)))));refine wpAny_bind (wpAny_bind (wpAny_onRaise (show wpAny _ _ (Builtin.SmallTypes.nextOf (.ref j2) >>= _) _ _ _ from wpAny_bind (a6I hh (((i2.extBut s1.extBut D.i2z).extBut s2.extBut D.i12.symm).extBut s3.extBut D.TOi2.symm)
   (((l2.extBut s1.extBut D.l2z).extBut s2.extBut D.l2i1).extBut s3.extBut D.l2TO) ey λ u4 e s4 ⟨oe,e1,e2⟩=>?_))))
  have z4:IsZip u4 z ti to .ellipsis:=s4 _ _ D.i2z.symm (s3.extBut _ _ D.TOz.symm (s2.extBut _ _ D.i1z.symm z1'));have ne:e≠z:=λ c=>by subst c; rw [z4] at e1; cases e1; simp at e2
  exact wpAny_setField_rec z4 (by simp) λ u5 _ s5=>q u5 e (λ c o n1 n2 n3 n4 m=>s5.extBut _ _ n1 (s4 _ _ n4 (s3.extBut _ _ n2 (s2.extBut _ _ n3 (s1.extBut _ _ n1 m))))) ⟨oe,s5.extBut _ _ ne e1,e2⟩
theorem b0A {b1 b2:Bool} {z ti to j1 j2 t1 t2:Addr} {k1 k2:Nat} {xs ys:Array Value} {x y a b:Value} {Q:Option Value->Shared->Prop} (D:ZipApart z ti to j1 j2 t1 t2)
  (q0:IsZip s.heap z ti to .none) (p1:IsPair s.heap ti (.ref j1) (.ref j2)) (p2:IsPair s.heap to a b)
  (i1:ItB b1 s.heap j1 t1 k1) (i2:ItB b2 s.heap j2 t2 k2) (l1:IsB b1 s.heap t1 xs) (l2:IsB b2 s.heap t2 ys) (ex:xs[k1]?=some x) (ey:ys[k2]?=some y)
  (q:∀ h',IsZip h' z ti to (rawInt s.heap.objs.size)->IsPair h' to x y->ItB b1 h' j1 t1 (k1+1)->ItB b2 h' j2 t2 (k2+1)->IsPair h' s.heap.objs.size x y →
   (∀ c o,c≠z->c≠to->c≠j1->c≠j2->s.heap.get? c=some o->h'.get? c=some o)->Q (some (.ref s.heap.objs.size)) { s with heap:=h' }) :
  wpAny (model prog w) A (pyNext (.ref z)) Q E s:=by
 have ty:s.TypeIs (.ref z) "zip":=⟨_,q0,rfl⟩;unfold pyNext;exact wpAny_bind (wpAny_attempt (wpAny_callSpecial?_slot (name:=Str.ofString "__next__") ty F.slot_zip_next (wpAny_call_entry F.slot_zip_next ty F.entry_zip_next
  (b0M D q0 p1 p2 i1 i2 l1 l2 ex ey λ h' b1 b2 b3 b4 b5 b6=>wpAny_pure (q h' b1 b2 b3 b4 b5 b6)) (F.args_zip_next_1 _))))
theorem b0Y {b1 b2:Bool} {z ti to j1 j2 t1 t2:Addr} {k1 k2:Nat} {xs ys:Array Value} {a b:Value} {Q:Option Value->Shared->Prop} (hh:A.handled=none) (D:ZipApart z ti to j1 j2 t1 t2)
  (q0:IsZip s.heap z ti to .none) (p1:IsPair s.heap ti (.ref j1) (.ref j2)) (p2:IsPair s.heap to a b)
  (i1:ItB b1 s.heap j1 t1 k1) (i2:ItB b2 s.heap j2 t2 k2) (l1:IsB b1 s.heap t1 xs) (l2:IsB b2 s.heap t2 ys) (en:xs[k1]?=none\/ys[k2]?=none)
  (q:∀ h',(∀ c o,c≠z->c≠to->c≠j1->c≠j2->s.heap.get? c=some o->h'.get? c=some o)->Q none { s with heap:=h' }):wpAny (model prog w) A (pyNext (.ref z)) Q E s:=by
 have ty:s.TypeIs (.ref z) "zip":=⟨_,q0,rfl⟩;unfold pyNext;refine wpAny_bind (wpAny_attempt (wpAny_callSpecial?_slot (name:=Str.ofString "__next__") ty F.slot_zip_next (wpAny_call_entry F.slot_zip_next ty F.entry_zip_next
  (b2z hh D q0 p1 p2 i1 i2 l1 l2 en λ h' e kp ⟨o,e1,e2⟩=>wpAny_bind (wpAny_isInstance (T:="StopIteration") (b:=true) ⟨o,e1,e2⟩ isSubtype_stop (wpAny_pure (q _ kp)))) (F.args_zip_next_1 _))))
end
abbrev zg1 (b1:Bool) (h:Heap) (t1:Addr):Heap:=h.push { cls:=.type (itN b1),data:=.fields #[.ref t1,.int 0 0] }
abbrev zg2 (b1 b2:Bool) (h:Heap) (t1 t2:Addr):Heap:=(zg1 b1 h t1).push { cls:=.type (itN b2),data:=.fields #[.ref t2,.int 0 0] }
abbrev zg3 (b1 b2:Bool) (h:Heap) (t1 t2:Addr):Heap:=(zg2 b1 b2 h t1 t2).push { cls:=.type "tuple",data:=.seq #[.ref h.objs.size,.ref (zg1 b1 h t1).objs.size] }
abbrev zg4 (b1 b2:Bool) (h:Heap) (t1 t2:Addr):Heap:=(zg3 b1 b2 h t1 t2).push { cls:=.type "tuple",data:=.seq #[.none,.none] }
abbrev zg5 (b1 b2:Bool) (h:Heap) (t1 t2:Addr):Heap:=(zg4 b1 b2 h t1 t2).push { cls:=.type "zip",data:=.fields #[.none,.bool false,.bool false,.ref (zg2 b1 b2 h t1 t2).objs.size,.ref (zg3 b1 b2 h t1 t2).objs.size] }
theorem b2T (b1 b2:Bool) (t1 t2:Addr) (xs ys:Array Value) :
  Meets (Builtin.«zip.__new__» ⟨[.type "zip",.ref t1,.ref t2],[]⟩) (λ _ R s=>IsB b1 s.heap t1 xs/\IsB b2 s.heap t2 ys/\R (.ok (.ret (.ref (zg4 b1 b2 s.heap t1 t2).objs.size))) { s with heap:=zg5 b1 b2 s.heap t1 t2 }) :=
 .of_wp λ prog w A R s h=>by
  obtain ⟨hp,g,d,tk,os⟩:=s;obtain ⟨e1,e2,h⟩:=h;have hsub:=sub_zip;have m1:IsB b1 (Shared.heap ⟨hp,g,d,tk,os⟩) t1 xs:=e1;have m2:IsB b2 (Shared.heap ⟨hp.push { cls:=.type (itN b1),data:=.fields #[.ref t1,.int 0 0] },g,d,tk,os⟩) t2 ys:=IsB.push e2 _
  wp_walk using b2f m1,b2f m2
  exact ⟨_,rfl,h⟩
section
variable {prog:Program} {w:World} {A:Around} {E:Value->Shared->Prop} {s:Shared}
theorem b0q {b1 b2:Bool} {t1 t2:Addr} {xs ys:Array Value} {Q:Value->Shared->Prop} (l1:IsB b1 s.heap t1 xs) (l2:IsB b2 s.heap t2 ys)
  (q:∀ h',IsZip h' (s.heap.objs.size+4) (s.heap.objs.size+2) (s.heap.objs.size+3) .none->IsPair h' (s.heap.objs.size+2) (.ref s.heap.objs.size) (.ref (s.heap.objs.size+1))->IsPair h' (s.heap.objs.size+3) .none .none →
   ItB b1 h' s.heap.objs.size t1 0->ItB b2 h' (s.heap.objs.size+1) t2 0->(∀ c o,s.heap.get? c=some o->h'.get? c=some o)->Q (.ref (s.heap.objs.size+4)) { s with heap:=h' }) :
  wpAny (model prog w) A (call (.type "zip") [.ref t1,.ref t2]) Q E s:=by
 refine callType_new F.called_zip (by decide) (F.typeCall_zip_2 _ _) (F.newCall_zip_2 _ _) (λ ob=>F.args_object_init_3 ob _ _) F.entry_zip_new (b2T b1 b2 t1 t2 xs ys) ⟨l1,l2,?_⟩;have n1:(zg1 b1 s.heap t1).objs.size=s.heap.objs.size+1:=Heap.size_push ..;have n2:(zg2 b1 b2 s.heap t1 t2).objs.size=s.heap.objs.size+2:=by rw [Heap.size_push,n1]
 have n3:(zg3 b1 b2 s.heap t1 t2).objs.size=s.heap.objs.size+3:=by rw [Heap.size_push,n2]
 have n4:(zg4 b1 b2 s.heap t1 t2).objs.size=s.heap.objs.size+4:=by rw [Heap.size_push,n3]
 have p5:(zg5 b1 b2 s.heap t1 t2).get? (zg4 b1 b2 s.heap t1 t2).objs.size=some _:=Heap.get?_push_size _ rfl;have p4:(zg5 b1 b2 s.heap t1 t2).get? (zg3 b1 b2 s.heap t1 t2).objs.size=some _:=Heap.get?_push_of_some _ (Heap.get?_push_size _ rfl);have p3:(zg5 b1 b2 s.heap t1 t2).get? (zg2 b1 b2 s.heap t1 t2).objs.size=some _:=Heap.get?_push_of_some _ (Heap.get?_push_of_some _ (Heap.get?_push_size _ rfl));have p2:(zg5 b1 b2 s.heap t1 t2).get? (zg1 b1 s.heap t1).objs.size=some _:=Heap.get?_push_of_some _ (Heap.get?_push_of_some _ (Heap.get?_push_of_some _ (Heap.get?_push_size _ rfl)));have p1:(zg5 b1 b2 s.heap t1 t2).get? s.heap.objs.size=some _:=Heap.get?_push_of_some _ (Heap.get?_push_of_some _ (Heap.get?_push_of_some _ (Heap.get?_push_of_some _ (Heap.get?_push_size _ rfl))));rw [n2,n3,n4] at p5;rw [n1,n2] at p3;rw [n3] at p4;rw [n1] at p2
 show _/\_
 rw [n4];refine ⟨⟨_,p5,rfl⟩,q _ p5 p3 p4 (ItB.mk p1) (ItB.mk p2) λ c o m=>?_⟩;exact Heap.get?_push_of_some _ (Heap.get?_push_of_some _ (Heap.get?_push_of_some _ (Heap.get?_push_of_some _ (Heap.get?_push_of_some _ m))))
end
def Itg (b1 b2:Bool) (K:W.Frag) (l1 l2:Addr):It :=
  ⟨λ i H=>∃ xs ys x y,SqB b1 K H l1 xs/\SqB b2 K H l2 ys/\xs[i]?=some x/\ys[i]?=some y,
   λ i H x H'=>∃ p a b,H p=none/\x=.ref p/\H'=upd H p (.tup [a,b])/\∀ xs ys,SqB b1 K H l1 xs->SqB b2 K H l2 ys->xs[i]?=some a/\ys[i]?=some b,
   λ i H=>∃ xs ys,SqB b1 K H l1 xs/\SqB b2 K H l2 ys/\(xs.length<=i\/ys.length<=i)⟩
theorem b0s {b1 b2:Bool} {P:Program} {w:World} {K:W.Frag} {elts:List Expr} {x1:Nat} {pos:Pos} {z ti to j1 j2 l1 l2:Addr} (D:ZipApart z ti to j1 j2 l1 l2) :
  a7A P w K (.Tuple elts x1 pos) (Itg b1 b2 K l1 l2) [z,ti,to,j1,j2] z (λ i h=>IsZip h z ti to .none/\IsPair h ti (.ref j1) (.ref j2)/\(∃ a b,IsPair h to a b)/\ItB b1 h j1 l1 i/\ItB b2 h j2 l2 i) where
 mem:=by simp
 obj:=λ i h st b hb=>by
  obtain ⟨hz,hti,⟨a,c,hto⟩,h1,h2⟩:=st;obtain ⟨o1,e1,v1,d1⟩:=h1.obj;obtain ⟨o2,e2,v2,d2⟩:=h2.obj;simp only [List.mem_cons,List.not_mem_nil,or_false] at hb;rcases hb with rfl | rfl | rfl | rfl | rfl
  ·exact ⟨_,hz,λ v q=>by cases q⟩
  ·exact ⟨_,hti,λ v q=>by cases q⟩
  ·exact ⟨_,hto,λ v q=>by cases q⟩
  ·exact ⟨o1,e1,λ v q=>by rw [d1] at q; cases q⟩
  ·exact ⟨o2,e2,λ v q=>by rw [d2] at q; cases q⟩
 keep:=λ i h h' st k=>by
  obtain ⟨hz,hti,⟨a,c,hto⟩,h1,h2⟩:=st;exact ⟨k z (by simp) _ hz,k ti (by simp) _ hti,⟨a,c,k to (by simp) _ hto⟩,ItB.at' h1 λ o e=>k j1 (by simp) o e,ItB.at' h2 λ o e=>k j2 (by simp) o e⟩
 item:=by
  intro X hP hw hK hc i pins s σ H E I hf st hg;subst hP hw hK;obtain ⟨xs,ys,x,y,hq1,hq2,hx,hy⟩:=hg;obtain ⟨hz,hti,⟨a,c,hto⟩,h1,h2⟩:=st;obtain ⟨its1,rv1,p1,_⟩:=I.sqB hq1;obtain ⟨its2,rv2,p2,_⟩:=I.sqB hq2;obtain ⟨u1,hu1,ru1⟩:=rv1.get hx;obtain ⟨u2,hu2,ru2⟩:=rv2.get hy;refine b0A D hz hti hto h1 h2 p1 p2 (x:=u1) (y:=u2) (by simpa using hu1) (by simpa using hu2) λ h' a1 a2 a3 a4 a5 a7=>?_;refine ⟨_,rfl,wpAny_letOwnedTupleGo_zip (s:={ s with heap:=h' }) a1 λ h'' hz'' hs''=>?_⟩;have neT:∀ b∈[z,ti,to,j1,j2],b≠s.heap.objs.size:=λ b hb e=>by
   have:∃ o,s.heap.get? b=some o:=by
    obtain ⟨o1,e1,_⟩:=h1.obj;obtain ⟨o2,e2,_⟩:=h2.obj;simp only [List.mem_cons,List.not_mem_nil,or_false] at hb;rcases hb with rfl | rfl | rfl | rfl | rfl
    ·exact ⟨_,hz⟩
    ·exact ⟨_,hti⟩
    ·exact ⟨_,hto⟩
    ·exact ⟨_,e1⟩
    ·exact ⟨_,e2⟩
   obtain ⟨o,ho⟩:=this;exact absurd (Heap.lt_size ho) (by rw [e]; exact Nat.lt_irrefl _)
  have kk:∀ b o,b ∉ [z,ti,to,j1,j2]->s.heap.get? b=some o->h''.get? b=some o:=λ b o hb e=>by
   simp only [List.mem_cons,List.not_mem_nil,or_false,not_or] at hb;exact hs''.extBut b o hb.1 (a7 b o hb.1 hb.2.2.1 hb.2.2.2.1 hb.2.2.2.2 e)
  have tti:h'.get? ti=_:=a7 ti _ D.TIz D.TITO D.TIi1 D.TIi2 hti;have st':IsZip h'' z ti to .none/\IsPair h'' ti (.ref j1) (.ref j2)/\(∃ a b,IsPair h'' to a b)/\ItB b1 h'' j1 l1 (i+1)/\ItB b2 h'' j2 l2 (i+1) :=
   ⟨hz'',hs''.extBut _ _ D.TIz tti,⟨_,_,hs''.extBut _ _ D.TOz a2⟩,a3.extBut hs''.extBut D.i1z,a4.extBut hs''.extBut D.i2z⟩
  have hoF:∀ b∈[z,ti,to,j1,j2],∃ o,h''.get? b=some o:=λ b hb=>by
   obtain ⟨q1,q2,⟨_,_,q3⟩,q4,q5⟩:=st';obtain ⟨o1,e1,_⟩:=q4.obj;obtain ⟨o2,e2,_⟩:=q5.obj;simp only [List.mem_cons,List.not_mem_nil,or_false] at hb;rcases hb with rfl | rfl | rfl | rfl | rfl
   ·exact ⟨_,q1⟩
   ·exact ⟨_,q2⟩
   ·exact ⟨_,q3⟩
   ·exact ⟨_,e1⟩
   ·exact ⟨_,e2⟩
  have zs:z≠s.heap.objs.size:=neT z (by simp);have tup:IsTup h'' s.heap.objs.size [u1,u2].toArray:=⟨_,hs''.extBut _ _ (Ne.symm zs) a5,rfl,0,rfl⟩;refine ⟨.ref s.heap.objs.size,upd H s.heap.objs.size (.tup [x,y]),I.turnedLaid (h':=h'') hf kk hoF (Nat.le_refl _) (by show 2<=sizeLine; decide) (.cons ru1 (.cons ru2 .nil)) tup,rfl,⟨_,x,y,I.fresh,rfl,rfl,λ xs' ys' q1 q2=>?_⟩,st',λ b hb=>?_⟩
  ·rw [I.sqB_inj q1 hq1,I.sqB_inj q2 hq2]; exact ⟨hx,hy⟩
  ·rw [c7 (neT b hb)]; exact (hf b hb).1
 done:=by
  intro X hP hw hK hc i pins s σ H E I hf st hg;subst hP hw hK;obtain ⟨xs,ys,hq1,hq2,hend⟩:=hg;obtain ⟨hz,hti,⟨a,c,hto⟩,h1,h2⟩:=st;obtain ⟨its1,rv1,p1,_⟩:=I.sqB hq1;obtain ⟨its2,rv2,p2,_⟩:=I.sqB hq2;have hl1:=rv1.length;have hl2:=rv2.length;refine b0Y (I.ok.hd hc) D hz hti hto h1 h2 p1 p2 (by
   rcases hend with q | q
   ·exact .inl (by simp; omega)
   ·exact .inr (by simp; omega)) λ h' k=>⟨rfl,I.turnedAll hf λ b o hb e=>?_⟩
  simp only [List.mem_cons,List.not_mem_nil,or_false,not_or] at hb;exact k b o hb.1 hb.2.2.1 hb.2.2.2.1 hb.2.2.2.2 e
 self:=λ _ _ _ _ _ st h=>wpAny_pyIter_zip st.1 h
def iZg (b1 b2:Bool) (K:W.Frag) (ta:TA):TI:=λ σ H R=>ta σ H λ vs H1=>∃ l1 l2,vs=[.ref l1,.ref l2]/\(∃ xs,SqB b1 K H1 l1 xs)/\(∃ ys,SqB b2 K H1 l2 ys)/\R (Itg b1 b2 K l1 l2) H1
theorem a4L (b1 b2:Bool) (K:W.Frag) {X:Cx} {a b:Expr} {ta:TA} {p pos pos':Pos} {elts:List Expr} {x1:Nat} (hK:X.K=K) (hg:Gl X "zip") (hm:X.mg "zip"=none) (ha:PA X [a,b] ta) (hs:starEach [a,b] X.env=[(false,eval a X.env),(false,eval b X.env)]:=by rfl) (hs2:starEach [b] X.env=[(false,eval b X.env)]:=by rfl) :
  PI X (.Tuple elts x1 pos') (.Call (.Name "zip" p) [a,b] [] pos) (iZg b1 b2 K ta):=by
 subst hK;intro pins s σ H R I h;refine Call_ (T9 I hg hm boot_zip (PyProof.Rows.callWith_type1 (C2 (ha pos pins s σ H _ I h) λ us s1 ⟨vs,H1,I1,r1,q1⟩=>?_) (by rw [hs,hs2]) (by rw [hs2]; rfl)));obtain ⟨l1,l2,e,⟨xs,q1⟩,⟨ys,q2⟩,q⟩:=q1;subst e;obtain ⟨u1,u2,rfl,ru1,ru2⟩:=a9l r1
 cases ru1
 cases ru2;obtain ⟨its1,rv1,p1,_⟩:=I1.sqB q1;obtain ⟨its2,rv2,p2,_⟩:=I1.sqB q2;refine b0q p1 p2 λ h' z1 z2 z3 z4 z5 k=>?_;have I2:Inv X pins σ H1 { s1 with heap:=h' }:=I1.kept (t':=s1.toks) k;refine wpAny_pyIter_zip z1 ?_;have D:ZipApart (s1.heap.objs.size+4) (s1.heap.objs.size+2) (s1.heap.objs.size+3) s1.heap.objs.size (s1.heap.objs.size+1) l1 l2:=b3o _ _ _ p1.lt p2.lt;refine ⟨s1.heap.objs.size+4,[s1.heap.objs.size+4,s1.heap.objs.size+2,s1.heap.objs.size+3,s1.heap.objs.size,s1.heap.objs.size+1],_,_,H1,rfl,I2,b0s D,⟨z1,z2,⟨_,_,z3⟩,z4,z5⟩,λ b hb=>?_,q⟩;have hb':s1.heap.objs.size<=b:=by
  simp only [List.mem_cons,List.not_mem_nil,or_false] at hb;rcases hb with rfl | rfl | rfl | rfl | rfl
  ·exact Nat.le_add_right _ _
  ·exact Nat.le_add_right _ _
  ·exact Nat.le_add_right _ _
  ·exact Nat.le_refl _
  ·exact Nat.le_add_right _ _
 exact I1.fpOk hb' (I1.hok.fresh hb')
section
variable {b1 b2:Bool} {xs ys:List V} {K:W.Frag} {l1 l2:Addr} {fr:List Nat} {te:TE} {σ:St} {H1:Hp} {p:Addr} {D:Hp->Prop}
theorem a5J (h1:SqB b1 K H1 l1 xs) (h2:SqB b2 K H1 l2 ys) (hp:H1 p=none) (hz:xs.length<sizeLine) (R:Nat->V->Hp->Prop) (hR:∀ i y H H',R i y H->(∀ b o,b≠p->H b=some o->H' b=some o)->R i y H')
  (step:∀ (i:Nat) x y H zs (N:VK),xs[i]?=some x->ys[i]?=some y->Same H1 H->H p=some (.lst zs)->(∀ v H3,Same H H3->R i v H3->N v H3)->te (((blkσ 2 fr σ).set 0 (some x)).set 1 (some y)) H N)
  (hd:∀ zs H,Same H1 H->H p=some (.lst zs)->zs.length=min xs.length ys.length->(∀ i z,zs[i]?=some z->R i z H)->D H):lcW 2 fr (a5x K 2 (V4 (J6 0) (V4 (J6 1) a8a))) te σ (Itg b1 b2 K l1 l2) H1 p D:=by
 refine ⟨λ i m zs H=>m=min xs.length ys.length - i/\i<=min xs.length ys.length/\Same H1 H/\H p=some (.lst zs)/\zs.length=i/\∀ j y,zs[j]?=some y->R j y H,⟨_,rfl,Nat.zero_le _,Same.new hp _,upd_same,rfl,λ j y e=>by simp at e⟩,?_⟩;rintro i m zs H ⟨rfl,hi,e,hH,len,pr⟩
 by_cases hlt:i<min xs.length ys.length
 ·have hx:i<xs.length:=by omega
  have hy:i<ys.length:=by omega
  refine .inr ⟨⟨xs,ys,xs[i],ys[i],e.sqB h1,e.sqB h2,List.getElem?_eq_getElem hx,List.getElem?_eq_getElem hy⟩,λ u H' y=>?_⟩;obtain ⟨q,a,b,hq,rfl,rfl,hab⟩:=y;obtain ⟨ha,hb⟩:=hab xs ys (e.sqB h1) (e.sqB h2);have s1:=Same.new hq (.tup [a,b]);refine ⟨q,_,rfl,SqT.of upd_same,rfl,_,_,rfl,_,_,rfl,rfl,?_,?_⟩
  ·refine ⟨by simp,λ k w ek=>?_⟩
   have:¬ k<2:=λ hk=>by
    unfold blkσ at ek;rw [List.getElem?_append_left (by simpa using hk),List.getElem?_replicate] at ek
    split at ek <;> cases ek
   rw [List.getElem?_set_ne (by omega),List.getElem?_set_ne (by omega)]; exact ek
  ·refine step i a b _ zs _ ha hb (e.trans s1) (s1 _ _ hH) λ v H3 s3 r3=>⟨s3 _ _ (s1 _ _ hH),by omega,min xs.length ys.length - (i+1),by omega,rfl,hlt,λ b' o q'=>?_,upd_same,by rw [List.length_append,len]; rfl,λ j y ey=>?_⟩
   ·rw [c7 (g0 q' hp)]; exact s3 _ _ (s1 _ _ (e _ _ q'))
   ·have up:∀ b o,b≠p->H3 b=some o->upd H3 p (.lst (zs++[v])) b=some o:=λ b o hb q=>by rw [c7 hb]; exact q
    by_cases hj:j<zs.length
    ·rw [List.getElem?_append_left hj] at ey
     exact hR j y _ _ (pr j y ey) λ b o hb q=>up b o hb (s3 _ _ (s1 _ _ q))
    ·rw [List.getElem?_append_right (by omega)] at ey
     have hj':j - zs.length=0:=by
      cases q:j - zs.length with
      | zero=>rfl
      | succ k=>rw [q] at ey; simp at ey
     rw [hj'] at ey;have:j=i:=by omega
     subst this;simp at ey;subst ey;exact hR j v _ _ r3 up
 ·have:i=min xs.length ys.length:=by omega
  subst this;exact .inl ⟨⟨xs,ys,e.sqB h1,e.sqB h2,by omega⟩,hd zs H e hH len pr⟩
theorem b1O (h1:SqB b1 K H1 l1 xs) (h2:SqB b2 K H1 l2 ys) (hp:H1 p=none) (hz:xs.length<sizeLine) (F:V->V->V)
  (step:∀ (i:Nat) x y H (N:VK),xs[i]?=some x->ys[i]?=some y->Same H1 H->N (F x y) H->te (((blkσ 2 fr σ).set 0 (some x)).set 1 (some y)) H N)
  (hd:∀ H,Same H1 H->H p=some (.lst (List.zipWith F xs ys))->D H):lcW 2 fr (a5x K 2 (V4 (J6 0) (V4 (J6 1) a8a))) te σ (Itg b1 b2 K l1 l2) H1 p D:=by
 refine a5J h1 h2 hp hz (λ i v _=>∀ x y,xs[i]?=some x->ys[i]?=some y->v=F x y) (λ _ _ _ _ r _=>r) (λ i x y H zs N hx hy e _ hN=>step i x y H N hx hy e (hN _ _ (Same.refl _) λ x' y' ex ey=>?_)) λ zs H e hH hl hr=>hd H e ?_
 ·rw [hx] at ex; rw [hy] at ey; cases ex; cases ey; rfl
 ·rw [hH]
  congr 2
  refine List.ext_getElem? λ i=>?_
  by_cases hi:i<min xs.length ys.length
  ·have a1:i<zs.length:=by omega
   have a2:i<xs.length:=by omega
   have a3:i<ys.length:=by omega
   rw [List.getElem?_eq_getElem a1,List.getElem?_eq_getElem (by rw [List.length_zipWith]; exact hi),List.getElem_zipWith,hr i _ (List.getElem?_eq_getElem a1) _ _ (List.getElem?_eq_getElem a2) (List.getElem?_eq_getElem a3)]
  ·rw [List.getElem?_eq_none (by omega),List.getElem?_eq_none (by rw [List.length_zipWith]; omega)]
theorem b2L {i1 i2:Nat} {tb:TS} {D:Ends} {H:Hp} (Pv:Nat->St->Hp->Prop) (h0:Pv 0 σ H) (hl:∀ i σ H,Pv i σ H->SqB b1 K H l1 xs/\SqB b2 K H l2 ys)
  (hs:∀ i x y σ H q,xs[i]?=some x->ys[i]?=some y->Pv i σ H->H q=none->tb { D with nx:=Pv (i+1),ct:=Pv (i+1),bk:=D.nx } ((σ.set i1 (some x)).set i2 (some y)) (upd H q (.tup [x,y]))) (hd:∀ σ H,Pv (min xs.length ys.length) σ H->D.nx σ H) :
  ∃ W:Nat->Nat->St->Hp->Prop,(∃ m,W 0 m σ H)/\∀ i m σ H,W i m σ H →
   ((Itg b1 b2 K l1 l2).stop i H/\D.nx σ H)\/((Itg b1 b2 K l1 l2).go i H/\∃ N:St->Hp->Prop,(∀ σ' H',N σ' H'->∃ m',m'<m/\W (i+1) m' σ' H')/\∀ x H',(Itg b1 b2 K l1 l2).yld i H x H'->a5x K 2 (V4 (J6 i1) (V4 (J6 i2) a8a)) x σ H' λ σ2 H2=>tb { D with nx:=N,ct:=N,bk:=D.nx } σ2 H2):=by
 refine ⟨λ i m σ H=>m=min xs.length ys.length - i/\i<=min xs.length ys.length/\Pv i σ H,⟨_,rfl,Nat.zero_le _,h0⟩,?_⟩;rintro i m σ H ⟨rfl,hi,p⟩;obtain ⟨q1,q2⟩:=hl i σ H p
 by_cases hlt:i<min xs.length ys.length
 ·have hx:i<xs.length:=by omega
  have hy:i<ys.length:=by omega
  refine .inr ⟨⟨xs,ys,xs[i],ys[i],q1,q2,List.getElem?_eq_getElem hx,List.getElem?_eq_getElem hy⟩,Pv (i+1),λ σ' H' p'=>⟨min xs.length ys.length - (i+1),by omega,rfl,hlt,p'⟩,λ u H' y=>?_⟩;obtain ⟨q,a,b,hq,rfl,rfl,hab⟩:=y;obtain ⟨ha,hb⟩:=hab xs ys q1 q2;exact ⟨q,_,rfl,SqT.of upd_same,rfl,_,_,rfl,_,_,rfl,rfl,hs i a b σ H q ha hb p hq⟩
 ·have:i=min xs.length ys.length:=by omega
  subst this;exact .inl ⟨⟨xs,ys,q1,q2,by omega⟩,hd σ H p⟩
end
def Ite (K:W.Frag) (l:Addr):It :=
  ⟨λ i H=>∃ xs x,SqL K H l xs/\xs[i]?=some x,
   λ i H x H'=>∃ p a,H p=none/\x=.ref p/\H'=upd H p (.tup [.int (i:Int),a])/\∀ xs,SqL K H l xs->xs[i]?=some a,
   λ i H=>∃ xs,SqL K H l xs/\xs.length<=i⟩
theorem a7F {P:Program} {w:World} {K:W.Frag} {elts:List Expr} {x1:Nat} {pos:Pos} {e it l:Addr} (hne:e≠it) (hle:l≠e) (hli:l≠it) :
  a7A P w K (.Tuple elts x1 pos) (Ite K l) [e,it] e (λ i h=>(∃ old,IsEnum h e it (i:Int) old)/\h.IsListIter it l i) where
 mem:=by simp
 obj:=λ i h st b hb=>by
  obtain ⟨⟨old,he⟩,⟨o1,e1,c1,d1⟩⟩:=st;simp only [List.mem_cons,List.not_mem_nil,or_false] at hb;rcases hb with rfl | rfl
  ·exact ⟨_,he,λ v q=>by cases q⟩
  ·exact ⟨o1,e1,λ v q=>by rw [d1] at q; cases q⟩
 keep:=λ i h h' st k=>by
  obtain ⟨⟨old,he⟩,h1⟩:=st;exact ⟨⟨old,k e (by simp) _ he⟩,h1.at λ o q=>k it (by simp) o q⟩
 item:=by
  intro X hP hw hK hc i pins s σ H E I hf st hg;subst hP hw hK;obtain ⟨xs,x,hq,hx⟩:=hg;obtain ⟨⟨old,he⟩,h1⟩:=st;obtain ⟨its,rv,p,_⟩:=I.list hq;obtain ⟨u,hu,ru⟩:=rv.get hx;refine wpAny_pyNext_enum_item he h1 p.isList (x:=u) (by simpa using hu) hne λ h' a1 a2 a3 a4 a5=>?_;refine ⟨_,rfl,wpAny_letOwnedTupleGo_enum (s:={ s with heap:=h',toks:=s.toks+1 }) a1 λ h'' he'' hs''=>?_⟩;have ie:s.heap.get? e=_:=he;obtain ⟨o1,ei,_⟩:=id h1;have neT:∀ b∈[e,it],b≠s.heap.objs.size:=λ b hb q=>by
   have:∃ o,s.heap.get? b=some o:=by
    simp only [List.mem_cons,List.not_mem_nil,or_false] at hb;rcases hb with rfl | rfl
    ·exact ⟨_,ie⟩
    ·exact ⟨_,ei⟩
   obtain ⟨o,ho⟩:=this;exact absurd (Heap.lt_size ho) (by rw [q]; exact Nat.lt_irrefl _)
  have kk:∀ b o,b ∉ [e,it]->s.heap.get? b=some o->h''.get? b=some o:=λ b o hb q=>by
   simp only [List.mem_cons,List.not_mem_nil,or_false,not_or] at hb;exact hs''.extBut b o hb.1 (a5 b o hb.1 hb.2 q)
  have it'':h''.IsListIter it l (i+1):=a2.extBut hs''.extBut (Ne.symm hne);have hoF:∀ b∈[e,it],∃ o,h''.get? b=some o:=λ b hb=>by
   obtain ⟨o2,e2,_⟩:=it'';simp only [List.mem_cons,List.not_mem_nil,or_false] at hb;rcases hb with rfl | rfl
   ·exact ⟨_,he''⟩
   ·exact ⟨_,e2⟩
  have es:e≠s.heap.objs.size:=neT e (by simp);have tup:IsTup h'' s.heap.objs.size [Value.int (i:Int) s.toks,u].toArray:=⟨_,hs''.extBut _ _ (Ne.symm es) a3,rfl,0,rfl⟩;refine ⟨.ref s.heap.objs.size,upd H s.heap.objs.size (.tup [.int (i:Int),x]),(I.turnedLaid (h':=h'') hf kk hoF (Nat.le_refl _) (by show 2<=sizeLine; decide) (show Vals [.int (i:Int),x] [Value.int (i:Int) s.toks,u] from .cons ⟨_,rfl⟩ (.cons ru .nil)) tup).tok _,rfl,⟨_,x,I.fresh,rfl,rfl,λ xs' q1=>?_⟩,⟨⟨_,he''⟩,it''⟩,λ b hb=>?_⟩
  ·rw [I.list_inj q1 hq]; exact hx
  ·rw [c7 (neT b hb)]; exact (hf b hb).1
 done:=by
  intro X hP hw hK hc i pins s σ H E I hf st hg;subst hP hw hK;obtain ⟨xs,hq,hend⟩:=hg;obtain ⟨⟨old,he⟩,h1⟩:=st;obtain ⟨its,rv,p,_⟩:=I.list hq;have hl:=rv.length;refine wpAny_pyNext_enum_end (I.ok.hd hc) he h1 p.isList (by simp; omega) λ h' k=>⟨rfl,I.turnedAll hf λ b o hb q=>?_⟩;simp only [List.mem_cons,List.not_mem_nil,or_false,not_or] at hb;exact k b o hb.2 q
 self:=λ _ _ _ _ _ st h=>by
  obtain ⟨⟨old,he⟩,_⟩:=st;exact wpAny_pyIter_enum he h
def b4D (K:W.Frag) (ta:TA):TI:=λ σ H R=>ta σ H λ vs H1=>∃ l,vs=[.ref l]/\(∃ xs,SqL K H1 l xs)/\R (Ite K l) H1
theorem a1z (K:W.Frag) {X:Cx} {a:Expr} {ta:TA} {p pos pos':Pos} {elts:List Expr} {x1:Nat} (hK:X.K=K) (hg:Gl X "enumerate") (hm:X.mg "enumerate"=none) (ha:PA X [a] ta) (hs:starEach [a] X.env=[(false,eval a X.env)]:=by rfl) (hs2:starEach ([]:List Expr) X.env=[]:=by rfl) :
  PI X (.Tuple elts x1 pos') (.Call (.Name "enumerate" p) [a] [] pos) (b4D K ta):=by
 subst hK;intro pins s σ H R I h;refine Call_ (T9 I hg hm boot_enumerate (PyProof.Rows.callWith_type1 (C2 (ha pos pins s σ H _ I h) λ us s1 ⟨vs,H1,I1,r1,q1⟩=>?_) (by rw [hs,hs2]) (by rw [hs2]; rfl)));obtain ⟨l,e,⟨xs,q1⟩,q⟩:=q1;subst e;obtain ⟨u,rfl,ru⟩:=O7 r1
 cases ru;obtain ⟨its,rv,p,_⟩:=I1.list q1;have lt1:l<s1.heap.objs.size:=by obtain ⟨_,e,_⟩:=p.isList; exact Heap.lt_size e
 refine call_enumerate_list p.isList λ h' z1 z2 z3 k=>?_;have I2:Inv X pins σ H1 { s1 with heap:=h' }:=I1.kept (t':=s1.toks) k;refine wpAny_pyIter_enum z1 ?_;refine ⟨s1.heap.objs.size+1,[s1.heap.objs.size+1,s1.heap.objs.size],_,_,H1,rfl,I2,a7F (l:=l) (e:=s1.heap.objs.size+1) (it:=s1.heap.objs.size) (Nat.succ_ne_self _) (Nat.ne_of_lt (Nat.lt_succ_of_lt lt1)) (Nat.ne_of_lt lt1),⟨⟨_,z1⟩,z2⟩,λ b hb=>?_,q⟩;have hb':s1.heap.objs.size<=b:=by
  simp only [List.mem_cons,List.not_mem_nil,or_false] at hb;rcases hb with rfl | rfl
  ·exact Nat.le_succ _
  ·exact Nat.le_refl _
 exact I1.fpOk hb' (I1.hok.fresh hb')
section
variable {xs ys:List V} {K:W.Frag} {l1 l2:Addr} {fr:List Nat} {te:TE} {σ:St} {H1:Hp} {p:Addr} {D:Hp->Prop}
theorem a2c {i1 i2:Nat} {tb:TS} {D:Ends} {H:Hp} (Pv:Nat->St->Hp->Prop) (h0:Pv 0 σ H) (hl:∀ i σ H,Pv i σ H->SqL K H l1 xs)
  (hs:∀ i x σ H q,xs[i]?=some x->Pv i σ H->H q=none->tb { D with nx:=Pv (i+1),ct:=Pv (i+1),bk:=D.nx } ((σ.set i1 (some (.int (i:Int)))).set i2 (some x)) (upd H q (.tup [.int (i:Int),x]))) (hd:∀ σ H,Pv xs.length σ H->D.nx σ H) :
  ∃ W:Nat->Nat->St->Hp->Prop,(∃ m,W 0 m σ H)/\∀ i m σ H,W i m σ H →
   ((Ite K l1).stop i H/\D.nx σ H)\/((Ite K l1).go i H/\∃ N:St->Hp->Prop,(∀ σ' H',N σ' H'->∃ m',m'<m/\W (i+1) m' σ' H')/\∀ x H',(Ite K l1).yld i H x H'->a5x K 2 (V4 (J6 i1) (V4 (J6 i2) a8a)) x σ H' λ σ2 H2=>tb { D with nx:=N,ct:=N,bk:=D.nx } σ2 H2):=by
 refine ⟨λ i m σ H=>m=xs.length - i/\i<=xs.length/\Pv i σ H,⟨_,rfl,Nat.zero_le _,h0⟩,?_⟩;rintro i m σ H ⟨rfl,hi,p⟩;have q1:=hl i σ H p
 by_cases hlt:i<xs.length
 ·refine .inr ⟨⟨xs,xs[i],q1,List.getElem?_eq_getElem hlt⟩,Pv (i+1),λ σ' H' p'=>⟨xs.length - (i+1),by omega,rfl,hlt,p'⟩,λ u H' y=>?_⟩
  obtain ⟨q,a,hq,rfl,rfl,hab⟩:=y;have ha:=hab xs q1;exact ⟨q,_,rfl,SqT.of upd_same,rfl,_,_,rfl,_,_,rfl,rfl,hs i a σ H q ha p hq⟩
 ·have:i=xs.length:=by omega
  subst this;exact .inl ⟨⟨xs,q1,by omega⟩,hd σ H p⟩
end
end L2
namespace Fr
abbrev Q2:=Int×Int
def gI (a b:Int):Int:=(Int.gcd a b:Int)
def low (t b:Int):Q2:=(t / gI t b,b / gI t b)
def a6R (f:Q2):Prop:=0<f.2/\Int.gcd f.1 f.2=1
theorem Y1 (a b:Int):0<=gI a b:=Int.natCast_nonneg _
theorem G8 (a b:Int):gI a b∣a:=Int.gcd_dvd_left ..
theorem A4 (a b:Int):gI a b∣b:=Int.gcd_dvd_right ..
theorem a0U {a b:Int} (hb:0<b):0<gI a b:=by
 have h0:=Y1 a b
 by_cases z:gI a b=0
 ·have:=A4 a b
  rw [z,Int.zero_dvd] at this;omega
 ·omega
theorem b1U {a b:Int} (hb:0<b):gI a b<=b:=Int.le_of_dvd hb (A4 a b)
theorem a5L {c a b:Int} (h1:c∣a) (h2:c∣b):c∣gI a b:=Int.dvd_coe_gcd h1 h2
theorem a0L {a b:Int} (ha:0<=a) (hb:0<=b) (h1:a∣b) (h2:b∣a):a=b:=Int.dvd_antisymm ha hb h1 h2
theorem b1i (a b:Int):gI b (a % b)=gI a b:=by
 refine a0L (Y1 _ _) (Y1 _ _) (a5L ?_ (G8 _ _)) (a5L (A4 _ _) ?_)
 ·have h1:=G8 b (a % b)
  have h2:=A4 b (a % b);have:=Int.dvd_add (Int.dvd_mul_of_dvd_left (c:=a / b) h1) h2;rw [Int.mul_ediv_add_emod] at this;exact this
 ·have h1:=G8 a b
  have h2:=A4 a b;have:=Int.dvd_sub h1 (Int.dvd_mul_of_dvd_left (c:=a / b) h2);rw [Int.emod_def];exact this
theorem b1p (a:Int):gI a 0=a.natAbs:=by unfold gI; rw [Int.gcd_zero_right]
theorem Z0 {t b:Int} (hb:0<b):0<(low t b).2:=by
 have h:=a0U (a:=t) hb;obtain ⟨k,hk⟩:=A4 t b
 show 0<b / gI t b
 have e:b / gI t b=k:=by
  have:b / gI t b=(gI t b*k) / gI t b:=by rw [<- hk]
  rw [this,Int.mul_ediv_cancel_left _ (by omega)]
 rw [e]
 by_cases z:0<k
 ·exact z
 ·have:=Int.mul_nonneg (Int.le_of_lt h) (show 0 <= -k by omega)
  rw [Int.mul_neg] at this;omega
theorem O4 {t b:Int} (hb:0<b):t=gI t b*(low t b).1/\b=gI t b*(low t b).2 :=
 ⟨(Int.mul_ediv_cancel' (G8 t b)).symm,(Int.mul_ediv_cancel' (A4 t b)).symm⟩
theorem low_cross {t b:Int} (hb:0<b):(low t b).1*b=t*(low t b).2:=by
 obtain ⟨h1,h2⟩:=O4 (t:=t) hb;generalize gI t b=g at h1 h2;generalize low t b=f at h1 h2;rw [h1,h2]
 ac_rfl
theorem a0W {t b:Int} (hb:0<b):a6R (low t b):=by
 refine ⟨Z0 hb,?_⟩;obtain ⟨h1,h2⟩:=O4 (t:=t) hb;have hg:=a0U (a:=t) hb;have q:gI t b*gI (low t b).1 (low t b).2∣gI t b*1:=by
  rw [Int.mul_one];refine a5L ?_ ?_
  ·have:=Int.mul_dvd_mul_left (gI t b) (G8 (low t b).1 (low t b).2)
   rw [<- h1] at this;exact this
  ·have:=Int.mul_dvd_mul_left (gI t b) (A4 (low t b).1 (low t b).2)
   rw [<- h2] at this;exact this
 have q2:gI (low t b).1 (low t b).2∣1:=Int.dvd_of_mul_dvd_mul_left (by omega) q;have q3:gI (low t b).1 (low t b).2=1:=a0L (Y1 _ _) (by decide) q2 (Int.one_dvd _);unfold gI at q3;omega
theorem a1m {a b c:Int} (h:Int.gcd a b=1) (d:b∣a*c):b∣c:=by
 have h':Nat.Coprime b.natAbs a.natAbs:=by
  rw [Nat.coprime_comm]; exact h
 have d':b.natAbs∣a.natAbs*c.natAbs:=by rw [<- Int.natAbs_mul]; exact Int.natAbs_dvd_natAbs.mpr d
 exact Int.natAbs_dvd_natAbs.mp (h'.dvd_of_dvd_mul_left d')
theorem a3x {f g:Q2} (hf:a6R f) (hg:a6R g) (h:f.1*g.2=g.1*f.2):f=g:=by
 have d1:f.2∣g.2:=a1m hf.2 ⟨g.1,by rw [h,Int.mul_comm]⟩;have d2:g.2∣f.2:=a1m hg.2 ⟨f.1,by rw [<- h,Int.mul_comm]⟩;have e2:f.2=g.2:=a0L (Int.le_of_lt hf.1) (Int.le_of_lt hg.1) d1 d2;have e1:f.1=g.1:=by
  rw [e2] at h;exact Int.eq_of_mul_eq_mul_right (by have:=hg.1; omega) h
 exact Prod.ext e1 e2
theorem a2t {t b t' b':Int} (hb:0<b) (hb':0<b') (h:t*b'=t'*b):low t b=low t' b':=by
 refine a3x (a0W hb) (a0W hb') ?_;have c1:=low_cross (t:=t) hb;have c2:=low_cross (t:=t') hb';generalize low t b=x at c1 ⊢;generalize low t' b'=y at c2 ⊢;refine Int.eq_of_mul_eq_mul_right (a:=b*b') (by have:=Int.mul_pos hb hb'; omega) ?_
 calc x.1*y.2*(b*b')=(x.1*b)*(y.2*b'):=by ac_rfl
  _=(t*b')*(x.2*y.2):=by rw [c1]; ac_rfl
  _=(t'*y.2)*(b*x.2):=by rw [h]; ac_rfl
  _=(y.1*b')*(b*x.2):=by rw [c2]
  _=y.1*x.2*(b*b'):=by ac_rfl
theorem P7 {a m:Int} (ha:0<a) (hm:0<m) (h:m∣a):0<a / m/\m*(a / m)=a:=by
 have e:=Int.mul_ediv_cancel' h;refine ⟨?_,e⟩
 by_cases z:0<a / m
 ·exact z
 ·have:=Int.mul_nonneg (Int.le_of_lt hm) (show 0 <= -(a / m) by omega)
  rw [Int.mul_neg] at this;omega
end Fr
namespace L2
open PySem PySem.Spec PyProof.Rows
abbrev a5z (X:Cx) (qual:Str) (scope:Scope) (f:Addr) (cd:Value) (C:Addr):Env:=W.envX qual scope C f cd (clo X.env scope.names [])
def a2M (X:Cx) (col:Str) (fr:List Nat) (qual:Str) (scope:Scope) (f:Addr) (cd:Value) (A':Around) (s₀:Shared) (H₀:Hp):Cx :=
  { X with N:=col::fr.map (λ j=>X.N.getD j ""),s₀:=s₀,H₀:=H₀,A:=A'.deeper (a5z X qual scope f cd s₀.heap.objs.size),env:=a5z X qual scope f cd s₀.heap.objs.size,outer:=X.stack,
           stack:=a5z X qual scope f cd s₀.heap.objs.size::X.stack,ex:=[],fn:=λ _=>false,pn:=[],xe:=λ _ _=>False }
section
variable {X:Cx} {pins:List (Addr×Obj)} {σ:St} {H:Hp} {s:Shared} {fr:List Nat} {scope:Scope} {col:Str} {qual:Str} {f:Addr} {cd:Value} {A':Around}
theorem V5 {env:Env} {l:List (Str×NameKind)} {x:Str} {c:Addr} (e:(clo env l []).lookup x=some c):env.cells.lookup x=some c:=a0E (cs:=[]) (λ _ _ z=>by simp at z) e
theorem Inv.lam {h₁:Heap} {t':Nat} {v:V} {u:Value} (I:Inv X pins σ H s) (hA:A'.frames=some X.stack) (hh:A'.handled=X.A.handled) (hk:scope.kind=.function) (h:Z5 X.env.scope scope X.N fr=true)
  (hcell:∀ x∈scope.names,x.2≠.cell) (hcol:scope.names.lookup col=some .local) (hns:h₁.Ns s.heap.objs.size λ x=>[(col,u)].reverse.lookup x) (hkeep:∀ b o,s.heap.get? b=some o->h₁.get? b=some o) (r:RelV v u) :
  Inv (a2M X col fr qual scope f cd A' s H) [] (some v::frv fr σ) H { s with heap:=h₁,toks:=t' } where
 ok:={
  mod:=I.ok.mod
  kind:=hk
  glob:=rfl
  blt:=rfl
  above:=Nat.le_refl _
  inj:=λ x y c e1 e2=>I.ok.inj x y c (V5 e1) (V5 e2)
  has:=λ x hx=>by
   have hx':scope.names.lookup x=some .cell\/scope.names.lookup x=some .free:=hx;rcases hx' with e | e
   ·exact absurd rfl (hcell _ (G7 e))
   ·exact X7 (U4 I h x (G7 e)) (G7 e)
  cab:=λ x c hx=>by cases (show false=true from hx)
  hd:=λ z=>by
   show A'.handled=none
   rw [hh];exact I.ok.hd z
  frames:=Around.frames_deeper hA
  stk:=.inr ⟨rfl,rfl⟩
  exf:=λ b hb=>by cases (show b∈([]:List Addr) from hb)
  bs:=I.bs
  bsz:=Nat.le_trans I.ok.bsz I.sz
  noex:=λ b o _ hb=>by cases (show b∈([]:List Addr) from hb)
  exfs:=λ b hb=>by cases (show b∈([]:List Addr) from hb)
  funs:=I.stack
  frf:=I.stkFree }
 os:=rfl
 bare:=I.bare
 base:=Un.kept hkeep
 loc:=by
  refine ⟨_,hns,λ i x w e1 e2 _=>?_⟩
  cases i with
  | zero =>
   have hx:col=x:=Option.some.inj e1;have hv:v=w:=Option.some.inj (Option.some.inj e2);subst hx;subst hv;exact ⟨u,r,.inl ⟨hcol,by simp [List.lookup]⟩⟩
  | succ i =>
   have e1':(fr.map λ j=>X.N.getD j "")[i]?=some x:=e1;have e2':(fr.map λ j=>(σ[j]?).join)[i]?=some (some w):=e2;rw [List.getElem?_map] at e1' e2'
   cases q:fr[i]? with
   | none=>rw [q] at e1'; cases e1'
   | some j =>
    rw [q] at e1' e2';have hj:j∈fr:=List.mem_of_getElem? q;obtain ⟨hjl,hjc,hjf⟩:=b2b h j hj;have ex:X.N.getD j ""=x:=Option.some.inj e1';have ev:(σ[j]?).join=some w:=Option.some.inj e2';have hN:X.N[j]?=some x:=by
     rw [<- ex,List.getD_eq_getElem?_getD,List.getElem?_eq_getElem hjl]; rfl
    have hσ:σ[j]?=some (some w):=by
     cases r:σ[j]? with
     | none=>rw [r] at ev; cases ev
     | some y=>rw [r] at ev; exact congrArg some ev
    rw [ex] at hjc hjf;obtain ⟨m,_,hl⟩:=I.loc;obtain ⟨u',r',lk⟩:=hl j x w hN hσ (.inr (.inl hjc));refine ⟨u',r',?_⟩;have kc:Env.kindOf X.env x=some .cell:=hjc;rcases lk with ⟨k1,_⟩ | ⟨_,c,ec,o,ho',hd⟩
    ·rw [kc] at k1; cases k1
    ·obtain ⟨c',hc'⟩:=X7 (env:=X.env) (cs:=[]) ⟨c,ec⟩ (G7 hjf)
     have e3:=V5 hc';rw [ec] at e3
     cases e3;exact .inr ⟨.inr hjf,c,hc',o,hkeep _ _ ho',hd⟩
 cell:=λ x c e=>by
  obtain ⟨v,o,ho',hd⟩:=I.cell x c (V5 e);exact ⟨v,o,hkeep _ _ ho',hd⟩
 free:=I.hok.fresh (Nat.le_refl _)
 freeC:=λ x c e=>I.freeC x c (V5 e)
 pin:=λ p hp=>by cases (show p∈([]:List (Addr×Obj)) from hp)
 hok:=I.hok.kept hkeep
 len:=by simp [frv,a2M]
def Quiet (X:Cx) (H:Hp) (s s':Shared):Prop:=∀ b o,s.heap.get? b=some o->H b=none->b≠X.env.locals->b ∉ X.fs->s'.heap.get? b=some o
theorem a9g {params:Arguments} {body:Expr} {pm ctv:Value} {c':Addr} {v k:V} {u:Value} {t:TE} {Q:Value->Shared->Prop} {E:Value->Shared->Prop} (I:Inv X pins σ H s) (hA:A'.frames=some X.stack) (hh:A'.handled=X.A.handled)
  (hroom:A'.depth<recursionLimit) (hk:scope.kind=.function) (h:Z5 X.env.scope scope X.N fr=true)
  (hcell:∀ x∈scope.names,x.2≠.cell) (hcol:scope.names.lookup col=some .local) (hco:scope.isCoroutine=false) (hgen:scope.isGenerator=false)
  (hf:s.heap.get? f=some (W.kla_obj "<lambda>" qual params body scope (clo X.env scope.names []) pm c' ctv)) (hcd:s.heap.CodeRec (.ref c') qual)
  (hb:∀ u:Value,bindArgs (W.kla_fn "<lambda>" qual params body scope (clo X.env scope.names []) pm (.ref c') ctv) ⟨[u],[]⟩=pure [(col,u)])
  (hbody:PE (a2M X col fr qual scope f (.ref c') A' s H) body t) (r:RelV v u) (ht:t (some v::frv fr σ) H λ y H'=>y=k/\H'=H)
  (q:∀ y s',RelV k y->Inv X pins σ H s'->Quiet X H s s'->Q y s'):wpAny (model X.prog X.w) A' (call (.ref f) [u]) Q E s:=by
 refine wpAny_call (W.kla_callFunE hroom hf rfl hco hgen rfl hcd ?_);rw [hb u];refine wpAny_pure (wpAny_newFunctionEnv hcell (λ y hy=>?_) (λ h₁ hns hsb=>?_) hk)
 ·rw [List.mem_singleton.mp hy]; exact hcol
 ·have hk₁:∀ b o,s.heap.get? b=some o->h₁.get? b=some o:=λ b o e=>hsb.extBut b o (Nat.ne_of_lt (Heap.lt_size e)) (Heap.get?_push_of_some _ e)
  refine ⟨I.nolimit.keeps hk₁,W.kla_codeExpr ?_⟩;have J:=I.lam (qual:=qual) (f:=f) (cd:=.ref c') (t':=s.toks+[(col,u)].length) hA hh hk h hcell hcol hns hk₁ r;refine wpAny_mono (hbody [] _ _ _ _ J ht) (λ y s' hy=>?_) λ e s' z=>False.elim z;obtain ⟨w,H',J',rw',rfl,rfl⟩:=hy;have J2:Inv X pins σ H' s':=I.call' (ch:=[]) J'.os J'.base J'.hok J'.bare λ b hb=>by cases hb
  refine q y s' rw' J2 λ b o e n n1 n2=>?_;refine J'.base.keep b o e n (λ z=>?_) (by intro z; cases z);rcases List.mem_cons.mp (I.stkSub b z) with w | w
  ·exact n1 w
  ·exact n2 w
end
def N8 (mg:Str->Option Value) (base:Heap):Prop:=∃ bm ob,mg "__builtins__"=some (.ref bm)/\bm≠builtinsNs/\base.get? bm=some ob/\ob.cls=.type "module"/\ob.dict=some builtinsNs/\ob.data=.plain
abbrev a2T (c:Addr) (qual:Str):HO:=.ext λ h=>h.CodeRec (.ref c) qual
def LamTab (P:Addr) (pos:Pos) (qual:Str) (H:Hp):Prop :=
 H P=some (.tbl #[])\/∃ c',H P=some (.tbl #[rawInt pos.line,rawInt pos.col,.ref c'])/\H c'=some (a2T c' qual)
def Same1 (P:Addr) (H H':Hp):Prop:=∀ b o,b≠P->H b=some o->H' b=some o
theorem LamTab.same {P:Addr} {pos:Pos} {qual:Str} {H H':Hp} (T:LamTab P pos qual H) (h:∀ b o,H b=some o->H' b=some o):LamTab P pos qual H':=by
 rcases T with e | ⟨c,e1,e2⟩
 ·exact .inl (h _ _ e)
 ·exact .inr ⟨c,h _ _ e1,h _ _ e2⟩
section
variable {X:Cx} {pins:List (Addr×Obj)} {σ:St} {H:Hp} {s:Shared} {fr:List Nat} {scope:Scope} {qual:Str} {c P:Addr} {params:Arguments} {body:Expr} {pos:Pos}
theorem a8C {K:Program} {w:World} {H:Hp} {h:Heap} {c:Addr} {o:Obj} (e:h.get? c=some o) (r:h.CodeRec (.ref c) qual):ObjOk K w H h c (a2T c qual) :=
 ⟨r,⟨o,e⟩,λ h1 h2 ⟨c',o',vs,t,z,g,q⟩ k=>by
  have z':c=c':=Value.ref.inj z;subst z';exact ⟨c,o',vs,t,rfl,k _ g,q⟩⟩
theorem Inv.grown {h':Heap} {t':Nat} {ps more:Array Value} {c':Addr} (I:Inv X pins σ H s) (hP:H P=some (.tbl ps)) (hx:Heap.ExtBut P s.heap h') (hge:s.heap.objs.size<=c') (hcr:h'.CodeRec (.ref c') qual)
  (htb:h'.get? P=some { cls:=.none,data:=.fields (ps++more) }):Inv X pins σ (upd (upd H P (.tbl (ps++more))) c' (a2T c' qual)) { s with heap:=h',toks:=t' }:=by
 have hPl:P<s.heap.objs.size:=I.hok.lt hP;have hPc:P≠c':=Nat.ne_of_lt (Nat.lt_of_lt_of_le hPl hge);have hcn:H c'=none:=I.hok.fresh hge;have atP:upd (upd H P (.tbl (ps++more))) c' (a2T c' qual) P=some (.tbl (ps++more)):=by rw [c7 hPc,upd_same]
 have nP:∀ b o,H b=some o->(∀ qs,o≠.tbl qs)->upd (upd H P (.tbl (ps++more))) c' (a2T c' qual) b=some o:=λ b o e n=>by
  rw [c7 (g0 e hcn),c7 (λ z=>by subst z; rw [e] at hP; exact n _ (Option.some.inj hP))];exact e
 have neP:∀ b,H b=none->b≠P:=λ b n z=>by subst z; rw [hP] at n; cases n
 obtain ⟨cc,oc,vs,tt,z,gc,gr⟩:=id hcr;have z':c'=cc:=Value.ref.inj z;subst z';refine I.un ⟨λ b o e n _ _=>hx b o (neP b n) e,λ b o e n _ _=>⟨o.slots,hx b o (neP b n) e⟩,λ b o e n _=>?_,λ b o e _=>?_,λ b xs e=>nP b _ e (λ _=>nofun),λ b o u e=>nP b _ e (λ _=>nofun),λ b qs e=>?_⟩ λ b u e=>?_
 ·rw [c7 (Nat.ne_of_lt (Nat.lt_of_lt_of_le (Heap.lt_size e) hge)),c7 (neP b n)]; exact n
 ·by_cases hb:b=P
  ·subst hb; exact ⟨_,htb⟩
  ·exact ⟨o,hx b o hb e⟩
 ·by_cases hb:b=P
  ·subst hb
   rw [e] at hP
   cases hP;exact ⟨more,atP⟩
  ·refine ⟨#[],?_⟩
   rw [c7 (g0 e hcn),c7 hb,e]; simp
 ·by_cases hb:b=c'
  ·subst hb
   rw [upd_same] at e
   cases e;exact a8C gc hcr
  ·rw [c7 hb] at e
   by_cases hb2:b=P
   ·subst hb2
    rw [upd_same] at e
    cases e;exact htb
   ·rw [c7 hb2] at e
    refine (I.hok b u e).stay (λ d v hd g=>hx d v (λ z=>?_) g) (λ d g=>nP d _ g λ _=>nofun) λ d xs g=>nP d _ g λ _=>nofun;subst z;rcases hd with w | w
    ·exact hb2 w.symm
    ·rw [hP] at w; cases w
theorem a4w {Q:Value->Shared->Prop} {E:Value->Shared->Prop} (I:Inv X pins σ H s) (hcode:X.env.code=.ref c) (C:W.CodeHd X.base c P) (B:N8 X.mg X.base) (T:LamTab P pos (X.env.qual++"<lambda>") H)
  (h:Z5 X.env.scope scope X.N fr=true) (hdef:defaultsOf params X.env=([],[]))
  (q:∀ f c' ctv pm H' s',Inv X ((f,W.kla_obj "<lambda>" (X.env.qual++"<lambda>") params body scope (clo X.env scope.names []) pm c' ctv)::pins) σ H' s'->LamTab P pos (X.env.qual++"<lambda>") H'->Same1 P H H' →
   H' c'=some (a2T c' (X.env.qual++"<lambda>"))->(∀ b,b<s.heap.objs.size->H b=none->H' b=none)->Q (.ref f) s') :
  wpAny (model X.prog X.w) X.A (eval (.Lambda params body scope pos) X.env) Q E s:=by
 have hcl:=E5 (U4 I h);have hg:s.heap.Ns mainGlobals X.mg:=I.mod.glob.keeps I.bk;obtain ⟨bm,ob,b1,b2,b3,b4,b5,b6⟩:=B;have Pg:∀ ps,s.heap.get? P=some (W.tabObj ps)->mainGlobals≠P:=λ ps e z=>by
  obtain ⟨o,es,ep,e1,hd,_⟩:=hg;rw [z,e] at e1; cases e1; cases hd
 have Pb:∀ ps,s.heap.get? P=some (W.tabObj ps)->bm≠P:=λ ps e z=>by
  have e1:=I.bk _ _ b3;rw [z,e] at e1; cases e1; cases b4
 have bg:bm≠mainGlobals:=λ z=>by
  obtain ⟨o,es,ep,e1,hd,_⟩:=I.mod.glob;rw [z,e1] at b3; cases b3; rw [hd] at b6; cases b6
 refine W.kla_eval hdef ?_;rcases T with T | ⟨c',T,Tc⟩
 ·have hP:s.heap.get? P=some (W.tabObj #[]):=I.hok P _ T
  refine W.kla_makeFunction (mg:=X.mg) hcl I.ok.glob hg hcode (C.keeps I.bk) hP trivial rfl (Pg _ hP) ⟨bm,ob,b1,b2,bg,Pb _ hP,I.bk _ _ b3,b4,b5,b6⟩ λ c' ctv h' tk hx hge hlt hrec htb=>?_;have J:=I.grown (t':=tk) (more:=#[rawInt pos.line,rawInt pos.col,.ref c']) T hx hge hrec htb;have hsz:s.heap.objs.size<=h'.objs.size:=Nat.le_trans hge (Nat.le_of_lt hlt);have hPl:P<s.heap.objs.size:=I.hok.lt T;have J2:=J.kept (h':=h'.push (W.kla_obj "<lambda>" (X.env.qual++"<lambda>") params body scope (clo X.env scope.names []) ((X.mg "__name__").getD .none) c' ctv)) (t':=tk) λ b u e=>Heap.get?_push_of_some _ e;have hPc:P≠c':=Nat.ne_of_lt (Nat.lt_of_lt_of_le hPl hge);refine q _ c' ctv ((X.mg "__name__").getD .none) _ _ (J2.pins_of λ p hp=>?_) (.inr ⟨c',?_,upd_same⟩) (λ b o hb e=>?_) upd_same λ b hb e=>?_
  ·rcases List.mem_cons.mp hp with rfl | hp
   ·refine ⟨Heap.get?_push_size _ rfl,J.hok.fresh (Nat.le_refl _),Nat.ne_of_gt (Nat.lt_of_lt_of_le I.lt hsz),I.nofs hsz,λ v=>nofun⟩
   ·exact J2.pin p (List.mem_append_right _ hp)
  ·rw [c7 hPc,upd_same]; rfl
  ·rw [c7 (g0 e (I.hok.fresh hge)),c7 hb]; exact e
  ·rw [c7 (Nat.ne_of_lt (Nat.lt_of_lt_of_le hb hge)),c7 (λ z=>by rw [z,T] at e; cases e)]; exact e
 ·have hP:s.heap.get? P=some (W.tabObj #[rawInt pos.line,rawInt pos.col,.ref c']):=I.hok P _ T
  have hf:codeAmong pos (#[rawInt pos.line,rawInt pos.col,Value.ref c']).toList=some (.ref c'):=by
   show codeAmong pos ([]++[rawInt pos.line,rawInt pos.col,Value.ref c'])=_
   exact codeAmong_snoc [] trivial rfl
  refine W.kla_makeFunctionHit (mg:=X.mg) hcl I.ok.glob hg hcode (C.keeps I.bk) hP trivial hf ⟨bm,ob,b1,b2,bg,Pb _ hP,I.bk _ _ b3,b4,b5,b6⟩ λ ctv h' tk hk hsz=>?_;have J:=I.kept (h':=h') (t':=tk) hk;have J2:=J.kept (h':=h'.push (W.kla_obj "<lambda>" (X.env.qual++"<lambda>") params body scope (clo X.env scope.names []) ((X.mg "__name__").getD .none) c' ctv)) (t':=tk) λ b u e=>Heap.get?_push_of_some _ e;refine q _ c' ctv ((X.mg "__name__").getD .none) _ _ (J2.pins_of λ p hp=>?_) (.inr ⟨c',T,Tc⟩) (λ b o hb e=>e) Tc λ b hb e=>e;rcases List.mem_cons.mp hp with rfl | hp
  ·exact ⟨Heap.get?_push_size _ rfl,J.hok.fresh (Nat.le_refl _),Nat.ne_of_gt (Nat.lt_of_lt_of_le I.lt hsz),I.nofs hsz,λ v=>nofun⟩
  ·exact J2.pin p (List.mem_append_right _ hp)
end
section
variable {X:Cx} {pins:List (Addr×Obj)} {σ:St} {H:Hp} {l It S fq:Addr} {ns:List Int} {g:Int->Int} {R:Result->Shared->Prop}
theorem Quiet.fp {s s':Shared} {b:Addr} {o:Obj} (k:Quiet X H s s') (f:V2 X pins H b) (e:s.heap.get? b=some o):s'.heap.get? b=some o:=k b o e f.1 f.2.1 f.2.2.1
theorem Inv.fpTurn {s:Shared} {h':Heap} {t':Nat} {b:Addr} (I:Inv X pins σ H s) (f:V2 X pins H b) (k:∀ c o,c≠b->s.heap.get? c=some o->h'.get? c=some o):Inv X pins σ H { s with heap:=h',toks:=t' } :=
 I.turned k f.1 f.2.1 f.2.2.2.1 f.2.2.2.2.1 f.2.2.2.2.2
def b2u (ns:List Int) (g:Int->Int) (j:Nat) (cont:List Value):Prop :=
 (cont=[]/\j=0)\/∃ M vb kb,cont=[vb,kb]/\M∈ns/\RelV (.int M) vb/\RelV (.int (g M)) kb/\∀ a∈ns.take j,g M<=g a
abbrev a9E (X:Cx) (pins:List (Addr×Obj)) (σ:St) (H:Hp) (fq:Addr) (ns:List Int) (g:Int->Int):Prop :=
 ∀ n∈ns,∀ (u:Value) (s:Shared) (Q:Value->Shared->Prop) (E:Value->Shared->Prop),Inv X pins σ H s->RelV (.int n) u →
  (∀ y s',RelV (.int (g n)) y->Inv X pins σ H s'->Quiet X H s s'->Q y s')->wpAny (model X.prog X.w) X.A.in1 (call (.ref fq) [u]) Q E s
theorem b0v (hc:X.calm=true) (hl:SqL X.K H l (ns.map V.int)) (turn:a9E X pins σ H fq ns g) (fI:V2 X pins H It) (fS:V2 X pins H S) (hIS:It≠S) (hIl:l≠It)
  (hN:ns=[]->∀ s',Inv X pins σ H s'->R (.ok (.ret .none)) s') (hR:∀ M∈ns,(∀ a∈ns,g M<=g a)->∀ y s',RelV (.int M) y->Inv X pins σ H s'->R (.ok (.ret y)) s') :
  ∀ (r j:Nat) (s:Shared) (cont:List Value) (cn:Nat),ns.length - j=r->j<=ns.length->Inv X pins σ H s->s.heap.IsListIter It l j->s.heap.get? S=some (seqObj "list" cont.toArray cn)->b2u ns g j cont →
   codeAny (model X.prog X.w) X.A (.builtin "min.loop" ⟨[.ref It,.ref fq,.ref S],[("default",.none)]⟩) R s:=by
 have nm:(toString "min"++toString ".loop":String)="min.loop":=by decide
 have hh:∀ {s:Shared},Inv X pins σ H s->X.A.in1.handled=none:=λ I=>I.ok.hd hc;intro r
 induction r with
 | zero =>
  intro j s cont cn hr hj I hit hS hb;have hjn:j=ns.length:=by omega
  obtain ⟨its,rv,pl,hz⟩:=I.list hl;have W:=Walks.list (prog:=X.prog) (w:=X.w) (A:=X.A.in1) (hh I) It l hIl its.toArray;have hsz:its.toArray.size=ns.length:=by rw [List.size_toArray,<- rv.length,List.length_map]
  refine codeAny_builtin F.entry_min_loop ?_; rw [Around.under_plainId F.plain_min_loop _];refine wpAny_bind (wpAny_seqItems hS rfl ?_);rcases hb with ⟨rfl,rfl⟩ | ⟨M,vb,kb,rfl,hM,rM,rK,best⟩
  ·show wpAny _ X.A.in1 (tryCatch (pyNext (.ref It)) _ >>= _) _ _ _
   refine wpAny_bind (wpAny_tryCatch (W.done _ _ _ ⟨by rw [hsz,<- hjn]; exact hit,pl.isList⟩ λ h' tk' hk'=>?_));have J:=I.fpTurn (h':=h') (t':=tk') fI λ c o n e=>hk' c o (by simpa using n) e
   show wpAny _ X.A.in1 (rule _ >>= _) _ _ _
   exact wpAny_bind (wpAny_rule (wpAny_pure (hN (List.length_eq_zero_iff.mp hjn.symm) _ J)))
  ·show wpAny _ X.A.in1 (tryCatch (pyNext (.ref It)) _ >>= _) _ _ _
   refine wpAny_bind (wpAny_tryCatch (W.done _ _ _ ⟨by rw [hsz,<- hjn]; exact hit,pl.isList⟩ λ h' tk' hk'=>?_));have J:=I.fpTurn (h':=h') (t':=tk') fI λ c o n e=>hk' c o (by simpa using n) e;have hS':=hk' S _ (by simpa using hIS.symm) hS;have s1:=Heap.SameBut.update h' S (Obj.mapSeq λ _=>(#[]:Array Value))
   show wpAny _ X.A.in1 (updateSeq S (λ _=>#[]) >>= _) _ _ _
   refine wpAny_bind (wpAny_updateSeq hS' rfl (wpAny_bind (wpAny_letGo (wpAny_pure ?_))));exact hR M hM (λ a ha=>best a (by rw [hjn,List.take_length]; exact ha)) vb _ rM (J.fpTurn fS λ c o n e=>(s1.2 c n).trans e)
 | succ r ih =>
  intro j s cont cn hr hj I hit hS hb;have hlt:j<ns.length:=by omega
  obtain ⟨its,rv,pl,hz⟩:=I.list hl;have W:=Walks.list (prog:=X.prog) (w:=X.w) (A:=X.A.in1) (hh I) It l hIl its.toArray;have hsz:its.toArray.size=ns.length:=by rw [List.size_toArray,<- rv.length,List.length_map]
  refine codeAny_builtin F.entry_min_loop ?_; rw [Around.under_plainId F.plain_min_loop _];refine wpAny_bind (wpAny_seqItems hS rfl ?_);have go:∀ (old:List Value) (kx:Value->Sem (Option Value)) (B:Option Value->Sem PySem.Fin) (Q:PySem.Fin->Shared->Prop) (E:Value->Shared->Prop),
    (∀ v h' tk',RelV (.int ns[j]) v->Inv X pins σ H { s with heap:=h',toks:=tk' }->h'.IsListIter It l (j+1)->h'.get? S=some (seqObj "list" cont.toArray cn)->wpAny (model X.prog X.w) X.A.in1 (B (some v)) Q E { s with heap:=h',toks:=tk' }) →
    wpAny (model X.prog X.w) X.A.in1 (tryCatch (pyNext (.ref It)) kx >>= B) Q E s:=by
   intro old kx B Q E hB;refine wpAny_bind (wpAny_tryCatch (W.item j _ _ _ (by rw [hsz]; exact hlt) ⟨hit,pl.isList⟩ λ v h' tk' hP hst' hk'=>?_));have hv:(ns.map V.int)[j]?=some (V.int ns[j]):=by rw [List.getElem?_map,List.getElem?_eq_getElem hlt]; rfl
   obtain ⟨u,hu,ru⟩:=rv.get hv;have hP':its[j]?=some v:=by simpa using hP
   rw [hu] at hP'
   cases hP';exact hB _ h' tk' ru (I.fpTurn fI λ c o n e=>hk' c o (by simpa using n) e) hst'.1 (hk' S _ (by simpa using hIS.symm) hS)
  have hn:ns[j]∈ns:=List.getElem_mem hlt;have tk1:∀ a∈ns.take (j+1),a∈ns.take j\/a=ns[j]:=λ a ha=>by
   rw [List.take_succ_eq_append_getElem hlt] at ha;rcases List.mem_append.mp ha with z | z
   ·exact .inl z
   ·exact .inr (List.mem_singleton.mp z)
  rcases hb with ⟨rfl,rfl⟩ | ⟨M,vb,kb,rfl,hM,rM,rK,best⟩
  ·show wpAny _ X.A.in1 (tryCatch (pyNext (.ref It)) _ >>= _) _ _ _
   refine go [] _ _ _ _ λ v h' tk' rv' J hit' hS'=>?_
   show wpAny _ X.A.in1 (tryCatch (holding [v] (call (.ref fq) [v])) _ >>= _) _ _ _
   refine wpAny_bind (wpAny_tryCatch (wpAny_holding (turn _ hn v _ _ _ J rv' λ y s2 ry J2 qu=>?_)));have hS2:=qu.fp fS hS';obtain ⟨oI,hoI,hoc,hod⟩:=hit';have hI2:=qu.fp fI hoI;have s1:=Heap.SameBut.update s2.heap S (Obj.mapSeq λ _=>#[v,y]);obtain ⟨c2,hc2⟩:∃ c2,(s2.heap.update S (Obj.mapSeq λ _=>#[v,y])).get? S=some (seqObj "list" #[v,y] c2):=⟨_,get?_update_seq hS2 λ _=>#[v,y]⟩
   show wpAny _ X.A.in1 (updateSeq S (λ _=>#[v,y]) >>= _) _ _ _
   refine wpAny_bind (wpAny_updateSeq hS2 rfl ?_);rw [nm];refine wpAny_pure ⟨plainId_quiet F.plain_min_loop _,ih (0+1) _ [v,y] c2 (by omega) hlt (J2.fpTurn fS λ c o n e=>(s1.2 c n).trans e) ⟨oI,(s1.2 It hIS).trans hI2,hoc,hod⟩ hc2 (.inr ⟨ns[0],v,y,rfl,hn,rv',ry,λ a ha=>?_⟩)⟩;rcases tk1 a ha with z | z
   ·simp at z
   ·rw [z]; exact Int.le_refl _
  ·show wpAny _ X.A.in1 (tryCatch (pyNext (.ref It)) _ >>= _) _ _ _
   refine go [] _ _ _ _ λ v h' tk' rv' J hit' hS'=>?_
   show wpAny _ X.A.in1 (tryCatch (holding [v] (call (.ref fq) [v])) _ >>= _) _ _ _
   refine wpAny_bind (wpAny_tryCatch (wpAny_holding (turn _ hn v _ _ _ J rv' λ y s2 ry J2 qu=>?_)));have hS2:=qu.fp fS hS';obtain ⟨oI,hoI,hoc,hod⟩:=hit';have hI2:=qu.fp fI hoI;obtain ⟨t2,rfl⟩:=ry;obtain ⟨tb,rfl⟩:=rK
   show wpAny _ X.A.in1 (tryCatch (holding [v,.int (g ns[j]) t2] (richCompare .Lt (.int (g ns[j]) t2) (.int (g M) tb) >>= _)) _ >>= _) _ _ _
   refine wpAny_bind (wpAny_tryCatch (wpAny_holding (wpAny_bind (CmpOf.ints_lt (prog:=X.prog) (w:=X.w) (A:=X.A.in1) (P:=λ i v=>∃ t,v=.int ([g ns[j],g M].getD i 0) t) (λ i=>[g ns[j],g M].getD i 0) (λ i v h=>h) 0 1 _ _ _ _ _ ⟨t2,rfl⟩ ⟨tb,rfl⟩ ?_))));refine wpAny_bind (wpAny_holding (wpAny_truthy_bool (wpAny_bind (wpAny_letGo (wpAny_pure ?_)))));have e01:(λ i j_1=>decide ([g ns[j],g M].getD i 0<[g ns[j],g M].getD j_1 0)) 0 1=decide (g ns[j]<g M):=rfl;rw [e01]
   by_cases hb':g ns[j]<g M
   ·have s1:=Heap.SameBut.update s2.heap S (Obj.mapSeq λ _=>#[v,.int (g ns[j]) t2])
    obtain ⟨c2,hc2⟩:∃ c2,(s2.heap.update S (Obj.mapSeq λ _=>#[v,.int (g ns[j]) t2])).get? S=some (seqObj "list" #[v,.int (g ns[j]) t2] c2):=⟨_,get?_update_seq hS2 λ _=>#[v,.int (g ns[j]) t2]⟩;simp only [hb',decide_true,if_true];refine wpAny_bind (wpAny_updateSeq hS2 rfl (wpAny_bind (wpAny_letGo ?_)));rw [nm];refine wpAny_pure ⟨plainId_quiet F.plain_min_loop _,ih (j+1) _ [v,.int (g ns[j]) t2] c2 (by omega) hlt (J2.fpTurn fS λ c o n e=>(s1.2 c n).trans e) ⟨oI,(s1.2 It hIS).trans hI2,hoc,hod⟩ hc2 (.inr ⟨ns[j],v,_,rfl,hn,rv',⟨t2,rfl⟩,λ a ha=>?_⟩)⟩;rcases tk1 a ha with z | z
    ·have:=best a z; omega
    ·rw [z]; exact Int.le_refl _
   ·simp only [hb',decide_false,Bool.false_eq_true,if_false]
    refine wpAny_bind (wpAny_letGo ?_);rw [nm];refine wpAny_pure ⟨plainId_quiet F.plain_min_loop _,ih (j+1) _ [vb,.int (g M) tb] cn (by omega) hlt J2 ⟨oI,hI2,hoc,hod⟩ hS2 (.inr ⟨M,vb,_,rfl,hM,rM,⟨tb,rfl⟩,λ a ha=>?_⟩)⟩;rcases tk1 a ha with z | z
    ·exact best a z
    ·rw [z]; omega
theorem b0w {s:Shared} {Q:Value->Shared->Prop} {E:Value->Shared->Prop} (hc:X.calm=true) (I:Inv X pins σ H s) (hl:SqL X.K H l (ns.map V.int)) (turn:a9E X pins σ H fq ns g)
  (hN:ns=[]->∀ s',Inv X pins σ H s'->Q .none s') (hR:∀ M∈ns,(∀ a∈ns,g M<=g a)->∀ y s',RelV (.int M) y->Inv X pins σ H s'->Q y s') :
  wpAny (model X.prog X.w) X.A (call (.builtin "min") [.ref l] [("key",.ref fq),("default",.none)]) Q E s:=by
 have nm:(toString "min"++toString ".loop":String)="min.loop":=by decide
 have ha:argsOk "min" ⟨[.ref l],[("key",.ref fq),("default",.none)]⟩:=by unfold argsOk; rfl
 obtain ⟨its,rv,pl,hz⟩:=I.list hl;have hlt:l<s.heap.objs.size:=by obtain ⟨_,e,_⟩:=pl.isList; exact Heap.lt_size e
 refine kmk_tree F.kind_min F.plain_min F.entry_min ha ?_
 show wpAny _ X.A.in1 (Builtin.Builtins.bindParams "min" ["key","default"] 0 ⟨[],[("key",.ref fq),("default",.none)]⟩ >>= _) _ _ s
 refine wpAny_bind (wpAny_of_eq (show Builtin.Builtins.bindParams "min" ["key","default"] 0 ⟨[],[("key",.ref fq),("default",.none)]⟩=pure [some (.ref fq),some .none] from rfl) (wpAny_bind (wpAny_pure ?_)));refine wpAny_bind (wpAny_pyIter_list pl.isList (wpAny_bind (wpAny_newList ?_ (Nat.zero_le _))));rw [nm];have I1:=I.kept (h':=s.heap.push { cls:=.type "list_iterator",data:=.fields #[.ref l,.int 0 0] }) (t':=s.toks) λ b u e=>Heap.get?_push_of_some _ e;have I2:=I1.kept (h':=(s.heap.push { cls:=.type "list_iterator",data:=.fields #[.ref l,.int 0 0] }).push (seqObj "list" #[] 0)) (t':=s.toks) λ b u e=>Heap.get?_push_of_some _ e;have hS:(s.heap.push { cls:=.type "list_iterator",data:=.fields #[.ref l,.int 0 0] }).objs.size=s.heap.objs.size+1:=size_push' ..;have fI:V2 X pins H s.heap.objs.size:=I.fpOk (Nat.le_refl _) (I.hok.fresh (Nat.le_refl _));have fS:V2 X pins H (s.heap.push { cls:=.type "list_iterator",data:=.fields #[.ref l,.int 0 0] }).objs.size:=I.fpOk (by rw [hS]; omega) (I.hok.fresh (by rw [hS]; omega));refine wpAny_pure ⟨plainId_quiet F.plain_min_loop _,b0v hc hl turn fI fS (Nat.ne_of_lt (by rw [hS]; exact Nat.lt_succ_self _)) (Nat.ne_of_lt hlt) hN hR _ 0 _ [] 0 rfl (Nat.zero_le _) I2 ⟨_,Heap.get?_push_of_some _ (Heap.get?_push_size _ rfl),rfl,rfl⟩ (Heap.get?_push_size _ rfl) (.inl ⟨rfl,rfl⟩)⟩
end
theorem SqL.same1 {K:W.Frag} {P:Addr} {pos:Pos} {qual:Str} {H H':Hp} {a:Addr} {xs:List V} (T:LamTab P pos qual H) (e:Same1 P H H') (h:SqL K H a xs):SqL K H' a xs:=by
 have ne:∀ o,H a=some o->(∀ ps,o≠.tbl ps)->a≠P:=λ o q n z=>by
  subst z;rcases T with t | ⟨c,t,_⟩
  ·rw [q] at t; exact n _ (Option.some.inj t)
  ·rw [q] at t; exact n _ (Option.some.inj t)
 rcases h with (h | ⟨o,h⟩) | h
 ·exact .inl (.inl (e _ _ (ne _ h λ _=>nofun) h))
 ·exact .inl (.inr ⟨o,e _ _ (ne _ h λ _=>nofun) h⟩)
 ·exact .inr h
def b0N (K:W.Frag) (P:Addr) (lpos:Pos) (qual:Str) (fr:List Nat) (t:TA) (tb:TE):TE:=λ σ H Q=>t σ H λ vs H1=>∃ (l:Addr) (ns:List Int) (g:Int->Int),vs=[.ref l]/\SqL K H1 l (ns.map V.int)/\LamTab P lpos qual H1 ∧
 ∀ H2,Same1 P H1 H2->LamTab P lpos qual H2->(∀ n∈ns,tb (some (.int n)::frv fr σ) H2 λ y H'=>y=.int (g n)/\H'=H2)/\(ns=[]->Q .non H2)/\∀ M∈ns,(∀ a∈ns,g M<=g a)->Q (.int M) H2
section
variable {X:Cx} {e body:Expr} {es:List Expr} {t:TA} {tb:TE} {fr:List Nat} {scope:Scope} {col:Str} {c P:Addr} {params:Arguments} {p pos lpos kp1 kp2 cp:Pos} {cj:Nat}
theorem a7E (hc:X.calm=true) (hr:Room 2 X.A) (hg:Gl X "min") (hm:X.mg "min"=none) (hcode:X.env.code=.ref c) (C:W.CodeHd X.base c P) (B:N8 X.mg X.base) (hlc:Z5 X.env.scope scope X.N fr=true) (hk:scope.kind=.function)
  (hcell:∀ x∈scope.names,x.2≠.cell) (hcol:scope.names.lookup col=some .local) (hco:scope.isCoroutine=false) (hgen:scope.isGenerator=false)
  (hb:∀ (pm ctv:Value) (c':Addr) (u:Value),bindArgs (W.kla_fn "<lambda>" (X.env.qual++"<lambda>") params body scope (clo X.env scope.names []) pm (.ref c') ctv) ⟨[u],[]⟩=pure [(col,u)])
  (ha:PA X [e] t) (hbody:∀ (f:Addr) (cd:Value) (s:Shared) (H:Hp),PE (a2M X col fr (X.env.qual++"<lambda>") scope f cd X.A.in1 s H) body tb) (hdef:defaultsOf params X.env=([],[]):=by rfl)
  (he:backTo pos (starEach [e] X.env)=(false,eval e X.env)::backTo pos (starEach [] X.env):=by rfl) (hpl:(backTo pos (starEach [e] X.env)).any (·.1)=false:=by rfl) :
  PE X (.Call (.Name "min" p) [e] [⟨some "key",.Lambda params body scope lpos,kp1⟩,⟨some "default",.Constant .none cj cp,kp2⟩] pos) (b0N X.K P lpos (X.env.qual++"<lambda>") fr t tb):=by
 intro pins s σ H Q I h;refine wpAny_Call_Name_kw (T9 I hg hm (u:=.builtin "min") rfl ?_);refine PyProof.Rows.callWith_kw (C2 (ha pos pins s σ H _ I h) λ us s1 ⟨vs,H1,I1,r,l,ns,g,ev,hl,T,q⟩=>?_) he hpl;subst ev;obtain ⟨u,rfl,ru⟩:=O7 r
 cases ru
 show wpAny _ _ (evalAll [(do let v <- eval (.Lambda params body scope lpos) X.env; standAt pos; pure v),(do let v <- eval (.Constant .none cj cp) X.env; standAt pos; pure v)]) _ _ s1
 refine wpAny_evalAll_cons (wpAny_bind (a4w I1 hcode C B T hlc hdef λ f c' ctv pm H2 s2 I2 T2 e2 Hc' _=>wpAny_bind (wpAny_standAt (wpAny_pure ?_))));refine wpAny_evalAll_cons (wpAny_bind (Constant_none (wpAny_bind (wpAny_standAt (wpAny_pure (wpAny_evalAll_nil ?_))))));obtain ⟨q1,q2,q3⟩:=q H2 e2 T2;have hl2:=hl.same1 T e2;have drop:∀ {po:Addr×Obj} {s'},Inv X (po::pins) σ H2 s'->Inv X pins σ H2 s':=λ J=>J.pins_of λ p hp=>J.pin p (List.mem_append_right _ (List.mem_cons_of_mem _ hp));have hd':X.A.in1.depth<recursionLimit:=by
  have z:X.A.in1.depth+3*1+5<recursionLimit:=hr.in1.dp;omega
 refine b0w (g:=g) hc I2 hl2 (λ n hn u s3 Q3 E3 I3 ru k3=>?_) (λ en s3 I3=>⟨.non,H2,drop I3,rfl,q2 en⟩) λ M hM hmin y s3 ry I3=>⟨.int M,H2,drop I3,ry,q3 M hM hmin⟩;obtain ⟨cr,_,_⟩:=I3.hok c' _ Hc';exact a9g (k:=.int (g n)) I3 I3.ok.frames rfl hd' hk hlc hcell hcol hco hgen (I3.pin _ (List.mem_append_right _ List.mem_cons_self)).1 cr (hb pm ctv c') (hbody f (.ref c') s3 H2) ru (q1 n hn) k3
end
section
variable {X:Cx} {os:List Str} {fr:List Nat} {scope:Scope} {elt tg iter:Expr} {pos:Pos} {wi:TI} {g:TG} {te:TE}
theorem b3d {c:Expr} {tc:TT} {i:Nat} {x:Str} {pos' spos:Pos} (os:List Str) (fr:List Nat) (hN:X.N.Nodup) (hi':X.N[i]?=some x) (hx:X.env.scope.names.lookup x=some .local)
  (hc:X.calm=true) (hi:PI X tg iter wi) (hg:∀ C fp s₀ H₀,PG (blk X os fr scope C fp s₀ H₀) tg g) (ht:∀ C fp s₀ H₀,PT (blk X os fr scope C fp s₀ H₀) c tc) (he:∀ C fp s₀ H₀,PE (blk X os fr scope C fp s₀ H₀) elt te)
  (hsw:swapsWith (.ListComp elt [⟨tg,iter,[c],0⟩] scope pos) (some (.Name x pos')) spos.line X.env=pure true:=by rfl)
  (hk:scope.kind=.function:=by rfl) (hok:Z5 X.env.scope scope X.N fr=true:=by rfl) (hs:∀ x,foldedSetIterable iter X.env x=pure x:=by intro _; rfl) :
  PS X (.Assign [.Name x pos'] (.ListComp elt [⟨tg,iter,[c],0⟩] scope pos) spos) (a7O (b4V os.length fr wi g tc te) (J6 i)):=by
 intro pins s σ H D I h;unfold a7O at h;rw [exec_Assign_Name_used _ _ _ _ hsw];refine wpAny_bind (wpAny_standAt (wpAny_bind ?_))
 show wpAny _ X.A (do let _ <- comprehension (.ListComp elt [⟨tg,iter,[c],0⟩] scope pos) scope X.env _ (newList []) false (eval iter X.env) (some (assign (.Name x pos') X.env))) _ _ s
 refine wpAny_bind (wpAny_mono (wpAny_comprehension_free (use:=some (assign (.Name x pos') X.env)) (Q:=λ _ s'=>SP X pins D .next s') rfl hs (E5 (U4 I hok)) hk (λ x hx hl=>by have:=(O6 hok x hx).1; rw [hl] at this; exact this)
  (C2 (hi pins s σ H _ I h) λ v s1 h1=>C2 h1 λ itv s2 h2=>?_)) (λ _ s' hq=>wpAny_pure (wpAny_pure hq)) λ _ _ e=>e)
 refine a0r (os:=os) (D:=λ p H'=>D.nx (σ.set i (some (.ref p))) H') (RR:=λ acc C=>compPost (model X.prog X.w) X.A X.xe (some (assign (.Name x pos') X.env)) (λ _ s'=>SP X pins D .next s') acc C) hc hg (λ _ _ _ _=>a4A (ht _ _ _ _)) he hk hok h2 ?_;intro p C s3 H3 s' H' I3 eC hn I' ⟨m,hm⟩ q
 show wpAny _ X.A (assign (.Name x pos') X.env (.ref p)) _ _ _
 refine wpAny_assign_Name (a0P (v:=.ref p) I' hN hi' (.inl hx) rfl (λ s'' I'' ⟨a,hsa,ha⟩=>?_) (.inr hx));have hCa:C≠a:=by
  rcases ha with e | e
  ·rw [e]; exact Nat.ne_of_gt (by rw [<- eC]; exact I3.lt)
  ·obtain ⟨v,z⟩:=I3.cell x a e
   exact Nat.ne_of_gt (by rw [<- eC]; exact z.lt)
 exact ⟨m,hm.sameBut hsa hCa,λ h' hs'=>⟨_,H',I3.letgo I'' hn (by omega) hs',q⟩⟩
theorem a3S (K:W.Frag) {e:Expr} {f:Str} {ta:TE} (h:X.K=K) (he:PE X e ta) (hb:attributeBase e f X.env (eval e X.env)=eval e X.env):PE X (.Attribute e f pos) (b4n K ta f):=by subst h; exact v5 he hb
end
section
variable {fr:List Nat} {tc:TT} {σ:St} {J:It} {H1:Hp} {p:Addr} {D:Hp->Prop} {xs:List V}
theorem a6i (hJ:a5j J H1 xs) (hp:H1 p=none) (hz:xs.length<sizeLine) (F:V->Bool)
  (step:∀ (i:Nat) x H (N:Bool->Hp->Prop),xs[i]?=some x->Same H1 H->N (F x) H->tc ((blkσ 1 fr σ).set 0 (some x)) H N)
  (hd:D (upd H1 p (.lst (xs.filter F)))):lcI 1 fr (J6 0) tc (a7J 0) σ J H1 p D:=by
 refine ⟨λ i m ys H=>m=xs.length - i/\i<=xs.length/\ys=(xs.take i).filter F/\H=upd H1 p (.lst ys),⟨xs.length,by simp,Nat.zero_le _,by simp,rfl⟩,?_⟩;rintro i m ys H ⟨rfl,hi,rfl,rfl⟩;have e:=Same.new (o:=.lst ((xs.take i).filter F)) hp
 by_cases hlt:i<xs.length
 ·refine .inr ⟨hJ.go i _ e hlt,λ x H' y=>?_⟩
  obtain ⟨rfl,hx⟩:=hJ.yld i _ x H' e hlt y;have tk:(xs.take (i+1)).filter F=(xs.take i).filter F++[x].filter F:=by rw [List.take_succ,hx,List.filter_append]; rfl
  refine ⟨Wk.set (by decide),step i x _ _ hx e ?_⟩
  cases hq:F x with
  | false =>
   rw [if_neg Bool.false_ne_true];refine ⟨xs.length - (i+1),by omega,rfl,hlt,?_,rfl⟩;rw [tk]; simp [hq]
  | true =>
   rw [if_pos rfl];refine ⟨x,?_,upd_same,?_,xs.length - (i+1),by omega,rfl,hlt,?_,a1E⟩
   ·show ((blkσ 1 fr σ).set 0 (some x))[0]?=some (some x)
    rw [List.getElem?_set_self (by simp [blkσ])]
   ·have h1:=List.length_filter_le F (xs.take i)
    rw [List.length_take] at h1;omega
   ·rw [tk]; simp [hq]
 ·have:i=xs.length:=by omega
  subst this;refine .inl ⟨hJ.stop _ e,?_⟩;rw [List.take_of_length_le (Nat.le_refl _)]; exact hd
end
section
variable {P:Program} {w:World} {K:W.Frag} {mg:Str->Option Value} {base:Heap}
theorem Fun.okC {x qual:Str} {st:Stmt} {f c:Addr} {fd:FuncData} {N ps:List Str} {k:Nat} {sp:Sp} (F:Fun K x qual st f fd) (hc:fd.code=.ref c) (S:m8 N ps (i5 st)) (len:∀ vs H Q E,sp vs H Q E->vs.length=ps.length)
  (hbody:∀ (A:Around) (outer:List Env) (s:Shared) (H:Hp) (vs:List V) (Q:VK) (E:XK),Room k (A.deeper (envOfC qual (i5 st) s.heap.objs.size f (.ref c)))->sp vs H Q E →
   ∃ t,PSs (K7 G5 P w K mg base N qual (i5 st) f (.ref c) A outer s H E).nox (v6 st) t/\t { nx:=λ _ H'=>Q .non H',rt:=Q } (W4 N vs) H):FnOk P w K mg base G5 (k+1) f fd ps sp:=by
 obtain ⟨oc,od,kV,doc,pm,an,cdv,ct,osl,rfl,lk,hcd⟩:=F.ex;have e:cdv=.ref c:=hc;subst e;refine a8n lk hcd S len λ A outer s H vs Q E hr hsp=>?_;obtain ⟨t,h,q⟩:=hbody A outer s H vs Q E hr hsp;exact ⟨t,h.nox,q⟩
end
end L2
namespace L2
open PySem
section
variable {xs ys:List V} {K:W.Frag} {l1 l2:Addr} {fr:List Nat} {te:TE} {σ:St} {H1:Hp} {p:Addr} {D:Hp->Prop}
end
theorem I0 {G0:St->Hp->Prop} {σ:St} {H:Hp} (h:∀ G:St->Hp->Prop,G=G0->G σ H):G0 σ H:=h G0 rfl
section
variable {X:Cx} {st:Stmt} {rest:List Stmt} {t u:TS}
def b6a (t u:TS):TS:=λ D σ H=>∃ M:St->Hp->Prop,t { D with nx:=M } σ H/\∀ σ' H',M σ' H'->u D σ' H'
theorem p6 (h1:PS X st t) (h2:PSs X rest u):PSs X (st::rest) (b6a t u):=by
 intro pins s σ H D I ⟨M,h,hM⟩;refine wpAny_execs_cons (C2 (h1 pins s σ H { D with nx:=M } I h) λ f s1 q=>?_)
 cases f with
 | next =>
  obtain ⟨σ',H',I',q⟩:=q;exact h2 pins s1 σ' H' D I' (hM _ _ q)
 | ret v=>exact q
 | brk=>exact q
 | cont=>exact q
end
end L2
namespace Rim
open PySem L2
theorem a5p (xs:List V) (k:Nat) (h:k<=xs.length):O8 xs none (some (k:Int))=xs.take k:=by
 unfold O8;rw [HT.sIx_none,HT.sIx_nat,List.drop_zero]
 congr 1
 omega
theorem a4o (xs:List V) (k:Nat) (h:k<=xs.length):O8 xs (some (k:Int)) none=xs.drop k:=by
 unfold O8;rw [HT.sIx_none,HT.sIx_nat,Nat.min_eq_left h];exact List.take_of_length_le (by rw [List.length_drop]; exact Nat.le_refl _)
end Rim
namespace L2
open PySem PySem.Spec PyProof.Rows
section
variable {X:Cx}
theorem a1e:O1 X (.type "range") (λ vs H Q=>∃ j:Int,vs=[.int j]/\∀ p,H p=none->Q (.ref p) (upd H p (.rng 0 j))):=by
 intro pins s σ H vs us Q I r h;obtain ⟨j,rfl,q⟩:=h;obtain ⟨u,rfl,t,rfl⟩:=O7 r;refine call_range_1 ⟨.ref s.heap.objs.size,_,I.laid (o:=.rng 0 j) (λ b u e=>Heap.get?_push_of_some _ e) (Nat.le_refl _) ⟨_,_,_,Heap.get?_push_size _ rfl⟩,rfl,q _ (I.hok.fresh (Nat.le_refl _))⟩
theorem a7H:O1 X (.type "range") (λ vs H Q=>∃ i j:Int,vs=[.int i,.int j]/\∀ p,H p=none->Q (.ref p) (upd H p (.rng i j))):=by
 intro pins s σ H vs us Q I r h;obtain ⟨i,j,rfl,q⟩:=h;obtain ⟨u,v,rfl,⟨t,rfl⟩,t',rfl⟩:=a9l r;refine call_range_2 ⟨.ref s.heap.objs.size,_,I.laid (o:=.rng i j) (λ b u e=>Heap.get?_push_of_some _ e) (Nat.le_refl _) ⟨_,_,_,Heap.get?_push_size _ rfl⟩,rfl,q _ (I.hok.fresh (Nat.le_refl _))⟩
theorem a0o:∀ (n:Nat) (acc:List Value) (F:Nat->Int),acc.length=n->(∀ j v,acc[j]?=some v->∃ t,v=Value.int (F j) t)->Vals ((List.range n).map λ i=>V.int (F i)) acc
 | 0,[],_,_,_=>.nil
 | n+1,a::acc,F,hl,h=>by
  rw [List.range_succ_eq_map,List.map_cons,List.map_map];refine .cons (h 0 a rfl) ?_;exact a0o n acc (λ i=>F (i+1)) (by simpa using hl) λ j v e=>h (j+1) v (by simpa using e)
theorem R5 (hc:X.calm=true):O1 X (.type "list") (λ vs H Q=>∃ (p:Addr) (lo:Int) (n:Nat),vs=[.ref p]/\H p=some (.rng lo (lo+n))/\-(2 ^ 60)<=lo/\lo<2 ^ 60/\n<=1000/\∀ l,H l=none->Q (.ref l) (upd H l (.lst ((List.range n).map λ (i:Nat)=>V.int (lo+(i:Int)))))):=by
 intro pins s σ H vs us Q I r h;obtain ⟨p,lo,n,rfl,hp,h1,h2,hn,q⟩:=h;obtain ⟨u,rfl,ru⟩:=O7 r
 cases ru;obtain ⟨t,u,v,e⟩:=I.hok p _ hp;have hsz:Builtin.Range.rangeSize lo (lo+n) 1=n:=by rw [rangeSize_one]; split <;> omega
 refine call_list_range (I.ok.hd hc) e (small_one (by omega) (by omega) (by omega) (by omega)) hsz (by omega) λ h' tk acc' c' hk hS hacc=>?_;have hv:Vals ((List.range n).map λ (i:Nat)=>V.int (lo+(i:Int))) acc'.toList:=a0o n acc'.toList (λ i=>lo+(i:Int)) (by simpa using hacc.1) λ j v e=>by
  obtain ⟨t,et⟩:=hacc.2 j v (by simpa using e);exact ⟨t,by rw [et,Int.mul_one]⟩
 have h9:n<=sizeLine:=Nat.le_trans hn (by decide);refine ⟨.ref s.heap.objs.size,_,I.laid (o:=.lst ((List.range n).map λ (i:Nat)=>V.int (lo+(i:Int)))) (t':=tk) hk (Nat.le_refl _) ⟨by simpa using h9,acc'.toList,c',hv,by simpa using hS⟩,rfl,q _ (I.hok.fresh (Nat.le_refl _))⟩
end
end L2
namespace Lp
abbrev C4:=Nat->Int
def tl (v:C4):C4:=λ i=>v (i+1)
def T8 (a:Int) (u:C4) (b:Int) (v:C4):C4:=λ i=>a*u i+b*v i
def N0 (D:List C4->Int):List C4->List C4->Int
 | _,[]=>0
 | pre,c::rest=>c 0*D ((pre++rest).map tl) - N0 D (pre++[c]) rest
def A7:Nat->List C4->Int
 | 0,_=>1
 | n+1,cols=>N0 (A7 n) [] cols
def Lin (n:Nat) (D:List C4->Int):Prop:=∀ (a:Int) (u:C4) (b:Int) (v:C4) (xs ys:List C4),xs.length+ys.length+1=n->D (xs++T8 a u b v::ys)=a*D (xs++u::ys)+b*D (xs++v::ys)
theorem a7h (a:Int) (u:C4) (b:Int) (v:C4):tl (T8 a u b v)=T8 a (tl u) b (tl v):=rfl
theorem b4G (a b x y p q:Int) (c:Int):c*(a*x+b*y) - (a*p+b*q)=a*(c*x - p)+b*(c*y - q):=by
 rw [Int.mul_add,Int.mul_sub,Int.mul_sub];have e1:c*(a*x)=a*(c*x):=by rw [<- Int.mul_assoc,Int.mul_comm c a,Int.mul_assoc]
 have e2:c*(b*y)=b*(c*y):=by rw [<- Int.mul_assoc,Int.mul_comm c b,Int.mul_assoc]
 rw [e1,e2];lia
theorem a6D {n:Nat} {D:List C4->Int} (h:Lin n D) (a:Int) (u:C4) (b:Int) (v:C4):∀ (rest p1 p2:List C4),p1.length+p2.length+rest.length=n →
  N0 D (p1++T8 a u b v::p2) rest=a*N0 D (p1++u::p2) rest+b*N0 D (p1++v::p2) rest
 | [],p1,p2,_=>by simp [N0]
 | c::rest,p1,p2,hl=>by
  have hl':p1.length+p2.length+(rest.length+1)=n:=hl;have ih:=a6D h a u b v rest p1 (p2++[c]) (by rw [List.length_append,List.length_singleton]; lia);have h0:=h a (tl u) b (tl v) (p1.map tl) ((p2++rest).map tl) (by rw [List.length_map,List.length_map,List.length_append]; lia);unfold N0;simp only [List.append_assoc,List.cons_append,List.map_append,List.map_cons,a7h] at h0 ih ⊢;rw [h0,ih];exact b4G ..
theorem b5X (a b x y p q D:Int):(a*x+b*y)*D - (a*p+b*q)=a*(x*D - p)+b*(y*D - q):=by
 rw [Int.add_mul,Int.mul_sub,Int.mul_sub,Int.mul_assoc,Int.mul_assoc];lia
theorem a4r {n:Nat} {D:List C4->Int} (h:Lin n D) (a:Int) (u:C4) (b:Int) (v:C4):∀ (r1 pre r2:List C4),pre.length+r1.length+r2.length=n →
  N0 D pre (r1++T8 a u b v::r2)=a*N0 D pre (r1++u::r2)+b*N0 D pre (r1++v::r2)
 | [],pre,r2,hl=>by
  have hp:=a6D h a u b v r2 pre [] (by simp only [List.length_nil] at hl ⊢; lia);simp only [List.nil_append];unfold N0;rw [hp];exact b5X ..
 | c::r1,pre,r2,hl=>by
  have hl':pre.length+(r1.length+1)+r2.length=n:=hl;have ih:=a4r h a u b v r1 (pre++[c]) r2 (by rw [List.length_append,List.length_singleton]; lia);have h0:=h a (tl u) b (tl v) ((pre++r1).map tl) (r2.map tl) (by rw [List.length_map,List.length_map,List.length_append]; lia);simp only [List.cons_append];unfold N0;simp only [List.append_assoc,List.cons_append,List.map_append,List.map_cons,a7h] at h0 ih ⊢;rw [h0,ih];exact b4G ..
theorem a3X:∀ n,Lin n (A7 n)
 | 0=>λ a u b v xs ys h=>by lia
 | n+1=>λ a u b v xs ys h=>a4r (a3X n) a u b v xs [] ys (by simp only [List.length_nil]; lia)
def Adj (n:Nat) (D:List C4->Int):Prop:=∀ (u:C4) (xs ys:List C4),xs.length+ys.length+2=n->D (xs++u::u::ys)=0
theorem a7p {n:Nat} {D:List C4->Int} (h:Adj n D) (u:C4):∀ (rest p1 p2:List C4),p1.length+p2.length+rest.length+1=n->N0 D (p1++u::u::p2) rest=0
 | [],_,_,_=>rfl
 | c::rest,p1,p2,hl=>by
  have hl':p1.length+p2.length+(rest.length+1)+1=n:=hl;have ih:=a7p h u rest p1 (p2++[c]) (by rw [List.length_append,List.length_singleton]; lia);have h0:=h (tl u) (p1.map tl) ((p2++rest).map tl) (by rw [List.length_map,List.length_map,List.length_append]; lia);unfold N0;simp only [List.append_assoc,List.cons_append,List.map_append,List.map_cons] at h0 ih ⊢;rw [h0,ih];lia
theorem a4W {n:Nat} {D:List C4->Int} (h:Adj n D) (u:C4):∀ (r1 pre r2:List C4),pre.length+r1.length+r2.length+1=n->N0 D pre (r1++u::u::r2)=0
 | [],pre,r2,hl=>by
  have hp:=a7p h u r2 pre [] (by simp only [List.length_nil] at hl ⊢; lia);simp only [List.nil_append];unfold N0;unfold N0;simp only [List.append_assoc,List.cons_append,List.nil_append] at hp ⊢;rw [hp];lia
 | c::r1,pre,r2,hl=>by
  have hl':pre.length+(r1.length+1)+r2.length+1=n:=hl;have ih:=a4W h u r1 (pre++[c]) r2 (by rw [List.length_append,List.length_singleton]; lia);have h0:=h (tl u) ((pre++r1).map tl) (r2.map tl) (by rw [List.length_map,List.length_map,List.length_append]; lia);simp only [List.cons_append];unfold N0;simp only [List.append_assoc,List.cons_append,List.map_append,List.map_cons] at h0 ih ⊢;rw [h0,ih];lia
theorem a3M:∀ n,Adj n (A7 n)
 | 0=>λ u xs ys h=>by lia
 | n+1=>λ u xs ys h=>a4W (a3M n) u xs [] ys (by simp only [List.length_nil]; lia)
def unit (k:Nat):C4:=λ i=>if i=k then 1 else 0
theorem a9y {D:List C4->Int}:∀ (rest pre:List C4),(∀ c∈rest,c 0=0)->N0 D pre rest=0
 | [],_,_=>rfl
 | c::rest,pre,h=>by
  unfold N0;rw [h c List.mem_cons_self,a9y rest (pre++[c]) λ x hx=>h x (List.mem_cons_of_mem _ hx)];lia
theorem a0C:∀ n,A7 n ((List.range n).map unit)=1
 | 0=>rfl
 | n+1=>by
  show N0 (A7 n) [] ((List.range (n+1)).map unit)=1
  rw [List.range_succ_eq_map,List.map_cons,List.map_map];unfold N0;rw [a9y _ _ (λ c hc=>by
   obtain ⟨k,_,rfl⟩:=List.mem_map.mp hc;rfl)]
  have e:([]++(List.range n).map (unit ∘ Nat.succ)).map tl=(List.range n).map unit:=by
   rw [List.nil_append,List.map_map];refine List.map_congr_left λ k _=>?_
   funext i
   show (if i+1=k+1 then (1:Int) else 0)=if i=k then 1 else 0
   by_cases c:i=k
   ·rw [if_pos (by lia),if_pos c]
   ·rw [if_neg (by lia),if_neg c]
  rw [e,a0C n];rfl
def bnd (M:Nat):Nat->Nat
 | 0=>1
 | n+1=>(n+1)*(M*bnd M n)
def Fits (M n:Nat) (v:C4):Prop:=∀ i,i<n->(v i).natAbs<=M
theorem a6m {D:List C4->Int} {M n B:Nat} (hD:∀ cols,cols.length=n->(∀ c∈cols,Fits M n c)->(D cols).natAbs<=B):∀ (rest pre:List C4),pre.length+rest.length=n+1->(∀ c∈pre,Fits M (n+1) c)->(∀ c∈rest,Fits M (n+1) c)->(N0 D pre rest).natAbs<=rest.length*(M*B)
 | [],_,_,_,_=>by simp [N0]
 | c::rest,pre,hl,hp,hr=>by
  have hl':pre.length+(rest.length+1)=n+1:=hl;have h1:=a6m hD rest (pre++[c]) (by rw [List.length_append,List.length_singleton]; lia) (λ x hx=>(List.mem_append.mp hx).elim (hp x) λ z=>by rw [List.mem_singleton.mp z]; exact hr c List.mem_cons_self) λ x hx=>hr x (List.mem_cons_of_mem _ hx);have h2:=hD ((pre++rest).map tl) (by rw [List.length_map,List.length_append]; lia) λ x hx=>by
   obtain ⟨y,hy,rfl⟩:=List.mem_map.mp hx;intro i hi;rcases List.mem_append.mp hy with z | z
   ·exact hp y z (i+1) (by lia)
   ·exact hr y (List.mem_cons_of_mem _ z) (i+1) (by lia)
  have h3:=hr c List.mem_cons_self 0 (by lia);unfold N0;rw [List.length_cons,Nat.succ_mul];have h4:(c 0*D ((pre++rest).map tl)).natAbs<=M*B:=by rw [Int.natAbs_mul]; exact Nat.mul_le_mul h3 h2
  have h5:=Int.natAbs_sub_le (c 0*D ((pre++rest).map tl)) (N0 D (pre++[c]) rest);lia
theorem a3n {M:Nat}:∀ (n:Nat) (cols:List C4),cols.length=n->(∀ c∈cols,Fits M n c)->(A7 n cols).natAbs<=bnd M n
 | 0,_,_,_=>Nat.le_refl 1
 | n+1,cols,hl,hf=>by
  have:=a6m (a3n (M:=M) n) cols [] (by simpa using hl) (λ c hc=>by cases hc) hf;rw [hl] at this;exact this
theorem a4T {α:Type} {C:List α} {i:Nat} {u:α} (h:C[i]?=some u):C=C.take i++u::C.drop (i+1):=by
 obtain ⟨hi,rfl⟩:=List.getElem?_eq_some_iff.mp h;rw [<- List.drop_eq_getElem_cons hi,List.take_append_drop]
theorem b0e (n:Nat) (u v:C4) (xs ys:List C4) (hl:xs.length+ys.length+2=n):A7 n (xs++u::v::ys) = - A7 n (xs++v::u::ys):=by
 have L:=a3X n;have A:=a3M n;have h0:=A (T8 1 u 1 v) xs ys hl;have h1:=L 1 u 1 v xs (T8 1 u 1 v::ys) (by simp only [List.length_cons]; lia);have h2:=L 1 u 1 v (xs++[u]) ys (by simp only [List.length_append,List.length_singleton]; lia);have h3:=L 1 u 1 v (xs++[v]) ys (by simp only [List.length_append,List.length_singleton]; lia);have h4:=A u xs ys hl;have h5:=A v xs ys hl;simp only [List.append_assoc,List.cons_append,List.nil_append] at h2 h3;lia
theorem a6x (n:Nat) (u:C4):∀ (zs xs ys:List C4),xs.length+zs.length+ys.length+2=n->A7 n (xs++u::(zs++u::ys))=0
 | [],xs,ys,hl=>a3M n u xs ys (by simp only [List.length_nil] at hl; lia)
 | z::zs,xs,ys,hl=>by
  have hl':xs.length+(zs.length+1)+ys.length+2=n:=hl;rw [List.cons_append,b0e n u z xs (zs++u::ys) (by simp only [List.length_append,List.length_cons]; lia)];have:=a6x n u zs (xs++[z]) ys (by rw [List.length_append,List.length_singleton]; lia);simp only [List.append_assoc,List.cons_append,List.nil_append] at this;lia
theorem a6y {n:Nat} {C:List C4} {i k:Nat} {u:C4} (hl:C.length=n) (hik:i<k) (h1:C[i]?=some u) (h2:C[k]?=some u):A7 n C=0:=by
 have e1:=a4T h1;have hk:k<C.length:=(List.getElem?_eq_some_iff.mp h2).1;have h3:(C.drop (i+1))[k - (i+1)]?=some u:=by rw [List.getElem?_drop,show i+1+(k - (i+1))=k by lia]; exact h2
 have e2:=a4T h3;rw [e1,e2];refine a6x n u _ _ _ ?_;simp only [List.length_take,List.length_drop];lia
theorem V7 {n:Nat} {C:List C4} {i k:Nat} {u:C4} (hl:C.length=n) (hik:i≠k) (h1:C[i]?=some u) (h2:C[k]?=some u):A7 n C=0:=by
 rcases Nat.lt_or_gt_of_ne hik with h | h
 ·exact a6y hl h h1 h2
 ·exact a6y hl h h2 h1
theorem a0V {α:Type} {C:List α} {k:Nat} (h:k<C.length) (u:α):C.set k u=C.take k++u::C.drop (k+1):=by
 rw [List.set_eq_take_append_cons_drop,if_pos h]
theorem U3 {n:Nat} {C:List C4} {k:Nat} (hl:C.length=n) (hk:k<n) (a:Int) (u:C4) (b:Int) (v:C4):A7 n (C.set k (T8 a u b v))=a*A7 n (C.set k u)+b*A7 n (C.set k v):=by
 have hk':k<C.length:=by lia
 rw [a0V hk',a0V hk',a0V hk'];refine a3X n a u b v _ _ ?_;simp only [List.length_take,List.length_drop];lia
theorem a3j {n:Nat} {C:List C4} {i k:Nat} (hl:C.length=n) (hi:i<n) (hk:k<n) (hik:i≠k) (u:C4):A7 n ((C.set i u).set k u)=0:=by
 refine V7 (i:=i) (k:=k) (u:=u) (by rw [List.length_set,List.length_set]; exact hl) hik ?_ ?_
 ·rw [List.getElem?_set_ne (Ne.symm hik),List.getElem?_set_self (by lia)]
 ·rw [List.getElem?_set_self (by rw [List.length_set]; lia)]
theorem a4V {n:Nat} {C:List C4} {i k:Nat} (hl:C.length=n) (hi:i<n) (hk:k<n) (hik:i≠k) (u v:C4):A7 n ((C.set i u).set k v) = - A7 n ((C.set i v).set k u):=by
 have h0:=a3j hl hi hk hik (T8 1 u 1 v);have h1:=U3 (C:=C.set i (T8 1 u 1 v)) (by rw [List.length_set]; exact hl) hk 1 u 1 v;have h2:=U3 (C:=C.set k u) (by rw [List.length_set]; exact hl) hi 1 u 1 v;have h3:=U3 (C:=C.set k v) (by rw [List.length_set]; exact hl) hi 1 u 1 v;have h4:=a3j hl hi hk hik u;have h5:=a3j hl hi hk hik v;rw [List.set_comm _ _ (Ne.symm hik),List.set_comm _ _ (Ne.symm hik),List.set_comm _ _ (Ne.symm hik)] at h2 h3;lia
def sumTo (g:Nat->Int):Nat->Int
 | 0=>0
 | n+1=>sumTo g n+g n
theorem sum_congr {g h:Nat->Int}:∀ {n:Nat},(∀ k,k<n->g k=h k)->sumTo g n=sumTo h n
 | 0,_=>rfl
 | n+1,e=>by
  show sumTo g n+g n=sumTo h n+h n
  rw [sum_congr λ k hk=>e k (by lia),e n (by lia)]
theorem sum_zero {g:Nat->Int} {n:Nat} (h:∀ k,k<n->g k=0):sumTo g n=0:=by
 induction n with
 | zero=>rfl
 | succ n ih =>
  show sumTo g n+g n=0
  rw [ih λ k hk=>h k (by lia),h n (by lia)];rfl
theorem sum_one {g:Nat->Int} {n r:Nat} (hr:r<n) (h:∀ k,k<n->k≠r->g k=0):sumTo g n=g r:=by
 induction n with
 | zero=>lia
 | succ n ih =>
  show sumTo g n+g n=g r
  by_cases c:r=n
  ·subst c
   rw [sum_zero λ k hk=>h k (by lia) (by lia)];lia
  ·rw [ih (by lia) λ k hk hn=>h k (by lia) hn,h n (by lia) (by lia)]
   lia
theorem Q7 {g h:Nat->Int}:∀ n:Nat,sumTo (λ k=>g k+h k) n=sumTo g n+sumTo h n
 | 0=>rfl
 | n+1=>by
  show sumTo (λ k=>g k+h k) n+(g n+h n)=sumTo g n+g n+(sumTo h n+h n)
  rw [Q7 n];lia
theorem y4 {g:Nat->Int} (a:Int):∀ n:Nat,sumTo (λ k=>a*g k) n=a*sumTo g n
 | 0=>(Int.mul_zero a).symm
 | n+1=>by
  show sumTo (λ k=>a*g k) n+a*g n=a*(sumTo g n+g n)
  rw [y4 a n,Int.mul_add]
theorem b1c {g:Nat->Int} {n r i:Nat} (hr:r<n) (hi:i<n) (hne:r≠i) (h:∀ k,k<n->k≠r->k≠i->g k=0):sumTo g n=g r+g i:=by
 have e:sumTo g n=sumTo (λ k=>(if k=r then g k else 0)+(if k=i then g k else 0)) n:=sum_congr λ k hk=>by
  by_cases c1:k=r
  ·rw [if_pos c1,if_neg (by lia)]; lia
  ·by_cases c2:k=i
   ·rw [if_neg c1,if_pos c2]; lia
   ·rw [if_neg c1,if_neg c2,h k hk c1 c2]; lia
 rw [e,Q7,sum_one hr λ k _ hn=>if_neg hn,sum_one hi λ k _ hn=>if_neg hn,if_pos rfl,if_pos rfl]
theorem a1t {n:Nat} {C:List C4} {k:Nat} (hl:C.length=n) (hk:k<n) (t:Nat->Int) (W:Nat->C4):∀ m:Nat,A7 n (C.set k (λ x=>sumTo (λ j=>t j*W j x) m))=sumTo (λ j=>t j*A7 n (C.set k (W j))) m
 | 0=>by
  have h:=U3 hl hk 0 (λ _=>0) 0 (λ _=>0);have e:T8 0 (λ _=>0) 0 (λ _=>0)=(λ x:Nat=>sumTo (λ j=>t j*W j x) 0):=by funext x; simp [T8,sumTo]
  rw [e] at h;rw [h];simp [sumTo]
 | m+1=>by
  have h:=U3 hl hk 1 (λ x=>sumTo (λ j=>t j*W j x) m) (t m) (W m);have e:T8 1 (λ x=>sumTo (λ j=>t j*W j x) m) (t m) (W m)=(λ x:Nat=>sumTo (λ j=>t j*W j x) (m+1)):=by funext x; simp [T8,sumTo]
  rw [e,a1t hl hk t W m] at h;rw [h]
  show 1*sumTo _ m+_=sumTo _ m+_
  rw [Int.one_mul]
def zv:C4:=λ _=>0
def a4M (n:Nat) (B:List C4) (u:C4):Prop:=∀ x,A7 n B*u x=sumTo (λ k=>A7 n (B.set k u)*(B.getD k zv) x) n
theorem a3r {B:List C4} {k:Nat} (h:k<B.length):B[k]?=some (B.getD k zv):=by rw [List.getD_eq_getElem?_getD,List.getElem?_eq_getElem h]; rfl
theorem P6 {B:List C4} {k:Nat} (h:k<B.length):B.set k (B.getD k zv)=B:=by
 have e:B.getD k zv=B[k]:=by rw [List.getD_eq_getElem?_getD,List.getElem?_eq_getElem h]; rfl
 rw [e,List.set_getElem_self]
theorem plu {n:Nat} {B:List C4} {r i:Nat} (hl:B.length=n) (hr:r<n) (hi:i<n) (hne:i≠r) {u:C4} (v:C4) (hc:a4M n B u) :
  A7 n B*A7 n ((B.set r u).set i v)=A7 n (B.set r u)*A7 n (B.set i v) - A7 n (B.set i u)*A7 n (B.set r v):=by
 have hl':(B.set i v).length=n:=by rw [List.length_set]; exact hl
 have e1:A7 n ((B.set i v).set r (T8 (A7 n B) u 0 u))=A7 n B*A7 n ((B.set i v).set r u):=by
  rw [U3 hl' hr]; lia
 have e2:T8 (A7 n B) u 0 u=(λ x:Nat=>sumTo (λ k=>A7 n (B.set k u)*(B.getD k zv) x) n):=by
  funext x
  rw [<- hc x];unfold T8;lia
 rw [e2,a1t hl' hr (λ k=>A7 n (B.set k u)) (λ k=>B.getD k zv) n] at e1;rw [List.set_comm _ _ (Ne.symm hne),<- e1];rw [b1c hr hi (Ne.symm hne) λ k hk n1 n2=>?_]
 ·have a1:(B.set i v).set r (B.getD r zv)=B.set i v:=by rw [List.set_comm _ _ hne,P6 (by lia)]
  have a2:A7 n ((B.set i v).set r (B.getD i zv)) = - A7 n (B.set r v):=by
   rw [a4V hl hi hr hne,P6 (by lia)]
  show A7 n (B.set r u)*A7 n ((B.set i v).set r (B.getD r zv))+A7 n (B.set i u)*A7 n ((B.set i v).set r (B.getD i zv))=_
  rw [a1,a2,Int.mul_neg];lia
 ·have:A7 n ((B.set i v).set r (B.getD k zv))=0:=by
   refine V7 (i:=k) (k:=r) (u:=B.getD k zv) (by rw [List.length_set,List.length_set]; exact hl) n1 ?_ ?_
   ·rw [List.getElem?_set_ne (Ne.symm n1),List.getElem?_set_ne (Ne.symm n2)]; exact a3r (by lia)
   ·rw [List.getElem?_set_self (by rw [List.length_set]; lia)]
  show A7 n (B.set k u)*A7 n ((B.set i v).set r (B.getD k zv))=0
  rw [this,Int.mul_zero]
theorem b3K {d a b:Int} (hd:d≠0) (h:d*a=d*b):a=b:=Int.eq_of_mul_eq_mul_left hd h
theorem a2N {n:Nat} {B:List C4} {r:Nat} (hl:B.length=n) (hr:r<n) {u v:C4} (hd:A7 n B≠0) (hu:a4M n B u) (hv:a4M n B v):a4M n (B.set r u) v:=by
 intro x;refine b3K hd ?_;have e:∀ k,k<n->A7 n B*(A7 n ((B.set r u).set k v)*((B.set r u).getD k zv) x) =
   A7 n (B.set r u)*(A7 n (B.set k v)*(B.getD k zv) x)+(if k=r then A7 n B*(A7 n (B.set r v)*u x) else 0) - A7 n (B.set r v)*(A7 n (B.set k u)*(B.getD k zv) x):=λ k hk=>by
  by_cases c:k=r
  ·subst c
   rw [if_pos rfl,List.set_set];have g:(B.set k u).getD k zv=u:=by rw [List.getD_eq_getElem?_getD,List.getElem?_set_self (by lia)]; rfl
   rw [g];have:A7 n (B.set k u)*(A7 n (B.set k v)*B.getD k zv x)=A7 n (B.set k v)*(A7 n (B.set k u)*B.getD k zv x):=by rw [<- Int.mul_assoc,<- Int.mul_assoc,Int.mul_comm (A7 n (B.set k u))]
   lia
  ·rw [if_neg c]
   have g:(B.set r u).getD k zv=B.getD k zv:=by rw [List.getD_eq_getElem?_getD,List.getElem?_set_ne (Ne.symm c),<- List.getD_eq_getElem?_getD]
   rw [g,<- Int.mul_assoc,plu hl hr hk c v hu,Int.sub_mul,Int.mul_assoc,Int.mul_assoc];have:A7 n (B.set k u)*(A7 n (B.set r v)*B.getD k zv x)=A7 n (B.set r v)*(A7 n (B.set k u)*B.getD k zv x):=by rw [<- Int.mul_assoc,<- Int.mul_assoc,Int.mul_comm (A7 n (B.set k u))]
   lia
 have s1:A7 n B*sumTo (λ k=>A7 n ((B.set r u).set k v)*((B.set r u).getD k zv) x) n =
   sumTo (λ k=>A7 n (B.set r u)*(A7 n (B.set k v)*(B.getD k zv) x)+(if k=r then A7 n B*(A7 n (B.set r v)*u x) else 0)+(- A7 n (B.set r v))*(A7 n (B.set k u)*(B.getD k zv) x)) n:=by
  rw [<- y4];refine sum_congr λ k hk=>?_;rw [e k hk,Int.neg_mul];lia
 rw [s1,Q7,Q7,y4,y4,<- hv x,<- hu x,sum_one hr λ k _ hn=>if_neg hn,if_pos rfl,Int.neg_mul];have a1:A7 n B*(A7 n (B.set r u)*v x)=A7 n (B.set r u)*(A7 n B*v x):=by rw [<- Int.mul_assoc,<- Int.mul_assoc,Int.mul_comm (A7 n B)]
 have a2:A7 n B*(A7 n (B.set r v)*u x)=A7 n (B.set r v)*(A7 n B*u x):=by rw [<- Int.mul_assoc,<- Int.mul_assoc,Int.mul_comm (A7 n B)]
 lia
theorem a7L {n:Nat} {B:List C4} {r:Nat} (hl:B.length=n) (hr:r<n):a4M n B (B.getD r zv):=by
 intro x;rw [sum_one hr λ k hk hn=>?_]
 ·rw [P6 (by lia)]
 ·have:A7 n (B.set k (B.getD r zv))=0:=by
   refine V7 (i:=r) (k:=k) (u:=B.getD r zv) (by rw [List.length_set]; exact hl) (Ne.symm hn) ?_ ?_
   ·rw [List.getElem?_set_ne hn]; exact a3r (by lia)
   ·rw [List.getElem?_set_self (by lia)]
  rw [this,Int.zero_mul]
theorem b4W {n:Nat} {B:List C4} (hl:B.length=n) (hd:A7 n B≠0) {t:Nat->Int} (h:∀ x,sumTo (λ k=>t k*(B.getD k zv) x) n=0) {i:Nat} (hi:i<n):t i=0:=by
 have h1:=a1t (C:=B) hl hi t (λ k=>B.getD k zv) n;have e:(λ x:Nat=>sumTo (λ k=>t k*(B.getD k zv) x) n)=zv:=by funext x; rw [h x]; rfl
 rw [e] at h1;have h0:A7 n (B.set i zv)=0:=by
  have:=U3 hl hi 0 zv 0 zv;have e:T8 0 zv 0 zv=zv:=by funext x; simp [T8,zv]
  rw [e] at this;lia
 rw [h0,sum_one hi λ k hk hn=>?_,P6 (by lia)] at h1
 ·exact (Int.mul_eq_zero.mp h1.symm).resolve_right hd
 ·have:A7 n (B.set i (B.getD k zv))=0:=by
   refine V7 (i:=k) (k:=i) (u:=B.getD k zv) (by rw [List.length_set]; exact hl) hn ?_ ?_
   ·rw [List.getElem?_set_ne (Ne.symm hn)]; exact a3r (by lia)
   ·rw [List.getElem?_set_self (by lia)]
  rw [this,Int.mul_zero]
structure Bo where
 d:Int
 T:Nat->Nat->Int
 ins:Nat->Nat
 outs:Nat->Nat
def Y8 (g:Nat->Nat) (k v:Nat):Nat->Nat:=λ i=>if i=k then v else g i
theorem v9 {g:Nat->Nat} {k v:Nat}:Y8 g k v k=v:=if_pos rfl
theorem w6 {g:Nat->Nat} {k v i:Nat} (h:i≠k):Y8 g k v i=g i:=if_neg h
def piv (S:Bo) (r c:Nat):Bo where
 d:=S.T r c
 T:=λ i j=>if i=r then (if j=c then S.d else S.T r j) else (if j=c then - S.T i c else (S.T i j*S.T r c - S.T i c*S.T r j) / S.d)
 ins:=Y8 S.ins r (S.outs c)
 outs:=Y8 S.outs c (S.ins r)
def Bs (m:Nat) (V:Nat->C4) (ins:Nat->Nat):List C4:=(List.range (m+1)).map λ i=>V (ins i)
theorem a1d (m:Nat) (V:Nat->C4) (ins:Nat->Nat):(Bs m V ins).length=m+1:=by unfold Bs; rw [List.length_map,List.length_range]
theorem a6e {m:Nat} {V:Nat->C4} {ins:Nat->Nat} {i:Nat} (h:i<m+1):(Bs m V ins).getD i zv=V (ins i):=by
 unfold Bs;rw [List.getD_eq_getElem?_getD,List.getElem?_map,List.getElem?_range h];rfl
theorem a9H {m:Nat} {V:Nat->C4} {ins:Nat->Nat} {r v:Nat} (h:r<m+1):Bs m V (Y8 ins r v)=(Bs m V ins).set r (V v):=by
 refine List.ext_getElem? λ i=>?_;unfold Bs
 by_cases c:i=r
 ·subst c
  rw [List.getElem?_set_self (by rw [List.length_map,List.length_range]; exact h),List.getElem?_map,List.getElem?_range h]
  show some (V (Y8 ins i v i))=_
  rw [v9]
 ·rw [List.getElem?_set_ne (Ne.symm c),List.getElem?_map,List.getElem?_map]
  by_cases hi:i<m+1
  ·rw [List.getElem?_range hi]
   show some (V (Y8 ins r v i))=some (V (ins i))
   rw [w6 c]
  ·rw [List.getElem?_eq_none (by rw [List.length_range]; lia)]
   rfl
structure Wf (m q:Nat) (V:Nat->C4) (S:Bo):Prop where
 hd:S.d=A7 (m+1) (Bs m V S.ins)
 hT:∀ i j,i<m+1->j<q+1->S.T i j=A7 (m+1) ((Bs m V S.ins).set i (V (S.outs j)))
 cr:∀ j,j<q+1->a4M (m+1) (Bs m V S.ins) (V (S.outs j))
 pos:0<S.d
 feas:∀ i,i<m->0<=S.T i q
 im:S.ins m=q+m
 oq:S.outs q=q+m+1
 ib:∀ i,i<m->S.ins i<q+m
 ob:∀ j,j<q->S.outs j<q+m
 ii:∀ i k,i<m->k<m->S.ins i=S.ins k->i=k
 oo:∀ j k,j<q->k<q->S.outs j=S.outs k->j=k
 io:∀ i j,i<m->j<q->S.ins i≠S.outs j
 all:∀ v,v<q+m->(∃ i,i<m/\S.ins i=v)\/(∃ j,j<q/\S.outs j=v)
section
variable {m q:Nat} {V:Nat->C4} {S:Bo}
theorem Wf.exact (W:Wf m q V S) {r c i j:Nat} (hr:r<m) (hc:c<q) (hi:i<m+1) (hj:j<q+1) (hne:i≠r) :
  S.T i j*S.T r c - S.T i c*S.T r j=S.d*A7 (m+1) (((Bs m V S.ins).set r (V (S.outs c))).set i (V (S.outs j))):=by
 have h:=plu (a1d m V S.ins) (show r<m+1 by lia) hi hne (V (S.outs j)) (W.cr c (by lia));rw [W.hd,h,W.hT i j hi hj,W.hT r c (by lia) (by lia),W.hT i c hi (by lia),W.hT r j (by lia) hj];rw [Int.mul_comm (A7 (m+1) ((Bs m V S.ins).set i (V (S.outs j))))]
theorem Wf.pivT (W:Wf m q V S) {r c i j:Nat} (hr:r<m) (hc:c<q) (hi:i<m+1) (hj:j<q+1):(piv S r c).T i j=A7 (m+1) ((Bs m V (piv S r c).ins).set i (V ((piv S r c).outs j))):=by
 have hl:=a1d m V S.ins
 show (if i=r then (if j=c then S.d else S.T r j) else (if j=c then - S.T i c else (S.T i j*S.T r c - S.T i c*S.T r j) / S.d))=A7 (m+1) ((Bs m V (Y8 S.ins r (S.outs c))).set i (V (Y8 S.outs c (S.ins r) j)))
 rw [a9H (by lia)]
 by_cases c1:i=r
 ·subst c1
  rw [if_pos rfl,List.set_set]
  by_cases c2:j=c
  ·subst c2
   rw [if_pos rfl,v9,W.hd,<- a6e (V:=V) (ins:=S.ins) hi,P6 (by lia)]
  ·rw [if_neg c2,w6 c2]
   exact W.hT i j hi hj
 ·rw [if_neg c1]
  by_cases c2:j=c
  ·subst c2
   rw [if_pos rfl,v9,a4V hl (by lia) hi (Ne.symm c1),<- a6e (V:=V) (ins:=S.ins) (show r<m+1 by lia),P6 (by lia),W.hT i j hi hj]
  ·rw [if_neg c2,w6 c2,W.exact hr hc hi hj c1]
   exact Int.mul_ediv_cancel_left _ (by have:=W.pos; lia)
theorem Wf.mulT (W:Wf m q V S) {r c i j:Nat} (hr:r<m) (hc:c<q) (hi:i<m+1) (hj:j<q+1) (hne:i≠r) (hjc:j≠c):S.d*(piv S r c).T i j=S.T i j*S.T r c - S.T i c*S.T r j:=by
 have e:=W.pivT hr hc hi hj;have h:=W.exact hr hc hi hj hne;have e2:Bs m V (piv S r c).ins=(Bs m V S.ins).set r (V (S.outs c)):=a9H (by lia);have e3:(piv S r c).outs j=S.outs j:=w6 hjc;rw [e2,e3] at e;rw [h,e]
theorem Wf.pivot (W:Wf m q V S) {r c:Nat} (hr:r<m) (hc:c<q) (hp:0<S.T r c) (hq:∀ i,i<m->0<S.T i c->S.T r q*S.T i c<=S.T i q*S.T r c):Wf m q V (piv S r c):=by
 have hl:=a1d m V S.ins;have hd0:A7 (m+1) (Bs m V S.ins)≠0:=by have:=W.pos; rw [W.hd] at this; lia
 have hB:Bs m V (piv S r c).ins=(Bs m V S.ins).set r (V (S.outs c)):=a9H (by lia);refine ⟨?_,λ i j hi hj=>W.pivT hr hc hi hj,λ j hj=>?_,hp,λ i hi=>?_,?_,?_,λ i hi=>?_,λ j hj=>?_,λ i k hi hk e=>?_,λ j k hj hk e=>?_,λ i j hi hj e=>?_,λ v hv=>?_⟩
 ·rw [hB]; exact W.hT r c (by lia) (by lia)
 ·rw [hB]
  by_cases c2:j=c
  ·subst c2
   show a4M _ _ (V (Y8 S.outs j (S.ins r) j))
   rw [v9];have h:=a7L hl (show r<m+1 by lia);rw [a6e (by lia)] at h;exact a2N hl (by lia) hd0 (W.cr j hj) h
  ·show a4M _ _ (V (Y8 S.outs c (S.ins r) j))
   rw [w6 c2];exact a2N hl (by lia) hd0 (W.cr c (by lia)) (W.cr j hj)
 ·by_cases c1:i=r
  ·subst c1
   show 0<=(if i=i then (if q=c then S.d else S.T i q) else _)
   rw [if_pos rfl,if_neg (by lia)];exact W.feas i hi
  ·have e:=W.mulT hr hc (show i<m+1 by lia) (show q<q+1 by lia) c1 (show q≠c by lia)
   have f1:=W.feas i hi;have f2:=W.feas r hr;have hpos:=W.pos;have nn:0<=S.T i q*S.T r c - S.T i c*S.T r q:=by
    have a1:0<=S.T i q*S.T r c:=Int.mul_nonneg f1 (Int.le_of_lt hp)
    by_cases z:0<S.T i c
    ·have:=hq i hi z
     rw [Int.mul_comm (S.T i c)];lia
    ·have a2:0 <= - (S.T i c)*S.T r q:=Int.mul_nonneg (by lia) f2
     rw [Int.neg_mul] at a2;lia
   rw [<- e] at nn
   by_cases z:0<=(piv S r c).T i q
   ·exact z
   ·have:=Int.mul_pos hpos (show 0 < - (piv S r c).T i q by lia)
    rw [Int.mul_neg] at this;lia
 ·show Y8 S.ins r (S.outs c) m=q+m
  rw [w6 (by lia)]; exact W.im
 ·show Y8 S.outs c (S.ins r) q=q+m+1
  rw [w6 (by lia)]; exact W.oq
 ·show Y8 S.ins r (S.outs c) i<q+m
  by_cases c1:i=r
  ·rw [c1,v9]; exact W.ob c hc
  ·rw [w6 c1]; exact W.ib i hi
 ·show Y8 S.outs c (S.ins r) j<q+m
  by_cases c1:j=c
  ·rw [c1,v9]; exact W.ib r hr
  ·rw [w6 c1]; exact W.ob j hj
 ·replace e:Y8 S.ins r (S.outs c) i=Y8 S.ins r (S.outs c) k:=e
  by_cases c1:i=r
  ·by_cases c2:k=r
   ·lia
   ·rw [c1,v9,w6 c2] at e
    exact absurd e.symm (W.io k c hk hc)
  ·by_cases c2:k=r
   ·rw [c2,v9,w6 c1] at e
    exact absurd e (W.io i c hi hc)
   ·rw [w6 c1,w6 c2] at e
    exact W.ii i k hi hk e
 ·replace e:Y8 S.outs c (S.ins r) j=Y8 S.outs c (S.ins r) k:=e
  by_cases c1:j=c
  ·by_cases c2:k=c
   ·lia
   ·rw [c1,v9,w6 c2] at e
    exact absurd e (W.io r k hr hk)
  ·by_cases c2:k=c
   ·rw [c2,v9,w6 c1] at e
    exact absurd e.symm (W.io r j hr hj)
   ·rw [w6 c1,w6 c2] at e
    exact W.oo j k hj hk e
 ·replace e:Y8 S.ins r (S.outs c) i=Y8 S.outs c (S.ins r) j:=e
  by_cases c1:i=r
  ·by_cases c2:j=c
   ·rw [c1,c2,v9,v9] at e
    exact absurd e.symm (W.io r c hr hc)
   ·rw [c1,v9,w6 c2] at e
    exact c2 (W.oo c j hc hj e).symm
  ·by_cases c2:j=c
   ·rw [c2,v9,w6 c1] at e
    exact c1 (W.ii i r hi hr e)
   ·rw [w6 c1,w6 c2] at e
    exact W.io i j hi hj e
 ·show (∃ i,i<m/\Y8 S.ins r (S.outs c) i=v)\/(∃ j,j<q/\Y8 S.outs c (S.ins r) j=v)
  rcases W.all v hv with ⟨i,hi,e⟩ | ⟨j,hj,e⟩
  ·by_cases c1:i=r
   ·exact .inr ⟨c,hc,by rw [v9,<- c1]; exact e⟩
   ·exact .inl ⟨i,hi,by rw [w6 c1]; exact e⟩
  ·by_cases c1:j=c
   ·exact .inl ⟨r,hr,by rw [v9,<- c1]; exact e⟩
   ·exact .inr ⟨j,hj,by rw [w6 c1]; exact e⟩
def Ker (m q:Nat) (V:Nat->C4) (S:Bo) (z:Nat->Int):Prop:=∀ x,sumTo (λ k=>z (S.ins k)*V (S.ins k) x) (m+1)+sumTo (λ j=>z (S.outs j)*V (S.outs j) x) (q+1)=0
theorem a6E {g h:Nat->Int} {n r:Nat} (hr:r<n) (e:∀ k,k<n->k≠r->g k=h k):sumTo g n=sumTo h n+(g r - h r):=by
 have e1:sumTo g n=sumTo (λ k=>h k+(if k=r then g k - h k else 0)) n:=sum_congr λ k hk=>by
  by_cases c:k=r
  ·rw [if_pos c]; lia
  ·rw [if_neg c,e k hk c]; lia
 rw [e1,Q7,sum_one hr λ k _ hn=>if_neg hn,if_pos rfl]
theorem Ker.piv {r c:Nat} (hr:r<m) (hc:c<q) {z:Nat->Int}:Ker m q V (piv S r c) z ↔ Ker m q V S z:=by
  have e:∀ x,sumTo (λ k=>z ((Lp.piv S r c).ins k)*V ((Lp.piv S r c).ins k) x) (m+1)+sumTo (λ j=>z ((Lp.piv S r c).outs j)*V ((Lp.piv S r c).outs j) x) (q+1)
     =sumTo (λ k=>z (S.ins k)*V (S.ins k) x) (m+1)+sumTo (λ j=>z (S.outs j)*V (S.outs j) x) (q+1):=λ x=>by
    have h1:=a6E (g:=λ k=>z ((Lp.piv S r c).ins k)*V ((Lp.piv S r c).ins k) x) (h:=λ k=>z (S.ins k)*V (S.ins k) x) (n:=m+1) (r:=r) (by lia) λ k hk hn=>by
      show z (Y8 S.ins r (S.outs c) k)*V (Y8 S.ins r (S.outs c) k) x=_
      rw [w6 hn]
    have h2:=a6E (g:=λ j=>z ((Lp.piv S r c).outs j)*V ((Lp.piv S r c).outs j) x) (h:=λ j=>z (S.outs j)*V (S.outs j) x) (n:=q+1) (r:=c) (by lia) λ k hk hn=>by
      show z (Y8 S.outs c (S.ins r) k)*V (Y8 S.outs c (S.ins r) k) x=_
      rw [w6 hn]
    rw [h1,h2]
    show _+(z (Y8 S.ins r (S.outs c) r)*V (Y8 S.ins r (S.outs c) r) x - _)+(_+(z (Y8 S.outs c (S.ins r) c)*V (Y8 S.outs c (S.ins r) c) x - _))=_
    rw [v9,v9];lia
  exact ⟨λ h x=>(e x).symm.trans (h x),λ h x=>(e x).trans (h x)⟩
def a1O (q:Nat) (S:Bo) (z:Nat->Int) (i:Nat):Int:=S.d*z (S.ins i)+sumTo (λ j=>S.T i j*z (S.outs j)) (q+1)
theorem V3 {g:Nat->Nat->Int} (n:Nat):∀ k:Nat,sumTo (λ i=>sumTo (λ j=>g i j) k) n=sumTo (λ j=>sumTo (λ i=>g i j) n) k
 | 0=>sum_zero λ _ _=>rfl
 | k+1=>by
  show sumTo (λ i=>sumTo (λ j=>g i j) k+g i k) n=sumTo (λ j=>sumTo (λ i=>g i j) n) k+sumTo (λ i=>g i k) n
  rw [Q7,V3 n k]
theorem Wf.rows (W:Wf m q V S) (z:Nat->Int) (x:Nat):S.d*(sumTo (λ k=>z (S.ins k)*V (S.ins k) x) (m+1)+sumTo (λ j=>z (S.outs j)*V (S.outs j) x) (q+1))=sumTo (λ k=>a1O q S z k*((Bs m V S.ins).getD k zv) x) (m+1):=by
 have e1:S.d*sumTo (λ j=>z (S.outs j)*V (S.outs j) x) (q+1)=sumTo (λ k=>sumTo (λ j=>S.T k j*z (S.outs j)) (q+1)*((Bs m V S.ins).getD k zv) x) (m+1):=by
  rw [<- y4];have h1:∀ j,j<q+1->S.d*(z (S.outs j)*V (S.outs j) x)=sumTo (λ k=>S.T k j*z (S.outs j)*((Bs m V S.ins).getD k zv) x) (m+1):=λ j hj=>by
   have h:=W.cr j hj x;rw [<- W.hd] at h;rw [Int.mul_comm (z (S.outs j)),<- Int.mul_assoc,h,Int.mul_comm,<- y4];refine sum_congr λ k hk=>?_;rw [W.hT k j hk hj,<- Int.mul_assoc,Int.mul_comm (z (S.outs j))]
  rw [sum_congr h1,<- V3];refine sum_congr λ k hk=>?_;rw [Int.mul_comm (sumTo _ _),<- y4];exact sum_congr λ j _=>Int.mul_comm _ _
 rw [Int.mul_add,e1,<- y4,<- Q7];refine sum_congr λ k hk=>?_
 show _=(S.d*z (S.ins k)+_)*_
 rw [Int.add_mul,a6e hk,Int.mul_assoc]
theorem Wf.row_of (W:Wf m q V S) {z:Nat->Int} (h:Ker m q V S z) {i:Nat} (hi:i<m+1):a1O q S z i=0:=by
 refine b4W (a1d m V S.ins) (by have:=W.pos; rw [W.hd] at this; lia) (λ x=>?_) hi;rw [<- W.rows z x,h x,Int.mul_zero]
theorem Wf.ker_of (W:Wf m q V S) {z:Nat->Int} (h:∀ i,i<m+1->a1O q S z i=0):Ker m q V S z:=λ x=>by
 have e:=W.rows z x;have e0:sumTo (λ k=>a1O q S z k*((Bs m V S.ins).getD k zv) x) (m+1)=0:=sum_zero λ k hk=>by rw [h k hk,Int.zero_mul]
 rw [e0] at e;exact (Int.mul_eq_zero.mp e).resolve_left (by have:=W.pos; lia)
end
structure Choice (m q:Nat) (S:Bo) (r c:Nat):Prop where
 hc:c<q
 neg:S.T m c<0
 minc:∀ j,j<q->S.T m j<0->S.outs c<=S.outs j
 hr:r<m
 pos:0<S.T r c
 ratio:∀ i,i<m->0<S.T i c->S.T r q*S.T i c<=S.T i q*S.T r c
 tie:∀ i,i<m->0<S.T i c->S.T r q*S.T i c=S.T i q*S.T r c->S.ins r<=S.ins i
theorem a6V {g:Nat->Int}:∀ {n:Nat},sumTo g n<0->∃ k,k<n/\g k<0
 | 0,h=>absurd h (by show ¬ (0:Int)<0; lia)
 | n+1,h=>by
  have h':sumTo g n+g n<0:=h
  by_cases c:g n<0
  ·exact ⟨n,by lia,c⟩
  ·obtain ⟨k,hk,hg⟩:=a6V (g:=g) (n:=n) (by lia)
   exact ⟨k,by lia,hg⟩
section
variable {m q:Nat} {V:Nat->C4} {S S':Bo}
theorem Wf.inj (W:Wf m q V S) {i k:Nat} (hi:i<m+1) (hk:k<m+1) (e:S.ins i=S.ins k):i=k:=by
 by_cases c1:i=m
 ·by_cases c2:k=m
  ·lia
  ·have:=W.ib k (by lia)
   rw [c1,W.im] at e;lia
 ·by_cases c2:k=m
  ·have:=W.ib i (by lia)
   rw [c2,W.im] at e;lia
  ·exact W.ii i k (by lia) (by lia) e
theorem Wf.apart (W:Wf m q V S) {i j:Nat} (hi:i<m+1) (hj:j<q+1):S.ins i≠S.outs j:=by
 intro e;have hI:S.ins i<=q+m:=by
  by_cases c1:i=m
  ·rw [c1,W.im]; exact Nat.le_refl _
  ·have:=W.ib i (by lia); lia
 by_cases c2:j=q
 ·rw [c2,W.oq] at e; lia
 ·have:=W.ob j (by lia)
  by_cases c1:i=m
  ·rw [c1,W.im] at e; lia
  ·exact W.io i j (by lia) (by lia) e
theorem Wf.injo (W:Wf m q V S) {j k:Nat} (hj:j<q+1) (hk:k<q+1) (e:S.outs j=S.outs k):j=k:=by
 by_cases c1:j=q
 ·by_cases c2:k=q
  ·lia
  ·have:=W.ob k (by lia)
   rw [c1,W.oq] at e;lia
 ·by_cases c2:k=q
  ·have:=W.ob j (by lia)
   rw [c2,W.oq] at e;lia
  ·exact W.oo j k (by lia) (by lia) e
def ray (m:Nat) (S:Bo) (c:Nat) (v:Nat):Int:=if v=S.outs c then S.d else sumTo (λ i=>if S.ins i=v then - S.T i c else 0) (m+1)
theorem Wf.ray_in (W:Wf m q V S) {c k:Nat} (hc:c<q+1) (hk:k<m+1):ray m S c (S.ins k) = - S.T k c:=by
 unfold ray;rw [if_neg (W.apart hk hc),sum_one hk λ i hi hn=>if_neg λ e=>hn (W.inj hi hk e),if_pos rfl]
theorem Wf.ray_out (W:Wf m q V S) {c j:Nat} (hc:c<q+1) (hj:j<q+1) (hn:j≠c):ray m S c (S.outs j)=0:=by
 unfold ray;rw [if_neg λ e=>hn (W.injo hj hc e)];exact sum_zero λ i hi=>if_neg (W.apart hi hj)
theorem Wf.ray_c {c:Nat}:ray m S c (S.outs c)=S.d:=if_pos rfl
theorem Wf.ray_ker (W:Wf m q V S) {c:Nat} (hc:c<q+1):Ker m q V S (ray m S c):=W.ker_of λ i hi=>by
 unfold a1O;rw [W.ray_in hc hi,sum_one hc λ j hj hn=>by rw [W.ray_out hc hj hn,Int.mul_zero],Wf.ray_c,Int.mul_neg,Int.mul_comm];lia
theorem b1Y (W:Wf m q V S) (W':Wf m q V S') (hk:∀ z,Ker m q V S z->Ker m q V S' z) {r c r' c':Nat} (C:Choice m q S r c) (C':Choice m q S' r' c') (ht:S.ins r=S'.outs c') (hst:S.outs c<S.ins r)
  (stat:∀ v,S.ins r<v->(∃ i,i<m/\S.ins i=v)->∃ i,i<m/\S'.ins i=v) (zero:∀ k j,k<m->j<q->S.ins k=S'.outs j->S.T k q=0):False:=by
 have hc1:c<q+1:=by have:=C.hc; lia
 have R:=W'.row_of (hk _ (W.ray_ker hc1)) (show m<m+1 by lia);have zobj:ray m S c (S'.ins m) = - S.T m c:=by rw [W'.im,<- W.im]; exact W.ray_in hc1 (by lia)
 have zcon:ray m S c (S'.outs q)=0:=by rw [W'.oq,<- W.oq]; exact W.ray_out hc1 (by lia) (by have:=C.hc; lia)
 unfold a1O at R
 replace R:S'.d*ray m S c (S'.ins m)+(sumTo (λ j=>S'.T m j*ray m S c (S'.outs j)) q+S'.T m q*ray m S c (S'.outs q))=0:=R
 rw [zobj,zcon,Int.mul_zero,Int.mul_neg] at R;have hneg:0<S'.d*(- S.T m c):=Int.mul_pos W'.pos (by have:=C.neg; lia);rw [Int.mul_neg] at hneg;obtain ⟨j,hj,hg⟩:=a6V (g:=λ j=>S'.T m j*ray m S c (S'.outs j)) (n:=q) (by lia)
 replace hg:S'.T m j*ray m S c (S'.outs j)<0:=hg
 rcases W.all (S'.outs j) (W'.ob j hj) with ⟨k,hk1,e⟩ | ⟨j2,hj2,e⟩
 ·rw [<- e,W.ray_in hc1 (by lia)] at hg
  rcases Nat.lt_trichotomy (S'.outs j) (S.ins r) with h | h | h
  ·have h1:0<=S'.T m j:=by
    by_cases z:S'.T m j<0
    ·have:=C'.minc j hj z
     lia
    ·lia
   have h2:0<S.T k c:=by
    by_cases z:0<S.T k c
    ·exact z
    ·have:=Int.mul_nonneg h1 (show 0 <= - S.T k c by lia)
     lia
   have h3:=zero k j hk1 hj e;have h4:=C.ratio k hk1 h2;rw [h3,Int.zero_mul] at h4;have h5:0<=S.T r q*S.T k c:=Int.mul_nonneg (W.feas r C.hr) (Int.le_of_lt h2);have h6:=C.tie k hk1 h2 (by rw [h3,Int.zero_mul]; omega);lia
  ·have e1:j=c':=W'.oo j c' hj C'.hc (by rw [h,ht])
   have e2:k=r:=W.ii k r hk1 C.hr (by rw [e,h]);rw [e1,e2] at hg;have:=Int.mul_pos (show 0 < - S'.T m c' by have:=C'.neg; lia) C.pos;rw [Int.neg_mul] at this;rw [Int.mul_neg] at hg;lia
  ·obtain ⟨i,hi,e3⟩:=stat _ h ⟨k,hk1,e⟩
   exact W'.io i j hi hj e3
 ·by_cases c2:j2=c
  ·rw [<- e,c2,Wf.ray_c] at hg
   have h1:S'.T m j<0:=by
    by_cases z:S'.T m j<0
    ·exact z
    ·have:=Int.mul_nonneg (show 0<=S'.T m j by lia) (Int.le_of_lt W.pos)
     lia
   have:=C'.minc j hj h1;rw [c2] at e;lia
  ·rw [<- e,W.ray_out hc1 (by lia) c2,Int.mul_zero] at hg
   lia
def Zr (m q:Nat) (S:Bo) (v:Nat):Prop:=∀ i,i<m->S.ins i=v->S.T i q=0
def Bas (m:Nat) (S:Bo) (v:Nat):Prop:=∃ i,i<m/\S.ins i=v
theorem Bas.piv (W:Wf m q V S) {r c v:Nat} (hr:r<m) (hc:c<q) (h1:v≠S.ins r) (h2:v≠S.outs c):Bas m (Lp.piv S r c) v ↔ Bas m S v:=by
 constructor
 ·rintro ⟨i,hi,e⟩
  replace e:Y8 S.ins r (S.outs c) i=v:=e
  by_cases z:i=r
  ·rw [z,v9] at e; exact absurd e.symm h2
  ·rw [w6 z] at e; exact ⟨i,hi,e⟩
 ·rintro ⟨i,hi,e⟩
  have z:i≠r:=λ z=>h1 (by rw [<- e,z]);exact ⟨i,hi,(w6 z).trans e⟩
theorem Zr.piv (W:Wf m q V S) {r c:Nat} (C:Choice m q S r c) (h0:S.T r q=0) (v:Nat):Zr m q (Lp.piv S r c) v ↔ Zr m q S v:=by
 have key:∀ i,i<m->i≠r->((Lp.piv S r c).T i q=0 ↔ S.T i q=0):=λ i hi hn=>by
  have e:=W.mulT C.hr C.hc (show i<m+1 by lia) (show q<q+1 by lia) hn (show q≠c by have:=C.hc; lia);rw [h0,Int.mul_zero,Int.sub_zero] at e;constructor
  ·intro z
   rw [z,Int.mul_zero] at e;exact (Int.mul_eq_zero.mp e.symm).resolve_right (by have:=C.pos; lia)
  ·intro z
   rw [z,Int.zero_mul] at e;exact (Int.mul_eq_zero.mp e).resolve_left (by have:=W.pos; lia)
 have kr:(Lp.piv S r c).T r q=0:=by
  show (if r=r then (if q=c then S.d else S.T r q) else _)=0
  rw [if_pos rfl,if_neg (by have:=C.hc; lia)]; exact h0
 constructor
 ·intro h i hi e
  by_cases z:i=r
  ·rw [z]; exact h0
  ·exact (key i hi z).mp (h i hi ((w6 z).trans e))
 ·intro h i hi e
  by_cases z:i=r
  ·rw [z]; exact kr
  ·exact (key i hi z).mpr (h i hi ((w6 z).symm.trans e))
end
structure Seq (m q:Nat) (V:Nat->C4) (S:Nat->Bo) (R C:Nat->Nat):Prop where
 w:Wf m q V (S 0)
 ch:∀ k,Choice m q (S k) (R k) (C k)
 st:∀ k,S (k+1)=piv (S k) (R k) (C k)
section
variable {m q:Nat} {V:Nat->C4} {S:Nat->Bo} {R C:Nat->Nat}
theorem Seq.wf (Q:Seq m q V S R C):∀ k,Wf m q V (S k)
 | 0=>Q.w
 | k+1=>by rw [Q.st k]; exact (Q.wf k).pivot (Q.ch k).hr (Q.ch k).hc (Q.ch k).pos (Q.ch k).ratio
theorem Seq.ker (Q:Seq m q V S R C) (z:Nat->Int) (a:Nat):∀ n,Ker m q V (S (a+n)) z ↔ Ker m q V (S a) z
 | 0=>Iff.rfl
 | n+1=>by
  show Ker m q V (S (a+n+1)) z ↔ _
  rw [Q.st,Ker.piv (Q.ch _).hr (Q.ch _).hc];exact Q.ker z a n
def Dg (q:Nat) (S:Nat->Bo) (R:Nat->Nat) (k:Nat):Prop:=(S k).T (R k) q=0
theorem Seq.zr (Q:Seq m q V S R C) (v a:Nat):∀ n,(∀ k,a<=k->k<a+n->Dg q S R k)->(Zr m q (S (a+n)) v ↔ Zr m q (S a) v)
 | 0,_=>Iff.rfl
 | n+1,h=>by
  show Zr m q (S (a+n+1)) v ↔ _
  rw [Q.st,Zr.piv (Q.wf _) (Q.ch _) (h (a+n) (by lia) (by lia))];exact Q.zr v a n λ k h1 h2=>h k h1 (by lia)
def a4l (S:Nat->Bo) (R C:Nat->Nat) (k v:Nat):Prop:=v=(S k).ins (R k)\/v=(S k).outs (C k)
theorem Seq.bas (Q:Seq m q V S R C) (v a:Nat):∀ n,(∀ k,a<=k->k<a+n->¬ a4l S R C k v)->(Bas m (S (a+n)) v ↔ Bas m (S a) v)
 | 0,_=>Iff.rfl
 | n+1,h=>by
  have hp:=h (a+n) (by lia) (by lia)
  show Bas m (S (a+n+1)) v ↔ _
  rw [Q.st,Bas.piv (Q.wf _) (Q.ch _).hr (Q.ch _).hc (λ z=>hp (.inl z)) λ z=>hp (.inr z)];exact Q.bas v a n λ k h1 h2=>h k h1 (by lia)
theorem Seq.once (Q:Seq m q V S R C) {a b t:Nat} (hd:∀ k,a<=k->k<b->Dg q S R k) (ht:∀ k,a<=k->k<b->∀ v,a4l S R C k v->v<=t):∀ (g k0 k1:Nat),k1=k0+1+g->a<=k0->k1<b->a4l S R C k0 t->a4l S R C k1 t->False:=by
 intro g
 induction g using Nat.strongRecOn with
 | _ g ih =>
  intro k0 k1 hk ha hb p0 p1
  by_cases hm:∃ k,k0<k/\k<k1/\a4l S R C k t
  ·obtain ⟨k,h1,h2,h3⟩:=hm
   exact ih (k - k0 - 1) (by lia) k0 k (by lia) ha (by lia) p0 h3
  have W0:=Q.wf k0;have W1:=Q.wf k1;have C0:=Q.ch k0;have C1:=Q.ch k1;have bmid:Bas m (S k1) t ↔ Bas m (S (k0+1)) t:=by
   have:=Q.bas t (k0+1) g λ k h1 h2=>λ z=>hm ⟨k,by lia,by lia,z⟩;rw [show k0+1+g=k1 by lia] at this;exact this
  have stat:∀ v,t<v->(Bas m (S k1) v ↔ Bas m (S k0) v):=λ v hv=>by
   have:=Q.bas v k0 (g+1) λ k h1 h2=>λ z=>by have:=ht k (by lia) (by lia) v z; lia
   rw [show k0+(g+1)=k1 by lia] at this;exact this
  have ker:∀ z,Ker m q V (S k1) z ↔ Ker m q V (S k0) z:=λ z=>by
   have:=Q.ker z k0 (g+1);rw [show k0+(g+1)=k1 by lia] at this;exact this
  have zrr:∀ v,Zr m q (S k1) v ↔ Zr m q (S k0) v:=λ v=>by
   have:=Q.zr v k0 (g+1) λ k h1 h2=>hd k (by lia) (by lia);rw [show k0+(g+1)=k1 by lia] at this;exact this
  rcases p0 with e0 | e0
  ·-- it goes out at k0,so it comes in at k1
   have nb:¬ Bas m (S (k0+1)) t:=by
    rintro ⟨i,hi,e⟩;rw [Q.st k0] at e
    replace e:Y8 (S k0).ins (R k0) ((S k0).outs (C k0)) i=t:=e
    by_cases z:i=R k0
    ·rw [z,v9,e0] at e
     exact W0.io _ _ C0.hr C0.hc e.symm
    ·rw [w6 z,e0] at e
     exact z (W0.ii i (R k0) hi C0.hr e)
   rcases p1 with e1 | e1
   ·exact nb (bmid.mp ⟨_,C1.hr,e1.symm⟩)
   ·have hst:(S k0).outs (C k0)<(S k0).ins (R k0):=by
     have h1:=ht k0 ha (by lia) _ (.inr rfl);rw [e0] at h1;have:=W0.io (R k0) (C k0) C0.hr C0.hc;lia
    refine b1Y W0 W1 (λ z h=>(ker z).mpr h) C0 C1 (by rw [<- e0,<- e1]) hst (λ v hv hb'=>(stat v (by rw [e0]; exact hv)).mpr hb') λ k j hk1 hj e=>?_;refine ((zrr ((S k0).ins k)).mp λ i hi e2=>?_) k hk1 rfl;rw [e] at e2;exact absurd e2 (W1.io i j hi hj)
  ·-- it comes in at k0,so it goes out at k1
   have ba:Bas m (S (k0+1)) t:=⟨R k0,C0.hr,by rw [Q.st k0]; show Y8 (S k0).ins (R k0) ((S k0).outs (C k0)) (R k0)=t; rw [v9]; exact e0.symm⟩;rcases p1 with e1 | e1
   ·have hst:(S k1).outs (C k1)<(S k1).ins (R k1):=by
     have h1:=ht k1 (by lia) hb _ (.inr rfl);rw [e1] at h1;have:=W1.io (R k1) (C k1) C1.hr C1.hc;lia
    refine b1Y W1 W0 (λ z h=>(ker z).mp h) C1 C0 (by rw [<- e0,<- e1]) hst (λ v hv hb'=>(stat v (by rw [e1]; exact hv)).mp hb') λ k j hk1 hj e=>?_;refine ((zrr ((S k1).ins k)).mpr λ i hi e2=>?_) k hk1 rfl;rw [e] at e2;exact absurd e2 (W0.io i j hi hj)
   ·obtain ⟨i,hi,e⟩:=bmid.mpr ba
    rw [e1] at e;exact W1.io i (C k1) hi C1.hc e
theorem Seq.short (Q:Seq m q V S R C):∀ (t a b:Nat),a<=b->(∀ k,a<=k->k<b->Dg q S R k)->(∀ k,a<=k->k<b->∀ v,a4l S R C k v->v<t)->b+1<=a+2 ^ t
 | 0,a,b,hab,hd,hp=>by
  by_cases c:a<b
  ·have:=hp a (Nat.le_refl _) c _ (.inl rfl)
   lia
  ·rw [Nat.pow_zero]; lia
 | t+1,a,b,hab,hd,hp=>by
  rw [Nat.pow_succ]
  by_cases h:∃ k,a<=k/\k<b/\a4l S R C k t
  ·obtain ⟨k,h1,h2,h3⟩:=h
   have once:=Q.once hd (t:=t) λ k h1 h2 v hv=>by have:=hp k h1 h2 v hv; lia
   have i1:=Q.short t a k h1 (λ j j1 j2=>hd j j1 (by lia)) λ j j1 j2 v hv=>by
    have:=hp j j1 (by lia) v hv
    by_cases z:v=t
    ·subst z
     exact (once (k - j - 1) j k (by lia) j1 h2 hv h3).elim
    ·lia
   have i2:=Q.short t (k+1) b (by lia) (λ j j1 j2=>hd j (by lia) j2) λ j j1 j2 v hv=>by
    have:=hp j (by lia) j2 v hv
    by_cases z:v=t
    ·subst z
     exact (once (j - k - 1) k j (by lia) h1 j2 h3 hv).elim
    ·lia
   lia
  ·have:=Q.short t a b hab hd λ j j1 j2 v hv=>by
    have h4:=hp j j1 j2 v hv
    by_cases z:v=t
    ·subst z; exact absurd ⟨j,j1,j2,hv⟩ h
    ·lia
   have:0<2 ^ t:=Nat.two_pow_pos t;lia
end
section
variable {m q:Nat} {V:Nat->C4} {S:Bo}
theorem Wf.bndB {M:Nat} (hM:∀ v,Fits M (m+1) (V v)):∀ c∈Bs m V S.ins,Fits M (m+1) c:=λ c hc=>by
 obtain ⟨i,_,rfl⟩:=List.mem_map.mp hc;exact hM _
theorem Wf.bndd (W:Wf m q V S) {M:Nat} (hM:∀ v,Fits M (m+1) (V v)):S.d.natAbs<=bnd M (m+1):=by
 rw [W.hd];exact a3n (m+1) _ (a1d m V S.ins) (Wf.bndB hM)
theorem Wf.bndT (W:Wf m q V S) {M:Nat} (hM:∀ v,Fits M (m+1) (V v)) {i j:Nat} (hi:i<m+1) (hj:j<q+1):(S.T i j).natAbs<=bnd M (m+1):=by
 rw [W.hT i j hi hj];refine a3n (m+1) _ (by rw [List.length_set]; exact a1d m V S.ins) λ c hc=>?_;rcases List.mem_or_eq_of_mem_set hc with h | h
 ·exact Wf.bndB hM c h
 ·rw [h]; exact hM _
def phi (m q:Nat) (M:Int) (S:Bo):Int:=M*M*S.T m q / S.d
theorem Wf.gain (W:Wf m q V S) {r c:Nat} (C:Choice m q S r c) {M:Int} (h1:S.d<=M) (h2:S.T r c<=M):phi m q M S+(if S.T r q=0 then 0 else 1)<=phi m q M (piv S r c):=by
 have hcq:c<q:=C.hc;have hrm:r<m:=C.hr;have e:=W.mulT hrm hcq (show m<m+1 by lia) (show q<q+1 by lia) (show m≠r by lia) (show q≠c by lia);have hp:=C.pos;have hd:=W.pos;have hn:=C.neg;have hf:=W.feas r hrm;unfold phi
 show _<=M*M*(piv S r c).T m q / S.T r c
 generalize (piv S r c).T m q=N' at *;generalize S.T m q=N at *;generalize S.T r c=p at *;generalize S.d=d at *;generalize S.T m c=g at *;generalize S.T r q=b at *;rw [Int.le_ediv_iff_mul_le hp];have hfl:M*M*N / d*d<=M*M*N:=Int.ediv_mul_le _ (by lia);generalize M*M*N / d=f at *;have hM:0<M:=by lia
 have hMM:d*p<=M*M:=Int.mul_le_mul h1 h2 (Int.le_of_lt hp) (Int.le_of_lt hM);have key:(f+(if b=0 then 0 else 1))*p*d<=M*M*N'*d:=by
  have a1:M*M*N'*d=M*M*N*p+M*M*(-(g*b)):=by
   have:N'*d=N*p - g*b:=by rw [Int.mul_comm N' d]; exact e
   rw [Int.mul_assoc (M*M),this,Int.mul_sub,Int.mul_assoc (M*M),Int.mul_neg];lia
  have a2:f*d*p<=M*M*N*p:=Int.mul_le_mul_of_nonneg_right hfl (Int.le_of_lt hp);have a3:f*p*d=f*d*p:=by rw [Int.mul_assoc,Int.mul_comm p d,<- Int.mul_assoc]
  by_cases c0:b=0
  ·rw [if_pos c0,Int.add_zero,a1,a3,c0]
   simp only [Int.mul_zero,Int.neg_zero,Int.add_zero];exact a2
  ·rw [if_neg c0]
   have a4:1 <= -(g*b):=by
    have:=Int.mul_pos (show 0 < -g by lia) (show 0<b by lia);rw [Int.neg_mul] at this;lia
   have a5:M*M*1<=M*M*(-(g*b)):=Int.mul_le_mul_of_nonneg_left a4 (Int.mul_nonneg (Int.le_of_lt hM) (Int.le_of_lt hM));rw [Int.add_mul,Int.add_mul,Int.one_mul,a3,a1];rw [Int.mul_comm d p] at hMM;lia
 exact Int.le_of_mul_le_mul_right key hd
theorem Wf.phi_le (W:Wf m q V S) {M:Int} (h1:S.T m q<=M) (h0:0<M):phi m q M S<=M*M*M:=by
 unfold phi;refine Int.ediv_le_of_le_mul W.pos ?_;have a1:M*M*S.T m q<=M*M*M:=Int.mul_le_mul_of_nonneg_left h1 (Int.mul_nonneg (Int.le_of_lt h0) (Int.le_of_lt h0));have a2:M*M*M*1<=M*M*M*S.d:=Int.mul_le_mul_of_nonneg_left (by have:=W.pos; lia) (Int.mul_nonneg (Int.mul_nonneg (Int.le_of_lt h0) (Int.le_of_lt h0)) (Int.le_of_lt h0));lia
end
section
variable {m q:Nat} {V:Nat->C4} {S:Nat->Bo} {R C:Nat->Nat}
theorem Seq.part_lt (Q:Seq m q V S R C) (k v:Nat) (h:a4l S R C k v):v<q+m:=by
 rcases h with h | h
 ·rw [h]; exact (Q.wf k).ib _ (Q.ch k).hr
 ·rw [h]; exact (Q.wf k).ob _ (Q.ch k).hc
theorem Seq.never (Q:Seq m q V S R C) {M:Nat} (hM:∀ v,Fits M (m+1) (V v)):False:=by
 obtain ⟨B,hB⟩:∃ B:Int,B=(bnd M (m+1):Int):=⟨_,rfl⟩;have bT:∀ k i j,i<m+1->j<q+1->(S k).T i j<=B:=λ k i j hi hj=>by
  have:=(Q.wf k).bndT hM hi hj;lia
 have bd:∀ k,(S k).d<=B:=λ k=>by
  have:=(Q.wf k).bndd hM;lia
 have B0:0<B:=by have:=bd 0; have:=(Q.wf 0).pos; lia
 have up:∀ k,phi m q B (S k)+(if (S k).T (R k) q=0 then 0 else 1)<=phi m q B (S (k+1)):=λ k=>by
  rw [Q.st k];exact (Q.wf k).gain (Q.ch k) (bd k) (bT k _ _ (by have:=(Q.ch k).hr; lia) (by have:=(Q.ch k).hc; lia))
 have mono:∀ n k,phi m q B (S k)<=phi m q B (S (k+n)):=λ n=>by
  induction n with
  | zero=>intro k; exact Int.le_refl _
  | succ n ih =>
   intro k;have h1:=ih k;have h2:=up (k+n);have h3:phi m q B (S (k+n))<=phi m q B (S (k+n+1)):=by
    split at h2 <;> lia
   exact Int.le_trans h1 h3
 have top:∀ k,phi m q B (S k)<=B*B*B:=λ k=>(Q.wf k).phi_le (bT k m q (by lia) (by lia)) B0;have gap:∀ (g:Nat) (k:Nat),B*B*B - phi m q B (S k)<=(g:Int)->False:=by
  intro g
  induction g with
  | zero =>
   intro k hk;have:∃ j,k<=j/\j<k+2 ^ (q+m)/\¬ Dg q S R j:=by
    refine Classical.byContradiction λ hn=>?_;have:=Q.short (q+m) k (k+2 ^ (q+m)) (Nat.le_add_right _ _) (λ j h1 h2=>Classical.byContradiction λ z=>hn ⟨j,h1,h2,z⟩) λ j _ _ v hv=>Q.part_lt j v hv;lia
   obtain ⟨j,h1,h2,h3⟩:=this;have u:=up j;rw [if_neg (show ¬ (S j).T (R j) q=0 from h3)] at u;have m1:=mono (j - k) k;rw [show k+(j - k)=j by lia] at m1;have:=top (j+1);lia
  | succ g ih =>
   intro k hk;have:∃ j,k<=j/\j<k+2 ^ (q+m)/\¬ Dg q S R j:=by
    refine Classical.byContradiction λ hn=>?_;have:=Q.short (q+m) k (k+2 ^ (q+m)) (Nat.le_add_right _ _) (λ j h1 h2=>Classical.byContradiction λ z=>hn ⟨j,h1,h2,z⟩) λ j _ _ v hv=>Q.part_lt j v hv;lia
   obtain ⟨j,h1,h2,h3⟩:=this;have u:=up j;rw [if_neg (show ¬ (S j).T (R j) q=0 from h3)] at u;have m1:=mono (j - k) k;rw [show k+(j - k)=j by lia] at m1;exact ih (j+1) (by lia)
 exact gap (B*B*B - phi m q B (S 0)).toNat 0 (by lia)
end
inductive Ends (m q:Nat):Bo->Nat->Prop
 | stop {S:Bo}:(¬ ∃ r c,Choice m q S r c)->Ends m q S 0
 | go {S:Bo} {r c k:Nat}:Choice m q S r c->Ends m q (piv S r c) k->Ends m q S (k+1)
theorem Choice.uniq {m q:Nat} {V:Nat->C4} {S:Bo} (W:Wf m q V S) {r c r' c':Nat} (h:Choice m q S r c) (h':Choice m q S r' c'):r=r'/\c=c':=by
 have ec:c=c':=W.oo c c' h.hc h'.hc (Nat.le_antisymm (h.minc c' h'.hc h'.neg) (h'.minc c h.hc h.neg));subst ec;have e1:=h.ratio r' h'.hr h'.pos;have e2:=h'.ratio r h.hr h.pos;have e:S.T r q*S.T r' c=S.T r' q*S.T r c:=by lia
 exact ⟨W.ii r r' h.hr h'.hr (Nat.le_antisymm (h.tie r' h'.hr h'.pos e) (h'.tie r h.hr h.pos e.symm)),rfl⟩
theorem Ends.next {m q:Nat} {V:Nat->C4} {S:Bo} (W:Wf m q V S) {k r c:Nat} (h:Ends m q S k) (C:Choice m q S r c):∃ j,j<k/\Ends m q (piv S r c) j:=by
 cases h with
 | stop hn=>exact absurd ⟨r,c,C⟩ hn
 | go C' h' =>
  obtain ⟨rfl,rfl⟩:=C.uniq W C';exact ⟨_,Nat.lt_succ_self _,h'⟩
theorem Wf.ends {m q:Nat} {V:Nat->C4} {M:Nat} (hM:∀ v,Fits M (m+1) (V v)) {S:Bo} (W:Wf m q V S):∃ k,Ends m q S k:=by
 refine Classical.byContradiction λ hn=>?_;have ch:∀ S',Wf m q V S'->(¬ ∃ k,Ends m q S' k)->∃ p:Nat×Nat,Choice m q S' p.1 p.2:=λ S' _ h'=>by
  refine Classical.byContradiction λ z=>h' ⟨0,.stop λ ⟨r,c,C⟩=>z ⟨(r,c),C⟩⟩
 let St:={ S':Bo // Wf m q V S'/\¬ ∃ k,Ends m q S' k }
 let pk:(X:St)->Nat×Nat:=λ X=>(ch X.1 X.2.1 X.2.2).choose
 have pc:∀ X:St,Choice m q X.1 (pk X).1 (pk X).2:=λ X=>(ch X.1 X.2.1 X.2.2).choose_spec
 let nx:St->St:=λ X=>⟨piv X.1 (pk X).1 (pk X).2,X.2.1.pivot (pc X).hr (pc X).hc (pc X).pos (pc X).ratio,λ ⟨k,e⟩=>X.2.2 ⟨k+1,.go (pc X) e⟩⟩
 let sq:Nat->St:=λ k=>Nat.rec ⟨S,W,hn⟩ (λ _ X=>nx X) k
 exact Seq.never (S:=λ k=>(sq k).1) (R:=λ k=>(pk (sq k)).1) (C:=λ k=>(pk (sq k)).2) ⟨W,λ k=>pc (sq k),λ k=>rfl⟩ hM
def Vv (m q:Nat) (A:Nat->Nat->Int) (b c:Nat->Int):Nat->C4:=λ v x =>
 if v<q then (if x<m then A x v else if x=m then - c v else 0) else if v<q+m+1 then (if x=v - q then 1 else 0) else (if x<m then b x else 0)
def S0 (m q:Nat) (A:Nat->Nat->Int) (b c:Nat->Int):Bo where
 d:=1
 T:=λ i j=>if j<q then (if i<m then A i j else - c j) else (if i<m then b i else 0)
 ins:=λ i=>q+i
 outs:=λ j=>if j<q then j else q+m+1
section
variable {m q:Nat} {A:Nat->Nat->Int} {b c:Nat->Int}
theorem b2t {v x:Nat} (h:v<q):Vv m q A b c v x=if x<m then A x v else if x=m then - c v else 0:=by unfold Vv; rw [if_pos h]
theorem b4K {i:Nat} (h:i<m+1):Vv m q A b c (q+i)=unit i:=by
 funext x
 unfold Vv unit;rw [if_neg (by lia),if_pos (by lia),show q+i - q=i by lia]
theorem b3Z {x:Nat}:Vv m q A b c (q+m+1) x=if x<m then b x else 0:=by unfold Vv; rw [if_neg (by lia),if_neg (by lia)]
theorem b2e {v x:Nat} (h:m<x):Vv m q A b c v x=0:=by
 unfold Vv
 by_cases h1:v<q
 ·rw [if_pos h1,if_neg (by lia),if_neg (by lia)]
 ·rw [if_neg h1]
  by_cases h2:v<q+m+1
  ·rw [if_pos h2,if_neg (by lia)]
  ·rw [if_neg h2,if_neg (by lia)]
theorem Bs0:Bs m (Vv m q A b c) (S0 m q A b c).ins=(List.range (m+1)).map unit:=by
 unfold Bs;exact List.map_congr_left λ i hi=>b4K (List.mem_range.mp hi)
theorem a4J {n k:Nat} (h:k<n):((List.range n).map unit).getD k zv=unit k:=by rw [List.getD_eq_getElem?_getD,List.getElem?_map,List.getElem?_range h]; rfl
theorem a2V {n:Nat} {u:C4} (hu:∀ x,n<=x->u x=0) (x:Nat):sumTo (λ k=>u k*unit k x) n=u x:=by
 by_cases h:x<n
 ·rw [sum_one h λ k _ hn=>by show u k*(if x=k then 1 else 0)=0; rw [if_neg (Ne.symm hn),Int.mul_zero]]
  show u x*(if x=x then 1 else 0)=u x
  rw [if_pos rfl,Int.mul_one]
 ·rw [hu x (by lia)]
  refine sum_zero λ k hk=>?_
  show u k*(if x=k then 1 else 0)=0
  rw [if_neg (by lia),Int.mul_zero]
theorem a0w {n i:Nat} (hi:i<n) {u:C4} (hu:∀ x,n<=x->u x=0):A7 n (((List.range n).map unit).set i u)=u i:=by
 have hl:((List.range n).map unit).length=n:=by rw [List.length_map,List.length_range]
 have h:=a1t hl hi u unit n;have e:(λ x:Nat=>sumTo (λ k=>u k*unit k x) n)=u:=by funext x; exact a2V hu x
 rw [e,sum_one hi λ k hk hn=>?_] at h
 ·rw [h,<- a4J hi,P6 (by lia),a0C,Int.mul_one]
 ·have:A7 n (((List.range n).map unit).set i (unit k))=0:=by
   refine V7 (i:=k) (k:=i) (u:=unit k) (by rw [List.length_set]; exact hl) hn ?_ ?_
   ·rw [List.getElem?_set_ne (Ne.symm hn),List.getElem?_map,List.getElem?_range hk]; rfl
   ·rw [List.getElem?_set_self (by lia)]
  rw [this,Int.mul_zero]
theorem wf0 (hb:∀ i,i<m->0<=b i):Wf m q (Vv m q A b c) (S0 m q A b c):=by
 have far:∀ v x,m+1<=x->Vv m q A b c v x=0:=λ v x h=>b2e (by lia);refine ⟨?_,λ i j hi hj=>?_,λ j hj x=>?_,Int.one_pos,λ i hi=>?_,rfl,?_,λ i hi=>?_,λ j hj=>?_,λ i k hi hk e=>?_,λ j k hj hk e=>?_,λ i j hi hj e=>?_,λ v hv=>?_⟩
 ·rw [Bs0,a0C]; rfl
 ·rw [Bs0,a0w hi (far _)]
  show (if j<q then (if i<m then A i j else - c j) else (if i<m then b i else 0))=Vv m q A b c (if j<q then j else q+m+1) i
  by_cases h:j<q
  ·rw [if_pos h,if_pos h,b2t h]
   by_cases h2:i<m
   ·rw [if_pos h2,if_pos h2]
   ·rw [if_neg h2,if_neg h2,if_pos (by lia)]
  ·rw [if_neg h,if_neg h,b3Z]
 ·rw [Bs0,a0C,Int.one_mul]
  have e:sumTo (λ k=>A7 (m+1) (((List.range (m+1)).map unit).set k (Vv m q A b c ((S0 m q A b c).outs j)))*(((List.range (m+1)).map unit).getD k zv) x) (m+1)=sumTo (λ k=>Vv m q A b c ((S0 m q A b c).outs j) k*unit k x) (m+1) :=
   sum_congr λ k hk=>by rw [a0w hk (far _),a4J hk]
  rw [e,a2V (far _)]
 ·show 0<=(if q<q then _ else (if i<m then b i else 0))
  rw [if_neg (Nat.lt_irrefl _),if_pos hi]; exact hb i hi
 ·show (if q<q then q else q+m+1)=q+m+1
  rw [if_neg (Nat.lt_irrefl _)]
 ·show q+i<q+m; lia
 ·show (if j<q then j else q+m+1)<q+m
  rw [if_pos hj]; lia
 ·replace e:q+i=q+k:=e
  lia
 ·replace e:(if j<q then j else q+m+1)=(if k<q then k else q+m+1):=e
  rw [if_pos hj,if_pos hk] at e;exact e
 ·replace e:q+i=(if j<q then j else q+m+1):=e
  rw [if_pos hj] at e;lia
 ·by_cases h:v<q
  ·exact .inr ⟨v,h,if_pos h⟩
  ·exact .inl ⟨v - q,by lia,by show q+(v - q)=v; lia⟩
theorem ker0 {z:Nat->Int}:Ker m q (Vv m q A b c) (S0 m q A b c) z ↔ (∀ i,i<m->z (q+i)+sumTo (λ j=>A i j*z j) q+b i*z (q+m+1)=0)/\z (q+m)=sumTo (λ j=>c j*z j) q:=by
  have e:∀ x,sumTo (λ k=>z ((S0 m q A b c).ins k)*Vv m q A b c ((S0 m q A b c).ins k) x) (m+1)+sumTo (λ j=>z ((S0 m q A b c).outs j)*Vv m q A b c ((S0 m q A b c).outs j) x) (q+1)
     =(if x<m+1 then z (q+x) else 0)+(sumTo (λ j=>z j*Vv m q A b c j x) q+z (q+m+1)*(if x<m then b x else 0)):=λ x=>by
    have e1:sumTo (λ k=>z ((S0 m q A b c).ins k)*Vv m q A b c ((S0 m q A b c).ins k) x) (m+1)=if x<m+1 then z (q+x) else 0:=by
      have:sumTo (λ k=>z ((S0 m q A b c).ins k)*Vv m q A b c ((S0 m q A b c).ins k) x) (m+1)=sumTo (λ k=>z (q+k)*unit k x) (m+1):=sum_congr λ k hk=>by
        show z (q+k)*Vv m q A b c (q+k) x=_
        rw [b4K hk]
      rw [this]
      by_cases h:x<m+1
      . rw [if_pos h,sum_one h λ k _ hn=>by show z (q+k)*(if x=k then 1 else 0)=0; rw [if_neg (Ne.symm hn),Int.mul_zero]]
        show z (q+x)*(if x=x then 1 else 0)=_
        rw [if_pos rfl,Int.mul_one]
      . rw [if_neg h]
        refine sum_zero λ k hk=>?_
        show z (q+k)*(if x=k then 1 else 0)=0
        rw [if_neg (by lia),Int.mul_zero]
    have e2:sumTo (λ j=>z ((S0 m q A b c).outs j)*Vv m q A b c ((S0 m q A b c).outs j) x) (q+1)=sumTo (λ j=>z j*Vv m q A b c j x) q+z (q+m+1)*(if x<m then b x else 0):=by
      show sumTo (λ j=>z (if j<q then j else q+m+1)*Vv m q A b c (if j<q then j else q+m+1) x) q+z (if q<q then q else q+m+1)*Vv m q A b c (if q<q then q else q+m+1) x=_
      rw [if_neg (Nat.lt_irrefl _),b3Z];have:sumTo (λ j=>z (if j<q then j else q+m+1)*Vv m q A b c (if j<q then j else q+m+1) x) q=sumTo (λ j=>z j*Vv m q A b c j x) q:=sum_congr λ j hj=>by rw [if_pos hj]
      rw [this]
    rw [e1,e2]
  have am:∀ i,i<m->sumTo (λ j=>z j*Vv m q A b c j i) q=sumTo (λ j=>A i j*z j) q:=λ i hi=>sum_congr λ j hj=>by rw [b2t hj,if_pos hi,Int.mul_comm]
  have ob:sumTo (λ j=>z j*Vv m q A b c j m) q = - sumTo (λ j=>c j*z j) q:=by
    rw [show - sumTo (λ j=>c j*z j) q=(-1)*sumTo (λ j=>c j*z j) q by lia,<- y4];refine sum_congr λ j hj=>?_;rw [b2t hj,if_neg (Nat.lt_irrefl _),if_pos rfl,Int.mul_neg,Int.mul_comm];lia
  constructor
  . intro h
    refine ⟨λ i hi=>?_,?_⟩
    . have:=h i
      rw [e i,if_pos (by lia),if_pos hi,am i hi,Int.mul_comm (z (q+m+1))] at this;lia
    . have:=h m
      rw [e m,if_pos (by lia),if_neg (Nat.lt_irrefl _),ob,Int.mul_zero] at this;lia
  . rintro ⟨h1,h2⟩ x
    rw [e x]
    by_cases c1:x<m
    . have:=h1 x c1
      rw [if_pos (by lia),if_pos c1,am x c1,Int.mul_comm (z (q+m+1))];lia
    . by_cases c2:x=m
      . subst c2
        rw [if_pos (by lia),if_neg (Nat.lt_irrefl _),ob,Int.mul_zero];lia
      . rw [if_neg (by lia),if_neg c1,Int.mul_zero,sum_zero λ j hj=>by rw [b2e (by lia),Int.mul_zero]]
        rfl
end
def valIn (m:Nat) (S:Bo) (q v:Nat):Int:=sumTo (λ i=>if S.ins i=v then S.T i q else 0) m
def valOut (m q:Nat) (S:Bo) (v:Nat):Int:=sumTo (λ j=>if S.outs j=v then S.T m j else 0) q
theorem a5K {g:Nat->Int}:∀ {n:Nat},(∀ k,k<n->0<=g k)->0<=sumTo g n
 | 0,_=>Int.le_refl 0
 | n+1,h=>by
  have h1:=a5K (g:=g) (n:=n) λ k hk=>h k (by lia);have h2:=h n (by lia)
  show 0<=sumTo g n+g n
  lia
section
variable {m q:Nat} {A:Nat->Nat->Int} {b c:Nat->Int} {S:Bo}
structure Of (m q:Nat) (A:Nat->Nat->Int) (b c:Nat->Int) (S:Bo):Prop where
 w:Wf m q (Vv m q A b c) S
 k:∀ z,Ker m q (Vv m q A b c) S z ↔ Ker m q (Vv m q A b c) (S0 m q A b c) z
theorem of0 (hb:∀ i,i<m->0<=b i):Of m q A b c (S0 m q A b c):=⟨wf0 hb,λ _=>Iff.rfl⟩
theorem Of.piv (O:Of m q A b c S) {r cc:Nat} (C:Choice m q S r cc):Of m q A b c (Lp.piv S r cc) :=
 ⟨O.w.pivot C.hr C.hc C.pos C.ratio,λ z=>(Ker.piv C.hr C.hc).trans (O.k z)⟩
theorem Of.valIn_nn (O:Of m q A b c S) (v:Nat):0<=valIn m S q v:=a5K λ i hi=>by
 split
 ·exact O.w.feas i hi
 ·exact Int.le_refl 0
theorem Of.ray_val (O:Of m q A b c S) {v:Nat} (hv:v<q+m):ray m S q v = - valIn m S q v:=by
 unfold ray;rw [if_neg (by rw [O.w.oq]; lia)]
 show sumTo _ m+(if S.ins m=v then - S.T m q else 0)=_
 rw [if_neg (by rw [O.w.im]; lia),Int.add_zero];unfold valIn;rw [show - sumTo (λ i=>if S.ins i=v then S.T i q else 0) m=(-1)*sumTo (λ i=>if S.ins i=v then S.T i q else 0) m by lia,<- y4];refine sum_congr λ i _=>?_
 split <;> lia
theorem Of.primal (O:Of m q A b c S):(∀ i,i<m->sumTo (λ j=>A i j*valIn m S q j) q+valIn m S q (q+i)=b i*S.d)/\sumTo (λ j=>c j*valIn m S q j) q=S.T m q:=by
 have K:=(ker0.mp ((O.k _).mp (O.w.ray_ker (show q<q+1 by lia))));have co:ray m S q (q+m+1)=S.d:=by rw [<- O.w.oq]; exact Wf.ray_c
 have oo:ray m S q (q+m) = - S.T m q:=by rw [<- O.w.im]; exact O.w.ray_in (by lia) (by lia)
 have am:∀ g:Nat->Int,sumTo (λ j=>g j*ray m S q j) q = - sumTo (λ j=>g j*valIn m S q j) q:=λ g=>by
  rw [show - sumTo (λ j=>g j*valIn m S q j) q=(-1)*sumTo (λ j=>g j*valIn m S q j) q by lia,<- y4];refine sum_congr λ j hj=>?_;rw [O.ray_val (by lia),Int.mul_neg];lia
 refine ⟨λ i hi=>?_,?_⟩
 ·have:=K.1 i hi
  rw [O.ray_val (by lia),am,co] at this;lia
 ·have:=K.2
  rw [oo,am] at this;lia
theorem Of.valOut_nn (h:∀ j,j<q->0<=S.T m j) (v:Nat):0<=valOut m q S v:=a5K λ j hj=>by
 split
 ·exact h j hj
 ·exact Int.le_refl 0
theorem a8z (O:Of m q A b c S) (z:Nat->Int):sumTo (λ j=>S.T m j*z (S.outs j)) q=sumTo (λ v=>valOut m q S v*z v) (q+m):=by
 have e:∀ v,v<q+m->valOut m q S v*z v=sumTo (λ j=>(if S.outs j=v then S.T m j else 0)*z v) q:=λ v _=>by
  unfold valOut;rw [Int.mul_comm,<- y4];exact sum_congr λ j _=>Int.mul_comm _ _
 rw [sum_congr e,V3];refine sum_congr λ j hj=>?_;rw [sum_one (O.w.ob j hj) λ v _ hn=>by rw [if_neg (Ne.symm hn),Int.zero_mul],if_pos rfl]
theorem Of.row_goal (O:Of m q A b c S) {z:Nat->Int} (h:Ker m q (Vv m q A b c) (S0 m q A b c) z):S.d*z (q+m)+sumTo (λ v=>valOut m q S v*z v) (q+m)+S.T m q*z (q+m+1)=0:=by
 have R:=O.w.row_of ((O.k z).mpr h) (show m<m+1 by lia);unfold a1O at R
 replace R:S.d*z (S.ins m)+(sumTo (λ j=>S.T m j*z (S.outs j)) q+S.T m q*z (S.outs q))=0:=R
 rw [O.w.im,O.w.oq,a8z O] at R;lia
theorem a0O {g:Nat->Int} (n:Nat):∀ k:Nat,sumTo g (n+k)=sumTo g n+sumTo (λ i=>g (n+i)) k
 | 0=>(Int.add_zero _).symm
 | k+1=>by
  show sumTo g (n+k)+g (n+k)=sumTo g n+(sumTo (λ i=>g (n+i)) k+g (n+k))
  rw [a0O n k];lia
theorem Of.dual (O:Of m q A b c S):(∀ j,j<q->sumTo (λ i=>A i j*valOut m q S (q+i)) m=c j*S.d+valOut m q S j)/\sumTo (λ i=>b i*valOut m q S (q+i)) m=S.T m q:=by
 constructor
 ·intro j hj
  have hk:Ker m q (Vv m q A b c) (S0 m q A b c) (λ v=>if v<q then (if v=j then 1 else 0) else if v<q+m then - A (v - q) j else if v=q+m then c j else 0):=by
   refine ker0.mpr ⟨λ i hi=>?_,?_⟩
   ·rw [if_neg (by lia),if_pos (by lia),show q+i - q=i by lia,if_neg (by lia),if_neg (by lia),if_neg (by lia),Int.mul_zero,sum_one hj λ k hk hn=>by rw [if_pos hk,if_neg hn,Int.mul_zero],if_pos hj,if_pos rfl]
    lia
   ·rw [if_neg (by lia),if_neg (by lia),if_pos rfl,sum_one hj λ k hk hn=>by rw [if_pos hk,if_neg hn,Int.mul_zero],if_pos hj,if_pos rfl]
    lia
  have R:=O.row_goal hk;rw [if_neg (by lia),if_neg (by lia),if_pos rfl,if_neg (by lia),if_neg (by lia),if_neg (by lia),Int.mul_zero,a0O,sum_one hj λ k hk hn=>by rw [if_pos hk,if_neg hn,Int.mul_zero],if_pos hj,if_pos rfl] at R;have e:sumTo (λ i=>valOut m q S (q+i)*(if q+i<q then (if q+i=j then 1 else 0) else if q+i<q+m then - A (q+i - q) j else if q+i=q+m then c j else 0)) m = - sumTo (λ i=>A i j*valOut m q S (q+i)) m:=by
   rw [show - sumTo (λ i=>A i j*valOut m q S (q+i)) m=(-1)*sumTo (λ i=>A i j*valOut m q S (q+i)) m by lia,<- y4];refine sum_congr λ i hi=>?_;rw [if_neg (by lia),if_pos (by lia),show q+i - q=i by lia,Int.mul_neg,Int.mul_comm];lia
  rw [e,Int.mul_comm S.d] at R;lia
 ·have hk:Ker m q (Vv m q A b c) (S0 m q A b c) (λ v=>if v<q then 0 else if v<q+m then b (v - q) else if v=q+m then 0 else -1):=by
   refine ker0.mpr ⟨λ i hi=>?_,?_⟩
   ·rw [if_neg (by lia),if_pos (by lia),show q+i - q=i by lia,if_neg (by lia),if_neg (by lia),if_neg (by lia),sum_zero λ k hk=>by rw [if_pos hk,Int.mul_zero]]
    lia
   ·rw [if_neg (by lia),if_neg (by lia),if_pos rfl,sum_zero λ k hk=>by rw [if_pos hk,Int.mul_zero]]
  have R:=O.row_goal hk;rw [if_neg (by lia),if_neg (by lia),if_pos rfl,if_neg (by lia),if_neg (by lia),if_neg (by lia),Int.mul_zero,a0O,sum_zero λ k hk=>by rw [if_pos hk,Int.mul_zero]] at R;have e:sumTo (λ i=>valOut m q S (q+i)*(if q+i<q then 0 else if q+i<q+m then b (q+i - q) else if q+i=q+m then 0 else -1)) m=sumTo (λ i=>b i*valOut m q S (q+i)) m :=
   sum_congr λ i hi=>by rw [if_neg (by lia),if_pos (by lia),show q+i - q=i by lia,Int.mul_comm]
  rw [e] at R;lia
end
end Lp
namespace Rim
open PySem L2
def top (i:Nat):Stmt:=PySem.Challenge.pw_rimhouse_k30_whole_standings_and_levels.main.body.getD i (.Pass ⟨0,0,0,0⟩)
abbrev b3F:Stmt:=top 2
abbrev b2E:Stmt:=top 3
abbrev b3L:Stmt:=top 10
abbrev a5u:Stmt:=top 14
abbrev K2:Stmt:=top 16
abbrev P5:Stmt:=top 19
abbrev X6:Stmt:=top 20
abbrev a9r:Stmt:=top 23
abbrev a5S:Stmt:=top 24
abbrev a2s:Stmt:=top 12
abbrev a3q:Stmt:=top 26
abbrev a0N:Stmt:=top 21
abbrev a5W:Stmt:=top 35
abbrev Z1:Stmt:=top 37
abbrev a9q:Stmt:=top 39
abbrev a6b:Stmt:=top 40
abbrev a9z:Stmt:=top 42
abbrev a1b:Stmt:=top 43
abbrev a8s:Stmt:=top 48
abbrev a1r:Stmt:=top 50
abbrev a0m:Stmt:=top 4
abbrev J4:Stmt:=top 5
abbrev a3B:Stmt:=top 28
abbrev K4:Stmt:=top 29
abbrev N6:Stmt:=top 31
abbrev K8:Stmt:=top 32
abbrev K9:Stmt:=top 33
abbrev B6:Stmt:=top 49
abbrev a0h:Stmt:=top 15
abbrev a4t:Stmt:=U8 a0h 0
abbrev a3k:Stmt:=U8 a0h 1
abbrev a5T:Stmt:=U8 a0h 2
abbrev a5B:Stmt:=U8 a0h 3
abbrev O3:Stmt:=U8 a0h 4
abbrev a8F:Stmt:=U8 a0h 5
abbrev b2N:Stmt:=U8 a0h 6
abbrev a1R:Pos:=⟨60,32,60,64⟩
structure x9 (mg:Str->Option Value):Prop where
 len:mg "len"=none
 all:mg "all"=none
 any:mg "any"=none
 max:mg "max"=none
 min:mg "min"=none
 sum:mg "sum"=none
 tuple:mg "tuple"=none
 list:mg "list"=none
 int:mg "int"=none
 bool:mg "bool"=none
 range:mg "range"=none
 isi:mg "isinstance"=none
 abs:mg "abs"=none
 zip:mg "zip"=none
 enum:mg "enumerate"=none
 ve:mg "ValueError"=none
 so:mg "sorted"=none
theorem Q9 (K:W.Frag) {X:Cx} (h:X.K=K):IxR X (b3Y K):=by subst h; exact i7
theorem N7 (K:W.Frag) {X:Cx} {es:List Expr} {k:Nat} {t:TGs} {n:Nat} {pos:Pos} (h:X.K=K) (hc:X.calm=true) (hp:PGs X es t) (hn:(assignEach es X.env).length=n:=by rfl) (hst:(assignEach es X.env).findIdx? (·.1)=none:=by rfl):PG X (.Tuple es k pos) (a5x K n t):=by subst h; exact a0e hc hp hn hst
def b4o (K:W.Frag):List V->Hp->VK->Prop:=λ xs H Q=>∃ p ys,xs=[.ref p]/\(SqL K H p ys\/SqT K H p ys)/\∀ l,H l=none->Q (.ref l) (upd H l (.lst ys))
theorem a6U (K:W.Frag) {X:Cx} (h:X.K=K):O1 X (.type "list") (b4o K):=by subst h; exact D3
def vI:V->Int
 | .int i=>i
 | _=>0
theorem K5 {ns:List Int} {i:Nat} {x:V} (h:(ns.map V.int)[i]?=some x):∃ k,x=.int k:=by
 rw [List.getElem?_map] at h
 cases hn:ns[i]? with
 | none=>rw [hn] at h; cases h
 | some k=>rw [hn] at h; cases h; exact ⟨k,rfl⟩
theorem b2d {N:VK} {b b':Bool} {H:Hp} (h:N (.bl b) H) (e:b'=b):N (.bl b') H:=by rw [e]; exact h
abbrev h8:=List Int×List Int
def HS (K:W.Frag) (H:Hp) (v:V) (h:h8):Prop:=∃ a t g,v=.ref a/\SqT K H a [.ref t,.ref g]/\SqT K H t (h.1.map V.int)/\SqT K H g (h.2.map V.int)
abbrev Bk (K:W.Frag) (H:Hp):List V->List h8->Prop:=PySem.Paired (HS K H)
theorem HS.same {K:W.Frag} {H H':Hp} {v:V} {h:h8} (e:Same H H') (x:HS K H v h):HS K H' v h:=by
 obtain ⟨a,t,g,h0,h1,h2,h3⟩:=x;exact ⟨a,t,g,h0,e.tseq h1,e.tseq h2,e.tseq h3⟩
theorem Bk.same {K:W.Frag} {H H':Hp} {vs:List V} {hs:List h8} (e:Same H H') (x:Bk K H vs hs):Bk K H' vs hs:=Paired.imp' (λ _ _ r=>HS.same e r) x
theorem Paired.at {α β:Type} {F:α->β->Prop}:∀ {l₁:List α} {l₂:List β},PySem.Paired F l₁ l₂->∀ {i:Nat} {x:α},l₁[i]?=some x->∃ y,l₂[i]?=some y/\F x y
 | _,_,.nil,_,_,e=>by simp at e
 | _,_,.cons r _,0,_,e=>by simp at e; subst e; exact ⟨_,rfl,r⟩
 | _,_,.cons _ t,i+1,x,e=>by
  obtain ⟨y,h1,h2⟩:=Paired.at t (i:=i) (x:=x) (by simpa using e);exact ⟨y,by simpa using h1,h2⟩
def w8 (q:Nat) (S:Lp.Bo) (i:Nat):List Int:=(List.range (q+1)).map (S.T i)
def J7 (q:Nat) (S:Lp.Bo):List Int:=(List.range q).map λ j=>(S.outs j:Int)
def Q0 (m:Nat) (S:Lp.Bo):List Int:=(List.range m).map λ i=>(S.ins i:Int)
abbrev bdF (q:Nat) (d:Int) (ca oa ia:Addr):List (Str×V):=[("many",.int q),("scale",.int d),("cells",.ref ca),("outs",.ref oa),("ins",.ref ia)]
structure Bd (C:Addr) (H:Hp) (p dx ca oa ia:Addr) (rs:List Addr) (m q:Nat) (S:Lp.Bo):Prop where
 obj:H p=some (.ins C dx (bdF q S.d ca oa ia))
 cel:H ca=some (.lst (rs.map V.ref))
 len:rs.length=m+1
 row:∀ i r,rs[i]?=some r->H r=some (.lst ((w8 q S i).map V.int))
 out:H oa=some (.lst ((J7 q S).map V.int))
 inn:H ia=some (.lst ((Q0 m S).map V.int))
 ne:oa≠ia
structure TB (K:W.Frag) (C:Addr):Prop where
 cl:Cls K C
 nM:NoAttr K C "many"
 nS:NoAttr K C "scale"
 nC:NoAttr K C "cells"
 nO:NoAttr K C "outs"
 nI:NoAttr K C "ins"
section
variable {C:Addr} {H H':Hp} {p dx ca oa ia:Addr} {rs:List Addr} {m q:Nat} {S:Lp.Bo}
theorem Bd.rs_at (B:Bd C H p dx ca oa ia rs m q S) {i:Nat} (h:i<m+1):∃ r,rs[i]?=some r/\atI (rs.map V.ref) (i:Int)=some (.ref r):=by
 have h':i<rs.length:=by rw [B.len]; exact h
 refine ⟨rs[i],List.getElem?_eq_getElem h',t9 ?_⟩;rw [List.getElem?_map,List.getElem?_eq_getElem h']; rfl
theorem Y7 {i j:Nat} (h:j<q+1):atI ((w8 q S i).map V.int) (j:Int)=some (.int (S.T i j)):=t9 (by
 unfold w8;rw [List.getElem?_map,List.getElem?_map,List.getElem?_range h]; rfl)
theorem a7f {α:Type} {xs:List α} {n:Nat} {v:α} (hl:xs.length=n+1) (h:xs[n]?=some v):atI xs (-1)=some v:=by
 have e:ixN xs.length (-1)=some n:=by
  unfold ixN;rw [hl,if_neg (by decide),if_pos (by lia)]
  congr 1
  lia
 unfold atI; rw [e]; exact h
theorem Y4 {i:Nat}:atI ((w8 q S i).map V.int) (-1)=some (.int (S.T i q)):=a7f (n:=q) (by unfold w8; simp) (by
 unfold w8;rw [List.getElem?_map,List.getElem?_map,List.getElem?_range (Nat.lt_succ_self _)]; rfl)
theorem Bd.rs_last (B:Bd C H p dx ca oa ia rs m q S):∃ r,rs[m]?=some r/\atI (rs.map V.ref) (-1)=some (.ref r):=by
 have h':m<rs.length:=by rw [B.len]; exact Nat.lt_succ_self _
 refine ⟨rs[m],List.getElem?_eq_getElem h',a7f (n:=m) (by simpa using B.len) ?_⟩;rw [List.getElem?_map,List.getElem?_eq_getElem h']; rfl
theorem a1v {i:Nat} (h:i<m):atI ((Q0 m S).map V.int) (i:Int)=some (.int (S.ins i)):=t9 (by
 unfold Q0;rw [List.getElem?_map,List.getElem?_map,List.getElem?_range h]; rfl)
theorem a1V {j:Nat} (h:j<q):atI ((J7 q S).map V.int) (j:Int)=some (.int (S.outs j)):=t9 (by
 unfold J7;rw [List.getElem?_map,List.getElem?_map,List.getElem?_range h]; rfl)
theorem Bd.same1 {P:Addr} (B:Bd C H p dx ca oa ia rs m q S) (e:∀ b o,H b=some o->(∀ ps,o≠.tbl ps)->H' b=some o):Bd C H' p dx ca oa ia rs m q S :=
 ⟨e _ _ B.obj λ _=>nofun,e _ _ B.cel λ _=>nofun,B.len,λ i r h=>e _ _ (B.row i r h) λ _=>nofun,e _ _ B.out λ _=>nofun,e _ _ B.inn λ _=>nofun,B.ne⟩
def Sz (n m q:Nat) (S:Lp.Bo):Prop:=(∀ i j,i<m+1->j<q+1->Big n (S.T i j))/\Big n S.d
end
section
variable {P:Program} {w:World} {K:W.Frag} {mg:Str->Option Value} {base:Heap} {f:Addr} {fd:FuncData} {n:Nat} {C:Addr}
theorem a9Z {a b:Nat} {x:Int} (h:Big a x) (hab:a<=b):Big b x:=Nat.lt_of_lt_of_le h (Nat.pow_le_pow_right (by decide) hab)
def a0S (q:Nat) (S:Lp.Bo) (i o c:Nat):Bool:=if S.T i q*S.T o c=S.T o q*S.T i c then decide (S.ins i<S.ins o) else decide (S.T i q*S.T o c<S.T o q*S.T i c)
def a6o (C:Addr):Sp:=λ vs H Q _=>∃ (p dx ca oa ia:Addr) (rs:List Addr) (m q:Nat) (S:Lp.Bo) (i o c:Nat),vs=[.ref p,.int i,.int o,.int c]/\Bd C H p dx ca oa ia rs m q S/\Sz 4000 m q S/\i<m/\o<m/\c<q+1/\Q (.bl (a0S q S i o c)) H
theorem scAhead:m8 ["self","row","other","column","left","right"] ["self","row","other","column"] (i5 a5B):=⟨rfl,rfl,rfl,by decide +kernel,rfl,by decide +kernel,by decide +kernel⟩
theorem a9p (F:Fun K "is_ahead" "Board.is_ahead" a5B f fd) (T:TB K C):FnOk P w K mg base G5 (n+1) f fd ["self","row","other","column"] (a6o C):=by
 refine F.ok scAhead (λ vs H Q E h=>?_) (λ cdv A outer s H vs Q E hr h=>?_)
 ·obtain ⟨p,dx,ca,oa,ia,rs,m,q,S,i,o,c,rfl,_⟩:=h
  rfl
 obtain ⟨p,dx,ca,oa,ia,rs,m,q,S,i,o,c,rfl,B,hz,hi,ho,hc,k⟩:=h;refine ⟨_,i4 (j4 (i:=4) scAhead.nd rfl (Or.inl rfl) (i8 L0 (j3 i7 (j3 i7 (v5 (pv 0) rfl) (pv 1) (λ _ _=>rfl)) (S3 K6 i3) (λ _ _=>rfl)) (j3 i7 (j3 i7 (v5 (pv 0) rfl) (pv 2) (λ _ _=>rfl)) (pv 3) (λ _ _=>rfl))))
  (i4 (j4 (i:=5) scAhead.nd rfl (Or.inl rfl) (i8 L0 (j3 i7 (j3 i7 (v5 (pv 0) rfl) (pv 2) (λ _ _=>rfl)) (S3 K6 i3) (λ _ _=>rfl)) (j3 i7 (j3 i7 (v5 (pv 0) rfl) (pv 1) (λ _ _=>rfl)) (pv 3) (λ _ _=>rfl))))
  (i4 (A6 (m9 a2K (pv 4) (pv 5) (r6 _)) (i6 (r9 (Q4 Z8 (j3 i7 (v5 (pv 0) rfl) (pv 1) (λ _ _=>rfl)) (j3 i7 (v5 (pv 0) rfl) (pv 2) (λ _ _=>rfl)) (r6 _)))) t7)
  (i6 (r9 (Q4 Z8 (pv 4) (pv 5) (r6 _)))))),?_⟩
 obtain ⟨ri,ei,ai⟩:=B.rs_at (i:=i) (by lia);obtain ⟨ro,eo,ao⟩:=B.rs_at (i:=o) (by lia);have bi:=SqL.of (K:=K) (B.row i ri ei);have bo:=SqL.of (K:=K) (B.row o ro eo);have z:∀ i j,i<m+1->j<q+1->Big 1000000 (S.T i j):=λ i j h1 h2=>a9Z (hz.1 i j h1 h2) (by decide);refine ⟨_,rfl,p,C,dx,_,_,rfl,B.obj,T.cl,T.nC,rfl,_,rfl,ca,_,_,_,rfl,rfl,SqL.of B.cel,ai,_,rfl,ri,_,_,_,rfl,rfl,bi,Y4,?_⟩;refine ⟨_,rfl,p,C,dx,_,_,rfl,B.obj,T.cl,T.nC,rfl,_,rfl,ca,_,_,_,rfl,rfl,SqL.of B.cel,ao,_,rfl,ro,_,_,_,rfl,rfl,bo,Y7 hc,_,_,rfl,rfl,⟨z _ _ (by lia) (by lia),z _ _ (by lia) (by lia)⟩,?_⟩;refine ⟨_,rfl,p,C,dx,_,_,rfl,B.obj,T.cl,T.nC,rfl,_,rfl,ca,_,_,_,rfl,rfl,SqL.of B.cel,ao,_,rfl,ro,_,_,_,rfl,rfl,bo,Y4,?_⟩;refine ⟨_,rfl,p,C,dx,_,_,rfl,B.obj,T.cl,T.nC,rfl,_,rfl,ca,_,_,_,rfl,rfl,SqL.of B.cel,ai,_,rfl,ri,_,_,_,rfl,rfl,bi,Y7 hc,_,_,rfl,rfl,⟨z _ _ (by lia) (by lia),z _ _ (by lia) (by lia)⟩,?_⟩;refine ⟨_,rfl,_,rfl,rfl,_,rfl,?_⟩;unfold a0S at k;refine D9 (λ e=>?_) (λ e=>?_)
 ·have e':S.T i q*S.T o c=S.T o q*S.T i c:=by simpa using e
  rw [if_pos e'] at k;refine ⟨_,rfl,p,C,dx,_,_,rfl,B.obj,T.cl,T.nI,rfl,_,rfl,ia,_,_,_,rfl,rfl,SqL.of B.inn,a1v hi,_,rfl,p,C,dx,_,_,rfl,B.obj,T.cl,T.nI,rfl,_,rfl,ia,_,_,_,rfl,rfl,SqL.of B.inn,a1v ho,_,_,rfl,rfl,?_⟩;refine b2d k ?_;simp
 ·have e':¬ S.T i q*S.T o c=S.T o q*S.T i c:=by simpa using e
  rw [if_neg e'] at k;exact ⟨_,rfl,_,rfl,_,_,rfl,rfl,k⟩
end
structure a7W (P:Program) (w:World) (K:W.Frag) (mg:Str->Option Value) (base:Heap) (n:Nat) (C:Addr) (m:Str) (ps:List Str) (sp:Sp) (f:Addr) (fd:FuncData):Prop where
 ok:FnOk P w K mg base G5 n f fd ps sp
 bd:Binds K fd ps []
 me:b1s K C m f
def Bet (q:Nat) (S:Lp.Bo) (c r i:Nat):Prop:=S.T r q*S.T i c<=S.T i q*S.T r c/\(S.T r q*S.T i c=S.T i q*S.T r c->S.ins r<=S.ins i)
theorem a8e {ar cr ab cb ai ci:Int} (h1:ar*cb<=ab*cr) (h2:ab*ci<=ai*cb) (pr:0<cr) (pb:0<cb) (pi:0<ci):ar*ci<=ai*cr/\(ar*ci=ai*cr->ar*cb=ab*cr/\ab*ci=ai*cb):=by
 have e1:ar*cb*ci<=ab*cr*ci:=Int.mul_le_mul_of_nonneg_right h1 (Int.le_of_lt pi);have e2:ab*ci*cr<=ai*cb*cr:=Int.mul_le_mul_of_nonneg_right h2 (Int.le_of_lt pr);have x1:ar*cb*ci=ar*ci*cb:=by rw [Int.mul_assoc,Int.mul_comm cb ci,<- Int.mul_assoc]
 have x2:ab*cr*ci=ab*ci*cr:=by rw [Int.mul_assoc,Int.mul_comm cr ci,<- Int.mul_assoc]
 have x3:ai*cb*cr=ai*cr*cb:=by rw [Int.mul_assoc,Int.mul_comm cb cr,<- Int.mul_assoc]
 rw [x1] at e1;rw [x3] at e2;refine ⟨Int.le_of_mul_le_mul_right (a:=cb) (by lia) pb,λ e=>?_⟩;rw [e] at e1;refine ⟨Int.eq_of_mul_eq_mul_right (a:=ci) (by omega) (by rw [x1,e]; omega),Int.eq_of_mul_eq_mul_right (a:=cr) (by omega) (by rw [x3]; omega)⟩
theorem Bet.trans {q:Nat} {S:Lp.Bo} {c r b i:Nat} (h1:Bet q S c r b) (h2:Bet q S c b i) (pr:0<S.T r c) (pb:0<S.T b c) (pi:0<S.T i c):Bet q S c r i:=by
 obtain ⟨a,t⟩:=a8e h1.1 h2.1 pr pb pi;exact ⟨a,λ e=>Nat.le_trans (h1.2 (t e).1) (h2.2 (t e).2)⟩
theorem a7Q {q:Nat} {S:Lp.Bo} {c r b:Nat} (h:a0S q S r b c=true):Bet q S c r b:=by
 unfold a0S at h
 by_cases e:S.T r q*S.T b c=S.T b q*S.T r c
 ·rw [if_pos e] at h
  exact ⟨Int.le_of_eq e,λ _=>Nat.le_of_lt (of_decide_eq_true h)⟩
 ·rw [if_neg e] at h
  have:=of_decide_eq_true h;exact ⟨Int.le_of_lt this,λ z=>absurd z e⟩
theorem b1K {q:Nat} {S:Lp.Bo} {c r b:Nat} (h:a0S q S r b c=false):Bet q S c b r:=by
 unfold a0S at h
 by_cases e:S.T r q*S.T b c=S.T b q*S.T r c
 ·rw [if_pos e] at h
  exact ⟨Int.le_of_eq e.symm,λ _=>Nat.le_of_not_lt (of_decide_eq_false h)⟩
 ·rw [if_neg e] at h
  have:=of_decide_eq_false h;exact ⟨by lia,λ z=>absurd z.symm e⟩
section
variable {P:Program} {w:World} {K:W.Frag} {mg:Str->Option Value} {base:Heap} {f g:Addr} {fd gd:FuncData} {n:Nat} {C:Addr}
def a6t (C:Addr):Sp:=λ vs H Q _=>∃ (p dx ca oa ia:Addr) (rs:List Addr) (m q:Nat) (S:Lp.Bo) (c:Nat),vs=[.ref p,.int c]/\Bd C H p dx ca oa ia rs m q S/\Sz 4000 m q S/\m<1000/\c<q+1 ∧
 ((∀ i,i<m->¬ 0<S.T i c)->Q .non H)/\∀ r,r<m->0<S.T r c->(∀ i,i<m->0<S.T i c->Bet q S c r i)->Q (.int r) H
theorem scGoing:m8 ["self","column","best","row"] ["self","column"] (i5 a5T):=⟨rfl,rfl,rfl,by decide +kernel,rfl,by decide +kernel,by decide +kernel⟩
theorem a8L (F:Fun K "going" "Board.going" a5T f fd) (N:x9 mg) (T:TB K C) (A1:a7W P w K mg base n C "is_ahead" ["self","row","other","column"] (a6o C) g gd):FnOk P w K mg base G5 (n+1) f fd ["self","column"] (a6t C):=by
 refine F.ok scGoing (λ vs H Q E h=>?_) (λ cdv A outer s H vs Q E hr h=>?_)
 ·obtain ⟨p,dx,ca,oa,ia,rs,m,q,S,c,rfl,_⟩:=h
  rfl
 obtain ⟨p,dx,ca,oa,ia,rs,m,q,S,c,rfl,B,hz,hm,hc,kN,kI⟩:=h;refine ⟨_,i4 (j4 (i:=2) scGoing.nd rfl (Or.inl rfl) N9)
  (i4 (P4 PassesOwn.never rfl (K3 rfl N.range (c5 (m6 j6 rfl N.len PySem.boot_len (c5 (v5 (pv 0) rfl) c6)) c6)) (i9 (i:=3) scGoing.nd rfl (Or.inl rfl))
   (i6 (A6 (PW.pt (a5V (m9 a0q (j3 i7 (j3 i7 (v5 (pv 0) rfl) (pv 3) (λ _ _=>rfl)) (pv 1) (λ _ _=>rfl)) i3 (r6 _))
     (a3s (PW.pt (b1R (m9 a0X (pv 2) N9 (r6 _)) (a9N (a5O (a3p (pv 0) T.cl A1.me A1.ok hr A1.bd .nil w4 (c5 (pv 3) (c5 (pv 2) (c5 (pv 1) c6)))))))))))
    (i6 (j4 (i:=2) scGoing.nd rfl (Or.inl rfl) (pv 3))) t7)))
  (i6 (r9 (pv 2)))),?_⟩
 have lm:((Q0 m S).map V.int).length=m:=by unfold Q0; simp
 refine ⟨_,rfl,p,C,dx,_,_,rfl,B.obj,T.cl,T.nI,rfl,ia,_,rfl,.inl (SqL.of B.inn),_,rfl,(by rw [lm]; lia),(by rw [lm]; lia),?_⟩;rw [lm,Int.toNat_natCast];refine Y2 (n:=m) (λ k σ H'=>∃ (b o3:Option V),σ=[some (.ref p),some (.int c),b,o3]/\H'=H/\((b=some .non/\∀ i,i<k->¬ 0<S.T i c)\/∃ r:Nat,b=some (.int r)/\r<k/\0<S.T r c/\∀ i,i<k->0<S.T i c->Bet q S c r i))
  ⟨_,_,rfl,rfl,.inl ⟨rfl,λ i hi=>absurd hi (Nat.not_lt_zero _)⟩⟩ (λ k σ H' hk hP=>?_) λ σ H' hP=>?_
 ·obtain ⟨b,o3,rfl,rfl,hb⟩:=hP
  obtain ⟨rk,ek,ak⟩:=B.rs_at (i:=k) (by lia);have zk:(0:Int)+(k:Int)=(k:Int):=Int.zero_add _;rw [zk];refine ⟨_,rfl,p,C,dx,_,_,rfl,B.obj,T.cl,T.nC,rfl,_,rfl,ca,_,_,_,rfl,rfl,SqL.of B.cel,ak,_,rfl,rk,_,_,_,rfl,rfl,SqL.of (B.row k rk ek),Y7 hc,_,_,rfl,rfl,_,rfl,?_⟩;have keep:¬ 0<S.T k c->((b=some .non/\∀ i,i<k+1->¬ 0<S.T i c)\/∃ r:Nat,b=some (.int r)/\r<k+1/\0<S.T r c/\∀ i,i<k+1->0<S.T i c->Bet q S c r i):=λ hn=>by
   rcases hb with ⟨e,hb⟩ | ⟨r,e,h1,h2,h3⟩
   ·refine .inl ⟨e,λ i hi=>?_⟩
    by_cases z:i=k
    ·subst z; exact hn
    ·exact hb i (by lia)
   ·refine .inr ⟨r,e,by lia,h2,λ i hi hp=>?_⟩
    by_cases z:i=k
    ·subst z; exact absurd hp hn
    ·exact h3 i (by lia) hp
  refine D9 (λ d=>?_) (λ d=>?_)
  ·have d':0<S.T k c:=of_decide_eq_true d
   rcases hb with ⟨rfl,hb⟩ | ⟨r,rfl,h1,h2,h3⟩
   ·refine ⟨_,rfl,rfl,_,rfl,?_⟩
    refine D9 (λ _=>?_) (λ z=>absurd (decide_eq_true rfl) z);refine a7V ?_;refine ⟨_,rfl,⟨_,_,rfl,rfl,.inr ⟨k,rfl,by lia,d',λ i hi hp=>?_⟩⟩⟩
    by_cases z:i=k
    ·subst z; exact ⟨Int.le_refl _,λ _=>Nat.le_refl _⟩
    ·exact absurd hp (hb i (by lia))
   ·refine ⟨_,rfl,rfl,_,rfl,?_⟩
    refine D9 (λ z=>absurd (of_decide_eq_true z) (by nofun)) (λ _=>?_);refine ⟨_,rfl,p,dx,_,rfl,B.obj,rfl,_,rfl,_,rfl,_,rfl,?_⟩;refine ⟨p,dx,ca,oa,ia,rs,m,q,S,k,r,c,rfl,B,hz,hk,by lia,hc,_,rfl,?_⟩;refine D9 (λ e=>?_) (λ e=>?_)
    ·have bt:=a7Q e
     refine ⟨_,rfl,⟨_,_,rfl,rfl,.inr ⟨k,rfl,by lia,d',λ i hi hp=>?_⟩⟩⟩
     by_cases z:i=k
     ·subst z; exact ⟨Int.le_refl _,λ _=>Nat.le_refl _⟩
     ·exact bt.trans (h3 i (by lia) hp) d' h2 hp
    ·have bt:=b1K (Bool.eq_false_iff.mpr e)
     refine ⟨_,_,rfl,rfl,.inr ⟨r,rfl,by lia,h2,λ i hi hp=>?_⟩⟩
     by_cases z:i=k
     ·subst z; exact bt
     ·exact h3 i (by lia) hp
  ·have d':¬ 0<S.T k c:=λ z=>d (decide_eq_true z)
   exact ⟨_,_,rfl,rfl,keep d'⟩
 ·obtain ⟨b,o3,rfl,rfl,hb⟩:=hP
  rcases hb with ⟨rfl,hb⟩ | ⟨r,rfl,h1,h2,h3⟩
  ·exact ⟨_,rfl,kN hb⟩
  ·exact ⟨_,rfl,kI r h1 h2 h3⟩
end
abbrev a8V:Str:=("Board.coming"++".<locals>.")++"<lambda>"
abbrev LT (Pt:Addr) (H:Hp):Prop:=LamTab Pt a1R a8V H
section
variable {P:Program} {w:World} {K:W.Frag} {mg:Str->Option Value} {base:Heap} {f g c Pt:Addr} {fd gd:FuncData} {n:Nat} {C:Addr}
def a1W (C Pt:Addr):Sp:=λ vs H Q _=>∃ (p dx ca oa ia:Addr) (rs:List Addr) (m q:Nat) (S:Lp.Bo),vs=[.ref p]/\Bd C H p dx ca oa ia rs m q S/\q<1000/\LT Pt H ∧
 ∀ H',Same1 Pt H H'->LT Pt H'->((∀ j,j<q->¬ S.T m j<0)->Q .non H')/\∀ j,j<q->S.T m j<0->(∀ i,i<q->S.T m i<0->S.outs j<=S.outs i)->Q (.int j) H'
theorem scComing:m8 ["self","columns"] ["self"] (i5 a3k):=⟨rfl,rfl,rfl,by decide +kernel,rfl,by decide +kernel,by decide +kernel⟩
theorem b4y:(["column","self"]:List Str).Nodup:=by decide +kernel
theorem LamTab.new {Pt a:Addr} {pos:Pos} {qual:Str} {H:Hp} {o:HO} (T:LamTab Pt pos qual H) (h:H a=none):LamTab Pt pos qual (upd H a o):=T.same λ b u e=>by rw [c7 (g0 e h)]; exact e
def a7y (q:Nat) (S:Lp.Bo) (m:Nat):List Int:=((List.range q).filter λ j=>decide (S.T m j<0)).map λ (j:Nat)=>(j:Int)
theorem a9Q {q:Nat} {S:Lp.Bo} {m:Nat}:((List.range q).map λ (i:Nat)=>V.int (0+(i:Int))).filter (λ v=>decide (S.T m (vI v).toNat<0))=(a7y q S m).map V.int:=by
 unfold a7y;rw [List.filter_map,List.map_map];have e:((λ v=>decide (S.T m (vI v).toNat<0)) ∘ λ (i:Nat)=>V.int (0+(i:Int)))=λ j=>decide (S.T m j<0):=by
  funext j
  show decide (S.T m (vI (V.int (0+(j:Int)))).toNat<0)=_
  rw [show (vI (V.int (0+(j:Int)))).toNat=j from by simp [vI]]
 rw [e];refine List.map_congr_left λ j _=>?_;simp
theorem Bd.lam {H H':Hp} {p dx ca oa ia:Addr} {rs:List Addr} {m q:Nat} {S:Lp.Bo} (B:Bd C H p dx ca oa ia rs m q S) (T:LT Pt H) (e:Same1 Pt H H'):Bd C H' p dx ca oa ia rs m q S:=by
 refine B.same1 (P:=Pt) λ b o q n=>e b o (λ z=>?_) q;subst z;rcases T with t | ⟨c,t,_⟩
 ·rw [q] at t; exact n _ (Option.some.inj t)
 ·rw [q] at t; exact n _ (Option.some.inj t)
theorem a7P (F:Fun K "coming" "Board.coming" a3k f fd) (hcode:fd.code=.ref c) (CH:W.CodeHd base c Pt) (BM:N8 mg base) (N:x9 mg) (T:TB K C):FnOk P w K mg base G5 (n+3) f fd ["self"] (a1W C Pt):=by
 refine F.okC hcode scComing (λ vs H Q E h=>?_) (λ A outer s H vs Q E hr h=>?_)
 ·obtain ⟨p,dx,ca,oa,ia,rs,m,q,S,rfl,_⟩:=h
  rfl
 obtain ⟨p,dx,ca,oa,ia,rs,m,q,S,rfl,B,hq,L,k⟩:=h;refine ⟨_,i4 (b3d (i:=1) ["column"] [0] scComing.nd rfl rfl rfl (K3 rfl N.range (c5 (v5 (pv 0) rfl) c6)) (λ _ _ _ _=>i9 (i:=0) b4y rfl (Or.inl rfl))
   (λ _ _ _ _=>m9 Z8 (j3 (Q9 K rfl) (j3 (Q9 K rfl) (a3S K rfl (pv 1) rfl) (S3 K6 i3) (λ _ _=>rfl)) (pv 0) (λ _ _=>rfl)) i3 (r6 _))
   (λ _ _ _ _=>pv 0))
  (i6 (r9 (a7E (col:="column") (fr:=[0]) (c:=c) (P:=Pt) rfl (hr.mono (by lia)) rfl N.min rfl CH BM rfl rfl (by decide +kernel) rfl rfl rfl (λ _ _ _ _=>rfl) (c5 (pv 1) c6)
   (λ _ _ _ _=>j3 (Q9 K rfl) (a3S K rfl (pv 1) rfl) (pv 0) (λ _ _=>rfl))))),?_⟩
 refine ⟨_,rfl,p,C,dx,_,_,rfl,B.obj,T.cl,T.nM,rfl,_,rfl,(by lia),(by lia),?_⟩;rw [Int.toNat_natCast];intro l hl;obtain ⟨rm,em,am⟩:=B.rs_last;refine a6i a1X hl (by rw [List.length_map,List.length_range]; exact j7 (by lia)) (λ v=>decide (S.T m (vI v).toNat<0)) (λ i x H' N' hx e hN=>?_) ?_
 ·have hx':x=.int (i:Int)/\i<q:=by
   rw [List.getElem?_map] at hx
   by_cases hi:i<q
   ·rw [List.getElem?_range hi] at hx
    refine ⟨?_,hi⟩;have:=Option.some.inj hx;rw [<- this]; simp
   ·rw [List.getElem?_eq_none (by simp; lia)] at hx; cases hx
  obtain ⟨rfl,hi⟩:=hx';have e':∀ b o,H b=some o->H' b=some o:=λ b o z=>e b o z;refine ⟨_,rfl,p,C,dx,_,_,rfl,e' _ _ B.obj,T.cl,T.nC,rfl,_,rfl,ca,_,_,_,rfl,rfl,SqL.of (e' _ _ B.cel),am,_,rfl,rm,_,_,_,rfl,rfl,SqL.of (e' _ _ (B.row m rm em)),Y7 (by lia),_,_,rfl,rfl,_,rfl,?_⟩;have ev:decide (S.T m (vI (V.int (i:Int))).toNat<0)=decide (S.T m i<0):=by rw [show (vI (V.int (i:Int))).toNat=i from by simp [vI]]
  rw [ev] at hN;exact hN
 rw [a9Q];have L2':LT Pt (upd H l (.lst ((a7y q S m).map V.int))):=LamTab.new L hl;have B2:Bd C (upd H l (.lst ((a7y q S m).map V.int))) p dx ca oa ia rs m q S:=B.same1 (P:=Pt) λ b o z _=>by rw [c7 (g0 z hl)]; exact z
 have mem:∀ x:Int,x∈a7y q S m ↔ ∃ j:Nat,x=(j:Int)/\j<q/\S.T m j<0:=λ x=>by
  unfold a7y;rw [List.mem_map];constructor
  ·rintro ⟨j,hj,rfl⟩
   rw [List.mem_filter,List.mem_range] at hj;exact ⟨j,rfl,hj.1,of_decide_eq_true hj.2⟩
  ·rintro ⟨j,rfl,h1,h2⟩
   exact ⟨j,by rw [List.mem_filter,List.mem_range]; exact ⟨h1,decide_eq_true h2⟩,rfl⟩
 refine ⟨_,rfl,l,_,λ x=>(S.outs x.toNat:Int),rfl,SqL.of upd_same,L2',λ H2 e2 L3=>?_⟩;have B3:=B2.lam L2' e2;have e3:Same1 Pt H H2:=λ b o hb z=>e2 b o hb (by rw [c7 (g0 z hl)]; exact z);obtain ⟨k1,k2⟩:=k H2 e3 L3;refine ⟨λ x hx=>?_,λ en=>k1 λ j hj hn=>?_,λ M hM hmin=>?_⟩
 ·obtain ⟨j,rfl,hj,hn⟩:=(mem x).mp hx
  exact ⟨_,rfl,p,C,dx,_,_,rfl,B3.obj,T.cl,T.nO,rfl,_,rfl,oa,_,_,_,rfl,rfl,SqL.of B3.out,a1V hj,by simp,rfl⟩
 ·have:=(mem (j:Int)).mpr ⟨j,rfl,hj,hn⟩
  rw [en] at this
  cases this
 ·obtain ⟨j,rfl,hj,hn⟩:=(mem M).mp hM
  refine k2 j hj hn λ i hi hni=>?_;have:=hmin (i:Int) ((mem _).mpr ⟨i,rfl,hi,hni⟩)
  simpa using this
end
def a0k (xs ys:List Int) (c:Nat) (d:Int):List Int:=(List.zipWith (λ x y=>(x*ys.getD c 0 - xs.getD c 0*y) / d) xs ys).set c (-(xs.getD c 0))
theorem a4c {ns:List Int} {i:Nat} (h:i<ns.length):atI (ns.map V.int) (i:Int)=some (.int (ns.getD i 0)):=t9 (by
 rw [List.getElem?_map,List.getElem?_eq_getElem h,List.getD_eq_getElem?_getD,List.getElem?_eq_getElem h]; rfl)
theorem a0t {ns:List Int} {i:Nat} {x:V} (h:(ns.map V.int)[i]?=some x):∃ k,x=.int k/\k∈ns:=by
 rw [List.getElem?_map] at h
 cases hn:ns[i]? with
 | none=>rw [hn] at h; cases h
 | some k=>rw [hn] at h; cases h; exact ⟨k,rfl,List.mem_of_getElem? hn⟩
theorem a6H (F:V->V->V) (G:Int->Int->Int) (h:∀ a b,F (.int a) (.int b)=.int (G a b)):∀ xs ys:List Int,List.zipWith F (xs.map V.int) (ys.map V.int)=(List.zipWith G xs ys).map V.int
 | [],_=>by simp
 | _::_,[]=>by simp
 | x::xs,y::ys=>by simp [h,a6H F G h xs ys]
theorem a3a {ns:List Int} {i:Nat} (h:i<ns.length):ns.getD i 0∈ns:=by
 rw [List.getD_eq_getElem?_getD,List.getElem?_eq_getElem h]; exact List.getElem_mem h
section
variable {P:Program} {w:World} {K:W.Frag} {mg:Str->Option Value} {base:Heap} {f g c Pt:Addr} {fd gd:FuncData} {n:Nat} {C:Addr}
def a3t (K:W.Frag):Sp:=λ vs H Q _=>∃ (a b:Addr) (c:Nat) (d:Int) (xs ys:List Int),vs=[.ref a,.ref b,.int c,.int d]/\SqL K H a (xs.map V.int)/\SqL K H b (ys.map V.int)/\xs.length=ys.length/\xs.length<=1000/\c<xs.length ∧
 0<d/\Big 4000 d/\(∀ x∈xs,Big 4000 x)/\(∀ y∈ys,Big 4000 y)/\∀ (r:Addr) (H':Hp),Same H H'->H r=none->H' r=some (.lst ((a0k xs ys c d).map V.int))->Q (.ref r) H'
theorem scSwept:m8 ["cells","lead","column","scale","factor","pivot","fresh"] ["cells","lead","column","scale"] (i5 a5u):=⟨rfl,rfl,rfl,by decide +kernel,rfl,by decide +kernel,by decide +kernel⟩
theorem b4O:(["cell","other","scale","factor","pivot"]:List Str).Nodup:=by decide +kernel
theorem b0f (F:Fun K "swept" "swept" a5u f fd) (N:x9 mg):FnOk P w K mg base G5 (n+1) f fd ["cells","lead","column","scale"] (a3t K):=by
 refine F.ok scSwept (λ vs H Q E h=>?_) (λ cdv A outer s H vs Q E hr h=>?_)
 ·obtain ⟨a,b,c,d,xs,ys,rfl,_⟩:=h
  rfl
 obtain ⟨a,b,c,d,xs,ys,rfl,ha,hb,hl,hz,hc,hd,hD,hx,hy,k⟩:=h;refine ⟨_,i4 (j4 (i:=4) scSwept.nd rfl (Or.inr rfl) (j3 i7 (pv 0) (pv 2) (λ _ _=>rfl)))
  (i4 (j4 (i:=5) scSwept.nd rfl (Or.inr rfl) (j3 i7 (pv 1) (pv 2) (λ _ _=>rfl)))
  (i4 (a0I (i:=6) ["cell","other"] [3,4,5] scSwept.nd rfl rfl rfl (a4L true true K rfl rfl N.zip (c5 (pv 0) (c5 (pv 1) c6)))
   (λ _ _ _ _=>N7 K (n:=2) rfl rfl (j8 (i9 (i:=0) b4O rfl (Or.inl rfl)) (j8 (i9 (i:=1) b4O rfl (Or.inl rfl)) A8)))
   (λ _ _ _ _=>i8 V8 (i8 a2k (i8 L0 (pv 0) (pv 4)) (i8 L0 (pv 3) (pv 1))) (pv 2)))
  (i4 (J9 (S3 K6 (pv 4)) (R0 (pv 6) (pv 2) G3))
  (i6 (r9 (pv 6)))))),?_⟩
 have hc2:c<ys.length:=by lia
 refine ⟨_,rfl,_,rfl,a,_,_,_,rfl,rfl,ha,a4c hc,?_⟩;refine ⟨_,rfl,_,rfl,b,_,_,_,rfl,rfl,hb,a4c hc2,?_⟩;refine ⟨_,rfl,_,rfl,a,b,rfl,⟨_,ha⟩,⟨_,hb⟩,λ l hl'=>?_⟩;have up:∀ {x},Big 4000 x->Big 1000000 x:=λ h=>a9Z h (by decide);refine b1O ha hb hl' (by rw [List.length_map]; exact j7 hz) (λ u v=>.int ((vI u*ys.getD c 0 - xs.getD c 0*vI v) / d)) (λ i u v H' N' hu hv e hN=>?_) (λ H' e hH=>?_)
 ·obtain ⟨x,rfl,hxm⟩:=a0t hu
  obtain ⟨y,rfl,hym⟩:=a0t hv;have dl:d<2 ^ 8000:=by
   have h1:d.natAbs<2 ^ 4000:=hD;have h2:(2:Nat) ^ 4000<=2 ^ 8000:=Nat.pow_le_pow_right (by decide) (by decide);have h3:d=(d.natAbs:Int):=by lia
   rw [h3]
   exact_mod_cast Nat.lt_of_lt_of_le h1 h2
  refine ⟨_,rfl,_,rfl,_,_,rfl,rfl,⟨up (hx _ hxm),up (hy _ (a3a hc2))⟩,_,rfl,_,rfl,_,_,rfl,rfl,⟨up (hx _ (a3a hc)),up (hy _ hym)⟩,_,_,rfl,rfl,_,rfl,_,_,rfl,rfl,⟨hd,dl⟩,hN⟩
 ·rw [a6H _ (λ x y=>(x*ys.getD c 0 - xs.getD c 0*y) / d) (λ _ _=>rfl)] at hH
  refine ⟨_,rfl,_,rfl,?_⟩;refine ⟨_,rfl,_,rfl,l,_,_,c,rfl,rfl,hH,?_,?_⟩
  ·unfold ixN
   rw [List.length_map,List.length_zipWith,if_pos (by lia),if_pos (by lia),Int.toNat_natCast]
  ·refine ⟨_,rfl,k l _ ?_ hl' ?_⟩
   ·exact λ b' o q=>by rw [c7 (g0 q hl')]; exact e b' o q
   ·rw [upd_same]
    unfold a0k;rw [<- List.map_set]
end
structure W5 (P:Program) (w:World) (K:W.Frag) (mg:Str->Option Value) (base:Heap) (n:Nat) (x:Str) (ps:List Str) (sp:Sp) (fa:Addr) (d:FuncData):Prop where
 ok:FnOk P w K mg base G5 n fa d ps sp
 b:Binds K d ps []
 k:W.keepIn K (.ref fa)=true
 m:mg x=some (.ref fa)
theorem D6 {q:Nat} {S:Lp.Bo} {i:Nat}:(w8 q S i).length=q+1:=by unfold w8; simp
theorem a2Y {q:Nat} {S:Lp.Bo} {i j:Nat} (h:j<q+1):(w8 q S i).getD j 0=S.T i j:=by
 unfold w8;rw [List.getD_eq_getElem?_getD,List.getElem?_map,List.getElem?_range h]; rfl
theorem a7s {q:Nat} {S:Lp.Bo} {i r c:Nat} (hi:i≠r) (hc:c<q):a0k (w8 q S i) (w8 q S r) c S.d=w8 q (Lp.piv S r c) i:=by
 refine List.ext_getElem? λ j=>?_;unfold a0k
 by_cases hj:j<q+1
 ·rw [a2Y (by lia),a2Y (by lia)]
  have e:(w8 q (Lp.piv S r c) i)[j]?=some ((Lp.piv S r c).T i j):=by unfold w8; rw [List.getElem?_map,List.getElem?_range hj]; rfl
  have hT:(Lp.piv S r c).T i j=if j=c then - S.T i c else (S.T i j*S.T r c - S.T i c*S.T r j) / S.d:=by
   show (if i=r then _ else _)=_
   rw [if_neg hi]
  rw [e,hT]
  by_cases hjc:j=c
  ·subst hjc
   rw [List.getElem?_set_self (by rw [List.length_zipWith,D6,D6]; lia),if_pos rfl]
  ·rw [List.getElem?_set_ne (Ne.symm hjc),List.getElem?_zipWith,if_neg hjc]
   unfold w8;rw [List.getElem?_map,List.getElem?_map,List.getElem?_range hj]; rfl
 ·rw [List.getElem?_eq_none (by rw [List.length_set,List.length_zipWith,D6,D6]; lia),List.getElem?_eq_none (by rw [D6]; lia)]
theorem a8M {q:Nat} {S:Lp.Bo} {r c:Nat} (hc:c<q):(((w8 q S r).map V.int).take c++[V.int S.d])++((w8 q S r).map V.int).drop (c+1)=(w8 q (Lp.piv S r c) r).map V.int:=by
 have hT:∀ j,(Lp.piv S r c).T r j=if j=c then S.d else S.T r j:=λ j=>by
  show (if r=r then _ else _)=_
  rw [if_pos rfl]
 have hl:((w8 q S r).map V.int).length=q+1:=by rw [List.length_map,D6]
 refine List.ext_getElem? λ j=>?_
 by_cases hj:j<q+1
 ·have e:((w8 q (Lp.piv S r c) r).map V.int)[j]?=some (.int (if j=c then S.d else S.T r j)):=by
   rw [List.getElem?_map]; unfold w8; rw [List.getElem?_map,List.getElem?_range hj,<- hT]; rfl
  have e0:((w8 q S r).map V.int)[j]?=some (.int (S.T r j)):=by
   rw [List.getElem?_map]; unfold w8; rw [List.getElem?_map,List.getElem?_range hj]; rfl
  rw [e];have lt:(((w8 q S r).map V.int).take c).length=c:=by rw [List.length_take,hl]; lia
  by_cases h1:j<c
  ·rw [List.getElem?_append_left (by rw [List.length_append,lt]; lia),List.getElem?_append_left (by lia),List.getElem?_take_of_lt h1,e0,if_neg (by lia)]
  ·by_cases h2:j=c
   ·subst h2
    rw [List.getElem?_append_left (by rw [List.length_append,lt]; simp),List.getElem?_append_right (by lia),lt,Nat.sub_self,if_pos rfl]; rfl
   ·rw [List.getElem?_append_right (by rw [List.length_append,lt]; simp; lia),List.length_append,lt,List.getElem?_drop,if_neg h2]
    have:c+1+(j - (c+[V.int S.d].length))=j:=by simp; lia
    rw [this,e0]
 ·rw [List.getElem?_eq_none (by rw [List.length_append,List.length_append,List.length_take,List.length_drop,hl]; simp; lia),List.getElem?_eq_none (by rw [List.length_map,D6]; lia)]
theorem b1H {m:Nat} {S:Lp.Bo} {r c:Nat} (hr:r<m):((Q0 m S).map V.int).set r (.int (S.outs c))=(Q0 m (Lp.piv S r c)).map V.int:=by
 refine List.ext_getElem? λ j=>?_;have hT:(Lp.piv S r c).ins j=if j=r then S.outs c else S.ins j:=rfl
 by_cases hj:j<m
 ·have e:((Q0 m (Lp.piv S r c)).map V.int)[j]?=some (.int ((if j=r then S.outs c else S.ins j:Nat))):=by
   rw [List.getElem?_map]; unfold Q0; rw [List.getElem?_map,List.getElem?_range hj,<- hT]; rfl
  rw [e]
  by_cases h:j=r
  ·subst h
   rw [List.getElem?_set_self (by unfold Q0; simp; lia),if_pos rfl]
  ·rw [List.getElem?_set_ne (Ne.symm h),if_neg h,List.getElem?_map]
   unfold Q0; rw [List.getElem?_map,List.getElem?_range hj]; rfl
 ·rw [List.getElem?_eq_none (by unfold Q0; simp; lia),List.getElem?_eq_none (by unfold Q0; simp; lia)]
theorem a9b {q:Nat} {S:Lp.Bo} {r c:Nat} (hc:c<q):((J7 q S).map V.int).set c (.int (S.ins r))=(J7 q (Lp.piv S r c)).map V.int:=by
 refine List.ext_getElem? λ j=>?_;have hT:(Lp.piv S r c).outs j=if j=c then S.ins r else S.outs j:=rfl
 by_cases hj:j<q
 ·have e:((J7 q (Lp.piv S r c)).map V.int)[j]?=some (.int ((if j=c then S.ins r else S.outs j:Nat))):=by
   rw [List.getElem?_map]; unfold J7; rw [List.getElem?_map,List.getElem?_range hj,<- hT]; rfl
  rw [e]
  by_cases h:j=c
  ·subst h
   rw [List.getElem?_set_self (by unfold J7; simp; lia),if_pos rfl]
  ·rw [List.getElem?_set_ne (Ne.symm h),if_neg h,List.getElem?_map]
   unfold J7; rw [List.getElem?_map,List.getElem?_range hj]; rfl
 ·rw [List.getElem?_eq_none (by unfold J7; simp; lia),List.getElem?_eq_none (by unfold J7; simp; lia)]
theorem a2g {n i:Nat} (h:i<n):ixN n (i:Int)=some i:=by
 unfold ixN;rw [if_pos (by lia),if_pos (by lia),Int.toNat_natCast]
section
variable {P:Program} {w:World} {K:W.Frag} {mg:Str->Option Value} {base:Heap} {f g c Pt:Addr} {fd gd:FuncData} {n:Nat} {C:Addr}
def a2i (C:Addr):Sp:=λ vs H Q _=>∃ (p dx ca oa ia:Addr) (rs:List Addr) (m q:Nat) (S:Lp.Bo) (r c:Nat),vs=[.ref p,.int r,.int c]/\Bd C H p dx ca oa ia rs m q S/\Sz 4000 m q S/\r<m/\c<q/\m<900/\q<900/\0<S.d ∧
 ∀ (H':Hp) (ca':Addr) (rs':List Addr),Bd C H' p dx ca' oa ia rs' m q (Lp.piv S r c)->(∀ b o,b≠p->b≠oa->b≠ia->H b=some o->H' b=some o)->Q .non H'
theorem scEx:m8 ["self","row","column","lead","pivot"] ["self","row","column"] (i5 O3):=⟨rfl,rfl,rfl,by decide +kernel,rfl,by decide +kernel,by decide +kernel⟩
theorem b5N:(["cells","self","column","lead"]:List Str).Nodup:=by decide +kernel
noncomputable def exT {cdv:Value} {A:Around} {outer:List Env} {s:Shared} {H:Hp} {E:XK} {fb:Addr} {db:FuncData} (Cs:W5 P w K mg base n "swept" ["cells","lead","column","scale"] (a3t K) fb db)
  (hr:Room n (A.deeper (PyProof.Rows.envOfC "Board.exchange" (i5 O3) s.heap.objs.size f cdv))) :
  { t:TS // PSs (K7 G5 P w K mg base ["self","row","column","lead","pivot"] "Board.exchange" (i5 O3) f cdv A outer s H E).nox (v6 O3) t } :=
 ⟨_,i4 (j4 (i:=3) scEx.nd rfl (Or.inr rfl) (j3 i7 (v5 (pv 0) rfl) (pv 1) (λ _ _=>rfl)))
  (i4 (j4 (i:=4) scEx.nd rfl (Or.inl rfl) (j3 i7 (pv 3) (pv 2) (λ _ _=>rfl)))
  (p6 (a0j (pv 0) (R8 ["cells"] [0,2,3] rfl (B9 (v5 (pv 0) rfl)) (λ _ _ _ _=>i9 (i:=0) b5N rfl (Or.inl rfl))
   (λ _ _ _ _=>j5 Cs.ok hr rfl Cs.m Cs.k Cs.b .nil w4 (c5 (pv 0) (c5 (pv 3) (c5 (pv 2) (c5 (a3S K rfl (pv 1) rfl) c6)))))) rfl)
  (i4 (J9 (i8 D0 (i8 D0 (S8 Y3 (pv 3) a0H (T7 (pv 2))) (v4 (c5 (v5 (pv 0) rfl) c6))) (S8 Y3 (pv 3) (T7 (i8 C3 (pv 2) i3)) a0H)) (R0 (v5 (pv 0) rfl) (pv 1) G3))
  (i4 (a0j (pv 0) (pv 4) rfl)
  (i6 (J9 (U7 (c5 (j3 i7 (v5 (pv 0) rfl) (pv 2) (λ _ _=>rfl)) (c5 (j3 i7 (v5 (pv 0) rfl) (pv 1) (λ _ _=>rfl)) c6)))
   (a0e rfl (j8 (R0 (v5 (pv 0) rfl) (pv 1) G3) (j8 (R0 (v5 (pv 0) rfl) (pv 2) G3) A8)))))))))⟩
end
def a4G:V->Addr
 | .ref a=>a
 | _=>0
section
variable {P:Program} {w:World} {K:W.Frag} {mg:Str->Option Value} {base:Heap} {f g c Pt:Addr} {fd gd:FuncData} {n:Nat} {C:Addr}
theorem a4E {m q i:Nat} {S:Lp.Bo} (h:Sz 4000 m q S) (hi:i<m+1):∀ x∈w8 q S i,Big 4000 x:=λ x hx=>by
 unfold w8 at hx;obtain ⟨j,hj,rfl⟩:=List.mem_map.mp hx;exact h.1 i j hi (List.mem_range.mp hj)
theorem a4a {fb:Addr} {db:FuncData} (F:Fun K "exchange" "Board.exchange" O3 f fd) (T:TB K C) (Cs:W5 P w K mg base n "swept" ["cells","lead","column","scale"] (a3t K) fb db) :
  FnOk P w K mg base G5 (n+1) f fd ["self","row","column"] (a2i C):=by
 refine F.ok scEx (λ vs H Q E h=>?_) (λ cdv A outer s H vs Q E hr h=>?_)
 ·obtain ⟨p,dx,ca,oa,ia,rs,m,q,S,r,c,rfl,_⟩:=h
  rfl
 obtain ⟨p,dx,ca,oa,ia,rs,m,q,S,r,c,rfl,B,hz,hrm,hc,hm,hq,hd,k⟩:=h;refine ⟨_,(exT Cs hr).2,?_⟩;obtain ⟨rl,er,ar⟩:=B.rs_at (i:=r) (by lia);have hrl:=B.row r rl er;have nrl:rl≠p:=S2 hrl B.obj (by intro z; cases z);have noa:oa≠p:=S2 B.out B.obj (by intro z; cases z);have nia:ia≠p:=S2 B.inn B.obj (by intro z; cases z);refine ⟨_,rfl,p,C,dx,_,_,rfl,B.obj,T.cl,T.nC,rfl,_,rfl,ca,_,_,_,rfl,rfl,SqL.of B.cel,ar,?_⟩;refine ⟨_,rfl,_,rfl,rl,_,_,_,rfl,rfl,SqL.of hrl,Y7 (by lia),?_⟩;refine ⟨λ σ' H3=>∃ (l:Addr) (rs':List Addr),σ'=[some (.ref p),some (.int r),some (.int c),some (.ref rl),some (.int (S.T r c))]/\H3 p=some (.ins C dx (bdF q S.d l oa ia))/\H3 l=some (.lst (rs'.map V.ref))/\rs'.length=m+1/\H l=none ∧
  (∀ i a,rs'[i]?=some a->H a=none/\a≠l/\H3 a=some (.lst ((a0k (w8 q S i) (w8 q S r) c S.d).map V.int)))/\∀ b o,b≠p->H b=some o->H3 b=some o,?_,?_⟩
 ·refine ⟨_,rfl,p,C,dx,_,_,rfl,B.obj,T.cl,T.nC,rfl,ca,rfl,⟨_,SqL.of B.cel⟩,λ l hl=>?_⟩
  refine a1w (y6 (SqL.of B.cel)) hl (by rw [List.length_map,B.len]; exact j7 (by lia)) (λ i y H2=>∃ a,y=.ref a/\H a=none/\a≠l/\H2 a=some (.lst ((a0k (w8 q S i) (w8 q S r) c S.d).map V.int)))
   (λ i y H2 H3 ⟨a,h1,h2,h3,h4⟩ e=>⟨a,h1,h2,h3,e a _ h3 h4⟩) (λ i x H2 ys N hx e hl2 hN=>?_) (λ ys H2 e hl2 len pr=>?_)
  ·rw [List.getElem?_map] at hx
   cases hri:rs[i]? with
   | none=>rw [hri] at hx; cases hx
   | some a =>
    rw [hri] at hx;have hx':V.ref a=x:=Option.some.inj hx;subst hx';have hi:i<m+1:=by rw [<- B.len]; exact (List.getElem?_eq_some_iff.mp hri).1
    refine ⟨Wk.set (by decide),?_⟩;refine ⟨_,rfl,_,rfl,_,rfl,_,rfl,p,C,dx,_,_,rfl,e _ _ B.obj,T.cl,T.nS,rfl,?_⟩;refine ⟨a,rl,c,S.d,w8 q S i,w8 q S r,rfl,SqL.of (e _ _ (B.row i a hri)),SqL.of (e _ _ hrl),by rw [D6,D6],by rw [D6]; lia,by rw [D6]; lia,hd,hz.2,a4E hz hi,a4E hz (by lia),λ r' H3 s3 hn hr'=>?_⟩;refine hN _ _ s3 ⟨r',rfl,?_,λ z=>?_,hr'⟩
    ·cases q1:H r' with
     | none=>rfl
     | some o=>rw [e _ _ q1] at hn; cases hn
    ·rw [z,hl2] at hn; cases hn
  ·have hp2:=e _ _ B.obj
   have nlp:p≠l:=g0 B.obj hl;refine ⟨_,rfl,p,C,dx,_,rfl,hp2,T.cl,T.nC,(by show 5<1000; decide),?_⟩;have hys:ys=(ys.map a4G).map V.ref:=by
    rw [List.map_map];refine List.ext_getElem? λ i=>?_;rw [List.getElem?_map]
    cases qi:ys[i]? with
    | none=>rfl
    | some y =>
     obtain ⟨a,rfl,_⟩:=pr i y qi;rfl
   refine ⟨l,ys.map a4G,rfl,upd_same,by rw [c7 nlp.symm,hl2]; rw [<- hys],by rw [List.length_map,len,List.length_map,B.len],hl,λ i a hi=>?_,λ b o hb hbo=>by rw [c7 hb]; exact e _ _ hbo⟩;rw [List.getElem?_map] at hi
   cases qi:ys[i]? with
   | none=>rw [qi] at hi; cases hi
   | some y =>
    obtain ⟨a',rfl,h2,h3,h4⟩:=pr i y qi;rw [qi] at hi;have:a'=a:=Option.some.inj hi;subst this;refine ⟨h2,h3,?_⟩;rw [c7 (λ z=>by rw [z,hp2] at h4; cases h4)];exact h4
 ·intro σ' H3 hM_; refine I0 λ G_ hG_=>?_; obtain ⟨l,rs',rfl,hp,hl,hlen,hl0,hrs,hk⟩:=hM_; subst hG_
  have hr3:=hk rl _ nrl hrl;have lr:((w8 q S r).map V.int).length=q+1:=by rw [List.length_map,D6]
  refine ⟨_,rfl,_,rfl,_,rfl,rl,_,rfl,SqL.of hr3,λ a1 h1=>?_⟩;have e1:=Same.new h1 (.lst (O8 ((w8 q S r).map V.int) none (some (c:Int))));refine ⟨_,rfl,p,C,dx,_,_,rfl,e1 _ _ hp,T.cl,T.nS,rfl,(by show 1<=sizeLine; decide),λ a2 h2=>?_⟩;have e2:=e1.trans (Same.new h2 (.lst [.int S.d]));have n12:a1≠a2:=g0 upd_same h2;refine ⟨a1,a2,_,_,rfl,rfl,(by rw [c7 n12]; exact upd_same),upd_same,?_,λ a3 h3=>?_⟩
  ·rw [a5p _ _ (by rw [lr]; lia),List.length_take,lr]
   have:=j7 (show c+1<=1000 by lia);simp;lia
  have e3:=e2.trans (Same.new h3 (.lst (O8 ((w8 q S r).map V.int) none (some (c:Int))++[.int S.d])));refine ⟨_,rfl,_,rfl,_,_,rfl,rfl,_,rfl,rl,_,rfl,SqL.of (e3 _ _ hr3),λ a4 h4=>?_⟩;have e4:=e3.trans (Same.new h4 (.lst (O8 ((w8 q S r).map V.int) (some ((c:Int)+1)) none)));have n34:a3≠a4:=g0 upd_same h4;have c1:O8 ((w8 q S r).map V.int) none (some (c:Int))=((w8 q S r).map V.int).take c:=a5p _ _ (by rw [lr]; lia);have c2:O8 ((w8 q S r).map V.int) (some ((c:Int)+1)) none=((w8 q S r).map V.int).drop (c+1):=by
   have:=a4o ((w8 q S r).map V.int) (c+1) (by rw [lr]; lia);rw [<- this]; rfl
  refine ⟨a3,a4,_,_,rfl,rfl,(by rw [c7 n34]; exact upd_same),upd_same,?_,λ a5 h5=>?_⟩
  ·rw [c1,c2,List.length_append,List.length_take,List.length_drop,lr]
   have:=j7 (show q+1<=1000 by lia);simp;lia
  have hrow:(O8 ((w8 q S r).map V.int) none (some (c:Int))++[.int S.d])++O8 ((w8 q S r).map V.int) (some ((c:Int)+1)) none=(w8 q (Lp.piv S r c) r).map V.int:=by rw [c1,c2,a8M hc]
  have h5n:H3 a5=none:=by
   cases z:H3 a5 with
   | none=>rfl
   | some o=>rw [e4 _ _ z] at h5; cases h5
  have e5:=e4.trans (Same.new h5 (.lst ((O8 ((w8 q S r).map V.int) none (some (c:Int))++[.int S.d])++O8 ((w8 q S r).map V.int) (some ((c:Int)+1)) none)));have u5:∀ H4:Hp,upd H4 a5 (.lst ((O8 ((w8 q S r).map V.int) none (some (c:Int))++[.int S.d])++O8 ((w8 q S r).map V.int) (some ((c:Int)+1)) none)) a5=some (.lst ((w8 q (Lp.piv S r c) r).map V.int)):=λ H4=>upd_same.trans (congrArg (λ z=>some (HO.lst z)) hrow);have oa3:=hk oa _ noa B.out;have ia3:=hk ia _ nia B.inn;have nlp:l≠p:=(g0 B.obj hl0).symm;have nlo:l≠oa:=(g0 B.out hl0).symm;have nli:l≠ia:=(g0 B.inn hl0).symm;have n5p:a5≠p:=(g0 hp h5n).symm;have n5l:a5≠l:=(g0 hl h5n).symm;have n5o:a5≠oa:=(g0 oa3 h5n).symm;have n5i:a5≠ia:=(g0 ia3 h5n).symm;have lrs:(rs'.map V.ref).length=m+1:=by rw [List.length_map]; exact hlen
  refine ⟨_,rfl,p,C,dx,_,_,rfl,e5 _ _ hp,T.cl,T.nC,rfl,_,rfl,l,_,_,r,rfl,rfl,e5 _ _ hl,a2g (by rw [lrs]; lia),?_⟩;refine ⟨_,rfl,_,rfl,p,C,dx,_,rfl,(by rw [c7 nlp.symm]; exact e5 _ _ hp),T.cl,T.nS,(by show 5<1000; decide),?_⟩;refine ⟨_,rfl,p,C,dx,_,_,rfl,upd_same,T.cl,T.nO,rfl,_,rfl,oa,_,_,_,rfl,rfl,SqL.of (by rw [c7 noa,c7 nlo.symm]; exact e5 _ _ oa3),a1V hc,?_⟩;refine ⟨_,rfl,p,C,dx,_,_,rfl,upd_same,T.cl,T.nI,rfl,_,rfl,ia,_,_,_,rfl,rfl,SqL.of (by rw [c7 nia,c7 nli.symm]; exact e5 _ _ ia3),a1v hrm,(by show 2<=sizeLine; decide),λ t ht=>?_⟩;have ntp:t≠p:=(g0 upd_same ht).symm;have ntl:t≠l:=by
   refine (g0 (H:=_) (o:=.lst ((rs'.map V.ref).set r (.ref a5))) ?_ ht).symm;rw [c7 nlp,upd_same]
  have nto:t≠oa:=by
   refine (g0 (H:=_) (o:=.lst ((J7 q S).map V.int)) ?_ ht).symm;rw [c7 noa,c7 nlo.symm]; exact e5 _ _ oa3
  have nti:t≠ia:=by
   refine (g0 (H:=_) (o:=.lst ((Q0 m S).map V.int)) ?_ ht).symm;rw [c7 nia,c7 nli.symm]; exact e5 _ _ ia3
  refine ⟨t,_,rfl,SqT.of upd_same,rfl,?_⟩;refine ⟨_,_,rfl,_,rfl,p,C,dx,_,_,rfl,(by rw [c7 ntp.symm]; exact upd_same),T.cl,T.nI,rfl,_,rfl,ia,_,_,r,rfl,rfl,(by rw [c7 nti.symm,c7 nia,c7 nli.symm]; exact e5 _ _ ia3),a2g (by unfold Q0; simp; lia),?_⟩;refine ⟨_,_,rfl,_,rfl,p,C,dx,_,_,rfl,(by rw [c7 nia.symm,c7 ntp.symm]; exact upd_same),T.cl,T.nO,rfl,_,rfl,oa,_,_,c,rfl,rfl,(by rw [c7 B.ne,c7 nto.symm,c7 noa,c7 nlo.symm]; exact e5 _ _ oa3),a2g (by unfold J7; simp; lia),rfl,?_⟩;refine k _ l (rs'.set r a5) ⟨?_,?_,by rw [List.length_set]; exact hlen,λ i a hi=>?_,?_,?_,B.ne⟩ λ b o hb hbo hbi hH=>?_
  ·rw [c7 noa.symm,c7 nia.symm,c7 ntp.symm,upd_same]; rfl
  ·rw [c7 nlo,c7 nli,c7 ntl.symm,c7 nlp,upd_same,List.map_set]
  ·by_cases hir:i=r
   ·subst hir
    rw [List.getElem?_set_self (by rw [hlen]; lia)] at hi;have:a5=a:=Option.some.inj hi;subst this;have n5t:a5≠t:=by
     refine g0 (H:=_) (o:=.lst ((w8 q (Lp.piv S i c) i).map V.int)) ?_ ht;rw [c7 n5p,c7 n5l]; exact u5 _
    rw [c7 n5o,c7 n5i,c7 n5t,c7 n5p,c7 n5l];exact u5 _
   ·rw [List.getElem?_set_ne (Ne.symm hir)] at hi
    obtain ⟨g1,g2,g3⟩:=hrs i a hi;have nap:a≠p:=(g0 B.obj g1).symm;have nao:a≠oa:=(g0 B.out g1).symm;have nai:a≠ia:=(g0 B.inn g1).symm;have g5:=e5 _ _ g3;have nat:a≠t:=by
     refine g0 (H:=_) (o:=.lst ((a0k (w8 q S i) (w8 q S r) c S.d).map V.int)) ?_ ht;rw [c7 nap,c7 g2]; exact g5
    rw [c7 nao,c7 nai,c7 nat,c7 nap,c7 g2,<- a7s hir hc];exact g5
  ·rw [upd_same,a9b hc]
  ·rw [c7 B.ne.symm,upd_same,b1H hrm]
  ·have h3:=hk b o hb hH
   have nbl:b≠l:=g0 hH hl0;have nbt:b≠t:=by
    refine g0 (H:=_) (o:=o) ?_ ht;rw [c7 hb,c7 nbl]; exact e5 _ _ h3
   rw [c7 hbo,c7 hbi,c7 nbt,c7 hb,c7 nbl];exact e5 _ _ h3
end
theorem a1P {g:Nat->Int}:∀ {n:Nat},(∀ k,k<n->g k=0)->Lp.sumTo g n=0
 | 0,_=>rfl
 | n+1,h=>by
  show Lp.sumTo g n+g n=0
  rw [a1P λ k hk=>h k (by lia),h n (by lia)]; rfl
def b0H (q:Nat) (S:Lp.Bo) (k v:Nat):Int:=Lp.sumTo (λ i=>if S.ins i=v then S.T i q else 0) k
def a7c (m:Nat) (S:Lp.Bo) (k v:Nat):Int:=Lp.sumTo (λ j=>if S.outs j=v then S.T m j else 0) k
def p7 (m q:Nat) (S:Lp.Bo):List Int:=(List.range q).map λ v=>Lp.valIn m S q v
def C6 (m q:Nat) (S:Lp.Bo):List Int:=(List.range m).map λ i=>Lp.valOut m q S (q+i)
theorem a4Z (k:Nat):(List.replicate k [V.int 0]).flatten=(List.range k).map λ _=>V.int 0:=by
 induction k with
 | zero=>rfl
 | succ k ih=>rw [List.replicate_succ',List.flatten_append,ih,List.range_succ,List.map_append]; rfl
theorem a8U {n v:Nat} {F G:Nat->Int} {x:Int} (hv:G v=x) (h:∀ u,u<n->u≠v->F u=G u):((List.range n).map λ u=>V.int (F u)).set v (.int x)=(List.range n).map λ u=>V.int (G u):=by
 refine List.ext_getElem? λ j=>?_
 by_cases hj:j<n
 ·by_cases e:j=v
  ·subst e
   rw [List.getElem?_set_self (by simp; lia),List.getElem?_map,List.getElem?_range hj,Option.map_some,hv]
  ·rw [List.getElem?_set_ne (Ne.symm e),List.getElem?_map,List.getElem?_map,List.getElem?_range hj,Option.map_some,Option.map_some,h j hj e]
 ·rw [List.getElem?_eq_none (by simp; lia),List.getElem?_eq_none (by simp; lia)]
section
variable {P:Program} {w:World} {K:W.Frag} {mg:Str->Option Value} {base:Heap} {f g c Pt:Addr} {fd gd:FuncData} {n:Nat} {C:Addr}
def a8X (C:Addr):Sp:=λ vs H Q _=>∃ (p dx ca oa ia:Addr) (rs:List Addr) (m q:Nat) (S:Lp.Bo),vs=[.ref p]/\Bd C H p dx ca oa ia rs m q S/\m<900/\q<900/\(∀ i k,i<m->k<m->S.ins i=S.ins k->i=k) ∧
 ∀ (r:Addr) (H':Hp),Same H H'->H r=none->H' r=some (.lst ((p7 m q S).map V.int))->Q (.ref r) H'
theorem scAmts:m8 ["self","told","row","number"] ["self"] (i5 a8F):=⟨rfl,rfl,rfl,by decide +kernel,rfl,by decide +kernel,by decide +kernel⟩
theorem b1f (F:Fun K "amounts" "Board.amounts" a8F f fd) (N:x9 mg) (T:TB K C):FnOk P w K mg base G5 (n+1) f fd ["self"] (a8X C):=by
 refine F.ok scAmts (λ vs H Q E h=>?_) (λ cdv A outer s H vs Q E hr h=>?_)
 ·obtain ⟨p,dx,ca,oa,ia,rs,m,q,S,rfl,_⟩:=h
  rfl
 obtain ⟨p,dx,ca,oa,ia,rs,m,q,S,rfl,B,hm,hq,inj,k⟩:=h;refine ⟨_,i4 (j4 (i:=1) scAmts.nd rfl (Or.inl rfl) (i8 V6 (v4 (c5 i3 c6)) (v5 (pv 0) rfl)))
  (i4 (P4 PassesOwn.never rfl (a1z K rfl rfl N.enum (c5 (v5 (pv 0) rfl) c6)) (N7 K (n:=2) rfl rfl (j8 (i9 (i:=2) scAmts.nd rfl (Or.inl rfl)) (j8 (i9 (i:=3) scAmts.nd rfl (Or.inl rfl)) A8)))
   (i6 (A6 (m9 Z8 (pv 3) (v5 (pv 0) rfl) (r6 _)) (i6 (J9 (j3 i7 (j3 i7 (v5 (pv 0) rfl) (pv 2) (λ _ _=>rfl)) (S3 K6 i3) (λ _ _=>rfl)) (R0 (pv 1) (pv 3) G3))) t7)))
  (i6 (r9 (pv 1)))),?_⟩
 have sl:=j7 (show q<=1000 by lia);refine ⟨(by show 1<=sizeLine; decide),λ z hz=>?_⟩;have ez:=Same.new hz (.lst [.int 0]);refine ⟨_,rfl,p,C,dx,_,_,rfl,ez _ _ B.obj,T.cl,T.nM,rfl,z,_,_,rfl,rfl,upd_same,(by lia),(by lia),(by rw [Int.toNat_natCast]; simp; lia),λ tl htl=>?_⟩;rw [Int.toNat_natCast,a4Z];have htn:H tl=none:=by
  cases q1:H tl with
  | none=>rfl
  | some o=>rw [ez _ _ q1] at htl; cases htl
 have e0:Same H (upd (upd H z (.lst [.int 0])) tl (.lst ((List.range q).map λ _=>V.int 0))):=ez.write htn;refine ⟨_,rfl,p,C,dx,_,_,rfl,e0 _ _ B.obj,T.cl,T.nI,rfl,ia,rfl,⟨_,SqL.of (e0 _ _ B.inn)⟩,?_⟩;have li:((Q0 m S).map V.int).length=m:=by unfold Q0; simp
 refine a2c (xs:=(Q0 m S).map V.int) (i1:=2) (i2:=3) (λ j σ H'=>∃ o2 o3:Option V,σ=[some (.ref p),some (.ref tl),o2,o3]/\Same H H'/\H' tl=some (.lst ((List.range q).map λ v=>V.int (b0H q S j v))))
  ⟨_,_,rfl,e0,by rw [upd_same]; rfl⟩ (λ j σ H' ⟨_,_,_,e,_⟩=>SqL.of (e _ _ B.inn)) ?_ ?_
 ·rintro j x σ H1 qq hx ⟨o2,o3,rfl,e1,ht⟩ hqq
  have hj:j<m:=by rw [<- li]; exact (List.getElem?_eq_some_iff.mp hx).1
  have hx':x=.int (S.ins j):=by
   have:=(t9 hx).symm.trans (a1v (S:=S) hj);exact Option.some.inj this
  subst hx';have s1:=Same.new hqq (.tup [V.int (j:Int),.int (S.ins j)]);have e2:=e1.trans s1;have ht2:=s1 _ _ ht;refine ⟨_,rfl,_,rfl,p,C,dx,_,_,rfl,e2 _ _ B.obj,T.cl,T.nM,rfl,_,_,rfl,rfl,_,rfl,?_⟩;have st:∀ v,b0H q S (j+1) v=b0H q S j v+(if S.ins j=v then S.T j q else 0):=λ v=>rfl;refine D9 (λ d=>?_) (λ d=>?_)
  ·have d':S.ins j<q:=by have:=of_decide_eq_true d; lia
   obtain ⟨rj,erj,arj⟩:=B.rs_at (i:=j) (by lia);refine ⟨_,rfl,p,C,dx,_,_,rfl,e2 _ _ B.obj,T.cl,T.nC,rfl,_,rfl,ca,_,_,_,rfl,rfl,SqL.of (e2 _ _ B.cel),arj,_,rfl,rj,_,_,_,rfl,rfl,SqL.of (e2 _ _ (B.row j rj erj)),Y4,?_⟩;refine ⟨_,rfl,_,rfl,tl,_,_,S.ins j,rfl,rfl,ht2,a2g (by simp; lia),?_⟩;refine ⟨_,_,rfl,e2.write htn,?_⟩;rw [upd_same]
   congr 2
   refine a8U ?_ λ u hu hne=>?_
   ·rw [st,if_pos rfl]
    have:b0H q S j (S.ins j)=0:=a1P λ i hi=>if_neg λ z=>absurd (inj i j (by lia) hj z) (by lia);rw [this]; lia
   ·rw [st,if_neg (Ne.symm hne)]; lia
  ·have d':¬ S.ins j<q:=λ z=>d (decide_eq_true (by lia))
   refine ⟨_,_,rfl,e2,?_⟩;rw [ht2]
   congr 2
   refine List.map_congr_left λ v hv=>?_;rw [st,if_neg (λ z=>d' (by rw [z]; exact List.mem_range.mp hv)),Int.add_zero]
 ·intro σ H1 hM_; refine I0 λ G_ hG_=>?_; obtain ⟨o2,o3,rfl,e1,ht⟩:=hM_; subst hG_
  rw [li] at ht;refine ⟨_,rfl,k tl H1 e1 htn ?_⟩;rw [ht];unfold p7;rw [List.map_map]; rfl
def b1T (C:Addr):Sp:=λ vs H Q _=>∃ (p dx ca oa ia:Addr) (rs:List Addr) (m q:Nat) (S:Lp.Bo),vs=[.ref p]/\Bd C H p dx ca oa ia rs m q S/\m<900/\q<900/\(∀ j k,j<q->k<q->S.outs j=S.outs k->j=k)/\(∀ j,j<q->S.outs j<q+m) ∧
 ∀ (r:Addr) (H':Hp),Same H H'->H r=none->H' r=some (.lst ((C6 m q S).map V.int))->Q (.ref r) H'
theorem scWts:m8 ["self","told","column","number"] ["self"] (i5 b2N):=⟨rfl,rfl,rfl,by decide +kernel,rfl,by decide +kernel,by decide +kernel⟩
theorem b3t (F:Fun K "weights" "Board.weights" b2N f fd) (N:x9 mg) (T:TB K C):FnOk P w K mg base G5 (n+1) f fd ["self"] (b1T C):=by
 refine F.ok scWts (λ vs H Q E h=>?_) (λ cdv A outer s H vs Q E hr h=>?_)
 ·obtain ⟨p,dx,ca,oa,ia,rs,m,q,S,rfl,_⟩:=h
  rfl
 obtain ⟨p,dx,ca,oa,ia,rs,m,q,S,rfl,B,hm,hq,inj,ob,k⟩:=h;refine ⟨_,i4 (j4 (i:=1) scWts.nd rfl (Or.inl rfl) (i8 V6 (v4 (c5 i3 c6)) (m6 j6 rfl N.len PySem.boot_len (c5 (v5 (pv 0) rfl) c6))))
  (i4 (P4 PassesOwn.never rfl (a1z K rfl rfl N.enum (c5 (v5 (pv 0) rfl) c6)) (N7 K (n:=2) rfl rfl (j8 (i9 (i:=2) scWts.nd rfl (Or.inl rfl)) (j8 (i9 (i:=3) scWts.nd rfl (Or.inl rfl)) A8)))
   (i6 (A6 (m9 a8v (pv 3) (v5 (pv 0) rfl) (r6 _)) (i6 (J9 (j3 i7 (j3 i7 (v5 (pv 0) rfl) (S3 K6 i3) (λ _ _=>rfl)) (pv 2) (λ _ _=>rfl)) (R0 (pv 1) (i8 a2k (pv 3) (v5 (pv 0) rfl)) G3))) t7)))
  (i6 (r9 (pv 1)))),?_⟩
 have sl:=j7 (show m<=1000 by lia);have li:((Q0 m S).map V.int).length=m:=by unfold Q0; simp
 have lo:((J7 q S).map V.int).length=q:=by unfold J7; simp
 refine ⟨(by show 1<=sizeLine; decide),λ z hz=>?_⟩;have ez:=Same.new hz (.lst [.int 0]);refine ⟨_,rfl,p,C,dx,_,_,rfl,ez _ _ B.obj,T.cl,T.nI,rfl,ia,_,rfl,.inl (SqL.of (ez _ _ B.inn)),z,_,_,rfl,rfl,upd_same,(by lia),(by lia),(by rw [li,Int.toNat_natCast]; simp; lia),λ tl htl=>?_⟩;rw [li,Int.toNat_natCast,a4Z];have htn:H tl=none:=by
  cases q1:H tl with
  | none=>rfl
  | some o=>rw [ez _ _ q1] at htl; cases htl
 have e0:Same H (upd (upd H z (.lst [.int 0])) tl (.lst ((List.range m).map λ _=>V.int 0))):=ez.write htn;refine ⟨_,rfl,p,C,dx,_,_,rfl,e0 _ _ B.obj,T.cl,T.nO,rfl,oa,rfl,⟨_,SqL.of (e0 _ _ B.out)⟩,?_⟩;refine a2c (xs:=(J7 q S).map V.int) (i1:=2) (i2:=3) (λ j σ H'=>∃ o2 o3:Option V,σ=[some (.ref p),some (.ref tl),o2,o3]/\Same H H'/\H' tl=some (.lst ((List.range m).map λ v=>V.int (a7c m S j (q+v)))))
  ⟨_,_,rfl,e0,by rw [upd_same]; rfl⟩ (λ j σ H' ⟨_,_,_,e,_⟩=>SqL.of (e _ _ B.out)) ?_ ?_
 ·rintro j x σ H1 qq hx ⟨o2,o3,rfl,e1,ht⟩ hqq
  have hj:j<q:=by rw [<- lo]; exact (List.getElem?_eq_some_iff.mp hx).1
  have hx':x=.int (S.outs j):=by
   have:=(t9 hx).symm.trans (a1V (S:=S) hj);exact Option.some.inj this
  subst hx';have s1:=Same.new hqq (.tup [V.int (j:Int),.int (S.outs j)]);have e2:=e1.trans s1;have ht2:=s1 _ _ ht;refine ⟨_,rfl,_,rfl,p,C,dx,_,_,rfl,e2 _ _ B.obj,T.cl,T.nM,rfl,_,_,rfl,rfl,_,rfl,?_⟩;have st:∀ v,a7c m S (j+1) v=a7c m S j v+(if S.outs j=v then S.T m j else 0):=λ v=>rfl;have hob:=ob j hj;refine D9 (λ d=>?_) (λ d=>?_)
  ·have d':q<=S.outs j:=by have:=of_decide_eq_true d; lia
   obtain ⟨rm,erm,arm⟩:=B.rs_last;refine ⟨_,rfl,p,C,dx,_,_,rfl,e2 _ _ B.obj,T.cl,T.nC,rfl,_,rfl,ca,_,_,_,rfl,rfl,SqL.of (e2 _ _ B.cel),arm,_,rfl,rm,_,_,_,rfl,rfl,SqL.of (e2 _ _ (B.row m rm erm)),Y7 (by lia),?_⟩;refine ⟨_,rfl,_,rfl,_,rfl,p,C,dx,_,_,rfl,e2 _ _ B.obj,T.cl,T.nM,rfl,_,_,rfl,rfl,tl,_,_,S.outs j - q,rfl,rfl,ht2,?_,?_⟩
   ·rw [show ((S.outs j:Int) - (q:Int))=((S.outs j - q:Nat):Int) by lia]
    exact a2g (by simp; lia)
   refine ⟨_,_,rfl,e2.write htn,?_⟩;rw [upd_same]
   congr 2
   refine a8U ?_ λ u hu hne=>?_
   ·rw [st,if_pos (by lia)]
    have:a7c m S j (q+(S.outs j - q))=0:=a1P λ i hi=>if_neg λ z=>absurd (inj i j (by lia) hj (by lia)) (by lia);rw [this]; lia
   ·rw [st,if_neg (by lia)]; lia
  ·have d':¬ q<=S.outs j:=λ z=>d (decide_eq_true (by lia))
   refine ⟨_,_,rfl,e2,?_⟩;rw [ht2]
   congr 2
   refine List.map_congr_left λ v hv=>?_;rw [st,if_neg (by lia),Int.add_zero]
 ·intro σ H1 hM_; refine I0 λ G_ hG_=>?_; obtain ⟨o2,o3,rfl,e1,ht⟩:=hM_; subst hG_
  rw [lo] at ht;refine ⟨_,rfl,k tl H1 e1 htn ?_⟩;rw [ht];unfold C6;rw [List.map_map]; rfl
end
def S4 (rows:List (List Int)):Nat->Nat->Int:=λ i j=>(rows.getD i []).getD j 0
def E9 (l:List Int):Nat->Int:=λ i=>l.getD i 0
abbrev RowsL (K:W.Frag) (H:Hp):List V->List (List Int)->Prop:=PySem.Paired λ v row=>∃ a,v=.ref a/\SqL K H a (row.map V.int)
section
variable {P:Program} {w:World} {K:W.Frag} {mg:Str->Option Value} {base:Heap} {f g c Pt:Addr} {fd gd:FuncData} {n:Nat} {C:Addr}
def a9B (K:W.Frag) (C:Addr):Sp:=λ vs H Q _=>∃ (p dx ga ra ba:Addr) (goal:List Int) (rvs:List V) (rows:List (List Int)) (bounds:List Int) (m q:Nat),vs=[.ref p,.ref ga,.ref ra,.ref ba]/\H p=some (.ins C dx [])/\SqL K H ga (goal.map V.int)/\SqL K H ra rvs ∧
 RowsL K H rvs rows/\SqL K H ba (bounds.map V.int)/\rows.length=m/\bounds.length=m/\goal.length=q/\(∀ r∈rows,r.length=q)/\m<900/\q<900 ∧
 ∀ (H':Hp) (ca oa ia:Addr) (rs:List Addr),Bd C H' p dx ca oa ia rs m q (Lp.S0 m q (S4 rows) (E9 bounds) (E9 goal))->(∀ b o,b≠p->H b=some o->H' b=some o)->H oa=none->H ia=none->Q .non H'
theorem b3e:m8 ["self","goal","rows","bounds"] ["self","goal","rows","bounds"] (i5 a4t):=⟨rfl,rfl,rfl,by decide +kernel,rfl,by decide +kernel,by decide +kernel⟩
theorem b4a:(["row","bound"]:List Str).Nodup:=by decide +kernel
theorem b6c:(["one"]:List Str).Nodup:=by decide +kernel
noncomputable def b4Y {cdv:Value} {A:Around} {outer:List Env} {s:Shared} {H:Hp} {E:XK} (N:x9 mg) :
  { t:TS // PSs (K7 G5 P w K mg base ["self","goal","rows","bounds"] "Board.__init__" (i5 a4t) f cdv A outer s H E).nox (v6 a4t) t } :=
 ⟨_,i4 (a0j (pv 0) (m6 j6 rfl N.len PySem.boot_len (c5 (pv 1) c6)) rfl)
  (i4 (a0j (pv 0) i3 rfl)
  (p6 (a0j (pv 0) (R8 ["row","bound"] [] rfl (a4L true true K rfl rfl N.zip (c5 (pv 2) (c5 (pv 3) c6)))
   (λ _ _ _ _=>N7 K (n:=2) rfl rfl (j8 (i9 (i:=0) b4a rfl (Or.inl rfl)) (j8 (i9 (i:=1) b4a rfl (Or.inl rfl)) A8)))
   (λ _ _ _ _=>i8 D0 (r8 (a6U K rfl) rfl N.list PyProof.Rows.boot_list (c5 (pv 0) c6)) (v4 (c5 (pv 1) c6)))) rfl)
  (p6 (Q8 (a1l PySem.F.plainAttrs_list PySem.F.slot_list_append PySem.F.type_list_append J8 (v5 (pv 0) rfl)
   (c5 (i8 D0 (R8 ["one"] [] rfl (B9 (pv 1)) (λ _ _ _ _=>i9 (i:=0) b6c rfl (Or.inl rfl)) (λ _ _ _ _=>S3 K6 (pv 0))) (v4 (c5 i3 c6))) c6)))
  (i4 (a0j (pv 0) (r8 (R5 rfl) rfl N.list PyProof.Rows.boot_list (c5 (r8 a1e rfl N.range PyProof.Rows.boot_range (c5 (v5 (pv 0) rfl) c6)) c6)) rfl)
  (i6 (a0j (pv 0) (r8 (R5 rfl) rfl N.list PyProof.Rows.boot_list (c5 (r8 a7H rfl N.range PyProof.Rows.boot_range (c5 (v5 (pv 0) rfl) (c5 (i8 C3 (v5 (pv 0) rfl) (m6 j6 rfl N.len PySem.boot_len (c5 (pv 2) c6))) c6))) c6)) rfl))))))⟩
end
theorem b3f {m q i:Nat} {rows:List (List Int)} {bounds goal row:List Int} {b:Int} (hr:rows[i]?=some row) (hb:bounds[i]?=some b) (hl:row.length=q) (hi:i<m) :
  row++[b]=w8 q (Lp.S0 m q (S4 rows) (E9 bounds) (E9 goal)) i:=by
 refine List.ext_getElem? λ j=>?_;unfold w8
 by_cases hj:j<q+1
 ·rw [List.getElem?_map,List.getElem?_range hj,Option.map_some]
  have hT:(Lp.S0 m q (S4 rows) (E9 bounds) (E9 goal)).T i j=if j<q then S4 rows i j else E9 bounds i:=by
   show (if j<q then (if i<m then _ else _) else (if i<m then _ else _))=_
   rw [if_pos hi,if_pos hi]
  rw [hT]
  by_cases h:j<q
  ·rw [List.getElem?_append_left (by lia),if_pos h]
   unfold S4;rw [List.getD_eq_getElem?_getD,List.getD_eq_getElem?_getD,hr,Option.getD_some,List.getElem?_eq_getElem (by lia),Option.getD_some]
  ·rw [List.getElem?_append_right (by lia),if_neg h,hl,show j - q=0 by lia]
   unfold E9;rw [List.getD_eq_getElem?_getD,hb]; rfl
 ·rw [List.getElem?_eq_none (by simp; lia),List.getElem?_eq_none (by simp; lia)]
theorem b1n {m q:Nat} {rows:List (List Int)} {bounds goal:List Int} (hl:goal.length=q):goal.map (λ x=>-x)++[0]=w8 q (Lp.S0 m q (S4 rows) (E9 bounds) (E9 goal)) m:=by
 refine List.ext_getElem? λ j=>?_;unfold w8
 by_cases hj:j<q+1
 ·rw [List.getElem?_map,List.getElem?_range hj,Option.map_some]
  have hT:(Lp.S0 m q (S4 rows) (E9 bounds) (E9 goal)).T m j=if j<q then - E9 goal j else 0:=by
   show (if j<q then (if m<m then _ else _) else (if m<m then _ else _))=_
   rw [if_neg (Nat.lt_irrefl _),if_neg (Nat.lt_irrefl _)]
  rw [hT]
  by_cases h:j<q
  ·rw [List.getElem?_append_left (by simp; lia),if_pos h,List.getElem?_map]
   unfold E9;rw [List.getD_eq_getElem?_getD,List.getElem?_eq_getElem (by lia),Option.map_some,Option.getD_some]
  ·rw [List.getElem?_append_right (by simp; lia),if_neg h,List.length_map,hl,show j - q=0 by lia]; rfl
 ·rw [List.getElem?_eq_none (by simp; lia),List.getElem?_eq_none (by simp; lia)]
theorem b0W {m q:Nat} {A:Nat->Nat->Int} {b c:Nat->Int}:((List.range q).map λ (i:Nat)=>V.int (0+(i:Int)))=(J7 q (Lp.S0 m q A b c)).map V.int:=by
 unfold J7;rw [List.map_map];refine List.map_congr_left λ j hj=>?_;have h:(Lp.S0 m q A b c).outs j=j:=if_pos (List.mem_range.mp hj);simp [h]
theorem b3n {m q:Nat} {A:Nat->Nat->Int} {b c:Nat->Int}:((List.range m).map λ (i:Nat)=>V.int ((q:Int)+(i:Int)))=(Q0 m (Lp.S0 m q A b c)).map V.int:=by
 unfold Q0;rw [List.map_map];refine List.map_congr_left λ j hj=>?_;have h:(Lp.S0 m q A b c).ins j=q+j:=rfl;simp [h]
section
variable {P:Program} {w:World} {K:W.Frag} {mg:Str->Option Value} {base:Heap} {f g c Pt:Addr} {fd gd:FuncData} {n:Nat} {C:Addr}
theorem W7 {H H':Hp} {a p:Addr} {xs:List V} {C dx:Addr} {fs:List (Str×V)} (hp:H p=some (.ins C dx fs)) (e:∀ b o,b≠p->H b=some o->H' b=some o) (h:SqL K H a xs):SqL K H' a xs:=by
 rcases h with (h | ⟨o,h⟩) | h
 ·exact .inl (.inl (e _ _ (S2 h hp (by intro z; cases z)) h))
 ·exact .inl (.inr ⟨o,e _ _ (S2 h hp (by intro z; cases z)) h⟩)
 ·exact .inr h
theorem b1G (F:Fun K "__init__" "Board.__init__" a4t f fd) (N:x9 mg) (T:TB K C):FnOk P w K mg base G5 (n+1) f fd ["self","goal","rows","bounds"] (a9B K C):=by
 refine F.ok b3e (λ vs H Q E h=>?_) (λ cdv A outer s H vs Q E hr h=>?_)
 ·obtain ⟨p,dx,ga,ra,ba,goal,rvs,rows,bounds,m,q,rfl,_⟩:=h
  rfl
 obtain ⟨p,dx,ga,ra,ba,goal,rvs,rows,bounds,m,q,rfl,hp,hg,hra,hrw,hba,lr,lb,lg,hrl,hm,hq,k⟩:=h;refine ⟨_,(b4Y N).2,?_⟩;have lv:rvs.length=m:=by rw [<- lr]; exact Paired.length hrw
 have k1:∀ b o,b≠p->H b=some o->upd (upd H p (.ins C dx [("many",.int q)])) p (.ins C dx [("many",.int q),("scale",.int 1)]) b=some o:=λ b o hb e=>by rw [c7 hb,c7 hb]; exact e
 refine ⟨_,rfl,ga,_,rfl,.inl hg,_,rfl,p,C,dx,_,rfl,hp,T.cl,T.nM,(by show 0<1000; decide),?_⟩;rw [List.length_map,lg];refine ⟨_,rfl,p,C,dx,_,rfl,upd_same,T.cl,T.nS,(by show 1<1000; decide),?_⟩;refine ⟨λ σ' H4=>∃ (l:Addr) (rs:List Addr),σ'=[some (.ref p),some (.ref ga),some (.ref ra),some (.ref ba)]/\H4 p=some (.ins C dx [("many",.int q),("scale",.int 1),("cells",.ref l)])/\H4 l=some (.lst (rs.map V.ref))/\rs.length=m/\H l=none ∧
  (∀ i a,rs[i]?=some a->a≠l/\H4 a=some (.lst ((w8 q (Lp.S0 m q (S4 rows) (E9 bounds) (E9 goal)) i).map V.int)))/\∀ b o,b≠p->H b=some o->H4 b=some o,?_,?_⟩
 ·refine ⟨_,rfl,_,rfl,ra,ba,rfl,⟨_,W7 hp k1 hra⟩,⟨_,W7 hp k1 hba⟩,λ l hl=>?_⟩
  have nlp:p≠l:=g0 upd_same hl;have hl0:H l=none:=by
   rw [c7 nlp.symm,c7 nlp.symm] at hl; exact hl
  refine a5J (W7 hp k1 hra) (W7 hp k1 hba) hl (by rw [lv]; exact j7 (by lia)) (λ i y H2=>∃ a,y=.ref a/\a≠l/\H2 a=some (.lst ((w8 q (Lp.S0 m q (S4 rows) (E9 bounds) (E9 goal)) i).map V.int)))
   (λ i y H2 H3 ⟨a,h1,h2,h3⟩ e=>⟨a,h1,h2,e a _ h2 h3⟩) (λ i x y H2 zs N' hx hy e hl2 hN=>?_) (λ zs H2 e hl2 len pr=>?_)
  ·obtain ⟨row,hrow,⟨a,rfl,ha⟩⟩:=Paired.at hrw hx
   rw [List.getElem?_map] at hy
   cases hbi:bounds[i]? with
   | none=>rw [hbi] at hy; cases hy
   | some b =>
    rw [hbi] at hy;have hy':V.int b=y:=Option.some.inj hy;subst hy';have hi:i<m:=by rw [<- lb]; exact (List.getElem?_eq_some_iff.mp hbi).1
    have hlen:=hrl row (List.mem_of_getElem? hrow);have ha2:SqL K H2 a (row.map V.int):=e.seq (W7 hp k1 ha);refine ⟨_,rfl,a,_,rfl,.inl ha2,λ a1 h1=>?_⟩;have s1:=Same.new h1 (.lst (row.map V.int));refine ⟨_,rfl,(by show 1<=sizeLine; decide),λ a2 h2=>?_⟩;have s2:=s1.trans (Same.new h2 (.lst [.int b]));have n12:a1≠a2:=g0 upd_same h2;refine ⟨a1,a2,_,_,rfl,rfl,(by rw [c7 n12]; exact upd_same),upd_same,?_,λ a3 h3=>?_⟩
    ·rw [List.length_map,hlen]
     have:=j7 (show q+1<=1000 by lia);simp;lia
    ·refine hN _ _ (s2.trans (Same.new h3 _)) ⟨a3,rfl,λ z=>?_,?_⟩
     ·rw [z,s2 _ _ hl2] at h3; cases h3
     ·rw [upd_same,<- b3f hrow hbi hlen hi,List.map_append]; rfl
  ·have hp2:=e _ _ (upd_same (H:=upd H p (.ins C dx [("many",.int q)])) (a:=p) (o:=.ins C dx [("many",.int q),("scale",.int 1)]))
   refine ⟨_,rfl,p,C,dx,_,rfl,hp2,T.cl,T.nC,(by show 2<1000; decide),?_⟩;have hzs:zs=(zs.map a4G).map V.ref:=by
    rw [List.map_map];refine List.ext_getElem? λ i=>?_;rw [List.getElem?_map]
    cases qi:zs[i]? with
    | none=>rfl
    | some y =>
     obtain ⟨a,rfl,_⟩:=pr i y qi;rfl
   refine ⟨l,zs.map a4G,rfl,upd_same,by rw [c7 nlp.symm,hl2]; rw [<- hzs],by rw [List.length_map,len,lv,List.length_map,lb]; lia,hl0,λ i a hi=>?_,λ b o hb hbo=>by rw [c7 hb]; exact e _ _ (k1 b o hb hbo)⟩;rw [List.getElem?_map] at hi
   cases qi:zs[i]? with
   | none=>rw [qi] at hi; cases hi
   | some y =>
    obtain ⟨a',rfl,h2,h3⟩:=pr i y qi;rw [qi] at hi;have:a'=a:=Option.some.inj hi;subst this;refine ⟨h2,?_⟩;rw [c7 (λ z=>by rw [z,hp2] at h3; cases h3)];exact h3
 intro σ' H4 hM_; refine I0 λ G_ hG_=>?_; obtain ⟨l,rs,rfl,hp4,hl4,hlen,hl0,hrs,hk⟩:=hM_; subst hG_;have nlp:l≠p:=(g0 hp hl0).symm;refine ⟨λ σ' H5=>∃ rs':List Addr,σ'=[some (.ref p),some (.ref ga),some (.ref ra),some (.ref ba)]/\H5 p=some (.ins C dx [("many",.int q),("scale",.int 1),("cells",.ref l)])/\H5 l=some (.lst (rs'.map V.ref))/\rs'.length=m+1 ∧
  (∀ i a,rs'[i]?=some a->a≠l/\H5 a=some (.lst ((w8 q (Lp.S0 m q (S4 rows) (E9 bounds) (E9 goal)) i).map V.int)))/\∀ b o,b≠p->H b=some o->H5 b=some o,?_,?_⟩
 ·refine ⟨_,rfl,p,C,dx,_,_,rfl,hp4,T.cl,T.nC,rfl,.inl ⟨rfl,_,SqL.of hl4⟩,?_⟩
  have hg4:=W7 hp hk hg;refine ⟨_,rfl,ga,rfl,⟨_,hg4⟩,λ a1 h1=>?_⟩;refine R1 (y6 hg4) h1 (by rw [List.length_map,lg]; exact j7 (by lia)) (λ x=>.int (-(vI x))) (λ i x H' N' hx e hN=>?_) ?_
  ·obtain ⟨x',rfl,_⟩:=a0t hx
   exact ⟨Wk.set (by decide),_,rfl,_,rfl,hN⟩
  have eg:(goal.map V.int).map (λ x=>V.int (-(vI x)))=(goal.map λ x=>-x).map V.int:=by rw [List.map_map,List.map_map]; rfl
  rw [eg];have s1:=Same.new h1 (.lst ((goal.map λ x=>-x).map V.int));refine ⟨(by show 1<=sizeLine; decide),λ a2 h2=>?_⟩;have s2:=s1.trans (Same.new h2 (.lst [.int 0]));have n12:a1≠a2:=g0 upd_same h2;refine ⟨a1,a2,_,_,rfl,rfl,(by rw [c7 n12]; exact upd_same),upd_same,?_,λ a3 h3=>?_⟩
  ·rw [List.length_map,List.length_map,lg]
   have:=j7 (show q+1<=1000 by lia);simp;lia
  have s3:=s2.trans (Same.new h3 (.lst ((goal.map λ x=>-x).map V.int++[.int 0])));refine ⟨l,_,_,rfl,rfl,s3 _ _ hl4,(by rw [List.length_map,hlen]; exact j7 (by lia)),?_⟩;have n3l:a3≠l:=λ z=>by rw [z,s2 _ _ hl4] at h3; cases h3
  have n3p:a3≠p:=λ z=>by rw [z,s2 _ _ hp4] at h3; cases h3
  refine ⟨rs++[a3],rfl,by rw [c7 nlp.symm]; exact s3 _ _ hp4,by rw [upd_same,List.map_append]; rfl,by rw [List.length_append,hlen]; rfl,λ i a hi=>?_,λ b o hb hbo=>by rw [c7 (g0 hbo hl0)]; exact s3 _ _ (hk b o hb hbo)⟩
  by_cases him:i<m
  ·rw [List.getElem?_append_left (by lia)] at hi
   obtain ⟨g1,g2⟩:=hrs i a hi;exact ⟨g1,by rw [c7 g1]; exact s3 _ _ g2⟩
  ·rw [List.getElem?_append_right (by lia)] at hi
   have hi0:i - rs.length=0:=by
    cases z:i - rs.length with
    | zero=>rfl
    | succ j=>rw [z] at hi; simp at hi
   rw [hi0] at hi;have:a3=a:=Option.some.inj hi;subst this;have:i=m:=by lia
   subst this;refine ⟨n3l,?_⟩;rw [c7 n3l,upd_same,<- b1n lg,List.map_append]; rfl
 intro σ' H5 hM_; refine I0 λ G_ hG_=>?_; obtain ⟨rs',rfl,hp5,hl5,hlen5,hrs5,hk5⟩:=hM_; subst hG_;refine ⟨_,rfl,p,C,dx,_,_,rfl,hp5,T.cl,T.nM,rfl,q,rfl,λ r1 h1=>?_⟩;have s1:=Same.new h1 (.rng 0 (q:Int));refine ⟨r1,0,q,rfl,by rw [upd_same,Int.zero_add],by lia,by lia,by lia,λ oa hoa=>?_⟩;have s2:=s1.trans (Same.new hoa (.lst ((List.range q).map λ (i:Nat)=>V.int (0+(i:Int)))));have noa5:H5 oa=none:=by
  cases z:H5 oa with
  | none=>rfl
  | some o=>rw [s1 _ _ z] at hoa; cases hoa
 have nop:oa≠p:=(g0 hp5 noa5).symm;refine ⟨_,rfl,p,C,dx,_,rfl,s2 _ _ hp5,T.cl,T.nO,(by show 3<1000; decide),?_⟩;have hra5:=W7 hp hk5 hra;have lp5:SqL K (upd (upd (upd H5 r1 (.rng 0 (q:Int))) oa (.lst ((List.range q).map λ (i:Nat)=>V.int (0+(i:Int))))) p (.ins C dx [("many",.int q),("scale",.int 1),("cells",.ref l),("outs",.ref oa)])) ra rvs :=
  W7 (s2 _ _ hp5) (λ b o hb e=>by rw [c7 hb]; exact e) (s2.seq hra5)
 refine ⟨_,rfl,p,C,dx,_,_,rfl,upd_same,T.cl,T.nM,rfl,_,rfl,p,C,dx,_,_,rfl,upd_same,T.cl,T.nM,rfl,_,rfl,ra,_,rfl,.inl lp5,_,_,rfl,rfl,_,_,rfl,λ r2 h2=>?_⟩;rw [lv];refine ⟨r2,(q:Int),m,rfl,upd_same,by lia,by lia,by lia,λ ia hia=>?_⟩;have n2p:r2≠p:=(g0 upd_same h2).symm;have nip:ia≠p:=by
  refine (g0 (H:=_) (o:=.ins C dx [("many",.int q),("scale",.int 1),("cells",.ref l),("outs",.ref oa)]) ?_ hia).symm;rw [c7 n2p.symm,upd_same]; rfl
 have oa6:∀ o,upd (upd (upd H5 r1 (.rng 0 (q:Int))) oa o) p (.ins C dx [("many",.int q),("scale",.int 1),("cells",.ref l),("outs",.ref oa)]) oa=some o:=λ o=>by rw [c7 nop,upd_same]
 have n2o:r2≠oa:=(g0 (oa6 _) h2).symm;have nio:ia≠oa:=by
  refine (g0 (H:=_) (o:=.lst ((List.range q).map λ (i:Nat)=>V.int (0+(i:Int)))) ?_ hia).symm;rw [c7 n2o.symm]; exact oa6 _
 have up:∀ b o,b≠p->H5 b=some o->b≠ia/\b≠r2/\upd (upd H5 r1 (.rng 0 (q:Int))) oa (.lst ((List.range q).map λ (i:Nat)=>V.int (0+(i:Int)))) b=some o:=λ b o hb e=>by
  have e2:=s2 _ _ e;have nb2:b≠r2:=by
   refine g0 (H:=_) (o:=o) ?_ h2;rw [c7 hb]; exact e2
  refine ⟨?_,nb2,e2⟩;refine g0 (H:=_) (o:=o) ?_ hia;rw [c7 nb2,c7 hb]; exact e2
 refine ⟨_,rfl,p,C,dx,_,rfl,(by rw [c7 nip.symm,c7 n2p.symm]; exact upd_same),T.cl,T.nI,(by show 4<1000; decide),?_⟩;have fin:∀ b o,b≠p->H5 b=some o->upd (upd (upd (upd (upd (upd H5 r1 (.rng 0 (q:Int))) oa (.lst ((List.range q).map λ (i:Nat)=>V.int (0+(i:Int))))) p (.ins C dx [("many",.int q),("scale",.int 1),("cells",.ref l),("outs",.ref oa)])) r2 (.rng (q:Int) ((q:Int)+(m:Int)))) ia (.lst ((List.range m).map λ (i:Nat)=>V.int ((q:Int)+(i:Int))))) p (.ins C dx [("many",.int q),("scale",.int 1),("cells",.ref l),("outs",.ref oa),("ins",.ref ia)]) b=some o:=λ b o hb e=>by
  obtain ⟨g1,g2,g3⟩:=up b o hb e;rw [c7 hb,c7 g1,c7 g2,c7 hb]; exact g3
 have ia5:H5 ia=none:=by
  cases z:H5 ia with
  | none=>rfl
  | some o=>exact absurd rfl (up ia o nip z).1
 have back:∀ b,b≠p->H5 b=none->H b=none:=λ b hb z=>by
  cases z2:H b with
  | none=>rfl
  | some o=>rw [hk5 b o hb z2] at z; cases z
 refine k _ l oa ia rs' ⟨upd_same,fin _ _ nlp hl5,hlen5,λ i a hi=>fin _ _ (λ z=>?_) (hrs5 i a hi).2,?_,?_,nio.symm⟩ (λ b o hb hbo=>fin b o hb (hk5 b o hb hbo)) (back _ nop noa5) (back _ nip ia5)
 ·have:=(hrs5 i a hi).2
  rw [z,hp5] at this; cases this
 ·rw [c7 nop,c7 nio.symm,c7 n2o.symm,c7 nop,upd_same,b0W]
 ·rw [c7 nip,upd_same,b3n]
end
section
variable {P:Program} {w:World} {K:W.Frag} {mg:Str->Option Value} {base:Heap} {f Pt:Addr} {fd:FuncData} {n:Nat} {C:Addr}
def P3 (K:W.Frag) (C Pt:Addr):Sp:=λ vs H Q _=>∃ (ga ra ba:Addr) (goal:List Int) (rvs:List V) (rows:List (List Int)) (bounds:List Int) (m q M:Nat),vs=[.ref ga,.ref ra,.ref ba]/\SqL K H ga (goal.map V.int)/\SqL K H ra rvs ∧
 RowsL K H rvs rows/\SqL K H ba (bounds.map V.int)/\rows.length=m/\bounds.length=m/\goal.length=q/\(∀ r∈rows,r.length=q)/\m<900/\q<900/\(∀ i,i<m->0<=E9 bounds i) ∧
 (∀ v,Lp.Fits M (m+1) (Lp.Vv m q (S4 rows) (E9 bounds) (E9 goal) v))/\Lp.bnd M (m+1)<2 ^ 4000/\LT Pt H ∧
 (∀ (S:Lp.Bo) (H':Hp) (t aa wa:Addr),Lp.Of m q (S4 rows) (E9 bounds) (E9 goal) S->(∀ j,j<q->¬ S.T m j<0)->Sz 4000 m q S->Same1 Pt H H'->LT Pt H'->H' t=some (.tup [.int (S.T m q),.ref aa,.ref wa,.int S.d]) →
  H' aa=some (.lst ((p7 m q S).map V.int))->H' wa=some (.lst ((C6 m q S).map V.int))->Q (.ref t) H') ∧
 ∀ (S:Lp.Bo) (H':Hp) (c:Nat),Lp.Of m q (S4 rows) (E9 bounds) (E9 goal) S->c<q->S.T m c<0->(∀ i,i<m->¬ 0<S.T i c)->Same1 Pt H H'->LT Pt H'->Q .non H'
theorem scGr:m8 ["goal","rows","bounds","board","column","row"] ["goal","rows","bounds"] (i5 K2):=⟨rfl,rfl,rfl,by decide +kernel,rfl,by decide +kernel,by decide +kernel⟩
structure b4r (P:Program) (w:World) (K:W.Frag) (mg:Str->Option Value) (base:Heap) (n:Nat) (C Pt:Addr) (f1 f2 f3 f4 f5 f6:Addr) (d1 d2 d3 d4 d5 d6:FuncData):Prop where
 mak:Mk K C f1
 ini:FnOk P w K mg base G5 n f1 d1 ["self","goal","rows","bounds"] (a9B K C)
 inb:Binds K d1 ["self","goal","rows","bounds"] []
 mC:mg "Board"=some (.ref C)
 com:a7W P w K mg base n C "coming" ["self"] (a1W C Pt) f2 d2
 goi:a7W P w K mg base n C "going" ["self","column"] (a6t C) f3 d3
 exc:a7W P w K mg base n C "exchange" ["self","row","column"] (a2i C) f4 d4
 amt:a7W P w K mg base n C "amounts" ["self"] (a8X C) f5 d5
 wts:a7W P w K mg base n C "weights" ["self"] (b1T C) f6 d6
noncomputable def grT {cdv:Value} {A:Around} {outer:List Env} {s:Shared} {H:Hp} {E:XK} {f1 f2 f3 f4 f5 f6:Addr} {d1 d2 d3 d4 d5 d6:FuncData} (T:TB K C) (G:b4r P w K mg base n C Pt f1 f2 f3 f4 f5 f6 d1 d2 d3 d4 d5 d6)
  (hr:Room (n+1) (A.deeper (PyProof.Rows.envOfC "greatest" (i5 K2) s.heap.objs.size f cdv))) (hr0:Room n (A.deeper (PyProof.Rows.envOfC "greatest" (i5 K2) s.heap.objs.size f cdv))) :
  { t:TS // PSs (K7 G5 P w K mg base ["goal","rows","bounds","board","column","row"] "greatest" (i5 K2) f cdv A outer s H E).nox (v6 K2) t } :=
 ⟨_,i4 (j4 (i:=3) scGr.nd rfl (Or.inl rfl) (b1a G.mak G.ini hr rfl G.mC G.inb .nil w4 (c5 (pv 0) (c5 (pv 1) (c5 (pv 2) c6)))))
  (i4 (j4 (i:=4) scGr.nd rfl (Or.inl rfl) (a0F (pv 3) T.cl G.com.me G.com.ok hr0 G.com.bd .nil w4))
  (i4 (a2v PassesOwn.never (m9 a6g (pv 4) N9 (r6 _))
   (i4 (j4 (i:=5) scGr.nd rfl (Or.inl rfl) (a3p (pv 3) T.cl G.goi.me G.goi.ok hr0 G.goi.bd .nil w4 (c5 (pv 4) c6)))
   (i4 (A6 (m9 a0X (pv 5) N9 (r6 _)) (i6 (r9 N9)) t7)
   (i4 (Q8 (a3p (pv 3) T.cl G.exc.me G.exc.ok hr0 G.exc.bd .nil w4 (c5 (pv 5) (c5 (pv 4) c6))))
   (i6 (j4 (i:=4) scGr.nd rfl (Or.inl rfl) (a0F (pv 3) T.cl G.com.me G.com.ok hr0 G.com.bd .nil w4)))))))
  (i6 (r9 (U7 (c5 (j3 i7 (j3 i7 (v5 (pv 3) rfl) (S3 K6 i3) (λ _ _=>rfl)) (S3 K6 i3) (λ _ _=>rfl))
   (c5 (a0F (pv 3) T.cl G.amt.me G.amt.ok hr0 G.amt.bd .nil w4) (c5 (a0F (pv 3) T.cl G.wts.me G.wts.ok hr0 G.wts.bd .nil w4) (c5 (v5 (pv 3) rfl) c6)))))))))⟩
end
section
variable {P:Program} {w:World} {K:W.Frag} {mg:Str->Option Value} {base:Heap} {f Pt:Addr} {fd:FuncData} {n:Nat} {C:Addr}
theorem RowsL.same {H H':Hp} {vs:List V} {rs:List (List Int)} (e:Same H H') (x:RowsL K H vs rs):RowsL K H' vs rs:=Paired.imp' (λ _ _ ⟨a,z,q⟩=>⟨a,z,e.seq q⟩) x
theorem b1V {m q M:Nat} {A:Nat->Nat->Int} {b c:Nat->Int} {S:Lp.Bo} (O:Lp.Of m q A b c S) (hM:∀ v,Lp.Fits M (m+1) (Lp.Vv m q A b c v)) (hb:Lp.bnd M (m+1)<2 ^ 4000):Sz 4000 m q S :=
 ⟨λ i j hi hj=>Nat.lt_of_le_of_lt (O.w.bndT hM hi hj) hb,Nat.lt_of_le_of_lt (O.w.bndd hM) hb⟩
def Cv (m q:Nat) (S:Lp.Bo) (cv:V):Prop:=(cv=.non/\∀ j,j<q->¬ S.T m j<0)\/∃ c:Nat,cv=.int c/\c<q/\S.T m c<0/\∀ i,i<q->S.T m i<0->S.outs c<=S.outs i
theorem a4R {f1 f2 f3 f4 f5 f6:Addr} {d1 d2 d3 d4 d5 d6:FuncData} (F:Fun K "greatest" "greatest" K2 f fd) (T:TB K C) (G:b4r P w K mg base n C Pt f1 f2 f3 f4 f5 f6 d1 d2 d3 d4 d5 d6) :
  FnOk P w K mg base G5 (n+2) f fd ["goal","rows","bounds"] (P3 K C Pt):=by
 refine F.ok scGr (λ vs H Q E h=>?_) (λ cdv A outer s H vs Q E hr h=>?_)
 ·obtain ⟨ga,ra,ba,goal,rvs,rows,bounds,m,q,M,rfl,_⟩:=h
  rfl
 obtain ⟨ga,ra,ba,goal,rvs,rows,bounds,m,q,M,rfl,hg,hra,hrw,hba,lr,lb,lg,hrl,hm,hq,hbn,hM,hB,L,kT,kN⟩:=h;refine ⟨_,(grT T G hr (hr.mono (by lia))).2,?_⟩;refine ⟨_,rfl,_,rfl,_,rfl,λ p dx hp hdx hne=>?_⟩;have e0:Same H (upd (upd H dx (.own p)) p (.ins C dx [])):=λ b o q'=>by rw [c7 (g0 q' hp),c7 (g0 q' hdx)]; exact q'
 refine ⟨p,dx,ga,ra,ba,goal,rvs,rows,bounds,m,q,rfl,upd_same,e0.seq hg,e0.seq hra,hrw.same e0,e0.seq hba,lr,lb,lg,hrl,hm,hq,λ H1 ca oa ia rs B k1 hoa hia=>⟨rfl,?_⟩⟩;have nop:oa≠p:=S2 B.out B.obj (by intro z; cases z);have nip:ia≠p:=S2 B.inn B.obj (by intro z; cases z);have hoa0:H oa=none:=by
  cases z:H oa with
  | none=>rfl
  | some o=>rw [e0 _ _ z] at hoa; cases hoa
 have hia0:H ia=none:=by
  cases z:H ia with
  | none=>rfl
  | some o=>rw [e0 _ _ z] at hia; cases hia
 have s1:Same H H1:=λ b o z=>k1 b o (g0 z hp) (e0 _ _ z);have L1:LT Pt H1:=L.same s1;have O0:=Lp.of0 (A:=S4 rows) (c:=E9 goal) (q:=q) hbn;have come:∀ (S:Lp.Bo) (ca:Addr) (rs:List Addr) (H2:Hp) (R:V->Hp->Prop),Bd C H2 p dx ca oa ia rs m q S->LT Pt H2->Same1 Pt H H2->(∀ cv H3,Cv m q S cv->Bd C H3 p dx ca oa ia rs m q S->LT Pt H3->Same1 Pt H H3->R cv H3) →
   a1W C Pt [.ref p] H2 R E0:=λ S ca rs H2 R B2 L2 e2 hR=>by
  refine ⟨p,dx,ca,oa,ia,rs,m,q,S,rfl,B2,by lia,L2,λ H3 e3 L3=>?_⟩;have B3:=B2.lam L2 e3;have e4:Same1 Pt H H3:=λ b o hb z=>e3 b o hb (e2 b o hb z);exact ⟨λ hn=>hR _ _ (.inl ⟨rfl,hn⟩) B3 L3 e4,λ j hj hneg hmin=>hR _ _ (.inr ⟨j,rfl,hj,hneg,hmin⟩) B3 L3 e4⟩
 refine ⟨_,rfl,p,dx,_,rfl,B.obj,rfl,?_⟩;unfold b0O;refine come _ _ _ _ _ B L1 (λ b o _ z=>s1 b o z) λ cv H2 hcv B2 L2 e2=>?_;obtain ⟨kk,hkk⟩:=O0.w.ends hM;refine ⟨λ j σ H3=>∃ (S:Lp.Bo) (ca:Addr) (rs:List Addr) (cv:V) (o5:Option V),σ=[some (.ref ga),some (.ref ra),some (.ref ba),some (.ref p),some cv,o5]/\Lp.Of m q (S4 rows) (E9 bounds) (E9 goal) S/\Lp.Ends m q S j/\Cv m q S cv/\Bd C H3 p dx ca oa ia rs m q S/\LT Pt H3/\Same1 Pt H H3,
  ⟨kk,_,ca,rs,cv,_,rfl,O0,hkk,hcv,B2,L2,e2⟩,?_⟩
 rintro j σ H3 ⟨S,ca,rs,cv,o5,rfl,O,hE,hcv,B3,L3,e3⟩;have sz:=b1V O hM hB;refine ⟨_,rfl,rfl,_,rfl,?_⟩;rcases hcv with ⟨rfl,hn⟩ | ⟨c,rfl,hc,hneg,hmin⟩
 ·refine D9 (λ z=>?_) (λ _=>?_)
  ·exact absurd z (by decide)
  obtain ⟨rm,em,am⟩:=B3.rs_last;refine ⟨_,rfl,p,C,dx,_,_,rfl,B3.obj,T.cl,T.nC,rfl,_,rfl,ca,_,_,_,rfl,rfl,SqL.of B3.cel,am,_,rfl,rm,_,_,_,rfl,rfl,SqL.of (B3.row m rm em),Y4,?_⟩;refine ⟨_,rfl,p,dx,_,rfl,B3.obj,rfl,?_⟩;refine ⟨p,dx,ca,oa,ia,rs,m,q,S,rfl,B3,hm,hq,O.w.ii,λ aa H4 e4 haa h4=>?_⟩;have B4:Bd C H4 p dx ca oa ia rs m q S:=B3.same1 (P:=Pt) λ b o z _=>e4 b o z;refine ⟨_,rfl,p,dx,_,rfl,B4.obj,rfl,?_⟩;refine ⟨p,dx,ca,oa,ia,rs,m,q,S,rfl,B4,hm,hq,O.w.oo,O.w.ob,λ wa H5 e5 hwa h5=>?_⟩;have B5:Bd C H5 p dx ca oa ia rs m q S:=B4.same1 (P:=Pt) λ b o z _=>e5 b o z;refine ⟨_,rfl,p,C,dx,_,_,rfl,B5.obj,T.cl,T.nS,rfl,(by show 4<=sizeLine; decide),λ t ht=>?_⟩;have e6:=(e4.trans e5).trans (Same.new ht (.tup [.int (S.T m q),.ref aa,.ref wa,.int S.d]));refine kT S _ t aa wa O hn sz (λ b o hb z=>e6 b o (e3 b o hb z)) (L3.same e6) upd_same ?_ ?_
  ·rw [c7 (g0 (e5 _ _ h4) ht)]; exact e5 _ _ h4
  ·rw [c7 (g0 h5 ht)]; exact h5
 ·refine D9 (λ _=>?_) (λ z=>absurd rfl z)
  refine ⟨λ σ' H'=>∃ j',j'<j/\∃ (S:Lp.Bo) (ca:Addr) (rs:List Addr) (cv:V) (o5:Option V),σ'=[some (.ref ga),some (.ref ra),some (.ref ba),some (.ref p),some cv,o5]/\Lp.Of m q (S4 rows) (E9 bounds) (E9 goal) S/\Lp.Ends m q S j'/\Cv m q S cv/\Bd C H' p dx ca oa ia rs m q S/\LT Pt H'/\Same1 Pt H H',λ σ' H' z=>z,?_⟩;refine ⟨_,rfl,p,dx,_,rfl,B3.obj,rfl,_,rfl,?_⟩;refine ⟨p,dx,ca,oa,ia,rs,m,q,S,c,rfl,B3,sz,by lia,by lia,λ hnone=>?_,λ r hrm hpos hbet=>?_⟩
  ·refine ⟨_,rfl,rfl,_,rfl,?_⟩
   refine D9 (λ _=>?_) (λ z=>absurd (decide_eq_true rfl) z);exact kN S H3 c O hc hneg hnone e3 L3
  ·have Ch:Lp.Choice m q S r c:=⟨hc,hneg,hmin,hrm,hpos,λ i hi hp'=>(hbet i hi hp').1,λ i hi hp'=>(hbet i hi hp').2⟩
   refine ⟨_,rfl,rfl,_,rfl,?_⟩;refine D9 (λ z=>absurd (of_decide_eq_true z) (by nofun)) (λ _=>?_);refine ⟨_,rfl,p,dx,_,rfl,B3.obj,rfl,_,rfl,_,rfl,?_⟩;refine ⟨p,dx,ca,oa,ia,rs,m,q,S,r,c,rfl,B3,sz,hrm,hc,hm,hq,O.w.pos,λ H4 ca' rs' B4 k4=>?_⟩;have e4:Same1 Pt H H4:=λ b o hb z=>k4 b o (g0 z hp) (g0 z hoa0) (g0 z hia0) (e3 b o hb z);have tk:∀ b o,H3 b=some o->(∀ C dx fs,o≠.ins C dx fs)->(∀ xs,o≠.lst xs)->H4 b=some o:=λ b o z n1 n2=>k4 b o (λ y=>by subst y; rw [B3.obj] at z; exact n1 _ _ _ (Option.some.inj z).symm) (λ y=>by subst y; rw [B3.out] at z; exact n2 _ (Option.some.inj z).symm) (λ y=>by subst y; rw [B3.inn] at z; exact n2 _ (Option.some.inj z).symm) z;have L4:LT Pt H4:=by
    rcases L3 with t | ⟨c',t1,t2⟩
    ·exact .inl (tk _ _ t (λ _ _ _=>nofun) λ _=>nofun)
    ·exact .inr ⟨c',tk _ _ t1 (λ _ _ _=>nofun) λ _=>nofun,tk _ _ t2 (λ _ _ _=>nofun) λ _=>nofun⟩
   refine ⟨_,rfl,p,dx,_,rfl,B4.obj,rfl,?_⟩;refine come _ _ _ _ _ B4 L4 e4 λ cv' H5 hcv' B5 L5 e5=>?_;obtain ⟨j',hj',hE'⟩:=hE.next O.w Ch;exact ⟨j',hj',_,ca',rs',cv',_,rfl,O.piv Ch,hE',hcv',B5,L5,e5⟩
end
section
variable {P:Program} {w:World} {K:W.Frag} {mg:Str->Option Value} {base:Heap} {f g:Addr} {fd gd:FuncData}
def a3z (K:W.Frag):Sp:=λ vs H Q _=>∃ (a:Addr) (ns:List Int) (k:Int),vs=[.ref a,.int k]/\SqL K H a (ns.map V.int)/\0<=k/\∀ c:Int,Q (.int c) H
theorem b2R:m8 ["script","k"] ["script","k"] (i5 a9q):=⟨rfl,rfl,rfl,by decide +kernel,rfl,by decide +kernel,by decide +kernel⟩
theorem b3q {ns:List Int} {k:Int} (h0:0<=k) (h:k<((ns.map V.int).length:Int)):∃ v:Int,atI (ns.map V.int) k=some (.int v):=by
 have hl:(ns.map V.int).length=ns.length:=List.length_map _;have hk:k.toNat<ns.length:=by lia
 have ek:k=((k.toNat:Nat):Int):=by lia
 have q:atI (ns.map V.int) ((k.toNat:Nat):Int)=some (.int ns[k.toNat]):=t9 (by rw [List.getElem?_map,List.getElem?_eq_getElem hk]; rfl);rw [<- ek] at q;exact ⟨_,q⟩
theorem b1q {n:Nat} (F:Fun K "_law_cell_at" "_law_cell_at" a9q f fd) (T:x9 mg):FnOk P w K mg base G5 (n+1) f fd ["script","k"] (a3z K):=by
 refine F.ok b2R (λ vs H Q E h=>?_) (λ cdv A outer s H vs Q E hr h=>?_)
 ·obtain ⟨a,ns,k,rfl,_⟩:=h
  rfl
 obtain ⟨a,ns,k,rfl,hS,h0,q⟩:=h;refine ⟨_,i4 (A6 (m9 Z8 (pv 1) (m6 j6 rfl T.len PySem.boot_len (c5 (pv 0) c6)) (r6 _)) (i6 (r9 (j3 i7 (pv 0) (pv 1) (λ _ _=>rfl)))) t7)
  (i6 (r9 i3)),?_⟩
 refine ⟨_,rfl,_,rfl,a,_,rfl,.inl hS,_,_,rfl,rfl,_,rfl,?_⟩;refine D9 (λ c=>?_) (λ c=>?_)
 ·obtain ⟨v,hv⟩:=b3q h0 (of_decide_eq_true c)
  exact ⟨_,rfl,_,rfl,a,_,_,_,rfl,rfl,hS,hv,q v⟩
 ·exact q 0
def a1y (K:W.Frag):Sp:=λ vs H Q _=>∃ (c:Int) (many:Nat) (b:Int),vs=[.int c,.int (many:Int),.int b]/\many<=900/\0<b/\b<1073741824 ∧
 ∀ (r:Addr) (H':Hp) (ds:List Int),Same H H'->H' r=some (.lst (ds.map V.int))->ds.length=many->(∀ d∈ds,0<=d/\d<b)->Q (.ref r) H'
theorem scDraws:m8 ["cell","many","base","found","rest","stirred","k"] ["cell","many","base"] (i5 a6b):=⟨rfl,rfl,rfl,by decide +kernel,rfl,by decide +kernel,by decide +kernel⟩
theorem a9K {n:Nat} (F:Fun K "_law_draws" "_law_draws" a6b f fd) (T:x9 mg):FnOk P w K mg base G5 (n+1) f fd ["cell","many","base"] (a1y K):=by
 refine F.ok scDraws (λ vs H Q E h=>?_) (λ cdv A outer s H vs Q E hr h=>?_)
 ·obtain ⟨a,ns,k,rfl,_⟩:=h
  rfl
 obtain ⟨c,many,b,rfl,hm,hb0,hb1,q⟩:=h;refine ⟨_,i4 (j4 (i:=3) scDraws.nd rfl (Or.inl rfl) (v4 c6))
  (i4 (j4 (i:=4) scDraws.nd rfl (Or.inl rfl) (i8 T5 (pv 0) (r8 a2Q rfl T.int PyProof.Rows.boot_int (c5 (Q4 a8v (pv 0) (i8 a3y i3 i3) (r6 _)) c6))))
  (i4 (j4 (i:=5) scDraws.nd rfl (Or.inl rfl) (i8 x6 (pv 0) i3))
  (i4 (P4 PassesOwn.never rfl (K3 rfl T.range (c5 (i8 C3 (pv 1) i3) c6)) (i9 (i:=6) scDraws.nd rfl (Or.inl rfl))
   (i4 (j4 (i:=5) scDraws.nd rfl (Or.inl rfl) (i8 x6 (i8 C3 (i8 C3 (i8 C3 (i8 T5 (pv 5) (pv 5)) (i8 T5 i3 (pv 5))) (pv 6)) i3) i3))
    (i6 (A6 (PW.pt (a5V (m9 a0q (pv 6) i3 (r6 _)) (a3s (m9 a0q (pv 4) i3 (r6 _)))))
     (i4 (Q8 (a1l PySem.F.plainAttrs_list PySem.F.slot_list_append PySem.F.type_list_append J8 (pv 3) (c5 (i8 x6 (pv 4) (pv 2)) c6))) (i6 (j4 (i:=4) scDraws.nd rfl (Or.inl rfl) (i8 Z2 (pv 4) (pv 2)))))
     (i6 (A6 (m9 a0q (pv 6) i3 (r6 _)) (i6 (Q8 (a1l PySem.F.plainAttrs_list PySem.F.slot_list_append PySem.F.type_list_append J8 (pv 3) (c5 (i8 x6 (i8 Z2 (pv 5) i3) (pv 2)) c6)))) t7))))))
  (i6 (r9 (pv 3)))))),?_⟩
 refine ⟨(by show 0<=sizeLine; decide),λ fl hfl=>?_⟩;refine ⟨_,rfl,_,rfl,_,_,rfl,rfl,⟨by decide,by decide,by decide⟩,_,_,rfl,rfl,.inr ⟨_,rfl,_,_,rfl,rfl,.inr ?_,?_⟩⟩
 ·constructor <;> (split <;> decide)
 refine ⟨_,rfl,_,_,rfl,rfl,(by show (0:Int)<2305843009213693951; decide),?_⟩;refine ⟨_,rfl,_,_,rfl,rfl,((many:Int)+3),rfl,by lia,by lia,?_⟩;have e3:((many:Int)+3).toNat=many+3:=by lia
 rw [e3];refine Y2 (n:=many+3) (λ i σ H'=>∃ (r st:Int) (ds:List Int) (ks:Option V),σ=[some (.int c),some (.int (many:Int)),some (.int b),some (.ref fl),some (.int r),some (.int st),ks]/\H'=upd H fl (.lst (ds.map V.int))/\ds.length=i - 3/\(∀ d∈ds,0<=d/\d<b)/\0<=st/\st<2305843009213693951)
  ⟨_,_,[],none,rfl,rfl,rfl,λ d hd=>(by cases hd),Int.emod_nonneg _ (by decide),Int.emod_lt_of_pos _ (by decide)⟩ ?_ ?_
 ·rintro i σ H' hi ⟨r,st,ds,ks,rfl,rfl,hl,hd,hs0,hs1⟩
  refine ⟨_,rfl,_,rfl,_,_,rfl,rfl,.inl ⟨by lia,by lia⟩,_,rfl,_,_,rfl,rfl,.inl ⟨by decide,by decide⟩,_,_,rfl,rfl,_,rfl,_,_,rfl,rfl,_,_,rfl,rfl,_,_,rfl,rfl,(by show (0:Int)<2305843009213693951; decide),?_⟩;have hs0':0<=(st*st+48271*st+(0+(i:Int))+1) % 2305843009213693951:=Int.emod_nonneg _ (by decide);have hs1':(st*st+48271*st+(0+(i:Int))+1) % 2305843009213693951<2305843009213693951:=Int.emod_lt_of_pos _ (by decide);refine ⟨_,rfl,_,_,rfl,rfl,_,rfl,?_⟩;have hz:(ds.map V.int).length<sizeLine:=by rw [List.length_map]; exact j7 (by lia)
  have more:∀ d:Int,(ds.map V.int)++[V.int d]=(ds++[d]).map V.int:=λ d=>by rw [List.map_append]; rfl
  have mem:∀ d:Int,0<=d->d<b->∀ d'∈ds++[d],0<=d'/\d'<b:=λ d h0 h1 d' hd'=>by
   rcases List.mem_append.mp hd' with z | z
   ·exact hd d' z
   ·rw [List.mem_singleton.mp z]; exact ⟨h0,h1⟩
  refine D9 (λ c1=>?_) (λ c1=>?_)
  ·have c1':2<0+(i:Int):=of_decide_eq_true c1
   refine ⟨_,rfl,_,_,rfl,rfl,_,rfl,?_⟩;refine D9 (λ c2=>?_) (λ c2=>?_)
   ·refine ⟨_,rfl,.inl ⟨rfl,_,SqL.of upd_same⟩,_,rfl,_,rfl,_,_,rfl,rfl,hb0,fl,_,_,rfl,rfl,upd_same,hz,?_⟩
    refine ⟨_,rfl,_,rfl,_,_,rfl,rfl,⟨hb0,hb1⟩,?_⟩;refine ⟨_,_,ds++[r % b],_,rfl,?_,?_,mem _ (Int.emod_nonneg _ (by lia)) (Int.emod_lt_of_pos _ hb0),hs0',hs1'⟩
    ·rw [a1E,more]
    ·rw [List.length_append,List.length_singleton]; lia
   ·refine ⟨_,rfl,_,_,rfl,rfl,_,rfl,?_⟩
    refine D9 (λ c3=>?_) (λ c3=>absurd c1 c3);refine ⟨_,rfl,.inl ⟨rfl,_,SqL.of upd_same⟩,_,rfl,_,_,rfl,rfl,⟨by decide,by decide⟩,_,rfl,_,_,rfl,rfl,hb0,fl,_,_,rfl,rfl,upd_same,hz,?_⟩;refine ⟨_,_,ds++[(st*st+48271*st+(0+(i:Int))+1) % 2305843009213693951 / 4096 % b],_,rfl,?_,?_,mem _ (Int.emod_nonneg _ (by lia)) (Int.emod_lt_of_pos _ hb0),hs0',hs1'⟩
    ·rw [a1E,more]
    ·rw [List.length_append,List.length_singleton]; lia
  ·have c1':¬ 2<0+(i:Int):=of_decide_eq_false (Bool.eq_false_iff.mpr c1)
   refine a1p ?_;refine ⟨_,rfl,_,_,rfl,rfl,_,rfl,?_⟩;refine D9 (λ c3=>absurd c3 c1) (λ c3=>?_);exact ⟨_,_,ds,_,rfl,rfl,by lia,hd,hs0',hs1'⟩
 ·intro σ H' hM_; refine I0 λ G_ hG_=>?_; obtain ⟨r,st,ds,ks,rfl,rfl,hl,hd,_⟩:=hM_; subst hG_
  exact ⟨_,rfl,q fl _ ds (Same.new hfl _) upd_same (by lia) hd⟩
end
theorem Y9 {n:Nat} {k:Int} (h0:0<=k) (h1:k<(n:Int)):ixN n k=some k.toNat:=by
 unfold ixN;rw [if_pos h0,if_pos h1]
theorem b1l {α:Type} {xs:List α} {k:Int} (h0:0<=k) (h1:k<(xs.length:Int)):∃ v,v∈xs/\atI xs k=some v:=by
 have hk:k.toNat<xs.length:=by lia
 refine ⟨xs[k.toNat],List.getElem_mem hk,?_⟩;unfold atI;rw [Y9 h0 h1];exact List.getElem?_eq_getElem hk
theorem M0 {ns:List Int} {k:Int} (h0:0<=k) (h1:k<(ns.length:Int)):∃ v,v∈ns/\atI (ns.map V.int) k=some (.int v):=by
 obtain ⟨v,hv,e⟩:=b1l (xs:=ns.map V.int) h0 (by rw [List.length_map]; exact h1);obtain ⟨n,hn,rfl⟩:=List.mem_map.mp hv;exact ⟨n,hn,e⟩
theorem map_set {ns:List Int} {j:Nat} {v:Int}:(ns.map V.int).set j (.int v)=(ns.set j v).map V.int:=by rw [List.map_set]
structure HG (far:Int) (kt kg:Nat) (h:h8):Prop where
 lt:h.1.length=kt
 lg:h.2.length=kg
 t:∀ x∈h.1,1<=x/\x<=far
 g:∀ x∈h.2,0<=x/\x<=far
 p:∃ x∈h.2,0<x
section
variable {P:Program} {w:World} {K:W.Frag} {mg:Str->Option Value} {base:Heap} {f g:Addr} {fd gd:FuncData}
def a5X (K:W.Frag):Sp:=λ vs H Q _=>∃ (v:V) (p:Addr) (far:Int) (h:h8) (ds:List Int) (kt kg:Nat),vs=[v,.ref p,.int far]/\HS K H v h/\HG far kt kg h/\1<=kt/\kt<=4/\1<=kg/\kg<=4/\1<=far ∧
 SqL K H p (ds.map V.int)/\10<=ds.length/\(∀ d∈ds,0<=d)/\∀ (r:V) (H':Hp) (h':h8),Same H H'->HS K H' r h'->HG far kt kg h'->Q r H'
theorem scNear:m8 ["house","picks","far","takes","gives","by","at"] ["house","picks","far"] (i5 a9z):=⟨rfl,rfl,rfl,by decide +kernel,rfl,by decide +kernel,by decide +kernel⟩
theorem b1z:(["take","by"]:List Str).Nodup:=by decide +kernel
theorem b0P:(["give","by"]:List Str).Nodup:=by decide +kernel
theorem b1v {n:Nat} (F:Fun K "_law_near" "_law_near" a9z f fd) (T:x9 mg):FnOk P w K mg base G5 (n+1) f fd ["house","picks","far"] (a5X K):=by
 refine F.ok scNear (λ vs H Q E h=>?_) (λ cdv A outer s H vs Q E hr h=>?_)
 ·obtain ⟨v,p,far,h,ds,kt,kg,rfl,_⟩:=h
  rfl
 obtain ⟨v,pk,far,h,ds,kt,kg,rfl,⟨a,t,gv,rfl,h0,h1,h2⟩,hG,kt1,kt4,kg1,kg4,hfar,hP,hd12,hd0,q⟩:=h;refine ⟨_,i4 (J9 (pv 0) (a0e rfl (j8 (i9 (i:=3) scNear.nd rfl (Or.inl rfl)) (j8 (i9 (i:=4) scNear.nd rfl (Or.inl rfl)) A8))))
  (i4 (j4 (i:=5) scNear.nd rfl (Or.inr rfl) (j3 i7 (v4 (c5 i3 (c5 i3 (c5 i3 (c5 i3 c6))))) (i8 x6 (j3 i7 (pv 1) i3 (λ _ _=>rfl)) i3) (λ _ _=>rfl)))
  (p6 (A6 (m9 a0q (i8 T5 (m6 (a2G rfl) rfl T.max PyProof.Rows.boot_max (c5 (i8 b0U (pv 3) (pv 4)) c6)) (pv 5)) (pv 2) (r6 _)) (i6 (j4 (i:=5) scNear.nd rfl (Or.inr rfl) i3)) t7)
  (i4 (a0I (i:=3) ["take"] [5] scNear.nd rfl rfl rfl (a5H (pv 3)) (λ _ _ _ _=>i9 (i:=0) b1z rfl (Or.inl rfl)) (λ _ _ _ _=>i8 T5 (pv 0) (pv 1)))
  (i4 (a0I (i:=4) ["give"] [5] scNear.nd rfl rfl rfl (a5H (pv 4)) (λ _ _ _ _=>i9 (i:=0) b0P rfl (Or.inl rfl)) (λ _ _ _ _=>i8 T5 (pv 0) (pv 1)))
  (p6 (A6 (m9 a2K (i8 x6 (i8 Z2 (j3 i7 (pv 1) i3 (λ _ _=>rfl)) i3) i3) i3 (r6 _))
   (i4 (j4 (i:=6) scNear.nd rfl (Or.inl rfl) (i8 x6 (j3 i7 (pv 1) i3 (λ _ _=>rfl)) (m6 j6 rfl T.len PySem.boot_len (c5 (pv 3) c6))))
    (i6 (J9 (m6 (X9 rfl) rfl T.min PyProof.Rows.boot_min (c5 (pv 2) (c5 (i8 C3 (i8 C3 (j3 i7 (pv 3) (pv 6) (λ _ _=>rfl)) (i8 x6 (i8 Z2 (j3 i7 (pv 1) i3 (λ _ _=>rfl)) i3) i3)) i3) c6))) (R0 (pv 3) (pv 6) G3)))) t7)
  (p6 (A6 (m9 a2K (i8 x6 (i8 Z2 (j3 i7 (pv 1) i3 (λ _ _=>rfl)) i3) i3) i3 (r6 _))
   (i4 (j4 (i:=6) scNear.nd rfl (Or.inl rfl) (i8 x6 (j3 i7 (pv 1) i3 (λ _ _=>rfl)) (m6 j6 rfl T.len PySem.boot_len (c5 (pv 4) c6))))
    (i6 (J9 (m6 (X9 rfl) rfl T.min PyProof.Rows.boot_min (c5 (pv 2) (c5 (i8 C3 (j3 i7 (pv 4) (pv 6) (λ _ _=>rfl)) i3) c6))) (R0 (pv 4) (pv 6) G3)))) t7)
  (i6 (r9 (U7 (c5 (r8 D8 rfl T.tuple PyProof.Rows.boot_tuple (c5 (pv 3) c6)) (c5 (r8 D8 rfl T.tuple PyProof.Rows.boot_tuple (c5 (pv 4) c6)) c6))))))))))),?_⟩
 obtain ⟨d9,hd9,a9⟩:=M0 (ns:=ds) (k:=9) (by decide) (by lia);obtain ⟨d8,hd8,a8⟩:=M0 (ns:=ds) (k:=8) (by decide) (by lia);have p9:=hd0 d9 hd9;have p8:=hd0 d8 hd8;refine ⟨_,rfl,a,_,rfl,h0,rfl,_,_,rfl,_,_,rfl,rfl,?_⟩;refine ⟨(by show 4<=sizeLine; decide),λ lp hlp=>?_⟩;have s1:=Same.new hlp (.lst [V.int 1,V.int 1,V.int 2,V.int 3]);obtain ⟨bv,hbv,abv⟩:=M0 (ns:=[1,1,2,3]) (k:=d9 % 4) (by lia) (by show d9 % 4<4; lia);have hb:1<=bv/\bv<=3:=by
  simp at hbv;rcases hbv with rfl | rfl | rfl <;> decide
 refine ⟨_,rfl,pk,_,9,_,rfl,rfl,s1.seq hP,a9,_,_,rfl,rfl,(by show (0:Int)<4; decide),lp,_,_,_,rfl,rfl,SqL.of upd_same,abv,?_⟩;have l1:(h.1.map V.int).length=kt:=by rw [List.length_map]; exact hG.lt
 have l2:(h.2.map V.int).length=kg:=by rw [List.length_map]; exact hG.lg
 have hne:h.1++h.2≠[]:=λ z=>by
  have:=congrArg List.length z;rw [List.length_append,hG.lt] at this;simp at this;lia
 refine ⟨λ σ' H'=>∃ b:Int,σ'=[some (.ref a),some (.ref pk),some (.int far),some (.ref t),some (.ref gv),some (.int b),none]/\Same H H'/\(1<=b/\b<=3)/\∀ x∈h.1++h.2,x*b<=far,?_,?_⟩
 ·refine ⟨_,rfl,_,rfl,t,gv,_,_,rfl,rfl,s1.tseq h1,s1.tseq h2,?_,?_,?_,?_⟩
  ·intro z; rw [z] at l1; simp at l1; lia
  ·rw [l1,l2]; exact Nat.le_of_lt (j7 (by lia))
  ·intro z; rw [z] at l2; simp at l2; lia
  ·intro _ pc hpc
   have s2:=Same.new hpc (.tup (h.1.map V.int++h.2.map V.int));refine ⟨pc,h.1++h.2,rfl,.inr (SqT.of (by rw [upd_same,List.map_append])),hne,λ M hM hMx=>?_⟩;refine ⟨_,rfl,_,_,rfl,rfl,.inr ⟨by lia,by lia⟩,_,rfl,_,_,rfl,rfl,_,rfl,?_⟩;refine D9 (λ c=>?_) (λ c=>?_)
   ·refine ⟨1,rfl,s1.trans s2,by decide,λ x hx=>?_⟩
    rcases List.mem_append.mp hx with z | z
    ·have:=hG.t x z; lia
    ·have:=hG.g x z; lia
   ·have c':¬ far<M*bv:=of_decide_eq_false (Bool.eq_false_iff.mpr c)
    refine ⟨bv,rfl,s1.trans s2,hb,λ x hx=>?_⟩;have:=Int.mul_le_mul_of_nonneg_right (hMx x hx) (show 0<=bv by lia);lia
 intro σ' H2 hM_; refine I0 λ G_ hG_=>?_; obtain ⟨b,rfl,e2,hb,hbx⟩:=hM_; subst hG_;have mulok:CMul=CMul:=rfl;refine ⟨_,rfl,t,rfl,⟨_,e2.tseq h1⟩,λ tl htl=>?_⟩;refine R1 (a1J (e2.tseq h1)) htl (by rw [l1]; exact j7 (by lia)) (λ x=>.int (vI x*b)) (λ i x H' N hx e hN=>?_) ?_
 ·obtain ⟨k,rfl⟩:=K5 hx
  exact ⟨Wk.set (by decide),_,rfl,_,rfl,_,_,rfl,rfl,.inr ⟨by lia,by lia⟩,hN⟩
 have e3:=e2.write (o:=.lst ((h.1.map V.int).map λ x=>.int (vI x*b))) (e2.free htl);refine ⟨_,rfl,gv,rfl,⟨_,e3.tseq h2⟩,λ gl hgl=>?_⟩;refine R1 (a1J (e3.tseq h2)) hgl (by rw [l2]; exact j7 (by lia)) (λ x=>.int (vI x*b)) (λ i x H' N hx e hN=>?_) ?_
 ·obtain ⟨k,rfl⟩:=K5 hx
  exact ⟨Wk.set (by decide),_,rfl,_,rfl,_,_,rfl,rfl,.inr ⟨by lia,by lia⟩,hN⟩
 have eA:(h.1.map V.int).map (λ x=>V.int (vI x*b))=(h.1.map (·*b)).map V.int:=by rw [List.map_map,List.map_map]; rfl
 have eB:(h.2.map V.int).map (λ x=>V.int (vI x*b))=(h.2.map (·*b)).map V.int:=by rw [List.map_map,List.map_map]; rfl
 have ftl:H tl=none:=e2.free htl;have fgl:H gl=none:=e3.free hgl;have ne1:tl≠gl:=λ z=>by rw [<- z,upd_same] at hgl; cases hgl
 rw [eA,eB];rw [eA] at e3;have e4:=e3.write (o:=.lst ((h.2.map (·*b)).map V.int)) fgl;have at4:upd (upd H2 tl (.lst ((h.1.map (·*b)).map V.int))) gl (.lst ((h.2.map (·*b)).map V.int)) tl=some (.lst ((h.1.map (·*b)).map V.int)):=by rw [c7 ne1,upd_same]
 have ag4:upd (upd H2 tl (.lst ((h.1.map (·*b)).map V.int))) gl (.lst ((h.2.map (·*b)).map V.int)) gl=some (.lst ((h.2.map (·*b)).map V.int)):=upd_same;generalize upd (upd H2 tl (.lst ((h.1.map (·*b)).map V.int))) gl (.lst ((h.2.map (·*b)).map V.int))=H4 at e4 at4 ag4 ⊢;have tA:∀ x∈h.1.map (·*b),1<=x/\x<=far:=λ x hx=>by
  obtain ⟨y,hy,rfl⟩:=List.mem_map.mp hx;have y1:=(hG.t y hy).1;have y2:=hbx y (List.mem_append_left _ hy);have y3:=Int.mul_le_mul y1 hb.1 (by decide) (by lia);exact ⟨by simpa using y3,y2⟩
 have tB:∀ x∈h.2.map (·*b),0<=x/\x<=far:=λ x hx=>by
  obtain ⟨y,hy,rfl⟩:=List.mem_map.mp hx;exact ⟨Int.mul_nonneg (hG.g y hy).1 (by lia),hbx y (List.mem_append_right _ hy)⟩
 have tP:∃ x∈h.2.map (·*b),0<x:=by
  obtain ⟨y,hy,y0⟩:=hG.p;exact ⟨y*b,List.mem_map.mpr ⟨y,hy,rfl⟩,Int.mul_pos y0 (by lia)⟩
 have lA:(h.1.map (·*b)).length=kt:=by rw [List.length_map]; exact hG.lt
 have lB:(h.2.map (·*b)).length=kg:=by rw [List.length_map]; exact hG.lg
 generalize h.1.map (·*b)=A0 at tA lA at4;generalize h.2.map (·*b)=B0 at tB lB tP ag4;refine ⟨λ σ' H'=>∃ (A1:List Int) (ks:Option V),σ'=[some (.ref a),some (.ref pk),some (.int far),some (.ref tl),some (.ref gl),some (.int b),ks]/\Same H H'/\H' tl=some (.lst (A1.map V.int))/\H' gl=some (.lst (B0.map V.int))/\A1.length=kt/\∀ x∈A1,1<=x/\x<=far,?_,?_⟩
 ·refine ⟨_,rfl,pk,_,9,_,rfl,rfl,e4.seq hP,a9,_,_,rfl,rfl,⟨by decide,by decide⟩,_,_,rfl,rfl,(by show (0:Int)<3; decide),rfl,_,rfl,?_⟩
  refine D9 (λ c=>?_) (λ c=>⟨A0,none,rfl,e4,at4,ag4,lA,tA⟩);have lA':(A0.map V.int).length=kt:=by rw [List.length_map]; exact lA
  refine ⟨_,rfl,pk,_,8,_,rfl,rfl,e4.seq hP,a8,_,rfl,tl,_,rfl,.inl (SqL.of at4),_,_,rfl,rfl,(by show (0:Int)<((A0.map V.int).length:Int); rw [lA']; lia),?_⟩;have r0:0<=d8 % ((A0.map V.int).length:Int):=Int.emod_nonneg _ (by rw [lA']; lia);have r1:d8 % ((A0.map V.int).length:Int)<((A0.map V.int).length:Int):=Int.emod_lt_of_pos _ (by rw [lA']; lia);obtain ⟨x,hx,ax⟩:=M0 (ns:=A0) (k:=d8 % ((A0.map V.int).length:Int)) r0 (by rw [List.length_map] at r1 ⊢; exact r1);have hx1:=tA x hx;refine ⟨_,rfl,_,rfl,_,rfl,tl,_,_,_,rfl,rfl,SqL.of at4,ax,_,rfl,pk,_,9,_,rfl,rfl,e4.seq hP,a9,_,_,rfl,rfl,⟨by decide,by decide⟩,_,_,rfl,rfl,(by show (0:Int)<2; decide),_,_,rfl,rfl,_,_,rfl,rfl,_,_,rfl,?_⟩;refine ⟨_,rfl,_,rfl,tl,_,_,_,rfl,rfl,at4,Y9 r0 r1,?_⟩;refine ⟨A0.set (d8 % ((A0.map V.int).length:Int)).toNat _,_,rfl,e4.write ftl,by rw [upd_same,map_set],by rw [c7 (Ne.symm ne1)]; exact ag4,by rw [List.length_set]; exact lA,λ y hy=>?_⟩;rcases List.mem_or_eq_of_mem_set hy with z | z
  ·exact tA y z
  ·rw [z]
   split <;> lia
 intro σ' H5 hM_; refine I0 λ G_ hG_=>?_; obtain ⟨A1,ks,rfl,e5,at5,ag5,lA1,tA1⟩:=hM_; subst hG_;refine ⟨λ σ' H'=>∃ (B1:List Int) (ks:Option V),σ'=[some (.ref a),some (.ref pk),some (.int far),some (.ref tl),some (.ref gl),some (.int b),ks]/\Same H H'/\H' tl=some (.lst (A1.map V.int))/\H' gl=some (.lst (B1.map V.int))/\B1.length=kg/\(∀ x∈B1,0<=x/\x<=far)/\∃ x∈B1,0<x,?_,?_⟩
 ·refine ⟨_,rfl,pk,_,9,_,rfl,rfl,e5.seq hP,a9,_,_,rfl,rfl,⟨by decide,by decide⟩,_,_,rfl,rfl,(by show (0:Int)<3; decide),rfl,_,rfl,?_⟩
  refine D9 (λ c=>?_) (λ c=>⟨B0,ks,rfl,e5,at5,ag5,lB,tB,tP⟩);have lB':(B0.map V.int).length=kg:=by rw [List.length_map]; exact lB
  refine ⟨_,rfl,pk,_,8,_,rfl,rfl,e5.seq hP,a8,_,rfl,gl,_,rfl,.inl (SqL.of ag5),_,_,rfl,rfl,(by show (0:Int)<((B0.map V.int).length:Int); rw [lB']; lia),?_⟩;have r0:0<=d8 % ((B0.map V.int).length:Int):=Int.emod_nonneg _ (by rw [lB']; lia);have r1:d8 % ((B0.map V.int).length:Int)<((B0.map V.int).length:Int):=Int.emod_lt_of_pos _ (by rw [lB']; lia);obtain ⟨x,hx,ax⟩:=M0 (ns:=B0) (k:=d8 % ((B0.map V.int).length:Int)) r0 (by rw [List.length_map] at r1 ⊢; exact r1);have hx1:=tB x hx;refine ⟨_,rfl,_,rfl,_,rfl,gl,_,_,_,rfl,rfl,SqL.of ag5,ax,_,_,rfl,rfl,_,_,rfl,?_⟩;refine ⟨_,rfl,_,rfl,gl,_,_,_,rfl,rfl,ag5,Y9 r0 r1,?_⟩;have rn:(d8 % ((B0.map V.int).length:Int)).toNat<B0.length:=by rw [List.length_map] at r1 ⊢; lia
  refine ⟨B0.set (d8 % ((B0.map V.int).length:Int)).toNat _,_,rfl,e5.write fgl,by rw [c7 ne1]; exact at5,by rw [upd_same,map_set],by rw [List.length_set]; exact lB,λ y hy=>?_,_,List.mem_set rn _,?_⟩
  ·rcases List.mem_or_eq_of_mem_set hy with z | z
   ·exact tB y z
   ·rw [z]
    split <;> lia
  ·split <;> lia
 intro σ' H6 hM_; refine I0 λ G_ hG_=>?_; obtain ⟨B1,ks,rfl,e6,at6,ag6,lB1,tB1,tP1⟩:=hM_; subst hG_;refine ⟨_,rfl,tl,_,rfl,.inl ⟨SqL.of at6,λ pt hpt=>?_⟩⟩;have f1:=Same.new hpt (.tup (A1.map V.int));refine ⟨_,rfl,gl,_,rfl,.inl ⟨SqL.of (f1 _ _ ag6),λ pg hpg=>?_⟩⟩;have f2:=Same.new hpg (.tup (B1.map V.int));refine ⟨(by show 2<=sizeLine; decide),λ pr hpr=>?_⟩;have f3:=Same.new hpr (.tup [V.ref pt,V.ref pg]);exact q _ _ (A1,B1) (e6.trans (f1.trans (f2.trans f3))) ⟨pr,pt,pg,rfl,SqT.of upd_same,SqT.of (f3 _ _ (f2 _ _ upd_same)),SqT.of (f3 _ _ upd_same)⟩ ⟨lA1,lB1,tA1,tB1,tP1⟩
end
end Rim
namespace L2
open PySem
def Keep (H H':Hp):Prop:=∀ b o,H b=some o->(∀ xs,o≠.lst xs)->H' b=some o
theorem Keep.upd {H:Hp} {b:Addr} {ys:List V} {o:HO} (h:H b=some (.lst ys)):Keep H (upd H b o):=λ c u q n=>by
 have:c≠b:=λ z=>by rw [z,h] at q; exact n ys (Option.some.inj q).symm
 rw [c7 this]; exact q
theorem Keep.tseq {K:W.Frag} {H H':Hp} {a:Addr} {xs:List V} (e:Keep H H') (h:SqT K H a xs):SqT K H' a xs:=by
 rcases h with (h | ⟨o,h⟩) | h
 ·exact .inl (.inl (e _ _ h (λ _ z=>nomatch z)))
 ·exact .inl (.inr ⟨o,e _ _ h (λ _ z=>nomatch z)⟩)
 ·exact .inr h
end L2
namespace Rim
open PySem L2
theorem HS.keep {K:W.Frag} {H H':Hp} {v:V} {h:h8} (e:Keep H H') (x:HS K H v h):HS K H' v h:=by
 obtain ⟨a,t,g,h0,h1,h2,h3⟩:=x;exact ⟨a,t,g,h0,e.tseq h1,e.tseq h2,e.tseq h3⟩
theorem Bk.keep {K:W.Frag} {H H':Hp} {vs:List V} {hs:List h8} (e:Keep H H') (x:Bk K H vs hs):Bk K H' vs hs:=Paired.imp' (λ _ _ r=>HS.keep e r) x
def a8B (ns:List Int):PyData:=.tuple (ns.map PyData.int)
def a0T (h:h8):PyData:=.tuple [a8B h.1,a8B h.2]
theorem a2d {K:W.Frag} {H:Hp}:∀ ns:List Int,Dps K H (ns.map V.int) (ns.map PyData.int)
 | []=>.nil
 | n::r=>.cons (.int n) (a2d r)
theorem HS.dp {K:W.Frag} {H:Hp} {v:V} {h:h8} (x:HS K H v h):Dp K H v (a0T h):=by
 obtain ⟨a,t,g,rfl,h1,h2,h3⟩:=x;exact .tup h1 (.cons (.tup h2 (a2d _)) (.cons (.tup h3 (a2d _)) .nil))
theorem Bk.dps {K:W.Frag} {H:Hp}:∀ {vs:List V} {hs:List h8},Bk K H vs hs->Dps K H vs (hs.map a0T)
 | _,_,.nil=>.nil
 | _,_,.cons x r=>.cons x.dp (Bk.dps r)
theorem a2f:∀ ns:List Int,PyData.canLayAll0 (ns.map PyData.int)=true
 | []=>by rw [List.map_nil,PyData.canLayAll0]
 | n::r=>by rw [List.map_cons,PyData.canLayAll0,a2f r,PyData.canLay0]; rfl
theorem a7Z (h:h8):(a0T h).canLay0=true:=by
 unfold a0T a8B;rw [PyData.canLay0,PyData.canLayAll0,PyData.canLay0,a2f,PyData.canLayAll0,PyData.canLay0,a2f,PyData.canLayAll0]; rfl
theorem a4U:∀ hs:List h8,PyData.canLayAll0 (hs.map a0T)=true
 | []=>by rw [List.map_nil,PyData.canLayAll0]
 | h::r=>by rw [List.map_cons,PyData.canLayAll0,a7Z,a4U r]; rfl
section
variable {P:Program} {w:World} {K:W.Frag} {mg:Str->Option Value} {base:Heap} {f g:Addr} {fd gd:FuncData}
def a6J (K:W.Frag):Sp:=λ vs H Q _=>∃ (a:Addr) (ns:List Int) (at' most far:Int),vs=[.ref a,.int at',.int most,.int far]/\SqL K H a (ns.map V.int)/\0<=at'/\1<=most/\most<=900/\1<=far ∧
 ∀ (r:Addr) (H':Hp) (xs:List V) (hs:List h8) (kt kg:Nat),Same H H'->H' r=some (.lst xs)->Bk K H' xs hs->1<=hs.length->(hs.length:Int)<=most->1<=kt->kt<=4->1<=kg->kg<=4->(∀ h∈hs,HG far kt kg h)->Q (.ref r) H'
theorem scABook:m8 ["script","at","most","far","heads","kinds","many","size","book","k","picks","takes","some","gives","house"] ["script","at","most","far"] (i5 a1b):=⟨rfl,rfl,rfl,by decide +kernel,rfl,by decide +kernel,by decide +kernel⟩
theorem a6O:(["pick","size"]:List Str).Nodup:=by decide +kernel
noncomputable def abT {n:Nat} {fc fw fn:Addr} {dc dw dn:FuncData} {cdv:Value} {A:Around} {outer:List Env} {s:Shared} {H:Hp} {E:XK} (T:x9 mg)
  (Gc:FnOk P w K mg base G5 n fc dc ["script","k"] (a3z K)) (bc:Binds K dc ["script","k"] []) (kc:W.keepIn K (.ref fc)=true) (mc:mg "_law_cell_at"=some (.ref fc))
  (Gw:FnOk P w K mg base G5 n fw dw ["cell","many","base"] (a1y K)) (bw:Binds K dw ["cell","many","base"] []) (kw:W.keepIn K (.ref fw)=true) (mw:mg "_law_draws"=some (.ref fw))
  (Gn:FnOk P w K mg base G5 n fn dn ["house","picks","far"] (a5X K)) (bn:Binds K dn ["house","picks","far"] []) (kn:W.keepIn K (.ref fn)=true) (mn:mg "_law_near"=some (.ref fn))
  (hr:Room n (A.deeper (PyProof.Rows.envOfC "_law_a_book" (i5 a1b) s.heap.objs.size f cdv))) :
  { t:TS // PSs (K7 G5 P w K mg base ["script","at","most","far","heads","kinds","many","size","book","k","picks","takes","some","gives","house"] "_law_a_book" (i5 a1b) f cdv A outer s H E).nox (v6 a1b) t } :=
 ⟨_,i4 (j4 (i:=4) scABook.nd rfl (Or.inl rfl) (j5 Gw hr rfl mw kw bw .nil w4 (c5 (j5 Gc hr rfl mc kc bc .nil w4 (c5 (pv 0) (c5 (pv 1) c6))) (c5 i3 (c5 i3 c6)))))
  (p6 (j4 (i:=5) scABook.nd rfl (Or.inl rfl) (v4 (c5 (i8 C3 i3 (i8 x6 (j3 i7 (pv 4) i3 (λ _ _=>rfl)) (j3 i7 (v4 (c5 i3 (c5 i3 c6))) (i8 x6 (j3 i7 (pv 4) i3 (λ _ _=>rfl)) i3) (λ _ _=>rfl))))
   (c5 (i8 C3 i3 (i8 x6 (j3 i7 (pv 4) i3 (λ _ _=>rfl)) (j3 i7 (v4 (c5 i3 (c5 i3 c6))) (i8 x6 (j3 i7 (pv 4) i3 (λ _ _=>rfl)) i3) (λ _ _=>rfl)))) c6))))
  (p6 (j4 (i:=6) scABook.nd rfl (Or.inl rfl) (i8 C3 i3 (i8 x6 (j3 i7 (pv 4) i3 (λ _ _=>rfl)) (j3 i7 (v4 (c5 (pv 2) (c5 (m6 (X9 rfl) rfl T.min PyProof.Rows.boot_min (c5 (pv 2) (c5 i3 c6))) c6))) (i8 Z2 (i8 x6 (j3 i7 (pv 4) i3 (λ _ _=>rfl)) i3) i3) (λ _ _=>rfl)))))
  (p6 (j4 (i:=7) scABook.nd rfl (Or.inr rfl) (m6 (X9 rfl) rfl T.min PyProof.Rows.boot_min (c5 (pv 3) (c5 (j3 i7 (v4 (c5 i3 (c5 i3 (c5 i3 (c5 i3 (c5 (i8 a3y i3 i3) c6)))))) (i8 x6 (j3 i7 (pv 4) i3 (λ _ _=>rfl)) i3) (λ _ _=>rfl)) c6))))
  (i4 (j4 (i:=8) scABook.nd rfl (Or.inl rfl) (v4 c6))
  (i4 (P4 PassesOwn.never rfl (K3 rfl T.range (c5 (pv 6) c6)) (i9 (i:=9) scABook.nd rfl (Or.inl rfl))
   (p6 (j4 (i:=10) scABook.nd rfl (Or.inl rfl) (j5 Gw hr rfl mw kw bw .nil w4 (c5 (i8 C3 (j5 Gc hr rfl mc kc bc .nil w4 (c5 (pv 0) (c5 (i8 C3 (pv 1) i3) c6))) (i8 T5 (pv 9) (i8 C3 (j3 i7 (pv 4) i3 (λ _ _=>rfl)) i3))) (c5 i3 (c5 (i8 a3y i3 i3) c6)))))
   (p6 (j4 (i:=11) scABook.nd rfl (Or.inl rfl) (r8 D8 rfl T.tuple PyProof.Rows.boot_tuple (c5 (R8 ["pick"] [7] rfl (B9 (S8 Y3 (pv 10) a0H (T7 (j3 i7 (pv 5) i3 (λ _ _=>rfl))))) (λ _ _ _ _=>i9 (i:=0) a6O rfl (Or.inl rfl)) (λ _ _ _ _=>i8 C3 i3 (i8 x6 (pv 0) (pv 1)))) c6)))
   (i4 (j4 (i:=12) scABook.nd rfl (Or.inl rfl) (S8 Y3 (pv 10) (T7 i3) (T7 (i8 C3 i3 (j3 i7 (pv 5) i3 (λ _ _=>rfl))))))
   (p6 (a0I (i:=13) ["pick"] [7] scABook.nd rfl rfl rfl (B9 (pv 12)) (λ _ _ _ _=>i9 (i:=0) a6O rfl (Or.inl rfl)) (λ _ _ _ _=>i8 T5 (i8 x6 (pv 0) (i8 C3 (pv 1) i3)) (r8 a2Q rfl T.int PyProof.Rows.boot_int (c5 (Q4 a0q (i8 x6 (pv 0) i3) i3 (r6 _)) c6))))
   (p6 (A6 (m9 a2K (m6 (a2G rfl) rfl T.max PyProof.Rows.boot_max (c5 (pv 13) c6)) i3 (r6 _)) (i6 (J9 (i8 C3 i3 (i8 x6 (j3 i7 (pv 10) i3 (λ _ _=>rfl)) (pv 7))) (R0 (pv 13) (i8 x6 (j3 i7 (pv 10) i3 (λ _ _=>rfl)) (j3 i7 (pv 5) i3 (λ _ _=>rfl))) G3))) t7)
   (p6 (j4 (i:=14) scABook.nd rfl (Or.inl rfl) (U7 (c5 (pv 11) (c5 (r8 D8 rfl T.tuple PyProof.Rows.boot_tuple (c5 (pv 13) c6)) c6))))
   (p6 (A6 (PW.pt (a5V (m9 (a0f hr) (pv 8) (v4 c6) (r6 _)) (a3s (m9 a2K (i8 x6 (j3 i7 (pv 10) i3 (λ _ _=>rfl)) i3) i3 (r6 _)))))
    (i6 (j4 (i:=14) scABook.nd rfl (Or.inl rfl) (j5 Gn hr rfl mn kn bn .nil w4 (c5 (j3 i7 (pv 8) (i8 x6 (j3 i7 (pv 10) i3 (λ _ _=>rfl)) (m6 j6 rfl T.len PySem.boot_len (c5 (pv 8) c6))) (λ _ _=>rfl)) (c5 (pv 10) (c5 (pv 3) c6)))))) t7)
   (i6 (Q8 (a1l PySem.F.plainAttrs_list PySem.F.slot_list_append PySem.F.type_list_append J8 (pv 8) (c5 (pv 14) c6))))))))))))
  (i6 (r9 (pv 8))))))))⟩
end
section
variable {P:Program} {w:World} {K:W.Frag} {mg:Str->Option Value} {base:Heap} {f g:Addr} {fd gd:FuncData}
theorem a8p {n:Nat} {fc fw fn:Addr} {dc dw dn:FuncData} (F:Fun K "_law_a_book" "_law_a_book" a1b f fd) (T:x9 mg)
  (Gc:FnOk P w K mg base G5 n fc dc ["script","k"] (a3z K)) (bc:Binds K dc ["script","k"] []) (kc:W.keepIn K (.ref fc)=true) (mc:mg "_law_cell_at"=some (.ref fc))
  (Gw:FnOk P w K mg base G5 n fw dw ["cell","many","base"] (a1y K)) (bw:Binds K dw ["cell","many","base"] []) (kw:W.keepIn K (.ref fw)=true) (mw:mg "_law_draws"=some (.ref fw))
  (Gn:FnOk P w K mg base G5 n fn dn ["house","picks","far"] (a5X K)) (bn:Binds K dn ["house","picks","far"] []) (kn:W.keepIn K (.ref fn)=true) (mn:mg "_law_near"=some (.ref fn)) :
  FnOk P w K mg base G5 (n+1) f fd ["script","at","most","far"] (a6J K):=by
 refine F.ok scABook (λ vs H Q E h=>?_) (λ cdv A outer s H vs Q E hr h=>?_)
 ·obtain ⟨a,ns,at',most,far,rfl,_⟩:=h
  rfl
 obtain ⟨a,ns,at',most,far,rfl,hS,hat,hm1,hm2,hfar,q⟩:=h;refine ⟨_,(abT T Gc bc kc mc Gw bw kw mw Gn bn kn mn hr).2,?_⟩;refine ⟨_,rfl,_,rfl,a,ns,at',rfl,hS,hat,λ c=>⟨c,8,1000,rfl,by decide,by decide,by decide,λ hl H1 hd e1 hH1 hlen hb=>?_⟩⟩;have hd':∀ k:Int,0<=k->k<8->∃ v,v∈hd/\atI (hd.map V.int) k=some (.int v):=λ k k0 k1=>M0 k0 (by lia);obtain ⟨x0,m0,a0⟩:=hd' 0 (by decide) (by decide);obtain ⟨x1,m1,a1⟩:=hd' 1 (by decide) (by decide);obtain ⟨x2,m2,a2⟩:=hd' 2 (by decide) (by decide);obtain ⟨x3,m3,a3⟩:=hd' 3 (by decide) (by decide);obtain ⟨x4,m4,a4⟩:=hd' 4 (by decide) (by decide);obtain ⟨x5,m5,a5⟩:=hd' 5 (by decide) (by decide);obtain ⟨x7,m7,a7⟩:=hd' 7 (by decide) (by decide);have b0:=hb x0 m0; have b1:=hb x1 m1; have b2:=hb x2 m2; have b3:=hb x3 m3; have b4:=hb x4 m4; have b5:=hb x5 m5; have b7:=hb x7 m7;refine ⟨λ σ' H'=>∃ (kl:Addr) (kt kg:Nat),σ'=[some (.ref a),some (.int at'),some (.int most),some (.int far),some (.ref hl),some (.ref kl),none,none,none,none,none,none,none,none,none]/\Same H1 H'/\H' kl=some (.lst [.int (kt:Int),.int (kg:Int)])/\1<=kt/\kt<=4/\1<=kg/\kg<=4,?_,?_⟩
 ·have two:∀ y:Int,0<=y->∃ z:Int,(z=4\/z=2)/\atI [V.int 4,V.int 2] (y % 2)=some (.int z):=λ y hy=>by
   obtain ⟨z,hz,az⟩:=M0 (ns:=[4,2]) (k:=y % 2) (by lia) (by show y % 2<2; lia);exact ⟨z,by simpa using hz,az⟩
  obtain ⟨z1,hz1,az1⟩:=two x2 b2.1;refine ⟨_,rfl,hl,_,0,_,rfl,rfl,SqL.of hH1,a0,(by show 2<=sizeLine; decide),λ l1 hl1=>?_⟩;have s1:=Same.new hl1 (.lst [V.int 4,V.int 2]);refine ⟨_,rfl,hl,_,2,_,rfl,rfl,SqL.of (s1 _ _ hH1),a2,_,_,rfl,rfl,(by show (0:Int)<2; decide),l1,_,_,_,rfl,rfl,SqL.of upd_same,az1,_,_,rfl,rfl,(by show (0:Int)<z1; lia),_,_,rfl,rfl,?_⟩;refine ⟨_,rfl,hl,_,1,_,rfl,rfl,SqL.of (s1 _ _ hH1),a1,(by show 2<=sizeLine; decide),λ l2 hl2=>?_⟩;have s2:=Same.new hl2 (.lst [V.int 4,V.int 2]);refine ⟨_,rfl,hl,_,2,_,rfl,rfl,SqL.of (s2 _ _ (s1 _ _ hH1)),a2,_,_,rfl,rfl,(by show (0:Int)<2; decide),l2,_,_,_,rfl,rfl,SqL.of upd_same,az1,_,_,rfl,rfl,(by show (0:Int)<z1; lia),_,_,rfl,rfl,?_⟩;refine ⟨(by show 2<=sizeLine; decide),λ kl hkl=>?_⟩;have s3:=Same.new hkl (.lst [V.int (1+x0 % z1),V.int (1+x1 % z1)]);have p0:0<=x0 % z1/\x0 % z1<z1:=⟨Int.emod_nonneg _ (by lia),Int.emod_lt_of_pos _ (by lia)⟩;have p1:0<=x1 % z1/\x1 % z1<z1:=⟨Int.emod_nonneg _ (by lia),Int.emod_lt_of_pos _ (by lia)⟩;refine ⟨kl,(1+x0 % z1).toNat,(1+x1 % z1).toNat,rfl,s1.trans (s2.trans s3),?_,by lia,by lia,by lia,by lia⟩;rw [upd_same,Int.toNat_of_nonneg (by lia),Int.toNat_of_nonneg (by lia)]
 intro σ' H2 hM_; refine I0 λ G_ hG_=>?_; obtain ⟨kl,kt,kg,rfl,e2,hkl,kt1,kt4,kg1,kg4⟩:=hM_; subst hG_;have hh2:=e2 _ _ hH1;refine ⟨λ σ' H'=>∃ (many:Nat),σ'=[some (.ref a),some (.int at'),some (.int most),some (.int far),some (.ref hl),some (.ref kl),some (.int (many:Int)),none,none,none,none,none,none,none,none]/\Same H2 H'/\1<=many/\(many:Int)<=most,?_,?_⟩
 ·refine ⟨_,rfl,hl,_,3,_,rfl,rfl,SqL.of hh2,a3,_,rfl,_,rfl,_,_,rfl,(by show 2<=sizeLine; decide),λ l1 hl1=>?_⟩
  have s1:=Same.new hl1 (.lst [V.int most,V.int (if 4<most then 4 else most)]);obtain ⟨z,hz,az⟩:=M0 (ns:=[most,if 4<most then 4 else most]) (k:=x4 % 3 / 2) (by lia) (by show x4 % 3 / 2<2; lia);have hz':1<=z/\z<=most:=by
   simp only [List.mem_cons,List.not_mem_nil,or_false] at hz;rcases hz with rfl | rfl
   ·lia
   ·split <;> lia
  refine ⟨_,rfl,hl,_,4,_,rfl,rfl,SqL.of (s1 _ _ hh2),a4,_,_,rfl,rfl,(by show (0:Int)<3; decide),_,_,rfl,rfl,⟨by decide,by decide⟩,l1,_,_,_,rfl,rfl,SqL.of upd_same,az,_,_,rfl,rfl,(by show (0:Int)<z; lia),_,_,rfl,rfl,?_⟩;have p0:0<=x3 % z/\x3 % z<z:=⟨Int.emod_nonneg _ (by lia),Int.emod_lt_of_pos _ (by lia)⟩;refine ⟨(1+x3 % z).toNat,?_,s1,by lia,by lia⟩;rw [Int.toNat_of_nonneg (by lia)];rfl
 intro σ' H3 hM_; refine I0 λ G_ hG_=>?_; obtain ⟨many,rfl,e3,mn1,mn2⟩:=hM_; subst hG_;have hh3:=e3 _ _ hh2;have hk3:=e3 _ _ hkl;refine ⟨λ σ' H'=>∃ (size:Int),σ'=[some (.ref a),some (.int at'),some (.int most),some (.int far),some (.ref hl),some (.ref kl),some (.int (many:Int)),some (.int size),none,none,none,none,none,none,none]/\Same H3 H'/\1<=size/\size<=far/\size<=1000000000,?_,?_⟩
 ·refine ⟨_,rfl,_,_,rfl,rfl,⟨by decide,by decide,by decide⟩,(by show 5<=sizeLine; decide),λ l1 hl1=>?_⟩
  have s1:=Same.new hl1 (.lst [V.int 4,V.int 9,V.int 50,V.int 1000,V.int (10 ^ (9:Int).toNat)]);obtain ⟨z,hz,az⟩:=M0 (ns:=[4,9,50,1000,10 ^ (9:Int).toNat]) (k:=x5 % 5) (by lia) (by show x5 % 5<5; lia);have hz':1<=z/\z<=1000000000:=by
   have e9:(10:Int) ^ (9:Int).toNat=1000000000:=by decide
   rw [e9] at hz;simp only [List.mem_cons,List.not_mem_nil,or_false] at hz;rcases hz with rfl | rfl | rfl | rfl | rfl <;> decide
  refine ⟨_,rfl,hl,_,5,_,rfl,rfl,SqL.of (s1 _ _ hh3),a5,_,_,rfl,rfl,(by show (0:Int)<5; decide),l1,_,_,_,rfl,rfl,SqL.of upd_same,az,_,_,rfl,?_⟩;refine ⟨_,rfl,s1,?_,?_,?_⟩ <;> (split <;> lia)
 intro σ' H4 hM_; refine I0 λ G_ hG_=>?_; obtain ⟨size,rfl,e4,sz1,szf,sz9⟩:=hM_; subst hG_;have hh4:=e4 _ _ hh3;have hk4:=e4 _ _ hk3;have e14:Same H H4:=e1.trans (e2.trans (e3.trans e4));refine ⟨(by show 0<=sizeLine; decide),λ bl hbl=>?_⟩;refine ⟨_,rfl,(many:Int),rfl,by lia,by lia,?_⟩;rw [Int.toNat_natCast];refine Y2 (n:=many) (λ i σ H'=>∃ (xs:List V) (hs:List h8) (o9 o10 o11 o12 o13 o14:Option V),σ=[some (.ref a),some (.int at'),some (.int most),some (.int far),some (.ref hl),some (.ref kl),some (.int (many:Int)),some (.int size),some (.ref bl),o9,o10,o11,o12,o13,o14] ∧
   Same H4 H'/\H' bl=some (.lst xs)/\Bk K H' xs hs/\hs.length=i/\∀ h∈hs,HG far kt kg h)
  ⟨[],[],_,_,_,_,_,_,rfl,Same.new hbl _,upd_same,.nil,rfl,λ h hh=>(by cases hh)⟩ ?_ ?_
 ·rintro i σ H5 hi ⟨xs,hs,o9,o10,o11,o12,o13,o14,rfl,e5,hb5,hB,hlen5,hG⟩
  have hh5:=e5 _ _ hh4;have hk5:=e5 _ _ hk4;have xlen:xs.length=hs.length:=Paired.length hB;have ak0:atI [V.int (kt:Int),V.int (kg:Int)] 0=some (.int (kt:Int)):=t9 (j:=0) rfl;have ak1:atI [V.int (kt:Int),V.int (kg:Int)] 1=some (.int (kg:Int)):=t9 (j:=1) rfl;refine ⟨λ σ' H'=>∃ (pl:Addr) (ds:List Int),σ'=[some (.ref a),some (.int at'),some (.int most),some (.int far),some (.ref hl),some (.ref kl),some (.int (many:Int)),some (.int size),some (.ref bl),some (.int (0+(i:Int))),some (.ref pl),o11,o12,o13,o14]/\Same H5 H'/\H' pl=some (.lst (ds.map V.int))/\ds.length=12/\∀ d∈ds,0<=d,?_,?_⟩
  ·refine ⟨_,rfl,_,rfl,_,_,rfl,rfl,a,ns,at'+1,rfl,(e14.trans e5).seq hS,by lia,λ c=>?_⟩
   refine ⟨_,rfl,_,rfl,hl,_,7,_,rfl,rfl,SqL.of hh5,a7,_,_,rfl,rfl,_,_,rfl,rfl,.inl ⟨by lia,by lia⟩,_,_,rfl,rfl,_,_,rfl,rfl,⟨by decide,by decide,by decide⟩,?_⟩;exact ⟨_,12,_,rfl,by decide,by decide,by decide,λ pl H6 ds e6 hp6 l6 d6=>⟨pl,ds,rfl,e6,hp6,l6,λ d hd=>(d6 d hd).1⟩⟩
  intro σ' H6 hM_; refine I0 λ G_ hG_=>?_; obtain ⟨pl,ds,rfl,e6,hp6,l6,d6⟩:=hM_; subst hG_;have hh6:=e6 _ _ hh5;have hk6:=e6 _ _ hk5;have hb6:=e6 _ _ hb5;have pk:∀ k:Int,0<=k->k<12->∃ v,v∈ds/\atI (ds.map V.int) k=some (.int v):=λ k k0 k1=>M0 k0 (by lia);obtain ⟨y8,n8,c8⟩:=pk 8 (by decide) (by decide);obtain ⟨y9,n9,c9⟩:=pk 9 (by decide) (by decide);obtain ⟨y10,n10,c10⟩:=pk 10 (by decide) (by decide);obtain ⟨y11,n11,c11⟩:=pk 11 (by decide) (by decide);have g8:=d6 _ n8; have g9:=d6 _ n9; have g10:=d6 _ n10; have g11:=d6 _ n11;have dl:(ds.map V.int).length=12:=by rw [List.length_map]; exact l6
  refine ⟨λ σ' H'=>∃ (tp:Addr) (At:List Int),σ'=[some (.ref a),some (.int at'),some (.int most),some (.int far),some (.ref hl),some (.ref kl),some (.int (many:Int)),some (.int size),some (.ref bl),some (.int (0+(i:Int))),some (.ref pl),some (.ref tp),o12,o13,o14]/\Same H6 H'/\H' tp=some (.tup (At.map V.int))/\At.length=kt/\∀ x∈At,1<=x/\x<=far,?_,?_⟩
  ·have ec:O8 (ds.map V.int) none (some (kt:Int))=(ds.take kt).map V.int:=by
    unfold O8;rw [HT.sIx_none,HT.sIx_nat,dl,List.drop_zero,List.map_take]
    congr 1
    lia
   refine ⟨_,rfl,_,rfl,kl,_,0,_,rfl,rfl,SqL.of hk6,ak0,_,rfl,pl,_,rfl,SqL.of hp6,λ cp hcp=>?_⟩;rw [ec];have s1:=Same.new hcp (.lst ((ds.take kt).map V.int));refine ⟨cp,rfl,⟨_,SqL.of upd_same⟩,λ lp hlp=>?_⟩;refine R1 (y6 (SqL.of upd_same)) hlp (by rw [List.length_map,List.length_take]; exact j7 (by lia)) (λ x=>.int (1+vI x % size)) (λ j x H' N hx e hN=>?_) ?_
   ·obtain ⟨k,rfl⟩:=K5 hx
    exact ⟨Wk.set (by decide),_,rfl,_,rfl,_,_,rfl,rfl,(by show (0:Int)<size; lia),_,_,rfl,rfl,hN⟩
   ·have eA:((ds.take kt).map V.int).map (λ x=>V.int (1+vI x % size))=((ds.take kt).map λ d=>1+d % size).map V.int:=by rw [List.map_map,List.map_map]; rfl
    rw [eA];have s2:=Same.new hlp (.lst (((ds.take kt).map λ d=>1+d % size).map V.int));refine ⟨lp,_,rfl,.inl ⟨SqL.of upd_same,λ tp htp=>?_⟩⟩;refine ⟨tp,(ds.take kt).map λ d=>1+d % size,rfl,s1.trans (s2.trans (Same.new htp _)),upd_same,by rw [List.length_map,List.length_take]; lia,λ x hx=>?_⟩;obtain ⟨d,_,rfl⟩:=List.mem_map.mp hx;have p0:0<=d % size/\d % size<size:=⟨Int.emod_nonneg _ (by lia),Int.emod_lt_of_pos _ (by lia)⟩;lia
  intro σ' H7 hM_; refine I0 λ G_ hG_=>?_; obtain ⟨tp,At,rfl,e7,ht7,lAt,tAt⟩:=hM_; subst hG_;have hp7:=e7 _ _ hp6;have hk7:=e7 _ _ hk6;have hb7:=e7 _ _ hb6;have ec:O8 (ds.map V.int) (some 4) (some (4+(kg:Int)))=((ds.drop 4).take kg).map V.int:=by
   unfold O8;have z1:HT.sIx (ds.map V.int).length 0 (some 4)=4:=by
    have:=HT.sIx_nat (ds.map V.int).length 0 4;rw [dl] at this ⊢;exact this
   have z2:HT.sIx (ds.map V.int).length (ds.map V.int).length (some (4+(kg:Int)))=4+kg:=by
    have:=HT.sIx_nat (ds.map V.int).length (ds.map V.int).length (4+kg);rw [dl] at this ⊢;rw [show (4:Int)+(kg:Int)=((4+kg:Nat):Int) by lia,this];lia
   rw [z1,z2,List.map_take,List.map_drop]
   congr 1
   lia
  refine ⟨_,rfl,_,rfl,_,rfl,kl,_,1,_,rfl,rfl,SqL.of hk7,ak1,_,_,rfl,rfl,_,rfl,pl,_,rfl,SqL.of hp7,λ sp hsp=>?_⟩;rw [ec];have s7:=Same.new hsp (.lst (((ds.drop 4).take kg).map V.int));refine ⟨λ σ' H'=>∃ (gp:Addr) (Bs:List Int) (o12:Option V),σ'=[some (.ref a),some (.int at'),some (.int most),some (.int far),some (.ref hl),some (.ref kl),some (.int (many:Int)),some (.int size),some (.ref bl),some (.int (0+(i:Int))),some (.ref pl),some (.ref tp),o12,some (.ref gp),o14]/\Same H7 H'/\H7 gp=none/\H' gp=some (.lst (Bs.map V.int))/\Bs.length=kg/\∀ x∈Bs,0<=x/\x<=far,?_,?_⟩
  ·refine ⟨_,rfl,sp,rfl,⟨_,SqL.of upd_same⟩,λ gp hgp=>?_⟩
   refine R1 (y6 (SqL.of upd_same)) hgp (by rw [List.length_map,List.length_take]; exact j7 (by lia)) (λ x=>.int (vI x % (size+1)*(if decide (0<vI x % 7)=true then 1 else 0))) (λ j x H' N hx e hN=>?_) ?_
   ·obtain ⟨k,rfl⟩:=K5 hx
    refine ⟨Wk.set (by decide),_,rfl,_,rfl,_,_,rfl,rfl,_,_,rfl,rfl,(by show (0:Int)<size+1; lia),_,rfl,_,_,rfl,rfl,(by show (0:Int)<7; decide),_,_,rfl,rfl,.inr ⟨_,rfl,_,_,rfl,rfl,.inr ?_,hN⟩⟩;constructor <;> (split <;> decide)
   ·have eB:(((ds.drop 4).take kg).map V.int).map (λ x=>V.int (vI x % (size+1)*(if decide (0<vI x % 7)=true then 1 else 0)))=(((ds.drop 4).take kg).map λ d=>d % (size+1)*(if decide (0<d % 7)=true then 1 else 0)).map V.int:=by rw [List.map_map,List.map_map]; rfl
    rw [eB];refine ⟨gp,_,_,rfl,s7.trans (Same.new hgp _),s7.free hgp,upd_same,by rw [List.length_map,List.length_take,List.length_drop]; lia,λ x hx=>?_⟩;obtain ⟨d,_,rfl⟩:=List.mem_map.mp hx;have p0:0<=d % (size+1)/\d % (size+1)<size+1:=⟨Int.emod_nonneg _ (by lia),Int.emod_lt_of_pos _ (by lia)⟩
    split <;> lia
  intro σ' H8 hM_; refine I0 λ G_ hG_=>?_; obtain ⟨gp,Bs,o12',rfl,e8,f8,hg8,lBs,tBs⟩:=hM_; subst hG_;have hp8:=e8 _ _ hp7;have hk8:=e8 _ _ hk7;have lB':(Bs.map V.int).length=kg:=by rw [List.length_map]; exact lBs
  refine ⟨λ σ' H'=>∃ (Bs:List Int) (o12:Option V),σ'=[some (.ref a),some (.int at'),some (.int most),some (.int far),some (.ref hl),some (.ref kl),some (.int (many:Int)),some (.int size),some (.ref bl),some (.int (0+(i:Int))),some (.ref pl),some (.ref tp),o12,some (.ref gp),o14]/\Same H7 H'/\H' gp=some (.lst (Bs.map V.int))/\Bs.length=kg/\(∀ x∈Bs,0<=x/\x<=far)/\∃ x∈Bs,0<x,?_,?_⟩
  ·refine ⟨_,rfl,gp,Bs,rfl,.inl (SqL.of hg8),(λ z=>by rw [z] at lBs; simp at lBs; lia),λ M hM hMx=>⟨rfl,_,rfl,?_⟩⟩
   refine D9 (λ c=>?_) (λ c=>?_)
   ·refine ⟨_,rfl,pl,_,9,_,rfl,rfl,SqL.of hp8,c9,_,rfl,_,_,rfl,rfl,(by show (0:Int)<size; lia),_,_,rfl,rfl,?_⟩
    refine ⟨_,rfl,_,rfl,pl,_,8,_,rfl,rfl,SqL.of hp8,c8,_,rfl,kl,_,1,_,rfl,rfl,SqL.of hk8,ak1,_,_,rfl,rfl,(by show (0:Int)<(kg:Int); lia),?_⟩;have r0:0<=y8 % (kg:Int):=Int.emod_nonneg _ (by lia);have r1:y8 % (kg:Int)<((Bs.map V.int).length:Int):=by rw [lB']; exact Int.emod_lt_of_pos _ (by lia)
    have rn:(y8 % (kg:Int)).toNat<Bs.length:=by rw [lB'] at r1; lia
    have p0:0<=y9 % size/\y9 % size<size:=⟨Int.emod_nonneg _ (by lia),Int.emod_lt_of_pos _ (by lia)⟩;refine ⟨gp,_,_,_,rfl,rfl,hg8,Y9 r0 r1,?_⟩;refine ⟨Bs.set (y8 % (kg:Int)).toNat _,_,rfl,e8.write f8,by rw [upd_same,map_set],by rw [List.length_set]; exact lBs,λ x hx=>?_,_,List.mem_set rn _,by lia⟩;rcases List.mem_or_eq_of_mem_set hx with z | z
    ·exact tBs x z
    ·lia
   ·have c':¬ M=0:=λ z=>c (decide_eq_true (by rw [z]))
    have:=tBs M hM;exact ⟨Bs,_,rfl,e8,hg8,lBs,tBs,M,hM,by lia⟩
  intro σ' H9 hM_; refine I0 λ G_ hG_=>?_; obtain ⟨Bt,o12'',rfl,e9,hg9,lBt,tBt,tPt⟩:=hM_; subst hG_;refine ⟨λ σ' H'=>∃ (v:V) (h:h8) (o12:Option V),σ'=[some (.ref a),some (.int at'),some (.int most),some (.int far),some (.ref hl),some (.ref kl),some (.int (many:Int)),some (.int size),some (.ref bl),some (.int (0+(i:Int))),some (.ref pl),some (.ref tp),o12,some (.ref gp),some v]/\Same H7 H'/\HS K H' v h/\HG far kt kg h,?_,?_⟩
  ·refine ⟨_,rfl,_,rfl,gp,_,rfl,.inl ⟨SqL.of hg9,λ pg hpg=>?_⟩⟩
   have f1:=Same.new hpg (.tup (Bt.map V.int));refine ⟨(by show 2<=sizeLine; decide),λ pr hpr=>?_⟩;have f2:=Same.new hpr (.tup [V.ref tp,V.ref pg]);exact ⟨_,(At,Bt),_,rfl,e9.trans (f1.trans f2),⟨pr,tp,pg,rfl,SqT.of upd_same,SqT.of (f2 _ _ (f1 _ _ (e9 _ _ ht7))),SqT.of (f2 _ _ upd_same)⟩,⟨lAt,lBt,tAt,tBt,tPt⟩⟩
  intro σ' H10 hM_; refine I0 λ G_ hG_=>?_; obtain ⟨v,h,o12'',rfl,e10,hv,hvG⟩:=hM_; subst hG_;have e57:Same H5 H7:=e6.trans e7;have e510:Same H5 H10:=e57.trans e10;refine ⟨λ σ' H'=>∃ (v:V) (h:h8) (o12:Option V),σ'=[some (.ref a),some (.int at'),some (.int most),some (.int far),some (.ref hl),some (.ref kl),some (.int (many:Int)),some (.int size),some (.ref bl),some (.int (0+(i:Int))),some (.ref pl),some (.ref tp),o12,some (.ref gp),some v]/\Same H5 H'/\HS K H' v h/\HG far kt kg h,?_,?_⟩
  ·refine ⟨_,rfl,(by show 0<=sizeLine; decide),λ ep hep=>?_⟩
   have f1:=Same.new hep (.lst []);have e511:=e510.trans f1;refine ⟨.list (hs.map a0T),.list [],.lst (SqL.of (e511 _ _ hb5)) (Bk.dps (Bk.same e511 hB)),.lst (SqL.of upd_same) .nil,a4U hs,rfl,Nat.le_trans (Nat.min_le_right _ _) (by decide),_,rfl,?_⟩;refine D9 (λ c=>?_) (λ c=>a1p ⟨v,h,_,rfl,e511,hv.same f1,hvG⟩);have hpos:0<hs.length:=by
    cases hs with
    | nil=>exact absurd c (by simp [PyData.eqv,PyData.eqvAll])
    | cons _ _=>simp
   have hp11:upd H10 ep (.lst []) pl=some (.lst (ds.map V.int)):=f1 _ _ (e10 _ _ hp7);have hb11:=e511 _ _ hb5;refine ⟨_,rfl,pl,_,10,_,rfl,rfl,SqL.of hp11,c10,_,_,rfl,rfl,(by show (0:Int)<4; decide),rfl,_,rfl,?_⟩;refine D9 (λ c=>?_) (λ c=>⟨v,h,_,rfl,e511,hv.same f1,hvG⟩);have r0:0<=y11 % (xs.length:Int):=Int.emod_nonneg _ (by lia);have r1:y11 % (xs.length:Int)<(xs.length:Int):=Int.emod_lt_of_pos _ (by lia);have hk:(y11 % (xs.length:Int)).toNat<xs.length:=by lia
   have ax:atI xs (y11 % (xs.length:Int))=some xs[(y11 % (xs.length:Int)).toNat]:=by
    unfold atI;rw [Y9 r0 r1];exact List.getElem?_eq_getElem hk
   obtain ⟨h',hh',hs'⟩:=Paired.at hB (List.getElem?_eq_getElem hk);refine ⟨_,rfl,_,rfl,pl,_,11,_,rfl,rfl,SqL.of hp11,c11,_,rfl,bl,_,rfl,.inl (SqL.of hb11),_,_,rfl,rfl,(by show (0:Int)<(xs.length:Int); lia),bl,_,_,_,rfl,rfl,SqL.of hb11,ax,_,rfl,_,rfl,?_⟩;refine ⟨_,pl,far,h',ds,kt,kg,rfl,hs'.same e511,hG h' (List.mem_of_getElem? hh'),kt1,kt4,kg1,kg4,hfar,SqL.of hp11,(by omega),d6,λ r H12 h'' e12 hs'' hg''=>⟨r,h'',_,rfl,e511.trans e12,hs'',hg''⟩⟩
  intro σ' H11 hM_; refine I0 λ G_ hG_=>?_; obtain ⟨v,h,o12'',rfl,e11,hv,hvG⟩:=hM_; subst hG_;have hb11:=e11 _ _ hb5;refine ⟨_,rfl,.inl ⟨rfl,_,SqL.of hb11⟩,_,rfl,bl,xs,v,rfl,rfl,hb11,j7 (by lia),?_⟩;have kp:Keep H11 (upd H11 bl (.lst (xs++[v]))):=Keep.upd hb11;refine ⟨xs++[v],hs++[h],_,_,_,_,_,_,rfl,(e5.trans e11).write hbl,upd_same,Paired.app (Bk.keep kp (Bk.same e11 hB)) (.cons (HS.keep kp hv) .nil),by rw [List.length_append,hlen5]; rfl,λ h' hm=>?_⟩;rcases List.mem_append.mp hm with z | z
  ·exact hG h' z
  ·rw [List.mem_singleton.mp z]; exact hvG
 ·intro σ H' hM_; refine I0 λ G_ hG_=>?_; obtain ⟨xs,hs,o9,o10,o11,o12,o13,o14,rfl,e5,hb5,hB,hlen5,hG⟩:=hM_; subst hG_
  exact ⟨_,rfl,q bl H' xs hs kt kg (e14.trans e5) hb5 hB (by lia) (by lia) kt1 kt4 kg1 kg4 hG⟩
end
end Rim
namespace Rim
open PySem L2 Fr
def b5V (K:W.Frag):List V->Hp->VK->Prop:=λ vs H Q=>∃ (a:Addr) (ns:List Int),vs=[.ref a]/\SqA K H a (ns.map V.int)/\Q (.int ns.sum) H
theorem a8R (K:W.Frag) {X:Cx} (h:X.K=K) (hc:X.calm=true):O1 X (.builtin "sum") (b5V K):=by subst h; exact b0d hc
theorem b2r (K:W.Frag) {X:Cx} (h:X.K=K):IxR X (b4x K):=by subst h; exact E6
def FrV (K:W.Frag) (H:Hp) (v:V) (f:Q2):Prop:=∃ a,v=.ref a/\SqT K H a [.int f.1,.int f.2]
def FrT (H:Hp) (v:V) (f:Q2):Prop:=∃ a,v=.ref a/\H a=some (.tup [.int f.1,.int f.2])
theorem FrT.v {K:W.Frag} {H:Hp} {v:V} {f:Q2} (h:FrT H v f):FrV K H v f:=by
 obtain ⟨a,e,q⟩:=h;exact ⟨a,e,SqT.of q⟩
theorem FrT.same {H H':Hp} {v:V} {f:Q2} (e:Same H H') (h:FrT H v f):FrT H' v f:=by
 obtain ⟨a,z,q⟩:=h;exact ⟨a,z,e _ _ q⟩
theorem FrV.same {K:W.Frag} {H H':Hp} {v:V} {f:Q2} (e:Same H H') (h:FrV K H v f):FrV K H' v f:=by
 obtain ⟨a,z,q⟩:=h;exact ⟨a,z,e.tseq q⟩
section
variable {P:Program} {w:World} {K:W.Frag} {mg:Str->Option Value} {base:Heap} {f g:Addr} {fd gd:FuncData}
structure Cal (P:Program) (w:World) (K:W.Frag) (mg:Str->Option Value) (base:Heap) (n:Nat) (x:Str) (ps:List Str) (sp:Sp) (fa:Addr) (d:FuncData):Prop where
 ok:FnOk P w K mg base G5 n fa d ps sp
 b:Binds K d ps []
 k:W.keepIn K (.ref fa)=true
 m:mg x=some (.ref fa)
def a9J:Sp:=λ vs H Q _=>∃ a b:Int,vs=[.int a,.int b]/\0<=b/\Q (.int (gI a b)) H
theorem scDiv:m8 ["one","other"] ["one","other"] (i5 b3F):=⟨rfl,rfl,rfl,by decide +kernel,rfl,by decide +kernel,by decide +kernel⟩
def b6f:St->Nat:=λ σ=>match σ with | [_,some (.int y)]=>y.toNat | _=>0
theorem b3z (x:Int):(if x<0 then -x else x)=gI x 0:=by
 rw [b1p]
 split <;> lia
theorem b3k {n:Nat} (F:Fun K "common_divisor" "common_divisor" b3F f fd) (T:x9 mg):FnOk P w K mg base G5 (n+1) f fd ["one","other"] a9J:=by
 refine F.ok scDiv (λ vs H Q E h=>?_) (λ cdv A outer s H vs Q E hr h=>?_)
 ·obtain ⟨a,b,rfl,_⟩:=h
  rfl
 obtain ⟨a,b,rfl,hb,q⟩:=h;refine ⟨_,i4 (a2v PassesOwn.never (m9 b1X (pv 1) i3 (r6 _)) (i6 (b3I (i:=0) (j:=1) rfl scDiv.nd rfl rfl (by decide) rfl rfl (c5 (pv 1) (c5 (i8 x6 (pv 0) (pv 1)) c6)) rfl)))
  (i6 (r9 (m6 b0c rfl T.abs (PyProof.Rows.Boot.abs) (c5 (pv 0) c6)))),?_⟩
 refine a4p (λ σ H'=>∃ x y:Int,σ=[some (.int x),some (.int y)]/\H'=H/\0<=y/\gI x y=gI a b) (λ σ _=>b6f σ) ⟨a,b,rfl,rfl,hb,rfl⟩ ?_ (λ σ H Q Q' hq ⟨v,h1,h2,k,h3,q⟩=>⟨v,h1,h2,k,h3,hq _ _ q⟩);rintro σ H' ⟨x,y,rfl,rfl,hy,hg⟩;refine ⟨_,rfl,rfl,_,rfl,?_⟩;refine D9 (λ c=>?_) (λ c=>?_)
 ·have hy0:0<y:=by
   by_cases z:y=0
   ·subst z; simp at c
   ·lia
  have hm:=Int.emod_nonneg x (show y≠0 by lia);have hl:=Int.emod_lt_of_pos x hy0;refine ⟨_,rfl,_,rfl,_,rfl,_,_,rfl,rfl,hy0,_,_,rfl,⟨y,x % y,rfl,rfl,hm,?_⟩,?_⟩
  ·rw [b1i]; exact hg
  ·show (x % y).toNat<y.toNat
   lia
 ·have hy0:y=0:=by
   by_cases z:y=0
   ·exact z
   ·exact absurd (by simp [z]) c
  subst hy0;refine ⟨_,rfl,_,rfl,?_⟩;rw [b3z,hg];exact q
end
theorem Big.mono {n m:Nat} {i:Int} (h:Big n i) (hn:n<=m):Big m i:=Nat.lt_of_lt_of_le h (Nat.pow_le_pow_right (by decide) hn)
theorem Big.mul {n m:Nat} {i j:Int} (h:Big n i) (k:Big m j):Big (n+m) (i*j):=by
 unfold Big at *;rw [Int.natAbs_mul,Nat.pow_add];exact Nat.mul_lt_mul_of_lt_of_lt h k
theorem Y5 {i:Int} {n:Nat} (h0:0<=i) (h1:i<2 ^ n):Big n i:=by
 have e:((2 ^ n:Nat):Int)=2 ^ n:=by simp
 unfold Big;lia
section
variable {P:Program} {w:World} {K:W.Frag} {mg:Str->Option Value} {base:Heap} {f g:Addr} {fd gd:FuncData} {n:Nat}
def a7d:Sp:=λ vs H Q _=>∃ t b:Int,vs=[.int t,.int b]/\0<b/\b<2 ^ 8000/\∀ (v:V) (H':Hp),Same H H'->FrT H' v (low t b)->Q v H'
theorem scLow:m8 ["top","bottom","divisor"] ["top","bottom"] (i5 b2E):=⟨rfl,rfl,rfl,by decide +kernel,rfl,by decide +kernel,by decide +kernel⟩
theorem b3w {fa:Addr} {da:FuncData} (F:Fun K "lowest" "lowest" b2E f fd) (T:x9 mg) (C:Cal P w K mg base n "common_divisor" ["one","other"] a9J fa da):FnOk P w K mg base G5 (n+1) f fd ["top","bottom"] a7d:=by
 refine F.ok scLow (λ vs H Q E h=>?_) (λ cdv A outer s H vs Q E hr h=>?_)
 ·obtain ⟨a,b,rfl,_⟩:=h
  rfl
 obtain ⟨t,b,rfl,hb,hb2,q⟩:=h;refine ⟨_,i4 (A6 (m9 a2K (pv 1) i3 (r6 _)) a2J t7)
  (i4 (j4 (i:=2) scLow.nd rfl (Or.inl rfl) (j5 C.ok hr rfl C.m C.k C.b .nil w4 (c5 (pv 0) (c5 (pv 1) c6))))
  (i4 (A6 (m9 Z8 (pv 1) i3 (r6 _)) a2J t7)
  (i6 (r9 (U7 (c5 (i8 V8 (pv 0) (pv 2)) (c5 (i8 V8 (pv 1) (pv 2)) c6))))))),?_⟩
 refine ⟨_,rfl,rfl,_,rfl,?_⟩;refine D9 (λ c=>?_) (λ _=>?_)
 ·have:=V.int.inj (of_decide_eq_true c); lia
 refine ⟨_,rfl,_,rfl,t,b,rfl,Int.le_of_lt hb,?_⟩;refine ⟨_,rfl,_,_,rfl,rfl,_,rfl,?_⟩;refine D9 (λ c=>?_) (λ _=>?_)
 ·have:b<0:=of_decide_eq_true c; lia
 have hg:=a0U (a:=t) hb;have hgl:=b1U (a:=t) hb;refine ⟨_,rfl,_,rfl,_,_,rfl,rfl,⟨hg,Int.lt_of_le_of_lt hgl hb2⟩,_,rfl,_,rfl,_,_,rfl,rfl,⟨hg,Int.lt_of_le_of_lt hgl hb2⟩,(by show 2<=sizeLine; decide),λ p hp=>?_⟩;exact q _ _ (Same.new hp _) ⟨p,rfl,upd_same⟩
theorem V1 {α:Type} (a b:α):atI [a,b] 0=some a:=t9 (j:=0) rfl
theorem V9 {α:Type} (a b:α):atI [a,b] 1=some b:=t9 (j:=1) rfl
def a8S (K:W.Frag):Sp:=λ vs H Q _=>∃ (u v:V) (x y:Q2),vs=[u,v]/\FrV K H u x/\FrV K H v y/\(Big 1000000 x.1/\Big 1000000 x.2/\Big 1000000 y.1/\Big 1000000 y.2)/\Q (.bl (decide (x.1*y.2<y.1*x.2))) H
theorem b2J:m8 ["one","other"] ["one","other"] (i5 a8s):=⟨rfl,rfl,rfl,by decide +kernel,rfl,by decide +kernel,by decide +kernel⟩
theorem b1L (F:Fun K "_law_a_less" "_law_a_less" a8s f fd):FnOk P w K mg base G5 (n+1) f fd ["one","other"] (a8S K):=by
 refine F.ok b2J (λ vs H Q E h=>?_) (λ cdv A outer s H vs Q E hr h=>?_)
 ·obtain ⟨u,v,x,y,rfl,_⟩:=h
  rfl
 obtain ⟨u,v,x,y,rfl,⟨a,rfl,ha⟩,⟨b,rfl,hb⟩,⟨b1,b2,b3,b4⟩,q⟩:=h;refine ⟨_,i6 (r9 (Q4 Z8 (i8 L0 (j3 E6 (pv 0) i3 (λ _ _=>rfl)) (j3 E6 (pv 1) i3 (λ _ _=>rfl))) (i8 L0 (j3 E6 (pv 1) i3 (λ _ _=>rfl)) (j3 E6 (pv 0) i3 (λ _ _=>rfl))) (r6 _))),?_⟩;refine ⟨_,rfl,a,_,0,_,rfl,rfl,ha,V1 _ _,_,rfl,b,_,1,_,rfl,rfl,hb,V9 _ _,_,_,rfl,rfl,⟨b1,b4⟩,?_⟩;exact ⟨_,rfl,b,_,0,_,rfl,rfl,hb,V1 _ _,_,rfl,a,_,1,_,rfl,rfl,ha,V9 _ _,_,_,rfl,rfl,⟨b3,b2⟩,_,_,rfl,rfl,q⟩
end
section
variable {P:Program} {w:World} {K:W.Frag} {mg:Str->Option Value} {base:Heap} {f g:Addr} {fd gd:FuncData} {n:Nat}
def a1S (k:Nat) (m:Int):Prop:=0<=m/\m<(k:Int)
def a2R (K:W.Frag) (CN:Addr):Sp:=λ vs H Q E=>∃ (a:Addr) (xs:List V) (m:Int),vs=[.ref a,.int m]/\SqL K H a xs/\m.natAbs.log2<1920/\(∀ (i:Nat) x,m=(i:Int)->xs[i]?=some x->Q x H)/\(¬ a1S xs.length m->E (.ref CN) none H)
theorem b4p:m8 ["book","number"] ["book","number"] (i5 b3L):=⟨rfl,rfl,rfl,by decide +kernel,rfl,by decide +kernel,by decide +kernel⟩
theorem b2x {CN:Addr} (F:Fun K "house_of" "house_of" b3L f fd) (T:x9 mg) (kN:b2P K CN) (mN:mg "NoHouse"=some (.ref CN)):FnOk P w K mg base (CX1 P w) (n+1) f fd ["book","number"] (a2R K CN):=by
 refine F.ok1 b4p (λ vs H Q E h=>?_) (λ cdv A outer s H vs Q E hr h=>?_)
 ·obtain ⟨a,xs,m,rfl,_⟩:=h
  rfl
 obtain ⟨a,xs,m,rfl,hS,hm,q,hE⟩:=h;refine ⟨_,i4 (A6 (b3r (a8j b4u Z8 i3 (pv 1) (m6 j6 rfl T.len PySem.boot_len (c5 (pv 0) c6)))) (i6 (a8Z kN rfl mN hr.hd (c5 (b1u (pv 1) (by decide)) c6))) t7)
  (i6 (r9 (j3 i7 (pv 0) (pv 1) (λ _ _=>rfl)))),?_⟩
 refine ⟨_,rfl,_,_,rfl,rfl,_,rfl,?_⟩;have bad:¬ a1S xs.length m->a8Y (b2q (tFs (a7J 1)) b0O) CN E { nx:=λ _ H'=>Q .non H',rt:=Q } (W4 ["book","number"] [.ref a,.int m]) H:=λ hb=>⟨_,rfl,m,rfl,hm,λ x=>⟨(by show 1<=1000; decide),hE hb⟩⟩;refine D9 (λ c=>?_) (λ c=>?_)
 ·have c':0<=m:=of_decide_eq_true c
  refine ⟨_,rfl,a,_,rfl,.inl hS,_,_,rfl,rfl,_,rfl,?_⟩;refine D9 (λ d=>?_) (λ d=>?_)
  ·have d':¬ m<(xs.length:Int):=of_decide_eq_false (by simpa using d)
   exact bad λ z=>d' z.2
  ·have d':m<(xs.length:Int):=of_decide_eq_true (by simpa using d)
   obtain ⟨j,rfl⟩:∃ j:Nat,m=(j:Int):=⟨m.toNat,by lia⟩;have hi:j<xs.length:=by lia
   exact ⟨_,rfl,_,rfl,a,_,_,_,rfl,rfl,hS,t9 (List.getElem?_eq_getElem hi),q j xs[j] rfl (List.getElem?_eq_getElem hi)⟩
 ·have c':¬ 0<=m:=of_decide_eq_false (Bool.eq_false_iff.mpr c)
  exact ⟨_,rfl,a7V (bad λ z=>c' z.1)⟩
end
end Rim
namespace L2
open PySem PySem.Spec PyProof.Rows
structure b2k (K:W.Frag) (P:Params) (d:Addr):Prop where
 ex:∃ es n,K.lookup d=some ⟨.type "dict",none,.dict es n,#[]⟩/\W.KeysLit P es.toList
def b5L (K:W.Frag) (P:Params):R2:=λ x y H Q=>∃ d z t,x=.ref d/\y=.str z/\b2k K P d/\W.nsIn K d z=some (some (.ref t))/\Q (.ref t) H
theorem a9x (K:W.Frag) (P:Params) {X:Cx} (hK:X.K=K) (hP:X.w.params=P):IxR X (b5L K P):=by
 subst hK;subst hP;intro value slice pins s σ H x y v u Q I rx ry h hs;obtain ⟨d,z,t,rfl,rfl,⟨es,n,hl,hk⟩,e,q⟩:=h
 cases rx;obtain ⟨tk,rfl⟩:=ry;obtain ⟨m,hm⟩:=I.fr;exact W.topItem_K hm I.mod.kin hl hk e ⟨.ref t,H,I.tok _,rfl,q⟩ (by first | exact hs | exact hs _ _)
end L2
namespace L2
open PySem
theorem b3B (K:W.Frag) {X:Cx} {tg l:Expr} {tl:TE} (h:X.K=K) (hl:PE X l tl):PI X tg l (b4w K tl):=by subst h; exact a5H hl
end L2
namespace Rim
open PySem L2 Fr
def R7 (z:Str):Prop:=z="any"\/z="one"\/z="less"\/z="more"
def E7 (z:Str):List Int:=if z="any" then [] else if z="one" then [1,-1] else if z="less" then [-1] else [1]
structure Sg (K:W.Frag) (Pm:Params) (mg:Str->Option Value) (d:Addr):Prop where
 m:mg "SIZE_SIGNS"=some (.ref d)
 k:b2k K Pm d
 tt:∀ z,R7 z->∃ t,W.nsIn K d z=some (some (.ref t))/\∀ H,SqT K H t ((E7 z).map V.int)
def t8 (z:Str) (h:h8):List Int:=h.1.map (λ x=>-x)++h.2++E7 z
section
variable {P:Program} {w:World} {K:W.Frag} {mg:Str->Option Value} {base:Heap} {f Pt d:Addr} {fd:FuncData} {n:Nat} {C:Addr}
def N1 (K:W.Frag):Sp:=λ vs H Q _=>∃ (ba:Addr) (xs:List V) (hs:List h8) (z:Str) (kt kg:Nat),vs=[.ref ba,.str z]/\R7 z/\SqL K H ba xs/\Bk K H xs hs/\hs.length<=100/\kt<=100/\kg<=100/\(∀ h∈hs,h.1.length=kt/\h.2.length=kg) ∧
 ∀ (r:Addr) (H':Hp) (rs:List Addr),Same H H'->H' r=some (.lst (rs.map V.ref))->rs.length=hs.length->(∀ (i:Nat) a h,rs[i]?=some a->hs[i]?=some h->H' a=some (.lst ((t8 z h).map V.int)))->Q (.ref r) H'
theorem scHr:m8 ["houses","sizes","signs"] ["houses","sizes"] (i5 P5):=⟨rfl,rfl,rfl,by decide +kernel,rfl,by decide +kernel,by decide +kernel⟩
theorem b2g:(["takes","gives","signs"]:List Str).Nodup:=by decide +kernel
theorem b4I:(["take"]:List Str).Nodup:=by decide +kernel
theorem a1A (z:Str):(E7 z).length<=2:=by
 unfold E7
 by_cases h1:z="any"
 ·rw [if_pos h1]; decide
 by_cases h2:z="one"
 ·rw [if_neg h1,if_pos h2]; decide
 by_cases h3:z="less"
 ·rw [if_neg h1,if_neg h2,if_pos h3]; decide
 ·rw [if_neg h1,if_neg h2,if_neg h3]; decide
noncomputable def hrT {cdv:Value} {A:Around} {outer:List Env} {s:Shared} {H:Hp} {E:XK} (N:x9 mg) (G:Sg K w.params mg d) :
  { t:TS // PSs (K7 G5 P w K mg base ["houses","sizes","signs"] "house_rows" (i5 P5) f cdv A outer s H E).nox (v6 P5) t } :=
 ⟨_,i4 (j4 (i:=2) scHr.nd rfl (Or.inr rfl) (r8 D3 rfl N.list PyProof.Rows.boot_list (c5 (j3 (a9x K w.params rfl rfl) (a1I (v:=.ref d) rfl G.m rfl) (pv 1) (λ _ _=>rfl)) c6)))
  (i6 (r9 (R8 ["takes","gives"] [2] rfl (B9 (pv 0))
   (λ _ _ _ _=>N7 K (n:=2) rfl rfl (j8 (i9 (i:=0) b2g rfl (Or.inl rfl)) (j8 (i9 (i:=1) b2g rfl (Or.inl rfl)) A8)))
   (λ _ _ _ _=>i8 D0 (i8 D0 (R8 ["take"] [] rfl (b3B K rfl (pv 0)) (λ _ _ _ _=>i9 (i:=0) b4I rfl (Or.inl rfl)) (λ _ _ _ _=>S3 K6 (pv 0))) (r8 (a6U K rfl) rfl N.list PyProof.Rows.boot_list (c5 (pv 1) c6))) (pv 2)))))⟩
theorem a3W (F:Fun K "house_rows" "house_rows" P5 f fd) (N:x9 mg) (G:Sg K w.params mg d):FnOk P w K mg base G5 (n+1) f fd ["houses","sizes"] (N1 K):=by
 refine F.ok scHr (λ vs H Q E h=>?_) (λ cdv A outer s H vs Q E hr h=>?_)
 ·obtain ⟨ba,xs,hs,z,kt,kg,rfl,_⟩:=h
  rfl
 obtain ⟨ba,xs,hs,z,kt,kg,rfl,hz,hB,hBk,hl,hkt,hkg,hlen,k⟩:=h;refine ⟨_,(hrT N G).2,?_⟩;obtain ⟨t,ht,hT⟩:=G.tt z hz;have xl:xs.length=hs.length:=Paired.length hBk;refine ⟨_,rfl,d,z,t,rfl,rfl,G.k,ht,t,_,rfl,.inr (hT _),λ sl hsl=>?_⟩;have e0:=Same.new hsl (.lst ((E7 z).map V.int));have hS0:upd H sl (.lst ((E7 z).map V.int)) sl=some (.lst ((E7 z).map V.int)):=upd_same;refine ⟨_,rfl,ba,rfl,⟨_,e0.seq hB⟩,λ l hl'=>?_⟩;refine a1w (y6 (e0.seq hB)) hl' (by rw [xl]; exact j7 (by lia)) (λ i y H2=>∃ a h,y=.ref a/\a≠l/\hs[i]?=some h/\H2 a=some (.lst ((t8 z h).map V.int)))
  (λ i y H2 H3 ⟨a,h,h1,h2,h3,h4⟩ e=>⟨a,h,h1,h2,h3,e a _ h2 h4⟩) (λ i x H2 ys N' hx e hl2 hN=>?_) (λ ys H2 e hl2 len pr=>?_)
 ·obtain ⟨h,hh,hHS⟩:=Paired.at hBk hx
  have hH2:=hHS.same (e0.trans e);obtain ⟨a,ta,ga,rfl,p1,p2,p3⟩:=hH2;have lh:=hlen h (List.mem_of_getElem? hh);refine ⟨a,_,rfl,p1,rfl,_,_,rfl,_,_,rfl,rfl,?_,?_⟩
  ·refine ⟨by simp,λ k w ek=>?_⟩
   have:¬ k<2:=λ hk=>by
    unfold blkσ at ek;rw [List.getElem?_append_left (by simpa using hk),List.getElem?_replicate] at ek
    split at ek <;> cases ek
   rw [List.getElem?_set_ne (by lia),List.getElem?_set_ne (by lia)]; exact ek
  refine ⟨_,rfl,ta,rfl,⟨_,p2⟩,λ a1 h1=>?_⟩;refine R1 (a1J p2) h1 (by rw [List.length_map,lh.1]; exact j7 (by lia)) (λ x=>.int (-(vI x))) (λ j x H' N2 hx2 e2 hN2=>?_) ?_
  ·obtain ⟨x',rfl,_⟩:=a0t hx2
   exact ⟨Wk.set (by decide),_,rfl,_,rfl,hN2⟩
  have eg:(h.1.map V.int).map (λ x=>V.int (-(vI x)))=(h.1.map λ x=>-x).map V.int:=by rw [List.map_map,List.map_map]; rfl
  rw [eg];have s1:=Same.new h1 (.lst ((h.1.map λ x=>-x).map V.int));refine ⟨_,rfl,ga,_,rfl,.inr (s1.tseq p3),λ a2 h2=>?_⟩;have s2:=s1.trans (Same.new h2 (.lst (h.2.map V.int)));have n12:a1≠a2:=g0 upd_same h2;have sz:=j7 (show kt+kg+2<=1000 by lia);have sg:=a1A z;refine ⟨a1,a2,_,_,rfl,rfl,(by rw [c7 n12]; exact upd_same),upd_same,?_,λ a3 h3=>?_⟩
  ·rw [List.length_map,List.length_map,List.length_map,lh.1,lh.2]; lia
  have s3:=s2.trans (Same.new h3 (.lst ((h.1.map λ x=>-x).map V.int++h.2.map V.int)));have sl3:=s3 _ _ (e _ _ hS0);refine ⟨_,rfl,a3,sl,_,_,rfl,rfl,upd_same,sl3,?_,λ a4 h4=>?_⟩
  ·rw [List.length_append,List.length_map,List.length_map,List.length_map,List.length_map,lh.1,lh.2]; lia
  refine hN _ _ (s3.trans (Same.new h4 _)) ⟨a4,h,rfl,λ z'=>?_,hh,?_⟩
  ·rw [z',s3 _ _ hl2] at h4; cases h4
  ·rw [upd_same]
   unfold t8;rw [List.map_append,List.map_append]
 ·have hys:ys=(ys.map a4G).map V.ref:=by
   rw [List.map_map];refine List.ext_getElem? λ i=>?_;rw [List.getElem?_map]
   cases qi:ys[i]? with
   | none=>rfl
   | some y =>
    obtain ⟨a,_,rfl,_⟩:=pr i y qi;rfl
  refine k l H2 (ys.map a4G) (e0.trans e) (by rw [hl2]; rw [<- hys]) (by rw [List.length_map,len,xl]) λ i a h hi hh=>?_;rw [List.getElem?_map] at hi
  cases qi:ys[i]? with
  | none=>rw [qi] at hi; cases hi
  | some y =>
   obtain ⟨a',h',rfl,_,h3,h4⟩:=pr i y qi;rw [qi] at hi;have:a'=a:=Option.some.inj hi;subst this;rw [hh] at h3
   cases h3;exact h4
end
def G9 (z:Str) (h:h8):List Int:=List.replicate h.1.length 0++h.2++E7 z
def J1 (z:Str) (h:h8):List Int:=h.1++List.replicate h.2.length 0++List.replicate (E7 z).length 0
def A9 (z:Str) (hs:List h8) (h:h8):List (List Int):=hs.map (t8 z)++[J1 z h]
def a0d (hs:List h8):List Int:=List.replicate hs.length 0++[1]
theorem S9 (k:Nat):(List.replicate k [V.int 0]).flatten=(List.replicate k (0:Int)).map V.int:=by
 induction k with
 | zero=>rfl
 | succ k ih=>rw [List.replicate_succ,List.flatten_cons,ih,List.replicate_succ,List.map_cons]; rfl
section
variable {P:Program} {w:World} {K:W.Frag} {mg:Str->Option Value} {base:Heap} {f Pt d:Addr} {fd:FuncData} {n:Nat} {C:Addr}
abbrev OfE (z:Str) (hs:List h8) (h:h8) (S:Lp.Bo):Prop:=Lp.Of (hs.length+1) (h.1.length+h.2.length+(E7 z).length) (S4 (A9 z hs h)) (E9 (a0d hs)) (E9 (G9 z h)) S
def a4Y (K:W.Frag) (Pt:Addr):Sp:=λ vs H Q _=>∃ (ba:Addr) (hv:V) (xs:List V) (hs:List h8) (h:h8) (z:Str) (far:Int) (kt kg m q:Nat),vs=[.ref ba,hv,.str z]/\R7 z/\SqL K H ba xs/\Bk K H xs hs/\HS K H hv h/\HG far kt kg h/\(∀ h∈hs,HG far kt kg h)/\far<=2 ^ 60 ∧
 hs.length<=16/\kt<=20/\kg<=20/\m=hs.length+1/\q=h.1.length+h.2.length+(E7 z).length/\LT Pt H ∧
 (∀ (S:Lp.Bo) (H':Hp) (t aa wa:Addr),OfE z hs h S->(∀ j,j<q->¬ S.T m j<0)->Sz 4000 m q S->Same1 Pt H H'->LT Pt H'->H' t=some (.tup [.int (S.T m q),.ref aa,.ref wa,.int S.d]) →
  H' aa=some (.lst ((p7 m q S).map V.int))->H' wa=some (.lst ((C6 m q S).map V.int))->Q (.ref t) H') ∧
 ∀ (S:Lp.Bo) (H':Hp) (c:Nat),OfE z hs h S->c<q->S.T m c<0->(∀ i,i<m->¬ 0<S.T i c)->Same1 Pt H H'->LT Pt H'->Q .non H'
theorem scEa:m8 ["houses","house","sizes","takes","gives","signs","earned","paid"] ["houses","house","sizes"] (i5 X6):=⟨rfl,rfl,rfl,by decide +kernel,rfl,by decide +kernel,by decide +kernel⟩
noncomputable def eaT {cdv:Value} {A:Around} {outer:List Env} {s:Shared} {H:Hp} {E:XK} {f1 f2:Addr} {d1 d2:FuncData} (N:x9 mg) (G:Sg K w.params mg d) (Cg:W5 P w K mg base n "greatest" ["goal","rows","bounds"] (P3 K C Pt) f1 d1) (Ch:W5 P w K mg base n "house_rows" ["houses","sizes"] (N1 K) f2 d2)
  (hr:Room n (A.deeper (PyProof.Rows.envOfC "greatest_earned" (i5 X6) s.heap.objs.size f cdv))) :
  { t:TS // PSs (K7 G5 P w K mg base ["houses","house","sizes","takes","gives","signs","earned","paid"] "greatest_earned" (i5 X6) f cdv A outer s H E).nox (v6 X6) t } :=
 ⟨_,i4 (J9 (pv 1) (a0e rfl (j8 (i9 (i:=3) scEa.nd rfl (Or.inl rfl)) (j8 (i9 (i:=4) scEa.nd rfl (Or.inl rfl)) A8))))
  (i4 (j4 (i:=5) scEa.nd rfl (Or.inl rfl) (r8 D3 rfl N.list PyProof.Rows.boot_list (c5 (j3 (a9x K w.params rfl rfl) (a1I (v:=.ref d) rfl G.m rfl) (pv 2) (λ _ _=>rfl)) c6)))
  (p6 (j4 (i:=6) scEa.nd rfl (Or.inl rfl) (i8 D0 (i8 D0 (i8 V6 (v4 (c5 i3 c6)) (m6 j6 rfl N.len PySem.boot_len (c5 (pv 3) c6))) (r8 D3 rfl N.list PyProof.Rows.boot_list (c5 (pv 4) c6))) (pv 5)))
  (p6 (j4 (i:=7) scEa.nd rfl (Or.inl rfl) (i8 D0 (i8 D0 (r8 D3 rfl N.list PyProof.Rows.boot_list (c5 (pv 3) c6)) (i8 V6 (v4 (c5 i3 c6)) (m6 j6 rfl N.len PySem.boot_len (c5 (pv 4) c6)))) (i8 V6 (v4 (c5 i3 c6)) (m6 j6 rfl N.len PySem.boot_len (c5 (pv 5) c6)))))
  (i6 (r9 (j5 Cg.ok hr rfl Cg.m Cg.k Cg.b .nil w4 (c5 (pv 6) (c5 (i8 D0 (j5 Ch.ok hr rfl Ch.m Ch.k Ch.b .nil w4 (c5 (pv 0) (c5 (pv 2) c6))) (v4 (c5 (pv 7) c6)))
   (c5 (i8 D0 (i8 V6 (v4 (c5 i3 c6)) (m6 j6 rfl N.len PySem.boot_len (c5 (pv 0) c6))) (v4 (c5 i3 c6))) c6)))))))))⟩
theorem a8m:∀ k,k<20->Lp.bnd (2 ^ 60) (k+1)<2 ^ 4000:=by decide +kernel
theorem Q5 {rows:List (List Int)} {i j:Nat} {row:List Int} (h:rows[i]?=some row):S4 rows i j=row.getD j 0:=by
 have e:rows.getD i []=row:=by rw [List.getD_eq_getElem?_getD,h]; rfl
 unfold S4;rw [e]
theorem S5 {l:List Int} {M:Nat} (h:∀ x∈l,x.natAbs<=M) (j:Nat):(l.getD j 0).natAbs<=M:=by
 rw [List.getD_eq_getElem?_getD]
 cases e:l[j]? with
 | none=>exact Nat.zero_le _
 | some x=>exact h x (List.mem_of_getElem? e)
theorem a1F (z:Str):∀ x∈E7 z,x.natAbs<=2 ^ 60:=by
 unfold E7
 by_cases h1:z="any"
 ·rw [if_pos h1]; decide
 by_cases h2:z="one"
 ·rw [if_neg h1,if_pos h2]; decide
 by_cases h3:z="less"
 ·rw [if_neg h1,if_neg h2,if_pos h3]; decide
 ·rw [if_neg h1,if_neg h2,if_neg h3]; decide
theorem b3X {z:Str} {hs:List h8} {h:h8} {far:Int} {kt kg:Nat} (hh:HG far kt kg h) (hhs:∀ h∈hs,HG far kt kg h) (hf:far<=2 ^ 60) (q:Nat) :
  ∀ v,Lp.Fits (2 ^ 60) (hs.length+1+1) (Lp.Vv (hs.length+1) q (S4 (A9 z hs h)) (E9 (a0d hs)) (E9 (G9 z h)) v):=by
 have ht:∀ g:h8,HG far kt kg g->∀ x∈g.1,x.natAbs<=2 ^ 60:=λ g hg x hx=>by have:=hg.t x hx; lia
 have hg':∀ g:h8,HG far kt kg g->∀ x∈g.2,x.natAbs<=2 ^ 60:=λ g hg x hx=>by have:=hg.g x hx; lia
 have z0:∀ k:Nat,∀ x∈List.replicate k (0:Int),x.natAbs<=2 ^ 60:=λ k x hx=>by rw [(List.mem_replicate.mp hx).2]; decide
 have rows:∀ r∈A9 z hs h,∀ x∈r,x.natAbs<=2 ^ 60:=λ r hr x hx=>by
  unfold A9 at hr;rcases List.mem_append.mp hr with hr | hr
  ·obtain ⟨g,hg,rfl⟩:=List.mem_map.mp hr
   unfold t8 at hx;rcases List.mem_append.mp hx with hx | hx
   ·rcases List.mem_append.mp hx with hx | hx
    ·obtain ⟨y,hy,rfl⟩:=List.mem_map.mp hx
     have:=ht g (hhs g hg) y hy;rw [Int.natAbs_neg]; exact this
    ·exact hg' g (hhs g hg) x hx
   ·exact a1F z x hx
  ·rw [List.mem_singleton.mp hr] at hx
   unfold J1 at hx;rcases List.mem_append.mp hx with hx | hx
   ·rcases List.mem_append.mp hx with hx | hx
    ·exact ht h hh x hx
    ·exact z0 _ x hx
   ·exact z0 _ x hx
 have goal:∀ x∈G9 z h,x.natAbs<=2 ^ 60:=λ x hx=>by
  unfold G9 at hx;rcases List.mem_append.mp hx with hx | hx
  ·rcases List.mem_append.mp hx with hx | hx
   ·exact z0 _ x hx
   ·exact hg' h hh x hx
  ·exact a1F z x hx
 have bnds:∀ x∈a0d hs,x.natAbs<=2 ^ 60:=λ x hx=>by
  unfold a0d at hx;rcases List.mem_append.mp hx with hx | hx
  ·exact z0 _ x hx
  ·rw [List.mem_singleton.mp hx]; decide
 intro v i _;unfold Lp.Vv
 split
 ·split
  ·unfold S4
   refine S5 (λ x hx=>?_) v;rw [List.getD_eq_getElem?_getD] at hx
   cases e:(A9 z hs h)[i]? with
   | none=>rw [e] at hx; cases hx
   | some r=>rw [e] at hx; exact rows r (List.mem_of_getElem? e) x hx
  ·split
   ·rw [Int.natAbs_neg]; exact S5 goal v
   ·exact Nat.zero_le _
 ·split
  ·split <;> decide
  ·split
   ·exact S5 bnds i
   ·exact Nat.zero_le _
end
section
variable {P:Program} {w:World} {K:W.Frag} {mg:Str->Option Value} {base:Heap} {f Pt d:Addr} {fd:FuncData} {n:Nat} {C:Addr}
theorem b0J {H':Hp} {rs:List Addr} {hs:List h8} {z:Str} (hl:rs.length=hs.length) (h:∀ (i:Nat) a g,rs[i]?=some a->hs[i]?=some g->H' a=some (.lst ((t8 z g).map V.int))):RowsL K H' (rs.map V.ref) (hs.map (t8 z)):=by
 induction hs generalizing rs with
 | nil =>
  cases rs with
  | nil=>exact .nil
  | cons a r=>simp at hl
 | cons g hs ih =>
  cases rs with
  | nil=>simp at hl
  | cons a r=>exact .cons ⟨a,rfl,SqL.of (h 0 a g rfl rfl)⟩ (ih (by simpa using hl) λ i b g' h1 h2=>h (i+1) b g' (by simpa using h1) (by simpa using h2))
theorem a7D {f1 f2:Addr} {d1 d2:FuncData} (F:Fun K "greatest_earned" "greatest_earned" X6 f fd) (N:x9 mg) (G:Sg K w.params mg d) (Cg:W5 P w K mg base n "greatest" ["goal","rows","bounds"] (P3 K C Pt) f1 d1) (Ch:W5 P w K mg base n "house_rows" ["houses","sizes"] (N1 K) f2 d2) :
  FnOk P w K mg base G5 (n+1) f fd ["houses","house","sizes"] (a4Y K Pt):=by
 refine F.ok scEa (λ vs H Q E h=>?_) (λ cdv A outer s H vs Q E hr h=>?_)
 ·obtain ⟨ba,hv,xs,hs,h,z,far,kt,kg,m,q,rfl,_⟩:=h
  rfl
 obtain ⟨ba,hv,xs,hs,h,z,far,kt,kg,m,q,rfl,hz,hB,hBk,hHS,hh,hhs,hfar,h16,hkt,hkg,rfl,rfl,L,kT,kN⟩:=h;refine ⟨_,(eaT N G Cg Ch hr).2,?_⟩;obtain ⟨ha,ta,ga,rfl,p1,p2,p3⟩:=id hHS;obtain ⟨t,ht,hT⟩:=G.tt z hz;have xl:xs.length=hs.length:=Paired.length hBk;have sg:=a1A z;have s1k:=j7 (show (1000:Nat)<=1000 from Nat.le_refl _);have l1:=hh.lt;have l2:=hh.lg;refine ⟨_,rfl,ha,_,rfl,p1,rfl,_,_,rfl,_,_,rfl,rfl,?_⟩;refine ⟨_,rfl,d,z,t,rfl,rfl,G.k,ht,t,_,rfl,.inr (hT _),λ sl hsl=>?_⟩;have e0:=Same.new hsl (.lst ((E7 z).map V.int));have hS0:upd H sl (.lst ((E7 z).map V.int)) sl=some (.lst ((E7 z).map V.int)):=upd_same;refine ⟨λ σ' H1=>∃ ea:Addr,σ'=[some (.ref ba),some (.ref ha),some (.str z),some (.ref ta),some (.ref ga),some (.ref sl),some (.ref ea),none]/\Same (upd H sl (.lst ((E7 z).map V.int))) H1/\H1 ea=some (.lst ((G9 z h).map V.int)),?_,?_⟩
 ·refine ⟨(by show 1<=sizeLine; decide),λ a1 h1=>?_⟩
  have s1:=Same.new h1 (.lst [.int 0]);refine ⟨_,rfl,ta,_,rfl,.inr (s1.tseq (e0.tseq p2)),a1,_,_,rfl,rfl,upd_same,by lia,by rw [List.length_map,l1]; lia,by rw [List.length_map,l1,Int.toNat_natCast]; simp; lia,λ a2 h2=>?_⟩;rw [List.length_map,Int.toNat_natCast,S9];have s2:=s1.trans (Same.new h2 (.lst ((List.replicate h.1.length (0:Int)).map V.int)));refine ⟨_,rfl,ga,_,rfl,.inr (s2.tseq (e0.tseq p3)),λ a3 h3=>?_⟩;have s3:=s2.trans (Same.new h3 (.lst (h.2.map V.int)));have n23:a2≠a3:=g0 upd_same h3;refine ⟨a2,a3,_,_,rfl,rfl,(by rw [c7 n23]; exact upd_same),upd_same,?_,λ a4 h4=>?_⟩
  ·rw [List.length_map,List.length_map,List.length_replicate,l1,l2]; lia
  have s4:=s3.trans (Same.new h4 (.lst ((List.replicate h.1.length (0:Int)).map V.int++h.2.map V.int)));refine ⟨_,rfl,a4,sl,_,_,rfl,rfl,upd_same,s4 _ _ hS0,?_,λ a5 h5=>?_⟩
  ·rw [List.length_append,List.length_map,List.length_map,List.length_map,List.length_replicate,l1,l2]; lia
  refine ⟨a5,rfl,s4.trans (Same.new h5 _),?_⟩;rw [upd_same];unfold G9;rw [List.map_append,List.map_append]
 intro σ1 H1 hM_; refine I0 λ G_ hG_=>?_; obtain ⟨ea,rfl,e1,he⟩:=hM_; subst hG_;have e01:=e0.trans e1;refine ⟨λ σ' H2=>∃ pa:Addr,σ'=[some (.ref ba),some (.ref ha),some (.str z),some (.ref ta),some (.ref ga),some (.ref sl),some (.ref ea),some (.ref pa)]/\Same H1 H2/\H2 pa=some (.lst ((J1 z h).map V.int)),?_,?_⟩
 ·refine ⟨_,rfl,ta,_,rfl,.inr (e01.tseq p2),λ a1 h1=>?_⟩
  have s1:=Same.new h1 (.lst (h.1.map V.int));refine ⟨(by show 1<=sizeLine; decide),λ a2 h2=>?_⟩;have s2:=s1.trans (Same.new h2 (.lst [.int 0]));have n12:a1≠a2:=g0 upd_same h2;refine ⟨_,rfl,ga,_,rfl,.inr (s2.tseq (e01.tseq p3)),a2,_,_,rfl,rfl,upd_same,by lia,by rw [List.length_map,l2]; lia,by rw [List.length_map,l2,Int.toNat_natCast]; simp; lia,λ a3 h3=>?_⟩;rw [List.length_map,Int.toNat_natCast,S9];have s3:=s2.trans (Same.new h3 (.lst ((List.replicate h.2.length (0:Int)).map V.int)));have c1:=(Same.new h3 (.lst ((List.replicate h.2.length (0:Int)).map V.int))) a1 _ ((Same.new h2 (.lst [.int 0])) a1 _ upd_same);refine ⟨a1,a3,_,_,rfl,rfl,c1,upd_same,?_,λ a4 h4=>?_⟩
  ·rw [List.length_map,List.length_map,List.length_replicate,l1,l2]; lia
  have s4:=s3.trans (Same.new h4 (.lst (h.1.map V.int++(List.replicate h.2.length (0:Int)).map V.int)));refine ⟨(by show 1<=sizeLine; decide),λ a5 h5=>?_⟩;have s5:=s4.trans (Same.new h5 (.lst [.int 0]));have lz:((E7 z).map V.int).length=(E7 z).length:=List.length_map _;refine ⟨_,rfl,sl,_,rfl,.inl (SqL.of (s5 _ _ (e1 _ _ hS0))),a5,_,_,rfl,rfl,upd_same,by lia,by rw [lz]; lia,by rw [lz,Int.toNat_natCast]; simp; lia,λ a6 h6=>?_⟩;rw [lz,Int.toNat_natCast,S9];have c4:=(Same.new h6 (.lst ((List.replicate (E7 z).length (0:Int)).map V.int))) a4 _ ((Same.new h5 (.lst [.int 0])) a4 _ upd_same);refine ⟨a4,a6,_,_,rfl,rfl,c4,upd_same,?_,λ a7 h7=>?_⟩
  ·rw [List.length_append,List.length_map,List.length_map,List.length_map,List.length_replicate,List.length_replicate,l1,l2]; lia
  refine ⟨a7,rfl,(s5.trans (Same.new h6 _)).trans (Same.new h7 _),?_⟩;rw [upd_same];unfold J1;rw [List.map_append,List.map_append]
 intro σ2 H2 hM_; refine I0 λ G_ hG_=>?_; obtain ⟨pa,rfl,e2,hp⟩:=hM_; subst hG_;have e02:=e01.trans e2;refine ⟨_,rfl,_,rfl,_,rfl,?_⟩;refine ⟨ba,xs,hs,z,kt,kg,rfl,hz,e02.seq hB,hBk.same e02,by lia,by lia,by lia,λ g hg=>⟨(hhs g hg).lt,(hhs g hg).lg⟩,λ r H3 rs e3 hr3 lr hrs=>?_⟩;refine ⟨_,rfl,(by show 1<=sizeLine; decide),λ a1 h1=>?_⟩;have s1:=e3.trans (Same.new h1 (.lst [.ref pa]));have nr1:r≠a1:=g0 hr3 h1;refine ⟨r,a1,_,_,rfl,rfl,(by rw [c7 nr1]; exact hr3),upd_same,?_,λ a2 h2=>?_⟩
 ·rw [List.length_map,lr]; simp; lia
 have t2:=(Same.new h1 (.lst [.ref pa])).trans (Same.new h2 (.lst (rs.map V.ref++[.ref pa])));have s2:=s1.trans (Same.new h2 (.lst (rs.map V.ref++[.ref pa])));refine ⟨(by show 1<=sizeLine; decide),λ a3 h3=>?_⟩;have t3:=t2.trans (Same.new h3 (.lst [.int 0]));have s3:=s2.trans (Same.new h3 (.lst [.int 0]));refine ⟨_,rfl,ba,_,rfl,.inl ((e02.trans s3).seq hB),a3,_,_,rfl,rfl,upd_same,by lia,by rw [xl]; lia,by rw [xl,Int.toNat_natCast]; simp; lia,λ a4 h4=>?_⟩;rw [xl,Int.toNat_natCast,S9];have t4:=t3.trans (Same.new h4 (.lst ((List.replicate hs.length (0:Int)).map V.int)));have s4:=s3.trans (Same.new h4 (.lst ((List.replicate hs.length (0:Int)).map V.int)));refine ⟨(by show 1<=sizeLine; decide),λ a5 h5=>?_⟩;have t5:=t4.trans (Same.new h5 (.lst [.int 1]));have s5:=s4.trans (Same.new h5 (.lst [.int 1]));have n45:a4≠a5:=g0 upd_same h5;refine ⟨a4,a5,_,_,rfl,rfl,(by rw [c7 n45]; exact upd_same),upd_same,?_,λ a6 h6=>?_⟩
 ·rw [List.length_map,List.length_replicate]; simp; lia
 have t6:=t5.trans (Same.new h6 (.lst ((List.replicate hs.length (0:Int)).map V.int++[.int 1])));have s6:=s5.trans (Same.new h6 (.lst ((List.replicate hs.length (0:Int)).map V.int++[.int 1])));have g3:∀ b o,upd (upd H3 a1 (.lst [.ref pa])) a2 (.lst (rs.map V.ref++[.ref pa])) b=some o->upd (upd (upd (upd (upd (upd H3 a1 (.lst [.ref pa])) a2 (.lst (rs.map V.ref++[.ref pa]))) a3 (.lst [.int 0])) a4 (.lst ((List.replicate hs.length (0:Int)).map V.int))) a5 (.lst [.int 1])) a6 (.lst ((List.replicate hs.length (0:Int)).map V.int++[.int 1])) b=some o :=
  (((Same.new h3 (.lst [.int 0])).trans (Same.new h4 (.lst ((List.replicate hs.length (0:Int)).map V.int)))).trans (Same.new h5 (.lst [.int 1]))).trans (Same.new h6 (.lst ((List.replicate hs.length (0:Int)).map V.int++[.int 1])))
 have eb:(List.replicate hs.length (0:Int)).map V.int++[.int 1]=(a0d hs).map V.int:=by unfold a0d; rw [List.map_append]; rfl
 have hA:Same H (upd (upd (upd (upd (upd (upd H3 a1 (.lst [.ref pa])) a2 (.lst (rs.map V.ref++[.ref pa]))) a3 (.lst [.int 0])) a4 (.lst ((List.replicate hs.length (0:Int)).map V.int))) a5 (.lst [.int 1])) a6 (.lst ((List.replicate hs.length (0:Int)).map V.int++[.int 1]))):=e02.trans s6;refine ⟨ea,a2,a6,G9 z h,rs.map V.ref++[.ref pa],A9 z hs h,a0d hs,hs.length+1,h.1.length+h.2.length+(E7 z).length,2 ^ 60,rfl,SqL.of (s6 _ _ (e2 _ _ he)),SqL.of (g3 _ _ upd_same),?_,?_,?_,?_,?_,?_,by lia,by lia,?_,b3X hh hhs hfar _,a8m _ (by lia),L.same hA,λ S H' t' aa wa O hn sz e' L' g1 g2 g4=>kT S H' t' aa wa O hn sz (λ b o hb q'=>e' b o hb (hA b o q')) L' g1 g2 g4,λ S H' c O hc hneg hno e' L'=>kN S H' c O hc hneg hno (λ b o hb q'=>e' b o hb (hA b o q')) L'⟩
 ·unfold A9
  refine Paired.app ((b0J (K:=K) lr hrs).same t6) (.cons ⟨pa,rfl,SqL.of (s6 _ _ hp)⟩ .nil)
 ·rw [<- eb]; exact SqL.of upd_same
 ·unfold A9; simp
 ·unfold a0d; simp
 ·unfold G9; simp [Nat.add_assoc]
 ·intro r hr
  unfold A9 at hr;rcases List.mem_append.mp hr with hr | hr
  ·obtain ⟨g,hg,rfl⟩:=List.mem_map.mp hr
   unfold t8;rw [List.length_append,List.length_append,List.length_map,(hhs g hg).lt,(hhs g hg).lg,l1,l2]
  ·rw [List.mem_singleton.mp hr]
   unfold J1;simp;lia
 ·intro i hi
  unfold E9 a0d;rw [List.getD_eq_getElem?_getD]
  by_cases h':i<hs.length
  ·rw [List.getElem?_append_left (by simpa using h'),List.getElem?_replicate,if_pos h']; exact Int.le_refl _
  ·rw [List.getElem?_append_right (by simp; lia)]
   have:i - (List.replicate hs.length (0:Int)).length=0:=by simp; lia
   rw [this]; decide
end
section
variable {P:Program} {w:World} {K:W.Frag} {mg:Str->Option Value} {base:Heap} {f Pt d:Addr} {fd:FuncData} {n:Nat} {C:Addr}
theorem b5E:m8 ["book","number","sizes"] ["book","number","sizes"] (i5 a5S):=⟨rfl,rfl,rfl,by decide +kernel,rfl,by decide +kernel,by decide +kernel⟩
theorem scHa:m8 ["houses","house","sizes","found","top","amounts","weights","bottom"] ["houses","house","sizes"] (i5 a9r):=⟨rfl,rfl,rfl,by decide +kernel,rfl,by decide +kernel,by decide +kernel⟩
end
end Rim
namespace Lp
section
variable {m q:Nat} {A:Nat->Nat->Int} {b c:Nat->Int} {S:Bo}
theorem Of.way (O:Of m q A b c S) {cc:Nat} (hc:cc<q) (neg:S.T m cc<0) (no:∀ i,i<m->¬ 0<S.T i cc):∃ y:Nat->Int,(∀ j,j<q->0<=y j)/\(∀ i,i<m->sumTo (λ j=>A i j*y j) q<=0)/\0<sumTo (λ j=>c j*y j) q:=by
 have K0:=(O.k _).mp (O.w.ray_ker (c:=cc) (by lia));obtain ⟨rows,goal⟩:=ker0.mp K0;have zc:ray m S cc (q+m+1)=0:=by
  rw [<- O.w.oq];exact O.w.ray_out (by lia) (by lia) (by lia)
 have zg:ray m S cc (q+m) = - S.T m cc:=by
  rw [<- O.w.im];exact O.w.ray_in (by lia) (by lia)
 have nn:∀ v,v<q+m->0<=ray m S cc v:=λ v hv=>by
  rcases O.w.all v hv with ⟨i,hi,e⟩ | ⟨j,hj,e⟩
  ·rw [<- e,O.w.ray_in (by lia) (by lia)]
   have:=no i hi;lia
  ·rw [<- e]
   by_cases hjc:j=cc
   ·subst hjc
    rw [Wf.ray_c];exact Int.le_of_lt O.w.pos
   ·rw [O.w.ray_out (by lia) (by lia) hjc]; exact Int.le_refl _
 refine ⟨ray m S cc,λ j hj=>nn j (by lia),λ i hi=>?_,by rw [<- goal,zg]; lia⟩;have r0:=rows i hi;rw [zc,Int.mul_zero,Int.add_zero] at r0;have n0:=nn (q+i) (by lia);lia
theorem Of.bounded (O:Of m q A b c S) {i0 l cc:Nat} (h0:i0<m) (hl:l<m) (hA:∀ j,j<q->A i0 j+A l j=c j) (hc:cc<q) (neg:S.T m cc<0) (no:∀ i,i<m->¬ 0<S.T i cc):False:=by
 obtain ⟨y,_,rows,goal⟩:=O.way hc neg no;have r0:=rows i0 h0;have rl:=rows l hl;have e:sumTo (λ j=>c j*y j) q=sumTo (λ j=>A i0 j*y j) q+sumTo (λ j=>A l j*y j) q:=by
  rw [<- Q7];refine sum_congr λ j hj=>?_;rw [<- hA j hj,Int.add_mul]
 lia
end
end Lp
namespace Rim
open PySem L2 Fr
section
variable {P:Program} {w:World} {K:W.Frag} {mg:Str->Option Value} {base:Heap} {f Pt d:Addr} {fd:FuncData} {n:Nat} {C:Addr}
end
section
variable {P:Program} {w:World} {K:W.Frag} {mg:Str->Option Value} {base:Heap} {f Pt d:Addr} {fd:FuncData} {n:Nat} {C:Addr}
end
theorem SqT.same1 {K:W.Frag} {P:Addr} {pos:Pos} {qual:Str} {H H':Hp} {a:Addr} {xs:List V} (T:LamTab P pos qual H) (e:Same1 P H H') (h:SqT K H a xs):SqT K H' a xs:=by
 have ne:∀ o,H a=some o->(∀ ps,o≠.tbl ps)->a≠P:=λ o q n z=>by
  subst z;rcases T with t | ⟨c,t,_⟩
  ·rw [q] at t; exact n _ (Option.some.inj t)
  ·rw [q] at t; exact n _ (Option.some.inj t)
 rcases h with (h | ⟨o,h⟩) | h
 ·exact .inl (.inl (e _ _ (ne _ h λ _=>nofun) h))
 ·exact .inl (.inr ⟨o,e _ _ (ne _ h λ _=>nofun) h⟩)
 ·exact .inr h
theorem HS.same1 {K:W.Frag} {Pt:Addr} {H H':Hp} {v:V} {h:h8} (T:LT Pt H) (e:Same1 Pt H H') (x:HS K H v h):HS K H' v h:=by
 obtain ⟨a,t,g,h0,h1,h2,h3⟩:=x;exact ⟨a,t,g,h0,SqT.same1 T e h1,SqT.same1 T e h2,SqT.same1 T e h3⟩
theorem Bk.same1 {K:W.Frag} {Pt:Addr} {H H':Hp} {vs:List V} {hs:List h8} (T:LT Pt H) (e:Same1 Pt H H') (x:Bk K H vs hs):Bk K H' vs hs:=Paired.imp' (λ _ _ r=>HS.same1 T e r) x
theorem x8 {l r:List Int} (j:Nat):(l++r).getD j 0=if j<l.length then l.getD j 0 else r.getD (j - l.length) 0:=by
 rw [List.getD_eq_getElem?_getD,List.getD_eq_getElem?_getD,List.getD_eq_getElem?_getD]
 by_cases h:j<l.length
 ·rw [if_pos h,List.getElem?_append_left h]
 ·rw [if_neg h,List.getElem?_append_right (by lia)]
theorem N4 (k j:Nat):(List.replicate k (0:Int)).getD j 0=0:=by
 rw [List.getD_eq_getElem?_getD,List.getElem?_replicate]
 split <;> rfl
theorem a0v (l:List Int) (j:Nat):(l.map λ x=>-x).getD j 0 = - l.getD j 0:=by
 rw [List.getD_eq_getElem?_getD,List.getD_eq_getElem?_getD,List.getElem?_map]
 cases l[j]? <;> rfl
theorem b0j {z:Str} {hs:List h8} {h:h8} {i:Nat} (hi:hs[i]?=some h) (j:Nat):S4 (A9 z hs h) i j+S4 (A9 z hs h) hs.length j=E9 (G9 z h) j:=by
 have hil:i<hs.length:=(List.getElem?_eq_some_iff.mp hi).1;have e1:(A9 z hs h)[i]?=some (t8 z h):=by
  unfold A9;rw [List.getElem?_append_left (by rw [List.length_map]; exact hil),List.getElem?_map,hi]; rfl
 have e2:(A9 z hs h)[hs.length]?=some (J1 z h):=by
  unfold A9;rw [List.getElem?_append_right (by rw [List.length_map]; exact Nat.le_refl _),List.length_map,Nat.sub_self]; rfl
 rw [Q5 e1,Q5 e2];unfold E9 t8 J1 G9;simp only [x8,N4,a0v,List.length_append,List.length_map,List.length_replicate]
 by_cases h1:j<h.1.length
 ·rw [if_pos (by lia),if_pos h1,if_pos (by lia),if_pos h1,if_pos (by lia),if_pos h1]; lia
 ·by_cases h2:j<h.1.length+h.2.length
  ·rw [if_pos h2,if_neg h1,if_pos h2,if_neg h1,if_pos h2,if_neg h1,Int.add_zero]
  ·rw [if_neg h2,if_neg h2,if_neg h2,Int.add_zero]
section
variable {P:Program} {w:World} {K:W.Frag} {mg:Str->Option Value} {base:Heap} {f Pt d CN:Addr} {fd:FuncData} {n:Nat} {C:Addr}
structure a0R (P:Program) (w:World) (K:W.Frag) (mg:Str->Option Value) (base:Heap) (n:Nat) (x:Str) (ps:List Str) (sp:Sp) (fa:Addr) (d:FuncData):Prop where
 ok:FnOk P w K mg base (CX1 P w) n fa d ps sp
 b:Binds K d ps []
 k:W.keepIn K (.ref fa)=true
 m:mg x=some (.ref fa)
abbrev mE (hs:List h8):Nat:=hs.length+1
abbrev qE (z:Str) (h:h8):Nat:=h.1.length+h.2.length+(E7 z).length
structure D4 (K:W.Frag) (H:Hp) (ba:Addr) (xs:List V) (hs:List h8) (far:Int) (kt kg:Nat):Prop where
 l:SqL K H ba xs
 b:Bk K H xs hs
 g:∀ h∈hs,HG far kt kg h
 far:far<=2 ^ 60
 few:hs.length<=16
 t:kt<=20
 k:kg<=20
def Best (z:Str) (hs:List h8) (h:h8) (S:Lp.Bo):Prop:=OfE z hs h S/\(∀ j,j<qE z h->¬ S.T (mE hs) j<0)/\Sz 4000 (mE hs) (qE z h) S
def a1x (K:W.Frag) (CN Pt:Addr):Sp:=λ vs H Q E=>∃ (ba:Addr) (xs:List V) (hs:List h8) (number:Int) (z:Str) (far:Int) (kt kg:Nat),vs=[.ref ba,.int number,.str z]/\R7 z/\D4 K H ba xs hs far kt kg/\number.natAbs.log2<1920/\LT Pt H ∧
 (∀ (i:Nat) (h:h8) (S:Lp.Bo) (H':Hp) (u:V),number=(i:Int)->hs[i]?=some h->Best z hs h S->Same1 Pt H H'->LT Pt H'->FrT H' u (low (S.T (mE hs) (qE z h)) S.d)->Q u H')/\(¬ a1S xs.length number->E (.ref CN) none H)
theorem a7q {z:Str} {hs:List h8} {h:h8} {S:Lp.Bo} (B:Best z hs h S):0<S.d/\S.d<2 ^ 8000:=by
 refine ⟨B.1.w.pos,?_⟩;have h1:S.d.natAbs<2 ^ 4000:=B.2.2.2;have h2:(2:Nat) ^ 4000<=2 ^ 8000:=Nat.pow_le_pow_right (by decide) (by decide);have h3:S.d=(S.d.natAbs:Int):=by have:=B.1.w.pos; lia
 rw [h3]
 exact_mod_cast Nat.lt_of_lt_of_le h1 h2
theorem b0y {m q:Nat} {A:Nat->Nat->Int} {b c:Nat->Int} {S:Lp.Bo} (O:Lp.Of m q A b c S) (sz:Sz 4000 m q S) {v:Nat} (hv:v<q):Big 4000 (Lp.valIn m S q v):=by
 have hv':v<q+m:=by lia
 rcases O.w.all v hv' with ⟨i,hi,e⟩ | ⟨j,hj,e⟩
 ·have:Lp.valIn m S q v=S.T i q:=by
   unfold Lp.valIn;rw [Lp.sum_one hi λ k hk hn=>if_neg λ z=>hn (O.w.ii k i hk hi (z.trans e.symm)),if_pos e]
  rw [this];exact sz.1 i q (by lia) (by lia)
 ·have:Lp.valIn m S q v=0:=Lp.sum_zero λ k hk=>if_neg λ z=>O.w.io k j hk hj (z.trans e.symm)
  rw [this]
  show (0:Int).natAbs<2 ^ 4000
  exact Nat.pow_pos (by decide)
def a3w (K:W.Frag) (Pt:Addr):Sp:=λ vs H Q _=>∃ (ba:Addr) (hv:V) (xs:List V) (hs:List h8) (h:h8) (z:Str) (far:Int) (kt kg:Nat),vs=[.ref ba,hv,.str z]/\R7 z/\D4 K H ba xs hs far kt kg/\HS K H hv h/\HG far kt kg h/\LT Pt H ∧
 (∀ (S:Lp.Bo) (H':Hp) (u:V),Best z hs h S->Same1 Pt H H'->LT Pt H'->FrT H' u (low (S.T (mE hs) (qE z h)) S.d)->Q u H') ∧
 ∀ (S:Lp.Bo) (H':Hp) (c:Nat),OfE z hs h S->c<qE z h->S.T (mE hs) c<0->(∀ i,i<mE hs->¬ 0<S.T i c)->Same1 Pt H H'->LT Pt H'->Q .non H'
theorem b0D {f2 f3:Addr} {d2 d3:FuncData} (F:Fun K "held_against" "held_against" a9r f fd) (Ce:W5 P w K mg base n "greatest_earned" ["houses","house","sizes"] (a4Y K Pt) f2 d2)
  (Cl:Cal P w K mg base n "lowest" ["top","bottom"] a7d f3 d3):FnOk P w K mg base G5 (n+1) f fd ["houses","house","sizes"] (a3w K Pt):=by
 refine F.ok scHa (λ vs H Q E h=>?_) (λ cdv A outer s H vs Q E hr h=>?_)
 ·obtain ⟨ba,hv,xs,hs,h,z,far,kt,kg,rfl,_⟩:=h
  rfl
 obtain ⟨ba,hv,xs,hs,h,z,far,kt,kg,rfl,hz,B,hH,gh,L,kG,kN⟩:=h;refine ⟨_,i4 (j4 (i:=3) scHa.nd rfl (Or.inl rfl) (j5 Ce.ok hr rfl Ce.m Ce.k Ce.b .nil w4 (c5 (pv 0) (c5 (pv 1) (c5 (pv 2) c6)))))
  (i4 (A6 (m9 a0X (pv 3) N9 (r6 _)) (i6 (r9 N9)) t7)
  (i4 (J9 (pv 3) (a0e rfl (j8 (i9 (i:=4) scHa.nd rfl (Or.inl rfl)) (j8 (i9 (i:=5) scHa.nd rfl (Or.inl rfl)) (j8 (i9 (i:=6) scHa.nd rfl (Or.inl rfl)) (j8 (i9 (i:=7) scHa.nd rfl (Or.inl rfl)) A8))))))
  (i6 (r9 (j5 Cl.ok hr rfl Cl.m Cl.k Cl.b .nil w4 (c5 (pv 4) (c5 (pv 7) c6))))))),?_⟩
 refine ⟨_,rfl,_,rfl,_,rfl,ba,hv,xs,hs,h,z,far,kt,kg,mE hs,qE z h,rfl,hz,B.l,B.b,hH,gh,B.g,B.far,B.few,B.t,B.k,rfl,rfl,L,λ S H' t aa wa O hn sz e' L' g1 g2 g3=>?_,λ S H' c O hc hneg hno e' L'=>?_⟩
 ·have Bs:Best z hs h S:=⟨O,hn,sz⟩
  obtain ⟨b1,b2⟩:=a7q Bs;refine ⟨_,rfl,rfl,_,rfl,a1p ?_⟩;refine ⟨_,rfl,t,_,rfl,SqT.of g1,rfl,_,_,rfl,_,_,rfl,_,_,rfl,_,_,rfl,rfl,?_⟩;exact ⟨_,rfl,_,rfl,_,_,rfl,b1,b2,λ u H2 e2 hu=>kG S H2 u Bs (λ b o hb q'=>e2 _ _ (e' b o hb q')) (L'.same e2) hu⟩
 ·refine ⟨_,rfl,rfl,_,rfl,a7V ?_⟩
  exact kN S H' c O hc hneg hno e' L'
theorem a9I {f1 f2:Addr} {d1 d2:FuncData} (F:Fun K "share" "share" a5S f fd) (Ch:a0R P w K mg base n "house_of" ["book","number"] (a2R K CN) f1 d1) (Ce:W5 P w K mg base n "held_against" ["houses","house","sizes"] (a3w K Pt) f2 d2):FnOk P w K mg base (CX1 P w) (n+1) f fd ["book","number","sizes"] (a1x K CN Pt):=by
 refine F.ok1 b5E (λ vs H Q E h=>?_) (λ cdv A outer s H vs Q E hr h=>?_)
 ·obtain ⟨ba,xs,hs,number,z,far,kt,kg,rfl,_⟩:=h
  rfl
 obtain ⟨ba,xs,hs,number,z,far,kt,kg,rfl,hz,B,lm,L,kG,kE⟩:=h;refine ⟨_,i6 (r9 (j5 Ce.ok hr rfl Ce.m Ce.k Ce.b .nil w4 (c5 (pv 0) (c5 (j5 Ch.ok hr rfl Ch.m Ch.k Ch.b .nil a1n (c5 (pv 0) (c5 (pv 1) c6))) (c5 (pv 2) c6))))),?_⟩;refine ⟨_,rfl,_,rfl,_,rfl,ba,xs,number,rfl,B.l,lm,λ i hv hi hx=>?_,kE⟩;obtain ⟨h,hh,hH⟩:=Paired.at B.b hx;have gh:=B.g h (List.mem_of_getElem? hh);refine ⟨_,rfl,ba,hv,xs,hs,h,z,far,kt,kg,rfl,hz,B,hH,gh,L,λ S H' u Bs e' L' hu=>kG i h S H' u hi hh Bs e' L' hu,λ S H' c O hc hneg hno e' L'=>(O.bounded (i0:=i) (l:=hs.length) (by have:=(List.getElem?_eq_some_iff.mp hh).1; lia) (by lia) (λ j _=>b0j hh j) hc hneg hno).elim⟩
end
end Rim
namespace L2
open PySem
theorem Big.mono {n m:Nat} {i:Int} (h:Big n i) (hn:n<=m):Big m i:=Rim.Big.mono h hn
theorem Big.mul {n m:Nat} {i j:Int} (h:Big n i) (k:Big m j):Big (n+m) (i*j):=Rim.Big.mul h k
end L2
namespace Fr
theorem a2p {a b:Int} (ha:0<a) (hb:0<b):a<=a*b:=by
 have:=Int.mul_le_mul_of_nonneg_left (show (1:Int)<=b by lia) (Int.le_of_lt ha);rw [Int.mul_one] at this;exact this
theorem b0V {x D:Int} (hD:0<D):(low x D).2∣D:=⟨gI x D,by rw [Int.mul_comm]; exact (O4 (t:=x) hD).2⟩
theorem a5U {t b:Int} (hb:0<b):(low t b).2<=b:=Int.le_of_dvd hb (b0V hb)
end Fr
namespace Rim
open PySem L2 Fr
theorem a7m {t b:Int} {n:Nat} (hb:0<b) (h:Big n t):Big n (low t b).1:=by
 obtain ⟨h1,_⟩:=O4 (t:=t) hb;have hg:=a0U (a:=t) hb;unfold Big at *;have e:t.natAbs=(gI t b).natAbs*(low t b).1.natAbs:=by rw [<- Int.natAbs_mul,<- h1]
 have:1<=(gI t b).natAbs:=by lia
 have:=Nat.mul_le_mul_right (low t b).1.natAbs this;lia
section
variable {P:Program} {w:World} {K:W.Frag} {mg:Str->Option Value} {base:Heap} {f:Addr} {fd:FuncData} {n:Nat}
end
theorem a6C:low 1 1=(1,1):=by decide
section
variable {P:Program} {w:World} {K:W.Frag} {mg:Str->Option Value} {base:Heap} {f:Addr} {fd:FuncData} {n:Nat}
def a1Z (z:Str) (s D:Int):Prop:=((z="one"\/z="less")->s<=D)/\((z="one"\/z="more")->D<=s)
theorem b1N:∀ {ws:List Int} {m:Nat},(∀ x∈ws,Big m x)->ws.length<=200->Big (m+200) ws.sum:=λ {ws m} h hl=>by
 have key:∀ l:List Int,(∀ x∈l,Big m x)->l.sum.natAbs<=l.length*2 ^ m:=λ l=>by
  induction l with
  | nil=>intro _; exact Nat.zero_le _
  | cons x r ih =>
   intro h;have h1:x.natAbs<2 ^ m:=h x List.mem_cons_self;have h2:=ih λ y hy=>h y (List.mem_cons_of_mem _ hy);have h3:=Int.natAbs_add_le x r.sum;rw [List.sum_cons,List.length_cons,Nat.succ_mul];lia
 have h1:=key ws h;have h2:ws.length*2 ^ m<=200*2 ^ m:=Nat.mul_le_mul_right _ hl;have h3:200*2 ^ m<2 ^ (m+200):=by
  rw [Nat.pow_add,Nat.mul_comm];exact Nat.mul_lt_mul_of_pos_left (by decide) (Nat.pow_pos (by decide))
 exact Nat.lt_of_le_of_lt (Nat.le_trans h1 h2) h3
end
def col (rows:List (List Int)) (i:Nat):List Int:=rows.map λ r=>r.getD i 0
section
variable {P:Program} {w:World} {K:W.Frag} {mg:Str->Option Value} {base:Heap} {f g:Addr} {fd gd:FuncData} {n:Nat}
def S1 (j:Nat) (h:h8):List Int:=if j=0 then h.1 else h.2
end
end Rim
namespace L2
open PySem PySem.Spec PyProof.Rows
section
variable {xs ys:List V} {K:W.Frag} {l1 l2:Addr} {σ:St}
end
end L2
namespace Rim
open PySem L2 Fr
section
variable {P:Program} {w:World} {K:W.Frag} {mg:Str->Option Value} {base:Heap} {f:Addr} {fd:FuncData} {n:Nat}
def A5 (hs:List h8) (ws:List Int) (j i:Nat):Int:=(List.zipWith (·*·) (col (hs.map (S1 j)) i) ws).sum
end
theorem a8W {a b:Nat}:∀ {ns ws:List Int},(∀ x∈ns,Big a x)->(∀ x∈ws,Big b x)->∀ x∈List.zipWith (·*·) ns ws,Big (a+b) x
 | [],_,_,_,x,hx=>by simp at hx
 | _::_,[],_,_,x,hx=>by simp at hx
 | n::ns,w::ws,h1,h2,x,hx=>by
  rw [List.zipWith_cons_cons] at hx;rcases List.mem_cons.mp hx with e | e
  ·rw [e]; exact (h1 n List.mem_cons_self).mul (h2 w List.mem_cons_self)
  ·exact a8W (λ y hy=>h1 y (List.mem_cons_of_mem _ hy)) (λ y hy=>h2 y (List.mem_cons_of_mem _ hy)) x e
section
variable {P:Program} {w:World} {K:W.Frag} {mg:Str->Option Value} {base:Heap} {f:Addr} {fd:FuncData} {n:Nat}
end
theorem a3Y:∀ {xs ys:List Int} {a b:Int},xs.length=ys.length->(List.zipWith (·*·) (xs++[a]) (ys++[b])).sum=(List.zipWith (·*·) xs ys).sum+a*b
 | [],[],a,b,_=>by simp
 | x::xs,y::ys,a,b,h=>by
  rw [List.cons_append,List.cons_append,List.zipWith_cons_cons,List.zipWith_cons_cons,List.sum_cons,List.sum_cons,a3Y (by simpa using h),Int.add_assoc]
section
variable {P:Program} {w:World} {K:W.Frag} {mg:Str->Option Value} {base:Heap} {f:Addr} {fd:FuncData} {n:Nat}
structure PrN (pt pg:List Int) (ps D:Int) (kt kg:Nat):Prop where
 lt:pt.length=kt
 lg:pg.length=kg
 bt:∀ x∈pt,0<=x/\Big 5000 x
 bg:∀ x∈pg,0<=x/\Big 5000 x
 bs:Big 5000 ps
 d:0<D
 d2:D<2 ^ 4000
def E4 (h:h8) (pg:List Int) (ps:Int):Int:=(List.zipWith (·*·) h.2 pg).sum+ps
def O5 (h:h8) (pt:List Int):Int:=(List.zipWith (·*·) h.1 pt).sum
end
section
variable {P:Program} {w:World} {K:W.Frag} {mg:Str->Option Value} {base:Heap} {f:Addr} {fd:FuncData} {n:Nat}
def a0i (z:Str) (ps:Int):Prop:=((z="any"\/z="less")->ps<=0)/\((z="any"\/z="more")->0<=ps)
theorem b3c:PyData.eqv (.list []) (.list [])=true:=by rw [PyData.eqv,PyData.eqvAll]
end
mutual
theorem R9:∀ d:PyData,d.canLay0=true->PyData.eqv d d=true
 | .none,_=>by rw [PyData.eqv]
 | .bool b,_=>by rw [PyData.eqv]; simp
 | .int i,_=>by rw [PyData.eqv]; simp
 | .str x,_=>by rw [PyData.eqv]; simp
 | .list xs,h=>by rw [PyData.eqv]; exact X3 xs (by rw [PyData.canLay0] at h; exact h)
 | .tuple xs,h=>by rw [PyData.eqv]; exact X3 xs (by rw [PyData.canLay0] at h; exact h)
 | .dict kvs,h=>by rw [PyData.canLay0] at h; cases h
theorem X3:∀ ds:List PyData,PyData.canLayAll0 ds=true->PyData.eqvAll ds ds=true
 | [],_=>by rw [PyData.eqvAll]
 | d::r,h=>by
  rw [PyData.canLayAll0,Bool.and_eq_true] at h;rw [PyData.eqvAll,R9 d h.1,X3 r h.2]; rfl
end
def dF (x:Q2):PyData:=.tuple [.int x.1,.int x.2]
theorem FrV.dp {K:W.Frag} {H:Hp} {v:V} {x:Q2} (h:FrV K H v x):Dp K H v (dF x):=by
 obtain ⟨a,rfl,q⟩:=h;exact .tup q (.cons (.int _) (.cons (.int _) .nil))
theorem a1h (x:Q2):(dF x).canLay0=true:=by
 unfold dF;rw [PyData.canLay0,PyData.canLayAll0,PyData.canLay0,PyData.canLayAll0,PyData.canLay0,PyData.canLayAll0]; rfl
theorem a8D (x:Q2):(dF x).depth<=60:=by
 unfold dF;simp [PyData.depth,PyData.depthAll]
theorem low_cross {x D:Int} (hD:0<D):(low x D).1*D=x*(low x D).2:=by
 obtain ⟨h1,h2⟩:=O4 (t:=x) hD;generalize (low x D).1=a at *;generalize (low x D).2=b at *;generalize gI x D=g at *;rw [h1,h2]
 ac_rfl
section
variable {P:Program} {w:World} {K:W.Frag} {mg:Str->Option Value} {base:Heap} {f:Addr} {fd:FuncData} {n:Nat}
end
section
variable {P:Program} {w:World} {K:W.Frag} {mg:Str->Option Value} {base:Heap} {f:Addr} {fd:FuncData} {n:Nat}
end
end Rim
namespace Lp
section
variable {m q:Nat} {A:Nat->Nat->Int} {b c:Nat->Int} {S S':Bo}
theorem a2j {g h:Nat->Int}:∀ {n:Nat},(∀ k,k<n->g k<=h k)->sumTo g n<=sumTo h n
 | 0,_=>Int.le_refl _
 | n+1,e=>Int.add_le_add (a2j λ k hk=>e k (by lia)) (e n (by lia))
theorem a6A {g h:Nat->Int}:∀ n:Nat,sumTo (λ k=>g k - h k) n=sumTo g n - sumTo h n
 | 0=>rfl
 | n+1=>by
  show sumTo (λ k=>g k - h k) n+(g n - h n)=(sumTo g n+g n) - (sumTo h n+h n)
  rw [a6A n]; lia
theorem Of.weak (O:Of m q A b c S) (hn:∀ j,j<q->¬ S.T m j<0) {y:Nat->Int} {e:Int} (hy:∀ j,j<q->0<=y j) (hr:∀ i,i<m->sumTo (λ j=>A i j*y j) q<=b i*e):S.d*sumTo (λ j=>c j*y j) q<=e*S.T m q:=by
 obtain ⟨D1,D2⟩:=O.dual;have nn:∀ v,0<=valOut m q S v:=Of.valOut_nn λ j hj=>by have:=hn j hj; lia
 have e1:S.d*sumTo (λ j=>c j*y j) q=sumTo (λ j=>sumTo (λ i=>A i j*valOut m q S (q+i)) m*y j - valOut m q S j*y j) q:=by
  rw [<- y4];refine sum_congr λ j hj=>?_;rw [D1 j hj,Int.add_mul,Int.add_sub_cancel,Int.mul_comm (c j) S.d,Int.mul_assoc]
 have e2:sumTo (λ j=>sumTo (λ i=>A i j*valOut m q S (q+i)) m*y j - valOut m q S j*y j) q<=sumTo (λ j=>sumTo (λ i=>A i j*valOut m q S (q+i)) m*y j) q:=by
  refine a2j λ j hj=>?_;have:=Int.mul_nonneg (nn j) (hy j hj);lia
 have e3:sumTo (λ j=>sumTo (λ i=>A i j*valOut m q S (q+i)) m*y j) q=sumTo (λ i=>valOut m q S (q+i)*sumTo (λ j=>A i j*y j) q) m:=by
  have x1:sumTo (λ j=>sumTo (λ i=>A i j*valOut m q S (q+i)) m*y j) q=sumTo (λ j=>sumTo (λ i=>valOut m q S (q+i)*(A i j*y j)) m) q:=by
   refine sum_congr λ j hj=>?_;rw [Int.mul_comm,<- y4];refine sum_congr λ i hi=>?_
   ac_rfl
  rw [x1,V3];refine sum_congr λ i hi=>?_;rw [y4]
 have e4:sumTo (λ i=>valOut m q S (q+i)*sumTo (λ j=>A i j*y j) q) m<=sumTo (λ i=>e*(b i*valOut m q S (q+i))) m:=by
  refine a2j λ i hi=>?_;have:=Int.mul_le_mul_of_nonneg_left (hr i hi) (nn (q+i));have x:valOut m q S (q+i)*(b i*e)=e*(b i*valOut m q S (q+i)):=by ac_rfl
  rw [x] at this;exact this
 rw [y4,D2] at e4;rw [e1];rw [e3] at e2;exact Int.le_trans e2 e4
theorem Of.slack (O:Of m q A b c S) (hn:∀ j,j<q->¬ S.T m j<0) {l:Nat} (hl:l<m) (hw:0<valOut m q S (q+l)):sumTo (λ j=>A l j*valIn m S q j) q=b l*S.d:=by
 obtain ⟨p1,p2⟩:=O.primal;have nn:∀ v,0<=valOut m q S v:=Of.valOut_nn λ j hj=>by have:=hn j hj; lia
 have nx:=O.valIn_nn
 by_cases h0:valIn m S q (q+l)=0
 ·have:=p1 l hl
  lia
 ·exfalso
  have hp:0<valIn m S q (q+l):=by have:=nx (q+l); lia
  obtain ⟨D1,D2⟩:=O.dual;have e1:S.d*sumTo (λ j=>c j*valIn m S q j) q<=sumTo (λ i=>valOut m q S (q+i)*sumTo (λ j=>A i j*valIn m S q j) q) m:=by
   have x1:S.d*sumTo (λ j=>c j*valIn m S q j) q=sumTo (λ j=>sumTo (λ i=>A i j*valOut m q S (q+i)) m*valIn m S q j - valOut m q S j*valIn m S q j) q:=by
    rw [<- y4];refine sum_congr λ j hj=>?_;rw [D1 j hj,Int.add_mul,Int.add_sub_cancel,Int.mul_comm (c j) S.d,Int.mul_assoc]
   have x2:sumTo (λ j=>sumTo (λ i=>A i j*valOut m q S (q+i)) m*valIn m S q j - valOut m q S j*valIn m S q j) q<=sumTo (λ j=>sumTo (λ i=>valOut m q S (q+i)*(A i j*valIn m S q j)) m) q:=by
    refine a2j λ j hj=>?_;have y:=Int.mul_nonneg (nn j) (nx j);have z:sumTo (λ i=>A i j*valOut m q S (q+i)) m*valIn m S q j=sumTo (λ i=>valOut m q S (q+i)*(A i j*valIn m S q j)) m:=by
     rw [Int.mul_comm,<- y4];refine sum_congr λ i hi=>?_
     ac_rfl
    lia
   rw [V3] at x2;have x3:sumTo (λ i=>sumTo (λ j=>valOut m q S (q+i)*(A i j*valIn m S q j)) q) m=sumTo (λ i=>valOut m q S (q+i)*sumTo (λ j=>A i j*valIn m S q j) q) m:=sum_congr λ i hi=>by rw [y4]
   rw [x1,<- x3]; exact x2
  have e2:sumTo (λ i=>valOut m q S (q+i)*sumTo (λ j=>A i j*valIn m S q j) q) m<=sumTo (λ i=>S.d*(b i*valOut m q S (q+i)) - (if i=l then valOut m q S (q+l)*valIn m S q (q+l) else 0)) m:=by
   refine a2j λ i hi=>?_;have y:=p1 i hi;have z:=Int.mul_nonneg (nn (q+i)) (nx (q+i));have ez:valOut m q S (q+i)*sumTo (λ j=>A i j*valIn m S q j) q=S.d*(b i*valOut m q S (q+i)) - valOut m q S (q+i)*valIn m S q (q+i):=by
    have:sumTo (λ j=>A i j*valIn m S q j) q=b i*S.d - valIn m S q (q+i):=by lia
    rw [this,Int.mul_sub]
    congr 1
    ac_rfl
   rw [ez]
   by_cases hil:i=l
   ·subst hil
    rw [if_pos rfl]; exact Int.le_refl _
   ·rw [if_neg hil]; lia
  have e3:sumTo (λ i=>S.d*(b i*valOut m q S (q+i)) - (if i=l then valOut m q S (q+l)*valIn m S q (q+l) else 0)) m=S.d*S.T m q - valOut m q S (q+l)*valIn m S q (q+l):=by
   rw [a6A,y4,D2,sum_one hl λ i hi hne=>if_neg hne,if_pos rfl]
  rw [p2] at e1;have:=Int.mul_pos hw hp;lia
end
end Lp
namespace Rim
open PySem L2 Fr
abbrev j9 (l x:List Int):Int:=(List.zipWith (·*·) l x).sum
theorem a3l:∀ (l r x:List Int),j9 (l++r) x=j9 l (x.take l.length)+j9 r (x.drop l.length)
 | [],r,x=>by simp [j9]
 | a::l,r,[]=>by simp [j9]
 | a::l,r,y::x=>by
  have:=a3l l r x;unfold j9 at *;rw [List.cons_append,List.zipWith_cons_cons,List.sum_cons,this,List.length_cons,List.take_succ_cons,List.drop_succ_cons,List.zipWith_cons_cons,List.sum_cons];lia
theorem a0y:∀ (l x:List Int),j9 (l.map λ y=>-y) x = - j9 l x
 | [],x=>by simp [j9]
 | a::l,[]=>by simp [j9]
 | a::l,y::x=>by
  have:=a0y l x;unfold j9 at *;rw [List.map_cons,List.zipWith_cons_cons,List.sum_cons,this,List.zipWith_cons_cons,List.sum_cons,Int.neg_mul];lia
theorem Q6:∀ (k:Nat) (x:List Int),j9 (List.replicate k 0) x=0
 | 0,x=>by simp [j9]
 | k+1,[]=>by simp [j9]
 | k+1,y::x=>by
  have:=Q6 k x;unfold j9 at *;rw [List.replicate_succ,List.zipWith_cons_cons,List.sum_cons,this]; lia
theorem B8:∀ (l x:List Int),j9 l x=j9 x l
 | [],x=>by simp [j9]
 | a::l,[]=>by simp [j9]
 | a::l,y::x=>by
  have:=B8 l x;unfold j9 at *;rw [List.zipWith_cons_cons,List.sum_cons,this,List.zipWith_cons_cons,List.sum_cons,Int.mul_comm]
theorem a9X:∀ {l x:List Int},(∀ y∈l,0<=y)->(∀ y∈x,0<=y)->0<=j9 l x
 | [],x,_,_=>by simp [j9]
 | a::l,[],_,_=>by simp [j9]
 | a::l,y::x,h1,h2=>by
  have:=a9X (l:=l) (x:=x) (λ z hz=>h1 z (.tail _ hz)) (λ z hz=>h2 z (.tail _ hz));unfold j9 at *;rw [List.zipWith_cons_cons,List.sum_cons];have:=Int.mul_nonneg (h1 a (.head _)) (h2 y (.head _));lia
theorem D7:∀ (n:Nat) (l x:List Int),l.length=n->x.length=n->Lp.sumTo (λ j=>l.getD j 0*x.getD j 0) n=j9 l x
 | 0,l,x,h1,h2=>by
  rw [List.eq_nil_of_length_eq_zero h1]; simp [j9,Lp.sumTo]
 | n+1,l,x,h1,h2=>by
  obtain ⟨l',a,rfl⟩:∃ l' a,l=l'++[a]:=⟨l.dropLast,l.getLast (by intro z; rw [z] at h1; cases h1),(List.dropLast_concat_getLast _).symm⟩;obtain ⟨x',b,rfl⟩:∃ l' a,x=l'++[a]:=⟨x.dropLast,x.getLast (by intro z; rw [z] at h2; cases h2),(List.dropLast_concat_getLast _).symm⟩;have l1:l'.length=n:=by simpa using h1
  have l2:x'.length=n:=by simpa using h2
  show Lp.sumTo _ n+_=_
  have e:Lp.sumTo (λ j=>(l'++[a]).getD j 0*(x'++[b]).getD j 0) n=Lp.sumTo (λ j=>l'.getD j 0*x'.getD j 0) n:=Lp.sum_congr λ j hj=>by
   rw [x8,x8,if_pos (by lia),if_pos (by lia)]
  rw [e,D7 n l' x' l1 l2]
  show _=(List.zipWith (·*·) (l'++[a]) (x'++[b])).sum
  rw [a3Y (by lia)]
  show j9 l' x'+(l'++[a]).getD n 0*(x'++[b]).getD n 0=_
  rw [x8,x8,if_neg (by lia),if_neg (by lia),l1,l2,Nat.sub_self]; rfl
theorem U1 {n:Nat} {F:Nat->Int} {j:Nat} (h:j<n):((List.range n).map F).getD j 0=F j:=by
 rw [List.getD_eq_getElem?_getD,List.getElem?_map,List.getElem?_range h]; rfl
theorem a6L:∀ (l:List Int),j9 (l.map λ _=>1) l=l.sum
 | []=>rfl
 | a::l=>by
  have:=a6L l;unfold j9 at *;rw [List.map_cons,List.zipWith_cons_cons,List.sum_cons,this,List.sum_cons,Int.one_mul]
theorem a2e:∀ {l x:List Int},(∀ y∈l,0<=y)->(∀ y∈x,0<=y)->0<j9 l x->∃ j,j<x.length/\0<x.getD j 0
 | [],x,_,_,h=>by simp [j9] at h
 | a::l,[],_,_,h=>by simp [j9] at h
 | a::l,y::x,h1,h2,h=>by
  by_cases hy:0<y
  ·exact ⟨0,by simp,by simpa using hy⟩
  ·have y0:y=0:=by have:=h2 y (.head _); lia
   subst y0;have h':0<j9 l x:=by
    unfold j9 at *;rw [List.zipWith_cons_cons,List.sum_cons] at h; lia
   obtain ⟨j,hj,hp⟩:=a2e (λ z hz=>h1 z (.tail _ hz)) (λ z hz=>h2 z (.tail _ hz)) h';exact ⟨j+1,by simp; lia,by simpa using hp⟩
theorem a2w:∀ {l x:List Int},(∀ y∈l,0<y)->(∀ y∈x,0<=y)->l.length=x.length->(∃ j,j<x.length/\0<x.getD j 0)->0<j9 l x
 | [],[],_,_,_,⟨j,hj,_⟩=>by simp at hj
 | a::l,y::x,h1,h2,hl,⟨j,hj,hp⟩=>by
  have nn:0<=j9 l x:=a9X (λ z hz=>Int.le_of_lt (h1 z (.tail _ hz))) (λ z hz=>h2 z (.tail _ hz));have ya:=Int.mul_nonneg (Int.le_of_lt (h1 a (.head _))) (h2 y (.head _))
  cases j with
  | zero =>
   have:0<a*y:=Int.mul_pos (h1 a (.head _)) (by simpa using hp);unfold j9 at *;rw [List.zipWith_cons_cons,List.sum_cons]; lia
  | succ j =>
   have:=a2w (l:=l) (x:=x) (λ z hz=>h1 z (.tail _ hz)) (λ z hz=>h2 z (.tail _ hz)) (by simpa using hl) ⟨j,by simpa using hj,by simpa using hp⟩;unfold j9 at *;rw [List.zipWith_cons_cons,List.sum_cons]; lia
 | [],_::_,_,_,hl,_=>by simp at hl
 | _::_,[],_,_,hl,_=>by simp at hl
theorem b1I {m q:Nat} {A:Nat->Nat->Int} {b c:Nat->Int} {S:Lp.Bo} (O:Lp.Of m q A b c S) (sz:Sz 4000 m q S) {v:Nat} (hv:v<q+m):Big 4000 (Lp.valOut m q S v):=by
 rcases O.w.all v hv with ⟨i,hi,e⟩ | ⟨j,hj,e⟩
 ·have:Lp.valOut m q S v=0:=Lp.sum_zero λ k hk=>if_neg λ z=>O.w.io i k hi hk (e.trans z.symm)
  rw [this]
  show (0:Int).natAbs<2 ^ 4000
  exact Nat.pow_pos (by decide)
 ·have:Lp.valOut m q S v=S.T m j:=by
   unfold Lp.valOut;rw [Lp.sum_one hj λ k hk hn=>if_neg λ z=>hn (O.w.oo k j hk hj (z.trans e.symm)),if_pos e]
  rw [this];exact sz.1 m j (by lia) (by lia)
section
variable {m q:Nat} {rows:List (List Int)} {bnd goal:List Int} {S:Lp.Bo}
theorem a3v (O:Lp.Of m q (S4 rows) (E9 bnd) (E9 goal) S) {i:Nat} {row:List Int} (hi:i<m) (hr:rows[i]?=some row) (hl:row.length=q):j9 row (p7 m q S)<=bnd.getD i 0*S.d:=by
 have h:=O.primal.1 i hi;have nn:=O.valIn_nn (q+i);have e:Lp.sumTo (λ j=>S4 rows i j*Lp.valIn m S q j) q=j9 row (p7 m q S):=by
  rw [<- D7 q row (p7 m q S) hl (by unfold p7; simp)];refine Lp.sum_congr λ j hj=>?_;rw [Q5 hr];unfold p7;rw [U1 hj]
 rw [e] at h
 show _<=E9 bnd i*S.d
 lia
theorem a5e (O:Lp.Of m q (S4 rows) (E9 bnd) (E9 goal) S) (hn:∀ j,j<q->¬ S.T m j<0) {i:Nat} {row:List Int} (hi:i<m) (hr:rows[i]?=some row) (hl:row.length=q) (hw:0<Lp.valOut m q S (q+i)):j9 row (p7 m q S)=bnd.getD i 0*S.d:=by
 have h:=O.slack hn hi hw;have e:Lp.sumTo (λ j=>S4 rows i j*Lp.valIn m S q j) q=j9 row (p7 m q S):=by
  rw [<- D7 q row (p7 m q S) hl (by unfold p7; simp)];refine Lp.sum_congr λ j hj=>?_;rw [Q5 hr];unfold p7;rw [U1 hj]
 rw [e] at h;exact h
theorem a4X (O:Lp.Of m q (S4 rows) (E9 bnd) (E9 goal) S) (hl:goal.length=q):j9 goal (p7 m q S)=S.T m q:=by
 have h:=O.primal.2;have e:Lp.sumTo (λ j=>E9 goal j*Lp.valIn m S q j) q=j9 goal (p7 m q S):=by
  rw [<- D7 q goal (p7 m q S) hl (by unfold p7; simp)];refine Lp.sum_congr λ j hj=>?_;unfold p7;rw [U1 hj]; rfl
 rw [e] at h;exact h
theorem a1s (O:Lp.Of m q (S4 rows) (E9 bnd) (E9 goal) S) (hn:∀ j,j<q->¬ S.T m j<0) (hl:rows.length=m) {j:Nat} (hj:j<q):goal.getD j 0*S.d<=j9 (col rows j) (C6 m q S):=by
 have h:=O.dual.1 j hj;have nn:0<=Lp.valOut m q S j:=Lp.Of.valOut_nn (λ j hj=>by have:=hn j hj; lia) j;have e:Lp.sumTo (λ i=>S4 rows i j*Lp.valOut m q S (q+i)) m=j9 (col rows j) (C6 m q S):=by
  rw [<- D7 m (col rows j) (C6 m q S) (by unfold col; rw [List.length_map]; exact hl) (by unfold C6; simp)];refine Lp.sum_congr λ i hi=>?_;unfold C6;rw [U1 hi]
  congr 1
  unfold S4 col;rw [List.getD_eq_getElem?_getD (l:=List.map _ rows),List.getElem?_map,List.getD_eq_getElem?_getD (l:=rows),List.getElem?_eq_getElem (by lia)]; rfl
 rw [e] at h
 show E9 goal j*S.d<=_
 lia
theorem a6k (O:Lp.Of m q (S4 rows) (E9 bnd) (E9 goal) S) (hl:bnd.length=m):j9 bnd (C6 m q S)=S.T m q:=by
 have h:=O.dual.2;have e:Lp.sumTo (λ i=>E9 bnd i*Lp.valOut m q S (q+i)) m=j9 bnd (C6 m q S):=by
  rw [<- D7 m bnd (C6 m q S) hl (by unfold C6; simp)];refine Lp.sum_congr λ i hi=>?_;unfold C6;rw [U1 hi]; rfl
 rw [e] at h;exact h
theorem a9R (hn:∀ j,j<q->¬ S.T m j<0):∀ x∈C6 m q S,0<=x:=λ x hx=>by
 unfold C6 at hx;obtain ⟨i,_,rfl⟩:=List.mem_map.mp hx;exact Lp.Of.valOut_nn (λ j hj=>by have:=hn j hj; lia) _
theorem a7j {A:Nat->Nat->Int} {b c:Nat->Int} (O:Lp.Of m q A b c S):∀ x∈p7 m q S,0<=x:=λ x hx=>by
 unfold p7 at hx;obtain ⟨i,_,rfl⟩:=List.mem_map.mp hx;exact O.valIn_nn i
theorem a7B:C6 (m+1) q S=(C6 (m+1) q S).take m++[Lp.valOut (m+1) q S (q+m)]:=by
 unfold C6;rw [List.range_succ,List.map_append,List.take_left' (by simp)]; rfl
end
theorem b3x (a b c xs:List Int):j9 (a++b++c) xs=j9 a (xs.take a.length)+j9 b ((xs.drop a.length).take b.length)+j9 c (xs.drop (a.length+b.length)):=by
 rw [a3l (a++b) c xs,a3l a b,List.length_append,List.take_take,Nat.min_eq_left (by lia),List.drop_take,Nat.add_sub_cancel_left]
theorem U9 (a b c:List Int) (j:Nat):(a++b++c).getD j 0=if j<a.length then a.getD j 0 else if j<a.length+b.length then b.getD (j - a.length) 0 else c.getD (j - (a.length+b.length)) 0:=by
 rw [x8,List.length_append]
 by_cases h1:j<a.length
 ·rw [if_pos (by lia),if_pos h1,x8,if_pos h1]
 ·by_cases h2:j<a.length+b.length
  ·rw [if_pos h2,if_neg h1,if_pos h2,x8,if_neg h1]
  ·rw [if_neg h2,if_neg h1,if_neg h2]
abbrev ptA (h:h8) (xs:List Int):List Int:=xs.take h.1.length
abbrev pgA (h:h8) (xs:List Int):List Int:=(xs.drop h.1.length).take h.2.length
abbrev psA (z:Str) (h:h8) (xs:List Int):Int:=j9 (xs.drop (h.1.length+h.2.length)) (E7 z)
theorem a3P {z:Str} {g h:h8} (h1:g.1.length=h.1.length) (h2:g.2.length=h.2.length) (xs:List Int):j9 (t8 z g) xs=E4 g (pgA h xs) (psA z h xs) - O5 g (ptA h xs):=by
 unfold t8 E4 O5;rw [b3x,List.length_map,a0y,h1,h2,B8 (E7 z)];dsimp only [j9,ptA,pgA,psA];lia
theorem a4k {z:Str} {h:h8} (xs:List Int):j9 (J1 z h) xs=O5 h (ptA h xs):=by
 unfold J1 O5;rw [b3x,Q6,Q6];dsimp only [j9,ptA,pgA,psA];lia
theorem a4b {z:Str} {h:h8} (xs:List Int):j9 (G9 z h) xs=E4 h (pgA h xs) (psA z h xs):=by
 unfold G9 E4;rw [b3x,Q6,List.length_replicate,B8 (E7 z)];dsimp only [j9,ptA,pgA,psA];lia
theorem a9L (rows:List (List Int)) (r:List Int) (j:Nat):col (rows++[r]) j=col rows j++[r.getD j 0]:=by
 unfold col;rw [List.map_append]; rfl
theorem S6 {a b:List Int} {x y:Int} (h:a.length=b.length):j9 (a++[x]) (b++[y])=j9 a b+x*y:=a3Y h
theorem Y6 (s:Int):∀ (hs:List h8) (ws:List Int),hs.length=ws.length->j9 (hs.map λ _=>s) ws=s*ws.sum
 | [],[],_=>by simp [j9]
 | _::hs,w::ws,h=>by
  have:=Y6 s hs ws (by simpa using h);unfold j9 at *;rw [List.map_cons,List.zipWith_cons_cons,List.sum_cons,this,List.sum_cons,Int.mul_add]
 | [],_::_,h=>by simp at h
 | _::_,[],h=>by simp at h
section
variable {z:Str} {hs:List h8} {h:h8} {kt kg:Nat} (hk:∀ g∈hs,g.1.length=kt/\g.2.length=kg)
include hk
theorem a2H (ws:List Int) {j:Nat} (hj:j<kt):j9 (col (hs.map (t8 z)) j) ws = - A5 hs ws 0 j:=by
 have e:col (hs.map (t8 z)) j=(col (hs.map (S1 0)) j).map λ y=>-y:=by
  unfold col;rw [List.map_map,List.map_map,List.map_map];refine List.map_congr_left λ g hg=>?_
  show (t8 z g).getD j 0 = - (S1 0 g).getD j 0
  have:=hk g hg;unfold t8;rw [U9,List.length_map,if_pos (by lia),a0v]; rfl
 rw [e,a0y]; rfl
theorem a3b (ws:List Int) {j:Nat} (hj:j<kg):j9 (col (hs.map (t8 z)) (kt+j)) ws=A5 hs ws 1 j:=by
 have e:col (hs.map (t8 z)) (kt+j)=col (hs.map (S1 1)) j:=by
  unfold col;rw [List.map_map,List.map_map];refine List.map_congr_left λ g hg=>?_
  show (t8 z g).getD (kt+j) 0=(S1 1 g).getD j 0
  have:=hk g hg;unfold t8;rw [U9,List.length_map,if_neg (by lia),if_pos (by lia),this.1,Nat.add_sub_cancel_left]; rfl
 rw [e]; rfl
theorem a4q {ws:List Int} (hw:hs.length=ws.length) (t:Nat):j9 (col (hs.map (t8 z)) (kt+kg+t)) ws=(E7 z).getD t 0*ws.sum:=by
 have e:col (hs.map (t8 z)) (kt+kg+t)=hs.map λ _=>(E7 z).getD t 0:=by
  unfold col;rw [List.map_map];refine List.map_congr_left λ g hg=>?_
  show (t8 z g).getD (kt+kg+t) 0=_
  have:=hk g hg;unfold t8;rw [U9,List.length_map,if_neg (by lia),if_neg (by lia),this.1,this.2,Nat.add_sub_cancel_left]
 rw [e,Y6 _ _ _ hw]
end
structure b6m (z:Str) (hs:List h8) (h:h8) (S:Lp.Bo) (kt kg:Nat) (ws:List Int):Prop where
 lw:ws.length=hs.length
 nn:∀ x∈ws,0<=x/\Big 20000 x
 size:a1Z z ws.sum S.d
 takes:∀ j,j<kt->A5 hs ws 0 j<=h.1.getD j 0*S.T (mE hs) (qE z h)
 gives:∀ j,j<kg->h.2.getD j 0*S.d<=A5 hs ws 1 j
 pos:0<S.T (mE hs) (qE z h)
 le:h∈hs->S.T (mE hs) (qE z h)<=S.d
 fair:∀ g∈hs,E4 g (pgA h (p7 (mE hs) (qE z h) S)) (psA z h (p7 (mE hs) (qE z h) S))<=O5 g (ptA h (p7 (mE hs) (qE z h) S))
 pays:O5 h (ptA h (p7 (mE hs) (qE z h) S))=S.d
 earns:E4 h (pgA h (p7 (mE hs) (qE z h) S)) (psA z h (p7 (mE hs) (qE z h) S))=S.T (mE hs) (qE z h)
 pr:PrN (ptA h (p7 (mE hs) (qE z h) S)) (pgA h (p7 (mE hs) (qE z h) S)) (psA z h (p7 (mE hs) (qE z h) S)) S.d kt kg
 sign:a0i z (psA z h (p7 (mE hs) (qE z h) S))
theorem a3O {z:Str} {xs:List Int} (hz:R7 z) (nn:∀ x∈xs,0<=x):a0i z (j9 xs (E7 z)):=by
 rcases hz with rfl | rfl | rfl | rfl
 ·have:j9 xs (E7 "any")=0:=by show (List.zipWith _ xs []).sum=0; simp
  rw [this]; exact ⟨λ _=>Int.le_refl _,λ _=>Int.le_refl _⟩
 ·exact ⟨λ h=>absurd h (by decide),λ h=>absurd h (by decide)⟩
 ·refine ⟨λ _=>?_,λ h=>absurd h (by decide)⟩
  show (List.zipWith _ xs [-1]).sum<=0
  cases xs with
  | nil=>simp
  | cons x r=>have:=nn x (.head _); simp; lia
 ·refine ⟨λ h=>absurd h (by decide),λ _=>?_⟩
  show 0<=(List.zipWith _ xs [1]).sum
  cases xs with
  | nil=>simp
  | cons x r=>have:=nn x (.head _); simp; lia
theorem a8G {z:Str} {xs:List Int} (h:∀ x∈xs,Big 4000 x) (hl:xs.length<=200):Big 5000 (j9 xs (E7 z)):=by
 have:∀ y∈E7 z,Big 100 y:=λ y hy=>Nat.lt_of_le_of_lt (a1F z y hy) (Nat.pow_lt_pow_right (by decide) (by decide));exact (b1N (a8W h this) (by rw [List.length_zipWith]; lia)).mono (by decide)
theorem a6K {z:Str} {hs:List h8} {h:h8} {S:Lp.Bo} {far:Int} {kt kg:Nat} (hz:R7 z) (B:Best z hs h S) (hG:∀ g∈hs,HG far kt kg g) (gh:HG far kt kg h) (kt1:1<=kt) (kt4:kt<=20) (kg4:kg<=20) :
  b6m z hs h S kt kg ((C6 (mE hs) (qE z h) S).take hs.length):=by
 obtain ⟨O,hn,sz⟩:=B;have hk:∀ g∈hs,g.1.length=kt/\g.2.length=kg:=λ g hg=>⟨(hG g hg).lt,(hG g hg).lg⟩;have sg:=a1A z;generalize hm:mE hs=m at *;generalize hq:qE z h=q at *;have hm':m=hs.length+1:=hm.symm;have hq':q=kt+kg+(E7 z).length:=by rw [<- hq]; show h.1.length+h.2.length+_=_; rw [gh.lt,gh.lg]
 replace O:Lp.Of m q (S4 (A9 z hs h)) (E9 (a0d hs)) (E9 (G9 z h)) S:=by rw [hm',<- hq]; exact O
 have lr:(A9 z hs h).length=m:=by unfold A9; simp [hm']
 have lrow:∀ g∈hs,(t8 z g).length=q:=λ g hg=>by unfold t8; simp [(hk g hg).1,(hk g hg).2,hq']; lia
 have lpaid:(J1 z h).length=q:=by unfold J1; simp [gh.lt,gh.lg,hq']; lia
 have lgoal:(G9 z h).length=q:=by unfold G9; simp [gh.lt,gh.lg,hq']; lia
 have lb:(a0d hs).length=m:=by unfold a0d; simp [hm']
 have la:(p7 m q S).length=q:=by unfold p7; simp
 have lw:(C6 m q S).length=m:=by unfold C6; simp
 have hsp:C6 m q S=(C6 m q S).take hs.length++[Lp.valOut m q S (q+hs.length)]:=by rw [hm']; exact a7B
 generalize hws:(C6 m q S).take hs.length=ws at *;generalize hwn:Lp.valOut m q S (q+hs.length)=wn at *;have lws:ws.length=hs.length:=by rw [<- hws,List.length_take,lw]; lia
 have wnn:∀ x∈ws,0<=x/\Big 20000 x:=λ x hx=>by
  have hx':x∈C6 m q S:=by rw [hsp]; exact List.mem_append_left _ hx
  refine ⟨a9R hn x hx',?_⟩;unfold C6 at hx';obtain ⟨k,hk',rfl⟩:=List.mem_map.mp hx';exact (b1I O sz (by have:=List.mem_range.mp hk'; lia)).mono (by decide)
 have pos:=O.w.pos;have eT:wn=S.T m q:=by
  have:=a6k O lb;rw [hsp] at this;unfold a0d at this;rw [S6 (by rw [List.length_replicate]; exact lws.symm),Q6] at this;lia
 have colA:∀ j,j9 (col (A9 z hs h) j) (C6 m q S)=j9 (col (hs.map (t8 z)) j) ws+(J1 z h).getD j 0*wn:=λ j=>by
  rw [hsp];unfold A9;rw [a9L,S6 (by unfold col; rw [List.length_map,List.length_map,lws])]
 have tk:∀ j,j<kt->A5 hs ws 0 j<=h.1.getD j 0*wn:=λ j hj=>by
  have:=a1s O hn lr (j:=j) (by lia);rw [colA,a2H hk ws hj] at this;unfold G9 J1 at this;rw [U9,U9,List.length_replicate,if_pos (by rw [gh.lt]; lia),if_pos (by rw [gh.lt]; lia),N4] at this;lia
 have gv:∀ j,j<kg->h.2.getD j 0*S.d<=A5 hs ws 1 j:=λ j hj=>by
  have:=a1s O hn lr (j:=kt+j) (by lia);rw [colA,a3b hk ws hj] at this;unfold G9 J1 at this;rw [U9,U9,List.length_replicate,List.length_replicate,gh.lt,gh.lg,if_neg (by lia),if_pos (by lia),if_neg (by lia),if_pos (by lia),Nat.add_sub_cancel_left,N4] at this;lia
 have szc:∀ t,t<(E7 z).length->(E7 z).getD t 0*S.d<=(E7 z).getD t 0*ws.sum:=λ t ht=>by
  have:=a1s O hn lr (j:=kt+kg+t) (by lia);rw [colA,a4q hk lws.symm t] at this;unfold G9 J1 at this;rw [U9,U9,List.length_replicate,List.length_replicate,gh.lt,gh.lg,if_neg (by lia),if_neg (by lia),if_neg (by lia),if_neg (by lia),Nat.add_sub_cancel_left,N4] at this;lia
 have size:a1Z z ws.sum S.d:=by
  rcases hz with rfl | rfl | rfl | rfl
  ·exact ⟨λ h=>absurd h (by decide),λ h=>absurd h (by decide)⟩
  ·have s0:(1:Int)*S.d<=1*ws.sum:=szc 0 (by decide)
   have s1:(-1:Int)*S.d <= -1*ws.sum:=szc 1 (by decide);exact ⟨λ _=>by lia,λ _=>by lia⟩
  ·have s1:(-1:Int)*S.d <= -1*ws.sum:=szc 0 (by decide)
   exact ⟨λ _=>by lia,λ h=>absurd h (by decide)⟩
  ·have s0:(1:Int)*S.d<=1*ws.sum:=szc 0 (by decide)
   exact ⟨λ h=>absurd h (by decide),λ _=>by lia⟩
 have posT:0<wn:=by
  obtain ⟨y,hy,y0⟩:=gh.p;obtain ⟨j,hj⟩:=List.getElem?_of_mem hy;have hjl:j<kg:=by have:=(List.getElem?_eq_some_iff.mp hj).1; rw [gh.lg] at this; exact this
  have yD:h.2.getD j 0=y:=by rw [List.getD_eq_getElem?_getD,hj]; rfl
  have g1:=gv j hjl;rw [yD] at g1;have g2:0<A5 hs ws 1 j:=Int.lt_of_lt_of_le (Int.mul_pos y0 pos) g1;have nnc:∀ x∈col (hs.map (S1 1)) j,0<=x:=λ x hx=>by
   unfold col at hx;obtain ⟨r,hr,rfl⟩:=List.mem_map.mp hx;obtain ⟨g,hg,rfl⟩:=List.mem_map.mp hr;have hg':=hG g hg;have hl:j<(S1 1 g).length:=by show j<g.2.length; rw [hg'.lg]; exact hjl
   rw [List.getD_eq_getElem?_getD,List.getElem?_eq_getElem hl];exact (hg'.g _ (List.getElem_mem hl)).1
  obtain ⟨k,hk1,hk2⟩:=a2e nnc (λ x hx=>(wnn x hx).1) g2;have pc:∀ x∈col (hs.map (S1 0)) 0,0<x:=λ x hx=>by
   unfold col at hx;obtain ⟨r,hr,rfl⟩:=List.mem_map.mp hx;obtain ⟨g,hg,rfl⟩:=List.mem_map.mp hr;have hg':=hG g hg;have hl:0<(S1 0 g).length:=by show 0<g.1.length; rw [hg'.lt]; lia
   rw [List.getD_eq_getElem?_getD,List.getElem?_eq_getElem hl];have:=(hg'.t _ (List.getElem_mem hl)).1
   show 0<(S1 0 g)[0]
   lia
  have g3:0<A5 hs ws 0 0:=a2w pc (λ x hx=>(wnn x hx).1) (by unfold col; rw [List.length_map,List.length_map,lws]) ⟨k,hk1,hk2⟩;have g4:=tk 0 (by lia);have hl:0<h.1.length:=by rw [gh.lt]; lia
  have h0:1<=h.1.getD 0 0:=by
   rw [List.getD_eq_getElem?_getD,List.getElem?_eq_getElem hl];exact (gh.t _ (List.getElem_mem hl)).1
  have g5:0<h.1.getD 0 0*wn:=Int.lt_of_lt_of_le g3 g4
  by_cases hw:0<wn
  ·exact hw
  ·have:=Int.mul_nonneg (show 0<=h.1.getD 0 0 by lia) (show 0 <= -wn by lia)
   rw [Int.mul_neg] at this;lia
 have fair:∀ g∈hs,E4 g (pgA h (p7 m q S)) (psA z h (p7 m q S))<=O5 g (ptA h (p7 m q S)):=λ g hg=>by
  obtain ⟨k,hk'⟩:=List.getElem?_of_mem hg;have hkl:=(List.getElem?_eq_some_iff.mp hk').1;have hr:(A9 z hs h)[k]?=some (t8 z g):=by
   unfold A9;rw [List.getElem?_append_left (by rw [List.length_map]; exact hkl),List.getElem?_map,hk']; rfl
  have:=a3v O (i:=k) (by lia) hr (lrow g hg);rw [a3P (h:=h) (by rw [(hk g hg).1,gh.lt]) (by rw [(hk g hg).2,gh.lg])] at this;unfold a0d at this;rw [x8,List.length_replicate,if_pos hkl,N4,Int.zero_mul] at this;lia
 have hr:(A9 z hs h)[hs.length]?=some (J1 z h):=by
  unfold A9;rw [List.getElem?_append_right (by rw [List.length_map]; exact Nat.le_refl _),List.length_map,Nat.sub_self]; rfl
 have pays:O5 h (ptA h (p7 m q S))=S.d:=by
  have:=a5e O hn (i:=hs.length) (by lia) hr lpaid (by rw [hwn]; exact posT);rw [a4k] at this;unfold a0d at this;rw [x8,List.length_replicate,if_neg (by lia),Nat.sub_self] at this;rw [this];exact Int.one_mul _
 have earns:E4 h (pgA h (p7 m q S)) (psA z h (p7 m q S))=S.T m q:=by rw [<- a4b]; exact a4X O lgoal
 have anb:∀ x∈p7 m q S,0<=x/\Big 4000 x:=λ x hx=>by
  refine ⟨a7j O x hx,?_⟩;unfold p7 at hx;obtain ⟨k,hk',rfl⟩:=List.mem_map.mp hx;exact b0y O sz (List.mem_range.mp hk')
 have d4:S.d<2 ^ 4000:=by
  have h1:S.d.natAbs<2 ^ 4000:=sz.2;have h3:S.d=(S.d.natAbs:Int):=by lia
  rw [h3]
  exact_mod_cast h1
 refine ⟨lws,wnn,size,λ j hj=>?_,gv,?_,?_,?_,?_,?_,?_,?_⟩
 ·rw [hm,hq,<- eT]; exact tk j hj
 ·rw [hm,hq,<- eT]; exact posT
 ·intro hin; rw [hm,hq,<- earns,<- pays]; exact fair h hin
 ·rw [hm,hq]; exact fair
 ·rw [hm,hq]; exact pays
 ·rw [hm,hq]; exact earns
 ·rw [hm,hq]
  refine ⟨?_,?_,λ x hx=>?_,λ x hx=>?_,?_,pos,d4⟩
  ·rw [List.length_take,la,gh.lt]; lia
  ·rw [List.length_take,List.length_drop,la,gh.lt,gh.lg]; lia
  ·have:=anb x (List.mem_of_mem_take hx)
   exact ⟨this.1,this.2.mono (by decide)⟩
  ·have:=anb x (List.mem_of_mem_drop (List.mem_of_mem_take hx))
   exact ⟨this.1,this.2.mono (by decide)⟩
  ·exact a8G (λ x hx=>(anb x (List.mem_of_mem_drop hx)).2) (by rw [List.length_drop,la]; lia)
 ·rw [hm,hq]
  exact a3O hz λ x hx=>(anb x (List.mem_of_mem_drop hx)).1
end Rim
namespace L2
open PySem PySem.Spec PyProof.Rows
theorem a7R {P:Program} {w:World} {K:W.Frag} {mg mb:Str->Option Value} {CX:CXT} {k:Nat} {fa a:Addr} {fd:FuncData} {x:Str} {sp:Sp} {s₁:Shared} {vs:List Value} {ns:List Int} {Ps:List Addr}
  (KX:K.In s₁.heap) (hns:s₁.heap.Ns mainGlobals mg) (hb:s₁.heap.Ns builtinsNs mb) (hbb:∀ x:Str,x≠"__name__"->mb x=bootBuiltins x) (hlim:s₁.heap.NoLimit) (hg:s₁.gens=#[])
  (ha:s₁.heap.get? a=some { cls:=.type "list",data:=.seq vs.toArray }) (hi:IntsAre vs ns) (hl:ns.length<=sizeLine) (hr:Room k callerA)
  (hT:∀ p∈Ps,∃ c,s₁.heap.TableAt c p #[]) (hKP:∀ p∈Ps,K.lookup p=none) (BM:N8 mg s₁.heap)
  (F:∀ base:Heap,K.In base->base.Ns mainGlobals mg->N8 mg base->FnOk P w K mg base CX k fa fd [x] sp) (hbind:∀ (s:Shared) (u:Value),BindsTo s fd ⟨[u],[]⟩ [(x,u)])
  (hsp:∀ H:Hp,(∀ p∈Ps,H p=some (.tbl #[]))->SqL K H a (ns.map V.int)->sp [.ref a] H (λ v _=>v=.bl true) λ _ _ _=>False)
  (hCX:∀ H e s',CX [] H s₁ (λ _ _ _=>False) e s'->False) :
  codeAny (model P w) callerA (.call (.ref fa) ⟨[.ref a],[]⟩) (λ r s'=>r=.ok (.ret (.bool true))/\OldK s₁.heap s'.heap/\s'.os=s₁.os/\AllBare s'.gens) s₁:=by
 have rv:=a3d hi;have lenV:=hi.length;have tabObj:∀ p∈Ps,s₁.heap.get? p=some { cls:=.none,data:=.fields #[] }:=λ p hp=>by
  obtain ⟨c,z⟩:=hT p hp;exact z.2
 have core:∀ H:Hp,(∀ b,H b=none\/(∃ o xs,H b=some (.frz o (.lst xs)))\/(b∈Ps/\H b=some (.tbl #[])))->(∀ p∈Ps,H p=some (.tbl #[]))->SqL K H a (ns.map V.int)->HOk P w H s₁.heap->(∀ b,H b≠none->b=a\/b∈Ps)->(H a≠none->K.lookup a=none) →
   codeAny (model P w) callerA (.call (.ref fa) ⟨[.ref a],[]⟩) (λ r s'=>r=.ok (.ret (.bool true))/\OldK s₁.heap s'.heap/\s'.os=s₁.os/\AllBare s'.gens) s₁:=by
  intro H hO hP hS hok hA hK;have base_of:∀ {b:Addr} {o:Obj},s₁.heap.get? b=some o->H b=none->(a2B s₁.heap H).get? b=some o:=λ e n=>a9w e n;have noA:∀ {b:Addr} {o:Obj} {es:Array DictEntry} {ep:Nat},s₁.heap.get? b=some o->o.data=.dict es ep->H b=none:=λ {b o es ep} e d=>by
   cases q:H b with
   | none=>rfl
   | some u =>
    rcases hA b (by rw [q]; simp) with e' | e'
    ·subst e'
     rw [ha] at e; cases e;have d':Data.seq vs.toArray _=Data.dict es ep:=d
     cases d'
    ·rw [tabObj b e'] at e; cases e
     have d':Data.fields #[]=Data.dict es ep:=d
     cases d'
  have nsK:∀ {b:Addr} {m:Str->Option Value},s₁.heap.Ns b m->(a2B s₁.heap H).Ns b m:=λ {b m} ⟨o,es,ep,e,d,r⟩=>⟨o,es,ep,base_of e (noA e d),d,r⟩;have hKb:K.In (a2B s₁.heap H):=λ b o e=>base_of (KX b o e) (by
   cases q:H b with
   | none=>rfl
   | some u =>
    rcases hA b (by rw [q]; simp) with e' | e'
    ·subst e'
     rw [hK (by rw [q]; simp)] at e; cases e
    ·rw [hKP b e'] at e; cases e)
  have hM:Mod K mg (a2B s₁.heap H):=⟨hKb,nsK hns,⟨mb,nsK hb,hbb⟩,let ⟨mc,h1,h2⟩:=hlim; ⟨mc,nsK h1,h2⟩⟩;have BM':N8 mg (a2B s₁.heap H):=by
   obtain ⟨bm,ob,b1,b2,b3,b4,b5,b6⟩:=BM;refine ⟨bm,ob,b1,b2,base_of b3 ?_,b4,b5,b6⟩
   cases q:H bm with
   | none=>rfl
   | some u =>
    rcases hA bm (by rw [q]; simp) with e' | e'
    ·subst e'
     rw [ha] at b3; cases b3; exact absurd b4 (by intro z; injection z with z; exact absurd z (by decide))
    ·rw [tabObj bm e'] at b3; cases b3; cases b4
  have e0:Env0 P w K mg (a2B s₁.heap H) callerA [] s₁ H:=⟨rfl,hM,λ b o e=>b1j e,Nat.le_of_eq (a8g _ _),trivial,λ b hb=>absurd (show b∈([]:List Addr) from hb) (by simp),hok,.of_eq hg⟩;refine codeAny_mono ((F _ hKb (nsK hns) BM').run callerA [] s₁ H ⟨[.ref a],[]⟩ [.ref a] [.ref a] _ _ hr e0 (hbind s₁ (.ref a)) (.cons rfl .nil) (hsp H hP hS)) λ r s' h=>?_
  cases r with
  | error e=>exact (hCX H e s' h).elim
  | ok fl =>
   cases fl with
   | next=>exact False.elim h
   | brk=>exact False.elim h
   | cont=>exact False.elim h
   | ret u =>
    obtain ⟨v,H',os,bare,un,hok',r',q⟩:=h;have q':v=.bl true:=q;subst q';obtain rfl:u=Value.bool true:=r';refine ⟨rfl,⟨λ b o e=>?_,λ b o e=>un.there b o e (by simp)⟩,os,bare⟩;rcases hO b with q | ⟨ob,xs,z⟩ | ⟨hbP,z⟩
    ·exact .inl (un.keep b o e q (by intro z; exact absurd (show b∈([]:List Addr) from z) (by simp)) (by simp))
    ·have z2:=un.frzs b ob _ z
     obtain ⟨e1,_⟩:=hok b _ z;obtain ⟨e2,_⟩:=hok' b _ z2;rw [e] at e1; cases e1;exact .inl e2
    ·obtain ⟨more,z2⟩:=un.tbls b _ z
     have e2:s'.heap.get? b=some { cls:=.none,data:=.fields (#[]++more) }:=hok' b _ z2;rw [tabObj b hbP] at e; cases e;obtain ⟨c,ht⟩:=hT b hbP;exact .inr (.inl ⟨ht.isCodeTable,rfl,#[],more,rfl,e2⟩)
 have aP:a ∉ Ps:=λ z=>by
  have:=tabObj a z;rw [ha] at this; cases this
 cases hk:K.lookup a with
 | some o =>
  have e:=KX a o hk;rw [ha] at e
  cases e;refine core (λ b=>if b∈Ps then some (.tbl #[]) else none) (λ b=>?_) (λ p hp=>if_pos hp) (.inr ⟨_,vs.toArray,_,hk,rfl,rfl,rfl,by rw [List.size_toArray,lenV]; exact hl,by simpa using rv⟩) (λ b u z=>?_) (λ b z=>?_) λ z=>absurd (if_neg aP) z
  ·by_cases hb:b∈Ps
   ·exact .inr (.inr ⟨hb,if_pos hb⟩)
   ·exact .inl (if_neg hb)
  ·by_cases hb:b∈Ps
   ·have z':=(if_pos hb).symm.trans z
    cases z';exact tabObj b hb
   ·have z':=(if_neg hb).symm.trans z
    cases z'
  ·by_cases hb:b∈Ps
   ·exact .inr hb
   ·exact absurd (if_neg hb) z
 | none =>
  refine core (λ b=>if b=a then some (.frz { cls:=.type "list",data:=.seq vs.toArray } (.lst (ns.map V.int))) else if b∈Ps then some (.tbl #[]) else none) (λ b=>?_) (λ p hp=>?_) (.inl (.inr ⟨{ cls:=.type "list",data:=.seq vs.toArray },if_pos rfl⟩)) (λ b u z=>?_) (λ b z=>?_) λ _=>hk
  ·by_cases hb:b=a
   ·exact .inr (.inl ⟨_,_,if_pos hb⟩)
   ·by_cases hb2:b∈Ps
    ·exact .inr (.inr ⟨hb2,(if_neg hb).trans (if_pos hb2)⟩)
    ·exact .inl ((if_neg hb).trans (if_neg hb2))
  ·have hb:p≠a:=λ z=>aP (z ▸ hp)
   exact (if_neg hb).trans (if_pos hp)
  ·by_cases hb:b=a
   ·have z':=(if_pos hb).symm.trans z
    cases z';subst hb;exact ⟨ha,by rw [List.length_map]; exact hl,vs,_,rv,ha⟩
   ·by_cases hb2:b∈Ps
    ·have z':=((if_neg hb).trans (if_pos hb2)).symm.trans z
     cases z';exact tabObj b hb2
    ·have z':=((if_neg hb).trans (if_neg hb2)).symm.trans z
     cases z'
  ·by_cases hb:b=a
   ·exact .inl hb
   ·by_cases hb2:b∈Ps
    ·exact .inr hb2
    ·exact absurd ((if_neg hb).trans (if_neg hb2)) z
theorem walk_ofT {l:W.OpenLaw} {n k:Nat} {q:Program} {loose:List Str} {XP:(Str->Option Value)->Heap->Prop} {YP:World->Heap->Prop} {d:DefRec} {K:Params->W.Frag} {CX:World->CXT} {sp:World->Sp} {x:Str} {Ts:List (Addr×Addr)}
  (hn:l.most=some n) (hn2:n<=sizeLine) (hdf:d.params.defaults=[]) (hr:Room k callerA)
  (hY:∀ (w:World) (h:Heap),YP w h->(K w.params).In h/\∀ t∈Ts,h.get? t.2=some (W.tabObj #[]))
  (hC:∀ (w:World),∀ t∈Ts,W.codeHdIn (K w.params) t.1 t.2=true/\(K w.params).lookup t.2=none)
  (F:∀ (w:World) (mg:Str->Option Value) (fa:Addr) (h:Heap),(K w.params).In h->h.Ns mainGlobals mg->mg d.name=some (.ref fa) →
   ∃ fd:FuncData,(∀ (s:Shared) (u:Value),BindsTo s fd ⟨[u],[]⟩ [(x,u)]) ∧
    ∀ base:Heap,(K w.params).In base->base.Ns mainGlobals mg->N8 mg base->(∀ t∈Ts,W.CodeHd base t.1 t.2)->FnOk l.prog w (K w.params) mg base (CX w) k fa fd [x] (sp w))
  (hsp:∀ (w:World) (H:Hp) (a:Addr) (ns:List Int),ns.length<=n->(∀ t∈Ts,H t.2=some (.tbl #[]))->SqL (K w.params) H a (ns.map V.int)->sp w [.ref a] H (λ v _=>v=.bl true) λ _ _ _=>False)
  (hCX:∀ (w:World) (H:Hp) (s:Shared) (e:Value) (s':Shared),CX w [] H s (λ _ _ _=>False) e s'->False) :
  W.WalkO q loose XP YP l.row.toRowW d [] (λ f vs=>PySem.call f vs):=by
 refine Att.attach_call hn hdf λ w s₀ s₁ mg mb fa o pm cd doc a vs ns G Y ho hd hcd hmg hobj hints hlen hg=>?_;obtain ⟨KX,hTb⟩:=hY w _ Y;obtain ⟨fd,hb,hF⟩:=F w mg fa _ KX G.T.g hmg;have mem:∀ p∈Ts.map (·.2),∃ t∈Ts,t.2=p:=λ p hp=>by
  obtain ⟨t,h1,h2⟩:=List.mem_map.mp hp;exact ⟨t,h1,h2⟩
 refine a7R (Ps:=Ts.map (·.2)) KX G.T.g G.T.b G.T.builtins G.T.nolimit hg hobj hints (Nat.le_trans hlen hn2) hr (λ p hp=>?_) (λ p hp=>?_) G.T.bmain (λ base kb nb bm=>hF base kb nb bm λ t ht=>W.codeHd_of_K kb (hC w t ht).1) hb (λ H hP hS=>hsp w H a ns hlen (λ t ht=>hP _ (List.mem_map_of_mem ht)) hS) λ H e s'=>hCX w H s₁ e s'
 ·obtain ⟨t,h1,rfl⟩:=mem p hp
  exact ⟨t.1,(W.codeHd_of_K KX (hC w t h1).1).tab (hTb t h1)⟩
 ·obtain ⟨t,h1,rfl⟩:=mem p hp
  exact (hC w t h1).2
end L2
namespace L2
open PySem
theorem W9 {X:Cx} {P:Program} {w:World}:T4 (CX1 P w) X E0:=λ _ _ _ _ _ _ _ ⟨_,_,_,_,_,_,_,h⟩=>h.elim
theorem Same.to1 {P:Addr} {H H':Hp} (e:Same H H'):Same1 P H H':=λ b o _ h=>e b o h
theorem Same1.trans {P:Addr} {H H1 H2:Hp} (a:Same1 P H H1) (b:Same1 P H1 H2):Same1 P H H2:=λ c o n h=>b c o n (a c o n h)
theorem Same1.write {P a:Addr} {H H':Hp} {o:HO} (e:Same1 P H H') (h:H a=none):Same1 P H (upd H' a o):=λ b u n q=>by
 rw [c7 (g0 q h)]; exact e b u n q
theorem Same1.get {P:Addr} {pos:Pos} {qual:Str} {H H':Hp} {b:Addr} {o:HO} (T:LamTab P pos qual H) (e:Same1 P H H') (h:H b=some o) (n:∀ ps,o≠.tbl ps):H' b=some o:=e b o (λ z=>by
 subst z;rcases T with t | ⟨c,t,_⟩
 ·rw [h] at t; exact n _ (Option.some.inj t)
 ·rw [h] at t; exact n _ (Option.some.inj t)) h
theorem LamTab.write {P a:Addr} {pos:Pos} {qual:Str} {H:Hp} {xs:List V} {o:HO} (T:LamTab P pos qual H) (h:H a=some (.lst xs)):LamTab P pos qual (upd H a o):=by
 rcases T with e | ⟨c,e1,e2⟩
 ·exact .inl (by rw [c7 (λ z=>by rw [z,h] at e; cases e)]; exact e)
 ·exact .inr ⟨c,by rw [c7 (λ z=>by rw [z,h] at e1; cases e1)]; exact e1,by rw [c7 (λ z=>by rw [z,h] at e2; cases e2)]; exact e2⟩
end L2
namespace Rim
open PySem L2 Fr
theorem Q1 {j:Nat} (h:j<=1000):((j:Int)).natAbs.log2<1920:=by
 rw [Int.natAbs_natCast]
 by_cases h0:j=0
 ·subst h0; decide
 ·exact Nat.lt_trans ((Nat.log2_lt h0).mpr (Nat.lt_of_le_of_lt h (show 1000<2 ^ 10 by decide))) (by decide)
section
variable {P:Program} {w:World} {K:W.Frag} {mg:Str->Option Value} {base:Heap} {f Pt d:Addr} {fd:FuncData} {n:Nat} {C:Addr}
end
section
variable {P:Program} {w:World} {K:W.Frag} {mg:Str->Option Value} {base:Heap} {f Pt d:Addr} {fd:FuncData} {n:Nat} {C:Addr}
end
structure b6y (z:Str) (hs:List h8) (h:h8) (S:Lp.Bo) (kt kg:Nat) (ws:List Int):Prop where
 lw:ws.length=hs.length
 nn:∀ x∈ws,0<=x/\Big 20000 x
 size:a1Z z ws.sum (S.T (mE hs) (qE z h))
 takes:∀ j,j<kt->A5 hs ws 0 j<=h.1.getD j 0*S.T (mE hs) (qE z h)
 gives:∀ j,j<kg->h.2.getD j 0*S.d<=A5 hs ws 1 j
 pos:0<S.T (mE hs) (qE z h)
 le:S.T (mE hs) (qE z h)<=S.d
 fair:∀ g∈hs,E4 g (pgA h (p7 (mE hs) (qE z h) S)) (psA z h (p7 (mE hs) (qE z h) S))<=O5 g (ptA h (p7 (mE hs) (qE z h) S))
 pays:O5 h (ptA h (p7 (mE hs) (qE z h) S)) - psA z h (p7 (mE hs) (qE z h) S)=S.d
 gvs:j9 h.2 (pgA h (p7 (mE hs) (qE z h) S))=S.T (mE hs) (qE z h)
 pr:PrN (ptA h (p7 (mE hs) (qE z h) S)) (pgA h (p7 (mE hs) (qE z h) S)) (psA z h (p7 (mE hs) (qE z h) S)) (S.T (mE hs) (qE z h)) kt kg
 sign:a0i z (psA z h (p7 (mE hs) (qE z h) S))
section
variable {P:Program} {w:World} {K:W.Frag} {mg:Str->Option Value} {base:Heap} {f Pt d CN:Addr} {fd:FuncData} {n:Nat} {C:Addr}
end
end Rim
namespace Lp
section
variable {m q:Nat} {A:Nat->Nat->Int} {b c:Nat->Int} {S:Bo}
theorem Of.bounded1 (O:Of m q A b c S) {l cc:Nat} (hl:l<m) (hA:∀ j,j<q->A l j=c j) (hc:cc<q) (neg:S.T m cc<0) (no:∀ i,i<m->¬ 0<S.T i cc):False:=by
 have K0:=(O.k _).mp (O.w.ray_ker (c:=cc) (by omega));obtain ⟨rows,goal⟩:=ker0.mp K0;have zc:ray m S cc (q+m+1)=0:=by
  rw [<- O.w.oq];exact O.w.ray_out (by omega) (by omega) (by omega)
 have zg:ray m S cc (q+m) = - S.T m cc:=by
  rw [<- O.w.im];exact O.w.ray_in (by omega) (by omega)
 have nl:0<=ray m S cc (q+l):=by
  rcases O.w.all (q+l) (by omega) with ⟨i,hi,e⟩ | ⟨j,hj,e⟩
  ·rw [<- e,O.w.ray_in (by omega) (by omega)]
   have:=no i hi;omega
  ·rw [<- e]
   by_cases hjc:j=cc
   ·subst hjc
    rw [Wf.ray_c];exact Int.le_of_lt O.w.pos
   ·rw [O.w.ray_out (by omega) (by omega) hjc]; exact Int.le_refl _
 have rl:=rows l hl;rw [zc,Int.mul_zero,Int.add_zero] at rl;have e:sumTo (λ j=>c j*ray m S cc j) q=sumTo (λ j=>A l j*ray m S cc j) q:=sum_congr λ j hj=>by rw [hA j hj]
 rw [zg,e] at goal;omega
end
end Lp
namespace Rim
open PySem L2 Fr
def F0 (z:Str) (g:h8):List Int:=t8 z g++[g.2.sum - g.1.sum]
def C5 (z:Str) (h:h8):List Int:=List.replicate (h.1.length+h.2.length+(E7 z).length) 0++[1]
def C9 (z:Str) (hs:List h8) (h:h8):List (List Int):=hs.map (F0 z)++[(F0 z h).map (λ x=>-x),C5 z h]
def R4 (hs:List h8):List Int:=List.replicate hs.length 0++[0,1]
abbrev mF (hs:List h8):Nat:=hs.length+2
abbrev qF (z:Str) (h:h8):Nat:=h.1.length+h.2.length+(E7 z).length+1
abbrev OfF (z:Str) (hs:List h8) (h:h8) (S:Lp.Bo):Prop:=Lp.Of (mF hs) (qF z h) (S4 (C9 z hs h)) (E9 (R4 hs)) (E9 (C5 z h)) S
def a2S (z:Str) (hs:List h8) (h:h8) (S:Lp.Bo):Prop:=OfF z hs h S/\(∀ j,j<qF z h->¬ S.T (mF hs) j<0)/\Sz 4000 (mF hs) (qF z h) S
theorem b2h:(["takes","gives"]:List Str).Nodup:=by decide +kernel
theorem b1Z:(["row","floor"]:List Str).Nodup:=by decide +kernel
theorem b4T:(["one"]:List Str).Nodup:=by decide +kernel
section
variable {P:Program} {w:World} {K:W.Frag} {mg:Str->Option Value} {base:Heap} {f Pt d:Addr} {fd:FuncData} {n:Nat} {C:Addr}
def a6B (K:W.Frag) (Pt:Addr):Sp:=λ vs H Q _=>∃ (ba:Addr) (xs:List V) (hs:List h8) (i:Nat) (h:h8) (z:Str) (far:Int) (kt kg:Nat),vs=[.ref ba,.int i,.str z]/\R7 z/\D4 K H ba xs hs far kt kg/\far<=2 ^ 50/\hs[i]?=some h/\LT Pt H ∧
 ∀ (S:Lp.Bo) (H':Hp) (t aa wa:Addr),a2S z hs h S->Same1 Pt H H'->LT Pt H'->H' t=some (.tup [.int (S.T (mF hs) (qF z h)),.ref aa,.ref wa,.int S.d]) →
  H' aa=some (.lst ((p7 (mF hs) (qF z h) S).map V.int))->H' wa=some (.lst ((C6 (mF hs) (qF z h) S).map V.int))->Q (.ref t) H'
theorem scFl:m8 ["houses","number","sizes","rows","floors","firm","goal"] ["houses","number","sizes"] (i5 a0N):=⟨rfl,rfl,rfl,by decide +kernel,rfl,by decide +kernel,by decide +kernel⟩
noncomputable def flT {cdv:Value} {A:Around} {outer:List Env} {s:Shared} {H:Hp} {E:XK} {f1 f2:Addr} {d1 d2:FuncData} (N:x9 mg) (Cg:W5 P w K mg base n "greatest" ["goal","rows","bounds"] (P3 K C Pt) f1 d1) (Ch:W5 P w K mg base n "house_rows" ["houses","sizes"] (N1 K) f2 d2)
  (hr:Room n (A.deeper (PyProof.Rows.envOfC "greatest_floor" (i5 a0N) s.heap.objs.size f cdv))) :
  { t:TS // PSs (K7 G5 P w K mg base ["houses","number","sizes","rows","floors","firm","goal"] "greatest_floor" (i5 a0N) f cdv A outer s H E).nox (v6 a0N) t } :=
 ⟨_,i4 (j4 (i:=3) scFl.nd rfl (Or.inl rfl) (j5 Ch.ok hr rfl Ch.m Ch.k Ch.b .nil w4 (c5 (pv 0) (c5 (pv 2) c6))))
  (p6 (a0I (i:=4) ["takes","gives"] [] scFl.nd rfl rfl rfl (B9 (pv 0)) (λ _ _ _ _=>N7 K (n:=2) rfl rfl (j8 (i9 (i:=0) b2h rfl (Or.inl rfl)) (j8 (i9 (i:=1) b2h rfl (Or.inl rfl)) A8)))
   (λ _ _ _ _=>i8 a2k (m6 (a8R K rfl rfl) rfl N.sum PyProof.Rows.boot_sum (c5 (pv 1) c6)) (m6 (a8R K rfl rfl) rfl N.sum PyProof.Rows.boot_sum (c5 (pv 0) c6))))
  (p6 (a0I (i:=3) ["row","floor"] [] scFl.nd rfl rfl rfl (a4L true true K rfl rfl N.zip (c5 (pv 3) (c5 (pv 4) c6))) (λ _ _ _ _=>N7 K (n:=2) rfl rfl (j8 (i9 (i:=0) b1Z rfl (Or.inl rfl)) (j8 (i9 (i:=1) b1Z rfl (Or.inl rfl)) A8)))
   (λ _ _ _ _=>i8 D0 (pv 0) (v4 (c5 (pv 1) c6))))
  (p6 (a0I (i:=5) ["one"] [] scFl.nd rfl rfl rfl (B9 (j3 i7 (pv 3) (pv 1) (λ _ _=>rfl))) (λ _ _ _ _=>i9 (i:=0) b4T rfl (Or.inl rfl)) (λ _ _ _ _=>S3 K6 (pv 0)))
  (p6 (j4 (i:=6) scFl.nd rfl (Or.inl rfl) (i8 D0 (i8 V6 (v4 (c5 i3 c6)) (i8 a2k (m6 j6 rfl N.len PySem.boot_len (c5 (pv 5) c6)) i3)) (v4 (c5 i3 c6))))
  (i6 (r9 (j5 Cg.ok hr rfl Cg.m Cg.k Cg.b .nil w4 (c5 (pv 6) (c5 (i8 D0 (pv 3) (v4 (c5 (pv 5) (c5 (pv 6) c6))))
   (c5 (i8 D0 (i8 V6 (v4 (c5 i3 c6)) (m6 j6 rfl N.len PySem.boot_len (c5 (pv 0) c6))) (v4 (c5 i3 (c5 i3 c6)))) c6))))))))))⟩
end
theorem a3H:∀ {l:List Int} {M:Nat},(∀ x∈l,x.natAbs<=M)->l.sum.natAbs<=l.length*M
 | [],_,_=>by simp
 | a::r,M,h=>by
  have h1:=h a (.head _);have h2:=a3H (l:=r) (M:=M) λ x hx=>h x (.tail _ hx);rw [List.sum_cons,List.length_cons,Nat.succ_mul];omega
theorem a4D {z:Str} {g:h8} {far:Int} {kt kg:Nat} (hg:HG far kt kg g) (hf:far<=2 ^ 50) (hkt:kt<=20) (hkg:kg<=20):∀ x∈F0 z g,x.natAbs<=2 ^ 60:=λ x hx=>by
 have ht:∀ x∈g.1,x.natAbs<=2 ^ 50:=λ x hx=>by have:=hg.t x hx; omega
 have hg':∀ x∈g.2,x.natAbs<=2 ^ 50:=λ x hx=>by have:=hg.g x hx; omega
 have p:(2:Nat) ^ 50<=2 ^ 60:=by decide
 unfold F0 t8 at hx;rcases List.mem_append.mp hx with hx | hx
 ·rcases List.mem_append.mp hx with hx | hx
  ·rcases List.mem_append.mp hx with hx | hx
   ·obtain ⟨y,hy,rfl⟩:=List.mem_map.mp hx
    have:=ht y hy;rw [Int.natAbs_neg]; omega
   ·have:=hg' x hx; omega
  ·exact a1F z x hx
 ·rw [List.mem_singleton.mp hx]
  have h1:=a3H ht;have h2:=a3H hg';rw [hg.lt] at h1;rw [hg.lg] at h2;have h3:kt*2 ^ 50<=20*2 ^ 50:=Nat.mul_le_mul_right _ hkt;have h4:kg*2 ^ 50<=20*2 ^ 50:=Nat.mul_le_mul_right _ hkg;have h5:20*2 ^ 50+20*2 ^ 50<=(2:Nat) ^ 60:=by decide
  omega
theorem S7 {z:Str} {g:h8}:(F0 z g).length=g.1.length+g.2.length+(E7 z).length+1:=by unfold F0 t8; simp [Nat.add_assoc]
theorem b1Q {z:Str} {hs:List h8} {h:h8} {far:Int} {kt kg:Nat} (hh:HG far kt kg h) (hhs:∀ h∈hs,HG far kt kg h) (hf:far<=2 ^ 50) (hkt:kt<=20) (hkg:kg<=20) (q:Nat) :
  ∀ v,Lp.Fits (2 ^ 60) (mF hs+1) (Lp.Vv (mF hs) q (S4 (C9 z hs h)) (E9 (R4 hs)) (E9 (C5 z h)) v):=by
 have z0:∀ k:Nat,∀ x∈List.replicate k (0:Int),x.natAbs<=2 ^ 60:=λ k x hx=>by rw [(List.mem_replicate.mp hx).2]; decide
 have goal:∀ x∈C5 z h,x.natAbs<=2 ^ 60:=λ x hx=>by
  unfold C5 at hx;rcases List.mem_append.mp hx with hx | hx
  ·exact z0 _ x hx
  ·rw [List.mem_singleton.mp hx]; decide
 have rows:∀ r∈C9 z hs h,∀ x∈r,x.natAbs<=2 ^ 60:=λ r hr x hx=>by
  unfold C9 at hr;rcases List.mem_append.mp hr with hr | hr
  ·obtain ⟨g,hg,rfl⟩:=List.mem_map.mp hr
   exact a4D (hhs g hg) hf hkt hkg x hx
  ·simp only [List.mem_cons,List.not_mem_nil,or_false] at hr
   rcases hr with rfl | rfl
   ·obtain ⟨y,hy,rfl⟩:=List.mem_map.mp hx
    have:=a4D (z:=z) hh hf hkt hkg y hy;rw [Int.natAbs_neg]; exact this
   ·exact goal x hx
 have bnds:∀ x∈R4 hs,x.natAbs<=2 ^ 60:=λ x hx=>by
  unfold R4 at hx;rcases List.mem_append.mp hx with hx | hx
  ·exact z0 _ x hx
  ·simp only [List.mem_cons,List.not_mem_nil,or_false] at hx
   rcases hx with rfl | rfl <;> decide
 intro v i _;unfold Lp.Vv
 split
 ·split
  ·unfold S4
   refine S5 (λ x hx=>?_) v;rw [List.getD_eq_getElem?_getD] at hx
   cases e:(C9 z hs h)[i]? with
   | none=>rw [e] at hx; cases hx
   | some r=>rw [e] at hx; exact rows r (List.mem_of_getElem? e) x hx
  ·split
   ·rw [Int.natAbs_neg]; exact S5 goal v
   ·exact Nat.zero_le _
 ·split
  ·split <;> decide
  ·split
   ·exact S5 bnds i
   ·exact Nat.zero_le _
theorem a2r {z:Str} {hs:List h8} {h:h8} (j:Nat):S4 (C9 z hs h) (hs.length+1) j=E9 (C5 z h) j:=by
 have:(C9 z hs h)[hs.length+1]?=some (C5 z h):=by
  unfold C9;rw [List.getElem?_append_right (by simp),List.length_map,Nat.add_sub_cancel_left]; rfl
 rw [Q5 this]; rfl
section
variable {P:Program} {w:World} {K:W.Frag} {mg:Str->Option Value} {base:Heap} {f Pt d:Addr} {fd:FuncData} {n:Nat} {C:Addr}
theorem a9F {H':Hp} {rs:List Addr} {hs:List h8} {z:Str} (hl:rs.length=hs.length) (h:∀ (i:Nat) a g,rs[i]?=some a->hs[i]?=some g->H' a=some (.lst ((F0 z g).map V.int))):RowsL K H' (rs.map V.ref) (hs.map (F0 z)):=by
 induction hs generalizing rs with
 | nil =>
  cases rs with
  | nil=>exact .nil
  | cons a r=>simp at hl
 | cons g hs ih =>
  cases rs with
  | nil=>simp at hl
  | cons a r=>exact .cons ⟨a,rfl,SqL.of (h 0 a g rfl rfl)⟩ (ih (by simpa using hl) λ i b g' h1 h2=>h (i+1) b g' (by simpa using h1) (by simpa using h2))
theorem a9V {f1 f2:Addr} {d1 d2:FuncData} (F:Fun K "greatest_floor" "greatest_floor" a0N f fd) (N:x9 mg) (Cg:W5 P w K mg base n "greatest" ["goal","rows","bounds"] (P3 K C Pt) f1 d1) (Ch:W5 P w K mg base n "house_rows" ["houses","sizes"] (N1 K) f2 d2) :
  FnOk P w K mg base G5 (n+1) f fd ["houses","number","sizes"] (a6B K Pt):=by
 refine F.ok scFl (λ vs H Q E h=>?_) (λ cdv A outer s H vs Q E hr h=>?_)
 ·obtain ⟨ba,xs,hs,i,h,z,far,kt,kg,rfl,_⟩:=h
  rfl
 obtain ⟨ba,xs,hs,i,h,z,far,kt,kg,rfl,hz,B,hf,hh,L,k⟩:=h;refine ⟨_,(flT N Cg Ch hr).2,?_⟩;have xl:xs.length=hs.length:=Paired.length B.b;have few:=B.few;have k20:=B.t;have k21:=B.k;have sg:=a1A z;have gh:=B.g h (List.mem_of_getElem? hh);have hil:i<hs.length:=(List.getElem?_eq_some_iff.mp hh).1;have s1k:=j7 (show (1000:Nat)<=1000 from Nat.le_refl _);have lrow:∀ g∈hs,(F0 z g).length=kt+kg+(E7 z).length+1:=λ g hg=>by rw [S7,(B.g g hg).lt,(B.g g hg).lg]
 refine ⟨_,rfl,_,rfl,ba,xs,hs,z,kt,kg,rfl,hz,B.l,B.b,by omega,by omega,by omega,λ g hg=>⟨(B.g g hg).lt,(B.g g hg).lg⟩,λ r H1 rs e1 hr1 lr hrs=>?_⟩;refine ⟨λ σ' H2=>∃ fl:Addr,σ'=[some (.ref ba),some (.int i),some (.str z),some (.ref r),some (.ref fl),none,none]/\Same H1 H2/\H2 fl=some (.lst ((hs.map λ g=>g.2.sum - g.1.sum).map V.int)),?_,?_⟩
 ·refine ⟨_,rfl,ba,rfl,⟨_,e1.seq B.l⟩,λ l hl=>?_⟩
  refine a1w (y6 (e1.seq B.l)) hl (by omega) (λ j y _=>∃ g,hs[j]?=some g/\y=.int (g.2.sum - g.1.sum)) (λ _ _ _ _ r _=>r) (λ j x H2 ys N' hx e hl2 hN=>?_) (λ ys H2 e hl2 len pr=>?_)
  ·obtain ⟨g,hg,⟨a,ta,ga,rfl,p1,p2,p3⟩⟩:=Paired.at B.b hx
   have e':=e1.trans e;refine ⟨a,_,rfl,e'.tseq p1,rfl,_,_,rfl,_,_,rfl,rfl,?_,?_⟩
   ·refine ⟨by simp,λ k w ek=>?_⟩
    have:¬ k<2:=λ hk=>by
     unfold blkσ at ek;rw [List.getElem?_append_left (by simpa using hk),List.getElem?_replicate] at ek
     split at ek <;> cases ek
    rw [List.getElem?_set_ne (by omega),List.getElem?_set_ne (by omega)]; exact ek
   exact ⟨_,rfl,ga,_,rfl,.inr (e'.tseq p3),_,rfl,ta,_,rfl,.inr (e'.tseq p2),_,_,rfl,rfl,hN _ _ (Same.refl _) ⟨g,hg,rfl⟩⟩
  ·refine ⟨l,rfl,e,?_⟩
   rw [hl2]
   congr 2
   refine List.ext_getElem? λ j=>?_
   by_cases hj:j<ys.length
   ·obtain ⟨g,g1,g2⟩:=pr j _ (List.getElem?_eq_getElem hj)
    rw [List.getElem?_eq_getElem hj,g2,List.getElem?_map,List.getElem?_map,g1]; rfl
   ·rw [List.getElem?_eq_none (by omega),List.getElem?_eq_none (by rw [List.length_map,List.length_map]; omega)]
 rintro σ1 H2 ⟨fl,rfl,e2,hfl⟩;refine ⟨λ σ' H3=>∃ (ra:Addr) (rs':List Addr),σ'=[some (.ref ba),some (.int i),some (.str z),some (.ref ra),some (.ref fl),none,none]/\Same H2 H3/\H3 ra=some (.lst (rs'.map V.ref))/\rs'.length=hs.length/\∀ (j:Nat) a g,rs'[j]?=some a->hs[j]?=some g->H3 a=some (.lst ((F0 z g).map V.int)),?_,?_⟩
 ·refine ⟨_,rfl,_,rfl,r,fl,rfl,⟨_,SqL.of (e2 _ _ hr1)⟩,⟨_,SqL.of hfl⟩,λ l hl=>?_⟩
  refine a5J (b1:=true) (b2:=true) (SqL.of (e2 _ _ hr1)) (SqL.of hfl) hl (by rw [List.length_map,lr]; omega) (λ j y H3=>∃ a g,y=.ref a/\a≠l/\hs[j]?=some g/\H3 a=some (.lst ((F0 z g).map V.int)))
   (λ j y H3 H4 ⟨a,g,h1,h2,h3,h4⟩ e=>⟨a,g,h1,h2,h3,e a _ h2 h4⟩) (λ j x y H3 zs N' hx hy e hl2 hN=>?_) (λ zs H3 e hl2 len pr=>?_)
  ·obtain ⟨ra,hra,rfl⟩:∃ ra,rs[j]?=some ra/\x=.ref ra:=by
    rw [List.getElem?_map] at hx
    cases q1:rs[j]? with
    | none=>rw [q1] at hx; cases hx
    | some v=>rw [q1] at hx; cases hx; exact ⟨v,rfl,rfl⟩
   have hjl:j<hs.length:=by rw [<- lr]; exact (List.getElem?_eq_some_iff.mp hra).1
   have hg:hs[j]?=some hs[j]:=List.getElem?_eq_getElem hjl;have hrow:=hrs j ra _ hra hg;have hyv:y=.int (hs[j].2.sum - hs[j].1.sum):=by
    rw [List.getElem?_map,List.getElem?_map,hg] at hy;exact (Option.some.inj hy).symm
   subst hyv;generalize hs[j]=g at *;have gg:=B.g g (List.mem_of_getElem? hg);refine ⟨_,rfl,_,rfl,(by show 1<=sizeLine; decide),λ a1 h1=>?_⟩;have n1:ra≠a1:=g0 (e _ _ (e2 _ _ hrow)) h1;refine ⟨ra,a1,_,_,rfl,rfl,(by rw [c7 n1]; exact e _ _ (e2 _ _ hrow)),upd_same,?_,λ a2 h2=>?_⟩
   ·rw [List.length_map]
    unfold t8;simp [gg.lt,gg.lg];omega
   have s2:=(Same.new h1 (.lst [V.int (g.2.sum - g.1.sum)])).trans (Same.new h2 (.lst ((t8 z g).map V.int++[V.int (g.2.sum - g.1.sum)])));refine hN _ _ s2 ⟨a2,g,rfl,λ zz=>?_,hg,?_⟩
   ·rw [zz,(Same.new h1 (.lst [V.int (g.2.sum - g.1.sum)])) _ _ hl2] at h2; cases h2
   ·rw [upd_same]
    unfold F0;rw [List.map_append]; rfl
  ·have hzs:zs=(zs.map a4G).map V.ref:=by
    rw [List.map_map];refine List.ext_getElem? λ j=>?_;rw [List.getElem?_map]
    cases qj:zs[j]? with
    | none=>rfl
    | some y =>
     obtain ⟨a,_,rfl,_⟩:=pr j y qj;rfl
   refine ⟨l,zs.map a4G,rfl,e,by rw [hl2]; rw [<- hzs],by rw [List.length_map,len,List.length_map,List.length_map,List.length_map,lr,Nat.min_self],λ j a g hj hg=>?_⟩;rw [List.getElem?_map] at hj
   cases qj:zs[j]? with
   | none=>rw [qj] at hj; cases hj
   | some y =>
    obtain ⟨a',g',rfl,_,h3,h4⟩:=pr j y qj;rw [qj] at hj;have:a'=a:=Option.some.inj hj;subst this;rw [hg] at h3
    cases h3;exact h4
 rintro σ2 H3 ⟨ra,rs',rfl,e3,hra,lr',hrs'⟩;have hi':i<rs'.length:=by omega
 have hri:rs'[i]?=some rs'[i]:=List.getElem?_eq_getElem hi';generalize rs'[i]=ri at hri;have hrow:=hrs' i ri h hri hh;refine ⟨λ σ' H4=>∃ fa:Addr,σ'=[some (.ref ba),some (.int i),some (.str z),some (.ref ra),some (.ref fl),some (.ref fa),none]/\Same H3 H4/\H4 fa=some (.lst (((F0 z h).map λ x=>-x).map V.int)),?_,?_⟩
 ·refine ⟨_,rfl,_,rfl,ra,_,_,.ref ri,rfl,rfl,SqL.of hra,t9 (by rw [List.getElem?_map,hri]; rfl),ri,rfl,⟨_,SqL.of hrow⟩,λ l hl=>?_⟩
  refine R1 (y6 (SqL.of hrow)) hl (by rw [List.length_map,lrow h (List.mem_of_getElem? hh)]; omega) (λ x=>.int (-(vI x))) (λ j x H' N2 hx2 e2 hN2=>?_) ?_
  ·obtain ⟨x',rfl,_⟩:=a0t hx2
   exact ⟨Wk.set (by decide),_,rfl,_,rfl,hN2⟩
  have eg:((F0 z h).map V.int).map (λ x=>V.int (-(vI x)))=((F0 z h).map λ x=>-x).map V.int:=by rw [List.map_map,List.map_map]; rfl
  rw [eg];exact ⟨l,rfl,Same.new hl _,upd_same⟩
 rintro σ3 H4 ⟨fa,rfl,e4,hfa⟩;have lfa:(((F0 z h).map λ x=>-x).map V.int).length=kt+kg+(E7 z).length+1:=by rw [List.length_map,List.length_map,lrow h (List.mem_of_getElem? hh)]
 refine ⟨λ σ' H5=>∃ ga:Addr,σ'=[some (.ref ba),some (.int i),some (.str z),some (.ref ra),some (.ref fl),some (.ref fa),some (.ref ga)]/\Same H4 H5/\H5 ga=some (.lst ((C5 z h).map V.int)),?_,?_⟩
 ·refine ⟨(by show 1<=sizeLine; decide),λ a1 h1=>?_⟩
  have s1:=Same.new h1 (.lst [.int 0]);have ek:((kt+kg+(E7 z).length+1:Nat):Int) - 1=((h.1.length+h.2.length+(E7 z).length:Nat):Int):=by rw [gh.lt,gh.lg]; omega
  refine ⟨_,rfl,fa,_,rfl,.inl (SqL.of (s1 _ _ hfa)),_,_,rfl,rfl,a1,_,_,rfl,rfl,upd_same,by rw [lfa,ek]; omega,by rw [lfa,ek,gh.lt,gh.lg]; omega,by rw [lfa,ek,Int.toNat_natCast,gh.lt,gh.lg]; simp; omega,λ a2 h2=>?_⟩;rw [lfa,ek,Int.toNat_natCast,S9];have s2:=s1.trans (Same.new h2 (.lst ((List.replicate (h.1.length+h.2.length+(E7 z).length) (0:Int)).map V.int)));refine ⟨(by show 1<=sizeLine; decide),λ a3 h3=>?_⟩;have s3:=s2.trans (Same.new h3 (.lst [.int 1]));have n23:a2≠a3:=g0 upd_same h3;refine ⟨a2,a3,_,_,rfl,rfl,(by rw [c7 n23]; exact upd_same),upd_same,?_,λ a4 h4=>?_⟩
  ·rw [List.length_map,List.length_replicate,gh.lt,gh.lg]; simp; omega
  refine ⟨a4,rfl,s3.trans (Same.new h4 _),?_⟩;rw [upd_same];unfold C5;rw [List.map_append]; rfl
 rintro σ4 H5 ⟨ga,rfl,e5,hga⟩;have e35:=e4.trans e5;refine ⟨_,rfl,_,rfl,_,rfl,_,rfl,(by show 2<=sizeLine; decide),λ a1 h1=>?_⟩;have s1:=Same.new h1 (.lst [V.ref fa,V.ref ga]);have nr1:ra≠a1:=g0 (e35 _ _ hra) h1;refine ⟨ra,a1,_,_,rfl,rfl,(by rw [c7 nr1]; exact e35 _ _ hra),upd_same,?_,λ a2 h2=>?_⟩
 ·rw [List.length_map,lr']; simp; omega
 have s2:=s1.trans (Same.new h2 (.lst (rs'.map V.ref++[V.ref fa,V.ref ga])));refine ⟨(by show 1<=sizeLine; decide),λ a3 h3=>?_⟩;have s3:=s2.trans (Same.new h3 (.lst [.int 0]));have e05:=e1.trans (e2.trans (e3.trans e35));refine ⟨_,rfl,ba,_,rfl,.inl ((e05.trans s3).seq B.l),a3,_,_,rfl,rfl,upd_same,by omega,by rw [xl]; omega,by rw [xl,Int.toNat_natCast]; simp; omega,λ a4 h4=>?_⟩;rw [xl,Int.toNat_natCast,S9];have s4:=s3.trans (Same.new h4 (.lst ((List.replicate hs.length (0:Int)).map V.int)));refine ⟨(by show 2<=sizeLine; decide),λ a5 h5=>?_⟩;have s5:=s4.trans (Same.new h5 (.lst [.int 0,.int 1]));have n45:a4≠a5:=g0 upd_same h5;refine ⟨a4,a5,_,_,rfl,rfl,(by rw [c7 n45]; exact upd_same),upd_same,?_,λ a6 h6=>?_⟩
 ·rw [List.length_map,List.length_replicate]; simp; omega
 have s6:=s5.trans (Same.new h6 (.lst ((List.replicate hs.length (0:Int)).map V.int++[.int 0,.int 1])));have eb:(List.replicate hs.length (0:Int)).map V.int++[.int 0,.int 1]=(R4 hs).map V.int:=by unfold R4; rw [List.map_append]; rfl
 have hA:=e05.trans s6;have g2:=(((Same.new h3 (.lst [.int 0])).trans (Same.new h4 (.lst ((List.replicate hs.length (0:Int)).map V.int)))).trans (Same.new h5 (.lst [.int 0,.int 1]))).trans (Same.new h6 (.lst ((List.replicate hs.length (0:Int)).map V.int++[.int 0,.int 1])));refine ⟨ga,a2,a6,C5 z h,rs'.map V.ref++[V.ref fa,V.ref ga],C9 z hs h,R4 hs,mF hs,qF z h,2 ^ 60,rfl,SqL.of (s6 _ _ hga),SqL.of (g2 _ _ upd_same),?_,?_,?_,?_,?_,?_,by show hs.length+2<900; omega,by show h.1.length+h.2.length+(E7 z).length+1<900; rw [gh.lt,gh.lg]; omega,?_,b1Q gh B.g hf k20 k21 _,a8m _ (by show hs.length+2<20; omega),L.same hA,
  λ S H' t' aa wa O hn sz e' L' q1 q2 q3=>k S H' t' aa wa ⟨O,hn,sz⟩ (λ b o hb q'=>e' b o hb (hA b o q')) L' q1 q2 q3,λ S H' c O hc hneg hno e' L'=>(O.bounded1 (l:=hs.length+1) (by show hs.length+1<hs.length+2; omega) (λ j _=>a2r j) hc hneg hno).elim⟩
 ·unfold C9
  refine Paired.app ((a9F (K:=K) lr' hrs').same (e35.trans s6)) (.cons ⟨fa,rfl,SqL.of (s6 _ _ (e5 _ _ hfa))⟩ (.cons ⟨ga,rfl,SqL.of (s6 _ _ hga)⟩ .nil))
 ·rw [<- eb]; exact SqL.of upd_same
 ·unfold C9; simp
 ·unfold R4; simp
 ·unfold C5; simp
 ·intro r' hr'
  unfold C9 at hr';rcases List.mem_append.mp hr' with hr' | hr'
  ·obtain ⟨g,hg,rfl⟩:=List.mem_map.mp hr'
   rw [lrow g hg]
   show _=h.1.length+h.2.length+(E7 z).length+1
   rw [gh.lt,gh.lg]
  ·simp only [List.mem_cons,List.not_mem_nil,or_false] at hr'
   rcases hr' with rfl | rfl
   ·rw [List.length_map,S7]
   ·unfold C5; simp
 ·intro j hj
  unfold E9 R4;rw [List.getD_eq_getElem?_getD]
  by_cases h':j<hs.length
  ·rw [List.getElem?_append_left (by simpa using h'),List.getElem?_replicate,if_pos h']; exact Int.le_refl _
  ·rw [List.getElem?_append_right (by simp; omega),List.length_replicate]
   have hj':j<hs.length+2:=hj;have:j - hs.length=0\/j - hs.length=1:=by omega
   rcases this with q' | q' <;> rw [q'] <;> decide
end
structure b1W (z:Str) (hs:List h8) (h:h8) (pt pg:List Int) (ps:Int):Prop where
 lt:pt.length=h.1.length
 lg:pg.length=h.2.length
 tp:∀ x∈pt,0<x
 gp:∀ x∈pg,0<x
 sign:a0i z ps
 fair:∀ g∈hs,E4 g pg ps<=O5 g pt
 firm:E4 h pg ps=O5 h pt
def W6 (z:Str) (hs:List h8) (h:h8):Prop:=∃ pt pg ps,b1W z hs h pt pg ps
theorem a0u:∀ {l x y:List Int},x.length=y.length->j9 l (List.zipWith (·+·) x y)=j9 l x+j9 l y
 | [],x,y,_=>by simp [j9]
 | a::l,[],[],_=>by simp [j9]
 | a::l,b::x,c::y,h=>by
  have:=a0u (l:=l) (x:=x) (y:=y) (by simpa using h);unfold j9 at *;simp only [List.zipWith_cons_cons,List.sum_cons];rw [this,Int.mul_add]; omega
 | a::l,[],c::y,h=>by simp at h
 | a::l,b::x,[],h=>by simp at h
theorem T3:∀ {l:List Int} {k:Nat} {f:Int},l.length=k->j9 l (List.replicate k f)=l.sum*f
 | [],k,f,_=>by simp [j9]
 | a::l,0,f,h=>by simp at h
 | a::l,k+1,f,h=>by
  have:=T3 (l:=l) (k:=k) (f:=f) (by simpa using h);unfold j9 at *;rw [List.replicate_succ,List.zipWith_cons_cons,List.sum_cons,this,List.sum_cons,Int.add_mul]
abbrev upL (xs:List Int) (f:Int):List Int:=xs.map (·+f)
theorem a8w {l xs:List Int} {f:Int} (h:l.length=xs.length):j9 l (upL xs f)=j9 l xs+l.sum*f:=by
 have e:upL xs f=List.zipWith (·+·) xs (List.replicate xs.length f):=by
  unfold upL;refine List.ext_getElem? λ i=>?_
  by_cases hi:i<xs.length
  ·rw [List.getElem?_map,List.getElem?_zipWith,List.getElem?_replicate,if_pos hi,List.getElem?_eq_getElem hi]; rfl
  ·rw [List.getElem?_eq_none (by simp; omega),List.getElem?_eq_none (by simp; omega)]
 rw [e,a0u (by simp),T3 h]
theorem a0J {z:Str} {g h:h8} (h1:g.1.length=h.1.length) (h2:g.2.length=h.2.length) {xs:List Int} {fl:Int} (hl:xs.length=h.1.length+h.2.length+(E7 z).length) :
  j9 (F0 z g) (xs++[fl])=E4 g (upL (pgA h xs) fl) (psA z h xs) - O5 g (upL (ptA h xs) fl):=by
 unfold F0;rw [S6 (by unfold t8; simp [h1,h2,hl]; omega),a3P h1 h2];unfold E4 O5;have e1:j9 g.2 (upL (pgA h xs) fl)=j9 g.2 (pgA h xs)+g.2.sum*fl:=a8w (by rw [h2,List.length_take,List.length_drop]; omega);have e2:j9 g.1 (upL (ptA h xs) fl)=j9 g.1 (ptA h xs)+g.1.sum*fl:=a8w (by rw [h1,List.length_take]; omega);dsimp only [j9] at *;rw [e1,e2,Int.sub_mul];omega
theorem a4d {m q:Nat} {S:Lp.Bo}:p7 m (q+1) S=(p7 m (q+1) S).take q++[Lp.valIn m S (q+1) q]:=by
 unfold p7;rw [List.range_succ,List.map_append,List.take_left' (by simp)]; rfl
section
variable {z:Str} {hs:List h8} {h:h8} {S:Lp.Bo} {kt kg i:Nat}
theorem a0Z (xs:List Int) (fl:Int) (hl:xs.length=h.1.length+h.2.length+(E7 z).length):j9 (C5 z h) (xs++[fl])=fl:=by
 unfold C5;rw [S6 (by simp [hl]),Q6,Int.zero_add,Int.one_mul]
theorem b2n (i:Nat) {g:h8} (hg:hs[i]?=some g):(C9 z hs h)[i]?=some (F0 z g):=by
 have hil:i<hs.length:=(List.getElem?_eq_some_iff.mp hg).1;unfold C9;rw [List.getElem?_append_left (by rw [List.length_map]; exact hil),List.getElem?_map,hg]; rfl
theorem b1P:(C9 z hs h)[hs.length]?=some ((F0 z h).map λ x=>-x):=by
 unfold C9;rw [List.getElem?_append_right (by simp),List.length_map,Nat.sub_self]; rfl
theorem a1B (hi:i<=hs.length):(R4 hs).getD i 0=0:=by
 unfold R4;rw [x8,List.length_replicate]
 by_cases h1:i<hs.length
 ·rw [if_pos h1,N4]
 ·rw [if_neg h1,show i - hs.length=0 by omega]; rfl
theorem a4O (hz:R7 z) (B:a2S z hs h S) (hk:∀ g∈hs,g.1.length=kt/\g.2.length=kg) (hh:hs[i]?=some h) (hp:0<S.T (mF hs) (qF z h)) :
  b1W z hs h (upL (ptA h ((p7 (mF hs) (qF z h) S).take (qE z h))) (S.T (mF hs) (qF z h))) (upL (pgA h ((p7 (mF hs) (qF z h) S).take (qE z h))) (S.T (mF hs) (qF z h))) (psA z h ((p7 (mF hs) (qF z h) S).take (qE z h))):=by
 obtain ⟨O,hn,sz⟩:=B;have kh:=hk h (List.mem_of_getElem? hh);have hsp:p7 (mF hs) (qF z h) S=(p7 (mF hs) (qF z h) S).take (qE z h)++[Lp.valIn (mF hs) S (qF z h) (qE z h)]:=a4d;have la:(p7 (mF hs) (qF z h) S).length=qE z h+1:=by unfold p7; simp
 have lx:((p7 (mF hs) (qF z h) S).take (qE z h)).length=h.1.length+h.2.length+(E7 z).length:=by rw [List.length_take,la]; show min (h.1.length+h.2.length+(E7 z).length) (h.1.length+h.2.length+(E7 z).length+1)=_; omega
 have nn:=a7j O;have eT:Lp.valIn (mF hs) S (qF z h) (qE z h)=S.T (mF hs) (qF z h):=by
  have:=a4X O (by unfold C5; simp);rw [hsp,a0Z _ _ lx] at this;exact this
 generalize hxs:(p7 (mF hs) (qF z h) S).take (qE z h)=xs at *;have xnn:∀ x∈xs,0<=x:=λ x hx=>nn x (by rw [hsp]; exact List.mem_append_left _ hx);have fair:∀ g∈hs,E4 g (upL (pgA h xs) (S.T (mF hs) (qF z h))) (psA z h xs)<=O5 g (upL (ptA h xs) (S.T (mF hs) (qF z h))):=λ g hg=>by
  obtain ⟨k,hk'⟩:=List.getElem?_of_mem hg;have hkl:=(List.getElem?_eq_some_iff.mp hk').1;have kg':=hk g hg;have:=a3v O (i:=k) (by show k<hs.length+2; omega) (b2n k hk') (by rw [S7,kg'.1,kg'.2,kh.1.symm,kh.2.symm]);rw [hsp,a0J (h:=h) (by rw [kg'.1,kh.1]) (by rw [kg'.2,kh.2]) lx,a1B (by omega),Int.zero_mul,eT] at this;omega
 refine ⟨by simp [lx]; omega,by simp [lx]; omega,λ x hx=>?_,λ x hx=>?_,a3O hz λ x hx=>xnn x (List.mem_of_mem_drop hx),fair,?_⟩
 ·obtain ⟨y,hy,rfl⟩:=List.mem_map.mp hx
  have:=xnn y (List.mem_of_mem_take hy); omega
 ·obtain ⟨y,hy,rfl⟩:=List.mem_map.mp hx
  have:=xnn y (List.mem_of_mem_drop (List.mem_of_mem_take hy)); omega
 ·have f1:=fair h (List.mem_of_getElem? hh)
  have:=a3v O (i:=hs.length) (by show hs.length<hs.length+2; omega) b1P (by rw [List.length_map,S7]);rw [hsp,a0y,a0J (h:=h) rfl rfl lx,a1B (Nat.le_refl _),Int.zero_mul,eT] at this;omega
theorem a4N (hz:R7 z) (B:a2S z hs h S) (hk:∀ g∈hs,g.1.length=kt/\g.2.length=kg) (hh:hs[i]?=some h) (R:W6 z hs h):0<S.T (mF hs) (qF z h):=by
 obtain ⟨O,hn,sz⟩:=B;obtain ⟨pt,pg,ps,R⟩:=R;have kh:=hk h (List.mem_of_getElem? hh);obtain ⟨sx,sl,snn,sv⟩:∃ sx:List Int,sx.length=(E7 z).length/\(∀ x∈sx,0<=x)/\j9 sx (E7 z)=ps:=by
  have sg:=R.sign;rcases hz with rfl | rfl | rfl | rfl
  ·have h1:=sg.1 (.inl rfl)
   have h2:=sg.2 (.inl rfl);exact ⟨[],rfl,nofun,by show (0:Int)=ps; omega⟩
  ·by_cases h0:0<=ps
   ·refine ⟨[ps,0],rfl,λ x hx=>?_,?_⟩
    ·simp only [List.mem_cons,List.not_mem_nil,or_false] at hx
     rcases hx with rfl | rfl
     ·exact h0
     ·exact Int.le_refl _
    ·show ps*1+(0 * -1+0)=ps; omega
   ·refine ⟨[0,-ps],rfl,λ x hx=>?_,?_⟩
    ·simp only [List.mem_cons,List.not_mem_nil,or_false] at hx
     rcases hx with rfl | rfl
     ·exact Int.le_refl _
     ·omega
    ·show 0*1+(-ps * -1+0)=ps; omega
  ·have h1:=sg.1 (.inr rfl)
   exact ⟨[-ps],rfl,λ x hx=>by rw [List.mem_singleton.mp hx]; omega,by show -ps * -1+0=ps; omega⟩
  ·have h1:=sg.2 (.inr rfl)
   exact ⟨[ps],rfl,λ x hx=>by rw [List.mem_singleton.mp hx]; exact h1,by show ps*1+0=ps; omega⟩
 have hxl:(pt.map (· - 1)++pg.map (· - 1)++sx).length=h.1.length+h.2.length+(E7 z).length:=by simp [R.lt,R.lg,sl]; omega
 have e1:upL (ptA h (pt.map (· - 1)++pg.map (· - 1)++sx)) 1=pt:=by
  unfold ptA upL;rw [List.append_assoc,List.take_left' (by simp [R.lt]),List.map_map];refine (List.map_congr_left λ x _=>?_).trans (List.map_id _)
  show x - 1+1=x; omega
 have e2:upL (pgA h (pt.map (· - 1)++pg.map (· - 1)++sx)) 1=pg:=by
  unfold pgA upL;rw [List.append_assoc,List.drop_left' (by simp [R.lt]),List.take_left' (by simp [R.lg]),List.map_map];refine (List.map_congr_left λ x _=>?_).trans (List.map_id _)
  show x - 1+1=x; omega
 have e3:psA z h (pt.map (· - 1)++pg.map (· - 1)++sx)=ps:=by
  unfold psA;rw [List.drop_left' (by simp [R.lt,R.lg])]; exact sv
 generalize hx0:pt.map (· - 1)++pg.map (· - 1)++sx=xs at *;have xnn:∀ x∈xs++[1],0<=x:=λ x hx=>by
  rcases List.mem_append.mp hx with hx | hx
  ·rw [<- hx0] at hx
   rcases List.mem_append.mp hx with hx | hx
   ·rcases List.mem_append.mp hx with hx | hx
    ·obtain ⟨y,hy,rfl⟩:=List.mem_map.mp hx
     have:=R.tp y hy; omega
    ·obtain ⟨y,hy,rfl⟩:=List.mem_map.mp hx
     have:=R.gp y hy; omega
   ·exact snn x hx
  ·rw [List.mem_singleton.mp hx]; decide
 have lq:(xs++[1]).length=qF z h:=by rw [List.length_append,hxl]; rfl
 have toD:∀ {row:List Int} {i:Nat},(C9 z hs h)[i]?=some row->row.length=qF z h->Lp.sumTo (λ j=>S4 (C9 z hs h) i j*(xs++[1]).getD j 0) (qF z h)=j9 row (xs++[1]):=λ {row i} hr hl=>by
  rw [<- D7 (qF z h) row (xs++[1]) hl lq];exact Lp.sum_congr λ j _=>by rw [Q5 hr]
 have key:=O.weak hn (y:=λ j=>(xs++[1]).getD j 0) (e:=1) (λ j hj=>?_) λ k hk'=>?_
 ·have eg:Lp.sumTo (λ j=>E9 (C5 z h) j*(xs++[1]).getD j 0) (qF z h)=1:=by
   have:=D7 (qF z h) (C5 z h) (xs++[1]) (by unfold C5; simp) lq;rw [a0Z _ _ hxl] at this;exact this
  rw [eg] at key;have:=O.w.pos;omega
 ·rw [List.getD_eq_getElem?_getD,List.getElem?_eq_getElem (by rw [lq]; exact hj)]
  exact xnn _ (List.getElem_mem _)
 ·have hk2:k<hs.length+2:=hk'
  show _<=E9 (R4 hs) k*1
  rw [Int.mul_one]
  by_cases c1:k<hs.length
  ·have hg:hs[k]?=some hs[k]:=List.getElem?_eq_getElem c1
   have kg':=hk hs[k] (List.getElem_mem c1);rw [toD (b2n k hg) (by rw [S7,kg'.1,kg'.2,kh.1.symm,kh.2.symm]),a0J (h:=h) (by rw [kg'.1,kh.1]) (by rw [kg'.2,kh.2]) hxl,e1,e2,e3]
   show _<=(R4 hs).getD k 0
   rw [a1B (by omega)];have:=R.fair hs[k] (List.getElem_mem c1);omega
  ·by_cases c2:k=hs.length
   ·subst c2
    rw [toD b1P (by rw [List.length_map,S7]),a0y,a0J (h:=h) rfl rfl hxl,e1,e2,e3]
    show _<=(R4 hs).getD hs.length 0
    rw [a1B (Nat.le_refl _)];have:=R.firm;omega
   ·have c3:k=hs.length+1:=by omega
    subst c3;have hr:(C9 z hs h)[hs.length+1]?=some (C5 z h):=by
     unfold C9;rw [List.getElem?_append_right (by simp),List.length_map,Nat.add_sub_cancel_left]; rfl
    rw [toD hr (by unfold C5; simp),a0Z _ _ hxl]
    show (1:Int)<=(R4 hs).getD (hs.length+1) 0
    unfold R4;rw [x8,List.length_replicate,if_neg (by omega),Nat.add_sub_cancel_left]; decide
theorem a6T (hz:R7 z) (B:a2S z hs h S) (hk:∀ g∈hs,g.1.length=kt/\g.2.length=kg) (hh:hs[i]?=some h):0<S.T (mF hs) (qF z h) ↔ W6 z hs h :=
 ⟨λ hp=>⟨_,_,_,a4O hz B hk hh hp⟩,a4N hz B hk hh⟩
end
end Rim
namespace L2
open PySem
section
variable {fr:List Nat} {tc:TT} {σ:St} {H1:Hp} {p:Addr} {D:Hp->Prop} {P:Addr} {pos:Pos} {qual:Str} {n:Nat}
theorem a9G (T:LamTab P pos qual H1) (hp:H1 p=none) (hz:n<sizeLine) (F:Nat->Bool)
  (step:∀ (i:Nat) H ys (N:Bool->Hp->Prop),i<n->Same1 P H1 H->LamTab P pos qual H->H p=some (.lst ys)->(∀ H3,Same1 P H H3->LamTab P pos qual H3->N (F i) H3)->tc ((blkσ 1 fr σ).set 0 (some (.int (i:Int)))) H N)
  (hd:∀ H,Same1 P H1 H->LamTab P pos qual H->H p=some (.lst (((List.range n).filter F).map λ (i:Nat)=>V.int (i:Int)))->D H):lcI 1 fr (J6 0) tc (a7J 0) σ (Itr 0 n) H1 p D:=by
 refine ⟨λ i m ys H=>m=n - i/\i<=n/\ys=((List.range i).filter F).map (λ (i:Nat)=>V.int (i:Int))/\Same1 P H1 H/\LamTab P pos qual H/\H p=some (.lst ys),⟨n,by simp,Nat.zero_le _,rfl,(Same.new hp _).to1,T.same (Same.new hp _),upd_same⟩,?_⟩;rintro i m ys H ⟨rfl,hi,rfl,e,L,hH⟩
 by_cases hlt:i<n
 ·refine .inr ⟨hlt,λ x H' y=>?_⟩
  obtain ⟨rfl,rfl⟩:=y;rw [Int.zero_add];have tk:(List.range (i+1)).filter F=(List.range i).filter F++[i].filter F:=by rw [List.range_succ,List.filter_append]
  refine ⟨Wk.set (by decide),step i _ _ _ hlt e L hH λ H3 e3 L3=>?_⟩;have h3:=e3.get L hH nofun
  cases hq:F i with
  | false =>
   rw [if_neg Bool.false_ne_true];refine ⟨n - (i+1),by omega,rfl,hlt,?_,e.trans e3,L3,h3⟩;rw [tk]; simp [hq]
  | true =>
   rw [if_pos rfl];refine ⟨.int (i:Int),?_,h3,?_,n - (i+1),by omega,rfl,hlt,?_,(e.trans e3).write hp,L3.write h3,upd_same⟩
   ·show ((blkσ 1 fr σ).set 0 (some (.int (i:Int))))[0]?=some (some (.int (i:Int)))
    rw [List.getElem?_set_self (by simp [blkσ])]
   ·have h1:=List.length_filter_le F (List.range i)
    rw [List.length_range] at h1;rw [List.length_map];omega
   ·rw [tk]; simp [hq]
 ·have:i=n:=by omega
  subst this;exact .inl ⟨Nat.le_refl _,hd H e L hH⟩
end
end L2
namespace Rim
open PySem L2 Fr
open Classical in
noncomputable def a2z (z:Str) (hs:List h8):List Nat:=(List.range hs.length).filter λ i=>decide (W6 z hs (hs.getD i ([],[])))
theorem b1M {z:Str} {hs:List h8} {i:Nat} (h:i∈a2z z hs):i<hs.length:=by
 unfold a2z at h;exact List.mem_range.mp (List.mem_filter.mp h).1
theorem a9k {z:Str} {hs:List h8} {i:Nat} {h:h8} (hh:hs[i]?=some h):i∈a2z z hs ↔ W6 z hs h:=by
 have hil:=(List.getElem?_eq_some_iff.mp hh).1;have hd:hs.getD i ([],[])=h:=by rw [List.getD_eq_getElem?_getD,hh]; rfl
 unfold a2z;rw [List.mem_filter,List.mem_range,hd];simp [hil]
theorem a3K:∀ {l:List Int},(∀ x∈l,0<=x)->(∃ x∈l,0<x)->0<l.sum
 | [],_,⟨_,h,_⟩=>by cases h
 | a::r,h,⟨x,hx,hp⟩=>by
  have ha:=h a (.head _);have nn:0<=r.sum:=by
   have:∀ {l:List Int},(∀ x∈l,0<=x)->0<=l.sum:=λ {l}=>by
    induction l with
    | nil=>intro _; exact Int.le_refl _
    | cons b s ih =>
     intro g;have h1:=g b (.head _);have h2:=ih λ y hy=>g y (.tail _ hy);rw [List.sum_cons]; omega
   exact this λ y hy=>h y (.tail _ hy)
  rw [List.sum_cons];rcases List.mem_cons.mp hx with rfl | hx
  ·omega
  ·have:=a3K (l:=r) (λ y hy=>h y (.tail _ hy)) ⟨x,hx,hp⟩
   omega
theorem W3 {α:Type} {T G:α->Int}:∀ {l:List α},l≠[]->(∀ x∈l,0<G x)->∃ h∈l,∀ g∈l,T h*G g<=T g*G h
 | [],h,_=>absurd rfl h
 | [a],_,_=>⟨a,.head _,λ g hg=>by rw [List.mem_singleton.mp hg]; exact Int.le_refl _⟩
 | a::b::r,_,hp=>by
  obtain ⟨h,hm,hl⟩:=W3 (T:=T) (G:=G) (l:=b::r) (by simp) λ x hx=>hp x (.tail _ hx)
  by_cases c:T h*G a<=T a*G h
  ·refine ⟨h,.tail _ hm,λ g hg=>?_⟩
   rcases List.mem_cons.mp hg with rfl | hg
   ·exact c
   ·exact hl g hg
  ·refine ⟨a,.head _,λ g hg=>?_⟩
   rcases List.mem_cons.mp hg with rfl | hg
   ·exact Int.le_refl _
   ·have h1:=hl g hg
    have pa:=hp a (.head _);have ph:=hp h (.tail _ hm);have pg:=hp g (.tail _ hg);refine Int.le_of_mul_le_mul_right (a:=G h) ?_ ph;have e1:T a*G h*G g<=T h*G a*G g:=Int.mul_le_mul_of_nonneg_right (by omega) (Int.le_of_lt pg);have e2:T h*G g*G a<=T g*G h*G a:=Int.mul_le_mul_of_nonneg_right h1 (Int.le_of_lt pa);have x1:T a*G g*G h=T a*G h*G g:=by ac_rfl
    have x2:T h*G a*G g=T h*G g*G a:=by ac_rfl
    have x3:T g*G h*G a=T g*G a*G h:=by ac_rfl
    omega
theorem a4C {z:Str} {hs:List h8} {far:Int} {kt kg:Nat} (hG:∀ g∈hs,HG far kt kg g) (kt1:1<=kt) (hne:hs≠[]):∃ i,i∈a2z z hs:=by
 have pT:∀ g∈hs,0<g.1.sum:=λ g hg=>by
  have h:=hG g hg;refine a3K (λ x hx=>by have:=(h.t x hx).1; omega) ?_;have hl:0<g.1.length:=by rw [h.lt]; omega
  exact ⟨g.1[0],List.getElem_mem hl,by have:=(h.t _ (List.getElem_mem hl)).1; omega⟩
 have pG:∀ g∈hs,0<g.2.sum:=λ g hg=>a3K (λ x hx=>((hG g hg).g x hx).1) (hG g hg).p;obtain ⟨h,hm,hl⟩:=W3 (T:=λ g:h8=>g.1.sum) (G:=λ g:h8=>g.2.sum) hne pG;obtain ⟨i,hi⟩:=List.getElem?_of_mem hm;refine ⟨i,(a9k hi).mpr ⟨List.replicate kt h.2.sum,List.replicate kg h.1.sum,0,?_⟩⟩;have v1:∀ g∈hs,O5 g (List.replicate kt h.2.sum)=g.1.sum*h.2.sum:=λ g hg=>T3 (hG g hg).lt;have v2:∀ g∈hs,E4 g (List.replicate kg h.1.sum) 0=g.2.sum*h.1.sum:=λ g hg=>by
  have:j9 g.2 (List.replicate kg h.1.sum)=g.2.sum*h.1.sum:=T3 (hG g hg).lg;unfold E4;dsimp only [j9] at this;rw [this,Int.add_zero]
 refine ⟨by rw [List.length_replicate,(hG h hm).lt],by rw [List.length_replicate,(hG h hm).lg],λ x hx=>by rw [(List.mem_replicate.mp hx).2]; exact pG h hm,λ x hx=>by rw [(List.mem_replicate.mp hx).2]; exact pT h hm,⟨λ _=>Int.le_refl _,λ _=>Int.le_refl _⟩,λ g hg=>?_,?_⟩
 ·rw [v1 g hg,v2 g hg]
  have:=hl g hg;rw [Int.mul_comm g.2.sum]; exact this
 ·rw [v1 h hm,v2 h hm,Int.mul_comm]
section
variable {P:Program} {w:World} {K:W.Frag} {mg:Str->Option Value} {base:Heap} {f Pt d:Addr} {fd:FuncData} {n:Nat} {C:Addr}
def a3u (K:W.Frag) (Pt:Addr):Sp:=λ vs H Q _=>∃ (ba:Addr) (xs:List V) (hs:List h8) (z:Str) (far:Int) (kt kg:Nat),vs=[.ref ba,.str z]/\R7 z/\D4 K H ba xs hs far kt kg/\far<=2 ^ 50/\LT Pt H ∧
 ∀ (H':Hp) (r:Addr),Same1 Pt H H'->LT Pt H'->H r=none->H' r=some (.lst ((a2z z hs).map λ (i:Nat)=>V.int (i:Int)))->Q (.ref r) H'
theorem b6e:m8 ["book","sizes"] ["book","sizes"] (i5 a5W):=⟨rfl,rfl,rfl,by decide +kernel,rfl,by decide +kernel,by decide +kernel⟩
theorem b5A:(["number","book","sizes"]:List Str).Nodup:=by decide +kernel
theorem a9j {f1:Addr} {d1:FuncData} (F:Fun K "rim_of" "rim_of" a5W f fd) (N:x9 mg) (Cf:W5 P w K mg base n "greatest_floor" ["houses","number","sizes"] (a6B K Pt) f1 d1):FnOk P w K mg base G5 (n+1) f fd ["book","sizes"] (a3u K Pt):=by
 refine F.ok b6e (λ vs H Q E h=>?_) (λ cdv A outer s H vs Q E hr h=>?_)
 ·obtain ⟨ba,xs,hs,z,far,kt,kg,rfl,_⟩:=h
  rfl
 obtain ⟨ba,xs,hs,z,far,kt,kg,rfl,hz,B,hf,L,k⟩:=h;refine ⟨_,i6 (r9 (a5A ["number"] [0,1] rfl (K3 rfl N.range (c5 (m6 j6 rfl N.len PySem.boot_len (c5 (pv 0) c6)) c6)) (λ _ _ _ _=>i9 (i:=0) b5A rfl (Or.inl rfl))
  (λ _ _ _ _=>m9 a0q (j3 (b2r K rfl) (j5 Cf.ok hr rfl Cf.m Cf.k Cf.b .nil w4 (c5 (pv 1) (c5 (pv 0) (c5 (pv 2) c6)))) i3 (λ _ _=>rfl)) i3 (r6 _)) (λ _ _ _ _=>pv 0))),?_⟩
 have xl:xs.length=hs.length:=Paired.length B.b;have few:=B.few;have s1k:=j7 (show (1000:Nat)<=1000 from Nat.le_refl _);have hk:∀ g∈hs,g.1.length=kt/\g.2.length=kg:=λ g hg=>⟨(B.g g hg).lt,(B.g g hg).lg⟩;refine ⟨_,rfl,ba,_,rfl,.inl B.l,_,rfl,by omega,by omega,?_⟩;rw [xl,Int.toNat_natCast];intro p hp;refine a9G (n:=hs.length) L hp (by omega) _ (λ i H2 ys N' hi e L2' hp2 hN=>?_) (λ H2 e L2' hp2=>k H2 p e L2' hp hp2);have hh:hs[i]?=some hs[i]:=List.getElem?_eq_getElem hi;refine ⟨_,rfl,_,rfl,_,rfl,ba,xs,hs,i,hs[i],z,far,kt,kg,rfl,hz,⟨SqL.same1 L e B.l,Bk.same1 L e B.b,B.g,B.far,B.few,B.t,B.k⟩,hf,hh,L2',λ S H3 t aa wa BF e3 L3 ht _ _=>?_⟩;refine ⟨t,_,0,_,rfl,rfl,SqT.of ht,t9 (j:=0) rfl,_,_,rfl,rfl,_,rfl,?_⟩;have hd:hs.getD i ([],[])=hs[i]:=by rw [List.getD_eq_getElem?_getD,hh]; rfl
 have eb:decide (S.T (mF hs) (qF z hs[i])>0)=(λ i=>@decide (W6 z hs (hs.getD i ([],[]))) (Classical.propDecidable _)) i:=by
  have:=a6T hz BF hk hh
  show _=@decide (W6 z hs (hs.getD i ([],[]))) (Classical.propDecidable _)
  rw [hd]
  by_cases c:0<S.T (mF hs) (qF z hs[i])
  ·have c2:=this.mp c
   rw [decide_eq_true (show S.T (mF hs) (qF z hs[i])>0 from c)];simp [c2]
  ·have c2:¬ W6 z hs hs[i]:=λ q=>c (this.mpr q)
   rw [decide_eq_false (show ¬ S.T (mF hs) (qF z hs[i])>0 from c)];simp [c2]
 rw [eb];exact hN H3 e3 L3
end
end Rim
namespace Rim
open PySem L2 Fr
structure Mx (z:Str) (hs:List h8) (ws:List Int) (D:Int):Prop where
 lw:ws.length=hs.length
 nn:∀ x∈ws,0<=x
 d:0<D
 size:a1Z z ws.sum D
structure Px (z:Str) (hs:List h8) (kt kg:Nat) (pt pg:List Int) (ps:Int):Prop where
 lt:pt.length=kt
 lg:pg.length=kg
 tn:∀ x∈pt,0<=x
 gn:∀ x∈pg,0<=x
 sign:a0i z ps
 fair:∀ g∈hs,E4 g pg ps<=O5 g pt
theorem v8 (a b:Int) (l x:List Int):j9 (a::l) (b::x)=a*b+j9 l x:=rfl
theorem a0p {f:h8->List Int} {k:Nat}:∀ {hs:List h8} {ws p:List Int},ws.length=hs.length->(∀ g∈hs,(f g).length=k)->p.length=k →
  j9 (hs.map λ g=>j9 (f g) p) ws=j9 ((List.range k).map λ j=>j9 (hs.map λ g=>(f g).getD j 0) ws) p
 | [],ws,p,_,_,hp=>by
  have e:∀ (l:List Nat) (p:List Int),j9 (l.map λ _=>(0:Int)) p=0:=λ l=>by
   induction l with
   | nil=>intro p; simp [j9]
   | cons a r ih =>
    intro p
    cases p with
    | nil=>simp [j9]
    | cons b p=>rw [List.map_cons,v8,ih p]; omega
  show (0:Int)=_
  rw [show ((List.range k).map λ j=>j9 (([]:List h8).map λ g=>(f g).getD j 0) ws)=(List.range k).map λ _=>(0:Int) from List.map_congr_left λ j _=>by simp [j9],e]
 | g::hs,[],p,h,_,_=>by simp at h
 | g::hs,w::ws,p,h,hk,hp=>by
  have ih:=a0p (f:=f) (k:=k) (hs:=hs) (ws:=ws) (p:=p) (by simpa using h) (λ x hx=>hk x (.tail _ hx)) hp;rw [List.map_cons,v8,ih];have e1:((List.range k).map λ j=>j9 ((g::hs).map λ g=>(f g).getD j 0) (w::ws))=List.zipWith (·+·) ((f g).map λ x=>x*w) ((List.range k).map λ j=>j9 (hs.map λ g=>(f g).getD j 0) ws):=by
   have lg:=hk g (.head _);refine List.ext_getElem? λ j=>?_
   by_cases hj:j<k
   ·rw [List.getElem?_map,List.getElem?_range hj,List.getElem?_zipWith,List.getElem?_map,List.getElem?_map,List.getElem?_range hj,List.getElem?_eq_getElem (by rw [lg]; exact hj)]
    simp only [Option.map_some];rw [List.map_cons,v8,List.getD_eq_getElem?_getD,List.getElem?_eq_getElem (by rw [lg]; exact hj)]; rfl
   ·rw [List.getElem?_eq_none (by simp; omega),List.getElem?_eq_none (by simp; omega)]
  rw [e1,B8 (List.zipWith _ _ _) p,a0u (by simp [hk g (.head _)]),B8 p,B8 p]
  congr 1
  have:∀ (l p:List Int),j9 (l.map λ x=>x*w) p=j9 l p*w:=λ l=>by
   induction l with
   | nil=>intro p; simp [j9]
   | cons a r ih =>
    intro p
    cases p with
    | nil=>simp [j9]
    | cons b p =>
     rw [List.map_cons,v8,v8,ih p,Int.add_mul]
     congr 1
     ac_rfl
  rw [this]
theorem N3:∀ {l m p:List Int},l.length=m.length->(∀ x∈p,0<=x)->(∀ j,j<l.length->l.getD j 0<=m.getD j 0)->j9 l p<=j9 m p
 | [],[],p,_,_,_=>Int.le_refl _
 | a::l,b::m,[],_,_,_=>Int.le_refl _
 | a::l,b::m,c::p,h,hp,hj=>by
  have ih:=N3 (l:=l) (m:=m) (p:=p) (by simpa using h) (λ x hx=>hp x (.tail _ hx)) λ j hl=>by
   have:=hj (j+1) (by simpa using hl)
   simpa using this
  have h0:a<=b:=by simpa using hj 0 (by simp)
  rw [v8,v8];have:=Int.mul_le_mul_of_nonneg_right h0 (hp c (.head _));omega
 | [],_::_,_,h,_,_=>by simp at h
 | _::_,[],_,h,_,_=>by simp at h
theorem C7 (s:Int):∀ (l p:List Int),j9 (l.map λ x=>x*s) p=j9 l p*s
 | [],p=>by simp [j9]
 | a::l,[]=>by simp [j9]
 | a::l,b::p=>by
  rw [List.map_cons,v8,v8,C7 s l p,Int.add_mul]
  congr 1
  ac_rfl
section
variable {z:Str} {hs:List h8} {h:h8} {kt kg:Nat} {ws pt pg:List Int} {D ps:Int}
theorem G6 (j i:Nat):A5 hs ws j i=j9 (hs.map λ g=>(S1 j g).getD i 0) ws:=by
 unfold A5 col;rw [List.map_map]; rfl
theorem a1U (hz:R7 z) (M:Mx z hs ws D) (P:Px z hs kt kg pt pg ps) (hk:∀ g∈hs,g.1.length=kt/\g.2.length=kg) :
  j9 ((List.range kg).map λ j=>A5 hs ws 1 j) pg+ps*D<=j9 ((List.range kt).map λ j=>A5 hs ws 0 j) pt:=by
 have e0:j9 (hs.map λ g=>O5 g pt) ws=j9 ((List.range kt).map λ j=>A5 hs ws 0 j) pt:=by
  have:=a0p (f:=λ g=>g.1) (hs:=hs) (ws:=ws) (p:=pt) M.lw (λ g hg=>(hk g hg).1) P.lt;rw [show (λ j=>A5 hs ws 0 j)=λ j=>j9 (hs.map λ g=>g.1.getD j 0) ws from funext λ j=>G6 0 j];exact this
 have e1:j9 (hs.map λ g=>j9 g.2 pg) ws=j9 ((List.range kg).map λ j=>A5 hs ws 1 j) pg:=by
  have:=a0p (f:=λ g=>g.2) (hs:=hs) (ws:=ws) (p:=pg) M.lw (λ g hg=>(hk g hg).2) P.lg;rw [show (λ j=>A5 hs ws 1 j)=λ j=>j9 (hs.map λ g=>g.2.getD j 0) ws from funext λ j=>G6 1 j];exact this
 have e2:j9 (hs.map λ g=>E4 g pg ps) ws=j9 (hs.map λ g=>j9 g.2 pg) ws+ps*ws.sum:=by
  have:∀ (hs:List h8) (ws:List Int),hs.length=ws.length->j9 (hs.map λ g=>E4 g pg ps) ws=j9 (hs.map λ g=>j9 g.2 pg) ws+ps*ws.sum:=λ hs=>by
   induction hs with
   | nil =>
    intro ws hl;rw [List.eq_nil_of_length_eq_zero hl.symm]; simp [j9]
   | cons g r ih =>
    intro ws hl
    cases ws with
    | nil=>simp at hl
    | cons w ws =>
     have:=ih ws (by simpa using hl);rw [List.map_cons,List.map_cons,v8,v8,this,List.sum_cons];have e:E4 g pg ps=j9 g.2 pg+ps:=rfl;rw [e,Int.add_mul,Int.mul_add];omega
  exact this hs ws M.lw.symm
 have le:j9 (hs.map λ g=>E4 g pg ps) ws<=j9 (hs.map λ g=>O5 g pt) ws:=by
  refine N3 (by simp) M.nn λ j hj=>?_;have hj':j<hs.length:=by simpa using hj
  rw [List.getD_eq_getElem?_getD,List.getD_eq_getElem?_getD,List.getElem?_map,List.getElem?_map,List.getElem?_eq_getElem hj'];exact P.fair _ (List.getElem_mem hj')
 have sz:ps*D<=ps*ws.sum:=by
  obtain ⟨s1,s2⟩:=M.size;obtain ⟨g1,g2⟩:=P.sign;rcases hz with c | c | c | c
  ·have:=g1 (.inl c); have:=g2 (.inl c)
   have:ps=0:=by omega
   rw [this]; simp
  ·have a1:=s1 (.inl c)
   have a2:=s2 (.inl c);have:ws.sum=D:=by omega
   rw [this]; exact Int.le_refl _
  ·have a1:=g1 (.inr c)
   have a2:=s1 (.inr c);have:=Int.mul_le_mul_of_nonneg_left a2 (show 0 <= -ps by omega);rw [Int.neg_mul,Int.neg_mul] at this;omega
  ·have a1:=g2 (.inr c)
   have a2:=s2 (.inr c);exact Int.mul_le_mul_of_nonneg_left a2 a1
 rw [e0,e2,e1] at le;omega
structure Shr (z:Str) (hs:List h8) (h:h8) (kt kg:Nat) (A B:Int) (ws:List Int) (D:Int):Prop where
 m:Mx z hs ws D
 t:∀ j,j<kt->A5 hs ws 0 j*B<=h.1.getD j 0*A*D
 g:∀ j,j<kg->h.2.getD j 0*D<=A5 hs ws 1 j
structure Gro (z:Str) (hs:List h8) (h:h8) (kt kg:Nat) (A B:Int) (ws:List Int) (D:Int):Prop where
 m:Mx z hs ws D
 t:∀ j,j<kt->A5 hs ws 0 j<=h.1.getD j 0*D
 g:∀ j,j<kg->h.2.getD j 0*A*D<=A5 hs ws 1 j*B
theorem C8 {k:Nat} {F:Nat->Int} {j:Nat} (h:j<k):((List.range k).map F).getD j 0=F j:=U1 h
theorem Shr.weak {A B:Int} (hz:R7 z) (S:Shr z hs h kt kg A B ws D) (P:Px z hs kt kg pt pg ps) (hk:∀ g∈hs,g.1.length=kt/\g.2.length=kg) (h1:h.1.length=kt) (h2:h.2.length=kg) (hB:0<B):E4 h pg ps*B<=A*O5 h pt:=by
 have L:=a1U hz S.m P hk;have dp:=S.m.d;have a1:j9 h.2 pg*D<=j9 ((List.range kg).map λ j=>A5 hs ws 1 j) pg:=by
  rw [<- C7];refine N3 (by simp [h2]) P.gn λ j hj=>?_;have hj':j<kg:=by simpa [h2] using hj
  rw [C8 hj',List.getD_eq_getElem?_getD,List.getElem?_map,List.getElem?_eq_getElem (by omega)];have:=S.g j hj';rw [List.getD_eq_getElem?_getD,List.getElem?_eq_getElem (by omega)] at this;exact this
 have a2:j9 ((List.range kt).map λ j=>A5 hs ws 0 j) pt*B<=j9 h.1 pt*(A*D):=by
  rw [<- C7,<- C7];refine N3 (by simp [h1]) P.tn λ j hj=>?_;have hj':j<kt:=by simpa using hj
  rw [List.getD_eq_getElem?_getD,List.getElem?_map,List.getElem?_map,List.getElem?_range hj',List.getD_eq_getElem?_getD,List.getElem?_map,List.getElem?_eq_getElem (by omega)];have:=S.t j hj';rw [List.getD_eq_getElem?_getD,List.getElem?_eq_getElem (by omega)] at this
  show A5 hs ws 0 j*B<=h.1[j]*(A*D)
  rw [<- Int.mul_assoc]; exact this
 refine Int.le_of_mul_le_mul_right (a:=D) ?_ dp;have e1:E4 h pg ps=j9 h.2 pg+ps:=rfl;have e2:O5 h pt=j9 h.1 pt:=rfl;rw [e1,e2];have b1:=Int.mul_le_mul_of_nonneg_right L (Int.le_of_lt hB);have b2:=Int.mul_le_mul_of_nonneg_right a1 (Int.le_of_lt hB);have x1:(j9 h.2 pg+ps)*B*D=j9 h.2 pg*D*B+ps*D*B:=by rw [Int.add_mul,Int.add_mul]; congr 1 <;> ac_rfl
 have x2:A*j9 h.1 pt*D=j9 h.1 pt*(A*D):=by ac_rfl
 rw [Int.add_mul] at b1;rw [x1,x2];omega
def IsShare (z:Str) (hs:List h8) (h:h8) (kt kg:Nat) (A B:Int):Prop:=0<B/\(∃ ws D,Shr z hs h kt kg A B ws D)/\∃ pt pg ps,Px z hs kt kg pt pg ps/\0<O5 h pt/\E4 h pg ps*B=A*O5 h pt
def b3H (z:Str) (hs:List h8) (h:h8) (kt kg:Nat) (A B:Int):Prop:=0<B/\(∃ ws D,Gro z hs h kt kg A B ws D)/\∃ pt pg ps,Px z hs kt kg pt pg ps/\0<j9 h.2 pg/\A*j9 h.2 pg=(O5 h pt - ps)*B
theorem IsShare.le {A B A' B':Int} (hz:R7 z) (I:IsShare z hs h kt kg A B) (hk:∀ g∈hs,g.1.length=kt/\g.2.length=kg) (h1:h.1.length=kt) (h2:h.2.length=kg) (hB:0<B') {ws:List Int} {D:Int} (S:Shr z hs h kt kg A' B' ws D):A*B'<=A'*B:=by
 obtain ⟨b,_,pt,pg,ps,P,pp,e⟩:=I;have w:=S.weak hz P hk h1 h2 hB;refine Int.le_of_mul_le_mul_right (a:=O5 h pt) ?_ pp;have x:=Int.mul_le_mul_of_nonneg_right w (Int.le_of_lt b);have y1:E4 h pg ps*B'*B=E4 h pg ps*B*B':=by ac_rfl
 rw [y1,e] at x;have y2:A*O5 h pt*B'=A*B'*O5 h pt:=by ac_rfl
 have y3:A'*O5 h pt*B=A'*B*O5 h pt:=by ac_rfl
 omega
theorem IsShare.eq {A B A' B':Int} (hz:R7 z) (I:IsShare z hs h kt kg A B) (J:IsShare z hs h kt kg A' B') (hk:∀ g∈hs,g.1.length=kt/\g.2.length=kg) (h1:h.1.length=kt) (h2:h.2.length=kg):A*B'=A'*B:=by
 obtain ⟨_,⟨ws,D,S⟩,_⟩:=id J;obtain ⟨_,⟨ws',D',S'⟩,_⟩:=id I;have a:=I.le hz hk h1 h2 J.1 S;have b:=J.le hz hk h1 h2 I.1 S';omega
theorem Best.is {S:Lp.Bo} {far:Int} (hz:R7 z) (B:Best z hs h S) (hG:∀ g∈hs,HG far kt kg g) (gh:HG far kt kg h) (kt1:1<=kt) (kt4:kt<=20) (kg4:kg<=20):IsShare z hs h kt kg (S.T (mE hs) (qE z h)) S.d:=by
 have T:=a6K hz B hG gh kt1 kt4 kg4;have dp:=B.1.w.pos;refine ⟨dp,⟨_,_,⟨T.lw,λ x hx=>(T.nn x hx).1,dp,T.size⟩,λ j hj=>?_,T.gives⟩,_,_,_,⟨T.pr.lt,T.pr.lg,λ x hx=>(T.pr.bt x hx).1,λ x hx=>(T.pr.bg x hx).1,T.sign,T.fair⟩,by rw [T.pays]; exact dp,by rw [T.pays,T.earns]⟩;exact Int.mul_le_mul_of_nonneg_right (T.takes j hj) (Int.le_of_lt dp)
end
def A3 (n i:Nat):List Int:=(List.range n).map λ k=>if k=i then 1 else 0
theorem Y0:∀ {n i:Nat} {l:List Int},l.length=n->i<n->j9 l (A3 n i)=l.getD i 0:=λ {n i l} hl hi=>by
 rw [<- D7 n l (A3 n i) hl (by unfold A3; simp),Lp.sum_one hi λ k hk hn=>by unfold A3; rw [U1 hk,if_neg hn,Int.mul_zero]];unfold A3;rw [U1 hi,if_pos rfl,Int.mul_one]
theorem a7M {n i:Nat} (hi:i<n):(A3 n i).sum=1:=by
 have h1:=a6L (A3 n i);rw [<- h1,show (A3 n i).map (λ _=>(1:Int))=List.replicate n 1 by unfold A3; rw [List.map_map]; exact List.eq_replicate_iff.mpr ⟨by simp,λ b hb=>by obtain ⟨_,_,rfl⟩:=List.mem_map.mp hb; rfl⟩,Y0 (by simp) hi,List.getD_eq_getElem?_getD,List.getElem?_replicate,if_pos hi]; rfl
section
variable {z:Str} {hs:List h8} {h:h8} {kt kg i:Nat}
theorem b1J (hi:i<hs.length):Mx z hs (A3 hs.length i) 1 :=
 ⟨by unfold A3; simp,λ x hx=>by
  unfold A3 at hx;obtain ⟨k,_,rfl⟩:=List.mem_map.mp hx
  split <;> decide,by decide,by rw [a7M hi]; exact ⟨λ _=>Int.le_refl _,λ _=>Int.le_refl _⟩⟩
theorem a2I (hh:hs[i]?=some h) (j k:Nat):A5 hs (A3 hs.length i) j k=(S1 j h).getD k 0:=by
 have hi:i<hs.length:=(List.getElem?_eq_some_iff.mp hh).1;rw [G6,Y0 (by simp) hi,List.getD_eq_getElem?_getD (l:=List.map _ hs),List.getElem?_map,hh]; rfl
theorem a9A (hh:hs[i]?=some h):Shr z hs h kt kg 1 1 (A3 hs.length i) 1 :=
 ⟨b1J (List.getElem?_eq_some_iff.mp hh).1,λ j _=>by rw [a2I hh]; show h.1.getD j 0*1<=h.1.getD j 0*1*1; omega,λ j _=>by rw [a2I hh]; show h.2.getD j 0*1<=h.2.getD j 0; omega⟩
end
theorem a8d {l:List Int} {k:Nat}:j9 l (List.replicate k 0)=0:=by rw [B8]; exact Q6 k l
def IsNone (z:Str) (hs:List h8) (h:h8) (kt kg:Nat):Prop:=∃ pt pg ps,Px z hs kt kg pt pg ps/\O5 h pt<=0/\0<E4 h pg ps
theorem a5r {h:h8} {pt:List Int} {far:Int} {kt kg:Nat} (gh:HG far kt kg h) (hp:∀ x∈pt,0<=x):0<=O5 h pt:=by
 have:∀ (l p:List Int),(∀ x∈l,0<=x)->(∀ x∈p,0<=x)->0<=j9 l p:=λ l=>by
  induction l with
  | nil=>intro p _ _; simp [j9]
  | cons a r ih =>
   intro p h1 h2
   cases p with
   | nil=>simp [j9]
   | cons b p =>
    rw [v8];have:=ih p (λ x hx=>h1 x (.tail _ hx)) λ x hx=>h2 x (.tail _ hx);have:=Int.mul_nonneg (h1 a (.head _)) (h2 b (.head _));omega
 exact this _ _ (λ x hx=>by have:=(gh.t x hx).1; omega) hp
theorem X5:∀ {l p:List Int} (m:List Int),l.length=p.length->(∀ x∈l,1<=x)->(∀ x∈p,0<=x)->j9 l p<=0->j9 m p=0
 | [],[],m,_,_,_,_=>by rw [B8]; simp [j9]
 | a::l,b::p,m,hl,h1,h2,h=>by
  rw [v8] at h;have nn:0<=j9 l p:=by
   have:∀ (l p:List Int),(∀ x∈l,1<=x)->(∀ x∈p,0<=x)->0<=j9 l p:=λ l=>by
    induction l with
    | nil=>intro p _ _; simp [j9]
    | cons a r ih =>
     intro p h1 h2
     cases p with
     | nil=>simp [j9]
     | cons b p =>
      rw [v8];have:=ih p (λ x hx=>h1 x (.tail _ hx)) λ x hx=>h2 x (.tail _ hx);have:=Int.mul_nonneg (show 0<=a by have:=h1 a (.head _); omega) (h2 b (.head _));omega
   exact this _ _ (λ x hx=>h1 x (.tail _ hx)) λ x hx=>h2 x (.tail _ hx)
  have hb:=h2 b (.head _);have ha:=h1 a (.head _);have hab:=Int.mul_le_mul_of_nonneg_right ha hb;have b0:b=0:=by omega
  subst b0
  cases m with
  | nil=>simp [j9]
  | cons c m =>
   rw [v8,X5 m (by simpa using hl) (λ x hx=>h1 x (.tail _ hx)) (λ x hx=>h2 x (.tail _ hx)) (by omega)];omega
 | [],_::_,_,h,_,_,_=>by simp at h
 | _::_,[],_,h,_,_,_=>by simp at h
section
variable {z:Str} {hs hs':List h8} {h:h8} {kt kg:Nat} {far:Int}
theorem none_of {S:Lp.Bo} {c:Nat} (hz:R7 z) (O:OfE z hs h S) (hc:c<qE z h) (neg:S.T (mE hs) c<0) (no:∀ i,i<mE hs->¬ 0<S.T i c) (hG:∀ g∈hs,HG far kt kg g) (gh:HG far kt kg h):IsNone z hs h kt kg:=by
 obtain ⟨y,yn,rows,goal⟩:=O.way hc neg no;have hq:qE z h=h.1.length+h.2.length+(E7 z).length:=rfl;have hk:∀ g∈hs,g.1.length=h.1.length/\g.2.length=h.2.length:=λ g hg=>⟨(hG g hg).lt.trans gh.lt.symm,(hG g hg).lg.trans gh.lg.symm⟩;have lx:((List.range (qE z h)).map y).length=qE z h:=by simp
 have sd:∀ l:List Int,l.length=qE z h->Lp.sumTo (λ j=>l.getD j 0*y j) (qE z h)=j9 l ((List.range (qE z h)).map y):=λ l hl=>by
  rw [<- D7 _ l _ hl lx];exact Lp.sum_congr λ j hj=>by rw [U1 hj]
 have xn:∀ x∈(List.range (qE z h)).map y,0<=x:=λ x hx=>by
  obtain ⟨j,hj,rfl⟩:=List.mem_map.mp hx;exact yn j (List.mem_range.mp hj)
 have fair:∀ g∈hs,E4 g (pgA h ((List.range (qE z h)).map y)) (psA z h ((List.range (qE z h)).map y))<=O5 g (ptA h ((List.range (qE z h)).map y)):=λ g hg=>by
  obtain ⟨k,hk'⟩:=List.getElem?_of_mem hg;have hkl:=(List.getElem?_eq_some_iff.mp hk').1;have hr:(A9 z hs h)[k]?=some (t8 z g):=by
   unfold A9;rw [List.getElem?_append_left (by rw [List.length_map]; exact hkl),List.getElem?_map,hk']; rfl
  have r:=rows k (by omega);rw [show (λ j=>S4 (A9 z hs h) k j*y j)=λ j=>(t8 z g).getD j 0*y j from funext λ j=>by rw [Q5 hr],sd _ (by unfold t8; simp [(hk g hg).1,(hk g hg).2]; omega),a3P (h:=h) (hk g hg).1 (hk g hg).2] at r;omega
 have hr:(A9 z hs h)[hs.length]?=some (J1 z h):=by
  unfold A9;rw [List.getElem?_append_right (by rw [List.length_map]; exact Nat.le_refl _),List.length_map,Nat.sub_self]; rfl
 have pd:=rows hs.length (by omega);rw [show (λ j=>S4 (A9 z hs h) hs.length j*y j)=λ j=>(J1 z h).getD j 0*y j from funext λ j=>by rw [Q5 hr],sd _ (by unfold J1; simp; omega),a4k] at pd;have gl:0<j9 (G9 z h) ((List.range (qE z h)).map y):=by
  rw [<- sd _ (by unfold G9; simp; omega)]; exact goal
 rw [a4b] at gl;refine ⟨_,_,_,⟨?_,?_,λ x hx=>xn x (List.mem_of_mem_take hx),λ x hx=>xn x (List.mem_of_mem_drop (List.mem_of_mem_take hx)),a3O hz λ x hx=>xn x (List.mem_of_mem_drop hx),fair⟩,pd,gl⟩
 ·rw [List.length_take,lx]
  have:=gh.lt
  show min h.1.length (h.1.length+h.2.length+(E7 z).length)=kt
  omega
 ·rw [List.length_take,List.length_drop,lx]
  have:=gh.lg
  show min h.2.length (h.1.length+h.2.length+(E7 z).length - h.1.length)=kg
  omega
theorem IsNone.no (hz:R7 z) (N:IsNone z hs h kt kg) (hk:∀ g∈hs,g.1.length=kt/\g.2.length=kg) (gh:HG far kt kg h) {ws:List Int} {D:Int} (M:Mx z hs ws D) (g:∀ j,j<kg->h.2.getD j 0*D<=A5 hs ws 1 j):False:=by
 obtain ⟨pt,pg,ps,P,p0,e0⟩:=N;have L:=a1U hz M P hk;have z0:=X5 ((List.range kt).map λ j=>A5 hs ws 0 j) (l:=h.1) (p:=pt) (by rw [gh.lt,P.lt]) (λ x hx=>(gh.t x hx).1) P.tn p0;rw [z0] at L;have a1:j9 h.2 pg*D<=j9 ((List.range kg).map λ j=>A5 hs ws 1 j) pg:=by
  rw [<- C7];refine N3 (by simp [gh.lg]) P.gn λ j hj=>?_;have hj':j<kg:=by simpa [gh.lg] using hj
  rw [C8 hj',List.getD_eq_getElem?_getD,List.getElem?_map,List.getElem?_eq_getElem (by rw [gh.lg]; exact hj')];have:=g j hj';rw [List.getD_eq_getElem?_getD,List.getElem?_eq_getElem (by rw [gh.lg]; exact hj')] at this;exact this
 have e1:E4 h pg ps=j9 h.2 pg+ps:=rfl;have:0<E4 h pg ps*D:=Int.mul_pos e0 M.d;rw [e1,Int.add_mul] at this;omega
theorem IsNone.notShare (hz:R7 z) (N:IsNone z hs h kt kg) (hk:∀ g∈hs,g.1.length=kt/\g.2.length=kg) (gh:HG far kt kg h) {A B:Int} (I:IsShare z hs h kt kg A B):False:=by
 obtain ⟨_,⟨ws,D,S⟩,_⟩:=I;exact N.no hz hk gh S.m S.g
theorem a6Y:∀ {hs:List h8} {ws:List Int},ws.length=hs.length->(∀ x∈ws,0<=x)->(∀ g∈hs,g∈hs')->∃ ws':List Int,ws'.length=hs'.length/\(∀ x∈ws',0<=x)/\∀ f:h8->Int,j9 (hs'.map f) ws'=j9 (hs.map f) ws
 | [],ws,hl,_,_=>by
  rw [List.eq_nil_of_length_eq_zero hl];exact ⟨List.replicate hs'.length 0,by simp,λ x hx=>by rw [(List.mem_replicate.mp hx).2]; exact Int.le_refl _,λ f=>by rw [a8d]; simp [j9]⟩
 | g::r,[],hl,_,_=>by simp at hl
 | g::r,w::ws,hl,hn,hm=>by
  obtain ⟨ws1,l1,n1,f1⟩:=a6Y (hs:=r) (ws:=ws) (by simpa using hl) (λ x hx=>hn x (.tail _ hx)) λ x hx=>hm x (.tail _ hx);obtain ⟨i,hi⟩:=List.getElem?_of_mem (hm g (.head _));have hil:=(List.getElem?_eq_some_iff.mp hi).1;have lu:(A3 hs'.length i).length=hs'.length:=by unfold A3; simp
  refine ⟨List.zipWith (·+·) ws1 ((A3 hs'.length i).map λ x=>x*w),by simp [l1,lu],λ x hx=>?_,λ f=>?_⟩
  ·obtain ⟨j,hj⟩:=List.getElem?_of_mem hx
   rw [List.getElem?_zipWith] at hj
   split at hj
   ·rename_i a b e1 e2
    have ha:=n1 a (List.mem_of_getElem? e1);rw [List.getElem?_map] at e2
    cases e3:(A3 hs'.length i)[j]? with
    | none=>rw [e3] at e2; cases e2
    | some u =>
     rw [e3] at e2
     cases e2;have hu:0<=u:=by
      have:=List.mem_of_getElem? e3;unfold A3 at this;obtain ⟨k,_,rfl⟩:=List.mem_map.mp this
      split <;> decide
     have:=Int.mul_nonneg hu (hn w (.head _))
     cases hj
     show 0<=a+u*w
     omega
   ·cases hj
  ·rw [a0u (by simp [l1,lu]),f1 f,B8 (hs'.map f) (List.map _ _),C7,B8 (A3 _ _),Y0 (by simp) hil,List.map_cons,v8,List.getD_eq_getElem?_getD,List.getElem?_map,hi]
   show _+f g*w=f g*w+_
   omega
theorem Mx.sub {ws:List Int} {D:Int} (M:Mx z hs ws D) (hm:∀ g∈hs,g∈hs'):∃ ws',Mx z hs' ws' D/\∀ j i,A5 hs' ws' j i=A5 hs ws j i:=by
 obtain ⟨ws',l,n,f⟩:=a6Y M.lw M.nn hm;have s:ws'.sum=ws.sum:=by
  have:=f λ _=>1;rw [Y6 1 hs' ws' l.symm,Y6 1 hs ws M.lw.symm] at this;omega
 exact ⟨ws',⟨l,n,M.d,by rw [s]; exact M.size⟩,λ j i=>by rw [G6,G6]; exact f _⟩
theorem Shr.sub {A B:Int} {ws:List Int} {D:Int} (S:Shr z hs h kt kg A B ws D) (hm:∀ g∈hs,g∈hs'):∃ ws',Shr z hs' h kt kg A B ws' D:=by
 obtain ⟨ws',M,e⟩:=S.m.sub hm;exact ⟨ws',M,λ j hj=>by rw [e]; exact S.t j hj,λ j hj=>by rw [e]; exact S.g j hj⟩
theorem a9W {A B:Int} (I:IsShare z hs' h kt kg A B) (h1:∀ g∈hs',g∈hs) (h2:∀ g∈hs,g=h\/g∈hs') (hAB:A<=B):IsShare z hs h kt kg A B:=by
 obtain ⟨b,⟨ws,D,S⟩,pt,pg,ps,P,pp,e⟩:=I;obtain ⟨ws',S'⟩:=S.sub h1;refine ⟨b,⟨ws',D,S'⟩,pt,pg,ps,⟨P.lt,P.lg,P.tn,P.gn,P.sign,λ g hg=>?_⟩,pp,e⟩;rcases h2 g hg with rfl | hg'
 ·refine Int.le_of_mul_le_mul_right (a:=B) ?_ b
  rw [e,Int.mul_comm];exact Int.mul_le_mul_of_nonneg_left hAB (Int.le_of_lt pp)
 ·exact P.fair g hg'
theorem a1K {ps k:Int} (s:a0i z ps) (hk:0<=k):a0i z (ps*k):=by
 refine ⟨λ q=>?_,λ q=>Int.mul_nonneg (s.2 q) hk⟩;have:=Int.mul_nonneg (show 0 <= -ps by have:=s.1 q; omega) hk;rw [Int.neg_mul] at this;omega
theorem U6 (g:h8) (pg:List Int) (ps k:Int):E4 g (pg.map λ x=>x*k) (ps*k)=E4 g pg ps*k:=by
 have e:∀ (l p:List Int),j9 l (p.map λ x=>x*k)=j9 l p*k:=λ l p=>by rw [B8,C7,B8]
 show j9 g.2 _+ps*k=(j9 g.2 pg+ps)*k
 rw [e,Int.add_mul]
theorem X8 (g:h8) (pt:List Int) (k:Int):O5 g (pt.map λ x=>x*k)=O5 g pt*k:=by
 show j9 g.1 _=j9 g.1 pt*k
 rw [B8,C7,B8]
theorem a0x {l:List Int} {k:Int} (h:∀ x∈l,0<=x) (hk:0<=k):∀ x∈l.map (λ x=>x*k),0<=x:=λ x hx=>by
 obtain ⟨y,hy,rfl⟩:=List.mem_map.mp hx;exact Int.mul_nonneg (h y hy) hk
theorem a2O {pt pg:List Int} {ps:Int} (hG:∀ g∈hs,HG far kt kg g) (hm:h∈hs) (P:Px z hs' kt kg pt pg ps) (h2:∀ g∈hs,g=h\/g∈hs') (pp:0<O5 h pt) (hle:O5 h pt<=E4 h pg ps):IsShare z hs h kt kg 1 1:=by
 obtain ⟨i,hi⟩:=List.getElem?_of_mem hm;have ep:0<E4 h pg ps:=Int.lt_of_lt_of_le pp hle;refine ⟨by decide,⟨_,_,a9A hi⟩,pt.map (λ x=>x*E4 h pg ps),pg.map (λ x=>x*O5 h pt),ps*O5 h pt,⟨by rw [List.length_map]; exact P.lt,by rw [List.length_map]; exact P.lg,a0x P.tn (Int.le_of_lt ep),a0x P.gn (Int.le_of_lt pp),a1K P.sign (Int.le_of_lt pp),λ g hg=>?_⟩,?_,?_⟩
 ·rw [U6,X8]
  rcases h2 g hg with rfl | hg'
  ·rw [Int.mul_comm]; exact Int.le_refl _
  ·exact Int.le_trans (Int.mul_le_mul_of_nonneg_right (P.fair g hg') (Int.le_of_lt pp)) (Int.mul_le_mul_of_nonneg_left hle (a5r (hG g hg) P.tn))
 ·rw [X8]; exact Int.mul_pos pp ep
 ·rw [U6,X8,Int.mul_one,Int.one_mul,Int.mul_comm]
theorem a8Q {A B:Int} (I:IsShare z hs' h kt kg A B) (hG:∀ g∈hs,HG far kt kg g) (hm:h∈hs) (h2:∀ g∈hs,g=h\/g∈hs') (hAB:B<=A):IsShare z hs h kt kg 1 1:=by
 obtain ⟨b,_,pt,pg,ps,P,pp,e⟩:=I;refine a2O hG hm P h2 pp (Int.le_of_mul_le_mul_right (a:=B) ?_ b);rw [e,Int.mul_comm];exact Int.mul_le_mul_of_nonneg_right hAB (Int.le_of_lt pp)
theorem a5Z (N:IsNone z hs' h kt kg) (hG:∀ g∈hs,HG far kt kg g) (hm:h∈hs) (h1:∀ g∈hs',g∈hs) (h2:∀ g∈hs,g=h\/g∈hs') (kt1:1<=kt):IsShare z hs h kt kg 1 1:=by
 obtain ⟨pt,pg,ps,P,p0,e0⟩:=N;have gh:=hG h hm;have pn:=a5r gh P.tn;have one:∀ g∈hs,0<=O5 g (A3 kt 0):=λ g hg=>a5r (hG g hg) λ x hx=>by
  unfold A3 at hx;obtain ⟨k,_,rfl⟩:=List.mem_map.mp hx
  split <;> decide
 have p1:0<O5 h (A3 kt 0):=by
  show 0<j9 h.1 (A3 kt 0)
  have hl:0<h.1.length:=by rw [gh.lt]; omega
  rw [Y0 gh.lt (by omega),List.getD_eq_getElem?_getD,List.getElem?_eq_getElem hl];have:=(gh.t _ (List.getElem_mem hl)).1
  show 0<h.1[0]
  omega
 have lu:(A3 kt 0).length=kt:=by unfold A3; simp
 have pad:∀ (g:h8) (k:Int),O5 g (List.zipWith (·+·) (pt.map λ x=>x*k) (A3 kt 0))=O5 g pt*k+O5 g (A3 kt 0):=λ g k=>by
  show j9 g.1 _=_
  rw [a0u (by rw [List.length_map,P.lt,lu])]
  congr 1
  exact X8 g pt k
 refine a2O (hs':=hs') (pt:=List.zipWith (·+·) (pt.map λ x=>x*O5 h (A3 kt 0)) (A3 kt 0)) (pg:=pg.map λ x=>x*O5 h (A3 kt 0)) (ps:=ps*O5 h (A3 kt 0)) hG hm ⟨by simp [P.lt,lu],by rw [List.length_map]; exact P.lg,λ x hx=>?_,a0x P.gn (Int.le_of_lt p1),a1K P.sign (Int.le_of_lt p1),λ g hg=>?_⟩ (λ g hg=>?_) ?_ ?_
 ·obtain ⟨j,hj⟩:=List.getElem?_of_mem hx
  rw [List.getElem?_zipWith] at hj
  split at hj
  ·rename_i a b e1 e2
   have:=a0x P.tn (Int.le_of_lt p1) a (List.mem_of_getElem? e1);have:0<=b:=by
    have:=List.mem_of_getElem? e2;unfold A3 at this;obtain ⟨k,_,rfl⟩:=List.mem_map.mp this
    split <;> decide
   cases hj;omega
  ·cases hj
 ·rw [pad,U6]
  have:=Int.mul_le_mul_of_nonneg_right (P.fair g hg) (Int.le_of_lt p1);have:=one g (h1 g hg);omega
 ·exact h2 g hg
 ·rw [pad]; have:=Int.mul_nonneg pn (Int.le_of_lt p1); omega
 ·rw [pad,U6]
  have e1:(1:Int)<=E4 h pg ps:=e0;have:=Int.mul_le_mul_of_nonneg_right e1 (Int.le_of_lt p1);have z0:O5 h pt=0:=by omega
  rw [z0]; omega
end
theorem O9 {X:Cx} {l:List Stmt}:PSs X l λ _ _ _=>False:=λ _ _ _ _ _ _ h=>h.elim
structure ShU (z:Str) (hs:List h8) (h:h8) (kt kg:Nat) (A B:Int):Prop where
 s:IsShare z hs h kt kg A B
 a:Big 20000 A
 p:0<A
 b:0<B
 c:B<2 ^ 8000
theorem Best.u {z:Str} {hs:List h8} {h:h8} {kt kg:Nat} {S:Lp.Bo} {far:Int} (hz:R7 z) (B:Best z hs h S) (hG:∀ g∈hs,HG far kt kg g) (gh:HG far kt kg h) (kt1:1<=kt) (kt4:kt<=20) (kg4:kg<=20):ShU z hs h kt kg (S.T (mE hs) (qE z h)) S.d:=by
 have T:=a6K hz B hG gh kt1 kt4 kg4;obtain ⟨b1,b2⟩:=a7q B;exact ⟨B.is hz hG gh kt1 kt4 kg4,(B.2.2.1 _ _ (by omega) (by omega)).mono (by decide),T.pos,b1,b2⟩
theorem ShU.fr {z:Str} {hs:List h8} {h:h8} {kt kg:Nat} {A B A' B':Int} {far:Int} (hz:R7 z) (x:ShU z hs h kt kg A B) (y:IsShare z hs h kt kg A' B') (hG:∀ g∈hs,HG far kt kg g) (gh:HG far kt kg h):Fr.low A B=Fr.low A' B' :=
 a2t x.b y.1 (x.s.eq hz y (λ g hg=>⟨(hG g hg).lt,(hG g hg).lg⟩) gh.lt gh.lg)
def P9 {α:Type} (l:List α) (i:Nat):List α:=l.take i++l.drop (i+1)
theorem W2 {α:Type} {l:List α} {i:Nat} {g:α} (h:g∈P9 l i):g∈l:=by
 rcases List.mem_append.mp h with h | h
 ·exact List.mem_of_mem_take h
 ·exact List.mem_of_mem_drop h
theorem b1x {α:Type} {l:List α} {i:Nat} {g x:α} (hx:l[i]?=some x) (h:g∈l):g=x\/g∈P9 l i:=by
 obtain ⟨hi,e⟩:=List.getElem?_eq_some_iff.mp hx;have:l=l.take i++x::l.drop (i+1):=by rw [<- e,List.getElem_cons_drop hi,List.take_append_drop]
 rw [this] at h;rcases List.mem_append.mp h with h | h
 ·exact .inr (List.mem_append_left _ h)
 ·rcases List.mem_cons.mp h with h | h
  ·exact .inl h
  ·exact .inr (List.mem_append_right _ h)
theorem a9M {α:Type} {l:List α} {i:Nat}:(P9 l i).length<=l.length:=by unfold P9; simp; omega
theorem Paired.take {α β:Type} {F:α->β->Prop}:∀ {l₁:List α} {l₂:List β} (i:Nat),PySem.Paired F l₁ l₂->PySem.Paired F (l₁.take i) (l₂.take i)
 | _,_,0,_=>.nil
 | _,_,_+1,.nil=>.nil
 | _,_,i+1,.cons r t=>.cons r (Paired.take i t)
theorem Paired.drop {α β:Type} {F:α->β->Prop}:∀ {l₁:List α} {l₂:List β} (i:Nat),PySem.Paired F l₁ l₂->PySem.Paired F (l₁.drop i) (l₂.drop i)
 | _,_,0,h=>h
 | _,_,_+1,.nil=>.nil
 | _,_,i+1,.cons _ t=>Paired.drop i t
theorem Paired.app {α β:Type} {F:α->β->Prop}:∀ {l₁ m₁:List α} {l₂ m₂:List β},PySem.Paired F l₁ l₂->PySem.Paired F m₁ m₂->PySem.Paired F (l₁++m₁) (l₂++m₂)
 | _,_,_,_,.nil,h=>h
 | _,_,_,_,.cons r t,h=>.cons r (Paired.app t h)
theorem Bk.out {K:W.Frag} {H:Hp} {xs:List V} {hs:List h8} (i:Nat) (B:Bk K H xs hs):Bk K H (P9 xs i) (P9 hs i):=Paired.app (Paired.take i B) (Paired.drop (i+1) B)
section
variable {P:Program} {w:World} {K:W.Frag} {mg:Str->Option Value} {base:Heap} {f Pt d CN CB:Addr} {fd:FuncData} {n:Nat} {C:Addr}
def b0x (K:W.Frag) (Pt:Addr):Sp:=λ vs H Q _=>∃ (ba:Addr) (hv:V) (xs:List V) (hs:List h8) (h:h8) (z:Str) (far:Int) (kt kg:Nat),vs=[.ref ba,hv,.str z]/\R7 z/\D4 K H ba xs hs far kt kg/\1<=kt/\HS K H hv h/\HG far kt kg h/\LT Pt H ∧
 (∀ (A B:Int) (H':Hp) (u:V),ShU z hs h kt kg A B->Same1 Pt H H'->LT Pt H'->FrT H' u (low A B)->Q u H')/\∀ H':Hp,IsNone z hs h kt kg->Same1 Pt H H'->LT Pt H'->Q .non H'
theorem a8O (F:FnOk P w K mg base G5 n f fd ["houses","house","sizes"] (a3w K Pt)):FnOk P w K mg base G5 n f fd ["houses","house","sizes"] (b0x K Pt):=F.imp λ vs H Q E h=>by
 obtain ⟨ba,hv,xs,hs,h,z,far,kt,kg,rfl,hz,B,kt1,hH,gh,L,kG,kN⟩:=h;exact ⟨ba,hv,xs,hs,h,z,far,kt,kg,rfl,hz,B,hH,gh,L,λ S H' u Bs e L' hu=>kG _ _ H' u (Bs.u hz B.g gh kt1 B.t B.k) e L' hu,λ S H' c O hc hneg hno e L'=>kN H' (none_of hz O hc hneg hno B.g gh) e L'⟩
def a9s (K:W.Frag) (CN Pt:Addr):Sp:=λ vs H Q E=>∃ (ba:Addr) (xs:List V) (hs:List h8) (number:Int) (z:Str) (far:Int) (kt kg:Nat),vs=[.ref ba,.int number,.str z]/\R7 z/\D4 K H ba xs hs far kt kg/\1<=kt/\number.natAbs.log2<1920/\LT Pt H ∧
 (∀ (i:Nat) (h:h8) (A B:Int) (H':Hp) (u:V),number=(i:Int)->hs[i]?=some h->ShU z hs h kt kg A B->Same1 Pt H H'->LT Pt H'->FrT H' u (low A B)->Q u H')/\(¬ a1S xs.length number->E (.ref CN) none H)
theorem a0M (F:FnOk P w K mg base (CX1 P w) n f fd ["book","number","sizes"] (a1x K CN Pt)):FnOk P w K mg base (CX1 P w) n f fd ["book","number","sizes"] (a9s K CN Pt):=F.imp λ vs H Q E h=>by
 obtain ⟨ba,xs,hs,number,z,far,kt,kg,rfl,hz,B,kt1,lm,L,kG,kE⟩:=h;exact ⟨ba,xs,hs,number,z,far,kt,kg,rfl,hz,B,lm,L,λ i h S H' u hi hh Bs e L' hu=>kG i h _ _ H' u hi hh (Bs.u hz B.g (B.g h (List.mem_of_getElem? hh)) kt1 B.t B.k) e L' hu,kE⟩
def a2W (K:W.Frag) (CN:Addr):Sp:=λ vs H Q E=>∃ (a:Addr) (xs:List V) (m:Int),vs=[.ref a,.int m]/\SqL K H a xs/\xs.length<=1000/\m.natAbs.log2<1920 ∧
 (∀ (i:Nat) (l:Addr) (H':Hp),m=(i:Int)->i<xs.length->Same H H'->H l=none->H' l=some (.lst (P9 xs i))->Q (.ref l) H')/\(¬ a1S xs.length m->E (.ref CN) none H)
theorem b5t:m8 ["houses","number"] ["houses","number"] (i5 a2s):=⟨rfl,rfl,rfl,by decide +kernel,rfl,by decide +kernel,by decide +kernel⟩
theorem a5C {f1:Addr} {d1:FuncData} (F:Fun K "without" "without" a2s f fd) (Ch:a0R P w K mg base n "house_of" ["book","number"] (a2R K CN) f1 d1):FnOk P w K mg base (CX1 P w) (n+1) f fd ["houses","number"] (a2W K CN):=by
 refine F.ok1 b5t (λ vs H Q E h=>?_) (λ cdv A outer s H vs Q E hr h=>?_)
 ·obtain ⟨a,xs,m,rfl,_⟩:=h
  rfl
 obtain ⟨a,xs,m,rfl,hS,hl,hm,q,hE⟩:=h;refine ⟨_,i4 (Q8 (j5 Ch.ok hr rfl Ch.m Ch.k Ch.b .nil a1n (c5 (pv 0) (c5 (pv 1) c6))))
  (PSs.nox (i6 (r9 (i8 D0 (S8 Y3 (pv 0) a0H (T7 (pv 1))) (S8 Y3 (pv 0) (T7 (i8 C3 (pv 1) i3)) a0H))))),?_⟩
 refine ⟨_,rfl,_,rfl,a,xs,m,rfl,hS,hm,λ i x hi hx=>?_,hE⟩;subst hi;have hil:=(List.getElem?_eq_some_iff.mp hx).1;refine ⟨_,rfl,_,rfl,_,rfl,a,_,rfl,hS,λ a1 h1=>?_⟩;rw [a5p _ _ (by omega)];have s1:=Same.new h1 (.lst (xs.take i));refine ⟨_,rfl,_,rfl,_,_,rfl,rfl,_,rfl,a,_,rfl,s1.seq hS,λ a2 h2=>?_⟩;rw [show ((i:Int)+1)=((i+1:Nat):Int) by omega,a4o _ _ (by omega)];have s2:=Same.new h2 (.lst (xs.drop (i+1)));refine ⟨a1,a2,_,_,rfl,rfl,s2 _ _ upd_same,upd_same,?_,λ p hp=>?_⟩
 ·have:=j7 (show (1000:Nat)<=1000 from Nat.le_refl _)
  simp; omega
 have s3:=Same.new hp (.lst (xs.take i++xs.drop (i+1)));refine q i p _ rfl hil ((s1.trans s2).trans s3) ?_ upd_same
 cases e:H p with
 | none=>rfl
 | some o=>rw [s2 _ _ (s1 _ _ e)] at hp; cases hp
def a0A (K:W.Frag) (CN Pt:Addr):Sp:=λ vs H Q E=>∃ (ba:Addr) (xs:List V) (hs:List h8) (number:Int) (z:Str) (far:Int) (kt kg:Nat),vs=[.ref ba,.int number,.str z]/\R7 z/\D4 K H ba xs hs far kt kg/\1<=kt/\number.natAbs.log2<1920/\LT Pt H ∧
 (∀ (i:Nat) (h:h8) (A B:Int) (H':Hp) (u:V),number=(i:Int)->hs[i]?=some h->ShU z (P9 hs i) h kt kg A B->Same1 Pt H H'->LT Pt H'->FrT H' u (low A B)->Q u H') ∧
 (∀ (i:Nat) (h:h8) (H':Hp),number=(i:Int)->hs[i]?=some h->IsNone z (P9 hs i) h kt kg->Same1 Pt H H'->LT Pt H'->Q .non H')/\(¬ a1S xs.length number->E (.ref CN) none H)
theorem scOt:m8 ["book","number","sizes","house"] ["book","number","sizes"] (i5 a3q):=⟨rfl,rfl,rfl,by decide +kernel,rfl,by decide +kernel,by decide +kernel⟩
theorem a7Y {f1 f2 f3:Addr} {d1 d2 d3:FuncData} (F:Fun K "share_of_others" "share_of_others" a3q f fd) (Ch:a0R P w K mg base n "house_of" ["book","number"] (a2R K CN) f1 d1) (Cw:a0R P w K mg base n "without" ["houses","number"] (a2W K CN) f2 d2)
  (Ce:W5 P w K mg base n "held_against" ["houses","house","sizes"] (a3w K Pt) f3 d3):FnOk P w K mg base (CX1 P w) (n+1) f fd ["book","number","sizes"] (a0A K CN Pt):=by
 have Ce':=a8O Ce.ok;refine F.ok1 scOt (λ vs H Q E h=>?_) (λ cdv A outer s H vs Q E hr h=>?_)
 ·obtain ⟨ba,xs,hs,number,z,far,kt,kg,rfl,_⟩:=h
  rfl
 obtain ⟨ba,xs,hs,number,z,far,kt,kg,rfl,hz,B,kt1,lm,L,kG,kN,kE⟩:=h;refine ⟨_,i4 (j4 (i:=3) scOt.nd rfl (Or.inl rfl) (j5 Ch.ok hr rfl Ch.m Ch.k Ch.b .nil a1n (c5 (pv 0) (c5 (pv 1) c6))))
  (i6 (r9 (j5 Ce' hr rfl Ce.m Ce.k Ce.b .nil w4 (c5 (j5 Cw.ok hr rfl Cw.m Cw.k Cw.b .nil a1n (c5 (pv 0) (c5 (pv 1) c6))) (c5 (pv 3) (c5 (pv 2) c6)))))),?_⟩
 have xl:xs.length=hs.length:=Paired.length B.b;have few:=B.few;refine ⟨_,rfl,_,rfl,ba,xs,number,rfl,B.l,lm,λ i hv hi hx=>?_,kE⟩;obtain ⟨h,hh,hH⟩:=Paired.at B.b hx;have gh:=B.g h (List.mem_of_getElem? hh);have hil:=(List.getElem?_eq_some_iff.mp hx).1;refine ⟨_,rfl,_,rfl,ba,xs,number,rfl,B.l,by omega,lm,λ i' l H1 hi' _ e1 hl hl'=>?_,λ bad=>absurd ⟨by omega,by omega⟩ bad⟩;have:i'=i:=by omega
 subst this;have L1:=L.same e1;refine ⟨_,rfl,_,rfl,l,hv,_,P9 hs i',h,z,far,kt,kg,rfl,hz,⟨SqL.of hl',Bk.same e1 (B.b.out i'),λ g hg=>B.g g (W2 hg),B.far,Nat.le_trans a9M few,B.t,B.k⟩,kt1,hH.same e1,gh,L1,λ A B H' u x e' L' hu=>kG i' h A B H' u hi hh x (e1.to1.trans e') L' hu,λ H' x e' L'=>kN i' h H' hi hh x (e1.to1.trans e') L'⟩
end
theorem b2i (x y:Q2):PyData.eqv (dF x) (dF y)=decide (x=y):=by
 unfold dF;rw [PyData.eqv,PyData.eqvAll,PyData.eqvAll,PyData.eqvAll,PyData.eqv,PyData.eqv,Bool.and_true];obtain ⟨a,b⟩:=x;obtain ⟨c,d⟩:=y
 by_cases h1:a=c
 ·by_cases h2:b=d
  ·subst h1 h2; simp
  ·simp [h1,h2]
 ·simp [h1]
theorem FrT.to1 {Pt:Addr} {H H':Hp} {v:V} {x:Q2} (L:LT Pt H) (e:Same1 Pt H H') (h:FrT H v x):FrT H' v x:=by
 obtain ⟨a,rfl,ha⟩:=h;exact ⟨a,rfl,e.get L ha nofun⟩
theorem ShU.bigs {z:Str} {hs:List h8} {h:h8} {kt kg:Nat} {A B:Int} (x:ShU z hs h kt kg A B):Big 1000000 (low A B).1/\Big 1000000 (low A B).2 :=
 ⟨(a7m x.b x.a).mono (by decide),(Y5 (n:=8000) (Int.le_of_lt (Z0 x.b)) (Int.lt_of_le_of_lt (a5U x.b) x.c)).mono (by decide)⟩
structure GrU (z:Str) (hs:List h8) (h:h8) (kt kg:Nat) (A B:Int):Prop where
 s:b3H z hs h kt kg A B
 a:Big 20000 A
 p:0<A
 b:0<B
 c:B<2 ^ 8000
section
variable {P:Program} {w:World} {K:W.Frag} {mg:Str->Option Value} {base:Heap} {f Pt d CN CB:Addr} {fd:FuncData} {n:Nat} {C:Addr}
end
section
variable {z:Str} {hs hs':List h8} {h h':h8} {kt kg kt' kg':Nat} {far:Int} {A B A' B':Int}
end
structure Mea (kt kg:Nat) (pt pg:Nat->Nat) (ct cg:Nat->Int):Prop where
 t:∀ j,j<kt->pt j<kt/\0<ct j
 g:∀ j,j<kg->pg j<kg/\0<cg j
 bt:∀ j,j<kt->∃ i,i<kt/\pt i=j
 bg:∀ j,j<kg->∃ i,i<kg/\pg i=j
def N5 (kt kg:Nat) (pt pg:Nat->Nat) (ct cg:Nat->Int) (g g':h8):Prop:=(∀ j,j<kt->g'.1.getD j 0=g.1.getD (pt j) 0*ct j)/\∀ j,j<kg->g'.2.getD j 0=g.2.getD (pg j) 0*cg j
section
variable {z:Str} {hs hs':List h8} {h h':h8} {kt kg:Nat} {pt pg:Nat->Nat} {ct cg:Nat->Int} {A B:Int}
theorem a5y (c:Int):∀ (l p:List Int),j9 (l.map (·*c)) p=j9 l p*c
 | [],p=>by simp [j9]
 | a::r,[]=>by simp [j9]
 | a::r,b::p=>by
  have ih:=a5y c r p;simp only [j9,List.map_cons,List.zipWith_cons_cons,List.sum_cons] at ih ⊢;rw [ih,Int.add_mul,Int.mul_assoc,Int.mul_comm c b,<- Int.mul_assoc]
theorem Mea.col (e:PySem.Paired (N5 kt kg pt pg ct cg) hs hs') (ws:List Int):(∀ j,j<kt->A5 hs' ws 0 j=A5 hs ws 0 (pt j)*ct j)/\∀ j,j<kg->A5 hs' ws 1 j=A5 hs ws 1 (pg j)*cg j:=by
 have m:∀ {l l':List h8},PySem.Paired (N5 kt kg pt pg ct cg) l l'->(∀ j,j<kt->l'.map (λ g=>g.1.getD j 0)=(l.map λ g=>g.1.getD (pt j) 0).map (·*ct j))/\∀ j,j<kg->l'.map (λ g=>g.2.getD j 0)=(l.map λ g=>g.2.getD (pg j) 0).map (·*cg j):=λ x=>by
  induction x with
  | nil=>exact ⟨λ _ _=>rfl,λ _ _=>rfl⟩
  | cons r _ ih=>exact ⟨λ j hj=>by rw [List.map_cons,List.map_cons,List.map_cons,r.1 j hj,ih.1 j hj],λ j hj=>by rw [List.map_cons,List.map_cons,List.map_cons,r.2 j hj,ih.2 j hj]⟩
 refine ⟨λ j hj=>?_,λ j hj=>?_⟩
 ·rw [G6,G6]
  refine Eq.trans (congrArg (j9 · ws) ((m e).1 j hj)) ?_;exact a5y _ _ _
 ·rw [G6,G6]
  refine Eq.trans (congrArg (j9 · ws) ((m e).2 j hj)) ?_;exact a5y _ _ _
theorem Shr.mea {ws:List Int} {D:Int} (M:Mea kt kg pt pg ct cg) (S:Shr z hs h kt kg A B ws D) (e:PySem.Paired (N5 kt kg pt pg ct cg) hs hs') (x:N5 kt kg pt pg ct cg h h'):Shr z hs' h' kt kg A B ws D:=by
 obtain ⟨c1,c2⟩:=Mea.col e ws;refine ⟨⟨S.m.lw.trans (Paired.length e),S.m.nn,S.m.d,S.m.size⟩,λ j hj=>?_,λ j hj=>?_⟩
 ·rw [c1 j hj,x.1 j hj]
  have:=Int.mul_le_mul_of_nonneg_right (S.t (pt j) (M.t j hj).1) (Int.le_of_lt (M.t j hj).2);rw [Int.mul_right_comm,Int.mul_right_comm (h.1.getD (pt j) 0),Int.mul_right_comm (h.1.getD (pt j) 0*A)];exact this
 ·rw [c2 j hj,x.2 j hj,Int.mul_right_comm]
  exact Int.mul_le_mul_of_nonneg_right (S.g (pg j) (M.g j hj).1) (Int.le_of_lt (M.g j hj).2)
theorem Shr.back {ws:List Int} {D:Int} (M:Mea kt kg pt pg ct cg) (S:Shr z hs' h' kt kg A B ws D) (e:PySem.Paired (N5 kt kg pt pg ct cg) hs hs') (x:N5 kt kg pt pg ct cg h h'):Shr z hs h kt kg A B ws D:=by
 obtain ⟨c1,c2⟩:=Mea.col e ws;refine ⟨⟨S.m.lw.trans (Paired.length e).symm,S.m.nn,S.m.d,S.m.size⟩,λ j hj=>?_,λ j hj=>?_⟩
 ·obtain ⟨i,hi,rfl⟩:=M.bt j hj
  have:=S.t i hi;rw [c1 i hi,x.1 i hi,Int.mul_right_comm,Int.mul_right_comm (h.1.getD (pt i) 0),Int.mul_right_comm (h.1.getD (pt i) 0*A)] at this;exact Int.le_of_mul_le_mul_right this (M.t i hi).2
 ·obtain ⟨i,hi,rfl⟩:=M.bg j hj
  have:=S.g i hi;rw [c2 i hi,x.2 i hi,Int.mul_right_comm] at this;exact Int.le_of_mul_le_mul_right this (M.g i hi).2
theorem a2L {A' B' far far':Int} (hz:R7 z) (M:Mea kt kg pt pg ct cg) (e:PySem.Paired (N5 kt kg pt pg ct cg) hs hs') (x:N5 kt kg pt pg ct cg h h') (I:IsShare z hs h kt kg A B) (J:IsShare z hs' h' kt kg A' B') (hG:∀ g∈hs,HG far kt kg g) (gh:HG far kt kg h) (hG':∀ g∈hs',HG far' kt kg g) (gh':HG far' kt kg h'):low A B=low A' B':=by
 have l1:A*B'<=A'*B:=by
  obtain ⟨b,⟨ws,D,S⟩,_⟩:=id J;exact I.le hz (λ g hg=>⟨(hG g hg).lt,(hG g hg).lg⟩) gh.lt gh.lg b (S.back M e x)
 have l2:A'*B<=A*B':=by
  obtain ⟨b,⟨ws,D,S⟩,_⟩:=id I;exact J.le hz (λ g hg=>⟨(hG' g hg).lt,(hG' g hg).lg⟩) gh'.lt gh'.lg b (S.mea M e x)
 exact a2t I.1 J.1 (by omega)
end
structure Beat (z:Str) (hs:List h8) (h:h8) (kt kg:Nat) (ws:List Int) (v:Int):Prop where
 m:Mx z hs ws v
 t:∀ j,j<kt->A5 hs ws 0 j<=h.1.getD j 0*v
 g:∀ j,j<kg->h.2.getD j 0*v<=A5 hs ws 1 j
 s:h.2.sum*v - h.1.sum*v<j9 (hs.map λ g=>g.2.sum - g.1.sum) ws
theorem a5n {m q:Nat} {S:Lp.Bo}:C6 (m+2) q S=(C6 (m+2) q S).take m++[(C6 (m+2) q S).getD m 0,(C6 (m+2) q S).getD (m+1) 0]:=by
 have l:(C6 (m+2) q S).length=m+2:=by unfold C6; simp
 refine List.ext_getElem? λ i=>?_
 by_cases h:i<m
 ·rw [List.getElem?_append_left (by rw [List.length_take]; omega),List.getElem?_take_of_lt h]
 ·rw [List.getElem?_append_right (by rw [List.length_take]; omega),List.length_take,Nat.min_eq_left (by omega)]
  by_cases h1:i=m
  ·subst h1
   rw [Nat.sub_self,List.getD_eq_getElem?_getD,List.getElem?_eq_getElem (by omega)]; rfl
  ·by_cases h2:i=m+1
   ·subst h2
    rw [show m+1 - m=1 by omega,List.getD_eq_getElem?_getD (i:=m+1),List.getElem?_eq_getElem (by omega)]; rfl
   ·rw [List.getElem?_eq_none (by omega),List.getElem?_eq_none (by simp; omega)]
section
variable {z:Str} {hs:List h8} {h:h8} {kt kg i:Nat} {S:Lp.Bo} {far:Int}
theorem b2U {z:Str} (hk:∀ g∈hs,g.1.length=kt/\g.2.length=kg) {j:Nat} (hj:j<kt+kg+(E7 z).length):col (hs.map (F0 z)) j=col (hs.map (t8 z)) j:=by
 unfold col;rw [List.map_map,List.map_map];refine List.map_congr_left λ g hg=>?_
 show (F0 z g).getD j 0=(t8 z g).getD j 0
 unfold F0;rw [x8,if_pos];have:=hk g hg;unfold t8;simp;omega
theorem a3c {g:h8} (h1:g.1.length=kt) (h2:g.2.length=kg):(F0 z g).getD (kt+kg+(E7 z).length) 0=g.2.sum - g.1.sum:=by
 have l:(t8 z g).length=kt+kg+(E7 z).length:=by unfold t8; simp [h1,h2]; omega
 unfold F0;rw [x8,if_neg (by omega),l,Nat.sub_self]; rfl
theorem a6u {a b:List Int} {x y p q:Int} (h:a.length=b.length):j9 (a++[x,y]) (b++[p,q])=j9 a b+x*p+y*q:=by
 have:j9 (a++[x,y]) (b++[p,q])=j9 ((a++[x])++[y]) ((b++[p])++[q]):=by simp
 rw [this,S6 (by simp [h]),S6 h]
theorem a3E (hz:R7 z) (B:a2S z hs h S) (hG:∀ g∈hs,HG far kt kg g) (hh:hs[i]?=some h) (kt1:1<=kt) (h0:¬ 0<S.T (mF hs) (qF z h)) :
  Beat z hs h kt kg ((C6 (mF hs) (qF z h) S).take hs.length) ((C6 (mF hs) (qF z h) S).getD hs.length 0):=by
 obtain ⟨O,hn,sz⟩:=B;have hk:∀ g∈hs,g.1.length=kt/\g.2.length=kg:=λ g hg=>⟨(hG g hg).lt,(hG g hg).lg⟩;have gh:=hG h (List.mem_of_getElem? hh);have hm:mF hs=hs.length+2:=rfl;have hsp:=a5n (m:=hs.length) (q:=qF z h) (S:=S);have nn:=a9R (m:=mF hs) (q:=qF z h) hn;have pos:=O.w.pos;have lr:(C9 z hs h).length=mF hs:=by unfold C9; simp
 have lb:(R4 hs).length=mF hs:=by unfold R4; simp
 have lw:(C6 (mF hs) (qF z h) S).length=mF hs:=by unfold C6; simp
 have hq:qF z h=kt+kg+(E7 z).length+1:=by show h.1.length+h.2.length+_+1=_; rw [gh.lt,gh.lg]
 change C6 (mF hs) (qF z h) S=_ at hsp
 have bd:=a6k O lb;have cd:=λ j hj=>a1s O hn lr (j:=j) hj;generalize hW:C6 (mF hs) (qF z h) S=W at *;generalize hws:W.take hs.length=ws at *;generalize hv:W.getD hs.length 0=v at *;generalize hu:W.getD (hs.length+1) 0=u at *;have lws:ws.length=hs.length:=by rw [<- hws,List.length_take,lw]; omega
 have wnn:∀ x∈ws,0<=x:=λ x hx=>nn x (by rw [hsp]; exact List.mem_append_left _ hx);have vnn:0<=v:=nn v (by rw [hsp]; exact List.mem_append_right _ (.head _));have unn:0<=u:=nn u (by rw [hsp]; exact List.mem_append_right _ (.tail _ (.head _)));have u0:u=0:=by
  rw [hsp] at bd;unfold R4 at bd;rw [a6u (by rw [List.length_replicate]; exact lws.symm),Q6] at bd;omega
 have colA:∀ j,j9 (col (C9 z hs h) j) W=j9 (col (hs.map (F0 z)) j) ws - (F0 z h).getD j 0*v:=λ j=>by
  rw [hsp];have:col (C9 z hs h) j=col (hs.map (F0 z)) j++[-(F0 z h).getD j 0,(C5 z h).getD j 0]:=by
   unfold C9 col;rw [List.map_append]
   congr 1
   show [((F0 z h).map λ x=>-x).getD j 0,(C5 z h).getD j 0]=_
   rw [a0v]
  rw [this,a6u (by unfold col; rw [List.length_map,List.length_map,lws]),u0,Int.neg_mul];omega
 have rowj:∀ j,j<kt+kg+(E7 z).length->(F0 z h).getD j 0=(t8 z h).getD j 0:=λ j hj=>by
  unfold F0;rw [x8,if_pos];unfold t8;simp [gh.lt,gh.lg];omega
 have gj:∀ j,j<kt+kg+(E7 z).length->(C5 z h).getD j 0=0:=λ j hj=>by
  unfold C5;rw [x8,List.length_replicate,if_pos (by rw [gh.lt,gh.lg]; omega),N4]
 have tk:∀ j,j<kt->A5 hs ws 0 j<=h.1.getD j 0*v:=λ j hj=>by
  have:=cd j (by omega);rw [colA,b2U hk (by omega),a2H hk ws hj,rowj j (by omega)] at this;have e:(E9 (C5 z h)) j=0:=gj j (by omega);have e2:(t8 z h).getD j 0 = - h.1.getD j 0:=by
   unfold t8;rw [U9,List.length_map,if_pos (by rw [gh.lt]; omega),a0v]
  rw [e2,Int.neg_mul] at this;rw [gj j (by omega)] at this;omega
 have gv:∀ j,j<kg->h.2.getD j 0*v<=A5 hs ws 1 j:=λ j hj=>by
  have:=cd (kt+j) (by omega);rw [colA,b2U hk (by omega),a3b hk ws hj,rowj _ (by omega)] at this;have e2:(t8 z h).getD (kt+j) 0=h.2.getD j 0:=by
   unfold t8;rw [U9,List.length_map,if_neg (by rw [gh.lt]; omega),if_pos (by rw [gh.lt,gh.lg]; omega),gh.lt,Nat.add_sub_cancel_left]
  rw [e2,gj _ (by omega)] at this;omega
 have szc:∀ t,t<(E7 z).length->(E7 z).getD t 0*v<=(E7 z).getD t 0*ws.sum:=λ t ht=>by
  have:=cd (kt+kg+t) (by omega);rw [colA,b2U hk (by omega),a4q hk lws.symm t,rowj _ (by omega)] at this;have e2:(t8 z h).getD (kt+kg+t) 0=(E7 z).getD t 0:=by
   unfold t8;rw [U9,List.length_map,if_neg (by rw [gh.lt]; omega),if_neg (by rw [gh.lt,gh.lg]; omega),gh.lt,gh.lg,Nat.add_sub_cancel_left]
  rw [e2,gj _ (by omega)] at this;omega
 have fl:h.2.sum*v - h.1.sum*v+S.d<=j9 (hs.map λ g=>g.2.sum - g.1.sum) ws:=by
  have:=cd (kt+kg+(E7 z).length) (by omega);have e1:col (hs.map (F0 z)) (kt+kg+(E7 z).length)=hs.map λ g=>g.2.sum - g.1.sum:=by
   unfold col;rw [List.map_map];exact List.map_congr_left λ g hg=>a3c (hk g hg).1 (hk g hg).2
  have e3:(C5 z h).getD (kt+kg+(E7 z).length) 0=1:=by
   unfold C5;rw [x8,List.length_replicate,gh.lt,gh.lg,if_neg (by omega),Nat.sub_self]; rfl
  rw [colA,e1,a3c gh.lt gh.lg,e3,Int.sub_mul] at this;omega
 have vp:0<v:=by
  rcases Int.lt_or_le 0 v with c | c
  ·exact c
  ·have v0:v=0:=by omega
   subst v0;have t0:=tk 0 (by omega);rw [Int.mul_zero,G6] at t0;have:∀ f:List Int,j9 f ws=0:=λ f=>X5 f (l:=hs.map λ g=>(S1 0 g).getD 0 0) (p:=ws) (by rw [List.length_map,lws]) (λ x hx=>by
    obtain ⟨g,hg,rfl⟩:=List.mem_map.mp hx;have hl:0<g.1.length:=by rw [(hk g hg).1]; omega
    show 1<=g.1.getD 0 0
    rw [List.getD_eq_getElem?_getD,List.getElem?_eq_getElem hl];exact ((hG g hg).t _ (List.getElem_mem hl)).1) wnn t0
   rw [this] at fl;omega
 have size:a1Z z ws.sum v:=by
  rcases hz with rfl | rfl | rfl | rfl
  ·exact ⟨λ h=>absurd h (by decide),λ h=>absurd h (by decide)⟩
  ·have s0:(1:Int)*v<=1*ws.sum:=szc 0 (by decide)
   have s1:(-1:Int)*v <= -1*ws.sum:=szc 1 (by decide);exact ⟨λ _=>by omega,λ _=>by omega⟩
  ·have s1:(-1:Int)*v <= -1*ws.sum:=szc 0 (by decide)
   exact ⟨λ _=>by omega,λ h=>absurd h (by decide)⟩
  ·have s0:(1:Int)*v<=1*ws.sum:=szc 0 (by decide)
   exact ⟨λ h=>absurd h (by decide),λ _=>by omega⟩
 exact ⟨⟨lws,wnn,vp,size⟩,tk,gv,by omega⟩
end
theorem a0Y {α:Type} (f:α->Nat):∀ {l:List α},l≠[]->∃ x∈l,∀ y∈l,f x<=f y
 | [],h=>absurd rfl h
 | [a],_=>⟨a,.head _,λ y hy=>by rw [List.mem_singleton.mp hy]; exact Nat.le_refl _⟩
 | a::b::r,_=>by
  obtain ⟨x,hx,hl⟩:=a0Y f (l:=b::r) (by simp);rcases Nat.le_total (f a) (f x) with c | c
  ·exact ⟨a,.head _,λ y hy=>by
    rcases List.mem_cons.mp hy with rfl | hy
    ·exact Nat.le_refl _
    ·exact Nat.le_trans c (hl y hy)⟩
  ·exact ⟨x,.tail _ hx,λ y hy=>by
    rcases List.mem_cons.mp hy with rfl | hy
    ·exact c
    ·exact hl y hy⟩
theorem b1k {m q:Nat} {S:Lp.Bo} (h:¬ ∃ r c,Lp.Choice m q S r c):(∀ j,j<q->¬ S.T m j<0)\/∃ c,c<q/\S.T m c<0/\∀ i,i<m->¬ 0<S.T i c:=by
 by_cases h1:∀ j,j<q->¬ S.T m j<0
 ·exact .inl h1
 right
 obtain ⟨j0,hj0,hn0⟩:∃ j,j<q/\S.T m j<0:=by
  apply Classical.byContradiction;intro z;exact h1 λ j hj hn=>z ⟨j,hj,hn⟩
 obtain ⟨c,hcm,hcl⟩:=a0Y (λ j=>S.outs j) (l:=(List.range q).filter λ j=>decide (S.T m j<0)) (List.ne_nil_of_mem (List.mem_filter.mpr ⟨List.mem_range.mpr hj0,decide_eq_true hn0⟩));obtain ⟨hc,hn⟩:=List.mem_filter.mp hcm;refine ⟨c,List.mem_range.mp hc,of_decide_eq_true hn,λ i0 hi0 hp0=>h ?_⟩;have memL:∀ {i},i∈(List.range m).filter (λ i=>decide (0<S.T i c)) ↔ i<m/\0<S.T i c:=by
  intro i;rw [List.mem_filter,List.mem_range,decide_eq_true_eq]
 obtain ⟨r0,hr0,hl0⟩:=W3 (T:=λ i=>S.T i q) (G:=λ i=>S.T i c) (l:=(List.range m).filter λ i=>decide (0<S.T i c)) (List.ne_nil_of_mem (memL.mpr ⟨hi0,hp0⟩)) λ x hx=>(memL.mp hx).2;have memT:∀ {i},i∈((List.range m).filter λ i=>decide (0<S.T i c)).filter (λ i=>decide (S.T r0 q*S.T i c=S.T i q*S.T r0 c)) ↔ (i<m/\0<S.T i c)/\S.T r0 q*S.T i c=S.T i q*S.T r0 c:=by
  intro i;rw [List.mem_filter,memL,decide_eq_true_eq]
 obtain ⟨r,hr,hl⟩:=a0Y (λ i=>S.ins i) (l:=((List.range m).filter λ i=>decide (0<S.T i c)).filter λ i=>decide (S.T r0 q*S.T i c=S.T i q*S.T r0 c)) (List.ne_nil_of_mem (memT.mpr ⟨memL.mp hr0,rfl⟩));obtain ⟨⟨hrm,hrp⟩,hre⟩:=memT.mp hr;have h0p:=(memL.mp hr0).2;have ratio:∀ i,i<m->0<S.T i c->S.T r q*S.T i c<=S.T i q*S.T r c:=λ i hi hp=>by
  have a1:=hl0 i (memL.mpr ⟨hi,hp⟩);refine Int.le_of_mul_le_mul_right (a:=S.T r0 c) ?_ h0p;have b1:=Int.mul_le_mul_of_nonneg_right a1 (Int.le_of_lt hrp);have e1:S.T r q*S.T i c*S.T r0 c=S.T r q*S.T r0 c*S.T i c:=by ac_rfl
  have e2:S.T r0 q*S.T i c*S.T r c=S.T r0 q*S.T r c*S.T i c:=by ac_rfl
  have e3:S.T i q*S.T r c*S.T r0 c=S.T i q*S.T r0 c*S.T r c:=by ac_rfl
  rw [e1,<- hre,<- e2,e3];exact b1
 refine ⟨r,c,List.mem_range.mp hc,of_decide_eq_true hn,λ j hj hjn=>hcl j (List.mem_filter.mpr ⟨List.mem_range.mpr hj,decide_eq_true hjn⟩),hrm,hrp,ratio,λ i hi hp he=>hl i (memT.mpr ⟨⟨hi,hp⟩,?_⟩)⟩;have a1:=hl0 i (memL.mpr ⟨hi,hp⟩);have a2:S.T i q*S.T r0 c<=S.T r0 q*S.T i c:=by
  refine Int.le_of_mul_le_mul_right (a:=S.T r c) ?_ hrp;have e1:S.T i q*S.T r0 c*S.T r c=S.T i q*S.T r c*S.T r0 c:=by ac_rfl
  have e2:S.T r0 q*S.T i c*S.T r c=S.T r0 q*S.T r c*S.T i c:=by ac_rfl
  have e3:S.T r q*S.T i c*S.T r0 c=S.T r q*S.T r0 c*S.T i c:=by ac_rfl
  rw [e1,e2,<- he,e3,hre];exact Int.le_refl _
 exact Int.le_antisymm a1 a2
theorem a6G {m q:Nat} {A:Nat->Nat->Int} {b c:Nat->Int}:∀ {S:Lp.Bo} {k:Nat},Lp.Ends m q S k->Lp.Of m q A b c S->∃ S',Lp.Of m q A b c S'/\¬ ∃ r c,Lp.Choice m q S' r c
 | S,_,.stop h,O=>⟨S,O,h⟩
 | _,_,.go C e,O=>a6G e (O.piv C)
section
variable {z:Str} {hs:List h8} {h:h8} {kt kg i:Nat} {far:Int}
theorem b0n (i:Nat):0<=E9 (R4 hs) i:=by
 unfold E9 R4;rw [x8,List.length_replicate]
 split
 ·rw [N4]; exact Int.le_refl _
 ·match i - hs.length with
  | 0=>decide
  | 1=>decide
  | k+2=>show (0:Int)<=([]:List Int).getD k 0; simp
theorem b0F (hG:∀ g∈hs,HG far kt kg g) (hf:far<=2 ^ 50) (hm:h∈hs) (few:hs.length<=16) (k1:kt<=20) (k2:kg<=20):∃ S,a2S z hs h S:=by
 have gh:=hG h hm;have hM:=b1Q (z:=z) (hs:=hs) gh hG hf k1 k2 (qF z h);have O0:OfF z hs h _:=Lp.of0 (A:=S4 (C9 z hs h)) (c:=E9 (C5 z h)) (q:=qF z h) λ i _=>b0n i;obtain ⟨k,hk⟩:=O0.w.ends hM;obtain ⟨S,O,hst⟩:=a6G hk O0;have sz:=b1V O hM (a8m (hs.length+2) (by omega));rcases b1k hst with hn | ⟨c,hc,hneg,hno⟩
 ·exact ⟨S,O,hn,sz⟩
 ·exact (O.bounded1 (l:=hs.length+1) (by show hs.length+1<hs.length+2; omega) (λ j _=>a2r j) hc hneg hno).elim
theorem a9i (hz:R7 z) (hG:∀ g∈hs,HG far kt kg g) (hf:far<=2 ^ 50) (hm:h∈hs) (few:hs.length<=16) (kt1:1<=kt) (k1:kt<=20) (k2:kg<=20):W6 z hs h\/∃ ws v,Beat z hs h kt kg ws v:=by
 obtain ⟨S,B⟩:=b0F (z:=z) hG hf hm few k1 k2;obtain ⟨i,hh⟩:=List.getElem?_of_mem hm
 by_cases c:0<S.T (mF hs) (qF z h)
 ·exact .inl ((a6T hz B (λ g hg=>⟨(hG g hg).lt,(hG g hg).lg⟩) hh).mp c)
 ·exact .inr ⟨_,_,a3E hz B hG hh kt1 c⟩
end
section
variable {P:Program} {w:World} {K:W.Frag} {mg:Str->Option Value} {base:Heap} {f Pt CN:Addr} {fd:FuncData} {n:Nat}
end
theorem a4F (f g:h8->Int):∀ (hs:List h8) (ws:List Int),j9 (hs.map λ x=>f x - g x) ws=j9 (hs.map f) ws - j9 (hs.map g) ws
 | [],ws=>by simp [j9]
 | x::r,[]=>by simp [j9]
 | x::r,w::ws=>by
  rw [List.map_cons,List.map_cons,List.map_cons,v8,v8,v8,a4F f g r ws,Int.sub_mul];omega
theorem a4B {f:h8->List Int} {k:Nat} {hs:List h8} {ws l:List Int} {v:Int} (lw:ws.length=hs.length) (hk:∀ g∈hs,(f g).length=k) (hl:l.length=k) (e:∀ j,j<k->j9 (hs.map λ g=>(f g).getD j 0) ws=l.getD j 0*v):j9 (hs.map λ g=>(f g).sum) ws=l.sum*v:=by
 have a:=a0p (f:=f) (hs:=hs) (ws:=ws) (p:=List.replicate k 1) lw hk (by simp);rw [show (hs.map λ g=>j9 (f g) (List.replicate k 1))=hs.map λ g=>(f g).sum from List.map_congr_left λ g hg=>by rw [T3 (hk g hg),Int.mul_one]] at a;rw [a,show ((List.range k).map λ j=>j9 (hs.map λ g=>(f g).getD j 0) ws)=l.map λ x=>x*v from List.ext_getElem? λ i=>by
  rw [List.getElem?_map,List.getElem?_map]
  by_cases hi:i<k
  ·rw [List.getElem?_range hi]
   show some (j9 _ ws)=_
   rw [e i hi,List.getElem?_eq_getElem (by omega),List.getD_eq_getElem?_getD,List.getElem?_eq_getElem (by omega)]; rfl
  ·rw [List.getElem?_eq_none (by simp; omega),List.getElem?_eq_none (by omega)]; rfl,C7,T3 hl,Int.mul_one]
section
variable {z:Str} {hs:List h8} {h:h8} {kt kg:Nat} {ws:List Int} {v:Int}
end
section
variable {z:Str} {hs:List h8} {h:h8} {S:Lp.Bo} {kt kg i:Nat} {far:Int}
end
section
variable {P:Program} {w:World} {K:W.Frag} {mg:Str->Option Value} {base:Heap} {f:Addr} {fd:FuncData} {n:Nat}
end
section
variable {z:Str} {hs hs':List h8} {h h':h8} {kt kg:Nat} {pt pg:Nat->Nat} {ct cg:Nat->Int} {ws:List Int} {v:Int}
structure Bw (z:Str) (hs:List h8) (h:h8) (kt kg:Nat) (ws:List Int) (v:Int):Prop where
 m:Mx z hs ws v
 t:∀ j,j<kt->A5 hs ws 0 j<=h.1.getD j 0*v
 g:∀ j,j<kg->h.2.getD j 0*v<=A5 hs ws 1 j
 s:(∃ j,j<kt/\A5 hs ws 0 j<h.1.getD j 0*v)\/∃ j,j<kg/\h.2.getD j 0*v<A5 hs ws 1 j
theorem Beat.bw (b:Beat z hs h kt kg ws v) (hk:∀ g∈hs,g.1.length=kt/\g.2.length=kg) (h1:h.1.length=kt) (h2:h.2.length=kg):Bw z hs h kt kg ws v:=by
 refine ⟨b.m,b.t,b.g,?_⟩;refine Classical.byContradiction λ no=>?_;have n0:∀ j,j<kt->A5 hs ws 0 j=h.1.getD j 0*v:=λ j hj=>Int.le_antisymm (b.t j hj) (Int.not_lt.mp λ c=>no (.inl ⟨j,hj,c⟩));have n1:∀ j,j<kg->A5 hs ws 1 j=h.2.getD j 0*v:=λ j hj=>Int.le_antisymm (Int.not_lt.mp λ c=>no (.inr ⟨j,hj,c⟩)) (b.g j hj);have s:=b.s;rw [a4F (λ g=>g.2.sum) λ g=>g.1.sum,a4B (f:=λ g=>g.2) b.m.lw (λ g hg=>(hk g hg).2) h2 (v:=v) (λ j hj=>?_),a4B (f:=λ g=>g.1) b.m.lw (λ g hg=>(hk g hg).1) h1 (v:=v) (λ j hj=>?_)] at s
 ·omega
 ·have c:=n0 j hj
  rw [G6] at c;exact c
 ·have c:=n1 j hj
  rw [G6] at c;exact c
theorem Bw.mea (M:Mea kt kg pt pg ct cg) (S:Bw z hs h kt kg ws v) (e:PySem.Paired (N5 kt kg pt pg ct cg) hs hs') (x:N5 kt kg pt pg ct cg h h'):Bw z hs' h' kt kg ws v:=by
 obtain ⟨c1,c2⟩:=Mea.col e ws;refine ⟨⟨S.m.lw.trans (Paired.length e),S.m.nn,S.m.d,S.m.size⟩,λ j hj=>?_,λ j hj=>?_,?_⟩
 ·rw [c1 j hj,x.1 j hj,Int.mul_right_comm]
  exact Int.mul_le_mul_of_nonneg_right (S.t (pt j) (M.t j hj).1) (Int.le_of_lt (M.t j hj).2)
 ·rw [c2 j hj,x.2 j hj,Int.mul_right_comm]
  exact Int.mul_le_mul_of_nonneg_right (S.g (pg j) (M.g j hj).1) (Int.le_of_lt (M.g j hj).2)
 ·rcases S.s with ⟨j,hj,c⟩ | ⟨j,hj,c⟩
  ·obtain ⟨i,hi,rfl⟩:=M.bt j hj
   refine .inl ⟨i,hi,?_⟩;rw [c1 i hi,x.1 i hi,Int.mul_right_comm];exact Int.mul_lt_mul_of_pos_right c (M.t i hi).2
  ·obtain ⟨i,hi,rfl⟩:=M.bg j hj
   refine .inr ⟨i,hi,?_⟩;rw [c2 i hi,x.2 i hi,Int.mul_right_comm];exact Int.mul_lt_mul_of_pos_right c (M.g i hi).2
theorem Bw.back (M:Mea kt kg pt pg ct cg) (S:Bw z hs' h' kt kg ws v) (e:PySem.Paired (N5 kt kg pt pg ct cg) hs hs') (x:N5 kt kg pt pg ct cg h h'):Bw z hs h kt kg ws v:=by
 obtain ⟨c1,c2⟩:=Mea.col e ws;refine ⟨⟨S.m.lw.trans (Paired.length e).symm,S.m.nn,S.m.d,S.m.size⟩,λ j hj=>?_,λ j hj=>?_,?_⟩
 ·obtain ⟨i,hi,rfl⟩:=M.bt j hj
  have:=S.t i hi;rw [c1 i hi,x.1 i hi,Int.mul_right_comm] at this;exact Int.le_of_mul_le_mul_right this (M.t i hi).2
 ·obtain ⟨i,hi,rfl⟩:=M.bg j hj
  have:=S.g i hi;rw [c2 i hi,x.2 i hi,Int.mul_right_comm] at this;exact Int.le_of_mul_le_mul_right this (M.g i hi).2
 ·rcases S.s with ⟨j,hj,c⟩ | ⟨j,hj,c⟩
  ·rw [c1 j hj,x.1 j hj,Int.mul_right_comm] at c
   exact .inl ⟨pt j,(M.t j hj).1,Int.lt_of_mul_lt_mul_right c (Int.le_of_lt (M.t j hj).2)⟩
  ·rw [c2 j hj,x.2 j hj,Int.mul_right_comm] at c
   exact .inr ⟨pg j,(M.g j hj).1,Int.lt_of_mul_lt_mul_right c (Int.le_of_lt (M.g j hj).2)⟩
theorem a5G:∀ {l m p:List Int},l.length=m.length->l.length=p.length->(∀ x∈p,0<x)->(∀ j,j<l.length->l.getD j 0<=m.getD j 0)->(∃ j,j<l.length/\l.getD j 0<m.getD j 0)->j9 l p<j9 m p
 | [],m,p,_,_,_,_,⟨j,hj,_⟩=>by simp at hj
 | a::l,[],p,e,_,_,_,_=>by cases e
 | a::l,b::m,[],_,e,_,_,_=>by cases e
 | a::l,b::m,c::p,e1,e2,hp,le,⟨j,hj,lt⟩=>by
  rw [v8,v8];have hc:0<c:=hp c (.head _);have le0:a<=b:=le 0 (by simp);have l1:l.length=m.length:=by simpa using e1
  have l2:l.length=p.length:=by simpa using e2
  have le':∀ j,j<l.length->l.getD j 0<=m.getD j 0:=λ j hj=>by simpa using le (j+1) (by simpa using hj)
  have hp':∀ x∈p,0<x:=λ x hx=>hp x (.tail _ hx)
  cases j with
  | zero =>
   have lt0:a<b:=by simpa using lt
   have t1:=Int.mul_lt_mul_of_pos_right lt0 hc;have t2:=N3 (p:=p) l1 (λ x hx=>Int.le_of_lt (hp' x hx)) le';omega
  | succ j =>
   have t1:=Int.mul_le_mul_of_nonneg_right le0 (Int.le_of_lt hc);have t2:=a5G (p:=p) l1 l2 hp' le' ⟨j,by simpa using hj,by simpa using lt⟩;omega
theorem Bw.rim {far:Int} (hz:R7 z) (S:Bw z hs h kt kg ws v) (R:W6 z hs h) (hG:∀ g∈hs,HG far kt kg g) (gh:HG far kt kg h):False:=by
 obtain ⟨pt,pg,ps,r⟩:=R;have lt:=r.lt;have lg:=r.lg;rw [gh.lt] at lt;rw [gh.lg] at lg;have P:Px z hs kt kg pt pg ps:=⟨lt,lg,λ x hx=>Int.le_of_lt (r.tp x hx),λ x hx=>Int.le_of_lt (r.gp x hx),r.sign,r.fair⟩;have L:=a1U hz S.m P (λ g hg=>⟨(hG g hg).lt,(hG g hg).lg⟩);have f1:j9 h.2 pg+ps=j9 h.1 pt:=r.firm;have e0:j9 (h.1.map λ x=>x*v) pt=j9 h.1 pt*v:=C7 v _ _;have e1:j9 (h.2.map λ x=>x*v) pg=j9 h.2 pg*v:=C7 v _ _;have at0:∀ j,j<kt->(h.1.map λ x=>x*v).getD j 0=h.1.getD j 0*v:=λ j hj=>by
  rw [List.getD_eq_getElem?_getD,List.getElem?_map,List.getD_eq_getElem?_getD,List.getElem?_eq_getElem (by rw [gh.lt]; exact hj)]; rfl
 have at1:∀ j,j<kg->(h.2.map λ x=>x*v).getD j 0=h.2.getD j 0*v:=λ j hj=>by
  rw [List.getD_eq_getElem?_getD,List.getElem?_map,List.getD_eq_getElem?_getD,List.getElem?_eq_getElem (by rw [gh.lg]; exact hj)]; rfl
 have m0:=N3 (l:=(List.range kt).map λ j=>A5 hs ws 0 j) (m:=h.1.map λ x=>x*v) (p:=pt) (by simp [gh.lt]) P.tn λ j hj=>by
  have hj':j<kt:=by simpa using hj
  rw [C8 hj',at0 j hj']; exact S.t j hj'
 have m1:=N3 (l:=h.2.map λ x=>x*v) (m:=(List.range kg).map λ j=>A5 hs ws 1 j) (p:=pg) (by simp [gh.lg]) P.gn λ j hj=>by
  have hj':j<kg:=by simpa [gh.lg] using hj
  rw [C8 hj',at1 j hj']; exact S.g j hj'
 have fv:j9 h.2 pg*v+ps*v=j9 h.1 pt*v:=by rw [<- Int.add_mul,f1]
 rcases S.s with ⟨j,hj,c⟩ | ⟨j,hj,c⟩
 ·have s0:=a5G (l:=(List.range kt).map λ j=>A5 hs ws 0 j) (m:=h.1.map λ x=>x*v) (p:=pt) (by simp [gh.lt]) (by simp [lt]) r.tp (λ j hj=>by
   have hj':j<kt:=by simpa using hj
   rw [C8 hj',at0 j hj']; exact S.t j hj') ⟨j,by simpa using hj,by rw [C8 hj,at0 j hj]; exact c⟩
  omega
 ·have s1:=a5G (l:=h.2.map λ x=>x*v) (m:=(List.range kg).map λ j=>A5 hs ws 1 j) (p:=pg) (by simp [gh.lg]) (by simp [gh.lg,lg]) r.gp (λ j hj=>by
   have hj':j<kg:=by simpa [gh.lg] using hj
   rw [C8 hj',at1 j hj']; exact S.g j hj') ⟨j,by simpa [gh.lg] using hj,by rw [C8 hj,at1 j hj]; exact c⟩
  omega
theorem b1w {far far':Int} (hz:R7 z) (M:Mea kt kg pt pg ct cg) (e:PySem.Paired (N5 kt kg pt pg ct cg) hs hs') (x:N5 kt kg pt pg ct cg h h') (hG:∀ g∈hs,HG far kt kg g) (hm:h∈hs) (hf:far<=2 ^ 50) (hG':∀ g∈hs',HG far' kt kg g) (hm':h'∈hs') (hf':far'<=2 ^ 50) (few:hs.length<=16) (kt1:1<=kt) (k1:kt<=20) (k2:kg<=20):W6 z hs h ↔ W6 z hs' h':=by
 have l:=Paired.length e;have gh:=hG h hm;have gh':=hG' h' hm';refine ⟨λ R=>?_,λ R=>?_⟩
 ·rcases a9i hz hG' hf' hm' (by omega) kt1 k1 k2 with r | ⟨ws,v,b⟩
  ·exact r
  ·exact (((b.bw (λ g hg=>⟨(hG' g hg).lt,(hG' g hg).lg⟩) gh'.lt gh'.lg).back M e x).rim hz R hG gh).elim
 ·rcases a9i hz hG hf hm few kt1 k1 k2 with r | ⟨ws,v,b⟩
  ·exact r
  ·exact (((b.bw (λ g hg=>⟨(hG g hg).lt,(hG g hg).lg⟩) gh.lt gh.lg).mea M e x).rim hz R hG' gh').elim
end
end Rim
namespace L2
open PySem PySem.Spec PyProof.Rows
section
variable {prog:Program} {w:World} {A:Around} {E:Value->Shared->Prop} {s:Shared}
end
section
variable {b:Bool} {xs:List V} {K:W.Frag} {l:Addr} {fr:List Nat} {te:TE} {σ:St} {H1:Hp} {p:Addr} {D:Hp->Prop}
end
section
variable {b:Bool} {xs:List V} {K:W.Frag} {l:Addr} {fr:List Nat} {tc:TT} {te:TE} {σ:St} {H1:Hp} {p:Addr} {D:Hp->Prop}
end
end L2
namespace L2
open PySem
end L2
namespace Rim
open PySem L2 Fr
section
variable {P:Program} {w:World} {K:W.Frag} {mg:Str->Option Value} {base:Heap} {f:Addr} {fd:FuncData} {n:Nat}
theorem b1A {n:Nat} {fr:List Nat} {σ:St} {i j:Nat} {v u:V} (hi:i<n) (hj:j<n):Wk (blkσ n fr σ) (((blkσ n fr σ).set i (some v)).set j (some u)):=by
 refine ⟨by simp,λ k w e=>?_⟩;have:¬ k<n:=λ hk=>by
  unfold blkσ at e;rw [List.getElem?_append_left (by simpa using hk),List.getElem?_replicate] at e
  split at e <;> cases e
 rw [List.getElem?_set_ne (by omega),List.getElem?_set_ne (by omega)]; exact e
structure b6M (pt pg:List Int) (ps D L:Int):Prop where
 l:0<L
 d:L∣D
 t:∀ x∈pt,(low x D).2∣L
 g:∀ x∈pg,(low x D).2∣L
 s:(low ps D).2∣L
end
section
variable {P:Program} {w:World} {K:W.Frag} {mg:Str->Option Value} {base:Heap} {f:Addr} {fd:FuncData} {n:Nat}
end
section
variable {P:Program} {w:World} {K:W.Frag} {mg:Str->Option Value} {base:Heap} {f:Addr} {fd:FuncData} {n:Nat}
def b4f (x y:Q2):Int:=if x.1*y.2<y.1*x.2 then -1 else if x.1*y.2>y.1*x.2 then 1 else 0
def a2u (K:W.Frag):Sp:=λ vs H Q _=>∃ (u v:V) (x y:Q2),vs=[u,v]/\FrV K H u x/\FrV K H v y/\(Big 1000000 x.1/\Big 1000000 x.2/\Big 1000000 y.1/\Big 1000000 y.2)/\Q (.int (b4f x y)) H
theorem scCmp:m8 ["one","other","left","right"] ["one","other"] (i5 a0m):=⟨rfl,rfl,rfl,by decide +kernel,rfl,by decide +kernel,by decide +kernel⟩
theorem b1h (F:Fun K "compared" "compared" a0m f fd):FnOk P w K mg base G5 (n+1) f fd ["one","other"] (a2u K):=by
 refine F.ok scCmp (λ vs H Q E h=>?_) (λ cdv A outer s H vs Q E hr h=>?_)
 ·obtain ⟨u,v,x,y,rfl,_⟩:=h
  rfl
 obtain ⟨u,v,x,y,rfl,⟨a,rfl,ha⟩,⟨b,rfl,hb⟩,⟨b1,b2,b3,b4⟩,q⟩:=h;refine ⟨_,i4 (j4 (i:=2) scCmp.nd rfl (Or.inl rfl) (i8 L0 (j3 E6 (pv 0) i3 (λ _ _=>rfl)) (j3 E6 (pv 1) i3 (λ _ _=>rfl))))
  (i4 (j4 (i:=3) scCmp.nd rfl (Or.inl rfl) (i8 L0 (j3 E6 (pv 1) i3 (λ _ _=>rfl)) (j3 E6 (pv 0) i3 (λ _ _=>rfl))))
  (i4 (A6 (m9 Z8 (pv 2) (pv 3) (r6 _)) (i6 (r9 (S3 K6 i3))) t7)
  (i4 (A6 (m9 a0q (pv 2) (pv 3) (r6 _)) (i6 (r9 i3)) t7)
  (i6 (r9 i3))))),?_⟩
 refine ⟨_,rfl,a,_,0,_,rfl,rfl,ha,V1 _ _,_,rfl,b,_,1,_,rfl,rfl,hb,V9 _ _,_,_,rfl,rfl,⟨b1,b4⟩,?_⟩;refine ⟨_,rfl,b,_,0,_,rfl,rfl,hb,V1 _ _,_,rfl,a,_,1,_,rfl,rfl,ha,V9 _ _,_,_,rfl,rfl,⟨b3,b2⟩,?_⟩;unfold b4f at q;refine ⟨_,rfl,_,rfl,_,_,rfl,rfl,_,rfl,?_⟩;refine D9 (λ c=>?_) (λ c=>?_)
 ·rw [if_pos (of_decide_eq_true c)] at q
  exact ⟨_,rfl,q⟩
 have c':=of_decide_eq_false (Bool.eq_false_iff.mpr c);rw [if_neg c'] at q;refine ⟨_,rfl,_,rfl,_,_,rfl,rfl,_,rfl,?_⟩;refine D9 (λ d=>?_) (λ d=>?_)
 ·rw [if_pos (of_decide_eq_true d)] at q
  exact q
 ·rw [if_neg (of_decide_eq_false (Bool.eq_false_iff.mpr d))] at q
  exact q
def ltQ (x y:Q2):Bool:=decide (x.1*y.2<y.1*x.2)
structure b5y (l:List (Option Q2)) (o:Option Q2):Prop where
 n:o=none->∀ y,some y ∉ l
 m:∀ b,o=some b->some b∈l/\∀ y,some y∈l->ltQ b y=false
end
section
variable {P:Program} {w:World} {K:W.Frag} {mg:Str->Option Value} {base:Heap} {f g:Addr} {fd gd:FuncData} {n:Nat}
def a8T (a b:Int):Int:=if a<b then -1 else if a>b then 1 else 0
def Sml (x:Q2):Prop:=Big 1000000 x.1/\Big 1000000 x.2
def a7e (K:W.Frag):Sp:=λ vs H Q _=>∃ (u v:V) (x y:Q2),vs=[u,v]/\FrV K H u x/\FrV K H v y/\Sml x/\Sml y/\Q (.int (a8T (x.1*y.2) (y.1*x.2))) H
theorem b0E (F:FnOk P w K mg base G5 n f fd ["one","other"] (a2u K)):FnOk P w K mg base G5 n f fd ["one","other"] (a7e K):=F.imp λ vs H Q E h=>by
 obtain ⟨u,v,x,y,rfl,hu,hv,sx,sy,q⟩:=h;exact ⟨u,v,x,y,rfl,hu,hv,⟨sx.1,sx.2,sy.1,sy.2⟩,q⟩
def Cov (h o:h8):Prop:=∀ i,i<h.2.length->o.2.getD i 0<=h.2.getD i 0
theorem a6M:∀ (hs os:List Int),hs.length=os.length->((List.zipWith (λ x y=>decide (y<=x)) hs os).all id=true ↔ ∀ i,i<hs.length->os.getD i 0<=hs.getD i 0)
 | [],[],_=>⟨λ _ i hi=>absurd hi (Nat.not_lt_zero _),λ _=>rfl⟩
 | [],_::_,h=>by simp at h
 | _::_,[],h=>by simp at h
 | a::r,b::t,h=>by
  have ih:=a6M r t (by simpa using h);rw [List.zipWith_cons_cons,List.all_cons,Bool.and_eq_true,ih];constructor
  ·rintro ⟨h0,h1⟩ i hi
   cases i with
   | zero=>exact of_decide_eq_true h0
   | succ j=>exact h1 j (by simpa using hi)
  ·intro h0
   exact ⟨decide_eq_true (h0 0 (by simp)),λ i hi=>h0 (i+1) (by simpa using hi)⟩
def b0b (K:W.Frag):Sp:=λ vs H Q _=>∃ (u v:V) (h o:h8),vs=[u,v]/\HS K H u h/\HS K H v o/\h.2.length=o.2.length/\h.2.length<=900/\∀ (b:Bool) (H':Hp),Same H H'->(b=true ↔ Cov h o)->Q (.bl b) H'
theorem b5a:m8 ["house","other"] ["house","other"] (i5 N6):=⟨rfl,rfl,rfl,by decide +kernel,rfl,by decide +kernel,by decide +kernel⟩
theorem b2p:(["give","wanted"]:List Str).Nodup:=by decide +kernel
theorem b2W (F:Fun K "gives_no_less" "gives_no_less" N6 f fd) (T:x9 mg):FnOk P w K mg base G5 (n+1) f fd ["house","other"] (b0b K):=by
 refine F.ok b5a (λ vs H Q E h=>?_) (λ cdv A outer s H vs Q E hr h=>?_)
 ·obtain ⟨u,v,h,o,rfl,_⟩:=h
  rfl
 obtain ⟨u,v,h,o,rfl,⟨a1,t1,g1,rfl,e1,e2,e3⟩,⟨a2,t2,g2,rfl,d1,d2,d3⟩,hl,hz,q⟩:=h;refine ⟨_,i6 (r9 (m6 (a8t rfl) rfl T.all PyProof.Rows.boot_all (c5
  (R8 ["give","wanted"] [] rfl (a4L false false K rfl rfl T.zip (c5 (j3 E6 (pv 0) i3 (λ _ _=>rfl)) (c5 (j3 E6 (pv 1) i3 (λ _ _=>rfl)) c6)))
   (λ _ _ _ _=>N7 (n:=2) K rfl rfl (j8 (i9 (i:=0) b2p rfl (Or.inl rfl)) (j8 (i9 (i:=1) b2p rfl (Or.inl rfl)) A8)))
   (λ _ _ _ _=>Q4 a8v (pv 0) (pv 1) (r6 _))) c6))),?_⟩
 refine ⟨_,rfl,a1,_,1,_,rfl,rfl,e1,V9 _ _,_,rfl,a2,_,1,_,rfl,rfl,d1,V9 _ _,g1,g2,rfl,⟨_,e3⟩,⟨_,d3⟩,λ p hp=>?_⟩;have lh:(h.2.map V.int).length=h.2.length:=List.length_map _;refine b1O (b1:=false) (b2:=false) e3 d3 hp (by rw [lh]; exact j7 (by omega)) (λ x y=>.bl (decide (vI y<=vI x))) (λ i x y H' N hx hy e hN=>?_) (λ H' e hp'=>?_)
 ·obtain ⟨k,rfl⟩:=K5 hx
  obtain ⟨j,rfl⟩:=K5 hy;exact ⟨_,rfl,_,rfl,_,_,rfl,rfl,b2d hN rfl⟩
 ·refine ⟨p,(List.zipWith (λ x y=>decide (y<=x)) h.2 o.2),rfl,.inl (SqL.of ?_),?_⟩
  ·rw [hp',List.zipWith_map,List.map_zipWith]
   rfl
  ·exact q _ _ ((Same.refl _).trans e) (a6M h.2 o.2 hl)
end
theorem b4L {t b:Int} (ht:0<=t) (hb:0<b):0<=(low t b).1/\(low t b).1<=t:=by
 obtain ⟨h1,_⟩:=O4 (t:=t) hb;have hg:=a0U (a:=t) hb;generalize (low t b).1=x at h1;generalize gI t b=g at h1 hg;have hx:0<=x:=by
  by_cases z:0<=x
  ·exact z
  ·have:=Int.mul_pos hg (show 0 < -x by omega)
   rw [Int.mul_neg] at this;omega
 refine ⟨hx,?_⟩;have:=Int.mul_le_mul_of_nonneg_right (show (1:Int)<=g by omega) hx;rw [Int.one_mul,<- h1] at this;exact this
def stp (a:Q2) (p:Int×Int):Q2:=if a.1*p.2<p.1*a.2 then low p.1 p.2 else a
def ltm (ts os:List Int):Q2:=(List.zip ts os).foldl stp (0,1)
structure AOk (a:Q2):Prop where
 t0:0<=a.1
 t1:a.1<=1000000000
 b1:a.2<=1000000000
 c:a6R a
def Amt (x:Int):Prop:=1<=x/\x<=1000000000
theorem AOk.low {t o:Int} (ht:Amt t) (ho:Amt o):AOk (low t o):=by
 have hb:0<o:=by have:=ho.1; omega
 have h:=b4L (t:=t) (b:=o) (by have:=ht.1; omega) hb;exact ⟨h.1,Int.le_trans h.2 ht.2,Int.le_trans (a5U hb) ho.2,a0W hb⟩
theorem AOk.sml {a:Q2} (h:AOk a):Sml a:=by
 have h1:=h.t1;have h2:=h.b1;exact ⟨(Y5 (n:=60) h.t0 (by omega)).mono (by decide),(Y5 (n:=60) (Int.le_of_lt h.c.1) (by omega)).mono (by decide)⟩
theorem AOk.one:AOk (0,1):=⟨by decide,by decide,by decide,⟨by decide,by decide⟩⟩
theorem a5D {a b c:Int} (h:0<c):a*c<b*c ↔ a<b:=⟨λ z=>Int.lt_of_mul_lt_mul_right z (Int.le_of_lt h),λ z=>Int.mul_lt_mul_of_pos_right z h⟩
theorem b0h {a:Q2} {t o:Int} (ho:0<o):a.1*(low t o).2<(low t o).1*a.2 ↔ a.1*o<t*a.2:=by
 have hc:=Fr.low_cross (t:=t) ho;have hp:=Z0 (t:=t) ho;generalize (low t o).1=t' at *;generalize (low t o).2=o' at *;rw [<- a5D (a:=a.1*o') ho,<- a5D (a:=a.1*o) hp];have e1:a.1*o'*o=a.1*o*o':=by rw [Int.mul_assoc,Int.mul_comm o' o,<- Int.mul_assoc]
 have e2:t'*a.2*o=t*a.2*o':=by rw [Int.mul_assoc,Int.mul_comm a.2 o,<- Int.mul_assoc,hc,Int.mul_assoc,Int.mul_comm o' a.2,<- Int.mul_assoc]
 rw [e1,e2]
theorem a8y (a b:Int):(0<a8T a b) ↔ b<a:=by
 unfold a8T
 split
 ·omega
 ·split <;> omega
theorem b0a (a b:Int):(a8T a b<0) ↔ a<b:=by
 unfold a8T
 split
 ·omega
 ·split <;> omega
theorem b3p {α β:Type} {xs:List α} {ys:List β} {i:Nat} {x:α} {y:β} (h1:xs[i]?=some x) (h2:ys[i]?=some y):(List.zip xs ys)[i]?=some (x,y):=by
 rw [List.getElem?_zip_eq_some];exact ⟨h1,h2⟩
theorem a7x {α β:Type} (g:β->α->β) (b:β) {l:List α} {i:Nat} {x:α} (h:l[i]?=some x):(l.take (i+1)).foldl g b=g ((l.take i).foldl g b) x:=by
 rw [List.take_succ,h,List.foldl_append];rfl
theorem a8K {ns:List Int} {i:Nat} {x:V} (h:(ns.map V.int)[i]?=some x):∃ k,x=.int k/\ns[i]?=some k:=by
 rw [List.getElem?_map] at h
 cases e:ns[i]? with
 | none=>rw [e] at h; cases h
 | some k=>rw [e] at h; cases h; exact ⟨k,rfl,rfl⟩
section
variable {P:Program} {w:World} {K:W.Frag} {mg:Str->Option Value} {base:Heap} {f g:Addr} {fd gd:FuncData} {n:Nat}
structure b0g (K:W.Frag) (mg:Str->Option Value) (o:Addr):Prop where
 m:mg "NOUGHT"=some (.ref o)
 s:∀ H,SqT K H o [.int 0,.int 1]
def b1F (K:W.Frag):Sp:=λ vs H Q _=>∃ (t1 t2:Addr) (ts os:List Int),vs=[.ref t1,.ref t2]/\SqT K H t1 (ts.map V.int)/\SqT K H t2 (os.map V.int)/\ts.length=os.length/\1<=ts.length/\(∀ x∈ts,Amt x)/\(∀ x∈os,Amt x) ∧
 ∀ (v:V) (H':Hp),Same H H'->FrT H' v (ltm ts os)->AOk (ltm ts os)->Q v H'
theorem scLt:m8 ["takes","others","least","take","other","times"] ["takes","others"] (i5 K8):=⟨rfl,rfl,rfl,by decide +kernel,rfl,by decide +kernel,by decide +kernel⟩
theorem b4B {oN fa fb:Addr} {da db:FuncData} (F:Fun K "least_times" "least_times" K8 f fd) (T:x9 mg) (N:b0g K mg oN) (Cl:Cal P w K mg base n "lowest" ["top","bottom"] a7d fa da) (Cc:Cal P w K mg base n "compared" ["one","other"] (a7e K) fb db) :
  FnOk P w K mg base G5 (n+1) f fd ["takes","others"] (b1F K):=by
 refine F.ok scLt (λ vs H Q E h=>?_) (λ cdv A outer s H vs Q E hr h=>?_)
 ·obtain ⟨t1,t2,ts,os,rfl,_⟩:=h
  rfl
 obtain ⟨t1,t2,ts,os,rfl,h1,h2,hl,h0,at1,at2,q⟩:=h;refine ⟨_,i4 (j4 (i:=2) scLt.nd rfl (Or.inl rfl) (a1I (v:=.ref oN) rfl N.m rfl))
  (i4 (P4 PassesOwn.never rfl (a4L false false K rfl rfl T.zip (c5 (pv 0) (c5 (pv 1) c6))) (N7 K (n:=2) rfl rfl (j8 (i9 (i:=3) scLt.nd rfl (Or.inl rfl)) (j8 (i9 (i:=4) scLt.nd rfl (Or.inl rfl)) A8)))
   (i4 (j4 (i:=5) scLt.nd rfl (Or.inl rfl) (j5 Cl.ok hr rfl Cl.m Cl.k Cl.b .nil w4 (c5 (pv 3) (c5 (pv 4) c6))))
   (i6 (A6 (m9 a0q (j5 Cc.ok hr rfl Cc.m Cc.k Cc.b .nil w4 (c5 (pv 5) (c5 (pv 2) c6))) i3 (r6 _)) (i6 (j4 (i:=2) scLt.nd rfl (Or.inl rfl) (pv 5))) t7))))
  (i6 (r9 (pv 2)))),?_⟩
 refine ⟨_,rfl,_,rfl,t1,t2,rfl,⟨_,h1⟩,⟨_,h2⟩,?_⟩;refine b2L (b1:=false) (b2:=false) (xs:=ts.map V.int) (ys:=os.map V.int) (i1:=3) (i2:=4) (λ i σ H'=>∃ (v:V) (o3 o4 o5:Option V),σ=[some (.ref t1),some (.ref t2),some v,o3,o4,o5]/\Same H H'/\FrV K H' v (((List.zip ts os).take i).foldl stp (0,1))/\AOk (((List.zip ts os).take i).foldl stp (0,1))/\(1<=i->FrT H' v (((List.zip ts os).take i).foldl stp (0,1))))
  ⟨_,_,_,_,rfl,Same.refl _,⟨oN,rfl,N.s _⟩,AOk.one,λ z=>absurd z (by decide)⟩ (λ i σ H' ⟨_,_,_,_,_,e,_⟩=>⟨e.tseq h1,e.tseq h2⟩) ?_ ?_
 ·rintro i x y σ H1 qq hx hy ⟨v,o3,o4,o5,rfl,e1,hv,hA,hT⟩ hq
  obtain ⟨t,rfl,ht⟩:=a8K hx;obtain ⟨o,rfl,ho⟩:=a8K hy;have A1:=at1 t (List.mem_of_getElem? ht);have A2:=at2 o (List.mem_of_getElem? ho);have s1:=Same.new hq (.tup [V.int t,V.int o]);have o0:0<o:=by have:=A2.1; omega
  refine ⟨_,rfl,_,rfl,t,o,rfl,o0,Int.lt_of_le_of_lt A2.2 (by decide),λ u H2 e2 hu=>?_⟩;have e12:=s1.trans e2;rw [a7x stp (0,1) (b3p ht ho)];have hz:i=0->((List.zip ts os).take i).foldl stp (0,1)=(0,1):=by rintro rfl; rfl
  generalize ((List.zip ts os).take i).foldl stp (0,1)=a at hv hA hT hz;have AL:=AOk.low A1 A2;refine ⟨_,rfl,_,rfl,u,v,low t o,a,rfl,hu.v,hv.same e12,AL.sml,hA.sml,_,_,rfl,rfl,_,rfl,?_⟩;refine D9 (λ c=>?_) (λ c=>?_)
  ·have c':=of_decide_eq_true c
   rw [a8y,b0h o0] at c';have es:stp a (t,o)=low t o:=by unfold stp; rw [if_pos c']
   refine ⟨_,rfl,u,_,_,_,rfl,e1.trans e12,?_,?_,?_⟩
   ·rw [es]; exact hu.v
   ·rw [es]; exact AL
   ·intro _; rw [es]; exact hu
  ·have c':=of_decide_eq_false (Bool.eq_false_iff.mpr c)
   rw [a8y,b0h o0] at c';have es:stp a (t,o)=a:=by unfold stp; rw [if_neg c']
   refine ⟨v,_,_,_,rfl,e1.trans e12,?_,?_,?_⟩
   ·rw [es]; exact hv.same e12
   ·rw [es]; exact hA
   ·intro _
    rw [es]
    by_cases hi:1<=i
    ·exact (hT hi).same e12
    ·exfalso
     have ea:=hz (by omega);rw [ea] at c';have:=A1.1;simp only [Int.zero_mul,Int.mul_one] at c';omega
 ·rintro σ H1 ⟨v,o3,o4,o5,rfl,e1,hv,hA,hT⟩
  have lm:min (ts.map V.int).length (os.map V.int).length=(List.zip ts os).length:=by rw [List.length_map,List.length_map,List.length_zip]
  have lz:1<=(List.zip ts os).length:=by rw [List.length_zip]; omega
  rw [lm,List.take_of_length_le (Nat.le_refl _)] at hA hT;exact ⟨_,rfl,q v H1 e1 (hT lz) hA⟩
end
def a4i (h o:h8):Bool:=(List.range h.2.length).all λ i=>decide (o.2.getD i 0<=h.2.getD i 0)
theorem a9v (h o:h8):a4i h o=true ↔ Cov h o:=by
 unfold a4i Cov;rw [List.all_eq_true];exact ⟨λ z i hi=>of_decide_eq_true (z i (List.mem_range.mpr hi)),λ z i hi=>decide_eq_true (z i (List.mem_range.mp hi))⟩
theorem b0S {b:Bool} {h o:h8} (i:b=true ↔ Cov h o):b=a4i h o:=by
 rw [<- a9v] at i
 cases b <;> cases e:a4i h o
 ·rfl
 ·exact absurd (i.mpr e) (by decide)
 ·exact absurd (i.mp rfl) (by rw [e]; decide)
 ·rfl
def a1g (o:h8) (b:Option (Q2×Nat)) (k:Nat) (h:h8):Option (Q2×Nat) :=
 if a4i h o=true then (match b with | none=>some (ltm h.1 o.1,k) | some (q,j)=>if (ltm h.1 o.1).1*q.2<q.1*(ltm h.1 o.1).2 then some (ltm h.1 o.1,k) else some (q,j)) else b
def X4 (hs:List h8) (o:h8):Nat->Option (Q2×Nat)
 | 0=>none
 | i+1=>a1g o (X4 hs o i) i (hs.getD i ([],[]))
def BV (H:Hp) (v:V) (b:Option (Q2×Nat)):Prop:=match b with
 | none=>v=.non
 | some (q,k)=>∃ a u,v=.ref a/\H a=some (.tup [u,.int (k:Int)])/\FrT H u q/\AOk q
theorem BV.same {H H':Hp} {v:V} {b:Option (Q2×Nat)} (e:Same H H') (h:BV H v b):BV H' v b:=by
 match b,h with
 | none,h=>exact h
 | some (q,k),⟨a,u,h1,h2,h3,h4⟩=>exact ⟨a,u,h1,e _ _ h2,h3.same e,h4⟩
abbrev Far:Int:=1000000000
section
variable {P:Program} {w:World} {K:W.Frag} {mg:Str->Option Value} {base:Heap} {f g:Addr} {fd gd:FuncData} {n:Nat}
def b3A (K:W.Frag) (CN:Addr):Sp:=λ vs H Q E=>∃ (a:Addr) (xs:List V) (hs:List h8) (m:Int) (kt kg:Nat),vs=[.ref a,.int m]/\SqL K H a xs/\Bk K H xs hs/\(∀ h∈hs,HG Far kt kg h)/\1<=kt/\kg<=900/\m.natAbs.log2<1920 ∧
 (∀ (i:Nat) h,m=(i:Int)->hs[i]?=some h->∀ (v:V) (H':Hp),Same H H'->BV H' v (X4 hs h hs.length)->Q v H')/\(¬ a1S xs.length m->E (.ref CN) none H)
theorem scAl:m8 ["book","number","house","best","other","single","times"] ["book","number"] (i5 K9):=⟨rfl,rfl,rfl,by decide +kernel,rfl,by decide +kernel,by decide +kernel⟩
theorem b4R {CN fa fb fc fe:Addr} {da db dc de:FuncData} (F:Fun K "share_alone" "share_alone" K9 f fd) (T:x9 mg) (Ch:a0R P w K mg base n "house_of" ["book","number"] (a2R K CN) fa da) (Cg:Cal P w K mg base n "gives_no_less" ["house","other"] (b0b K) fb db)
  (Cl:Cal P w K mg base n "least_times" ["takes","others"] (b1F K) fc dc) (Cc:Cal P w K mg base n "compared" ["one","other"] (a7e K) fe de):FnOk P w K mg base (CX1 P w) (n+1) f fd ["book","number"] (b3A K CN):=by
 refine F.ok1 scAl (λ vs H Q E h=>?_) (λ cdv A outer s H vs Q E hr h=>?_)
 ·obtain ⟨a,xs,hs,m,kt,kg,rfl,_⟩:=h
  rfl
 obtain ⟨a,xs,hs,m,kt,kg,rfl,hS,hB,hG,hkt,hkg,lm,q,hE⟩:=h;refine ⟨_,i4 (j4 (i:=2) scAl.nd rfl (Or.inl rfl) (j5 Ch.ok hr rfl Ch.m Ch.k Ch.b .nil a1n (c5 (pv 0) (c5 (pv 1) c6))))
  (PSs.nox (i4 (j4 (i:=3) scAl.nd rfl (Or.inl rfl) N9)
  (i4 (P4 PassesOwn.never rfl (a1z K rfl rfl T.enum (c5 (pv 0) c6)) (N7 K (n:=2) rfl rfl (j8 (i9 (i:=4) scAl.nd rfl (Or.inl rfl)) (j8 (i9 (i:=5) scAl.nd rfl (Or.inl rfl)) A8)))
   (i6 (A6 (a5O (j5 Cg.ok hr rfl Cg.m Cg.k Cg.b .nil w4 (c5 (pv 5) (c5 (pv 2) c6))))
    (i4 (j4 (i:=6) scAl.nd rfl (Or.inl rfl) (j5 Cl.ok hr rfl Cl.m Cl.k Cl.b .nil w4 (c5 (j3 E6 (pv 5) i3 (λ _ _=>rfl)) (c5 (j3 E6 (pv 2) i3 (λ _ _=>rfl)) c6))))
    (i6 (A6 (PW.pt (b1R (m9 a0X (pv 3) N9 (r6 _)) (a9N (m9 Z8 (j5 Cc.ok hr rfl Cc.m Cc.k Cc.b .nil w4 (c5 (pv 6) (c5 (j3 E6 (pv 3) i3 (λ _ _=>rfl)) c6))) i3 (r6 _)))))
     (i6 (j4 (i:=3) scAl.nd rfl (Or.inl rfl) (U7 (c5 (pv 6) (c5 (pv 4) c6))))) t7))) t7)))
  (i6 (r9 (pv 3)))))),?_⟩
 have xl:xs.length=hs.length:=Paired.length hB;refine ⟨_,rfl,_,rfl,a,xs,m,rfl,hS,lm,λ i hv hi hx=>?_,hE⟩;obtain ⟨o,ho,hO⟩:=Paired.at hB hx;have gO:=hG o (List.mem_of_getElem? ho);refine ⟨_,rfl,a,rfl,⟨_,hS⟩,?_⟩;refine a2c (xs:=xs) (i1:=4) (i2:=5) (λ j σ H'=>∃ (bv:V) (o4 o5 o6:Option V),σ=[some (.ref a),some (.int m),some hv,some bv,o4,o5,o6]/\Same H H'/\BV H' bv (X4 hs o j))
  ⟨_,_,_,_,rfl,Same.refl _,rfl⟩ (λ j σ H' ⟨_,_,_,_,_,e,_⟩=>e.seq hS) ?_ ?_
 ·rintro j x σ H1 qq hx' ⟨bv,o4,o5,o6,rfl,e1,hb⟩ hq
  obtain ⟨h,hh,hH⟩:=Paired.at hB hx';have gh:=hG h (List.mem_of_getElem? hh);have s1:=Same.new hq (.tup [V.int (j:Int),x]);have e2:=e1.trans s1;have ej:X4 hs o (j+1)=a1g o (X4 hs o j) j h:=by
   show a1g o (X4 hs o j) j (hs.getD j ([],[]))=_
   rw [List.getD_eq_getElem?_getD,hh]; rfl
  refine ⟨_,rfl,_,rfl,x,hv,h,o,rfl,hH.same e2,hO.same e2,by rw [gh.lg,gO.lg],by rw [gh.lg]; omega,λ b H2 e3 ib=>?_⟩;have hb2:=b0S ib;subst hb2;have e4:=e2.trans e3;have hb3:=(hb.same s1).same e3;refine ⟨_,rfl,?_⟩;refine D9 (λ c=>?_) (λ c=>?_)
  ·obtain ⟨a1,t1,g1,rfl,p1,p2,p3⟩:=hH.same e4
   obtain ⟨a2,t2,g2,rfl,r1,r2,r3⟩:=hO.same e4;refine ⟨_,rfl,a1,_,0,_,rfl,rfl,p1,V1 _ _,_,rfl,a2,_,0,_,rfl,rfl,r1,V1 _ _,t1,t2,h.1,o.1,rfl,p2,r2,by rw [gh.lt,gO.lt],by rw [gh.lt]; exact hkt,gh.t,gO.t,λ u H3 e5 hu hA=>?_⟩;have hb4:=hb3.same e5;have e6:=e4.trans e5;rw [ej];unfold a1g;rw [if_pos c]
   cases hbb:X4 hs o j with
   | none =>
    rw [hbb] at hb4
    cases (show bv=.non from hb4);refine ⟨_,rfl,rfl,_,rfl,D9 (λ _=>a7V ?_) (λ d=>absurd (decide_eq_true rfl) d)⟩;refine ⟨_,rfl,_,rfl,(by show 2<=sizeLine; decide),λ p hp=>?_⟩;have s2:=Same.new hp (.tup [u,V.int (j:Int)]);exact ⟨_,_,_,_,rfl,e6.trans s2,p,u,rfl,upd_same,hu.same s2,hA⟩
   | some pr =>
    obtain ⟨q1,k1⟩:=pr;rw [hbb] at hb4;obtain ⟨ab,ub,rfl,hab,hub,hAq⟩:=hb4;refine ⟨_,rfl,rfl,_,rfl,D9 (λ d=>absurd (of_decide_eq_true d) (by intro z; cases z)) (λ _=>?_)⟩;refine ⟨_,rfl,_,rfl,ab,_,0,_,rfl,rfl,SqT.of hab,V1 _ _,u,ub,ltm h.1 o.1,q1,rfl,hu.v,hub.v,hA.sml,hAq.sml,_,_,rfl,rfl,_,rfl,?_⟩;refine D9 (λ d=>?_) (λ d=>?_)
    ·have d':=of_decide_eq_true d
     rw [b0a] at d';dsimp only;rw [if_pos d'];refine ⟨_,rfl,_,rfl,(by show 2<=sizeLine; decide),λ p hp=>?_⟩;have s2:=Same.new hp (.tup [u,V.int (j:Int)]);exact ⟨_,_,_,_,rfl,e6.trans s2,p,u,rfl,upd_same,hu.same s2,hA⟩
    ·have d':=of_decide_eq_false (Bool.eq_false_iff.mpr d)
     rw [b0a] at d';dsimp only;rw [if_neg d'];exact ⟨_,_,_,_,rfl,e6,ab,ub,rfl,hab,hub,hAq⟩
  ·refine ⟨_,_,_,_,rfl,e4,?_⟩
   rw [ej];unfold a1g;rw [if_neg c];exact hb3
 ·rintro σ H1 ⟨bv,o4,o5,o6,rfl,e1,hb⟩
  rw [xl] at hb;exact ⟨_,rfl,q i o hi ho bv H1 e1 hb⟩
theorem Cal.cmpS {fa:Addr} {da:FuncData} (C:Cal P w K mg base n "compared" ["one","other"] (a2u K) fa da):Cal P w K mg base n "compared" ["one","other"] (a7e K) fa da:=⟨b0E C.ok,C.b,C.k,C.m⟩
theorem b2M {oN fa fb:Addr} {da db:FuncData} (F:Fun K "least_times" "least_times" K8 f fd) (T:x9 mg) (N:b0g K mg oN) (Cl:Cal P w K mg base n "lowest" ["top","bottom"] a7d fa da) (Cc:Cal P w K mg base n "compared" ["one","other"] (a2u K) fb db):FnOk P w K mg base G5 (n+1) f fd ["takes","others"] (b1F K):=b4B F T N Cl Cc.cmpS
theorem b3l {CN fa fb fc fe:Addr} {da db dc de:FuncData} (F:Fun K "share_alone" "share_alone" K9 f fd) (T:x9 mg) (Ch:a0R P w K mg base n "house_of" ["book","number"] (a2R K CN) fa da) (Cg:Cal P w K mg base n "gives_no_less" ["house","other"] (b0b K) fb db)
  (Cl:Cal P w K mg base n "least_times" ["takes","others"] (b1F K) fc dc) (Cc:Cal P w K mg base n "compared" ["one","other"] (a2u K) fe de):FnOk P w K mg base (CX1 P w) (n+1) f fd ["book","number"] (b3A K CN):=b4R F T Ch Cg Cl Cc.cmpS
end
end Rim
namespace L2
open PySem
theorem LamTab.ne {P:Addr} {pos:Pos} {qual:Str} {H:Hp} {b:Addr} {o:HO} (T:LamTab P pos qual H) (h:H b=some o) (n:∀ ps,o≠.tbl ps):b≠P:=λ z=>by
 subst z;rcases T with t | ⟨c,t,_⟩
 ·rw [h] at t; exact n _ (Option.some.inj t)
 ·rw [h] at t; exact n _ (Option.some.inj t)
section
variable {fr:List Nat} {te:TE} {σ:St} {H1:Hp} {p:Addr} {D:Hp->Prop} {P:Addr} {pos:Pos} {qual:Str} {n:Nat}
theorem b1y (T:LamTab P pos qual H1) (hp:H1 p=none) (hz:n<sizeLine) (R:Nat->V->Hp->Prop)
  (hR:∀ i y H H',LamTab P pos qual H->(∃ zs,H p=some (.lst zs))->R i y H->(∀ b o,b≠p->b≠P->H b=some o->H' b=some o)->R i y H')
  (step:∀ (i:Nat) H ys (N:VK),i<n->Same1 P H1 H->LamTab P pos qual H->H p=some (.lst ys)->(∀ v H3,Same1 P H H3->LamTab P pos qual H3->R i v H3->N v H3)->te ((blkσ 1 fr σ).set 0 (some (.int (i:Int)))) H N)
  (hd:∀ ys H,Same1 P H1 H->LamTab P pos qual H->H p=some (.lst ys)->ys.length=n->(∀ i y,ys[i]?=some y->R i y H)->D H):lcW 1 fr (J6 0) te σ (Itr 0 n) H1 p D:=by
 refine ⟨λ i m ys H=>m=n - i/\i<=n/\Same1 P H1 H/\LamTab P pos qual H/\H p=some (.lst ys)/\ys.length=i/\∀ j y,ys[j]?=some y->R j y H,⟨n,by simp,Nat.zero_le _,(Same.new hp _).to1,T.same (Same.new hp _),upd_same,rfl,λ j y e=>by simp at e⟩,?_⟩;rintro i m ys H ⟨rfl,hi,e,L,hH,len,pr⟩
 by_cases hlt:i<n
 ·refine .inr ⟨hlt,λ x H' y=>?_⟩
  obtain ⟨rfl,rfl⟩:=y;rw [Int.zero_add];refine ⟨Wk.set (by decide),step i _ _ _ hlt e L hH λ v H3 e3 L3 r3=>?_⟩;have h3:=e3.get L hH nofun;refine ⟨h3,by omega,n - (i+1),by omega,rfl,hlt,(e.trans e3).write hp,L3.write h3,upd_same,by rw [List.length_append,len]; rfl,λ j y ey=>?_⟩;have up:∀ b o,b≠p->b≠P->H3 b=some o->upd H3 p (.lst (ys++[v])) b=some o:=λ b o hb _ q=>by rw [c7 hb]; exact q
  by_cases hj:j<ys.length
  ·rw [List.getElem?_append_left hj] at ey
   exact hR j y _ _ L ⟨_,hH⟩ (pr j y ey) λ b o hb hP q=>up b o hb hP (e3 _ _ hP q)
  ·rw [List.getElem?_append_right (by omega)] at ey
   have hj':j - ys.length=0:=by
    cases q:j - ys.length with
    | zero=>rfl
    | succ k=>rw [q] at ey; simp at ey
   rw [hj'] at ey;have:j=i:=by omega
   subst this;simp at ey;subst ey;exact hR j v _ _ L3 ⟨_,h3⟩ r3 up
 ·have:i=n:=by omega
  subst this;exact .inl ⟨Nat.le_refl _,hd ys H e L hH len pr⟩
end
end L2
namespace Rim
open PySem
abbrev b2O:Pos:=⟨149,40,149,104⟩
end Rim
namespace L2
open PySem PySem.Spec PyProof.Rows
section
variable {X:Cx}
end
end L2
namespace L2
open PySem PySem.Spec PyProof.Rows PySem.W
section
variable {n:Nat} {lt:Nat->Nat->Bool} {cmp:Nat->Nat->(Bool->Shared->Prop)->Shared->Prop} {J:Shared->Prop}
structure Z7 (n:Nat) (lt:Nat->Nat->Bool):Prop where
 ir:∀ i,i<n->lt i i=false
 tr:∀ i j k,i<n->j<n->k<n->lt i j=true->lt j k=true->lt i k=true
 tot:∀ i j,i<n->j<n->i≠j->lt i j=true\/lt j i=true
abbrev a4H (n:Nat) (lt:Nat->Nat->Bool) (J:Shared->Prop) (cmp:Nat->Nat->(Bool->Shared->Prop)->Shared->Prop):Prop :=
 ∀ i j C s,i<n->j<n->J s->(∀ s',J s'->C (lt i j) s')->cmp i j C s
def Rng (n:Nat) (p:Array Nat):Prop:=p.toList.Perm (List.range n)
def Up (lt:Nat->Nat->Bool) (p:Array Nat) (k:Nat):Prop:=∀ i j,i<j->j<k->lt (p.getD i 0) (p.getD j 0)=true
def Dn (lt:Nat->Nat->Bool) (p:Array Nat) (k:Nat):Prop:=∀ i j,i<j->j<k->lt (p.getD j 0) (p.getD i 0)=true
theorem Rng.size {p:Array Nat} (h:Rng n p):p.size=n:=by have:=h.length_eq; simpa using this
theorem Rng.bd {p:Array Nat} (h:Rng n p) {i:Nat} (hi:i<n):p.getD i 0<n:=by
 have hz:=h.size;have:p.getD i 0=p[i]'(by omega):=by simp [Array.getD,hz,hi]
 rw [this];exact List.mem_range.mp (h.mem_iff.mp (by simp))
theorem Rng.ne {p:Array Nat} (h:Rng n p) {i j:Nat} (hi:i<n) (hj:j<n) (ne:i≠j):p.getD i 0≠p.getD j 0:=by
 have hz:=h.size;have e1:p.getD i 0=p.toList[i]'(by simp; omega):=by simp [Array.getD,hz,hi]
 have e2:p.getD j 0=p.toList[j]'(by simp; omega):=by simp [Array.getD,hz,hj]
 rw [e1,e2];intro z;have nd:p.toList.Nodup:=h.nodup_iff.mpr List.nodup_range;exact ne ((List.getElem_inj nd).mp z)
theorem Rng.perm {p q:Array Nat} (h:Rng n p) (e:q.Perm p):Rng n q:=(Array.perm_iff_toList_perm.mp e).trans h
theorem a1C {p q:Array Nat} {i j:Nat} (h:p[i]?=q[j]?):p.getD i 0=q.getD j 0:=by
 rw [Array.getD_eq_getD_getElem?,Array.getD_eq_getD_getElem?,h]
theorem a5m (A:Z7 n lt) (hc:a4H n lt J cmp) {p:Array Nat} (hp:Rng n p) {G:Nat->Shared->Prop}:∀ (f m:Nat) (s:Shared),1<=m->m+f=n->Up lt p m->J s →
  (∀ m' s',m<=m'->m'<=n->Up lt p m'->(m'=n\/lt (p.getD m' 0) (p.getD (m' - 1) 0)=true)->J s'->G m' s')->(kas_asc p f m).kasWp cmp G s
 | 0,m,s,h1,hm,hu,j,k=>by
  unfold kas_asc;exact k m s (Nat.le_refl _) (by omega) hu (.inl (by omega)) j
 | f+1,m,s,h1,hm,hu,j,k=>by
  unfold kas_asc;refine hc _ _ _ s (hp.bd (by omega)) (hp.bd (by omega)) j λ s' j'=>?_
  cases e:lt (p.getD m 0) (p.getD (m - 1) 0) with
  | true =>
   dsimp only;rw [if_pos rfl];exact k m s' (Nat.le_refl _) (by omega) hu (.inr e) j'
  | false =>
   dsimp only;rw [if_neg (by simp)];refine a5m A hc hp f (m+1) s' (by omega) (by omega) ?_ j' λ m' s'' a b c d j''=>k m' s'' (by omega) b c d j'';have up1:lt (p.getD (m - 1) 0) (p.getD m 0)=true:=by
    rcases A.tot _ _ (hp.bd (show m - 1<n by omega)) (hp.bd (show m<n by omega)) (hp.ne (by omega) (by omega) (by omega)) with z | z
    ·exact z
    ·rw [e] at z; cases z
   intro i j' hij hj'
   by_cases hjm:j'<m
   ·exact hu i j' hij hjm
   ·have:j'=m:=by omega
    subst this
    by_cases hi:i=j' - 1
    ·subst hi; exact up1
    ·exact A.tr _ _ _ (hp.bd (by omega)) (hp.bd (by omega)) (hp.bd (by omega)) (hu i (j' - 1) (by omega) (by omega)) up1
theorem a6P (A:Z7 n lt) (hc:a4H n lt J cmp) {p:Array Nat} (hp:Rng n p) {G:Array Nat×Nat×Nat->Shared->Prop}:∀ (f m:Nat) (s:Shared),1<=m->m+f=n->Dn lt p m->J s →
  (∀ m' s',m<=m'->m'<=n->Dn lt p m'->J s'->G (p,m',0) s')->(kas_desc f p m 0).kasWp cmp G s
 | 0,m,s,h1,hm,hu,j,k=>by
  unfold kas_desc;exact k m s (Nat.le_refl _) (by omega) hu j
 | f+1,m,s,h1,hm,hu,j,k=>by
  unfold kas_desc;refine hc _ _ _ s (hp.bd (by omega)) (hp.bd (by omega)) j λ s' j'=>?_
  cases e:lt (p.getD m 0) (p.getD (m - 1) 0) with
  | true =>
   dsimp only;rw [if_pos rfl,if_neg (by omega)];refine a6P A hc hp f (m+1) s' (by omega) (by omega) ?_ j' λ m' s'' a b c d=>k m' s'' (by omega) b c d;intro i j' hij hj'
   by_cases hjm:j'<m
   ·exact hu i j' hij hjm
   ·have:j'=m:=by omega
    subst this
    by_cases hi:i=j' - 1
    ·subst hi; exact e
    ·exact A.tr _ _ _ (hp.bd (by omega)) (hp.bd (by omega)) (hp.bd (by omega)) e (hu i (j' - 1) (by omega) (by omega))
  | false =>
   dsimp only;rw [if_neg (by simp)];have up1:lt (p.getD (m - 1) 0) (p.getD m 0)=true:=by
    rcases A.tot _ _ (hp.bd (show m - 1<n by omega)) (hp.bd (show m<n by omega)) (hp.ne (by omega) (by omega) (by omega)) with z | z
    ·exact z
    ·rw [e] at z; cases z
   refine hc _ _ _ s' (hp.bd (by omega)) (hp.bd (by omega)) j' λ s2 j2=>?_;dsimp only;rw [up1,if_pos rfl];exact k m s2 (Nat.le_refl _) (by omega) hu j2
theorem b3y (hp:Rng n p) {m:Nat} (hm:m<=n) (hd:Dn lt p m):Rng n (kas_rev p 0 m)/\Up lt (kas_rev p 0 m) m:=by
 refine ⟨hp.perm (mirror_perm _ _ _ _),λ i j hij hj=>?_⟩;have hz:=hp.size;have e:∀ k,k<m->(kas_rev p 0 m).getD k 0=p.getD (m - 1 - k) 0:=λ k hk=>a1C (by
  have:=getElem?_mirror_all (xs:=p) (i:=0) (j:=m) (by omega) k;rw [if_pos ⟨Nat.zero_le _,hk⟩] at this;unfold kas_rev;rw [this]
  congr 1
  omega)
 rw [e i (by omega),e j hj];exact hd _ _ (by omega) (by omega)
theorem a8P (A:Z7 n lt) (hc:a4H n lt J cmp) {p:Array Nat} (hp:Rng n p) {G:Nat×Array Nat->Shared->Prop} {m:Nat} {s:Shared} (h1:1<=m) (hm:m<=n) (hd:Dn lt p m) (j:J s)
  (k:∀ m' q s',1<=m'->m'<=n->Rng n q->Up lt q m'->J s'->G (m',q) s'):(kas_tail3 m n p).kasWp cmp G s:=by
 unfold kas_tail3;rw [KasT.kasWp_bind];obtain ⟨r1,r2⟩:=b3y hp hm hd;exact a5m A hc r1 _ m s h1 (by omega) r2 j λ m' s' a b c _ j'=>k m' _ s' (by omega) b r1 c j'
theorem a4j (A:Z7 n lt) (hc:a4H n lt J cmp) {p:Array Nat} (hp:Rng n p) {G:Nat×Array Nat->Shared->Prop} {m:Nat} {s:Shared} (hm:m+1<=n) (hd:Dn lt p (m+1)) (j:J s)
  (k:∀ m' q s',1<=m'->m'<=n->Rng n q->Up lt q m'->J s'->G (m',q) s'):(kas_descPart m n p).kasWp cmp G s:=by
 unfold kas_descPart;rw [KasT.kasWp_bind];refine a6P A hc hp _ (m+1) s (by omega) (by omega) hd j λ m' s' a b c j'=>?_
 show KasT.kasWp cmp (if 0>0 then _ else _) G s'
 rw [if_neg (by omega)];exact a8P A hc hp (show 1<=m' by omega) b c j' k
theorem a9S (A:Z7 n lt) (hc:a4H n lt J cmp) {p:Array Nat} (hp:Rng n p) (h1:1<=n) {G:Nat×Array Nat->Shared->Prop} {s:Shared} (j:J s)
  (k:∀ m' q s',1<=m'->m'<=n->Rng n q->Up lt q m'->J s'->G (m',q) s'):(kas_count n p).kasWp cmp G s:=by
 unfold kas_count;rw [KasT.kasWp_bind];refine a5m A hc hp _ 1 s (Nat.le_refl _) (by omega) (λ i j a b=>by omega) j λ m s' a b c d j'=>?_
 by_cases hmn:m=n
 ·rw [if_pos (by simpa using hmn)]
  exact k m p s' a b hp c j'
 rw [if_neg (by simpa using hmn)];have hlt:=d.resolve_left hmn
 by_cases hm1:m>1
 ·rw [if_pos hm1]
  refine hc _ _ _ s' (hp.bd (by omega)) (hp.bd (by omega)) j' λ s2 j2=>?_;dsimp only;rw [c 0 (m - 1) (by omega) (by omega),if_pos rfl];exact k m p s2 a b hp c j2
 ·rw [if_neg hm1]
  have:m=1:=by omega
  subst this;refine a4j A hc hp (by omega) (λ i j hij hj=>?_) j' k;have hi:i=0:=by omega
  have hj:j=1:=by omega
  subst hi; subst hj; exact hlt
theorem a2m (A:Z7 n lt) (hc:a4H n lt J cmp) {p:Array Nat} (hp:Rng n p) {k:Nat} (hk:k<n) (hu:Up lt p k) {G:Nat->Shared->Prop}:∀ (f l r:Nat) (s:Shared),l<=r->r<=k->r - l<=f->(∀ i,i<l->lt (p.getD i 0) (p.getD k 0)=true)->(∀ i,r<=i->i<k->lt (p.getD k 0) (p.getD i 0)=true)->J s →
  (∀ l' s',l'<=k->(∀ i,i<l'->lt (p.getD i 0) (p.getD k 0)=true)->(∀ i,l'<=i->i<k->lt (p.getD k 0) (p.getD i 0)=true)->J s'->G l' s')->(kas_place p k f l r).kasWp cmp G s
 | 0,l,r,s,hlr,hrk,hf,a,b,j,q=>by
  unfold kas_place;have:l=r:=by omega
  subst this;exact q l s hrk a b j
 | f+1,l,r,s,hlr,hrk,hf,a,b,j,q=>by
  unfold kas_place
  by_cases hl:l ≥ r
  ·rw [if_pos hl]
   have:l=r:=by omega
   subst this;exact q l s hrk a b j
  rw [if_neg hl];have m1:l<=(l+r) / 2:=by omega
  have m2:(l+r) / 2<r:=by omega
  refine hc _ _ _ s (hp.bd hk) (hp.bd (by omega)) j λ s' j'=>?_
  cases e:lt (p.getD k 0) (p.getD ((l+r) / 2) 0) with
  | true =>
   dsimp only;rw [if_pos rfl];refine a2m A hc hp hk hu f l _ s' m1 (by omega) (by omega) a (λ i h1 h2=>?_) j' q
   by_cases hi:i=(l+r) / 2
   ·subst hi; exact e
   ·exact A.tr _ _ _ (hp.bd hk) (hp.bd (by omega)) (hp.bd (by omega)) e (hu _ i (by omega) h2)
  | false =>
   dsimp only;rw [if_neg (by simp)];have up1:lt (p.getD ((l+r) / 2) 0) (p.getD k 0)=true:=by
    rcases A.tot _ _ (hp.bd (show (l+r) / 2<n by omega)) (hp.bd hk) (hp.ne (by omega) (by omega) (by omega)) with z | z
    ·exact z
    ·rw [e] at z; cases z
   refine a2m A hc hp hk hu f _ r s' (by omega) hrk (by omega) (λ i h1=>?_) b j' q
   by_cases hi:i=(l+r) / 2
   ·subst hi; exact up1
   ·exact A.tr _ _ _ (hp.bd (by omega)) (hp.bd (by omega)) (hp.bd hk) (hu i _ (by omega) (by omega)) up1
theorem a7G (A:Z7 n lt) {p:Array Nat} (hp:Rng n p) {k l:Nat} (hk:k<n) (hl:l<=k) (hu:Up lt p k) (a:∀ i,i<l->lt (p.getD i 0) (p.getD k 0)=true) (b:∀ i,l<=i->i<k->lt (p.getD k 0) (p.getD i 0)=true) :
  Rng n (bubble p k (k - l))/\Up lt (bubble p k (k - l)) (k+1):=by
 refine ⟨hp.perm (bubble_perm _ _ _),?_⟩;have hz:=hp.size;have e0:(bubble p k (k - l)).getD l 0=p.getD k 0:=a1C (by rw [getElem?_bubble (by omega) _ (by omega),if_pos (by omega)]);have e1:∀ i,i<l->(bubble p k (k - l)).getD i 0=p.getD i 0:=λ i hi=>a1C (by rw [getElem?_bubble (by omega) _ (by omega),if_neg (by omega),if_neg (by omega)]);have e2:∀ i,l<i->i<=k->(bubble p k (k - l)).getD i 0=p.getD (i - 1) 0:=λ i h1 h2=>a1C (by rw [getElem?_bubble (by omega) _ (by omega),if_neg (by omega),if_pos (by omega)]);intro i j hij hj;rcases Nat.lt_trichotomy j l with z | z | z
 ·rw [e1 i (by omega),e1 j z]; exact hu i j hij (by omega)
 ·subst z; rw [e0,e1 i hij]; exact a i hij
 ·rw [e2 j z (by omega)]
  rcases Nat.lt_trichotomy i l with y | y | y
  ·rw [e1 i y]; exact hu i (j - 1) (by omega) (by omega)
  ·subst y; rw [e0]; exact b (j - 1) (by omega) (by omega)
  ·rw [e2 i y (by omega)]; exact hu (i - 1) (j - 1) (by omega) (by omega)
theorem a8H (A:Z7 n lt) (hc:a4H n lt J cmp) {G:Array Nat->Shared->Prop}:∀ (f:Nat) (p:Array Nat) (k:Nat) (s:Shared),Rng n p->k+f=n->Up lt p k->J s->(∀ q s',Rng n q->Up lt q n->J s'->G q s')->(kas_bin f p k).kasWp cmp G s
 | 0,p,k,s,hp,hk,hu,j,q=>by
  unfold kas_bin;have:k=n:=by omega
  subst this;exact q p s hp hu j
 | f+1,p,k,s,hp,hk,hu,j,q=>by
  unfold kas_bin;rw [KasT.kasWp_bind];refine a2m A hc hp (show k<n by omega) hu k 0 k s (Nat.zero_le _) (Nat.le_refl _) (by omega) (λ i h=>by omega) (λ i h1 h2=>by omega) j λ l s' hl a b j'=>?_;obtain ⟨r1,r2⟩:=a7G A hp (show k<n by omega) hl hu a b;exact a8H A hc f _ (k+1) s' r1 (by omega) r2 j' q
theorem b1d (A:Z7 n lt) (hc:a4H n lt J cmp) (h1:1<=n) {G:Array Nat->Shared->Prop} {s:Shared} (j:J s) (q:∀ p s',Rng n p->Up lt p n->J s'->G p s'):(kas_sort n).kasWp cmp G s:=by
 unfold kas_sort;rw [KasT.kasWp_bind];refine a9S A hc (show Rng n (List.toArray (List.range n)) from List.Perm.refl _) h1 j λ m p s' a b hp hu j'=>?_
 show KasT.kasWp cmp (if m<n then kas_bin (n - max m 1) p (max m 1) else .ret p) G s'
 by_cases hm:m<n
 ·rw [if_pos hm,show max m 1=m by omega]
  exact a8H A hc _ p m s' hp (by omega) hu j' q
 ·rw [if_neg hm]
  have:m=n:=by omega
  subst this;exact q p s' hp hu j'
end
section
variable {X:Cx} {pins:List (Addr×Obj)} {σ:St} {H:Hp} {s:Shared} {fr:List Nat} {scope:Scope} {col:Str} {qual:Str} {f:Addr} {cd:Value} {A':Around}
theorem a7K {params:Arguments} {body:Expr} {pm ctv:Value} {c':Addr} {v:V} {P:VK} {u:Value} {t:TE} {Q:Value->Shared->Prop} {E:Value->Shared->Prop} (I:Inv X pins σ H s) (hA:A'.frames=some X.stack) (hh:A'.handled=X.A.handled)
  (hroom:A'.depth<recursionLimit) (hk:scope.kind=.function) (h:Z5 X.env.scope scope X.N fr=true)
  (hcell:∀ x∈scope.names,x.2≠.cell) (hcol:scope.names.lookup col=some .local) (hco:scope.isCoroutine=false) (hgen:scope.isGenerator=false)
  (hf:s.heap.get? f=some (W.kla_obj "<lambda>" qual params body scope (clo X.env scope.names []) pm c' ctv)) (hcd:s.heap.CodeRec (.ref c') qual)
  (hb:∀ u:Value,bindArgs (W.kla_fn "<lambda>" qual params body scope (clo X.env scope.names []) pm (.ref c') ctv) ⟨[u],[]⟩=pure [(col,u)])
  (hbody:PE (a2M X col fr qual scope f (.ref c') A' s H) body t) (r:RelV v u) (ht:t (some v::frv fr σ) H P)
  (q:∀ w H' y s',RelV w y->P w H'->Inv X pins σ H' s'->Q y s'):wpAny (model X.prog X.w) A' (call (.ref f) [u]) Q E s:=by
 refine wpAny_call (W.kla_callFunE hroom hf rfl hco hgen rfl hcd ?_);rw [hb u];refine wpAny_pure (wpAny_newFunctionEnv hcell (λ y hy=>?_) (λ h₁ hns hsb=>?_) hk)
 ·cases List.mem_singleton.mp hy; exact hcol
 ·have kp:∀ b o,s.heap.get? b=some o->h₁.get? b=some o:=λ b o e=>hsb.extBut b o (Nat.ne_of_lt (Heap.lt_size e)) (Heap.get?_push_of_some _ e)
  refine ⟨I.nolimit.keeps kp,W.kla_codeExpr ?_⟩;have J:=I.lam (qual:=qual) (f:=f) (cd:=.ref c') (t':=s.toks+[(col,u)].length) hA hh hk h hcell hcol hns kp r;refine wpAny_mono (hbody [] _ _ _ _ J ht) (λ y s' hy=>?_) λ e s' z=>False.elim z;obtain ⟨w,H',J',rw',hp⟩:=hy;exact q w H' y s' rw' hp (I.call' (ch:=[]) J'.os J'.base J'.hok J'.bare λ b hb=>by cases hb)
end
section
variable {prog:Program} {w:World} {A:Around} {E:Value->Shared->Prop} {s:Shared}
theorem a5F {a b:Bool} {Q:Bool->Shared->Prop} (h:Q (!a&&b) s):wpAny (model prog w) A (oneLt' true (.bool a) (.bool b)) Q E s:=by
 rw [oneLt'_eq];simp only [if_true];refine wpAny_bind (wpAny_cRoomFor_byValue rfl ?_);refine wpAny_bind (wpAny_callSpecialIfBound?_slot (T:="bool") rfl F.slot_bool_lt ?_);refine wpAny_call_entry F.slot_bool_lt rfl F.entry_int_lt ?_ (F.args_int_lt_2 _ _)
 cases a <;> cases b
 ·show wpAny _ _ (ret (.bool (decide ((0:Int)<0)))) _ _ s
  exact wpAny_pure ⟨_,rfl,wpAny_truthy_bool h⟩
 ·show wpAny _ _ (ret (.bool (decide ((0:Int)<1)))) _ _ s
  exact wpAny_pure ⟨_,rfl,wpAny_truthy_bool h⟩
 ·show wpAny _ _ (ret (.bool (decide ((1:Int)<0)))) _ _ s
  exact wpAny_pure ⟨_,rfl,wpAny_truthy_bool h⟩
 ·show wpAny _ _ (ret (.bool (decide ((1:Int)<1)))) _ _ s
  exact wpAny_pure ⟨_,rfl,wpAny_truthy_bool h⟩
theorem a2b {a b:Int} {t u:Tok} {Q:Bool->Shared->Prop} (h:Q (decide (a<b)) s):wpAny (model prog w) A (oneLt' false (.int a t) (.int b u)) Q E s:=by
 rw [oneLt'_eq];simp only [Bool.false_eq_true,if_false];refine wpAny_bind (CmpOf.ints_lt (prog:=prog) (w:=w) (A:=A) (P:=λ i v=>∃ t,v=.int ([a,b].getD i 0) t) (λ i=>[a,b].getD i 0) (λ i v h=>h) 0 1 _ _ _ _ _ ⟨t,rfl⟩ ⟨u,rfl⟩ ?_);exact wpAny_truthy_bool h
abbrev a4P:=Bool×Int×Int
def kLt (k k':a4P):Bool:=if k.1=k'.1 then (if k.2.1=k'.2.1 then decide (k.2.2<k'.2.2) else decide (k.2.1<k'.2.1)) else (!k.1&&k'.1)
def kV3 (k:a4P):List V:=[.bl k.1,.int k.2.1,.int k.2.2]
theorem a2a (k:a4P):kLt k k=false:=by simp [kLt]
theorem a1u {a b:a4P}:kLt a b=true ↔ (a.1=false/\b.1=true)\/(a.1=b.1/\(a.2.1<b.2.1\/(a.2.1=b.2.1/\a.2.2<b.2.2))):=by
 unfold kLt
 by_cases e1:a.1=b.1
 ·rw [if_pos e1]
  have n1:¬ (a.1=false/\b.1=true):=by rw [e1]; rintro ⟨z,y⟩; rw [z] at y; cases y
  by_cases e2:a.2.1=b.2.1
  ·rw [if_pos e2,decide_eq_true_iff]
   constructor
   ·intro h; exact .inr ⟨e1,.inr ⟨e2,h⟩⟩
   ·rintro (z | ⟨_,z | ⟨_,z⟩⟩)
    ·exact absurd z n1
    ·omega
    ·exact z
  ·rw [if_neg e2,decide_eq_true_iff]
   constructor
   ·intro h; exact .inr ⟨e1,.inl h⟩
   ·rintro (z | ⟨_,z | ⟨z,_⟩⟩)
    ·exact absurd z n1
    ·exact z
    ·exact absurd z e2
 ·rw [if_neg e1]
  constructor
  ·intro h
   have h':(!a.1)=true/\b.1=true:=by simpa using h
   exact .inl ⟨by simpa using h'.1,h'.2⟩
  ·rintro (⟨z,y⟩ | ⟨z,_⟩)
   ·rw [z,y]; rfl
   ·exact absurd z e1
theorem a7N {a b c:a4P} (h:kLt a b=true) (h':kLt b c=true):kLt a c=true:=by
 rw [a1u] at *;rcases h with ⟨h1,h2⟩ | ⟨h1,h2⟩ <;> rcases h' with ⟨g1,g2⟩ | ⟨g1,g2⟩
 ·exact .inl ⟨h1,g2⟩
 ·exact .inl ⟨h1,g1 ▸ h2⟩
 ·exact .inl ⟨h1 ▸ g1,g2⟩
 ·exact .inr ⟨h1.trans g1,by omega⟩
theorem a7I {a b:a4P} (h:a.2.2≠b.2.2):kLt a b=true\/kLt b a=true:=by
 rw [a1u,a1u]
 cases e:a.1 <;> cases e':b.1
 ·by_cases z:a.2.1<b.2.1\/(a.2.1=b.2.1/\a.2.2<b.2.2)
  ·exact .inl (.inr ⟨rfl,z⟩)
  ·exact .inr (.inr ⟨rfl,by omega⟩)
 ·exact .inl (.inl ⟨rfl,rfl⟩)
 ·exact .inr (.inl ⟨rfl,rfl⟩)
 ·by_cases z:a.2.1<b.2.1\/(a.2.1=b.2.1/\a.2.2<b.2.2)
  ·exact .inl (.inr ⟨rfl,z⟩)
  ·exact .inr (.inr ⟨rfl,by omega⟩)
theorem b2s {x y:Addr} {k k':a4P} {its its':List Value} {Q:Bool->Shared->Prop} (hx:IsTup s.heap x its.toArray) (hy:IsTup s.heap y its'.toArray) (rx:Vals (kV3 k) its) (ry:Vals (kV3 k') its') (h:Q (kLt k k') s) :
  wpAny (model prog w) A (keyLt' (tuples' true) (.ref x) (.ref y)) Q E s:=by
 obtain ⟨k1,k2,k3⟩:=k;obtain ⟨l1,l2,l3⟩:=k';obtain ⟨ox,ex,_,nx,dx⟩:=hx;obtain ⟨oy,ey,_,ny,dy⟩:=hy;rcases rx with _ | ⟨a1,_ | ⟨a2,_ | ⟨a3,_ | _⟩⟩⟩
 rcases ry with _ | ⟨b1,_ | ⟨b2,_ | ⟨b3,_ | _⟩⟩⟩
 cases a1; cases b1;obtain ⟨t2,rfl⟩:=a2; obtain ⟨t3,rfl⟩:=a3; obtain ⟨u2,rfl⟩:=b2; obtain ⟨u3,rfl⟩:=b3;refine kat_lt ex dx ey dy ?_
 show KatLex _ _ _ _ _ _ [(.bool k1,.bool l1),(.int k2 t2,.int l2 u2),(.int k3 t3,.int l3 u3)] 0 s
 refine kat_cons (SeqAt.EqAt.bool_bool k1 l1 prog w _ _ ?_)
 by_cases e1:k1=l1
 ·subst e1
  rw [show (k1==k1)=true by simp];refine kat_yes (kat_cons (wpAny_eqBool_int ?_))
  by_cases e2:k2=l2
  ·subst e2
   rw [show (k2==k2)=true by simp];refine kat_yes (kat_cons (wpAny_eqBool_int ?_))
   by_cases e3:k3=l3
   ·subst e3
    rw [show (k3==k3)=true by simp];refine kat_yes (kat_nil ?_);rw [a2a] at h;exact h
   ·rw [show (k3==l3)=false by simpa using e3]
    refine kat_no (a2b ?_)
    simpa [kLt] using h
  ·rw [show (k2==l2)=false by simpa using e2]
   refine kat_no (a2b ?_)
   simpa [kLt,e2] using h
 ·rw [show (k1==l1)=false by simpa using e1]
  refine kat_no (a5F ?_)
  simpa [kLt,e1] using h
theorem a4Q {Q:List Value->Shared->Prop} {r:Addr} {a b c:Int} {t u v:Tok} {n:Nat} (hh:A.handled=none) (hr:IsRange s.heap r a b c t u v) (hsmall:Builtin.Range.small a b c=true)
  (hn:Builtin.Range.rangeSize a b c=n) (hlen:n<=2 ^ 24)
  (hQ:∀ h' tk (acc:Array Value),(∀ b o,s.heap.get? b=some o->h'.get? b=some o)->ItemsOf (λ i v=>∃ t,v=.int (a+i*c) t) acc n->Q acc.toList { s with heap:=h',toks:=tk }) :
  wpAny (model prog w) A (collect (.ref r)) Q E s:=by
 unfold collect;refine wpAny_bind (wpAny_runValue (codeAny_builtin F.entry_proto_collect ?_));rw [Around.under_plainId F.plain_proto_collect _]
 show wpAny _ A.in1 (newList [] >>= λ l=>again (.builtin "list.__iadd__" ⟨[l,.ref r],[]⟩)) _ _ s
 refine wpAny_bind (wpAny_newObj_type ?_);refine wpAny_pure ⟨plainId_quiet F.plain_list_iadd _,codeAny_builtin F.entry_list_iadd ?_⟩;rw [Around.under_plainId F.plain_list_iadd _]
 show wpAny _ A.in1 (Builtin.List.listExtendWith (.ref s.heap.objs.size) (.ref r) (.ref s.heap.objs.size)) _ _ _
 have hS:(s.heap.push { cls:=.type "list",data:=.seq ([]:List Value).toArray }).get? s.heap.objs.size=some { cls:=.type "list",data:=.seq #[] }:=Heap.get?_push_size _ rfl;refine wpAny_extend_range (R:=λ r s'=>match r with
  | .ok (.ret v)=>wpAny (model prog w) A (match v with
   | .ref a=>(do
    let o <- load a
    match o.data with
    | .seq xs _=>pure xs.toList
    | _=>unsupported "internal:collect")
   | _=>unsupported "internal:collect") Q E s'
  | .ok _=>False
  | .error e=>E e s') (A:=A) (s:={ s with heap:=s.heap.push { cls:=.type "list",data:=.seq ([]:List Value).toArray } }) hh (Heap.get?_push_of_some _ hr) hsmall hn hlen _ _ 0 hS λ h' tk acc' c' hk hS' hacc=>?_
 refine wpAny_bind (wpAny_load hS' ?_);exact wpAny_pure (hQ h' tk acc' (λ b o e=>hk b o (Nat.ne_of_lt (Heap.lt_size e)) (Heap.get?_push_of_some _ e)) hacc)
end
end L2
set_option maxHeartbeats 1000000
namespace L2
open PySem PySem.Spec PyProof.Rows PySem.W
section
variable {X:Cx} {pins:List (Addr×Obj)} {σ:St} {H H':Hp} {s:Shared} {kS D fq:Addr} {ns:List Int} {g:Int->Bool×Int} {E:Value->Shared->Prop}
abbrev a0s (g:Int->Bool×Int) (m:Int):a4P:=((g m).1,(g m).2,m)
def KeysAt (g:Int->Bool×Int) (H:Hp) (ns:List Int) (vs:List V):Prop:=Paired (λ m v=>∃ t,v=V.ref t/\H t=some (.tup (kV3 (a0s g m)))) ns vs
theorem KeysAt.same {vs:List V} (h:KeysAt g H ns vs) (e:∀ b xs,H b=some (.tup xs)->H' b=some (.tup xs)):KeysAt g H' ns vs:=by
 induction h with
 | nil=>exact .nil
 | cons r _ ih =>
  obtain ⟨t,z,q⟩:=r;exact .cons ⟨t,z,e _ _ q⟩ ih
theorem KeysAt.snoc {vs:List V} {m:Int} {t:Addr} (h:KeysAt g H ns vs) (q:H t=some (.tup (kV3 (a0s g m)))):KeysAt g H (ns++[m]) (vs++[.ref t]):=by
 induction h with
 | nil=>exact .cons ⟨t,rfl,q⟩ .nil
 | cons r _ ih=>exact .cons r ih
abbrev T6 (a:Addr) (o:Obj):HO:=.ext λ h=>h.get? a=some o
abbrev a8u (X:Cx) (pins:List (Addr×Obj)) (σ:St) (H:Hp) (fq:Addr) (ns:List Int) (g:Int->Bool×Int):Prop :=
 ∀ H',Same H H'->∀ m∈ns,∀ (u:Value) (s:Shared) (Q:Value->Shared->Prop) (E:Value->Shared->Prop),Inv X pins σ H' s->RelV (.int m) u →
  (∀ t s',H' t=none->Inv X pins σ (upd H' t (.tup (kV3 (a0s g m)))) s'->Q (.ref t) s')->wpAny (model X.prog X.w) X.A.in1.in1 (call (.ref fq) [u]) Q E s
theorem a6d {A:Around} {M:Model} {f:Value} {C:List Value->Shared->Prop} {body:Value->PUnit->Sem (ForInStep PUnit)}
  (hb:∀ x (s:Shared) (R:Shared->Prop),wpAny M A (call f [x]) (λ k s'=>∃ (ks:List Value) (e:Nat),s'.heap.get? kS=some (seqObj "list" ks.toArray e)/\ks.length<64/\R { s' with heap:=s'.heap.update kS (Obj.mapSeq (·.push k)) }) (λ _ _=>False) s →
   wpAny M A (body x ⟨⟩) (λ r s'=>r=.yield ⟨⟩/\R s') E s)
  (st:∀ x r s,C (x::r) s->wpAny M A (call f [x]) (λ k s'=>∃ (ks:List Value) (e:Nat),s'.heap.get? kS=some (seqObj "list" ks.toArray e)/\ks.length<64/\C r { s' with heap:=s'.heap.update kS (Obj.mapSeq (·.push k)) }) (λ _ _=>False) s) :
  ∀ (r:List Value) (s:Shared),C r s->wpAny M A (forIn r PUnit.unit body) (λ _ s'=>C [] s') E s
 | [],s,h=>by rw [List.forIn_nil]; exact wpAny_pure h
 | x::r,s,h=>by
  rw [List.forIn_cons];refine wpAny_bind (wpAny_mono (hb x s (C r) (st x r s h)) (λ q s' hq=>?_) λ _ _ z=>z);obtain ⟨rfl,h'⟩:=hq;exact a6d hb st r s' h'
theorem Inv.lsetS {o:Obj} {its':List Value} {f:Array Value->Array Value} {ys:List V} {n:Nat} (I:Inv X pins σ H s) (hH:H D=some (T6 D (seqObj "list" #[] n)))
  (hf:f #[]=its'.toArray) (hv:Vals ys its') (hz:ys.length<=sizeLine) :
  Inv X pins σ (upd H D (.lst ys)) { s with heap:=s.heap.update D (Obj.mapSeq f) }:=by
 have e:s.heap.get? D=some (seqObj "list" #[] n):=(I.hok D _ hH).1;have q:=PySem.IsL.update (show s.heap.get? D=some { cls:=.type "list",data:=.seq (([]:List Value).toArray) n } from e) f;rw [hf] at q;refine I.write (x:=D) (e:=D) (by rw [hH]; exact trivial) (.inl rfl) (λ b' u hb hu=>(Heap.get?_update_other s.heap (Obj.mapSeq f) (Ne.symm hb)).trans hu) ⟨_,q⟩ ?_;exact ⟨hz,its',_,hv,q⟩
def Sk3 (g:Int->Bool×Int) (ns ns':List Int):Prop:=ns'.Perm ns/\ns'.Pairwise λ a b=>kLt (a0s g a) (a0s g b)=true
theorem a7g {A:Around} {st:SortSt} {e1:Nat} {vs:List V} {ns':List Int} {out:List Value} {P:PySem.Fin->Shared->Prop} (I:Inv X pins σ H s) (hk:H kS=some (.lst vs)) (hD:H D=some (T6 D (seqObj "list" #[] e1)))
  (hv:vs.length<64) (ho:(arrOf st).map (·.2)=out.toArray) (ro:Vals (ns'.map V.int) out) (hn:ns'.length<64) (hf:failedOf st=none)
  (k:∀ s',Inv X pins σ (upd (upd H kS (.lst [])) D (.lst (ns'.map V.int))) s'->P (.done (.ret .none)) s'):wpAny (model X.prog X.w) A (ksk_tail D false e1 (.ref kS) st) P E s:=by
 obtain ⟨z,its,c,r,hl,e⟩:=I.lstM hk;have li:its.length=vs.length:=hl.symm;have lo:out.length=ns'.length:=by have:=ro.length; simpa using this.symm
 have hne:D≠kS:=S2 hD hk nofun;unfold ksk_tail
 try dsimp only
 rw [ho];have I1:=I.lset (t':=s.toks) (f:=λ _=>#[]) (its':=[]) (ys:=[]) hk e rfl .nil (Nat.zero_le _);refine wpAny_bind (listUpdate_at e rfl ?_ (by rw [List.size_toArray,sizeLine_eq]; omega) (Nat.zero_le _));refine wpAny_bind (wpAny_letGo ?_);have hD1:(upd H kS (.lst [])) D=some (T6 D (seqObj "list" #[] e1)):=by rw [c7 hne]; exact hD
 have eD:=(I1.hok D _ hD1).1;refine wpAny_bind (seqEpoch_at eD rfl ?_);have I2:=I1.lsetS (o:=default) (f:=λ _=>out.toArray) (its':=out) (ys:=ns'.map V.int) hD1 rfl ro (by rw [List.length_map]; exact Nat.le_trans (Nat.le_of_lt hn) (by decide));refine wpAny_bind (listUpdate_at eD rfl ?_ (Nat.zero_le _) (by show out.toArray.size<=_; rw [List.size_toArray,sizeLine_eq]; omega));rw [hf];simp only [bne_self_eq_false,Bool.false_eq_true,if_false];exact wpAny_pure (k _ I2)
theorem a9o {α:Type} {R:α->α->Prop}:∀ {l:List α},l.length<2->l.Pairwise R
 | [],_=>.nil
 | [_],_=>.cons (λ b hb=>by cases hb) .nil
theorem a0n {α β:Type} {F:α->β->Prop}:∀ {l:List α} {l':List β} {i:Nat} {a:α},Paired F l l'->l[i]?=some a->∃ b,l'[i]?=some b/\F a b
 | _,_,_,_,.nil,e=>by simp at e
 | _,_,0,_,.cons r _,e=>by simp at e; subst e; exact ⟨_,rfl,r⟩
 | _,_,i+1,x,.cons _ t,e=>by
  obtain ⟨b,h1,h2⟩:=a0n (i:=i) (a:=x) t (by simpa using e);exact ⟨b,by simpa using h1,h2⟩
theorem a9T {vs:List V} {ks:List Value} (h:KeysAt g H ns vs) (r:Vals vs ks) (I:Inv X pins σ H s) {i:Nat} (hi:i<ns.length):∃ t its,ks.getD i Value.none=.ref t/\IsTup s.heap t its.toArray/\Vals (kV3 (a0s g (ns.getD i 0))) its:=by
 have e:ns[i]?=some (ns.getD i 0):=by rw [List.getD_eq_getElem?_getD,List.getElem?_eq_getElem hi]; rfl
 obtain ⟨v,hv,t,rfl,q⟩:=a0n h e;obtain ⟨u,hu,ru⟩:=r.get hv
 cases ru;obtain ⟨_,its,rt,ht⟩:=I.hok t _ q;exact ⟨t,its,by rw [List.getD_eq_getElem?_getD,hu]; rfl,ht,rt⟩
theorem a1k {h:Heap}:∀ {ns:List Int} {vs:List V} {ks:List Value},KeysAt g H ns vs->Vals vs ks->HOk X.prog X.w H h->∃ fs:List Value,KatTups h ks fs/\fs.length=ns.length/\∀ v∈fs,∃ b,v=Value.bool b
 | _,_,_,.nil,.nil,_=>⟨[],.nil,rfl,λ v hv=>by cases hv⟩
 | _,_,_,.cons (a:=m) ⟨t,e,q⟩ hr,.cons rv rr,I=>by
  subst e
  cases rv;obtain ⟨fs,k1,k2,k3⟩:=a1k hr rr I;obtain ⟨_,its,rt,o,ho,hc,n,hd⟩:=I t _ q;rcases rt with _ | ⟨a1,_ | ⟨a2,_ | ⟨a3,_ | _⟩⟩⟩
  cases a1;exact ⟨_::fs,KatTups.cons ho hc hd rfl k1,congrArg (·+1) k2,λ v hv=>(List.mem_cons.mp hv).elim (λ z=>⟨_,z⟩) (k3 v)⟩
theorem b3C {e1:Nat} {vs:List V} {ks its:List Value} {P:PySem.Fin->Shared->Prop} (I:Inv X pins σ H s) (hk:H kS=some (.lst vs)) (hD:H D=some (T6 D (seqObj "list" #[] e1)))
  (K:KeysAt g H ns vs) (rk:Vals vs ks) (ri:Vals (ns.map V.int) its) (hn:ns.length<64) (nd:ns.Nodup)
  (k:∀ ns' s',Sk3 g ns ns'->Inv X pins σ (upd (upd H kS (.lst [])) D (.lst (ns'.map V.int))) s'->P (.done (.ret .none)) s') :
  wpAny (model X.prog X.w) X.A.in1.in1 (ksk_end D false its.toArray e1 (.ref kS) ks.toArray) P E s:=by
 have li:its.length=ns.length:=by have:=ri.length; simpa using this.symm
 have lv:vs.length=ns.length:=K.length.symm;have lk:ks.length=its.length:=by rw [<- rk.length,lv,li]
 unfold ksk_end
 try dsimp only
 simp only [Bool.false_eq_true,if_false]
 by_cases h2:its.toArray.size<2
 ·rw [if_pos h2,if_pos h2]
  refine wpAny_bind (wpAny_pure ?_);rw [StateT.run_pure];refine wpAny_bind (wpAny_pure ?_)
  try dsimp only
  refine a7g (out:=its) (ns':=ns) I hk hD (by omega) ?_ ri hn rfl λ s' I'=>k ns s' ⟨.refl _,?_⟩ I'
  ·apply Array.toList_inj.mp
   show ((ks.toArray.zip its.toArray).map (·.2)).toList=its.toArray.toList
   simp only [Array.toList_map,Array.toList_zip];exact List.map_snd_zip (by omega)
  ·have:ns.length<2:=by rw [List.size_toArray] at h2; omega
   exact a9o this
 ·rw [if_neg h2,if_neg h2]
  rw [List.size_toArray] at h2;obtain ⟨fs,kt,lf,bf⟩:=a1k K rk I.hok;refine wpAny_bind (kat_kind (T:=.type "bool") kt (by omega) (λ v hv=>?_) (by rfl) ?_)
  ·obtain ⟨b,rfl⟩:=bf v hv
   exact .now
  ·have ht:(Value.type "bool" != Value.type "tuple")=true:=by rfl
   rw [ht]
   let lt:Nat->Nat->Bool:=λ i j=>kLt (a0s g (ns.getD i 0)) (a0s g (ns.getD j 0))
   have AO:Z7 its.length lt:=by
    refine ⟨λ i _=>a2a _,λ i j k _ _ _ a b=>a7N a b,λ i j hi hj ne=>a7I ?_⟩
    show ns.getD i 0≠ns.getD j 0
    have ei:ns.getD i 0=ns[i]'(by omega):=by simp [show i<ns.length by omega]
    have ej:ns.getD j 0=ns[j]'(by omega):=by simp [show j<ns.length by omega]
    rw [ei,ej];exact λ z=>ne ((List.getElem_inj nd).mp z)
   refine wpAny_bind (wpAny_mono (kat_run (Q:=λ st' s'=>s'=s/\∃ p:Array Nat,Rng its.length p/\Up lt p its.length/\arrOf st'=p.map (kas_item (ks.toArray.zip its.toArray))/\failedOf st'=none)
    (G:=λ p s'=>s'=s/\Rng its.length p/\Up lt p its.length) lk (by omega) (by omega) (λ p' st' s' a1 a2 a3 a4=>⟨a4.1,p',a4.2.1,a4.2.2,a2,a3⟩)
    (b1d (J:=λ s'=>s'=s) AO (λ i j C s' hi hj js hC=>?_) (by omega) rfl λ p s' a b c=>⟨c,a,b⟩)) ?_ λ _ _ x=>x)
   ·subst js
    obtain ⟨t1,it1,e1,q1,r1⟩:=a9T K rk I (i:=i) (by omega);obtain ⟨t2,it2,e2,q2,r2⟩:=a9T K rk I (i:=j) (by omega)
    show wpAny (model X.prog X.w) X.A.in1.in1 (keyLt' (tuples' true) (ks.getD i Value.none) (ks.getD j Value.none)) C (λ _ _=>False) _
    rw [e1,e2];exact b2s q1 q2 r1 r2 (hC _ rfl)
   ·rintro ⟨⟨⟩,st'⟩ s' ⟨rfl,p,hp,hu,har,hf⟩
    try dsimp only
    have hz:=hp.size
    let ns':List Int:=p.toList.map λ i=>ns.getD i 0
    have ro:Vals (ns'.map V.int) (p.toList.map λ i=>its.getD i Value.none):=by
     rw [List.map_map];have:∀ (q:List Nat),(∀ i∈q,i<ns.length)->Vals (q.map (V.int ∘ λ i=>ns.getD i 0)) (q.map λ i=>its.getD i Value.none):=by
      intro q
      induction q with
      | nil=>intro _; exact .nil
      | cons a q ih =>
       intro hq;refine .cons ?_ (ih λ i hi=>hq i (List.mem_cons_of_mem _ hi));have ha:=hq a List.mem_cons_self;have e:(ns.map V.int)[a]?=some (V.int (ns.getD a 0)):=by rw [List.getElem?_map,List.getD_eq_getElem?_getD,List.getElem?_eq_getElem ha]; rfl
       obtain ⟨u,hu,ru⟩:=ri.get e
       show RelV (V.int (ns.getD a 0)) (its.getD a Value.none)
       have e2:its.getD a Value.none=u:=by rw [List.getD_eq_getElem?_getD,hu]; rfl
       rw [e2];exact ru
     exact this _ λ i hi=>by have:=List.mem_range.mp (hp.mem_iff.mp hi); omega
    have ln:ns'.length=ns.length:=by show (p.toList.map _).length=_; rw [List.length_map,Array.length_toList,hz,li]
    refine a7g (ns':=ns') I hk hD (by omega) (kat_snds lk har) ro (by omega) hf λ s' I'=>k ns' s' ⟨?_,?_⟩ I'
    ·have e0:ns=(List.range its.length).map λ i=>ns.getD i 0:=by
      apply List.ext_getElem
      ·simp [li]
      ·intro i h1 h2
       simp [show i<ns.length from h1]
     have:=List.Perm.map (λ i=>ns.getD i 0) hp;rw [<- e0] at this;exact this
    ·show (p.toList.map λ i=>ns.getD i 0).Pairwise _
     rw [List.pairwise_map,List.pairwise_iff_getElem];intro i j hi hj hij;have:=hu i j hij (by rw [Array.length_toList] at hj; omega);have gi:p.getD i 0=p.toList[i]:=by simp [Array.getD,show i<p.size by rw [Array.length_toList] at hi; omega]
     have gj:p.getD j 0=p.toList[j]:=by simp [Array.getD,show j<p.size by rw [Array.length_toList] at hj; omega]
     rw [gi,gj] at this;exact this
theorem b0T {e1:Nat} {its:List Value} {P:PySem.Fin->Shared->Prop} (I:Inv X pins σ H s) (turn:a8u X pins σ H' fq ns g) (sm:Same H' H) (fk:H' kS=none) (hk:H kS=some (.lst [])) (hD:H D=some (T6 D (seqObj "list" #[] e1)))
  (ri:Vals (ns.map V.int) its) (hn:ns.length<64) (nd:ns.Nodup)
  (k:∀ ns' H'' s',Sk3 g ns ns'->Same H' H''->H'' D=some (T6 D (seqObj "list" #[] e1))->H'' kS≠none->Inv X pins σ (upd (upd H'' kS (.lst [])) D (.lst (ns'.map V.int))) s'->P (.done (.ret .none)) s') :
  wpAny (model X.prog X.w) X.A.in1.in1 (ksk_rest D (.ref fq) false its.toArray e1 (.ref kS)) P E s:=by
 unfold ksk_rest;refine wpAny_bind (wpAny_rule ?_);rw [List.forIn_toArray];refine wpAny_bind (wpAny_mono (a6d (kS:=kS) (E:=E) (f:=.ref fq) (C:=λ r s'=>∃ kn rn vs H1,ns=kn++rn/\Vals (rn.map V.int) r/\Same H' H1/\H1 kS=some (.lst vs)/\H1 D=some (T6 D (seqObj "list" #[] e1))/\KeysAt g H1 kn vs/\Inv X pins σ H1 s')
  (λ x s' R hx=>?_) (λ x r s' hC=>?_) its s ⟨[],ns,[],H,rfl,ri,sm,hk,hD,.nil,I⟩) (λ _ s' hd=>?_) λ _ _ z=>z)
 ·refine wpAny_bind (wpAny_attempt (wpAny_mono hx (λ k s2 hk2=>?_) λ _ _ z=>z.elim))
  obtain ⟨ks,e,ek,lk,r⟩:=hk2
  try dsimp only
  refine wpAny_bind (listUpdate_at ek rfl ?_ (by rw [List.size_toArray,sizeLine_eq]; omega) (by rw [Array.size_push,List.size_toArray,sizeLine_eq]; omega));exact wpAny_pure ⟨rfl,r⟩
 ·obtain ⟨kn,rn,vs,H1,en,rr,sm1,k1,D1,K1,I1⟩:=hC
  match rn,rr with
  | m::rn,.cons ru rr =>
  refine turn H1 sm1 m (by rw [en]; simp) x s' _ _ I1 ru λ t s2 ht I2=>?_;have nk:kS≠t:=g0 k1 ht;have nD:D≠t:=g0 D1 ht;have nkD:D≠kS:=S2 D1 k1 nofun;have k2:(upd H1 t (.tup (kV3 (a0s g m)))) kS=some (.lst vs):=by rw [c7 nk]; exact k1
  obtain ⟨z,ks,c,rk,hl,e⟩:=I2.lstM k2;have lv:vs.length=kn.length:=K1.length.symm;have hlen:kn.length+1<=ns.length:=by rw [en,List.length_append,List.length_cons]; omega
  refine ⟨ks,c,e,by omega,kn++[m],rn,vs++[.ref t],_,by rw [en]; simp,rr,?_,upd_same,?_,?_,I2.lset (f:=λ a=>a.push (.ref t)) (its':=ks++[.ref t]) (t':=s2.toks) k2 e (by simp) (rk.append (.cons (show RelV (.ref t) (.ref t) from rfl) .nil)) (by rw [List.length_append,List.length_singleton]; exact Nat.le_trans (show vs.length+1<=64 by omega) (by decide))⟩
  ·intro b o q
   have nb:b≠kS:=λ z=>by subst z; rw [fk] at q; cases q
   have nb2:b≠t:=g0 (sm1 b o q) ht;rw [c7 nb,c7 nb2];exact sm1 b o q
  ·rw [c7 nkD,c7 nD]; exact D1
  ·refine KeysAt.snoc (K1.same λ b xs q=>?_) ?_
   ·have nb:b≠kS:=S2 q k1 nofun
    rw [c7 nb,c7 (g0 q ht)];exact q
   ·rw [c7 (Ne.symm nk),upd_same]
 ·obtain ⟨kn,rn,vs,H1,en,rr,sm1,k1,D1,K1,I1⟩:=hd
  have e0:rn=[]:=by cases rn with | nil=>rfl | cons _ _=>cases rr
  subst e0;rw [List.append_nil] at en;subst en;obtain ⟨z,ks,c,rk,hl,e⟩:=I1.lstM k1;refine wpAny_bind (listItems_at e rfl ?_);exact b3C I1 k1 D1 K1 rk ri hn nd λ ns' s2 a b=>k ns' H1 s2 a sm1 D1 (by rw [k1]; nofun) b
theorem b0R {p:Addr} {n:Nat} {Q:Value->Shared->Prop} (hc:X.calm=true) (I:Inv X pins σ H s) (hr:H p=some (.rng 0 n)) (hn:n<64) (turn:a8u X pins σ H fq ((List.range n).map λ (i:Nat)=>(i:Int)) g)
  (k:∀ l ns' H' s',Sk3 g ((List.range n).map λ (i:Nat)=>(i:Int)) ns'->Same H H'->H l=none->H' l=some (.lst (ns'.map V.int))->Inv X pins σ H' s'->Q (.ref l) s') :
  wpAny (model X.prog X.w) X.A (call (.builtin "sorted") [.ref p] [("key",.ref fq)]) Q E s:=by
 refine call_function_entry_kw kind_sorted plain_sorted entry_sorted (ksk_s1 _ _) ?_;unfold Builtin.«sorted»;refine wpAny_bind (m:=checkCount "sorted" 1 1 _) (wpAny_pure ?_);obtain ⟨t,u,v,e⟩:=I.hok p _ hr;have hsz:Builtin.Range.rangeSize 0 (n:Int) 1=n:=by rw [rangeSize_one]; split <;> omega
 refine wpAny_bind (a4Q (A:=X.A.in1) (I.ok.hd hc) e (small_one (by omega) (by omega) (by omega) (by omega)) hsz (by omega) λ h1 tk1 acc hk1 hacc=>?_);have hv:Vals (((List.range n).map λ (i:Nat)=>(i:Int)).map V.int) acc.toList:=by
  rw [List.map_map];refine a0o n acc.toList (λ i=>(i:Int)) (by simpa using hacc.1) λ j v q=>?_;obtain ⟨t,rfl⟩:=hacc.2 j v (by simpa using q);exact ⟨t,by simp⟩
 have ln:((List.range n).map λ (i:Nat)=>(i:Int)).length=n:=by simp
 have la:acc.toList.length=n:=by have:=hv.length; simpa using this.symm
 have I1:=I.kept (h':=h1) (t':=tk1) hk1;refine wpAny_bind (wpAny_newList ?_ (by rw [sizeLine_eq]; omega));have hoL:(h1.push (seqObj "list" acc.toList.toArray 0)).get? h1.objs.size=some (seqObj "list" acc.toList.toArray 0):=Heap.get?_push_size _ rfl;refine wpAny_bind (wpAny_holding (wpAny_call_entry_kw slot_list_sort ⟨_,hoL,rfl⟩ entry_list_sort ?_ (ksk_l1 _ _)))
 show wpAny (model X.prog X.w) X.A.in1.in1 (Builtin.«list.sort» ⟨[.ref h1.objs.size],[(Str.ofString "key",.ref fq)]⟩) _ _ _
 rw [ksk_t1];unfold ksk_tree;refine wpAny_bind (listItems_at hoL rfl ?_);refine wpAny_bind (listUpdate_at hoL rfl ?_ (by rw [List.size_toArray,sizeLine_eq]; omega) (Nat.zero_le _));obtain ⟨e1,ho1⟩:∃ e1,((h1.push (seqObj "list" acc.toList.toArray 0)).update h1.objs.size (Obj.mapSeq λ _=>(#[]:Array Value))).get? h1.objs.size=some (seqObj "list" #[] e1):=⟨_,get?_update_seq hoL λ _=>#[]⟩;refine wpAny_bind (seqEpoch_at ho1 rfl ?_);refine wpAny_bind (wpAny_newTuple ?_ (by show acc.toList.length<=_; rw [sizeLine_eq]; omega));refine wpAny_bind (wpAny_newList ?_ (Nat.zero_le _));refine wpAny_holding ?_;have D:Addr:=h1.objs.size;have kp:∀ b o,h1.get? b=some o->((h1.push (seqObj "list" acc.toList.toArray 0)).update h1.objs.size (Obj.mapSeq λ _=>(#[]:Array Value))).get? b=some o:=λ b o q=>by
  rw [Heap.get?_update_ne _ _ _ _ (Nat.ne_of_lt (Heap.lt_size q))];exact Heap.get?_push_of_some _ q
 have I2:=I1.laid (a:=h1.objs.size) (o:=T6 h1.objs.size (seqObj "list" #[] e1)) (t':=tk1) kp (Nat.le_refl _) ⟨ho1,⟨_,ho1⟩,λ x y a b=>b _ a⟩;have I3:=I2.kept (h':=((h1.push (seqObj "list" acc.toList.toArray 0)).update h1.objs.size (Obj.mapSeq λ _=>(#[]:Array Value))).push (seqObj "tuple" acc.toList.toArray 0)) (t':=tk1) λ b u q=>Heap.get?_push_of_some _ q;have I4:=I3.lnew (its:=[]) (ys:=[]) (t':=tk1) .nil (Nat.zero_le _);have f1:H h1.objs.size=none:=I1.fresh;have f2:(upd H h1.objs.size (T6 h1.objs.size (seqObj "list" #[] e1))) (((h1.push (seqObj "list" acc.toList.toArray 0)).update h1.objs.size (Obj.mapSeq λ _=>(#[]:Array Value))).push (seqObj "tuple" acc.toList.toArray 0)).objs.size=none:=I3.fresh;have ne:h1.objs.size≠(((h1.push (seqObj "list" acc.toList.toArray 0)).update h1.objs.size (Obj.mapSeq λ _=>(#[]:Array Value))).push (seqObj "tuple" acc.toList.toArray 0)).objs.size:=g0 upd_same f2;have f3:H (((h1.push (seqObj "list" acc.toList.toArray 0)).update h1.objs.size (Obj.mapSeq λ _=>(#[]:Array Value))).push (seqObj "tuple" acc.toList.toArray 0)).objs.size=none:=by
  rw [c7 (Ne.symm ne)] at f2; exact f2
 refine b0T (H':=H) I4 turn (λ b o q=>?_) f3 upd_same (by rw [c7 ne]; exact upd_same) hv (by rw [ln]; exact hn) ?_ λ ns' H2 s2 S sm D2 k2 I5=>?_
 ·rw [c7 (g0 q f3),c7 (g0 q f1)]
  exact q
 ·exact List.Pairwise.map _ (λ a b (h:a≠b)=>show (a:Int)≠(b:Int) by omega) List.nodup_range
 ·refine ⟨_,rfl,wpAny_pure ⟨_,rfl,k _ ns' _ s2 S (λ b o q=>?_) f1 upd_same I5⟩⟩
  rw [c7 (g0 q f1),c7 (g0 q f3)];exact sm b o q
end
def b1e (K:W.Frag) (P:Addr) (lpos:Pos) (qual:Str) (fr:List Nat) (t:TA) (tb:TE):TE:=λ σ H Q=>t σ H λ vs H1=>∃ (p:Addr) (n:Nat) (g:Int->Bool×Int),vs=[.ref p]/\H1 p=some (.rng 0 n)/\n<64/\LamTab P lpos qual H1 ∧
 ∀ H2,Same1 P H1 H2->LamTab P lpos qual H2->(∀ H3,Same H2 H3->∀ m∈((List.range n).map λ (i:Nat)=>(i:Int)),tb (some (.int m)::frv fr σ) H3 λ y H'=>∃ t,y=.ref t/\H3 t=none/\H'=upd H3 t (.tup (kV3 (a0s g m)))) ∧
  ∀ H3 l ns',Same H2 H3->H2 l=none->H3 l=some (.lst (ns'.map V.int))->Sk3 g ((List.range n).map λ (i:Nat)=>(i:Int)) ns'->Q (.ref l) H3
section
variable {X:Cx} {e body:Expr} {es:List Expr} {t:TA} {tb:TE} {fr:List Nat} {scope:Scope} {col:Str} {c P:Addr} {params:Arguments} {p pos lpos kp1:Pos}
theorem a5Q (hc:X.calm=true) (hr:Room 3 X.A) (hg:Gl X "sorted") (hm:X.mg "sorted"=none) (hcode:X.env.code=.ref c) (C:W.CodeHd X.base c P) (B:N8 X.mg X.base) (hlc:Z5 X.env.scope scope X.N fr=true) (hk:scope.kind=.function)
  (hcell:∀ x∈scope.names,x.2≠.cell) (hcol:scope.names.lookup col=some .local) (hco:scope.isCoroutine=false) (hgen:scope.isGenerator=false)
  (hb:∀ (pm ctv:Value) (c':Addr) (u:Value),bindArgs (W.kla_fn "<lambda>" (X.env.qual++"<lambda>") params body scope (clo X.env scope.names []) pm (.ref c') ctv) ⟨[u],[]⟩=pure [(col,u)])
  (ha:PA X [e] t) (hbody:∀ (f:Addr) (cd:Value) (s:Shared) (H:Hp),PE (a2M X col fr (X.env.qual++"<lambda>") scope f cd X.A.in1.in1 s H) body tb) (hdef:defaultsOf params X.env=([],[]):=by rfl)
  (he:backTo pos (starEach [e] X.env)=(false,eval e X.env)::backTo pos (starEach [] X.env):=by rfl) (hpl:(backTo pos (starEach [e] X.env)).any (·.1)=false:=by rfl) :
  PE X (.Call (.Name "sorted" p) [e] [⟨some "key",.Lambda params body scope lpos,kp1⟩] pos) (b1e X.K P lpos (X.env.qual++"<lambda>") fr t tb):=by
 intro pins s σ H Q I h;refine wpAny_Call_Name_kw (T9 I hg hm (u:=.builtin "sorted") rfl ?_);refine PyProof.Rows.callWith_kw (C2 (ha pos pins s σ H _ I h) λ us s1 ⟨vs,H1,I1,r,l,n,g,ev,hl,hn,T,q⟩=>?_) he hpl;subst ev;obtain ⟨u,rfl,ru⟩:=O7 r
 cases ru
 show wpAny _ _ (evalAll [(do let v <- eval (.Lambda params body scope lpos) X.env; standAt pos; pure v)]) _ _ s1
 refine wpAny_evalAll_cons (wpAny_bind (a4w I1 hcode C B T hlc hdef λ f c' ctv pm H2 s2 I2 T2 e2 Hc' _=>wpAny_bind (wpAny_standAt (wpAny_pure (wpAny_evalAll_nil ?_)))));obtain ⟨q1,q2⟩:=q H2 e2 T2;have nP:l≠P:=λ z=>by
  subst z;rcases T with t | ⟨c,t,_⟩ <;> (rw [hl] at t; cases t)
 have hl2:=e2 l _ nP hl;have drop:∀ {po:Addr×Obj} {H' s'},Inv X (po::pins) σ H' s'->Inv X pins σ H' s':=λ J=>J.pins_of λ p hp=>J.pin p (List.mem_append_right _ (List.mem_cons_of_mem _ hp));have hd':X.A.in1.in1.depth<recursionLimit:=by
  have z:X.A.in1.in1.depth+3*1+5<recursionLimit:=hr.in1.in1.dp;omega
 refine b0R (g:=g) hc I2 hl2 hn (λ H3 sm m hm u s3 Q3 E3 I3 ru k3=>?_) λ l ns' H3 s3 S sm f1 l1 I3=>⟨.ref l,H3,drop I3,rfl,q2 H3 l ns' sm f1 l1 S⟩;obtain ⟨cr,_,_⟩:=I3.hok c' _ (sm c' _ Hc');refine a7K I3 I3.ok.frames rfl hd' hk hlc hcell hcol hco hgen (I3.pin _ (List.mem_append_right _ List.mem_cons_self)).1 cr (hb pm ctv c') (hbody f (.ref c') s3 H3) ru (q1 H3 sm m hm) λ w H' y s' rw' hp I'=>?_;obtain ⟨t,rfl,ht,rfl⟩:=hp
 cases rw';exact k3 t s' ht I'
end
end L2
namespace L2
open PySem
def Same2 (P1 P2:Addr) (H H':Hp):Prop:=∀ b o,b≠P1->b≠P2->H b=some o->H' b=some o
theorem Same2.refl {P1 P2:Addr} {H:Hp}:Same2 P1 P2 H H:=λ _ _ _ _ h=>h
theorem Same2.trans {P1 P2:Addr} {H H1 H2:Hp} (a:Same2 P1 P2 H H1) (b:Same2 P1 P2 H1 H2):Same2 P1 P2 H H2:=λ c o n m h=>b c o n m (a c o n m h)
theorem Same1.to2 {P1 P2:Addr} {H H':Hp} (e:Same1 P1 H H'):Same2 P1 P2 H H':=λ b o n _ h=>e b o n h
theorem Same1.to2' {P1 P2:Addr} {H H':Hp} (e:Same1 P2 H H'):Same2 P1 P2 H H':=λ b o _ n h=>e b o n h
theorem Same.to2 {P1 P2:Addr} {H H':Hp} (e:Same H H'):Same2 P1 P2 H H':=λ b o _ _ h=>e b o h
theorem Same2.get {P1 P2:Addr} {p1 p2:Pos} {q1 q2:Str} {H H':Hp} {b:Addr} {o:HO} (T1:LamTab P1 p1 q1 H) (T2:LamTab P2 p2 q2 H) (e:Same2 P1 P2 H H') (h:H b=some o) (n:∀ ps,o≠.tbl ps):H' b=some o:=e b o (T1.ne h n) (T2.ne h n) h
theorem LamTab.other {P1 P2:Addr} {p1 p2:Pos} {q1 q2:Str} {H H':Hp} (T1:LamTab P1 p1 q1 H) (T2:LamTab P2 p2 q2 H) (ne:P2≠P1) (e:Same1 P1 H H'):LamTab P2 p2 q2 H':=by
 rcases T2 with t | ⟨c,t,u⟩
 ·exact .inl (e _ _ ne t)
 ·exact .inr ⟨c,e _ _ ne t,e.get T1 u nofun⟩
end L2
namespace Rim
open PySem L2 Fr
abbrev b5U:Str:=("standing"++".<locals>.")++"<lambda>"
abbrev LS (P2:Addr) (H:Hp):Prop:=LamTab P2 b2O b5U H
section
variable {P:Program} {w:World} {K:W.Frag} {mg:Str->Option Value} {base:Heap} {f:Addr} {fd:FuncData} {n:Nat}
def a3m (K:W.Frag):Sp:=λ vs H Q _=>∃ (a:Addr) (ys:List V) (fs:List Q2),vs=[.ref a]/\SqL K H a ys/\Paired (λ y f=>FrV K H y f) ys fs/\fs.length<=16/\(∀ f∈fs,Big 20000 f.1/\0<f.2/\f.2<2 ^ 8000) ∧
 ∀ (r tl:Addr) (H':Hp) (L:Int),Same H H'->H' r=some (.tup [.ref tl,.int L])->H' tl=some (.lst (fs.map λ f=>V.int (f.1*(L / f.2))))->0<L->(∀ f∈fs,f.2∣L)->Q (.ref r) H'
theorem scOverE:m8 ["ones","shared","top","bottom"] ["ones"] (i5 J4):=⟨rfl,rfl,rfl,by decide +kernel,rfl,by decide +kernel,by decide +kernel⟩
theorem a6v:(["top","bottom","shared"]:List Str).Nodup:=by decide +kernel
theorem a6q {K:W.Frag} {H:Hp} {ys:List V} {fs:List Q2} {i:Nat} {y:V} (h:Paired (λ y f=>FrV K H y f) ys fs) (e:ys[i]?=some y):∃ q,fs[i]?=some q/\FrV K H y q:=a0n h e
theorem a9O {fa:Addr} {da:FuncData} (F:Fun K "over_one_bottom" "over_one_bottom" J4 f fd) (C:Cal P w K mg base n "common_divisor" ["one","other"] a9J fa da):FnOk P w K mg base G5 (n+1) f fd ["ones"] (a3m K):=by
 refine F.ok scOverE (λ vs H Q E h=>?_) (λ cdv A outer s H vs Q E hr h=>?_)
 ·obtain ⟨a,ys,fs,rfl,_⟩:=h
  rfl
 obtain ⟨a,ys,fs,rfl,hS,hF,h16,hb,q⟩:=h;refine ⟨_,i4 (j4 (i:=1) scOverE.nd rfl (Or.inr rfl) i3)
  (i4 (P4 PassesOwn.never rfl (B9 (pv 0)) (a0e rfl (j8 (i9 (i:=2) scOverE.nd rfl (Or.inl rfl)) (j8 (i9 (i:=3) scOverE.nd rfl (Or.inl rfl)) A8)))
   (i6 (j4 (i:=1) scOverE.nd rfl (Or.inr rfl) (i8 L0 (i8 V8 (pv 1) (j5 C.ok hr rfl C.m C.k C.b .nil w4 (c5 (pv 1) (c5 (pv 3) c6)))) (pv 3)))))
  (i6 (r9 (U7 (c5 (R8 ["top","bottom"] [1] rfl (B9 (pv 0)) (λ _ _ _ _=>N7 K (n:=2) rfl rfl (j8 (i9 (i:=0) a6v rfl (Or.inl rfl)) (j8 (i9 (i:=1) a6v rfl (Or.inl rfl)) A8))) (λ _ _ _ _=>i8 L0 (pv 0) (i8 V8 (pv 2) (pv 1)))) (c5 (pv 1) c6)))))),?_⟩
 have xl:ys.length=fs.length:=hF.length;refine ⟨_,rfl,a,rfl,⟨_,hS⟩,?_⟩;refine a2l (xs:=ys) (λ i σ H'=>∃ (L:Int) (o2 o3:Option V),σ=[some (.ref a),some (.int L),o2,o3]/\H'=H/\0<L/\L<2 ^ (8000*i+1)/\∀ j x,j<i->fs[j]?=some x->x.2∣L)
  ⟨1,_,_,rfl,rfl,by decide,by decide,λ j x hj=>absurd hj (Nat.not_lt_zero _)⟩ (λ i σ H' _ ⟨_,_,_,_,e,_⟩=>by rw [e]; exact hS) ?_ ?_
 ·rintro i y σ H' hy ⟨L,o2,o3,rfl,rfl,hL,hLb,hdv⟩
  have hil:i<fs.length:=by rw [<- xl]; exact (List.getElem?_eq_some_iff.mp hy).1
  obtain ⟨fq,hfi,b,rfl,hbt⟩:=a6q hF hy;obtain ⟨hbig,hq,hq8⟩:=hb fq (List.mem_of_getElem? hfi);have hg:=a0U (a:=L) hq;have hgq:=b1U (a:=L) hq;obtain ⟨d1,d2⟩:=P7 hL hg (G8 L fq.2);have hLd:L / gI L fq.2<=L:=by
   have:=a2p d1 hg;rw [Int.mul_comm,d2] at this;exact this
  have lb:∀ {x:Int},0<x->x<=L->Big 1000000 x:=λ h1 h2=>(Y5 (n:=8000*i+1) (Int.le_of_lt h1) (Int.lt_of_le_of_lt h2 hLb)).mono (by omega);refine ⟨b,_,rfl,hbt,rfl,_,_,rfl,_,_,rfl,rfl,?_⟩;refine ⟨_,rfl,_,rfl,_,rfl,L,fq.2,rfl,Int.le_of_lt hq,_,_,rfl,rfl,⟨hg,Int.lt_of_le_of_lt hgq hq8⟩,_,rfl,_,_,rfl,rfl,⟨lb d1 hLd,(Y5 (n:=8000) (Int.le_of_lt hq) hq8).mono (by decide)⟩,?_⟩;refine ⟨_,_,_,rfl,rfl,Int.mul_pos d1 hq,?_,λ j y hj hy'=>?_⟩
  ·have e1:L / gI L fq.2<2 ^ (8000*i+1):=Int.lt_of_le_of_lt hLd hLb
   have e2:(2:Int) ^ (8000*(i+1)+1)=2 ^ (8000*i+1)*2 ^ 8000:=by
    rw [show 8000*(i+1)+1=(8000*i+1)+8000 by omega,Int.pow_add]
   rw [e2];exact Int.mul_lt_mul e1 (Int.le_of_lt hq8) hq (Int.le_of_lt (Int.lt_trans d1 e1))
  ·by_cases hji:j<i
   ·have h1:=hdv j y hji hy'
    have e:L / gI L fq.2*fq.2=L*(fq.2 / gI L fq.2):=by
     obtain ⟨_,d4⟩:=P7 hq hg (A4 L fq.2)
     calc L / gI L fq.2*fq.2=L / gI L fq.2*(gI L fq.2*(fq.2 / gI L fq.2)):=by rw [d4]
      _=(gI L fq.2*(L / gI L fq.2))*(fq.2 / gI L fq.2):=by ac_rfl
      _=L*(fq.2 / gI L fq.2):=by rw [d2]
    show y.2∣L / gI L fq.2*fq.2
    rw [e];exact Int.dvd_mul_of_dvd_left h1
   ·have:j=i:=by omega
    subst this;rw [hfi] at hy'
    cases hy';exact Int.dvd_mul_of_dvd_right (Int.dvd_refl _)
 ·rintro σ H' ⟨L,o2,o3,rfl,rfl,hL,hLb,hdv⟩
  have hdiv:∀ x∈fs,x.2∣L:=λ y hy=>by
   obtain ⟨j,hj,rfl⟩:=List.getElem_of_mem hy;exact hdv j _ (by omega) (List.getElem?_eq_getElem hj)
  have yl:ys.length<=16:=by omega
  refine ⟨_,rfl,a,rfl,⟨_,hS⟩,λ p hp=>?_⟩;refine a1w (y6 hS) hp (j7 (by omega)) (λ i y _=>∃ x,fs[i]?=some x/\y=.int (x.1*(L / x.2))) (λ _ _ _ _ r _=>r) (λ i y H2 zs N hy e hp' hN=>?_) (λ zs H2 e hp' len pr=>?_)
  ·obtain ⟨fq,hfi,b,rfl,hbt⟩:=a6q hF hy
   obtain ⟨hbig,hq,hq8⟩:=hb fq (List.mem_of_getElem? hfi);obtain ⟨d1,d2⟩:=P7 hL hq (hdiv _ (List.mem_of_getElem? hfi));have hLd:L / fq.2<=L:=by
    have:=a2p d1 hq;rw [Int.mul_comm,d2] at this;exact this
   refine ⟨b,_,rfl,e.tseq hbt,rfl,_,_,rfl,_,_,rfl,rfl,b1A (by decide) (by decide),?_⟩;refine ⟨_,rfl,_,rfl,_,rfl,_,_,rfl,rfl,⟨hq,hq8⟩,_,_,rfl,rfl,⟨hbig.mono (by decide),(Y5 (n:=8000*ys.length+1) (Int.le_of_lt d1) (Int.lt_of_le_of_lt hLd hLb)).mono (by omega)⟩,?_⟩;exact hN _ _ (Same.refl _) ⟨fq,hfi,rfl⟩
  ·have ey:zs=fs.map λ f=>V.int (f.1*(L / f.2)):=by
    refine List.ext_getElem? λ i=>?_
    by_cases hi:i<zs.length
    ·obtain ⟨x,z1,z2⟩:=pr i _ (List.getElem?_eq_getElem hi)
     rw [List.getElem?_eq_getElem hi,z2,List.getElem?_map,z1]; rfl
    ·rw [List.getElem?_eq_none (by omega),List.getElem?_eq_none (by rw [List.length_map]; omega)]
   rw [ey] at hp';refine ⟨_,rfl,(by show 2<=sizeLine; decide),λ r hr2=>?_⟩;have f2:=Same.new hr2 (.tup [V.ref p,V.int L]);exact q r p _ L (e.trans f2) upd_same (f2 _ _ hp') hL hdiv
end
def OsAt (z:Str) (hs:List h8) (kt kg:Nat) (i:Nat) (o:Option Q2):Prop:=∃ h,hs[i]?=some h/\((∃ A B,ShU z (P9 hs i) h kt kg A B/\o=some (low A B))\/(o=none/\IsNone z (P9 hs i) h kt kg))
def Os (z:Str) (hs:List h8) (kt kg:Nat) (os:List (Option Q2)):Prop:=os.length=hs.length/\∀ i o,os[i]?=some o->OsAt z hs kt kg i o
theorem OsAt.eq {z:Str} {hs:List h8} {kt kg i:Nat} {o o':Option Q2} {far:Int} (hz:R7 z) (hG:∀ g∈hs,HG far kt kg g) (x:OsAt z hs kt kg i o) (y:OsAt z hs kt kg i o'):o=o':=by
 obtain ⟨h,hh,a⟩:=x;obtain ⟨h',hh',b⟩:=y;rw [hh] at hh'; cases hh';have gh:=hG h (List.mem_of_getElem? hh);have hGo:∀ g∈P9 hs i,HG far kt kg g:=λ g hg=>hG g (W2 hg);have hko:∀ g∈P9 hs i,g.1.length=kt/\g.2.length=kg:=λ g hg=>⟨(hGo g hg).lt,(hGo g hg).lg⟩;rcases a with ⟨A,B,s,rfl⟩ | ⟨rfl,N⟩ <;> rcases b with ⟨A',B',s',rfl⟩ | ⟨rfl,N'⟩
 ·rw [s.fr hz s'.s hGo gh]
 ·exact (N'.notShare hz hko gh s.s).elim
 ·exact (N.notShare hz hko gh s'.s).elim
 ·rfl
def ahd (x y:Option Q2) (a b:Int):Prop:=match x,y with
 | none,none=>a<b
 | none,some _=>True
 | some _,none=>False
 | some p,some q=>q.1*p.2<p.1*q.2\/(p=q/\a<b)
abbrev atO (os:List (Option Q2)) (a:Int):Option Q2:=os.getD a.toNat none
def Ahd (os:List (Option Q2)) (a b:Int):Prop:=ahd (atO os a) (atO os b) a b
theorem a7z {x y:Option Q2} {a b:Int} (h:ahd x y a b) (h':ahd y x b a):False:=by
 cases x <;> cases y <;> simp only [ahd] at h h'
 ·omega
 ·rcases h with h | ⟨rfl,h⟩ <;> rcases h' with h' | ⟨e,h'⟩
  ·omega
  ·subst e; omega
  ·omega
  ·omega
def Stood (os:List (Option Q2)) (ns:List Int):Prop:=ns.Perm ((List.range os.length).map λ (i:Nat)=>(i:Int))/\ns.Pairwise (Ahd os)
theorem Stood.eq {os:List (Option Q2)} {ns ns':List Int} (x:Stood os ns) (y:Stood os ns'):ns=ns' :=
 List.Perm.eq_of_pairwise (le:=Ahd os) (λ a b _ _ p q=>(a7z p q).elim) x.2 y.2 (x.1.trans y.1.symm)
theorem a7r {A B:Int} (hB:0<B):low (low A B).1 (low A B).2=low A B:=a2t (Z0 hB) hB (low_cross hB)
theorem b3E {os:List (Option Q2)} {L:Int} {g:Int->Bool×Int} {a b:Int} (hL:0<L) (hc:∀ q,some q∈os->0<q.2/\q.2∣L/\low q.1 q.2=q)
  (hg:∀ m∈[a,b],g m=match atO os m with | none=>(false,0) | some q=>(true,-(q.1*(L / q.2)))) (h:kLt (a0s g a) (a0s g b)=true):Ahd os a b:=by
 have ga:=hg a (.head _);have gb:=hg b (.tail _ (.head _));have mem:∀ {m:Int} {q:Q2},atO os m=some q->some q∈os:=λ {m q} e=>by
  unfold atO at e;rw [List.getD_eq_getElem?_getD] at e
  cases r:os[m.toNat]? with
  | none=>rw [r] at e; cases e
  | some o=>rw [r] at e; have e':o=some q:=e; subst e'; exact List.mem_of_getElem? r
 rw [a1u] at h;unfold Ahd;unfold a0s at h;rw [ga,gb] at h;generalize ex:atO os a=x at *;generalize ey:atO os b=y at *
 cases x with
 | none =>
  cases y with
  | none =>
   simp at h;exact h
  | some q=>exact trivial
 | some p =>
  cases y with
  | none=>simp at h
  | some q =>
   obtain ⟨p1,⟨c,hc1⟩,p3⟩:=hc p (mem ex);obtain ⟨q1,⟨d,hd1⟩,q3⟩:=hc q (mem ey);have ec:L / p.2=c:=by rw [hc1]; exact Int.mul_ediv_cancel_left c (by omega)
   have ed:L / q.2=d:=by rw [hd1]; exact Int.mul_ediv_cancel_left d (by omega)
   simp only [ec,ed] at h;have c0:0<c:=by
    rcases Int.lt_or_le 0 c with z | z
    ·exact z
    ·have:=Int.mul_nonneg (Int.le_of_lt p1) (show 0 <= -c by omega)
     rw [Int.mul_neg] at this;omega
   have d0:0<d:=by
    rcases Int.lt_or_le 0 d with z | z
    ·exact z
    ·have:=Int.mul_nonneg (Int.le_of_lt q1) (show 0 <= -d by omega)
     rw [Int.mul_neg] at this;omega
   have E1:(p.1*c)*(p.2*q.2)=(p.1*q.2)*L:=by rw [hc1]; ac_rfl
   have E2:(q.1*d)*(p.2*q.2)=(q.1*p.2)*L:=by rw [hd1]; ac_rfl
   have pq:0<p.2*q.2:=Int.mul_pos p1 q1
   show q.1*p.2<p.1*q.2\/(p=q/\a<b)
   rcases h with ⟨z,_⟩ | ⟨_,h | ⟨h1,h2⟩⟩
   ·cases z
   ·left
    have h':q.1*d<p.1*c:=by omega
    have:=Int.mul_lt_mul_of_pos_right h' pq;rw [E1,E2] at this;exact Int.lt_of_mul_lt_mul_right this (Int.le_of_lt hL)
   ·right
    refine ⟨?_,h2⟩;have h':p.1*c=q.1*d:=by omega
    have:(p.1*q.2)*L=(q.1*p.2)*L:=by rw [<- E1,<- E2,h']
    have:=Int.eq_of_mul_eq_mul_right (by omega) this;rw [<- p3,<- q3];exact a2t p1 q1 this
end Rim
namespace L2
open PySem
theorem a9n (K:W.Frag) {X:Cx} (h:X.K=K):OpR X (compareOp .NotIn) (rIn K true):=by subst h; exact a3L
section
variable {K:W.Frag} {l:Addr} {fr:List Nat} {tc:TT} {σ:St} {H1:Hp} {p:Addr} {D:Hp->Prop} {xs:List V}
theorem b0t (hl:SqL K H1 l xs) (hp:H1 p=none) (hz:xs.length<sizeLine) (F:Nat->Bool)
  (step:∀ (i:Nat) x H (N:Bool->Hp->Prop),xs[i]?=some x->Same H1 H->N (F i) H->tc (((blkσ 2 fr σ).set 0 (some (.int (i:Int)))).set 1 (some x)) H N)
  (hd:∀ H,Same H1 H->H p=some (.lst (((List.range xs.length).filter F).map λ i=>xs.getD i .non))->D H):lcI 2 fr (a5x K 2 (V4 (J6 0) (V4 (J6 1) a8a))) tc (a7J 1) σ (Ite K l) H1 p D:=by
 refine ⟨λ i m ys H=>m=xs.length - i/\i<=xs.length/\ys=((List.range i).filter F).map (λ i=>xs.getD i .non)/\Same H1 H/\H p=some (.lst ys),⟨xs.length,by simp,Nat.zero_le _,rfl,Same.new hp _,upd_same⟩,?_⟩;rintro i m ys H ⟨rfl,hi,rfl,e,hH⟩
 by_cases hlt:i<xs.length
 ·refine .inr ⟨⟨xs,xs[i],e.seq hl,List.getElem?_eq_getElem hlt⟩,λ u H' y=>?_⟩
  obtain ⟨q,a,hq,rfl,rfl,hab⟩:=y;have ha:=hab xs (e.seq hl);have s1:=Same.new hq (.tup [.int (i:Int),a]);have tk:(List.range (i+1)).filter F=(List.range i).filter F++[i].filter F:=by rw [List.range_succ,List.filter_append]
  refine ⟨q,_,rfl,SqT.of upd_same,rfl,_,_,rfl,_,_,rfl,rfl,?_,?_⟩
  ·refine ⟨by simp,λ k w ek=>?_⟩
   have:¬ k<2:=λ hk=>by
    unfold blkσ at ek;rw [List.getElem?_append_left (by simpa using hk),List.getElem?_replicate] at ek
    split at ek <;> cases ek
   rw [List.getElem?_set_ne (by omega),List.getElem?_set_ne (by omega)]; exact ek
  refine step i a _ _ ha (e.trans s1) ?_;have h3:=s1 _ _ hH
  cases hq:F i with
  | false =>
   rw [if_neg Bool.false_ne_true];refine ⟨xs.length - (i+1),by omega,rfl,hlt,?_,e.trans s1,h3⟩;rw [tk]; simp [hq]
  | true =>
   rw [if_pos rfl];refine ⟨a,?_,h3,?_,xs.length - (i+1),by omega,rfl,hlt,?_,(e.trans s1).write hp,upd_same⟩
   ·show (((blkσ 2 fr σ).set 0 (some (.int (i:Int)))).set 1 (some a))[1]?=some (some a)
    rw [List.getElem?_set_self (by simp [blkσ])]
   ·have h1:=List.length_filter_le F (List.range i)
    rw [List.length_range] at h1;rw [List.length_map];omega
   ·rw [tk]
    simp [hq,ha]
 ·have:i=xs.length:=by omega
  subst this;exact .inl ⟨⟨xs,e.seq hl,Nat.le_refl _⟩,hd H e hH⟩
end
def a6S (k:Nat) (σ:St) (H:Hp):Nat:=match σ[k]? with
 | some (some (.ref a))=>(match H a with | some (.lst xs)=>xs.length | _=>0)
 | _=>0
end L2
namespace Rim
open PySem L2 Fr
abbrev a0g (hs:List h8) (left:List Nat):List h8:=left.map λ k=>hs.getD k ([],[])
noncomputable def plc (z:Str) (hs:List h8) (left:List Nat):List Nat:=a2z z (a0g hs left)
noncomputable def lvl (z:Str) (hs:List h8) (left:List Nat):List Nat:=(plc z hs left).map λ k=>left.getD k 0
noncomputable def rst (z:Str) (hs:List h8) (left:List Nat):List Nat:=((List.range left.length).filter λ k=>!(plc z hs left).contains k).map λ k=>left.getD k 0
noncomputable def lev (z:Str) (hs:List h8):Nat->List Nat->List (List Nat)
 | 0,_=>[]
 | n+1,left=>if left=[] then [] else lvl z hs left::lev z hs n (rst z hs left)
abbrev D5 (l:List Nat):List V:=l.map λ (k:Nat)=>V.int (k:Int)
theorem a3F {z:Str} {hs:List h8}:∀ n,lev z hs n []=[]
 | 0=>rfl
 | n+1=>by unfold lev; rw [if_pos rfl]
theorem a4y {left:List Nat} {k:Nat} (h:k<left.length):left.getD k 0∈left:=by
 rw [List.getD_eq_getElem?_getD,List.getElem?_eq_getElem h]; exact List.getElem_mem h
section
variable {z:Str} {hs:List h8} {far:Int} {kt kg:Nat} {left:List Nat}
theorem W8 (hG:∀ g∈hs,HG far kt kg g) (hl:∀ k∈left,k<hs.length):∀ g∈a0g hs left,HG far kt kg g:=λ g hg=>by
 obtain ⟨k,hk,rfl⟩:=List.mem_map.mp hg;have:=hl k hk;rw [List.getD_eq_getElem?_getD,List.getElem?_eq_getElem this];exact hG _ (List.getElem_mem this)
theorem a8I {k:Nat} (h:k∈plc z hs left):k<left.length:=by
 have:=b1M h;rw [List.length_map] at this;exact this
theorem a6r {k:Nat} (h:k∈rst z hs left):k∈left:=by
 unfold rst at h;obtain ⟨j,hj,rfl⟩:=List.mem_map.mp h;exact a4y (List.mem_range.mp (List.mem_filter.mp hj).1)
theorem b3h (hG:∀ g∈hs,HG far kt kg g) (kt1:1<=kt) (hl:∀ k∈left,k<hs.length) (hne:left≠[]):(rst z hs left).length<left.length:=by
 obtain ⟨i,hi⟩:=a4C (z:=z) (W8 hG hl) kt1 (by simpa using hne);have hil:=a8I (z:=z) (hs:=hs) (left:=left) hi;unfold rst;rw [List.length_map];have h1:((List.range left.length).filter λ k=>!(plc z hs left).contains k).length<(List.range left.length).length:=by
  rw [List.length_filter_lt_length_iff_exists];exact ⟨i,List.mem_range.mpr hil,by simpa using (show i∈plc z hs left from hi)⟩
 rw [List.length_range] at h1;exact h1
end
def NatsAt (H:Hp) (as:List Addr) (ls:List (List Nat)):Prop:=as.length=ls.length/\∀ (k:Nat) a l,as[k]?=some a->ls[k]?=some l->H a=some (.lst (D5 l))
theorem NatsAt.snoc {H:Hp} {as:List Addr} {ls:List (List Nat)} {a:Addr} {l:List Nat} (h:NatsAt H as ls) (ha:H a=some (.lst (D5 l))):NatsAt H (as++[a]) (ls++[l]):=by
 refine ⟨by simp [h.1],λ k b m hb hm=>?_⟩
 by_cases hk:k<as.length
 ·rw [List.getElem?_append_left hk] at hb
  rw [List.getElem?_append_left (by rw [<- h.1]; exact hk)] at hm;exact h.2 k b m hb hm
 ·rw [List.getElem?_append_right (by omega)] at hb
  rw [List.getElem?_append_right (by rw [<- h.1]; omega),<- h.1] at hm;have:k - as.length=0:=by
   cases q:k - as.length with
   | zero=>rfl
   | succ j=>rw [q] at hb; simp at hb
  rw [this] at hb hm;simp at hb hm;subst hb hm;exact ha
section
variable {P:Program} {w:World} {K:W.Frag} {mg:Str->Option Value} {base:Heap} {f Pt d:Addr} {fd:FuncData} {n:Nat} {C:Addr}
theorem a8N {H:Hp} {ba p:Addr} {xs:List V} {hs:List h8} {far:Int} {kt kg:Nat} {left:List Nat} (B:D4 K H ba xs hs far kt kg) (hl:∀ k∈left,k<hs.length) (hn:left.length<=16) (hp:H p=some (.lst (left.map λ k=>xs.getD k .non))) :
  D4 K H p (left.map λ k=>xs.getD k .non) (a0g hs left) far kt kg:=by
 have xl:xs.length=hs.length:=Paired.length B.b;refine ⟨SqL.of hp,?_,W8 B.g hl,B.far,by rw [List.length_map]; exact hn,B.t,B.k⟩
 clear hp hn
 induction left with
 | nil=>exact .nil
 | cons k r ih =>
  have hk:=hl k (.head _);have hx:xs[k]?=some xs[k]:=List.getElem?_eq_getElem (by omega);obtain ⟨h,hh,q⟩:=Paired.at B.b hx;refine .cons ?_ (ih λ j hj=>hl j (.tail _ hj))
  show HS K H (xs.getD k V.non) (hs.getD k ([],[]))
  rw [List.getD_eq_getElem?_getD,hx,List.getD_eq_getElem?_getD,hh];exact q
def a4s (K:W.Frag) (Pt:Addr):Sp:=λ vs H Q _=>∃ (ba:Addr) (xs:List V) (hs:List h8) (z:Str) (far:Int) (kt kg:Nat),vs=[.ref ba,.str z]/\R7 z/\D4 K H ba xs hs far kt kg/\far<=2 ^ 50/\1<=kt/\LT Pt H ∧
 ∀ (H':Hp) (r:Addr) (as:List Addr),Same1 Pt H H'->LT Pt H'->H r=none->H' r=some (.lst (as.map V.ref))->NatsAt H' as (lev z hs hs.length (List.range hs.length))->(∀ a∈as,H a=none)->Q (.ref r) H'
theorem scLv:m8 ["book","sizes","told","left","places"] ["book","sizes"] (i5 Z1):=⟨rfl,rfl,rfl,by decide +kernel,rfl,by decide +kernel,by decide +kernel⟩
theorem b4h:(["number","book"]:List Str).Nodup:=by decide +kernel
theorem b4Q:(["place","left"]:List Str).Nodup:=by decide +kernel
theorem b2l:(["place","number","places"]:List Str).Nodup:=by decide +kernel
noncomputable def lvT {cdv:Value} {A:Around} {outer:List Env} {s:Shared} {H:Hp} {E:XK} {f1:Addr} {d1:FuncData} (N:x9 mg) (Cr:W5 P w K mg base n "rim_of" ["book","sizes"] (a3u K Pt) f1 d1)
  (hr:Room n (A.deeper (PyProof.Rows.envOfC "levels" (i5 Z1) s.heap.objs.size f cdv))) :
  { t:TS // PSs (K7 G5 P w K mg base ["book","sizes","told","left","places"] "levels" (i5 Z1) f cdv A outer s H E).nox (v6 Z1) t } :=
 ⟨_,i4 (j4 (i:=2) scLv.nd rfl (Or.inl rfl) (v4 c6))
  (p6 (j4 (i:=3) scLv.nd rfl (Or.inr rfl) (r8 (R5 rfl) rfl N.list PyProof.Rows.boot_list (c5 (r8 a1e rfl N.range PyProof.Rows.boot_range (c5 (m6 j6 rfl N.len PySem.boot_len (c5 (pv 0) c6)) c6)) c6)))
  (i4 (a2v PassesOwn.never (a8l (pv 3) (λ _=>rfl))
   (p6 (j4 (i:=4) scLv.nd rfl (Or.inr rfl) (j5 Cr.ok hr rfl Cr.m Cr.k Cr.b .nil w4 (c5 (R8 ["number"] [0] rfl (B9 (pv 3)) (λ _ _ _ _=>i9 (i:=0) b4h rfl (Or.inl rfl)) (λ _ _ _ _=>j3 (Q9 K rfl) (pv 1) (pv 0) (λ _ _=>rfl))) (c5 (pv 1) c6))))
   (p6 (Q8 (a1l PySem.F.plainAttrs_list PySem.F.slot_list_append PySem.F.type_list_append J8 (pv 2) (c5 (R8 ["place"] [3] rfl (B9 (pv 4)) (λ _ _ _ _=>i9 (i:=0) b4Q rfl (Or.inl rfl)) (λ _ _ _ _=>j3 (Q9 K rfl) (pv 1) (pv 0) (λ _ _=>rfl))) c6)))
   (i6 (j4 (i:=3) scLv.nd rfl (Or.inr rfl) (a5A ["place","number"] [4] rfl (a1z K rfl rfl N.enum (c5 (pv 3) c6)) (λ _ _ _ _=>N7 K (n:=2) rfl rfl (j8 (i9 (i:=0) b2l rfl (Or.inl rfl)) (j8 (i9 (i:=1) b2l rfl (Or.inl rfl)) A8)))
    (λ _ _ _ _=>m9 (a9n K rfl) (pv 0) (pv 2) rfl) (λ _ _ _ _=>pv 1)))))))
  (i6 (r9 (pv 2)))))⟩
end
def Z9 (l:List Nat):PyData:=.list (l.map λ (k:Nat)=>.int (k:Int))
theorem a4m {K:W.Frag} {H:Hp}:∀ l:List Nat,Dps K H (D5 l) (l.map λ (k:Nat)=>.int (k:Int))
 | []=>.nil
 | k::r=>.cons (.int _) (a4m r)
theorem a3f {K:W.Frag} {H:Hp} {a:Addr} {l:List Nat} (h:H a=some (.lst (D5 l))):Dp K H (.ref a) (Z9 l):=.lst (SqL.of h) (a4m l)
theorem a0z (l:List Nat):(Z9 l).canLay0=true:=by
 unfold Z9;rw [PyData.canLay0]
 induction l with
 | nil=>rw [List.map_nil,PyData.canLayAll0]
 | cons k r ih=>rw [List.map_cons,PyData.canLayAll0,ih,PyData.canLay0]; rfl
theorem a2x (l:List Nat):(Z9 l).depth<=6:=by
 unfold Z9;have:∀ l:List Nat,PyData.depthAll (l.map λ (k:Nat)=>PyData.int (k:Int))<=3:=λ l=>by
  induction l with
  | nil=>simp [PyData.depthAll]
  | cons k r ih =>
   rw [List.map_cons,PyData.depthAll];exact Nat.max_le.mpr ⟨by simp [PyData.depth],ih⟩
 rw [PyData.depth];have:=this l;omega
theorem a8x (z:Str) (hs:List h8):(a2z z hs).length<=hs.length:=by
 unfold a2z;refine Nat.le_trans (List.length_filter_le _ _) ?_;rw [List.length_range]; exact Nat.le_refl _
theorem a1L {z:Str} {hs:List h8} {left:List Nat} {n:Nat} (h:left≠[]):lev z hs (n+1) left=lvl z hs left::lev z hs n (rst z hs left):=by
 show (if left=[] then [] else _)=_
 rw [if_neg h]
theorem a6w {k:Nat}:∀ {l:List Nat},inV (.int (k:Int)) (D5 l)=l.contains k
 | []=>rfl
 | a::r=>by
  have:=a6w (k:=k) (l:=r);unfold inV at *
  show (((V.int (a:Int))::D5 r).any λ y=>eqV y (V.int (k:Int)))=_
  rw [List.any_cons,this,List.contains_cons]
  congr 1
  show eqV (.int (a:Int)) (.int (k:Int))=(k==a)
  by_cases h:k=a
  ·subst h; simp [eqV]
  ·have:¬ ((a:Int)=(k:Int)):=by omega
   have h1:((a:Int)==(k:Int))=false:=by simpa using this
   have h2:(k==a)=false:=by simpa using h
   show ((a:Int)==(k:Int))=(k==a)
   rw [h1,h2]
theorem a8k (l:List Nat):(D5 l).all a0a=true:=by
 rw [List.all_eq_true];intro x hx;obtain ⟨k,_,rfl⟩:=List.mem_map.mp hx;rfl
theorem a7n {l:List Nat} {j:Nat} (h:j<l.length):(D5 l)[j]?=some (.int ((l.getD j 0:Nat):Int)):=by
 rw [List.getElem?_map,List.getElem?_eq_getElem h,List.getD_eq_getElem?_getD,List.getElem?_eq_getElem h]; rfl
theorem a0D {l:List Nat} {j:Nat} {x:V} (h:(D5 l)[j]?=some x):∃ k,l[j]?=some k/\x=.int (k:Int):=by
 rw [List.getElem?_map] at h
 cases q:l[j]? with
 | none=>rw [q] at h; cases h
 | some k=>rw [q] at h; cases h; exact ⟨k,rfl,rfl⟩
theorem a5N (n:Nat):((List.range n).map λ (i:Nat)=>V.int (0+(i:Int)))=D5 (List.range n):=List.map_congr_left λ i _=>by rw [Int.zero_add]
section
variable {P:Program} {w:World} {K:W.Frag} {mg:Str->Option Value} {base:Heap} {f Pt d:Addr} {fd:FuncData} {n:Nat} {C:Addr}
structure b2F (z:Str) (hs:List h8) (H H':Hp) (Pt td la:Addr) (left:List Nat) (as:List Addr) (done:List (List Nat)):Prop where
 e:Same1 Pt H H'
 L:LT Pt H'
 tdn:H td=none
 told:H' td=some (.lst (as.map V.ref))
 lst:H' la=some (.lst (D5 left))
 at_:NatsAt H' as done
 new:∀ a∈as,H a=none/\a≠td
 lt:∀ k∈left,k<hs.length
 all:∃ m,left.length<=m/\done++lev z hs m left=lev z hs hs.length (List.range hs.length)
 few:done.length+left.length<=hs.length
theorem a8i {f1:Addr} {d1:FuncData} (F:Fun K "levels" "levels" Z1 f fd) (N:x9 mg) (Cr:W5 P w K mg base n "rim_of" ["book","sizes"] (a3u K Pt) f1 d1):FnOk P w K mg base G5 (n+1) f fd ["book","sizes"] (a4s K Pt):=by
 refine F.ok scLv (λ vs H Q E h=>?_) (λ cdv A outer s H vs Q E hr h=>?_)
 ·obtain ⟨ba,xs,hs,z,far,kt,kg,rfl,_⟩:=h
  rfl
 obtain ⟨ba,xs,hs,z,far,kt,kg,rfl,hz,B,hf,kt1,L,k⟩:=h;refine ⟨_,(lvT N Cr hr).2,?_⟩;have xl:xs.length=hs.length:=Paired.length B.b;have few:=B.few;have s1k:=j7 (show (1000:Nat)<=1000 from Nat.le_refl _);refine ⟨(by show 0<=sizeLine; decide),λ td htd=>?_⟩;have s1:=Same.new htd (.lst []);refine ⟨λ σ' H'=>∃ la:Addr,σ'=[some (.ref ba),some (.str z),some (.ref td),some (.ref la),none]/\b2F z hs H H' Pt td la (List.range hs.length) [] [],?_,?_⟩
 ·refine ⟨_,rfl,ba,_,rfl,.inl (s1.seq B.l),_,rfl,λ rg hrg=>?_⟩
  refine ⟨rg,0,xs.length,rfl,by rw [upd_same,Int.zero_add],by decide,by decide,by omega,λ la hla=>?_⟩;have t3:=(Same.new hrg (.rng 0 (xs.length:Int))).trans (Same.new hla (.lst ((List.range xs.length).map λ (i:Nat)=>V.int (0+(i:Int)))));have s3:=s1.trans t3;refine ⟨la,rfl,s3.to1,L.same s3,htd,t3 td _ upd_same,?_,⟨rfl,nofun⟩,nofun,λ j hj=>List.mem_range.mp hj,⟨hs.length,by simp,rfl⟩,by simp⟩;rw [upd_same,a5N,xl]
 rintro σ0 H0 ⟨la,rfl,U0⟩;refine a4p (λ σ H'=>∃ (la':Addr) (left:List Nat) (as:List Addr) (done:List (List Nat)) (o:Option V),σ=[some (.ref ba),some (.str z),some (.ref td),some (.ref la'),o]/\b2F z hs H H' Pt td la' left as done) (a6S 3)
  ⟨la,List.range hs.length,[],[],_,rfl,U0⟩ ?_ (λ σ H Q Q' hq ⟨v,h1,b,h2,q⟩=>⟨v,h1,b,h2,hq _ _ q⟩)
 rintro σ H1 ⟨la1,left,as,done,o,rfl,U⟩;refine ⟨_,rfl,_,.inl ⟨_,SqL.of U.lst,rfl⟩,?_⟩;have lnil:(D5 left).isEmpty=left.isEmpty:=by cases left <;> rfl
 rw [lnil]
 cases hle:left.isEmpty with
 | true =>
  have hl0:left=[]:=by simpa using hle
  refine a1p ?_;obtain ⟨m,_,hm⟩:=U.all;rw [hl0,a3F,List.append_nil] at hm;exact ⟨_,rfl,k H1 td as U.e U.L U.tdn U.told (by rw [<- hm]; exact U.at_) λ a ha=>(U.new a ha).1⟩
 | false =>
  refine a7V ?_;have hne:left≠[]:=λ q=>by rw [q] at hle; cases hle
  have hll:left.length<=16:=by have:=U.few; omega
  have B1:D4 K H1 ba xs hs far kt kg:=⟨SqL.same1 L U.e B.l,Bk.same1 L U.e B.b,B.g,B.far,B.few,B.t,B.k⟩;refine ⟨λ σ' H2=>∃ pl:Addr,σ'=[some (.ref ba),some (.str z),some (.ref td),some (.ref la1),some (.ref pl)]/\b2F z hs H H2 Pt td la1 left as done/\H2 pl=some (.lst (D5 (plc z hs left))),?_,?_⟩
  ·refine ⟨_,rfl,la1,rfl,⟨_,SqL.of U.lst⟩,λ p hp=>?_⟩
   refine R1 (y6 (SqL.of U.lst)) hp (by rw [List.length_map]; omega) (λ v=>xs.getD (vI v).toNat .non) (λ j x H2 N2 hx e hN=>?_) ?_
   ·obtain ⟨kk,hk,rfl⟩:=a0D hx
    have hkl:=U.lt kk (List.mem_of_getElem? hk);have hxk:xs[kk]?=some (xs.getD kk .non):=by rw [List.getD_eq_getElem?_getD,List.getElem?_eq_getElem (by omega)]; rfl
    have ev:(vI (V.int (kk:Int))).toNat=kk:=by simp [vI]
    rw [ev] at hN;exact ⟨Wk.set (by decide),_,rfl,_,rfl,ba,_,_,_,rfl,rfl,e.seq B1.l,t9 hxk,hN⟩
   have em:(D5 left).map (λ v=>xs.getD (vI v).toNat .non)=left.map λ k=>xs.getD k .non:=by
    rw [List.map_map];refine List.map_congr_left λ j _=>?_
    show xs.getD (vI (V.int (j:Int))).toNat .non=_
    rw [show (vI (V.int (j:Int))).toNat=j by simp [vI]]
   rw [em];have s4:=Same.new hp (.lst (left.map λ k=>xs.getD k .non));have B2:D4 K (upd H1 p (.lst (left.map λ k=>xs.getD k .non))) ba xs hs far kt kg:=⟨s4.seq B1.l,Bk.same s4 B1.b,B.g,B.far,B.few,B.t,B.k⟩;refine ⟨_,rfl,p,_,a0g hs left,z,far,kt,kg,rfl,hz,a8N B2 U.lt hll upd_same,hf,U.L.same s4,λ H2 r e2 L2' hrn hr2=>?_⟩;have e12:Same1 Pt H1 H2:=s4.to1.trans e2;refine ⟨r,rfl,⟨U.e.trans e12,L2',U.tdn,e12.get U.L U.told nofun,e12.get U.L U.lst nofun,⟨U.at_.1,λ j a l ha hl=>e12.get U.L (U.at_.2 j a l ha hl) nofun⟩,U.new,U.lt,U.all,U.few⟩,hr2⟩
  rintro σ1 H2 ⟨pl,rfl,U2,hpl⟩;have lp:(plc z hs left).length<=16:=by
   have:=a8x z (a0g hs left);rw [List.length_map] at this;exact Nat.le_trans this hll
  refine ⟨λ σ' H3=>∃ a:Addr,σ'=[some (.ref ba),some (.str z),some (.ref td),some (.ref la1),some (.ref pl)]/\Same1 Pt H H3/\LT Pt H3/\H3 td=some (.lst ((as++[a]).map V.ref))/\H3 la1=some (.lst (D5 left))/\H3 pl=some (.lst (D5 (plc z hs left)))/\NatsAt H3 (as++[a]) (done++[lvl z hs left])/\H a=none/\a≠td,?_,?_⟩
  ·refine ⟨_,rfl,.inl ⟨rfl,_,SqL.of U2.told⟩,?_⟩
   refine ⟨_,rfl,pl,rfl,⟨_,SqL.of hpl⟩,λ p hp=>?_⟩;refine R1 (y6 (SqL.of hpl)) hp (by rw [List.length_map]; omega) (λ v=>.int ((left.getD (vI v).toNat 0:Nat):Int)) (λ j x H3 N2 hx e hN=>?_) ?_
   ·obtain ⟨kk,hk,rfl⟩:=a0D hx
    have hkl:=a8I (List.mem_of_getElem? hk);have ev:(vI (V.int (kk:Int))).toNat=kk:=by simp [vI]
    rw [ev] at hN;exact ⟨Wk.set (by decide),_,rfl,_,rfl,la1,_,_,_,rfl,rfl,SqL.of (e _ _ U2.lst),t9 (a7n hkl),hN⟩
   have em:(D5 (plc z hs left)).map (λ v=>V.int ((left.getD (vI v).toNat 0:Nat):Int))=D5 (lvl z hs left):=by
    unfold lvl D5;rw [List.map_map,List.map_map];refine List.map_congr_left λ j _=>?_
    show V.int ((left.getD (vI (V.int (j:Int))).toNat 0:Nat):Int)=V.int ((left.getD j 0:Nat):Int)
    rw [show (vI (V.int (j:Int))).toNat=j by simp [vI]]
   rw [em];have s4:=Same.new hp (.lst (D5 (lvl z hs left)));have ntd:p≠td:=λ q=>by rw [q,U2.told] at hp; cases hp
   have hpH:H p=none:=by
    cases q:H p with
    | none=>rfl
    | some o =>
     exfalso
     by_cases hpP:p=Pt
     ·rw [hpP] at hp
      rcases U2.L with w' | ⟨_,w',_⟩ <;> rw [w'] at hp <;> cases hp
     ·rw [U2.e p o hpP q] at hp; cases hp
   have las:as.length<=16:=by rw [U2.at_.1]; have:=U2.few; omega
   refine ⟨td,_,_,rfl,rfl,s4 _ _ U2.told,by rw [List.length_map]; omega,?_⟩;have td4:=s4 _ _ U2.told;refine ⟨p,rfl,(U2.e.trans s4.to1).write U2.tdn,(U2.L.same s4).write td4,by rw [upd_same,List.map_append]; rfl,?_,?_,?_,hpH,ntd⟩
   ·have:la1≠td:=λ q=>by
     have h1:=U2.lst; rw [q,U2.told] at h1;have h2:=congrArg (λ o=>match o with | some (HO.lst xs)=>xs | _=>[]) h1;have h3:as.map V.ref=D5 left:=h2
     cases left with
     | nil=>exact hne rfl
     | cons a r =>
      cases as with
      | nil=>simp at h3
      | cons b r'=>simp at h3
    rw [c7 this]; exact s4 _ _ U2.lst
   ·have:pl≠td:=λ q=>by
     have h1:=hpl; rw [q,U2.told] at h1;have h2:=congrArg (λ o=>match o with | some (HO.lst xs)=>xs | _=>[]) h1;have h3:as.map V.ref=D5 (plc z hs left):=h2;obtain ⟨i,hi⟩:=a4C (z:=z) (W8 B.g U.lt) kt1 (by simpa using hne);have hi':i∈plc z hs left:=hi
     cases hq:plc z hs left with
     | nil=>rw [hq] at hi'; cases hi'
     | cons a r =>
      rw [hq] at h3
      cases as with
      | nil=>simp at h3
      | cons b r'=>simp at h3
    rw [c7 this]; exact s4 _ _ hpl
   ·refine NatsAt.snoc ⟨U2.at_.1,λ j a l ha hl=>?_⟩ ?_
    ·rw [c7 (U2.new a (List.mem_of_getElem? ha)).2]; exact s4 _ _ (U2.at_.2 j a l ha hl)
    ·rw [c7 ntd]; exact upd_same
  rintro σ2 H3 ⟨a,rfl,e3,L3,td3',la3,pl3,at3,aN,aT⟩;refine ⟨_,rfl,la1,rfl,⟨_,SqL.of la3⟩,λ p hp=>?_⟩;refine b0t (SqL.of la3) hp (by rw [List.length_map]; omega) (λ j=>!(plc z hs left).contains j) (λ j x H4 N2 hx e hN=>?_) (λ H4 e hp4=>?_)
  ·refine ⟨_,rfl,_,rfl,pl,_,rfl,.inl (SqL.of (e _ _ pl3)),rfl,a8k _,_,rfl,?_⟩
   rw [if_pos rfl,a6w];exact hN
  have em:((List.range (D5 left).length).filter λ j=>!(plc z hs left).contains j).map (λ i=>(D5 left).getD i .non)=D5 (rst z hs left):=by
   unfold rst D5;rw [List.length_map,List.map_map];refine List.map_congr_left λ j hj=>?_;have hjl:=List.mem_range.mp (List.mem_filter.mp hj).1
   show (D5 left).getD j .non=V.int ((left.getD j 0:Nat):Int)
   rw [List.getD_eq_getElem?_getD,a7n hjl]; rfl
  rw [em] at hp4;have hlt:=b3h (z:=z) B.g kt1 U.lt hne;refine ⟨⟨p,rst z hs left,as++[a],done++[lvl z hs left],_,rfl,e3.trans e.to1,L3.same e,U.tdn,e _ _ td3',hp4,⟨at3.1,λ j b l hb hl=>e _ _ (at3.2 j b l hb hl)⟩,λ b hb=>?_,λ j hj=>U.lt j (a6r hj),?_,?_⟩,?_⟩
  ·rcases List.mem_append.mp hb with hb | hb
   ·exact U.new b hb
   ·rw [List.mem_singleton.mp hb]; exact ⟨aN,aT⟩
  ·obtain ⟨m,hm1,hm2⟩:=U.all
   cases m with
   | zero=>have:left=[]:=List.eq_nil_of_length_eq_zero (by omega); exact absurd this hne
   | succ m =>
    refine ⟨m,by omega,?_⟩;rw [a1L hne] at hm2;rw [List.append_assoc]; exact hm2
  ·have:=U.few
   rw [List.length_append,List.length_singleton]; omega
  ·have l1:a6S 3 [some (.ref ba),some (.str z),some (.ref td),some (.ref p),some (.ref pl)] H4=(rst z hs left).length:=by
    show (match H4 p with | some (.lst xs)=>xs.length | _=>0)=_
    rw [hp4]; exact List.length_map _
   have l2:a6S 3 [some (.ref ba),some (.str z),some (.ref td),some (.ref la1),o] H1=left.length:=by
    show (match H1 la1 with | some (.lst xs)=>xs.length | _=>0)=_
    rw [U.lst]; exact List.length_map _
   show a6S 3 [some (.ref ba),some (.str z),some (.ref td),some (.ref p),some (.ref pl)] H4<_
   rw [l1,l2]; exact hlt
end
def a5P (ls:List (List Nat)):PyData:=.list (ls.map Z9)
theorem a6F {K:W.Frag} {H:Hp}:∀ {as:List Addr} {ls:List (List Nat)},NatsAt H as ls->Dps K H (as.map V.ref) (ls.map Z9)
 | [],[],_=>.nil
 | a::as,l::ls,h=>.cons (a3f (h.2 0 a l rfl rfl)) (a6F (as:=as) (ls:=ls) ⟨by simpa using h.1,λ k b m h1 h2=>h.2 (k+1) b m (by simpa using h1) (by simpa using h2)⟩)
 | [],_::_,h=>by have:=h.1; simp at this
 | _::_,[],h=>by have:=h.1; simp at this
theorem a3g (ls:List (List Nat)):(a5P ls).canLay0=true:=by
 unfold a5P;rw [PyData.canLay0]
 induction ls with
 | nil=>rw [List.map_nil,PyData.canLayAll0]
 | cons k r ih=>rw [List.map_cons,PyData.canLayAll0,ih,a0z]; rfl
theorem a7T (ls:List (List Nat)):(a5P ls).depth<=20:=by
 unfold a5P;have:∀ l:List (List Nat),PyData.depthAll (l.map Z9)<=8:=λ l=>by
  induction l with
  | nil=>simp [PyData.depthAll]
  | cons k r ih =>
   rw [List.map_cons,PyData.depthAll];exact Nat.max_le.mpr ⟨Nat.le_trans (a2x k) (by decide),ih⟩
 rw [PyData.depth];have:=this ls;omega
theorem a9U {K:W.Frag} {H:Hp} {a:Addr} {as:List Addr} {ls:List (List Nat)} (h:H a=some (.lst (as.map V.ref))) (n:NatsAt H as ls):Dp K H (.ref a) (a5P ls):=.lst (SqL.of h) (a6F n)
inductive Scl (hs:List h8) (h:h8) (kt kg:Nat):Str->Prop
 | just {A B A1 B1:Int}:ShU "any" hs h kt kg A B->ShU "one" hs h kt kg A1 B1->low A B=low A1 B1->Scl hs h kt kg "just"
 | small {A B A1 B1 A2 B2:Int}:ShU "any" hs h kt kg A B->ShU "one" hs h kt kg A1 B1->low A B≠low A1 B1->ShU "less" hs h kt kg A2 B2->low A B=low A2 B2->Scl hs h kt kg "small"
 | great {A B A1 B1 A2 B2:Int}:ShU "any" hs h kt kg A B->ShU "one" hs h kt kg A1 B1->low A B≠low A1 B1->ShU "less" hs h kt kg A2 B2->low A B≠low A2 B2->Scl hs h kt kg "great"
section
variable {P:Program} {w:World} {K:W.Frag} {mg:Str->Option Value} {base:Heap} {f Pt CN:Addr} {fd:FuncData} {n:Nat}
def a6Z (K:W.Frag) (CN Pt:Addr):Sp:=λ vs H Q E=>∃ (ba:Addr) (xs:List V) (hs:List h8) (number:Int) (far:Int) (kt kg:Nat),vs=[.ref ba,.int number]/\D4 K H ba xs hs far kt kg/\1<=kt/\number.natAbs.log2<1920/\LT Pt H ∧
 (∀ (i:Nat) (h:h8) (H':Hp) (t:Str),number=(i:Int)->hs[i]?=some h->Scl hs h kt kg t->Same1 Pt H H'->LT Pt H'->Q (.str t) H')/\(¬ a1S xs.length number->E (.ref CN) none H)
theorem scScl:m8 ["book","number","by_any"] ["book","number"] (i5 a3B):=⟨rfl,rfl,rfl,by decide +kernel,rfl,by decide +kernel,by decide +kernel⟩
theorem a8o {f1:Addr} {d1:FuncData} (F:Fun K "scale" "scale" a3B f fd) (Cs:a0R P w K mg base n "share" ["book","number","sizes"] (a1x K CN Pt) f1 d1):FnOk P w K mg base (CX1 P w) (n+1) f fd ["book","number"] (a6Z K CN Pt):=by
 have Cs':=a0M Cs.ok;refine F.ok1 scScl (λ vs H Q E h=>?_) (λ cdv A outer s H vs Q E hr h=>?_)
 ·obtain ⟨ba,xs,hs,number,far,kt,kg,rfl,_⟩:=h
  rfl
 obtain ⟨ba,xs,hs,number,far,kt,kg,rfl,B,kt1,lm,L,q,hE⟩:=h;refine ⟨_,i4 (j4 (i:=2) scScl.nd rfl (Or.inl rfl) (j5 Cs' hr rfl Cs.m Cs.k Cs.b .nil a1n (c5 (pv 0) (c5 (pv 1) (c5 P8 c6)))))
  (i4 (A6 (m9 (a9e hr) (pv 2) (j5 Cs' hr rfl Cs.m Cs.k Cs.b .nil a1n (c5 (pv 0) (c5 (pv 1) (c5 P8 c6)))) (r6 _)) (i6 (r9 P8)) t7)
  (i4 (A6 (m9 (a9e hr) (pv 2) (j5 Cs' hr rfl Cs.m Cs.k Cs.b .nil a1n (c5 (pv 0) (c5 (pv 1) (c5 P8 c6)))) (r6 _)) (i6 (r9 P8)) t7)
  (i6 (r9 P8)))),?_⟩
 have xl:xs.length=hs.length:=Paired.length B.b;refine ⟨_,rfl,_,rfl,ba,xs,hs,number,"any",far,kt,kg,rfl,.inl rfl,B,kt1,lm,L,λ i h A0 B0 H1 u0 hi hh X0 e1 L1 hu0=>?_,hE⟩;have bin:∀ {H':Hp},Same1 Pt H H'->D4 K H' ba xs hs far kt kg:=λ e=>⟨SqL.same1 L e B.l,Bk.same1 L e B.b,B.g,B.far,B.few,B.t,B.k⟩;have hil:=(List.getElem?_eq_some_iff.mp hh).1;have gd:a1S xs.length number:=⟨by omega,by omega⟩;refine ⟨_,rfl,_,rfl,_,rfl,ba,xs,hs,number,"one",far,kt,kg,rfl,.inr (.inl rfl),bin e1,kt1,lm,L1,λ i' h' A1 B1 H2 u1 hi' hh' X1 e2 L2 hu1=>?_,λ bad=>absurd gd bad⟩;have:i'=i:=by omega
 subst this;rw [hh] at hh'; cases hh';have hu2:=hu0.to1 L1 e2;refine ⟨dF _,dF _,FrV.dp hu2.v,FrV.dp hu1.v,a1h _,a1h _,Nat.le_trans (Nat.min_le_left _ _) (a8D _),_,rfl,?_⟩;rw [b2i];refine D9 (λ c=>?_) (λ c=>?_)
 ·exact q i' h H2 "just" hi hh (.just X0 X1 (of_decide_eq_true c)) (e1.trans e2) L2
 have c':=of_decide_eq_false (Bool.eq_false_iff.mpr c);refine ⟨_,rfl,_,rfl,_,rfl,ba,xs,hs,number,"less",far,kt,kg,rfl,.inr (.inr (.inl rfl)),bin (e1.trans e2),kt1,lm,L2,λ i2 h' A2 B2 H3 u2 hi' hh' X2 e3 L3 hu3=>?_,λ bad=>absurd gd bad⟩;have:i2=i':=by omega
 subst this;rw [hh] at hh'; cases hh';have hu4:=hu2.to1 L2 e3;refine ⟨dF _,dF _,FrV.dp hu4.v,FrV.dp hu3.v,a1h _,a1h _,Nat.le_trans (Nat.min_le_left _ _) (a8D _),_,rfl,?_⟩;rw [b2i];refine D9 (λ d=>?_) (λ d=>?_)
 ·exact q i2 h H3 "small" hi hh (.small X0 X1 c' X2 (of_decide_eq_true d)) (e1.trans (e2.trans e3)) L3
 ·exact q i2 h H3 "great" hi hh (.great X0 X1 c' X2 (of_decide_eq_false (Bool.eq_false_iff.mpr d))) (e1.trans (e2.trans e3)) L3
end
def V0 (s k:Nat) (c:Int) (h:h8):h8:=if s=0 then (h.1.set k (h.1.getD k 0*c),h.2) else (h.1,h.2.set k (h.2.getD k 0*c))
def msT (s k:Nat) (c:Int) (j:Nat):Int:=if s=0/\j=k then c else 1
def msG (s k:Nat) (c:Int) (j:Nat):Int:=if s=1/\j=k then c else 1
def MsK (s k kt kg:Nat):Prop:=(s=0/\k<kt)\/(s=1/\k<kg)
theorem b0Q (l:List Int) (k j:Nat) (v:Int) (hk:k<l.length):(l.set k v).getD j 0=if j=k then v else l.getD j 0:=by
 rw [List.getD_eq_getElem?_getD,List.getD_eq_getElem?_getD,List.getElem?_set]
 by_cases h:k=j
 ·subst h; simp [hk]
 ·rw [if_neg h,if_neg (λ z=>h z.symm)]
theorem b4P {α β:Type} {F:α->β->Prop} {f:α->β}:∀ {l:List α},(∀ x∈l,F x (f x))->PySem.Paired F l (l.map f)
 | [],_=>.nil
 | a::r,h=>.cons (h a List.mem_cons_self) (b4P λ x hx=>h x (List.mem_cons_of_mem _ hx))
section
variable {s k kt kg:Nat} {c far:Int} {h o:h8}
theorem b3j (h1:1<=c):Mea kt kg id id (msT s k c) (msG s k c) :=
 ⟨λ j hj=>⟨hj,by unfold msT; split <;> omega⟩,λ j hj=>⟨hj,by unfold msG; split <;> omega⟩,λ j hj=>⟨j,hj,rfl⟩,λ j hj=>⟨j,hj,rfl⟩⟩
theorem a6X (g:HG far kt kg h) (hk:MsK s k kt kg):N5 kt kg id id (msT s k c) (msG s k c) h (V0 s k c h):=by
 unfold V0 msT msG;rcases hk with ⟨rfl,hk⟩ | ⟨rfl,hk⟩
 ·refine ⟨λ j hj=>?_,λ j hj=>?_⟩
  ·show (h.1.set k (h.1.getD k 0*c)).getD j 0=h.1.getD j 0*_
   rw [b0Q _ _ _ _ (by rw [g.lt]; exact hk)]
   by_cases e:j=k
   ·subst e; simp
   ·simp [e]
  ·show h.2.getD j 0=h.2.getD j 0*_
   simp
 ·refine ⟨λ j hj=>?_,λ j hj=>?_⟩
  ·show h.1.getD j 0=h.1.getD j 0*_
   simp
  ·show (h.2.set k (h.2.getD k 0*c)).getD j 0=h.2.getD j 0*_
   rw [b0Q _ _ _ _ (by rw [g.lg]; exact hk)]
   by_cases e:j=k
   ·subst e; simp
   ·simp [e]
theorem b1C (g:HG (10 ^ 7) kt kg h) (hk:MsK s k kt kg) (h1:1<=c) (h99:c<=99):HG (10 ^ 9) kt kg (V0 s k c h):=by
 unfold V0;rcases hk with ⟨rfl,hk⟩ | ⟨rfl,hk⟩
 ·have m1:h.1.getD k 0∈h.1:=by rw [List.getD_eq_getElem?_getD,List.getElem?_eq_getElem (by rw [g.lt]; exact hk)]; exact List.getElem_mem _
  have b1:=g.t _ m1;have up1:h.1.getD k 0*c<=10 ^ 7*99:=Int.mul_le_mul b1.2 h99 (by omega) (by decide);have lo1:1*1<=h.1.getD k 0*c:=Int.mul_le_mul b1.1 h1 (by decide) (by omega);refine ⟨by show (h.1.set _ _).length=kt; rw [List.length_set]; exact g.lt,g.lg,λ x hx=>?_,λ x hx=>?_,g.p⟩
  ·rcases List.mem_or_eq_of_mem_set hx with q | q
   ·have:=g.t x q; omega
   ·rw [q]; omega
  ·have:=g.g x hx; omega
 ·have m2:h.2.getD k 0∈h.2:=by rw [List.getD_eq_getElem?_getD,List.getElem?_eq_getElem (by rw [g.lg]; exact hk)]; exact List.getElem_mem _
  have b2:=g.g _ m2;have up2:h.2.getD k 0*c<=10 ^ 7*99:=Int.mul_le_mul b2.2 h99 (by omega) (by decide);have lo2:0<=h.2.getD k 0*c:=Int.mul_nonneg b2.1 (by omega);refine ⟨g.lt,by show (h.2.set _ _).length=kg; rw [List.length_set]; exact g.lg,λ x hx=>?_,λ x hx=>?_,?_⟩
  ·have:=g.t x hx; omega
  ·rcases List.mem_or_eq_of_mem_set hx with q | q
   ·have:=g.g x q; omega
   ·rw [q]; omega
  ·obtain ⟨x,hx,x0⟩:=g.p
   obtain ⟨j,hj,rfl⟩:=List.getElem_of_mem hx
   by_cases e:j=k
   ·subst e
    refine ⟨_,List.mem_set (by exact hj) _,?_⟩;rw [List.getD_eq_getElem?_getD,List.getElem?_eq_getElem hj];exact Int.mul_pos x0 (by omega)
   ·refine ⟨h.2[j],?_,x0⟩
    show h.2[j]∈h.2.set k _
    exact List.mem_of_getElem? (i:=j) (by rw [List.getElem?_set_ne (λ z=>e z.symm)]; exact List.getElem?_eq_getElem hj)
theorem b3u {t b:Int} (hb:0<b) (hc:1<=c):low (t*c) (b*c)=low t b:=a2t (Int.mul_pos hb (by omega)) hb (by ac_rfl)
theorem b2y {a:Q2} {t b:Int} (hb:0<b) (hc:1<=c):stp a (t*c,b*c)=stp a (t,b):=by
 unfold stp
 show (if a.1*(b*c)<t*c*a.2 then low (t*c) (b*c) else a)=if a.1*b<t*a.2 then low t b else a
 have:a.1*(b*c)<t*c*a.2 ↔ a.1*b<t*a.2:=by
  rw [<- Int.mul_assoc,Int.mul_right_comm t c a.2];exact a5D (by omega)
 rw [b3u hb hc]
 by_cases q:a.1*b<t*a.2
 ·rw [if_pos q,if_pos (this.mpr q)]
 ·rw [if_neg q,if_neg λ z=>q (this.mp z)]
theorem a6Q (hc:1<=c):∀ (ts os:List Int) (k:Nat) (a:Q2),(∀ x∈os,1<=x)->(List.zip (ts.set k (ts.getD k 0*c)) (os.set k (os.getD k 0*c))).foldl stp a=(List.zip ts os).foldl stp a
 | [],os,k,a,_=>by simp
 | t::ts,[],k,a,_=>by simp
 | t::ts,b::os,0,a,ho=>by
  simp only [List.set_cons_zero,List.getD_cons_zero,List.zip_cons_cons,List.foldl_cons];rw [b2y (by have:=ho b (.head _); omega) hc]
 | t::ts,b::os,k+1,a,ho=>by
  simp only [List.set_cons_succ,List.getD_cons_succ,List.zip_cons_cons,List.foldl_cons];exact a6Q hc ts os k _ λ x hx=>ho x (.tail _ hx)
theorem b3J (hc:1<=c) (g:HG far kt kg o):ltm (V0 s k c h).1 (V0 s k c o).1=ltm h.1 o.1:=by
 unfold V0 ltm
 by_cases e:s=0
 ·rw [if_pos e,if_pos e]
  exact a6Q hc h.1 o.1 k (0,1) λ x hx=>(g.t x hx).1
 ·rw [if_neg e,if_neg e]
theorem b2Z (hc:1<=c) (gh:HG far kt kg h) (g:HG far kt kg o) (hk:MsK s k kt kg):a4i (V0 s k c h) (V0 s k c o)=a4i h o:=by
 unfold V0 a4i;rcases hk with ⟨rfl,hk⟩ | ⟨rfl,hk⟩
 ·rfl
 show (List.range (h.2.set k (h.2.getD k 0*c)).length).all (λ i=>decide ((o.2.set k (o.2.getD k 0*c)).getD i 0<=(h.2.set k (h.2.getD k 0*c)).getD i 0))=_
 rw [List.length_set]
 congr 1
 funext i
 rw [b0Q _ _ _ _ (by rw [g.lg]; exact hk),b0Q _ _ _ _ (by rw [gh.lg]; exact hk)]
 by_cases e:i=k
 ·subst e
  rw [if_pos rfl,if_pos rfl];exact decide_eq_decide.mpr ⟨λ z=>Int.le_of_mul_le_mul_right z (by omega),λ z=>Int.mul_le_mul_of_nonneg_right z (by omega)⟩
 ·rw [if_neg e,if_neg e]
theorem a9m {hs:List h8} (hc:1<=c) (hG:∀ g∈hs,HG far kt kg g) (g:HG far kt kg o) (hk:MsK s k kt kg):∀ n,n<=hs.length->X4 (hs.map (V0 s k c)) (V0 s k c o) n=X4 hs o n
 | 0,_=>rfl
 | n+1,hn=>by
  have ih:=a9m hc hG g hk n (by omega);have e1:hs.getD n ([],[])=hs[n]:=by rw [List.getD_eq_getElem?_getD,List.getElem?_eq_getElem (by omega)]; rfl
  have e2:(hs.map (V0 s k c)).getD n ([],[])=V0 s k c hs[n]:=by rw [List.getD_eq_getElem?_getD,List.getElem?_map,List.getElem?_eq_getElem (by omega)]; rfl
  show a1g (V0 s k c o) (X4 (hs.map (V0 s k c)) (V0 s k c o) n) n ((hs.map (V0 s k c)).getD n ([],[]))=a1g o (X4 hs o n) n (hs.getD n ([],[]))
  rw [ih,e1,e2];unfold a1g;rw [b2Z hc (hG _ (List.getElem_mem _)) g hk,b3J hc g]
end
section
variable {z:Str} {hs hs':List h8} {h h':h8} {kt kg:Nat} {pt pg:Nat->Nat} {ct cg:Nat->Int} {far far':Int}
theorem b2A {i:Nat} {o o':Option Q2} (hz:R7 z) (M:Mea kt kg pt pg ct cg) (e:PySem.Paired (N5 kt kg pt pg ct cg) hs hs') (hG:∀ g∈hs,HG far kt kg g) (hG':∀ g∈hs',HG far' kt kg g) (x:OsAt z hs kt kg i o) (y:OsAt z hs' kt kg i o'):o=o':=by
 obtain ⟨h,hh,a⟩:=x;obtain ⟨h',hh',b⟩:=y;obtain ⟨h2,hh2,m⟩:=Paired.at e hh;rw [hh'] at hh2; cases hh2;have gh:=hG h (List.mem_of_getElem? hh);have gh':=hG' h' (List.mem_of_getElem? hh');have hGo:∀ g∈P9 hs i,HG far kt kg g:=λ g hg=>hG g (W2 hg);have hGo':∀ g∈P9 hs' i,HG far' kt kg g:=λ g hg=>hG' g (W2 hg);have hko:∀ g∈P9 hs i,g.1.length=kt/\g.2.length=kg:=λ g hg=>⟨(hGo g hg).lt,(hGo g hg).lg⟩;have hko':∀ g∈P9 hs' i,g.1.length=kt/\g.2.length=kg:=λ g hg=>⟨(hGo' g hg).lt,(hGo' g hg).lg⟩;have el:PySem.Paired (N5 kt kg pt pg ct cg) (P9 hs i) (P9 hs' i):=Paired.app (Paired.take i e) (Paired.drop (i+1) e);rcases a with ⟨A,B,s,rfl⟩ | ⟨rfl,N⟩ <;> rcases b with ⟨A',B',s',rfl⟩ | ⟨rfl,N'⟩
 ·rw [a2L hz M el m s.s s'.s hGo gh hGo' gh']
 ·obtain ⟨_,⟨ws,D,S⟩,_⟩:=s.s
  have S':=S.mea M el m;exact (N'.no hz hko' gh' S'.m S'.g).elim
 ·obtain ⟨_,⟨ws,D,S⟩,_⟩:=s'.s
  have S':=S.back M el m;exact (N.no hz hko gh S'.m S'.g).elim
 ·rfl
theorem Os.mea {os os':List (Option Q2)} (hz:R7 z) (M:Mea kt kg pt pg ct cg) (e:PySem.Paired (N5 kt kg pt pg ct cg) hs hs') (hG:∀ g∈hs,HG far kt kg g) (hG':∀ g∈hs',HG far' kt kg g) (x:Os z hs kt kg os) (y:Os z hs' kt kg os'):os=os':=by
 refine List.ext_getElem (x.1.trans ((Paired.length e).trans y.1.symm)) λ i h1 h2=>?_;exact b2A hz M e hG hG' (x.2 i _ (List.getElem?_eq_getElem h1)) (y.2 i _ (List.getElem?_eq_getElem h2))
theorem b0u {t t':Str} (M:Mea kt kg pt pg ct cg) (e:PySem.Paired (N5 kt kg pt pg ct cg) hs hs') (m:N5 kt kg pt pg ct cg h h') (hG:∀ g∈hs,HG far kt kg g) (gh:HG far kt kg h) (hG':∀ g∈hs',HG far' kt kg g) (gh':HG far' kt kg h') (x:Scl hs h kt kg t) (y:Scl hs' h' kt kg t'):t=t':=by
 have E:∀ {z:Str} {A B A' B':Int},R7 z->ShU z hs h kt kg A B->ShU z hs' h' kt kg A' B'->low A B=low A' B':=λ hz s s'=>a2L hz M e m s.s s'.s hG gh hG' gh';have z0:R7 "any":=.inl rfl;have z1:R7 "one":=.inr (.inl rfl);have z2:R7 "less":=.inr (.inr (.inl rfl))
 cases x with
 | just a0 a1 q =>
  cases y with
  | just=>rfl
  | small b0 b1 q'=>rw [<- E z0 a0 b0,<- E z1 a1 b1] at q'; exact absurd q q'
  | great b0 b1 q'=>rw [<- E z0 a0 b0,<- E z1 a1 b1] at q'; exact absurd q q'
 | small a0 a1 q a2 r =>
  cases y with
  | just b0 b1 q'=>rw [<- E z0 a0 b0,<- E z1 a1 b1] at q'; exact absurd q' q
  | small=>rfl
  | great b0 b1 q' b2 r'=>rw [<- E z0 a0 b0,<- E z2 a2 b2] at r'; exact absurd r r'
 | great a0 a1 q a2 r =>
  cases y with
  | just b0 b1 q'=>rw [<- E z0 a0 b0,<- E z1 a1 b1] at q'; exact absurd q' q
  | small b0 b1 q' b2 r'=>rw [<- E z0 a0 b0,<- E z2 a2 b2] at r'; exact absurd r' r
  | great=>rfl
theorem a6h (e:PySem.Paired (N5 kt kg pt pg ct cg) hs hs'):∀ {left:List Nat},(∀ k∈left,k<hs.length)->PySem.Paired (N5 kt kg pt pg ct cg) (a0g hs left) (a0g hs' left)
 | [],_=>.nil
 | k::left,hl=>by
  have hk:=hl k (.head _);obtain ⟨g,hg,m⟩:=Paired.at e (List.getElem?_eq_getElem hk);refine .cons ?_ (a6h e λ j hj=>hl j (.tail _ hj))
  show N5 kt kg pt pg ct cg (hs.getD k ([],[])) (hs'.getD k ([],[]))
  rw [List.getD_eq_getElem?_getD,List.getElem?_eq_getElem hk,List.getD_eq_getElem?_getD,hg];exact m
theorem b0z (hz:R7 z) (M:Mea kt kg pt pg ct cg) (e:PySem.Paired (N5 kt kg pt pg ct cg) hs hs') (hG:∀ g∈hs,HG far kt kg g) (hf:far<=2 ^ 50) (hG':∀ g∈hs',HG far' kt kg g) (hf':far'<=2 ^ 50) (kt1:1<=kt) (k1:kt<=20) (k2:kg<=20) {left:List Nat} (hl:∀ k∈left,k<hs.length) (few:left.length<=16):plc z hs left=plc z hs' left:=by
 have es:=a6h e hl;have hl':∀ k∈left,k<hs'.length:=λ k hk=>by rw [<- Paired.length e]; exact hl k hk
 unfold plc a2z;rw [show (a0g hs left).length=left.length from List.length_map _,show (a0g hs' left).length=left.length from List.length_map _];refine List.filter_congr λ i hi=>?_;have hi':i<left.length:=List.mem_range.mp hi;have i1:i<(a0g hs left).length:=by rw [List.length_map]; exact hi'
 have i2:i<(a0g hs' left).length:=by rw [List.length_map]; exact hi'
 obtain ⟨g,hg,m⟩:=Paired.at es (List.getElem?_eq_getElem i1);rw [List.getElem?_eq_getElem i2] at hg;have hg':=Option.some.inj hg;subst hg';rw [show (a0g hs left).getD i ([],[])=(a0g hs left)[i] by rw [List.getD_eq_getElem?_getD,List.getElem?_eq_getElem i1]; rfl,show (a0g hs' left).getD i ([],[])=(a0g hs' left)[i] by rw [List.getD_eq_getElem?_getD,List.getElem?_eq_getElem i2]; rfl];exact decide_eq_decide.mpr (b1w hz M es m (W8 hG hl) (List.getElem_mem _) hf (W8 hG' hl') (List.getElem_mem _) hf' (by rw [List.length_map]; exact few) kt1 k1 k2)
theorem a6f (hz:R7 z) (M:Mea kt kg pt pg ct cg) (e:PySem.Paired (N5 kt kg pt pg ct cg) hs hs') (hG:∀ g∈hs,HG far kt kg g) (hf:far<=2 ^ 50) (hG':∀ g∈hs',HG far' kt kg g) (hf':far'<=2 ^ 50) (kt1:1<=kt) (k1:kt<=20) (k2:kg<=20):∀ (n:Nat) (left:List Nat),(∀ k∈left,k<hs.length)->left.length<=16->lev z hs n left=lev z hs' n left
 | 0,_,_,_=>rfl
 | n+1,left,hl,few=>by
  by_cases hne:left=[]
  ·subst hne; rw [a3F,a3F]
  have ep:=b0z hz M e hG hf hG' hf' kt1 k1 k2 hl few;rw [a1L hne,a1L hne];have e1:lvl z hs left=lvl z hs' left:=by unfold lvl; rw [ep]
  have e2:rst z hs left=rst z hs' left:=by unfold rst; rw [ep]
  have lr:(rst z hs left).length<=left.length:=by
   unfold rst;rw [List.length_map];exact Nat.le_trans (List.length_filter_le _ _) (by rw [List.length_range]; exact Nat.le_refl _)
  rw [e1,a6f hz M e hG hf hG' hf' kt1 k1 k2 n (rst z hs left) (λ k hk=>hl k (a6r hk)) (by omega),e2]
end
structure a3D (K:W.Frag) (mg:Str->Option Value) (o:Addr):Prop where
 m:mg "NOUGHT"=some (.ref o)
 s:∀ H,SqT K H o [.int 0,.int 1]
section
variable {P:Program} {w:World} {K:W.Frag} {mg:Str->Option Value} {base:Heap} {f Pt P2 c CN oN:Addr} {fd:FuncData} {n:Nat}
def a6j (K:W.Frag) (Pt P2:Addr):Sp:=λ vs H Q _=>∃ (ba:Addr) (xs:List V) (hs:List h8) (z:Str) (far:Int) (kt kg:Nat),vs=[.ref ba,.str z]/\R7 z/\D4 K H ba xs hs far kt kg/\hs.length<=16/\1<=kt/\LT Pt H/\LS P2 H/\P2≠Pt ∧
 ∀ (os:List (Option Q2)) (ns:List Int) (l:Addr) (H':Hp),Os z hs kt kg os->Stood os ns->Same2 Pt P2 H H'->LT Pt H'->LS P2 H'->H l=none->H' l=some (.lst (ns.map V.int))->Q (.ref l) H'
theorem scSta:m8 ["book","sizes","told","tops","bottom"] ["book","sizes"] (i5 K4):=⟨rfl,rfl,rfl,by decide +kernel,rfl,by decide +kernel,by decide +kernel⟩
theorem b3s:(["number","book","sizes"]:List Str).Nodup:=by decide +kernel
theorem b2C:(["one"]:List Str).Nodup:=by decide +kernel
noncomputable def b5u {A:Around} {outer:List Env} {s:Shared} {H:Hp} {E:XK} {f1 f2:Addr} {d1 d2:FuncData} (CH:W.CodeHd base c P2) (BM:N8 mg base) (T:x9 mg) (N:a3D K mg oN)
  (Co:a0R P w K mg base n "share_of_others" ["book","number","sizes"] (a0A K CN Pt) f1 d1) (Cv:Cal P w K mg base n "over_one_bottom" ["ones"] (a3m K) f2 d2) (hr:Room (n+3) (A.deeper (PyProof.Rows.envOfC "standing" (i5 K4) s.heap.objs.size f (.ref c)))) :
  { t:TS // PSs (K7 G5 P w K mg base ["book","sizes","told","tops","bottom"] "standing" (i5 K4) f (.ref c) A outer s H E).nox (v6 K4) t } :=
 ⟨_,i4 (j4 (i:=2) scSta.nd rfl (Or.inr rfl) (R8 ["number"] [0,1] rfl (K3 rfl T.range (c5 (m6 j6 rfl T.len PySem.boot_len (c5 (pv 0) c6)) c6)) (λ _ _ _ _=>i9 (i:=0) b3s rfl (Or.inl rfl))
   (λ _ _ _ _=>j5 Co.ok (hr.mono (by omega)) rfl Co.m Co.k Co.b .nil W9 (c5 (pv 1) (c5 (pv 0) (c5 (pv 2) c6))))))
  (i4 (J9 (j5 Cv.ok (hr.mono (by omega)) rfl Cv.m Cv.k Cv.b .nil w4 (c5 (R8 ["one"] [] rfl (B9 (pv 2)) (λ _ _ _ _=>i9 (i:=0) b2C rfl (Or.inl rfl))
    (λ _ _ _ _=>a9P (m9 a0X (pv 0) N9 (r6 _)) (a1I (v:=.ref oN) rfl N.m rfl) (pv 0))) c6)) (a0e rfl (j8 (i9 (i:=3) scSta.nd rfl (Or.inr rfl)) (j8 (i9 (i:=4) scSta.nd rfl (Or.inl rfl)) A8))))
  (i6 (r9 (a5Q (col:="number") (fr:=[2,3]) (c:=c) (P:=P2) rfl (hr.mono (by omega)) rfl T.so rfl CH BM rfl rfl (by decide +kernel) rfl rfl rfl (λ _ _ _ _=>rfl)
   (c5 (r8 a1e rfl T.range PyProof.Rows.boot_range (c5 (m6 j6 rfl T.len PySem.boot_len (c5 (pv 0) c6)) c6)) c6)
   (λ _ _ _ _=>U7 (c5 (Q4 a6g (j3 (Q9 K rfl) (pv 1) (pv 0) (λ _ _=>rfl)) N9 (r6 _)) (c5 (S3 K6 (j3 (Q9 K rfl) (pv 2) (pv 0) (λ _ _=>rfl))) (c5 (pv 0) c6)))))))) ⟩
end
def OtT (H:Hp) (v:V) (o:Option Q2):Prop:=match o with | none=>v=.non | some q=>FrT H v q
def toF (o:Option Q2):Q2:=o.getD (0,1)
section
variable {P:Program} {w:World} {K:W.Frag} {mg:Str->Option Value} {base:Heap} {f Pt P2 c CN oN:Addr} {fd:FuncData} {n:Nat}
theorem OsAt.fr {z:Str} {hs:List h8} {kt kg i:Nat} {o:Option Q2} (x:OsAt z hs kt kg i o):Big 20000 (toF o).1/\0<(toF o).2/\(toF o).2<2 ^ 8000/\∀ q,o=some q->low q.1 q.2=q:=by
 obtain ⟨h,_,⟨A,B,s,rfl⟩ | ⟨rfl,_⟩⟩:=x
 ·exact ⟨a7m s.b s.a,Z0 s.b,Int.lt_of_le_of_lt (a5U s.b) s.c,λ q e=>by cases e; exact a7r s.b⟩
 ·exact ⟨by show Big 20000 0; unfold Big; decide,by decide,by decide,nofun⟩
theorem a4I {f1 f2:Addr} {d1 d2:FuncData} (F:Fun K "standing" "standing" K4 f fd) (hcode:fd.code=.ref c) (CH:W.CodeHd base c P2) (BM:N8 mg base) (T:x9 mg) (N:a3D K mg oN)
  (Co:a0R P w K mg base n "share_of_others" ["book","number","sizes"] (a0A K CN Pt) f1 d1) (Cv:Cal P w K mg base n "over_one_bottom" ["ones"] (a3m K) f2 d2) :
  FnOk P w K mg base G5 (n+4) f fd ["book","sizes"] (a6j K Pt P2):=by
 refine F.okC hcode scSta (λ vs H Q E h=>?_) (λ A outer s H vs Q E hr h=>?_)
 ·obtain ⟨ba,xs,hs,z,far,kt,kg,rfl,_⟩:=h
  rfl
 obtain ⟨ba,xs,hs,z,far,kt,kg,rfl,hz,B,h16,kt1,L,M,ne,q⟩:=h;refine ⟨_,(b5u CH BM T N Co Cv hr).2,?_⟩;have xl:xs.length=hs.length:=Paired.length B.b;have small:=j7 (show xs.length<=1000 by omega);have bin:∀ {H':Hp},Same1 Pt H H'->D4 K H' ba xs hs far kt kg:=λ e=>⟨SqL.same1 L e B.l,Bk.same1 L e B.b,B.g,B.far,B.few,B.t,B.k⟩;refine ⟨_,rfl,ba,_,rfl,.inl B.l,_,rfl,by omega,by omega,λ p hp=>?_⟩;refine b1y (P:=Pt) (pos:=a1R) (qual:=a8V) L hp small (λ i y H'=>∃ o,OsAt z hs kt kg i o/\OtT H' y o) (λ i y H1 H2 L1 ⟨zs,hzs⟩ ⟨o,x,r⟩ k=>⟨o,x,?_⟩) (λ i H1 ys N' hi e1 L1 hp1 hN=>?_) (λ ys H1 e1 L1 hp1 len pr=>?_)
 ·cases o with
  | none=>exact r
  | some q =>
   obtain ⟨a,rfl,ha⟩:=r;exact ⟨a,rfl,k _ _ (S2 ha hzs nofun) (L1.ne ha nofun) ha⟩
 ·refine ⟨_,rfl,_,rfl,_,rfl,ba,xs,hs,(i:Int),z,far,kt,kg,rfl,hz,bin e1,kt1,Q1 (by omega),L1,λ i' h' A' B' H7 u' hi' hh' X' e7 L7 hu'=>?_,λ i' h' H7 hi' hh' N e7 L7=>?_,λ bad=>absurd ⟨by omega,by omega⟩ bad⟩
  ·have:i'=i:=by omega
   subst this;exact hN _ _ e7 L7 ⟨some (low A' B'),⟨h',hh',.inl ⟨A',B',X',rfl⟩⟩,hu'⟩
  ·have:i'=i:=by omega
   subst this;exact hN _ _ e7 L7 ⟨none,⟨h',hh',.inr ⟨rfl,N⟩⟩,rfl⟩
 obtain ⟨os,olen,hos⟩:∃ os:List (Option Q2),os.length=ys.length/\∀ i y o,ys[i]?=some y->os[i]?=some o->OsAt z hs kt kg i o/\OtT H1 y o:=by
  have:∀ m,m<=ys.length->∃ os:List (Option Q2),os.length=m/\∀ i y o,ys[i]?=some y->os[i]?=some o->OsAt z hs kt kg i o/\OtT H1 y o:=by
   intro m
   induction m with
   | zero=>exact λ _=>⟨[],rfl,λ i y o _ e=>by simp at e⟩
   | succ m ih =>
    intro hm;obtain ⟨os,l,k⟩:=ih (by omega);obtain ⟨o,x,r⟩:=pr m _ (List.getElem?_eq_getElem (show m<ys.length by omega));refine ⟨os++[o],by simp [l],λ i y o' hy ho=>?_⟩
    by_cases hi:i<os.length
    ·rw [List.getElem?_append_left hi] at ho
     exact k i y o' hy ho
    ·rw [List.getElem?_append_right (by omega)] at ho
     have hi0:i - os.length=0:=by
      cases q:i - os.length with
      | zero=>rfl
      | succ k=>rw [q] at ho; simp at ho
     rw [hi0] at ho;have:i=m:=by omega
     subst this;simp at ho;subst ho;rw [List.getElem?_eq_getElem (show i<ys.length by omega)] at hy
     cases hy;exact ⟨x,r⟩
  exact this _ (Nat.le_refl _)
 have OS:Os z hs kt kg os:=⟨by omega,λ i o ho=>(hos i _ o (List.getElem?_eq_getElem (show i<ys.length by rw [<- olen]; exact (List.getElem?_eq_some_iff.mp ho).1)) ho).1⟩;have M1:LS P2 H1:=L.other M ne e1;refine ⟨_,rfl,p,rfl,⟨_,SqL.of hp1⟩,λ p2 hp2=>?_⟩;refine R1 (y6 (SqL.of hp1)) hp2 (by rw [len]; exact small) (λ y=>if y=.non then .ref oN else y) (λ i y H2 N' hy e2 hN=>?_) ?_
 ·refine ⟨Wk.set (by decide),_,rfl,rfl,_,rfl,?_⟩
  by_cases hn:y=.non
  ·subst hn
   exact a7V hN
  ·rw [if_neg hn] at hN
   rw [decide_eq_false hn];exact a1p ⟨_,rfl,hN⟩
 have s2:=Same.new hp2 (.lst (ys.map λ y=>if y=.non then .ref oN else y));have pF:PySem.Paired (λ y f=>FrV K (upd H1 p2 (.lst (ys.map λ y=>if y=.non then .ref oN else y))) y f) (ys.map λ y=>if y=.non then .ref oN else y) (os.map toF):=by
  have gen:∀ (as:List V) (bs:List (Option Q2)),bs.length=as.length->(∀ (i:Nat) y o,as[i]?=some y->bs[i]?=some o->OtT H1 y o)->PySem.Paired (λ y f=>FrV K (upd H1 p2 (.lst (ys.map λ y=>if y=.non then .ref oN else y))) y f) (as.map λ y=>if y=.non then .ref oN else y) (bs.map toF):=by
   intro as
   induction as with
   | nil=>intro bs hl _; rw [List.eq_nil_of_length_eq_zero hl]; exact .nil
   | cons a as ih =>
    intro bs hl k
    cases bs with
    | nil=>simp at hl
    | cons b bs =>
     refine .cons ?_ (ih bs (by simpa using hl) λ i y o h1 h2=>k (i+1) y o (by simpa using h1) (by simpa using h2));have r:=k 0 a b rfl rfl
     cases b with
     | none =>
      have r':a=.non:=r;subst r';exact ⟨oN,rfl,N.s _⟩
     | some q =>
      obtain ⟨t,rfl,ht⟩:=r;exact ⟨t,rfl,SqT.of (s2 _ _ ht)⟩
  exact gen ys os olen λ i y o h1 h2=>(hos i y o h1 h2).2
 refine ⟨p2,_,os.map toF,rfl,SqL.of upd_same,pF,by rw [List.length_map]; omega,λ fq hf=>?_,λ r tl H2 Lb e2 hr2 htl hLb hdv=>?_⟩
 ·obtain ⟨o,ho,rfl⟩:=List.mem_map.mp hf
  obtain ⟨i,hi⟩:=List.getElem?_of_mem ho;obtain ⟨a1,a2,a3,_⟩:=(OS.2 i o hi).fr;exact ⟨a1,a2,a3⟩
 have e12:=s2.trans e2;have L2':=L1.same e12;have M2:=M1.same e12;refine ⟨r,_,rfl,SqT.of hr2,rfl,_,_,rfl,_,_,rfl,rfl,?_⟩;have eH2:Same1 Pt H H2:=e1.trans e12.to1;refine ⟨_,rfl,ba,_,rfl,.inl (bin eH2).l,_,rfl,λ rg hrg=>?_⟩;have s3:=Same.new hrg (.rng 0 (xs.length:Int));have L3:=L2'.same s3;have M3:=M2.same s3;have hp2':H2 p=some (.lst ys):=e12 _ _ hp1;refine ⟨rg,xs.length,λ m=>match atO os m with | none=>(false,0) | some q=>(true,-(q.1*(Lb / q.2))),rfl,upd_same,by omega,M3,λ H3 e3 M4=>⟨λ H4 e4 m hm=>?_,λ H4 l ns e4 hl hl4 S=>?_⟩⟩
 ·obtain ⟨i,hi,rfl⟩:=List.mem_map.mp hm
  have hi':i<ys.length:=by rw [len]; exact List.mem_range.mp hi
  obtain ⟨y,hy⟩:∃ y,ys[i]?=some y:=⟨_,List.getElem?_eq_getElem hi'⟩;obtain ⟨o,ho⟩:∃ o,os[i]?=some o:=⟨_,List.getElem?_eq_getElem (by omega)⟩;have eo:atO os (i:Int)=o:=by show os.getD (Int.toNat (i:Int)) none=o; rw [Int.toNat_natCast,List.getD_eq_getElem?_getD,ho]; rfl
  have g1:H4 p=some (.lst ys):=e4 _ _ (e3.get M3 (s3 _ _ hp2') nofun);have g2:H4 tl=some (.lst ((os.map toF).map λ f=>V.int (f.1*(Lb / f.2)))):=e4 _ _ (e3.get M3 (s3 _ _ htl) nofun);have g3:((os.map toF).map λ f=>V.int (f.1*(Lb / f.2)))[i]?=some (V.int ((toF o).1*(Lb / (toF o).2))):=by rw [List.getElem?_map,List.getElem?_map,ho]; rfl
  have r:=(hos i y o hy ho).2;refine ⟨_,rfl,_,rfl,p,_,_,_,rfl,rfl,SqL.of g1,t9 hy,rfl,_,rfl,_,rfl,tl,_,_,_,rfl,rfl,SqL.of g2,t9 g3,_,rfl,_,rfl,(by show 3<=sizeLine; decide),λ t ht=>⟨t,rfl,ht,?_⟩⟩;unfold a0s kV3;dsimp only;rw [eo]
  cases o with
  | none =>
   have r':y=.non:=r;subst r'
   show upd H4 t (HO.tup [V.bl false,V.int (-(0*(Lb / 1))),V.int (i:Int)])=upd H4 t (HO.tup [V.bl false,V.int 0,V.int (i:Int)])
   rw [Int.zero_mul,Int.neg_zero]
  | some fq =>
   obtain ⟨a,rfl,_⟩:=r;rfl
 ·have el:os.length=xs.length:=by omega
  have mem:∀ q,some q∈os->0<q.2/\q.2∣Lb/\low q.1 q.2=q:=λ fq hq=>by
   obtain ⟨i,hi⟩:=List.getElem?_of_mem hq;obtain ⟨_,a2,_,a4⟩:=(OS.2 i _ hi).fr;exact ⟨a2,hdv fq (List.mem_map.mpr ⟨some fq,hq,rfl⟩),a4 fq rfl⟩
  refine q os ns l H4 OS ⟨by rw [el]; exact S.1,S.2.imp λ {a b} k=>b3E hLb mem (λ m _=>rfl) k⟩ ?_ ?_ (M4.same e4) ?_ hl4
  ·exact (eH2.to2.trans s3.to2).trans (e3.to2'.trans e4.to2)
  ·exact (M3.other L3 (Ne.symm ne) e3).same e4
  ·cases eh:H l with
   | none=>rfl
   | some o =>
    exfalso;have L5:LT Pt H3:=M3.other L3 (Ne.symm ne) e3;have tn:∀ {P0:Addr} {p0:Pos} {q0:Str},LamTab P0 p0 q0 H3->l≠P0:=λ T0 z0=>by
     subst z0;rcases T0 with t | ⟨c,t,_⟩ <;> (rw [hl] at t; cases t)
    have:=((eH2.to2.trans s3.to2).trans e3.to2') l o (tn L5) (tn M4) eh;rw [hl] at this; cases this
end
end Rim
set_option maxHeartbeats 1000000
namespace L2
open PySem PySem.Spec PyProof.Rows PySem.W
@[reducible] def boolKind:KeyKind where
 α:=Bool
 blt a b:=!a&&b
 irrefl a:=by cases a <;> rfl
 trans a b c h1 h2:=by cases a <;> cases b <;> cases c <;> simp_all
 negTrans a b c h:=by cases a <;> cases b <;> cases c <;> simp_all
 total a b h1 h2:=by cases a <;> cases b <;> simp_all
 keyOf v:=match v with | .bool x=>some x | _=>none
 dflt:=false
section
variable {prog:Program} {w:World} {A:Around} {E:Value->Shared->Prop} {s:Shared}
theorem b1E {a b:Bool} {Q:Value->Shared->Prop} (h:Q (.bool (!a&&b)) s):wpAny (model prog w) A (call (.builtin "int.__lt__") [.bool a,.bool b]) Q E s:=by
 refine wpAny_call_entry F.slot_bool_lt (typeIs_bool' s a) F.entry_int_lt ?_ (F.args_int_lt_2 _ _)
 cases a <;> cases b <;> exact wpAny_pure ⟨_,rfl,h⟩
theorem b4v {a b:Bool} {Q:Bool->Shared->Prop} (h:Q (!a&&b) s):wpAny (model prog w) A (oneLt' true (.bool a) (.bool b)) Q E s:=by
 rw [oneLt'_eq];simp only [if_true];refine wpAny_bind (wpAny_cRoomFor_byValue rfl ?_);refine wpAny_bind (wpAny_callSpecialIfBound?_slot (typeIs_bool' s a) F.slot_bool_lt (b1E ?_));exact wpAny_truthy_bool h
end
theorem b2D:boolKind.OneLt:=by
 intro prog w A E s x y a b Q ha hb h
 cases x <;> simp only [boolKind,reduceCtorEq,Option.some.injEq] at ha
 cases y <;> simp only [boolKind,reduceCtorEq,Option.some.injEq] at hb
 cases ha; cases hb;exact b4v h
abbrev J5 (bs:List Bool):List Value:=bs.map Value.bool
theorem b1o (bs:List Bool):KeysOf boolKind (pairsOf (J5 bs)):=by
 intro p hp;rw [pairsOf_toList] at hp;obtain ⟨b,_,e⟩:=List.mem_map.mp (mem_zip_self hp).2;exact ⟨b,by rw [<- e]⟩
theorem a4g:∀ bs:List Bool,(J5 bs).mapM firstOfTuple'=pure ((J5 bs).map λ _=>none)
 | []=>by simp
 | b::bs=>by
  show (Value.bool b::J5 bs).mapM firstOfTuple'=_
  rw [List.mapM_cons,a4g bs,show firstOfTuple' (.bool b)=pure none from rfl]; simp
theorem a6s:∀ bs:List Bool,(J5 bs).mapM typeOf=pure ((J5 bs).map λ _=>Value.type "bool")
 | []=>by simp
 | b::bs=>by
  show (Value.bool b::J5 bs).mapM typeOf=_
  rw [List.mapM_cons,a6s bs]
  show (pure (Value.type "bool") >>= λ b=>pure _ >>= λ bs=>pure (b::bs))=_
  simp
theorem b0B {b1 b2:Bool} {bs:List Bool}:keyKind' (J5 (b1::b2::bs)).toArray=pure oneType':=by
 rw [keyKind'_eq,List.mapM_toArray,a4g];simp only [map_pure,pure_bind];rw [if_neg (by simp),if_neg (by simp)];rw [oneTypeOnly'_eq,List.mapM_toArray,a6s];simp only [map_pure,pure_bind];have hall:((List.map (λ _=>Value.type "bool") (J5 (b1::b2::bs))).toArray.all λ x=>x==Value.type "bool")=true:=by
  simp only [List.all_toArray,List.all_map,List.all_eq_true];intro _ _;rfl
 have h0:(List.map (λ _=>Value.type "bool") (J5 (b1::b2::bs))).toArray[0]?=some (Value.type "bool"):=by simp
 rw [h0];simp only [hall,if_true,pure_bind,Option.isSome_some]
def Fall (bs:List Bool):Prop:=bs.Pairwise λ a b=>b=true->a=true
theorem Fall.eq:∀ {l l':List Bool},Fall l->Fall l'->l.Perm l'->l=l'
 | l,l',h1,h2,h3=>List.Perm.eq_of_pairwise (λ a b _ _ x y=>by cases a <;> cases b <;> simp_all) h1 h2 h3
theorem b3v {bs:List Bool} {xs:Array Keyed} (hp:xs.Perm (pairsOf (J5 bs))) (hs:SortedToK boolKind xs (pairsOf (J5 bs)).size) :
  ∃ bs',((xs.map (·.2)).reverse).toList=J5 bs'/\bs'.Perm bs/\Fall bs':=by
 have hl:xs.toList.Perm ((J5 bs).zip (J5 bs)):=by rw [<- pairsOf_toList]; exact Array.perm_iff_toList_perm.mp hp
 have hmem:∀ p,p∈xs.toList->p.1=p.2/\p.1∈J5 bs:=λ p hp'=>mem_zip_self (hl.mem_iff.mp hp');obtain ⟨k,hk⟩:∃ k:Keyed->Bool,k=λ p=>(boolKind.keyOf p.1).getD false:=⟨_,rfl⟩;have kv:∀ p∈xs.toList,p.2=Value.bool (k p):=λ p hp'=>by
  obtain ⟨e,m⟩:=hmem p hp';obtain ⟨b,_,eb⟩:=List.mem_map.mp m;rw [<- e,hk]
  show p.1=Value.bool ((boolKind.keyOf p.1).getD false)
  rw [<- eb]; rfl
 have pw:(xs.toList.map k).Pairwise λ a b=>a=true->b=true:=by
  rw [List.pairwise_iff_getElem];intro i j hi hj hij;have hi':i<xs.size:=by simpa using hi
  have hj':j<xs.size:=by simpa using hj
  have h1:=hs i j (Nat.le_of_lt hij) (by rw [<- hp.size_eq]; exact hj');have K1:∀ n (hn:n<xs.size),KK boolKind xs n=k xs[n]:=λ n hn=>by
   unfold KK; rw [getElem?_pos xs n hn,hk]
  rw [K1 i hi',K1 j hj'] at h1;rw [List.getElem_map,List.getElem_map,Array.getElem_toList,Array.getElem_toList];have h2:(!k xs[j]&&k xs[i])=false:=h1
  revert h2
  cases k xs[i] <;> cases k xs[j] <;> simp
 refine ⟨(xs.toList.map k).reverse,?_,?_,?_⟩
 ·rw [Array.toList_reverse,Array.toList_map]
  show _=List.map Value.bool (List.map k xs.toList).reverse
  rw [List.map_reverse,List.map_map]
  congr 1
  exact List.map_congr_left λ p hp'=>kv p hp'
 ·refine (List.reverse_perm _).trans ?_
  have h1:=hl.map k;have e2:((J5 bs).zip (J5 bs)).map k=bs:=by
   have:((J5 bs).zip (J5 bs)).map k=(((J5 bs).zip (J5 bs)).map Prod.fst).map λ v=>(boolKind.keyOf v).getD false:=by rw [List.map_map,hk]; rfl
   rw [this,List.map_fst_zip (Nat.le_refl _),List.map_map]
   show bs.map (λ b=>b)=bs
   simp
  rwa [e2] at h1
 ·show ((xs.toList.map k).reverse).Pairwise _
  rw [List.pairwise_reverse]; exact pw
section
variable {prog:Program} {w:World} {A:Around} {E:Value->Shared->Prop} {s:Shared}
theorem b0I {a:Addr} {bs:List Bool} {n:Nat} {P:PySem.Fin->Shared->Prop} (ho:s.heap.get? a=some (seqObj "list" (J5 bs).toArray n)) (h64:bs.length<64)
  (h:∀ (out:Array Value) (bs':List Bool),out.toList=J5 bs'->bs'.Perm bs->Fall bs'->P (.done (.ret .none)) { s with heap:=sortedHeap s.heap a (J5 bs) out }) :
  wpAny (model prog w) A (Builtin.«list.sort» ⟨[.ref a],[(Str.ofString "reverse",.bool true)]⟩) P E s:=by
 rw [list_sort_rev];have ha:a<s.heap.objs.size:=Heap.lt_size ho;have lb:(J5 bs).length=bs.length:=List.length_map _;refine wpAny_bind (listItems_at ho rfl ?_);refine wpAny_bind (listUpdate_at ho rfl ?_ (by rw [List.size_toArray,lb,sizeLine_eq]; omega) (Nat.zero_le _));obtain ⟨e1,ho1⟩:∃ e1,(s.heap.update a (Obj.mapSeq λ _=>#[])).get? a=some (seqObj "list" #[] e1):=⟨_,get?_update_seq ho (λ _=>#[])⟩;refine wpAny_bind (seqEpoch_at ho1 rfl ?_);refine wpAny_bind (wpAny_newTuple ?_ (by show (J5 bs).length<=_; rw [lb,sizeLine_eq]; omega));refine wpAny_bind (wpAny_newList ?_);refine wpAny_holding ?_;have ho6:(((s.heap.update a (Obj.mapSeq λ _=>#[])).push (seqObj "tuple" (J5 bs).toArray 0)).push (seqObj "list" #[] 0)).get? a=some (seqObj "list" #[] e1):=by
  rw [Heap.get?_push_ne _ _ _ (by rw [size_push',Heap.size_update]; exact Nat.ne_of_lt (Nat.lt_succ_of_lt ha)),Heap.get?_push_ne _ _ _ (by rw [Heap.size_update]; exact Nat.ne_of_lt ha)];exact ho1
 show wpAny (model prog w) A _ P E { s with heap:=((s.heap.update a (Obj.mapSeq λ _=>#[])).push (seqObj "tuple" (J5 bs).toArray 0)).push (seqObj "list" #[] 0) }
 have fin:∀ st':SortSt,(arrOf st').Perm (pairsOf (J5 bs))->SortedToK boolKind (arrOf st') (pairsOf (J5 bs)).size →
   P (.done (.ret .none)) { s with heap:=sortedHeap s.heap a (J5 bs) ((arrOf st').map (·.2)).reverse }:=by
  intro st' hp hs;obtain ⟨bs',h1,h2,h3⟩:=b3v hp hs;exact h _ bs' h1 h2 h3
 have hstart:((J5 bs).toArray.zip (J5 bs).toArray).reverse.Perm (pairsOf (J5 bs)):=Array.perm_iff_toList_perm.mpr (by rw [Array.toList_reverse]; exact List.reverse_perm _);dsimp only;simp only [if_true];refine wpAny_bind (wpAny_rule ?_)
 by_cases h2:(J5 bs).toArray.size<2
 ·rw [if_pos h2,if_pos h2]
  refine wpAny_bind (wpAny_pure ?_);rw [StateT.run_pure];refine wpAny_bind (wpAny_pure ?_);dsimp only;refine wpAny_bind (seqEpoch_at ho6 rfl ?_);refine wpAny_bind (listUpdate_at ho6 rfl ?_ (hsz2:=by
   simp only [Array.size_reverse,Array.size_map]; show ((J5 bs).toArray.zip (J5 bs).toArray).reverse.size<=_; rw [Array.size_reverse,Array.size_zip,sizeLine_eq]; omega))
  simp only [bne_self_eq_false,Bool.false_eq_true,if_false];refine wpAny_pure (fin (SortSt.mk' general' ((J5 bs).toArray.zip (J5 bs).toArray).reverse #[] 7 none) hstart ?_);intro i j hij hj;have:i=j:=by rw [pairsOf_size] at hj; rw [List.size_toArray] at h2; omega
  subst this; exact KeyOrd.kle_refl _
 ·rw [if_neg h2,if_neg h2]
  obtain ⟨v₁,v₂,rest,rfl⟩:∃ v₁ v₂ rest,bs=v₁::v₂::rest:=by
   match bs,h2 with
   | [],h2=>simp at h2
   | [_],h2=>simp at h2
   | v₁::v₂::rest,_=>exact ⟨v₁,v₂,rest,rfl⟩
  rw [b0B];refine wpAny_bind (wpAny_pure ?_);refine wpAny_bind (wpAny_mono (wpS_sortRunsK (κ:=boolKind) b2D (a₀:=pairsOf (J5 (v₁::v₂::rest)))
   (st:=SortSt.mk' oneType' ((J5 (v₁::v₂::rest)).toArray.zip (J5 (v₁::v₂::rest)).toArray).reverse #[] 7 none)
   (Q:=λ _ st'=>(arrOf st').Perm (pairsOf (J5 (v₁::v₂::rest)))/\failedOf st'=none/\SortedToK boolKind (arrOf st') (pairsOf (J5 (v₁::v₂::rest))).size)
   (b1o _) ⟨hstart,rfl,rfl,rfl⟩ (by rw [pairsOf_size]; simp) (by rw [pairsOf_size,lb]; exact h64) λ st' a1 a2 a3=>⟨a1,a2,a3⟩) ?_ λ _ _ e=>e)
  rintro ⟨⟨⟩,st'⟩ s' ⟨rfl,hp,hf,hs⟩;dsimp only;refine wpAny_bind (seqEpoch_at ho6 rfl ?_);refine wpAny_bind (listUpdate_at ho6 rfl ?_ (hsz2:=by
   rw [Array.size_reverse];refine Nat.le_trans (Nat.le_of_eq ((Array.size_map ..).trans (hp.size_eq.trans (pairsOf_size _)))) ?_; rw [lb,sizeLine_eq]; omega))
  rw [hf];simp only [bne_self_eq_false,Bool.false_eq_true,if_false];exact wpAny_pure (fin st' hp hs)
theorem a7S {l:Addr} {bs:List Bool} {Q:Value->Shared->Prop} (hl:s.heap.IsList l (J5 bs).toArray) (h64:bs.length<64)
  (h:∀ (out:Array Value) (bs':List Bool),out.toList=J5 bs'->bs'.Perm bs->Fall bs'->Q (.ref (s.heap.objs.size+1)) { s with heap:=sortedAll s.heap (J5 bs) out }) :
  wpAny (model prog w) A (call (.builtin "sorted") [.ref l] [(Str.ofString "reverse",.bool true)]) Q E s:=by
 have lb:(J5 bs).length=bs.length:=List.length_map _;refine call_function_entry_kw kind_sorted plain_sorted entry_sorted (args_sorted_rev _ _) ?_;unfold Builtin.«sorted»;refine wpAny_bind (m:=checkCount "sorted" 1 1 _) (wpAny_pure ?_);refine wpAny_bind (collect_list hl ?_ (by rw [lb,sizeLine_eq]; omega));refine wpAny_bind (wpAny_newList ?_ (by rw [lb,sizeLine_eq]; omega));have hsz:((s.heap.push (seqObj "list" #[] 0)).update s.heap.objs.size (Obj.mapSeq (·++(J5 bs).toArray))).objs.size=s.heap.objs.size+1:=by
  rw [Heap.size_update,size_push']
 have hoL:(((s.heap.push (seqObj "list" #[] 0)).update s.heap.objs.size (Obj.mapSeq (·++(J5 bs).toArray))).push (seqObj "list" (J5 bs).toArray 0)).get? (s.heap.objs.size+1)=some (seqObj "list" (J5 bs).toArray 0):=by
  rw [<- hsz]; exact Heap.get?_push_size _ rfl
 show wpAny _ _ _ _ _ { s with heap:=((s.heap.push (seqObj "list" #[] 0)).update s.heap.objs.size (Obj.mapSeq (·++(J5 bs).toArray))).push (seqObj "list" (J5 bs).toArray 0) }
 rw [hsz];refine wpAny_bind (wpAny_holding (wpAny_call_entry_kw slot_list_sort ⟨_,hoL,rfl⟩ entry_list_sort (b0I hoL h64 λ out ns' a1 a2 a3=>⟨_,rfl,?_⟩) (args_list_sort_rev _ _)));exact wpAny_pure ⟨_,rfl,h out ns' a1 a2 a3⟩
end
theorem a7o:∀ {bs:List Bool} {its:List Value},Vals (bs.map V.bl) its->its=J5 bs
 | [],_,h=>by cases h; rfl
 | b::bs,_,h=>by
  cases h with
  | cons r t=>cases r; rw [a7o t]; rfl
theorem a6N:∀ bs:List Bool,Vals (bs.map V.bl) (J5 bs)
 | []=>.nil
 | b::bs=>.cons rfl (a6N bs)
def b4J (K:W.Frag) (t:TA):TE:=λ σ H Q=>t σ H λ vs H1=>∃ (p:Addr) (bs:List Bool),vs=[.ref p]/\SqL K H1 p (bs.map V.bl)/\bs.length<64/\∀ (l:Addr) (bs':List Bool),H1 l=none->bs'.Perm bs->Fall bs'->Q (.ref l) (upd H1 l (.lst (bs'.map V.bl)))
section
variable {X:Cx} {e:Expr} {t:TA} {p pos kp1 cp:Pos} {j:Nat}
theorem a6a (hg:Gl X "sorted") (hm:X.mg "sorted"=none) (ha:PA X [e] t) (he:backTo pos (starEach [e] X.env)=(false,eval e X.env)::backTo pos (starEach [] X.env):=by rfl) (hpl:(backTo pos (starEach [e] X.env)).any (·.1)=false:=by rfl) :
  PE X (.Call (.Name "sorted" p) [e] [⟨some "reverse",.Constant (.bool true) j cp,kp1⟩] pos) (b4J X.K t):=by
 intro pins s σ H Q I h;refine wpAny_Call_Name_kw (T9 I hg hm (u:=.builtin "sorted") rfl ?_);refine PyProof.Rows.callWith_kw (C2 (ha pos pins s σ H _ I h) λ us s1 ⟨vs,H1,I1,r,l,bs,ev,hl,hn,q⟩=>?_) he hpl;subst ev;obtain ⟨u,rfl,ru⟩:=O7 r
 cases ru;obtain ⟨its,rv,pp,_⟩:=I1.list hl;have ei:=a7o rv;subst ei
 show wpAny _ _ (evalAll [(do let v <- eval (.Constant (.bool true) j cp) X.env; standAt pos; pure v)]) _ _ s1
 refine wpAny_evalAll_cons (wpAny_bind (Constant_bool (wpAny_bind (wpAny_standAt (wpAny_pure (wpAny_evalAll_nil ?_))))));refine a7S pp.isList hn λ out bs' ho hp hs=>?_;obtain ⟨e,he⟩:=sortedAll_at s1.heap (J5 bs) out;have lo:bs'.length<=sizeLine:=Nat.le_trans (by rw [hp.length_eq]; exact Nat.le_of_lt hn) (by decide:64<=sizeLine);refine ⟨.ref (s1.heap.objs.size+1),_,I1.laid (o:=.lst (bs'.map V.bl)) (t':=s1.toks) (λ b u e=>sortedAll_old e) (Nat.le_succ _) ⟨by simpa using lo,out.toList,e,ho ▸ a6N bs',by simpa using he⟩,rfl,q _ bs' (I1.hok.fresh (Nat.le_succ _)) hp hs⟩
end
end L2
namespace L2
open PySem PySem.Spec PyProof.Rows
section
variable {X:Cx}
def b3G:V->List V->Hp->VK->Prop:=λ x vs H Q=>∃ (l:Addr) (ns:List Int) (m:Int) (j:Nat),x=.ref l/\vs=[.int m]/\H l=some (.lst (ns.map V.int))/\ns[j]?=some m/\(∀ i k,i<j->ns[i]?=some k->k≠m)/\Q (.int (j:Int)) H
theorem a4f:MtM X "list.index" b3G:=by
 intro pins s σ H x vs v us Q I rx rv h;obtain ⟨l,ns,m,j,rfl,rfl,hH,hj,hno,q⟩:=h
 cases rx;obtain ⟨u,rfl,ru⟩:=rv.one;obtain ⟨t,rfl⟩:=id ru;obtain ⟨z,its,n,r,hl,e⟩:=I.lstM hH;have fl:(ns.map V.int).all a0a=true:=by
  rw [List.all_eq_true];intro y hy;obtain ⟨k,_,rfl⟩:=List.mem_map.mp hy;rfl
 have at_:∀ (i:Nat) (hi:i<its.toArray.size),∃ k,ns[i]?=some k/\eqU (.int m) its.toArray[i]=(k==m):=λ i hi=>by
  have hi':i<its.length:=by simpa using hi
  have hin:i<ns.length:=by
   have:=hl;rw [List.length_map] at this;omega
  obtain ⟨w,hw,rw'⟩:=r.get (i:=i) (x:=.int ns[i]) (by rw [List.getElem?_map,List.getElem?_eq_getElem hin]; rfl);refine ⟨ns[i],List.getElem?_eq_getElem hin,?_⟩;have ew:its.toArray[i]=w:=by
   rw [List.getElem?_eq_getElem hi'] at hw;have:=Option.some.inj hw
   simpa using this
  rw [ew,a5s rw' rfl]; rfl
 have hjn:j<ns.length:=(List.getElem?_eq_some_iff.mp hj).1;have hjs:j<its.toArray.size:=by
  have:=hl;rw [List.length_map] at this;simp; omega
 have hsz:its.toArray.size<=sizeLine:=by
  rw [List.size_toArray,<- hl]; exact z
 have hsl:sizeLine=16777216:=sizeLine_eq;refine call_meets F.slot_list_index ⟨_,e,rfl⟩ F.entry_list_index (F.args_list_index_2 _ _) (SeqAt.list_indexAt l its.toArray n none #[] (.int m t) (eqU (.int m)) j hjs (by omega) ?_ λ i hi hij=>?_) ⟨e,λ y hy=>a0B ru rfl r fl y (by simpa using hy),?_⟩
 ·obtain ⟨k,h1,h2⟩:=at_ j hjs
  rw [hj] at h1
  cases h1;rw [h2]; simp
 ·obtain ⟨k,h1,h2⟩:=at_ i hi
  rw [h2];have:=hno i k hij h1
  simpa using this
 ·exact ⟨.int (j:Int),H,I.tok _,⟨_,rfl⟩,q⟩
end
end L2
namespace Rim
open PySem L2 Fr
theorem a1D {m:Int} {l:Nat} (h:1<=l):∃ k:Nat,m % (l:Int)=(k:Int)/\k<l:=by
 have h1:=Int.emod_nonneg m (show (l:Int)≠0 by omega);have h2:=Int.emod_lt_of_pos m (show (0:Int)<(l:Int) by omega);exact ⟨(m % (l:Int)).toNat,by omega,by omega⟩
theorem a5w {ds:List Int} {j:Nat} (h:j<ds.length):atI (ds.map V.int) (j:Int)=some (.int (ds.getD j 0)):=t9 (by rw [List.getElem?_map,List.getD_eq_getElem?_getD,List.getElem?_eq_getElem h]; rfl)
theorem a4K {n k:Nat} (h:k<n):ixN n (k:Int)=some k:=by
 rw [Y9 (by omega) (by omega),Int.toNat_natCast]
theorem a4z (l:List Int) (k:Nat) (v:Int):(l.map V.int).set k (.int v)=(l.set k v).map V.int:=by rw [List.map_set]
section
variable {P:Program} {w:World} {K:W.Frag} {mg:Str->Option Value} {base:Heap} {f Pt CN:Addr} {fd:FuncData} {n:Nat}
def a9t (K:W.Frag):Sp:=λ vs H Q _=>∃ (ba:Addr) (xs:List V) (hs:List h8) (s k kt kg:Nat) (c:Int),vs=[.ref ba,.int (s:Int),.int (k:Int),.int c]/\SqL K H ba xs/\Bk K H xs hs/\hs.length<=16/\(∀ h∈hs,HG (10 ^ 7) kt kg h)/\kt<=4/\kg<=4/\MsK s k kt kg/\1<=c/\c<=99 ∧
 ∀ (r:Addr) (ys:List V) (H':Hp),Same H H'->H' r=some (.lst ys)->Bk K H' ys (hs.map (V0 s k c))->Q (.ref r) H'
abbrev msN:List Str:=["book","side","kind","by","found","house","some"]
theorem scMs:m8 msN ["book","side","kind","by"] (i5 B6):=⟨rfl,rfl,rfl,by decide +kernel,rfl,by decide +kernel,by decide +kernel⟩
noncomputable def b5O {cdv:Value} {A:Around} {outer:List Env} {s:Shared} {H:Hp} {E:XK} (T:x9 mg)
  (hr:Room n (A.deeper (PyProof.Rows.envOfC "_law_measured" (i5 B6) s.heap.objs.size f cdv))) :
  { t:TS // PSs (K7 G5 P w K mg base msN "_law_measured" (i5 B6) f cdv A outer s H E).nox (v6 B6) t } :=
 ⟨_,i4 (j4 (i:=4) scMs.nd rfl (Or.inl rfl) (v4 c6))
  (i4 (P4 PassesOwn.never rfl (B9 (pv 0)) (i9 (i:=5) scMs.nd rfl (Or.inl rfl))
   (i4 (j4 (i:=6) scMs.nd rfl (Or.inl rfl) (v4 (c5 (r8 D3 rfl T.list PyProof.Rows.boot_list (c5 (j3 E6 (pv 5) i3 (λ _ _=>rfl)) c6)) (c5 (r8 D3 rfl T.list PyProof.Rows.boot_list (c5 (j3 E6 (pv 5) i3 (λ _ _=>rfl)) c6)) c6))))
   (p6 (J9 (i8 T5 (j3 i7 (j3 i7 (pv 6) (pv 1) (λ _ _=>rfl)) (pv 2) (λ _ _=>rfl)) (pv 3)) (R0 (j3 i7 (pv 6) (pv 1) (λ _ _=>rfl)) (pv 2) G3))
   (i6 (Q8 (a1l PySem.F.plainAttrs_list PySem.F.slot_list_append PySem.F.type_list_append J8 (pv 4) (c5 (U7 (c5 (r8 D8 rfl T.tuple PyProof.Rows.boot_tuple (c5 (j3 i7 (pv 6) i3 (λ _ _=>rfl)) c6)) (c5 (r8 D8 rfl T.tuple PyProof.Rows.boot_tuple (c5 (j3 i7 (pv 6) i3 (λ _ _=>rfl)) c6)) c6))) c6)))))))
  (i6 (r9 (pv 4))))⟩
theorem b1r (F:Fun K "_law_measured" "_law_measured" B6 f fd) (T:x9 mg):FnOk P w K mg base G5 (n+1) f fd ["book","side","kind","by"] (a9t K):=by
 refine F.ok scMs (λ vs H Q E h=>?_) (λ cdv A outer s H vs Q E hr h=>?_)
 ·obtain ⟨ba,xs,hs,sd,k,kt,kg,c,rfl,_⟩:=h
  rfl
 obtain ⟨ba,xs,hs,sd,k,kt,kg,c,rfl,hS,hB,few,hG,kt4,kg4,mk,c1,c99,q⟩:=h;refine ⟨_,(b5O T hr).2,?_⟩;have small:=j7 (show (1000:Nat)<=1000 from Nat.le_refl _);have xl:xs.length=hs.length:=Paired.length hB;refine ⟨(by show 0<=sizeLine; decide),λ fl hfl=>?_⟩;have t1:=Same.new hfl (.lst []);refine ⟨_,rfl,ba,rfl,⟨_,t1.seq hS⟩,?_⟩;refine a2l (xs:=xs) (λ i σ H'=>∃ (ys:List V) (o5 o6:Option V),σ=[some (.ref ba),some (.int (sd:Int)),some (.int (k:Int)),some (.int c),some (.ref fl),o5,o6]/\Same H H'/\H' fl=some (.lst ys)/\Bk K H' ys ((hs.take i).map (V0 sd k c)))
  ⟨[],_,_,rfl,t1,upd_same,.nil⟩ (λ i σ H' _ ⟨_,_,_,_,e,_⟩=>e.seq hS) ?_ ?_
 rotate_left
 ·rintro σ H' ⟨ys,o5,o6,rfl,e,hf',hBk⟩
  rw [List.take_of_length_le (by omega)] at hBk;exact ⟨_,rfl,q fl ys H' e hf' hBk⟩
 rintro i x σ H2 hx ⟨ys,o5,o6,rfl,e2',hf2,hBk⟩;obtain ⟨h,hh,⟨a,ta,ga,rfl,p1,p2,p3⟩⟩:=Paired.at hB hx;have hil:i<hs.length:=(List.getElem?_eq_some_iff.mp hh).1;have gh:=hG h (List.mem_of_getElem? hh);have yl:ys.length=i:=by rw [Paired.length hBk,List.length_map,List.length_take]; omega
 have l1:h.1.length=kt:=gh.lt;have l2:h.2.length=kg:=gh.lg;refine ⟨_,rfl,a,_,0,_,rfl,rfl,e2'.tseq p1,V1 _ _,ta,_,rfl,.inr (e2'.tseq p2),λ l0 k0=>?_⟩;have s1:=Same.new k0 (.lst (h.1.map V.int));refine ⟨_,rfl,a,_,1,_,rfl,rfl,(e2'.trans s1).tseq p1,V9 _ _,ga,_,rfl,.inr ((e2'.trans s1).tseq p3),λ l1' k1'=>?_⟩;have s2:=Same.new k1' (.lst (h.2.map V.int));refine ⟨(by show 2<=sizeLine; decide),λ sl ks=>?_⟩;have s3:=Same.new ks (.lst [V.ref l0,V.ref l1']);have hl0:(upd (upd (upd H2 l0 (.lst (h.1.map V.int))) l1' (.lst (h.2.map V.int))) sl (.lst [V.ref l0,V.ref l1'])) l0=some (.lst (h.1.map V.int)):=(s2.trans s3) _ _ upd_same;have hl1:(upd (upd (upd H2 l0 (.lst (h.1.map V.int))) l1' (.lst (h.2.map V.int))) sl (.lst [V.ref l0,V.ref l1'])) l1'=some (.lst (h.2.map V.int)):=s3 _ _ upd_same;have hsl:(upd (upd (upd H2 l0 (.lst (h.1.map V.int))) l1' (.lst (h.2.map V.int))) sl (.lst [V.ref l0,V.ref l1'])) sl=some (.lst [V.ref l0,V.ref l1']):=upd_same;have e23:=s1.trans (s2.trans s3);have n01:l0≠l1':=g0 upd_same k1';have n0s:l0≠sl:=g0 (s2 _ _ upd_same) ks;have n1s:l1'≠sl:=g0 upd_same ks;have m1:H2 l1'=none:=by
  cases e:H2 l1' with
  | none=>rfl
  | some o=>rw [s1 _ _ e] at k1'; cases k1'
 generalize upd (upd (upd H2 l0 (.lst (h.1.map V.int))) l1' (.lst (h.2.map V.int))) sl (.lst [V.ref l0,V.ref l1'])=H3 at *;refine ⟨λ σ' H'=>σ'=[some (.ref ba),some (.int (sd:Int)),some (.int (k:Int)),some (.int c),some (.ref fl),some (.ref a),some (.ref sl)]/\Same H2 H'/\H' sl=some (.lst [V.ref l0,V.ref l1'])/\H' l0=some (.lst ((V0 sd k c h).1.map V.int))/\H' l1'=some (.lst ((V0 sd k c h).2.map V.int)),?_,?_⟩
 ·rcases mk with ⟨rfl,hk⟩ | ⟨rfl,hk⟩
  ·have at1:atI (h.1.map V.int) (k:Int)=some (.int (h.1.getD k 0)):=a5w (by omega)
   have hx1:=gh.t (h.1.getD k 0) (by rw [List.getD_eq_getElem?_getD,List.getElem?_eq_getElem (by omega)]; exact List.getElem_mem _);refine ⟨_,rfl,_,rfl,sl,_,_,_,rfl,rfl,SqL.of hsl,V1 _ _,_,rfl,l0,_,_,_,rfl,rfl,SqL.of hl0,at1,_,rfl,_,_,rfl,rfl,.inl ⟨by omega,by omega⟩,?_⟩;refine ⟨_,rfl,_,rfl,sl,_,_,_,rfl,rfl,SqL.of hsl,V1 _ _,_,rfl,l0,_,_,k,rfl,rfl,hl0,by rw [List.length_map,l1]; exact a4K hk,?_⟩;refine ⟨rfl,e23.write k0,by rw [c7 n0s.symm]; exact hsl,?_,by rw [c7 n01.symm]; exact hl1⟩;rw [upd_same,a4z]; rfl
  ·have at1:atI (h.2.map V.int) (k:Int)=some (.int (h.2.getD k 0)):=a5w (by omega)
   have hx1:=gh.g (h.2.getD k 0) (by rw [List.getD_eq_getElem?_getD,List.getElem?_eq_getElem (by omega)]; exact List.getElem_mem _);refine ⟨_,rfl,_,rfl,sl,_,_,_,rfl,rfl,SqL.of hsl,V9 _ _,_,rfl,l1',_,_,_,rfl,rfl,SqL.of hl1,at1,_,rfl,_,_,rfl,rfl,.inl ⟨by omega,by omega⟩,?_⟩;refine ⟨_,rfl,_,rfl,sl,_,_,_,rfl,rfl,SqL.of hsl,V9 _ _,_,rfl,l1',_,_,k,rfl,rfl,hl1,by rw [List.length_map,l2]; exact a4K hk,?_⟩;refine ⟨rfl,e23.write m1,by rw [c7 n1s.symm]; exact hsl,by rw [c7 n01]; exact hl0,?_⟩;rw [upd_same,a4z]; rfl
 intro σ5 H5 hM_; refine I0 λ G_ hG_=>?_; obtain ⟨rfl,e5,a1,a2,a3⟩:=hM_; subst hG_;have hf5:=e5 _ _ hf2;refine ⟨_,rfl,.inl ⟨rfl,_,SqL.of hf5⟩,?_⟩;refine ⟨_,rfl,sl,_,0,_,rfl,rfl,SqL.of a1,V1 _ _,l0,_,rfl,.inl ⟨SqL.of a2,λ t0 h0=>?_⟩⟩;have w1:=Same.new h0 (.tup ((V0 sd k c h).1.map V.int));refine ⟨_,rfl,sl,_,1,_,rfl,rfl,SqL.of (w1 _ _ a1),V9 _ _,l1',_,rfl,.inl ⟨SqL.of (w1 _ _ a3),λ t2 h2=>?_⟩⟩;have w2:=Same.new h2 (.tup ((V0 sd k c h).2.map V.int));refine ⟨(by show 2<=sizeLine; decide),λ t3 h3=>?_⟩;have w3:=Same.new h3 (.tup [V.ref t0,V.ref t2]);have w123:=w1.trans (w2.trans w3);have hf6:=w123 _ _ hf5;refine ⟨fl,_,_,rfl,rfl,hf6,by omega,?_⟩;have HSn:HS K (upd (upd (upd H5 t0 (.tup ((V0 sd k c h).1.map V.int))) t2 (.tup ((V0 sd k c h).2.map V.int))) t3 (.tup [V.ref t0,V.ref t2])) (.ref t3) (V0 sd k c h):=⟨t3,t0,t2,rfl,SqT.of upd_same,SqT.of ((w2.trans w3) _ _ upd_same),SqT.of (w3 _ _ upd_same)⟩;generalize upd (upd (upd H5 t0 (.tup ((V0 sd k c h).1.map V.int))) t2 (.tup ((V0 sd k c h).2.map V.int))) t3 (.tup [V.ref t0,V.ref t2])=H6 at *;have kp:Keep H6 (upd H6 fl (.lst (ys++[V.ref t3]))):=λ b o hb nl=>by
  rw [c7 (λ z=>by rw [z,hf6] at hb; exact nl _ (Option.some.inj hb).symm)]; exact hb
 refine ⟨ys++[.ref t3],_,_,rfl,(e2'.trans (e5.trans w123)).write hfl,upd_same,?_⟩;rw [List.take_succ,hh,List.map_append];exact Paired.app (Bk.keep kp (Bk.same (e5.trans w123) hBk)) (.cons (HSn.keep kp) .nil)
end
def a3N:Option Q2->Q2
 | none=>(1,1)
 | some q=>if q.1<=q.2 then q else (1,1)
theorem OsAt.share {z:Str} {hs:List h8} {kt kg i:Nat} {o:Option Q2} {h:h8} {A B:Int} {far:Int} (hz:R7 z) (hG:∀ g∈hs,HG far kt kg g) (kt1:1<=kt) (x:OsAt z hs kt kg i o) (hh:hs[i]?=some h) (X:ShU z hs h kt kg A B):low A B=a3N o:=by
 obtain ⟨h',hh',a⟩:=x;rw [hh] at hh'; cases hh';have hm:=List.mem_of_getElem? hh;have gh:=hG h hm;have m1:∀ g∈P9 hs i,g∈hs:=λ g hg=>W2 hg;have m2:∀ g∈hs,g=h\/g∈P9 hs i:=λ g hg=>b1x hh hg;rcases a with ⟨A',B',s,rfl⟩ | ⟨rfl,N⟩
 ·have c:=low_cross (x:=A') s.b
  have iff:(low A' B').1<=(low A' B').2 ↔ A'<=B':=by
   have p:=Z0 (t:=A') s.b;constructor
   ·intro z
    have:=Int.mul_le_mul_of_nonneg_right z (Int.le_of_lt s.b);rw [c] at this;exact Int.le_of_mul_le_mul_right (by rw [Int.mul_comm B']; exact this) p
   ·intro z
    have:=Int.mul_le_mul_of_nonneg_right z (Int.le_of_lt p);rw [<- c,Int.mul_comm B'] at this;exact Int.le_of_mul_le_mul_right this s.b
  show _=if (low A' B').1<=(low A' B').2 then low A' B' else (1,1)
  by_cases le:A'<=B'
  ·rw [if_pos (iff.mpr le)]
   exact X.fr hz (a9W s.s m1 m2 le) hG gh
  ·rw [if_neg λ z=>le (iff.mp z),X.fr hz (a8Q s.s hG hm m2 (by omega)) hG gh]
   exact a6C
 ·rw [X.fr hz (a5Z N hG hm m1 m2 kt1) hG gh]
  exact a6C
theorem b2Q {o o':Option Q2} {i i':Int} (c:∀ q,o=some q->0<q.2) (c':∀ q,o'=some q->0<q.2) (h:ahd o o' i i'):¬ (a3N o).1*(a3N o').2<(a3N o').1*(a3N o).2:=by
 have le1:∀ q:Option Q2,(∀ r,q=some r->0<r.2)->(a3N q).1<=(a3N q).2:=λ q _=>by
  cases q with
  | none=>exact Int.le_refl _
  | some r=>unfold a3N; dsimp only; split <;> omega
 cases o with
 | none =>
  have:=le1 o' c'
  show ¬ (1:Int)*_<_*1
  omega
 | some p =>
  cases o' with
  | none=>exact h.elim
  | some q =>
   have p0:=c p rfl;have q0:=c' q rfl;rcases h with h | ⟨rfl,_⟩
   ·unfold a3N
    dsimp only
    by_cases lp:p.1<=p.2
    ·by_cases lq:q.1<=q.2
     ·rw [if_pos lp,if_pos lq]; omega
     ·exfalso
      have a1:=Int.mul_le_mul_of_nonneg_right lp (Int.le_of_lt q0);have a2:=Int.mul_lt_mul_of_pos_right (show q.2<q.1 by omega) p0;have:p.2*q.2=q.2*p.2:=Int.mul_comm _ _;omega
    ·rw [if_neg lp]
     by_cases lq:q.1<=q.2
     ·rw [if_pos lq]; show ¬ (1:Int)*q.2<q.1*1; omega
     ·rw [if_neg lq]; decide
   ·exact Int.lt_irrefl _
theorem a8A {o o':Option Q2} {i i':Int} (h:ahd o o' i i'):o'.isNone=true->o.isNone=true:=by
 cases o with
 | none=>intro _; rfl
 | some p =>
  cases o' with
  | none=>exact h.elim
  | some q=>intro z; exact z
end Rim
namespace L2
open PySem
section
variable {fr:List Nat} {te:TE} {σ:St} {H1:Hp} {p:Addr} {D:Hp->Prop} {P:Addr} {pos:Pos} {qual:Str} {J:It} {xs:List V}
theorem a3h (hJ:∀ H,Same1 P H1 H->a5j J H xs) (T:LamTab P pos qual H1) (hp:H1 p=none) (hz:xs.length<sizeLine) (R:Nat->V->Hp->Prop)
  (hR:∀ i y H H',LamTab P pos qual H->(∃ zs,H p=some (.lst zs))->R i y H->(∀ b o,b≠p->b≠P->H b=some o->H' b=some o)->R i y H')
  (step:∀ (i:Nat) x H ys (N:VK),xs[i]?=some x->Same1 P H1 H->LamTab P pos qual H->H p=some (.lst ys)->(∀ v H3,Same1 P H H3->LamTab P pos qual H3->R i v H3->N v H3)->te ((blkσ 1 fr σ).set 0 (some x)) H N)
  (hd:∀ ys H,Same1 P H1 H->LamTab P pos qual H->H p=some (.lst ys)->ys.length=xs.length->(∀ i y,ys[i]?=some y->R i y H)->D H):lcW 1 fr (J6 0) te σ J H1 p D:=by
 refine ⟨λ i m ys H=>m=xs.length - i/\i<=xs.length/\Same1 P H1 H/\LamTab P pos qual H/\H p=some (.lst ys)/\ys.length=i/\∀ j y,ys[j]?=some y->R j y H,⟨xs.length,by simp,Nat.zero_le _,(Same.new hp _).to1,T.same (Same.new hp _),upd_same,rfl,λ j y e=>by simp at e⟩,?_⟩;rintro i m ys H ⟨rfl,hi,e,L,hH,len,pr⟩
 by_cases hlt:i<xs.length
 ·refine .inr ⟨(hJ H e).go i _ (Same.refl _) hlt,λ x H' y=>?_⟩
  obtain ⟨rfl,hx⟩:=(hJ H e).yld i _ x H' (Same.refl _) hlt y;refine ⟨Wk.set (by decide),step i x _ _ _ hx e L hH λ v H3 e3 L3 r3=>?_⟩;have h3:=e3.get L hH nofun;refine ⟨h3,by omega,xs.length - (i+1),by omega,rfl,hlt,(e.trans e3).write hp,L3.write h3,upd_same,by rw [List.length_append,len]; rfl,λ j y ey=>?_⟩;have up:∀ b o,b≠p->b≠P->H3 b=some o->upd H3 p (.lst (ys++[v])) b=some o:=λ b o hb _ q=>by rw [c7 hb]; exact q
  by_cases hj:j<ys.length
  ·rw [List.getElem?_append_left hj] at ey
   exact hR j y _ _ L ⟨_,hH⟩ (pr j y ey) λ b o hb hP q=>up b o hb hP (e3 _ _ hP q)
  ·rw [List.getElem?_append_right (by omega)] at ey
   have hj':j - ys.length=0:=by
    cases q:j - ys.length with
    | zero=>rfl
    | succ k=>rw [q] at ey; simp at ey
   rw [hj'] at ey;have:j=i:=by omega
   subst this;simp at ey;subst ey;exact hR j v _ _ L3 ⟨_,h3⟩ r3 up
 ·have:i=xs.length:=by omega
  subst this;exact .inl ⟨(hJ H e).stop _ (Same.refl _),hd ys H e L hH len pr⟩
end
end L2
namespace Rim
open PySem L2 Fr
section
variable {P:Program} {w:World} {K:W.Frag} {mg:Str->Option Value} {base:Heap} {f:Addr} {fd:FuncData} {n:Nat} {CN Pt P2:Addr}
abbrev b4l:List Str:=["script","book","picks","side","kind","other","k","sizes","found","shares","none","number","more","worths","at"]
theorem scLaw:m8 b4l ["script"] (i5 a1r):=⟨rfl,rfl,rfl,by decide +kernel,rfl,by decide +kernel,by decide +kernel⟩
theorem nd1:(["k","book","sizes"]:List Str).Nodup:=by decide +kernel
theorem nd2:(["k","shares"]:List Str).Nodup:=by decide +kernel
theorem nd3:(["k","book","sizes","number"]:List Str).Nodup:=by decide +kernel
structure Calls (P:Program) (w:World) (K:W.Frag) (mg:Str->Option Value) (base:Heap) (n:Nat) (CN Pt P2:Addr) (a1 a2 a3 a4 a5 a6 a7 a8 a9 a10 a11:Addr) (d1 d2 d3 d4 d5 d6 d7 d8 d9 d10 d11:FuncData):Prop where
 ab:Cal P w K mg base n "_law_a_book" ["script","at","most","far"] (a6J K) a1 d1
 ca:Cal P w K mg base n "_law_cell_at" ["script","k"] (a3z K) a2 d2
 dr:Cal P w K mg base n "_law_draws" ["cell","many","base"] (a1y K) a3 d3
 me:Cal P w K mg base n "_law_measured" ["book","side","kind","by"] (a9t K) a4 d4
 al:a0R P w K mg base n "share_alone" ["book","number"] (b3A K CN) a5 d5
 sc:a0R P w K mg base n "scale" ["book","number"] (a6Z K CN Pt) a6 d6
 st:Cal P w K mg base n "standing" ["book","sizes"] (a6j K Pt P2) a7 d7
 sh:a0R P w K mg base n "share" ["book","number","sizes"] (a1x K CN Pt) a8 d8
 le:Cal P w K mg base n "_law_a_less" ["one","other"] (a8S K) a9 d9
 ot:a0R P w K mg base n "share_of_others" ["book","number","sizes"] (a0A K CN Pt) a10 d10
 lv:W5 P w K mg base n "levels" ["book","sizes"] (a4s K Pt) a11 d11
abbrev b5Q (P:Program) (w:World) (K:W.Frag) (mg:Str->Option Value) (base:Heap) (f:Addr) (cdv:Value) (A:Around) (outer:List Env) (s:Shared) (H:Hp) (E:XK):Cx:=(K7 G5 P w K mg base b4l "law" (i5 a1r) f cdv A outer s H E).nox
variable {cdv:Value} {A:Around} {outer:List Env} {s:Shared} {H:Hp} {E:XK} {a1 a2 a3 a4 a5 a6 a7 a8 a9 a10 a11:Addr} {d1 d2 d3 d4 d5 d6 d7 d8 d9 d10 d11:FuncData}
noncomputable def b5C (T:x9 mg) (C:Calls P w K mg base n CN Pt P2 a1 a2 a3 a4 a5 a6 a7 a8 a9 a10 a11 d1 d2 d3 d4 d5 d6 d7 d8 d9 d10 d11) (hr:Room n (A.deeper (PyProof.Rows.envOfC "law" (i5 a1r) s.heap.objs.size f cdv))):{ t:TS // PSs (b5Q P w K mg base f cdv A outer s H E) (v6 a1r) t } :=
 ⟨_,i4 (j4 (i:=1) scLaw.nd rfl (Or.inr rfl) (j5 C.ab.ok hr rfl C.ab.m C.ab.k C.ab.b .nil w4 (c5 (pv 0) (c5 i3 (c5 i3 (c5 (i8 a3y i3 i3) c6))))))
  (i4 (j4 (i:=2) scLaw.nd rfl (Or.inl rfl) (j5 C.dr.ok hr rfl C.dr.m C.dr.k C.dr.b .nil w4 (c5 (j5 C.ca.ok hr rfl C.ca.m C.ca.k C.ca.b .nil w4 (c5 (pv 0) (c5 i3 c6))) (c5 i3 (c5 i3 c6)))))
  (i4 (j4 (i:=3) scLaw.nd rfl (Or.inl rfl) (i8 x6 (j3 i7 (pv 2) i3 (λ _ _=>rfl)) i3))
  (p6 (j4 (i:=4) scLaw.nd rfl (Or.inl rfl) (i8 x6 (j3 i7 (pv 2) i3 (λ _ _=>rfl)) (m6 j6 rfl T.len PySem.boot_len (c5 (j3 E6 (j3 i7 (pv 1) i3 (λ _ _=>rfl)) (pv 3) (λ _ _=>rfl)) c6))))
  (p6 (j4 (i:=5) scLaw.nd rfl (Or.inl rfl) (j5 C.me.ok hr rfl C.me.m C.me.k C.me.b .nil w4 (c5 (pv 1) (c5 (pv 3) (c5 (pv 4) (c5 (i8 C3 i3 (i8 x6 (j3 i7 (pv 2) i3 (λ _ _=>rfl)) i3)) c6))))))
  (p6 (P4 PassesOwn.never rfl (K3 rfl T.range (c5 (m6 j6 rfl T.len PySem.boot_len (c5 (pv 1) c6)) c6)) (i9 (i:=6) scLaw.nd rfl (Or.inl rfl))
   (p6 (A6 (m9 (a0f hr) (j5 C.al.ok hr rfl C.al.m C.al.k C.al.b .nil W9 (c5 (pv 5) (c5 (pv 6) c6))) (j5 C.al.ok hr rfl C.al.m C.al.k C.al.b .nil W9 (c5 (pv 1) (c5 (pv 6) c6))) (r6 _)) O9 t7)
   (i6 (A6 (m9 b1X (j5 C.sc.ok hr rfl C.sc.m C.sc.k C.sc.b .nil W9 (c5 (pv 5) (c5 (pv 6) c6))) (j5 C.sc.ok hr rfl C.sc.m C.sc.k C.sc.b .nil W9 (c5 (pv 1) (c5 (pv 6) c6))) (r6 _)) O9 t7))))
  (i4 (P4 PassesOwn.never rfl (B9 (v4 (c5 P8 (c5 P8 (c5 P8 (c5 P8 c6)))))) (i9 (i:=7) scLaw.nd rfl (Or.inr rfl))
   (p6 (j4 (i:=8) scLaw.nd rfl (Or.inl rfl) (j5 C.st.ok hr rfl C.st.m C.st.k C.st.b .nil w4 (c5 (pv 1) (c5 (pv 7) c6))))
   (p6 (j4 (i:=9) scLaw.nd rfl (Or.inr rfl) (R8 ["k"] [1,7] rfl (B9 (pv 8)) (λ _ _ _ _=>i9 (i:=0) nd1 rfl (Or.inl rfl)) (λ _ _ _ _=>j5 (a0M C.sh.ok) hr rfl C.sh.m C.sh.k C.sh.b .nil W9 (c5 (pv 1) (c5 (pv 0) (c5 (pv 2) c6))))))
   (p6 (A6 (m9 (a0f hr) (a5A ["k"] [9] rfl (a8f rfl T.range (c5 i3 (c5 (m6 j6 rfl T.len PySem.boot_len (c5 (pv 8) c6)) c6))) (λ _ _ _ _=>i9 (i:=0) nd2 rfl (Or.inl rfl)) (λ _ _ _ _=>a5O (j5 C.le.ok hr rfl C.le.m C.le.k C.le.b .nil w4 (c5 (j3 (Q9 K rfl) (pv 1) (i8 a2k (pv 0) i3) (λ _ _=>rfl)) (c5 (j3 (Q9 K rfl) (pv 1) (pv 0) (λ _ _=>rfl)) c6)))) (λ _ _ _ _=>pv 0)) (v4 c6) (r6 _)) O9 t7)
   (p6 (a0I (i:=10) ["k"] [1,7] scLaw.nd rfl rfl rfl (B9 (pv 8)) (λ _ _ _ _=>i9 (i:=0) nd1 rfl (Or.inl rfl)) (λ _ _ _ _=>Q4 a0X (j5 C.ot.ok hr rfl C.ot.m C.ot.k C.ot.b .nil W9 (c5 (pv 1) (c5 (pv 0) (c5 (pv 2) c6)))) N9 (r6 _)))
   (p6 (A6 (m9 (a0f hr) (pv 10) (a6a rfl T.so (c5 (pv 10) c6)) (r6 _)) O9 t7)
   (p6 (A6 (m9 (a0f hr) (j5 C.st.ok hr rfl C.st.m C.st.k C.st.b .nil w4 (c5 (pv 5) (c5 (pv 7) c6))) (pv 8) (r6 _)) O9 t7)
   (p6 (A6 (m9 (a0f hr) (j5 C.lv.ok hr rfl C.lv.m C.lv.k C.lv.b .nil w4 (c5 (pv 5) (c5 (pv 7) c6))) (j5 C.lv.ok hr rfl C.lv.m C.lv.k C.lv.b .nil w4 (c5 (pv 1) (c5 (pv 7) c6))) (r6 _)) O9 t7)
   (i4 (j4 (i:=11) scLaw.nd rfl (Or.inr rfl) (i8 x6 (j3 i7 (pv 2) i3 (λ _ _=>rfl)) (m6 j6 rfl T.len PySem.boot_len (c5 (pv 1) c6))))
   (p6 (j4 (i:=12) scLaw.nd rfl (Or.inl rfl) (j5 C.st.ok hr rfl C.st.m C.st.k C.st.b .nil w4 (c5 (i8 D0 (pv 1) (v4 (c5 (j3 i7 (pv 1) (pv 11) (λ _ _=>rfl)) c6))) (c5 (pv 7) c6))))
   (p6 (a0I (i:=13) ["k"] [1,7,11] scLaw.nd rfl rfl rfl (B9 (pv 12)) (λ _ _ _ _=>i9 (i:=0) nd3 rfl (Or.inl rfl)) (λ _ _ _ _=>j5 (a0M C.sh.ok) hr rfl C.sh.m C.sh.k C.sh.b .nil W9 (c5 (i8 D0 (pv 1) (v4 (c5 (j3 (Q9 K rfl) (pv 1) (pv 3) (λ _ _=>rfl)) c6))) (c5 (pv 0) (c5 (pv 2) c6)))))
   (i4 (j4 (i:=14) scLaw.nd rfl (Or.inl rfl) (a1l PySem.F.plainAttrs_list PySem.F.slot_list_index PySem.F.type_list_index a4f (pv 12) (c5 (pv 11) c6)))
   (i6 (A6 (m9 (a0f hr) (j3 i7 (pv 13) (pv 14) (λ _ _=>rfl)) (j3 i7 (pv 13) (a1l PySem.F.plainAttrs_list PySem.F.slot_list_index PySem.F.type_list_index a4f (pv 12) (c5 (m6 j6 rfl T.len PySem.boot_len (c5 (pv 1) c6)) c6)) (λ _ _=>rfl)) (r6 _)) O9 t7))))))))))))))
  (i6 (r9 b4C))))))))⟩
end
end Rim
namespace L2
open PySem
section
variable {P1 P2:Addr} {p1 p2:Pos} {q1 q2:Str} {K:W.Frag} {H H':Hp} {a l:Addr} {xs:List V} {v:V}
theorem Same2.seqT (T1:LamTab P1 p1 q1 H) (T2:LamTab P2 p2 q2 H) (e:Same2 P1 P2 H H') (h:SqT K H a xs):SqT K H' a xs:=by
 rcases h with (h | ⟨o,h⟩) | h
 ·exact .inl (.inl (e.get T1 T2 h nofun))
 ·exact .inl (.inr ⟨o,e.get T1 T2 h nofun⟩)
 ·exact .inr h
end
end L2
namespace Rim
open PySem L2 Fr
theorem HS.same2 {K:W.Frag} {Pt P2:Addr} {H H':Hp} {v:V} {h:h8} (T:LT Pt H) (U:LS P2 H) (e:Same2 Pt P2 H H') (x:HS K H v h):HS K H' v h:=by
 obtain ⟨a,t,g,h0,h1,h2,h3⟩:=x;exact ⟨a,t,g,h0,e.seqT T U h1,e.seqT T U h2,e.seqT T U h3⟩
theorem Bk.same2 {K:W.Frag} {Pt P2:Addr} {H H':Hp} {vs:List V} {hs:List h8} (T:LT Pt H) (U:LS P2 H) (e:Same2 Pt P2 H H') (x:Bk K H vs hs):Bk K H' vs hs:=Paired.imp' (λ _ _ r=>HS.same2 T U e r) x
theorem a6W {m:Nat} {ns:List Int} (h:ns.Perm ((List.range m).map λ (i:Nat)=>(i:Int))):∃ l:List Nat,ns=l.map (λ (k:Nat)=>(k:Int))/\l.Perm (List.range m):=by
 refine ⟨ns.map Int.toNat,?_,?_⟩
 ·rw [List.map_map]
  have:∀ x∈ns,((λ (k:Nat)=>(k:Int)) ∘ Int.toNat) x=id x:=λ x hx=>by
   obtain ⟨k,_,rfl⟩:=List.mem_map.mp (h.mem_iff.mp hx);rfl
  rw [List.map_congr_left this,List.map_id]
 ·have:=h.map Int.toNat
  rw [List.map_map] at this;have e:(List.range m).map (Int.toNat ∘ λ (i:Nat)=>(i:Int))=List.range m:=by
   have:∀ x∈List.range m,(Int.toNat ∘ λ (i:Nat)=>(i:Int)) x=id x:=λ x _=>by simp
   rw [List.map_congr_left this,List.map_id]
  rw [e] at this;exact this
abbrev a8J:List V:=[V.str "any",V.str "one",V.str "less",V.str "more"]
theorem b1b {m:Nat} {v:V} (h:a8J[m]?=some v):∃ z,v=.str z/\R7 z:=by
 have:=List.mem_of_getElem? h;simp only [List.mem_cons,List.not_mem_nil,or_false] at this;rcases this with rfl | rfl | rfl | rfl
 ·exact ⟨_,rfl,.inl rfl⟩
 ·exact ⟨_,rfl,.inr (.inl rfl)⟩
 ·exact ⟨_,rfl,.inr (.inr (.inl rfl))⟩
 ·exact ⟨_,rfl,.inr (.inr (.inr rfl))⟩
def a5I:Option (Q2×Nat)->PyData
 | none=>.none
 | some (q,k)=>.tuple [dF q,.int (k:Int)]
theorem BV.dp {K:W.Frag} {H:Hp} {v:V} {b:Option (Q2×Nat)} (h:BV H v b):Dp K H v (a5I b):=by
 match b,h with
 | none,h=>cases (show v=.non from h); exact .non
 | some (q,k),⟨a,u,h1,h2,h3,h4⟩=>subst h1; exact .tup (SqT.of h2) (.cons (FrV.dp h3.v) (.cons (.int _) .nil))
theorem a3i (b:Option (Q2×Nat)):(a5I b).canLay0=true:=by
 match b with
 | none=>rfl
 | some (q,k)=>unfold a5I; rw [PyData.canLay0,PyData.canLayAll0,PyData.canLayAll0,PyData.canLayAll0,a1h]; rfl
theorem b0L (b:Option (Q2×Nat)):(a5I b).depth<=60:=by
 match b with
 | none=>exact (by decide:(0:Nat)<=60)
 | some (q,k) =>
  unfold a5I dF;simp [PyData.depth,PyData.depthAll]
def a7u (bs:List Bool):PyData:=.list (bs.map PyData.bool)
theorem a3o {K:W.Frag} {H:Hp}:∀ bs:List Bool,Dps K H (bs.map V.bl) (bs.map PyData.bool)
 | []=>.nil
 | b::bs=>.cons (.bl b) (a3o bs)
theorem a3T (bs:List Bool):(a7u bs).canLay0=true:=by
 unfold a7u;rw [PyData.canLay0]
 induction bs with
 | nil=>rw [List.map_nil,PyData.canLayAll0]
 | cons b bs ih=>rw [List.map_cons,PyData.canLayAll0,ih]; rfl
theorem b0G (bs:List Bool):(a7u bs).depth<=60:=by
 unfold a7u;have:∀ l:List Bool,PyData.depthAll (l.map PyData.bool)<=8:=λ l=>by
  induction l with
  | nil=>simp [PyData.depthAll]
  | cons b r ih =>
   rw [List.map_cons,PyData.depthAll];exact Nat.max_le.mpr ⟨by simp [PyData.depth],ih⟩
 rw [PyData.depth];have:=this bs;omega
section
variable {P:Program} {w:World} {K:W.Frag} {mg:Str->Option Value} {base:Heap} {f:Addr} {fd:FuncData} {n:Nat} {CN Pt P2:Addr}
def a7l (K:W.Frag) (Pt P2:Addr):Sp:=λ vs H Q _=>∃ (a:Addr) (ns:List Int),vs=[.ref a]/\SqL K H a (ns.map V.int)/\ns.length<=63/\LT Pt H/\LS P2 H/\P2≠Pt/\∀ H',Q (.bl true) H'
theorem b2K {a1 a2 a3 a4 a5 a6 a7 a8 a9 a10 a11:Addr} {d1 d2 d3 d4 d5 d6 d7 d8 d9 d10 d11:FuncData} (F:Fun K "law" "law" a1r f fd) (T:x9 mg) (C:Calls P w K mg base n CN Pt P2 a1 a2 a3 a4 a5 a6 a7 a8 a9 a10 a11 d1 d2 d3 d4 d5 d6 d7 d8 d9 d10 d11) :
  FnOk P w K mg base G5 (n+1) f fd ["script"] (a7l K Pt P2):=by
 refine F.ok scLaw (λ vs H Q E h=>?_) (λ cdv A outer s H vs Q E hr h=>?_)
 ·obtain ⟨a,ns,rfl,_⟩:=h
  rfl
 obtain ⟨a,ns,rfl,hS,h63,L,M,ne,q⟩:=h;refine ⟨_,(b5C T C hr).2,?_⟩;refine ⟨_,rfl,_,_,rfl,rfl,⟨by decide,by decide,by decide⟩,a,ns,0,10,10 ^ 7,rfl,hS,by decide,by decide,by decide,by decide,λ bl G0 xs hs kt kg e0 hbl0 hB0 hn1 hn10 kt1 kt4 kg1 kg4 hG=>?_⟩;have xlen:xs.length=hs.length:=Paired.length hB0;refine ⟨_,rfl,a,ns,2,rfl,e0.seq hS,by decide,λ c=>?_⟩;refine ⟨c,4,1000,rfl,by decide,by decide,by decide,λ pk G ds e1 hpk ld bd=>?_⟩;have hbl:=e1 _ _ hbl0;have hB:=Bk.same e1 hB0;have LG:=(L.same e0).same e1;have MG:=(M.same e0).same e1;have dn:∀ j,j<4->0<=ds.getD j 0:=λ j hj=>(bd _ (by rw [List.getD_eq_getElem?_getD,List.getElem?_eq_getElem (by omega)]; exact List.getElem_mem _)).1;refine ⟨_,rfl,pk,_,_,_,rfl,rfl,SqL.of hpk,a5w (j:=0) (by omega),_,_,rfl,rfl,(by show (0:Int)<2; decide),?_⟩;obtain ⟨sd,esd,hsd⟩:=a1D (m:=ds.getD 0 0) (l:=2) (by decide);dsimp only;rw [show ds.getD 0 0 % 2=(sd:Int) from esd]
 clear e0 hbl0 hB0
 refine ⟨λ σ' H'=>∃ k:Nat,σ'=[some (.ref a),some (.ref bl),some (.ref pk),some (.int (sd:Int)),some (.int (k:Int)),none,none,none,none,none,none,none,none,none,none]/\H'=G/\MsK sd k kt kg,?_,?_⟩
 ·obtain ⟨h0,hh0⟩:∃ h,hs[0]?=some h:=⟨_,List.getElem?_eq_getElem (by omega)⟩
  obtain ⟨x0,hx0⟩:∃ x,xs[0]?=some x:=⟨_,List.getElem?_eq_getElem (by omega)⟩;obtain ⟨h0',hh0',⟨b,tb,gb,rfl,p1,p2,p3⟩⟩:=Paired.at hB hx0;rw [hh0] at hh0'; cases hh0';have gh:=hG h0 (List.mem_of_getElem? hh0);have sd2:sd=0\/sd=1:=by omega
  rcases sd2 with rfl | rfl
  ·obtain ⟨k,ek,hk⟩:=a1D (m:=ds.getD 1 0) (l:=(h0.1.map V.int).length) (by rw [List.length_map,gh.lt]; exact kt1)
   refine ⟨_,rfl,pk,_,_,_,rfl,rfl,SqL.of hpk,a5w (j:=1) (by omega),_,rfl,bl,_,_,_,rfl,rfl,SqL.of hbl,t9 hx0,_,rfl,b,_,_,_,rfl,rfl,p1,V1 _ _,tb,_,rfl,.inr p2,_,_,rfl,rfl,by rw [List.length_map,gh.lt]; omega,?_⟩;dsimp only;rw [ek];exact ⟨k,rfl,rfl,.inl ⟨rfl,by rw [List.length_map,gh.lt] at hk; exact hk⟩⟩
  ·obtain ⟨k,ek,hk⟩:=a1D (m:=ds.getD 1 0) (l:=(h0.2.map V.int).length) (by rw [List.length_map,gh.lg]; exact kg1)
   refine ⟨_,rfl,pk,_,_,_,rfl,rfl,SqL.of hpk,a5w (j:=1) (by omega),_,rfl,bl,_,_,_,rfl,rfl,SqL.of hbl,t9 hx0,_,rfl,b,_,_,_,rfl,rfl,p1,V9 _ _,gb,_,rfl,.inr p3,_,_,rfl,rfl,by rw [List.length_map,gh.lg]; omega,?_⟩;dsimp only;rw [ek];exact ⟨k,rfl,rfl,.inr ⟨rfl,by rw [List.length_map,gh.lg] at hk; exact hk⟩⟩
 rintro _ _ ⟨kd,rfl,rfl,mk⟩;have c1:(1:Int)<=2+ds.getD 2 0 % 98:=by have:=dn 2 (by decide); omega
 have c99:2+ds.getD 2 0 % 98<=99:=by have:=dn 2 (by decide); omega
 refine ⟨λ σ' H'=>∃ (ol:Addr) (ys:List V) (cc:Int),σ'=[some (.ref a),some (.ref bl),some (.ref pk),some (.int (sd:Int)),some (.int (kd:Int)),some (.ref ol),none,none,none,none,none,none,none,none,none]/\Same H' H'/\H' bl=some (.lst xs)/\Bk K H' xs hs/\H' pk=some (.lst (ds.map V.int))/\LT Pt H'/\LS P2 H'/\H' ol=some (.lst ys)/\Bk K H' ys (hs.map (V0 sd kd cc))/\1<=cc/\cc<=99,?_,?_⟩
 ·refine ⟨_,rfl,_,rfl,_,rfl,_,rfl,pk,_,_,_,rfl,rfl,SqL.of hpk,a5w (j:=2) (by omega),_,_,rfl,rfl,(by show (0:Int)<98; decide),_,_,rfl,rfl,bl,xs,hs,sd,kd,kt,kg,2+ds.getD 2 0 % 98,rfl,SqL.of hbl,hB,by omega,hG,kt4,kg4,mk,c1,c99,λ ol ys H' e hol hOB=>?_⟩
  exact ⟨ol,ys,_,rfl,Same.refl _,e _ _ hbl,Bk.same e hB,e _ _ hpk,LG.same e,MG.same e,hol,hOB,c1,c99⟩
 clear e1 hpk hbl hB LG MG c1 c99
 intro σ1 G1 hM_; refine I0 λ G_ hG_=>?_; obtain ⟨ol,ys,cc,rfl,_,hbl,hB,hpk,LG,MG,hol,hOB,c1,c99⟩:=hM_; subst hG_;have ylen:ys.length=hs.length:=by rw [Paired.length hOB,List.length_map]
 have hGo:∀ g∈hs.map (V0 sd kd cc),HG (10 ^ 9) kt kg g:=λ g hg=>by
  obtain ⟨h,hh,rfl⟩:=List.mem_map.mp hg;exact b1C (hG h hh) mk c1 c99
 have hG9:∀ g∈hs,HG (10 ^ 9) kt kg g:=λ g hg=>⟨(hG g hg).lt,(hG g hg).lg,λ x hx=>⟨((hG g hg).t x hx).1,Int.le_trans ((hG g hg).t x hx).2 (by decide)⟩,λ x hx=>⟨((hG g hg).g x hx).1,Int.le_trans ((hG g hg).g x hx).2 (by decide)⟩,(hG g hg).p⟩;have ME:Mea kt kg id id (msT sd kd cc) (msG sd kd cc):=b3j c1;have PM:PySem.Paired (N5 kt kg id id (msT sd kd cc) (msG sd kd cc)) hs (hs.map (V0 sd kd cc)):=b4P λ g hg=>a6X (hG g hg) mk;have get:∀ {H':Hp},Same2 Pt P2 G1 H'->H' bl=some (.lst xs):=λ e=>e.get LG MG hbl nofun;have geto:∀ {H':Hp},Same2 Pt P2 G1 H'->H' ol=some (.lst ys):=λ e=>e.get LG MG hol nofun;have bk:∀ {H':Hp},Same2 Pt P2 G1 H'->Bk K H' xs hs:=λ e=>Bk.same2 LG MG e hB;have bin:∀ {H':Hp},Same2 Pt P2 G1 H'->D4 K H' bl xs hs (10 ^ 9) kt kg:=λ e=>⟨SqL.of (get e),bk e,hG9,by decide,by omega,by omega,by omega⟩;have bko:∀ {H':Hp},Same2 Pt P2 G1 H'->Bk K H' ys (hs.map (V0 sd kd cc)):=λ e=>Bk.same2 LG MG e hOB;have bino:∀ {H':Hp},Same2 Pt P2 G1 H'->D4 K H' ol ys (hs.map (V0 sd kd cc)) (10 ^ 9) kt kg:=λ e=>⟨SqL.of (geto e),bko e,hGo,by decide,by rw [List.length_map]; omega,by omega,by omega⟩;refine ⟨λ σ' H'=>∃ o6,σ'=[some (.ref a),some (.ref bl),some (.ref pk),some (.int (sd:Int)),some (.int (kd:Int)),some (.ref ol),o6,none,none,none,none,none,none,none,none]/\Same2 Pt P2 G1 H'/\LT Pt H'/\LS P2 H',?_,?_⟩
 ·refine ⟨_,rfl,bl,_,rfl,.inl (SqL.of hbl),_,rfl,by omega,by omega,?_⟩
  refine Y2 (n:=xs.length) (λ i σ H'=>∃ o6,σ=[some (.ref a),some (.ref bl),some (.ref pk),some (.int (sd:Int)),some (.int (kd:Int)),some (.ref ol),o6,none,none,none,none,none,none,none,none]/\Same2 Pt P2 G1 H'/\LT Pt H'/\LS P2 H')
   ⟨_,rfl,Same2.refl,LG,MG⟩ ?_ (λ σ H' h=>h)
  rintro i σ H2 hi ⟨o6,rfl,e2,L2,M2⟩;rw [Int.zero_add];obtain ⟨h,hh⟩:∃ h,hs[i]?=some h:=⟨_,List.getElem?_eq_getElem (by omega)⟩;have hmm:=List.mem_of_getElem? hh;have hho:(hs.map (V0 sd kd cc))[i]?=some (V0 sd kd cc h):=by rw [List.getElem?_map,hh]; rfl
  have gd:a1S xs.length (i:Int):=⟨by omega,by omega⟩;have gdo:a1S ys.length (i:Int):=⟨by omega,by omega⟩;refine ⟨λ σ' H'=>σ'=[some (.ref a),some (.ref bl),some (.ref pk),some (.int (sd:Int)),some (.int (kd:Int)),some (.ref ol),some (.int (i:Int)),none,none,none,none,none,none,none,none]/\Same H2 H',?_,?_⟩
  ·refine ⟨_,rfl,_,rfl,ol,ys,_,(i:Int),kt,kg,rfl,SqL.of (geto e2),bko e2,hGo,kt1,by omega,Q1 (by omega),λ i' h' hi' hh' v1 H3 e3 b1=>?_,λ bad=>absurd gdo bad⟩
   have:i'=i:=by omega
   subst this;rw [hho] at hh'; cases hh';refine ⟨_,rfl,_,rfl,bl,xs,hs,(i':Int),kt,kg,rfl,SqL.of (e3 _ _ (get e2)),Bk.same e3 (bk e2),hG9,kt1,by omega,Q1 (by omega),λ i2 h' hi2 hh' v2 H4 e4 b2=>?_,λ bad=>absurd gd bad⟩;have:i2=i':=by omega
   subst this;rw [hh] at hh'; cases hh';rw [List.length_map,a9m c1 hG (hG h hmm) mk _ (Nat.le_refl _)] at b1;refine ⟨a5I _,a5I _,(b1.same e4).dp,b2.dp,a3i _,a3i _,Nat.le_trans (Nat.min_le_left _ _) (b0L _),_,rfl,?_⟩;rw [R9 _ (a3i _)];exact a1p ⟨rfl,e3.trans e4⟩
  rintro _ H3 ⟨rfl,e3⟩;have e23:Same2 Pt P2 G1 H3:=e2.trans e3.to2;have L3:=L2.same e3;have M3:=M2.same e3;refine ⟨_,rfl,_,rfl,ol,ys,_,(i:Int),10 ^ 9,kt,kg,rfl,bino e23,kt1,Q1 (by omega),L3,λ i' h' H4 t1 hi' hh' s1 e4 L4=>?_,λ bad=>absurd gdo bad⟩;have:i'=i:=by omega
  subst this;rw [hho] at hh'; cases hh';refine ⟨_,rfl,_,rfl,bl,xs,hs,(i':Int),10 ^ 9,kt,kg,rfl,bin (e23.trans e4.to2),kt1,Q1 (by omega),L4,λ i2 h' H5 t2 hi2 hh' s2 e5 L5=>?_,λ bad=>absurd gd bad⟩;have:i2=i':=by omega
  subst this;rw [hh] at hh'; cases hh';have et:=b0u ME PM (a6X (hG h hmm) mk) hG9 (hG9 h hmm) hGo (hGo _ (List.mem_of_getElem? hho)) s2 s1;subst et;refine ⟨rfl,_,rfl,?_⟩;rw [show (!decide (V.str t2=V.str t2))=false by simp];exact a1p ⟨_,rfl,e23.trans (e4.to2.trans e5.to2),L5,(L3.other M3 ne e4) |> λ z=>L4.other z ne e5⟩
 intro σ2 G2 hM_; refine I0 λ G_ hG_=>?_; obtain ⟨o6,rfl,eG2,LG2,MG2⟩:=hM_; subst hG_;refine ⟨(by show 4<=sizeLine; decide),λ sl hsl=>?_⟩;have s4:=Same.new hsl (.lst a8J);have L4:=LG2.same s4;have M4:=MG2.same s4;refine ⟨sl,rfl,⟨_,SqL.of upd_same⟩,?_⟩;refine a2l (xs:=a8J) (λ m σ H'=>∃ o7 o8 o9 o10 o11 o12 o13 o14,σ=[some (.ref a),some (.ref bl),some (.ref pk),some (.int (sd:Int)),some (.int (kd:Int)),some (.ref ol),o6,o7,o8,o9,o10,o11,o12,o13,o14]/\Same2 Pt P2 (upd G2 sl (.lst a8J)) H'/\LT Pt H'/\LS P2 H')
  ⟨_,_,_,_,_,_,_,_,rfl,Same2.refl,L4,M4⟩ (λ m σ H' _ ⟨_,_,_,_,_,_,_,_,_,e,_⟩=>SqL.of (e.get L4 M4 upd_same nofun)) ?_ ?_
 rotate_left
 ·intro σ H4 hM_; refine I0 λ G_ hG_=>?_; obtain ⟨o7,o8,o9,o10,o11,o12,o13,o14,rfl,e4,L5,M5⟩:=hM_; subst hG_
  exact q _
 rintro m zv σ H4 hzv ⟨o7,o8,o9,o10,o11,o12,o13,o14,rfl,e4,L5,M5⟩;obtain ⟨z,rfl,hz⟩:=b1b hzv;have eG4:Same2 Pt P2 G1 H4:=eG2.trans (s4.to2.trans e4);have fin:∀ {H':Hp},Same2 Pt P2 H4 H'->Same2 Pt P2 (upd G2 sl (.lst a8J)) H':=λ e=>e4.trans e;refine ⟨λ σ' H'=>∃ os nl fl,σ'=[some (.ref a),some (.ref bl),some (.ref pk),some (.int (sd:Int)),some (.int (kd:Int)),some (.ref ol),o6,some (.str z),some (.ref fl),o9,o10,o11,o12,o13,o14]/\Os z hs kt kg os/\Stood os nl/\Same2 Pt P2 H4 H'/\LT Pt H'/\LS P2 H'/\H' fl=some (.lst (nl.map V.int)),?_,?_⟩
 ·refine ⟨_,rfl,_,rfl,bl,xs,hs,z,10 ^ 9,kt,kg,rfl,hz,bin eG4,by omega,kt1,L5,M5,ne,λ os nl fl H8 OS ST e8 L9 M9 hf hf8=>?_⟩
  exact ⟨os,nl,fl,rfl,OS,ST,e8,L9,M9,hf8⟩
 intro σ5 H5 hM_; refine I0 λ G_ hG_=>?_; obtain ⟨os,nl,fl,rfl,OS,ST,e5,L6,M6,hf5⟩:=hM_; subst hG_;have eG5:=eG4.trans e5;obtain ⟨ln,enl,pln⟩:=a6W ST.1;have env:nl.map V.int=D5 ln:=by rw [enl,List.map_map]; rfl
 have lln:ln.length=hs.length:=by rw [pln.length_eq,List.length_range,OS.1]
 rw [env] at hf5;have inl:∀ {k:Nat},k∈ln->k<hs.length:=λ hk=>by have:=List.mem_range.mp (pln.mem_iff.mp hk); rw [OS.1] at this; exact this
 have oat:∀ {k:Nat},k<hs.length->OsAt z hs kt kg k (atO os (k:Int)):=λ {k} hk=>OS.2 k _ (by
  show os[k]?=some (os.getD (Int.toNat (k:Int)) none)
  rw [Int.toNat_natCast,List.getD_eq_getElem?_getD,List.getElem?_eq_getElem (by rw [OS.1]; exact hk)]; rfl)
 have opos:∀ {k:Nat},k<hs.length->∀ q,atO os (k:Int)=some q->0<q.2:=λ {k} hk q e=>by
  have:=(oat hk).fr.2.1;rw [e] at this;exact this
 have ah:∀ {i j k1 k2:Nat},i<j->ln[i]?=some k1->ln[j]?=some k2->Ahd os (k1:Int) (k2:Int):=λ {i j k1 k2} hij h1 h2=>by
  obtain ⟨i1,i2⟩:=List.getElem?_eq_some_iff.mp h1;obtain ⟨j1,j2⟩:=List.getElem?_eq_some_iff.mp h2;have pw:=ST.2;rw [enl] at pw;have:=List.pairwise_iff_getElem.mp pw i j (by rw [List.length_map]; exact i1) (by rw [List.length_map]; exact j1) hij;rw [List.getElem_map,List.getElem_map,i2,j2] at this;exact this
 have small:=j7 (show ln.length<=1000 by omega);refine ⟨λ σ' H'=>∃ wl ws,σ'=[some (.ref a),some (.ref bl),some (.ref pk),some (.int (sd:Int)),some (.int (kd:Int)),some (.ref ol),o6,some (.str z),some (.ref fl),some (.ref wl),o10,o11,o12,o13,o14]/\Same2 Pt P2 H5 H'/\LT Pt H'/\LS P2 H'/\H' wl=some (.lst ws)/\ws.length=ln.length/\∀ (i k:Nat) y,ln[i]?=some k->ws[i]?=some y->∃ A B h,hs[k]?=some h/\ShU z hs h kt kg A B/\FrT H' y (low A B),?_,?_⟩
 ·refine ⟨_,rfl,fl,rfl,⟨_,SqL.of hf5⟩,λ wl hwl=>?_⟩
  refine a3h (P:=Pt) (pos:=a1R) (qual:=a8V) (xs:=D5 ln) (λ H e=>y6 (SqL.of (e.get L6 hf5 nofun))) L6 hwl (by rw [List.length_map]; exact small)
   (λ i y H'=>∀ k,ln[i]?=some k->∃ A B h,hs[k]?=some h/\ShU z hs h kt kg A B/\FrT H' y (low A B)) (λ i y H1 H2 L1 ⟨zs,hzs⟩ r kp k hk=>?_) (λ i x H1 yy N hx e1 L1 hp1 hN=>?_) (λ ws H1 e1 L1 hp1 len pr=>?_)
  ·obtain ⟨A,B,h,hh,X,b,rfl,hb⟩:=r k hk
   exact ⟨A,B,h,hh,X,b,rfl,kp _ _ (S2 hb hzs nofun) (L1.ne hb nofun) hb⟩
  ·obtain ⟨k,hk,rfl⟩:=a0D hx
   have hkl:=inl (List.mem_of_getElem? hk);refine ⟨_,rfl,_,rfl,_,rfl,bl,xs,hs,(k:Int),z,10 ^ 9,kt,kg,rfl,hz,bin (eG5.trans e1.to2),kt1,Q1 (by omega),L1,λ i' h' A' B' H7 u' hi' hh' X' e7 L7 hu'=>?_,λ bad=>absurd ⟨by omega,by omega⟩ bad⟩;have:i'=k:=by omega
   subst this;exact hN _ _ e7 L7 λ k' hk'=>by rw [hk] at hk'; cases hk'; exact ⟨A',B',h',hh',X',hu'⟩
  ·refine ⟨wl,ws,rfl,e1.to2,L1,L6.other M6 ne e1,hp1,by rw [len,List.length_map],λ i k y h1 h2=>pr i y h2 k h1⟩
 intro σ6 H6 hM_; refine I0 λ G_ hG_=>?_; obtain ⟨wl,ws,rfl,e6,L7,M7,hw6,wlen,wat⟩:=hM_; subst hG_;have eG6:=eG5.trans e6;have hf6:H6 fl=some (.lst (D5 ln)):=e6.get L6 M6 hf5 nofun;refine ⟨λ σ' H'=>σ'=[some (.ref a),some (.ref bl),some (.ref pk),some (.int (sd:Int)),some (.int (kd:Int)),some (.ref ol),o6,some (.str z),some (.ref fl),some (.ref wl),o10,o11,o12,o13,o14]/\Same H6 H',?_,?_⟩
 ·refine ⟨_,rfl,fl,_,rfl,.inl (SqL.of hf6),?_⟩
  refine ⟨1,_,rfl,⟨by decide,by decide,by omega,?_⟩,λ p hp=>?_⟩
  ·rw [List.length_map]; have:ln.length<=16:=by omega
   refine Int.lt_of_le_of_lt (b:=16) (by omega) (by decide)
  refine a6i a1X hp (by rw [List.length_map,List.length_range]; exact Nat.lt_of_le_of_lt (show _<=ln.length by rw [List.length_map]; omega) small) (λ _=>false) (λ j y H' N' hy e hN'=>?_) ?_
  ·rw [List.getElem?_map] at hy
   have hj:j<((((D5 ln).length:Int) - 1).toNat):=by
    rcases Nat.lt_or_ge j ((((D5 ln).length:Int) - 1).toNat) with z1 | z1
    ·exact z1
    ·rw [List.getElem?_eq_none (by rw [List.length_range]; exact z1)] at hy; cases hy
   rw [List.getElem?_range hj] at hy;have ey:y=V.int (1+(j:Int)):=(Option.some.inj hy).symm;subst ey;rw [List.length_map] at hj;obtain ⟨k1,hk1⟩:∃ k,ln[j]?=some k:=⟨_,List.getElem?_eq_getElem (by omega)⟩;obtain ⟨k2,hk2⟩:∃ k,ln[j+1]?=some k:=⟨_,List.getElem?_eq_getElem (by omega)⟩;obtain ⟨y1,hy1⟩:∃ k,ws[j]?=some k:=⟨_,List.getElem?_eq_getElem (by omega)⟩;obtain ⟨y2,hy2⟩:∃ k,ws[j+1]?=some k:=⟨_,List.getElem?_eq_getElem (by omega)⟩;obtain ⟨A1,B1,h1,hh1,X1,f1⟩:=wat j k1 y1 hk1 hy1;obtain ⟨A2,B2,h2,hh2,X2,f2⟩:=wat (j+1) k2 y2 hk2 hy2;have hw':=e _ _ hw6;have hk1l:=inl (List.mem_of_getElem? hk1);have hk2l:=inl (List.mem_of_getElem? hk2);have e1':=OsAt.share hz hG9 kt1 (oat hk1l) hh1 X1;have e2':=OsAt.share hz hG9 kt1 (oat hk2l) hh2 X2;obtain ⟨b1,b1'⟩:=X1.bigs;obtain ⟨b2,b2'⟩:=X2.bigs;refine ⟨_,rfl,_,rfl,_,_,rfl,rfl,wl,_,_,_,rfl,rfl,SqL.of hw',?_,_,rfl,_,rfl,wl,_,_,_,rfl,rfl,SqL.of hw',?_,y1,y2,low A1 B1,low A2 B2,rfl,(f1.same e).v,(f2.same e).v,⟨b1,b1',b2,b2'⟩,?_⟩
   ·rw [show (1+(j:Int) - 1)=(j:Int) by omega]; exact t9 hy1
   ·rw [show (1+(j:Int))=((j+1:Nat):Int) by omega]; exact t9 hy2
   have dec:decide ((low A1 B1).1*(low A2 B2).2<(low A2 B2).1*(low A1 B1).2)=false:=by
    rw [e1',e2'];exact decide_eq_false (b2Q (opos hk1l) (opos hk2l) (ah (Nat.lt_succ_self j) hk1 hk2))
   refine ⟨_,rfl,?_⟩;rw [dec];exact hN'
  rw [show ∀ l:List V,l.filter (λ _=>false)=[] from λ l=>by simp];refine ⟨(by show 0<=sizeLine; decide),λ ep hep=>?_⟩;have npe:p≠ep:=g0 upd_same hep;refine ⟨.list [],.list [],.lst (SqL.of (by rw [c7 npe]; exact upd_same)) .nil,.lst (SqL.of upd_same) .nil,rfl,rfl,by decide,_,rfl,?_⟩;rw [b3c];exact a1p ⟨rfl,(Same.new hp (.lst [])).trans (Same.new hep (.lst []))⟩
 rintro _ H7 ⟨rfl,s7⟩;have eG7:=eG6.trans s7.to2;have L8:=L7.same s7;have M8:=M7.same s7;have hf7:=s7 _ _ hf6;refine ⟨λ σ' H'=>∃ zl,σ'=[some (.ref a),some (.ref bl),some (.ref pk),some (.int (sd:Int)),some (.int (kd:Int)),some (.ref ol),o6,some (.str z),some (.ref fl),some (.ref wl),some (.ref zl),o11,o12,o13,o14]/\Same2 Pt P2 H7 H'/\LT Pt H'/\LS P2 H'/\H' zl=some (.lst ((ln.map λ (k:Nat)=>(atO os (k:Int)).isNone).map V.bl)),?_,?_⟩
 ·refine ⟨_,rfl,fl,rfl,⟨_,SqL.of hf7⟩,λ zl hzl=>?_⟩
  refine a3h (P:=Pt) (pos:=a1R) (qual:=a8V) (xs:=D5 ln) (λ H e=>y6 (SqL.of (e.get L8 hf7 nofun))) L8 hzl (by rw [List.length_map]; exact small)
   (λ i y H'=>∀ k,ln[i]?=some k->y=.bl (atO os (k:Int)).isNone) (λ i y H1 H2 L1 _ r kp k hk=>r k hk) (λ i x H1 yy N hx e1 L1 hp1 hN=>?_) (λ vs H1 e1 L1 hp1 len pr=>?_)
  ·obtain ⟨k,hk,rfl⟩:=a0D hx
   have hkl:=inl (List.mem_of_getElem? hk);refine ⟨_,rfl,_,rfl,_,rfl,bl,xs,hs,(k:Int),z,10 ^ 9,kt,kg,rfl,hz,bin (eG7.trans e1.to2),kt1,Q1 (by omega),L1,λ i' h' A' B' H9 u' hi' hh' X' e9 L9 hu'=>?_,λ i' h' H9 hi' hh' N' e9 L9=>?_,λ bad=>absurd ⟨by omega,by omega⟩ bad⟩
   ·have:i'=k:=by omega
    subst this;obtain ⟨b,rfl,_⟩:=hu';have eo:atO os (i':Int)=some (low A' B'):=(oat hkl).eq hz hG9 ⟨h',hh',.inl ⟨A',B',X',rfl⟩⟩;exact ⟨rfl,hN _ _ e9 L9 λ k' hk'=>by rw [hk] at hk'; cases hk'; rw [eo]; rfl⟩
   ·have:i'=k:=by omega
    subst this;have eo:atO os (i':Int)=none:=(oat hkl).eq hz hG9 ⟨h',hh',.inr ⟨rfl,N'⟩⟩;exact ⟨rfl,hN _ _ e9 L9 λ k' hk'=>by rw [hk] at hk'; cases hk'; rw [eo]; rfl⟩
  ·have ev:vs=(ln.map λ (k:Nat)=>(atO os (k:Int)).isNone).map V.bl:=by
    refine List.ext_getElem? λ i=>?_;rw [List.length_map] at len
    by_cases hi:i<vs.length
    ·have hk:ln[i]?=some (ln[i]'(by omega)):=List.getElem?_eq_getElem (by omega)
     rw [List.getElem?_eq_getElem hi,pr i _ (List.getElem?_eq_getElem hi) _ hk,List.getElem?_map,List.getElem?_map,hk]; rfl
    ·rw [List.getElem?_eq_none (by omega),List.getElem?_eq_none (by rw [List.length_map,List.length_map]; omega)]
   rw [ev] at hp1;exact ⟨zl,rfl,e1.to2,L1,L8.other M8 ne e1,hp1⟩
 intro σ8 H8 hM_; refine I0 λ G_ hG_=>?_; obtain ⟨zl,rfl,e8,L9,M9,hz8⟩:=hM_; subst hG_;have eG8:=eG7.trans e8;refine ⟨λ σ' H'=>σ'=[some (.ref a),some (.ref bl),some (.ref pk),some (.int (sd:Int)),some (.int (kd:Int)),some (.ref ol),o6,some (.str z),some (.ref fl),some (.ref wl),some (.ref zl),o11,o12,o13,o14]/\Same H8 H',?_,?_⟩
 ·obtain ⟨bs,hbs⟩:∃ bs:List Bool,bs=ln.map λ (k:Nat)=>(atO os (k:Int)).isNone:=⟨_,rfl⟩
  rw [<- hbs] at hz8;have fall:Fall bs:=by
   rw [hbs];refine List.pairwise_iff_getElem.mpr λ i j hi hj hij=>?_;rw [List.getElem_map,List.getElem_map];rw [List.length_map] at hi hj;exact a8A (ah hij (List.getElem?_eq_getElem hi) (List.getElem?_eq_getElem hj))
  refine ⟨_,rfl,_,rfl,zl,bs,rfl,SqL.of hz8,by rw [hbs,List.length_map]; omega,λ l bs' hl hp hfa=>?_⟩;have:=Fall.eq hfa fall hp;subst this;have t1:=Same.new hl (.lst (bs'.map V.bl));refine ⟨a7u bs',a7u bs',.lst (SqL.of (t1 _ _ hz8)) (a3o _),.lst (SqL.of upd_same) (a3o _),a3T _,a3T _,Nat.le_trans (Nat.min_le_left _ _) (b0G _),_,rfl,?_⟩;rw [R9 _ (a3T _)];exact a1p ⟨rfl,t1⟩
 rintro _ H9 ⟨rfl,s9⟩;have eG9:=eG8.trans s9.to2;have L10:=L9.same s9;have M10:=M9.same s9;have hf9:H9 fl=some (.lst (D5 ln)):=s9 _ _ (e8.get L8 M8 hf7 nofun);refine ⟨λ σ' H'=>σ'=[some (.ref a),some (.ref bl),some (.ref pk),some (.int (sd:Int)),some (.int (kd:Int)),some (.ref ol),o6,some (.str z),some (.ref fl),some (.ref wl),some (.ref zl),o11,o12,o13,o14]/\Same2 Pt P2 H9 H'/\LT Pt H'/\LS P2 H',?_,?_⟩
 ·refine ⟨_,rfl,_,rfl,ol,ys,hs.map (V0 sd kd cc),z,10 ^ 9,kt,kg,rfl,hz,bino eG9,by rw [List.length_map]; omega,kt1,L10,M10,ne,λ os' nl' fl' H10 OS' ST' e10 L11 M11 _ hf10=>?_⟩
  have eos:os=os':=Os.mea hz ME PM hG9 hGo OS OS';subst eos;have enl':=Stood.eq ST' ST;subst enl';rw [env] at hf10;refine ⟨_,rfl,Z9 ln,Z9 ln,a3f hf10,a3f (e10.get L10 M10 hf9 nofun),a0z _,a0z _,Nat.le_trans (Nat.min_le_left _ _) (Nat.le_trans (a2x _) (by decide)),_,rfl,?_⟩;rw [R9 _ (a0z _)];exact a1p ⟨rfl,e10,L11,M11⟩
 rintro _ H10 ⟨rfl,e10,L11,M11⟩;have eG10:=eG9.trans e10;refine ⟨λ σ' H'=>σ'=[some (.ref a),some (.ref bl),some (.ref pk),some (.int (sd:Int)),some (.int (kd:Int)),some (.ref ol),o6,some (.str z),some (.ref fl),some (.ref wl),some (.ref zl),o11,o12,o13,o14]/\Same2 Pt P2 H10 H'/\LT Pt H'/\LS P2 H',?_,?_⟩
 ·refine ⟨_,rfl,_,rfl,ol,ys,hs.map (V0 sd kd cc),z,10 ^ 9,kt,kg,rfl,hz,bino eG10,by decide,kt1,L11,λ H11 r1 as1 e11 L12 _ hr1 na1 _=>?_⟩
  have M12:=L11.other M11 ne e11;refine ⟨_,rfl,_,rfl,bl,xs,hs,z,10 ^ 9,kt,kg,rfl,hz,bin (eG10.trans e11.to2),by decide,kt1,L12,λ H12 r2 as2 e12 L13 _ hr2 na2 _=>?_⟩;rw [List.length_map,<- a6f hz ME PM hG9 (by decide) hGo (by decide) kt1 (by omega) (by omega) _ _ (λ k hk=>List.mem_range.mp hk) (by rw [List.length_range]; omega)] at na1;have na1':NatsAt H12 as1 (lev z hs hs.length (List.range hs.length)):=⟨na1.1,λ k a l h1 h2=>e12.get L12 (na1.2 k a l h1 h2) nofun⟩;refine ⟨a5P _,a5P _,a9U (e12.get L12 hr1 nofun) na1',a9U hr2 na2,a3g _,a3g _,Nat.le_trans (Nat.min_le_left _ _) (Nat.le_trans (a7T _) (by decide)),_,rfl,?_⟩;rw [R9 _ (a3g _)];exact a1p ⟨rfl,e11.to2.trans e12.to2,L13,L12.other M12 ne e12⟩
 rintro _ H11 ⟨rfl,e11,L12,M12⟩;have eG11:=eG10.trans e11;have hpk11:H11 pk=some (.lst (ds.map V.int)):=eG11.get LG MG hpk nofun;obtain ⟨nu,enu,hnu⟩:=a1D (m:=ds.getD 3 0) (l:=xs.length) (by omega);refine ⟨_,rfl,pk,_,_,_,rfl,rfl,SqL.of hpk11,a5w (j:=3) (by omega),_,rfl,bl,_,rfl,.inl (SqL.of (get eG11)),_,_,rfl,rfl,(by omega),?_⟩;dsimp only;rw [enu];obtain ⟨x,hx⟩:∃ x,xs[nu]?=some x:=⟨_,List.getElem?_eq_getElem hnu⟩;obtain ⟨h,hh,_⟩:=Paired.at hB hx;have hmm:=List.mem_of_getElem? hh;have hG2:∀ g∈hs++[h],HG (10 ^ 9) kt kg g:=λ g hg=>by
  rcases List.mem_append.mp hg with q1 | q1
  ·exact hG9 g q1
  ·rw [List.mem_singleton.mp q1]; exact hG9 h hmm
 have len2:(hs++[h]).length=hs.length+1:=by rw [List.length_append]; rfl
 have bin2:∀ {H':Hp} {l:Addr},Same2 Pt P2 G1 H'->H' l=some (.lst (xs++[x]))->D4 K H' l (xs++[x]) (hs++[h]) (10 ^ 9) kt kg:=λ {H' l} e hl=>by
  obtain ⟨h',hh',r⟩:=Paired.at (bk e) hx;rw [hh] at hh'; cases hh';exact ⟨SqL.of hl,Paired.app (bk e) (.cons r .nil),hG2,by decide,by rw [len2]; omega,by omega,by omega⟩
 refine ⟨λ σ' H'=>∃ os2 nl2 fl2,σ'=[some (.ref a),some (.ref bl),some (.ref pk),some (.int (sd:Int)),some (.int (kd:Int)),some (.ref ol),o6,some (.str z),some (.ref fl),some (.ref wl),some (.ref zl),some (.int (nu:Int)),some (.ref fl2),o13,o14]/\Os z (hs++[h]) kt kg os2/\Stood os2 nl2/\Same2 Pt P2 H11 H'/\LT Pt H'/\LS P2 H'/\H' fl2=some (.lst (nl2.map V.int)),?_,?_⟩
 ·refine ⟨_,rfl,_,rfl,_,rfl,bl,_,_,_,rfl,rfl,SqL.of (get eG11),t9 hx,(by show 1<=sizeLine; decide),λ l1 hl1=>?_⟩
  have t1:=Same.new hl1 (.lst [x]);refine ⟨bl,l1,_,_,rfl,rfl,t1 _ _ (get eG11),upd_same,by show xs.length+1<=_; omega,λ l2 hl2=>?_⟩;have t2:=Same.new hl2 (.lst (xs++[x]));have t12:=t1.trans t2;refine ⟨_,rfl,l2,_,_,z,10 ^ 9,kt,kg,rfl,hz,bin2 (eG11.trans t12.to2) upd_same,by rw [len2]; omega,kt1,L12.same t12,M12.same t12,ne,λ os' nl' fl' H10 OS' ST' e10 L11 M11 _ hf10=>?_⟩;exact ⟨os',nl',fl',rfl,OS',ST',t12.to2.trans e10,L11,M11,hf10⟩
 intro σ12 H12 hM_; refine I0 λ G_ hG_=>?_; obtain ⟨os2,nl2,fl2,rfl,OS2,ST2,e12,L13,M13,hf12⟩:=hM_; subst hG_;have eG12:=eG11.trans e12;obtain ⟨ln2,enl2,pln2⟩:=a6W ST2.1;have env2:nl2.map V.int=D5 ln2:=by rw [enl2,List.map_map]; rfl
 have lln2:ln2.length=hs.length+1:=by rw [pln2.length_eq,List.length_range,OS2.1,len2]
 rw [env2] at hf12;have inl2:∀ {k:Nat},k∈ln2->k<hs.length+1:=λ hk=>by have:=List.mem_range.mp (pln2.mem_iff.mp hk); rw [OS2.1,len2] at this; exact this
 have small2:=j7 (show ln2.length<=1000 by omega);refine ⟨λ σ' H'=>∃ vl ws,σ'=[some (.ref a),some (.ref bl),some (.ref pk),some (.int (sd:Int)),some (.int (kd:Int)),some (.ref ol),o6,some (.str z),some (.ref fl),some (.ref wl),some (.ref zl),some (.int (nu:Int)),some (.ref fl2),some (.ref vl),o14]/\Same2 Pt P2 H12 H'/\LT Pt H'/\LS P2 H'/\H' vl=some (.lst ws)/\ws.length=ln2.length/\∀ (i k:Nat) y,ln2[i]?=some k->ws[i]?=some y->∃ A B h',(hs++[h])[k]?=some h'/\ShU z (hs++[h]) h' kt kg A B/\FrT H' y (low A B),?_,?_⟩
 ·refine ⟨_,rfl,fl2,rfl,⟨_,SqL.of hf12⟩,λ wl hwl=>?_⟩
  refine a3h (P:=Pt) (pos:=a1R) (qual:=a8V) (xs:=D5 ln2) (λ H e=>y6 (SqL.of (e.get L13 hf12 nofun))) L13 hwl (by rw [List.length_map]; exact small2)
   (λ i y H'=>∀ k,ln2[i]?=some k->∃ A B h',(hs++[h])[k]?=some h'/\ShU z (hs++[h]) h' kt kg A B/\FrT H' y (low A B)) (λ i y H1 H2 L1 ⟨zs,hzs⟩ r kp k hk=>?_) (λ i x' H1 yy N hx' e1 L1 hp1 hN=>?_) (λ ws H1 e1 L1 hp1 len pr=>?_)
  ·obtain ⟨A,B,h',hh',X,b,rfl,hb⟩:=r k hk
   exact ⟨A,B,h',hh',X,b,rfl,kp _ _ (S2 hb hzs nofun) (L1.ne hb nofun) hb⟩
  ·obtain ⟨k,hk,rfl⟩:=a0D hx'
   have hkl:=inl2 (List.mem_of_getElem? hk);have eG13:=eG12.trans e1.to2;refine ⟨_,rfl,_,rfl,_,rfl,bl,_,_,_,rfl,rfl,SqL.of (get eG13),t9 hx,(by show 1<=sizeLine; decide),λ l1 hl1=>?_⟩;have t1:=Same.new hl1 (.lst [x]);refine ⟨bl,l1,_,_,rfl,rfl,t1 _ _ (get eG13),upd_same,by show xs.length+1<=_; omega,λ l2 hl2=>?_⟩;have t2:=Same.new hl2 (.lst (xs++[x]));have t12:=t1.trans t2;have xl2:(xs++[x]).length=xs.length+1:=by rw [List.length_append]; rfl
   refine ⟨_,rfl,_,rfl,l2,xs++[x],hs++[h],(k:Int),z,10 ^ 9,kt,kg,rfl,hz,bin2 (eG13.trans t12.to2) upd_same,kt1,Q1 (by omega),L1.same t12,λ i' h' A' B' H7 u' hi' hh' X' e7 L7 hu'=>?_,λ bad=>absurd ⟨by omega,by omega⟩ bad⟩;have:i'=k:=by omega
   subst this;exact hN _ _ (t12.to1.trans e7) L7 λ k' hk'=>by rw [hk] at hk'; cases hk'; exact ⟨A',B',h',hh',X',hu'⟩
  ·refine ⟨wl,ws,rfl,e1.to2,L1,L13.other M13 ne e1,hp1,by rw [len,List.length_map],λ i k y h1 h2=>pr i y h2 k h1⟩
 intro σ13 H13 hM_; refine I0 λ G_ hG_=>?_; obtain ⟨vl,ws2,rfl,e13,L14,M14,hv13,w2len,wat2⟩:=hM_; subst hG_;have eG13:=eG12.trans e13;have hf13:H13 fl2=some (.lst (D5 ln2)):=e13.get L13 M13 hf12 nofun;have nd2:ln2.Nodup:=pln2.nodup_iff.mpr List.nodup_range;have nint:D5 ln2=(ln2.map λ (k:Nat)=>(k:Int)).map V.int:=by rw [List.map_map]; rfl
 rw [nint] at hf13;have at_:∀ k,k<hs.length+1->∃ j,ln2[j]?=some k/\(ln2.map λ (k:Nat)=>(k:Int))[j]?=some (k:Int)/\∀ i m,i<j->(ln2.map λ (k:Nat)=>(k:Int))[i]?=some m->m≠(k:Int):=λ k hk=>by
  have hm:k∈ln2:=pln2.mem_iff.mpr (List.mem_range.mpr (by rw [OS2.1,len2]; exact hk));obtain ⟨j,hj⟩:=List.getElem?_of_mem hm;refine ⟨j,hj,by rw [List.getElem?_map,hj]; rfl,λ i m hij hi e=>?_⟩;rw [List.getElem?_map] at hi;obtain ⟨k',hk',ek'⟩:=Option.map_eq_some_iff.mp hi;have:k'=k:=by rw [e] at ek'; exact Int.ofNat.inj ek'
  subst this;obtain ⟨i1,i2⟩:=List.getElem?_eq_some_iff.mp hk';obtain ⟨j1,j2⟩:=List.getElem?_eq_some_iff.mp hj;exact List.pairwise_iff_getElem.mp nd2 i j i1 j1 hij (i2.trans j2.symm)
 obtain ⟨j1,hj1,hj1',hj1n⟩:=at_ nu (by omega);obtain ⟨j2,hj2,hj2',hj2n⟩:=at_ xs.length (by omega);refine ⟨_,rfl,.inl ⟨rfl,_,SqL.of hf13⟩,_,rfl,fl2,_,_,j1,rfl,rfl,hf13,hj1',hj1n,?_⟩;obtain ⟨y1,hy1⟩:∃ k,ws2[j1]?=some k:=⟨_,List.getElem?_eq_getElem (by have:=(List.getElem?_eq_some_iff.mp hj1).1; omega)⟩;obtain ⟨y2,hy2⟩:∃ k,ws2[j2]?=some k:=⟨_,List.getElem?_eq_getElem (by have:=(List.getElem?_eq_some_iff.mp hj2).1; omega)⟩;obtain ⟨A1,B1,g1,hg1,X1,f1⟩:=wat2 j1 nu y1 hj1 hy1;obtain ⟨A2,B2,g2,hg2,X2,f2⟩:=wat2 j2 xs.length y2 hj2 hy2;have eg1:g1=h:=by
  rw [List.getElem?_append_left (by omega),hh] at hg1;exact (Option.some.inj hg1).symm
 have eg2:g2=h:=by
  rw [List.getElem?_append_right (by omega),xlen,Nat.sub_self] at hg2;exact (Option.some.inj hg2).symm
 subst eg1;subst eg2;have eq:=X1.fr hz X2.s hG2 (hG9 _ hmm);refine ⟨_,rfl,_,rfl,vl,_,_,_,rfl,rfl,SqL.of hv13,t9 hy1,_,rfl,_,rfl,.inl ⟨rfl,_,SqL.of hf13⟩,_,rfl,bl,_,rfl,.inl (SqL.of (get eG13)),fl2,_,_,j2,rfl,rfl,hf13,hj2',hj2n,vl,_,_,_,rfl,rfl,SqL.of hv13,t9 hy2,?_⟩;refine ⟨dF (low A1 B1),dF (low A2 B2),FrV.dp f1.v,FrV.dp f2.v,a1h _,a1h _,Nat.le_trans (Nat.min_le_left _ _) (a8D _),_,rfl,?_⟩;rw [eq,R9 _ (a1h _)];exact a1p ⟨_,_,_,_,_,_,_,_,rfl,fin (e5.trans (e6.trans (s7.to2.trans (e8.trans (s9.to2.trans (e10.trans (e11.trans (e12.trans e13)))))))),L14,M14⟩
end
end Rim
namespace L2
open PySem PySem.W
theorem b3g {K:Frag} {C:Addr} {B:List Value} {nid:String} (q:excIn K C B nid=true):∃ nm qn N bs bm hdct sn sub ab col dd k0 k1 k2 k3 k5,K.lookup C=some (excClassObj nm qn C N bs bm hdct sn sub ab col dd k0 k1 k2 k3 k5 nid)/\nsOkIn K N=true/\nsIn K N "__init__"=some none/\tailIn K B bm=true:=by
 unfold excIn at q
 split at q
 ·rename_i e1 e2 e3 lk
  split at q
  ·rename_i C' bm w0 w1 w2 w3 nn w5 em es
   simp only [Bool.and_eq_true,beq_iff_eq,Bool.not_eq_true'] at q;obtain ⟨⟨⟨⟨⟨u1,u2⟩,u3⟩,u4⟩,u5⟩,u6⟩:=q
   cases u1
   cases u2;obtain ⟨n1,n2,n3,n4,n5,n6,n7,n8,n9,n10,n11⟩:=e2;obtain ⟨ls⟩:=e3
   replace em:n3=_:=em
   replace u3:n11=false:=u3
   replace es:ls=_:=es
   subst em u3 es;exact ⟨n1,n5,n4,n2,bm,n6,n7,n8,n9,n10,e1,w0,w1,w2,w3,w5,lk,u5,u6,u4⟩
  ·cases q
 ·cases q
def FunI (K:Frag) (x qual:Str) (st:Stmt) (f:Addr) (cd:Value):Prop:=∃ oc od kV dc pm an ct sl,K.lookup f=some ⟨oc,od,.func (fnOf x qual (G4 st) (v6 st) (i5 st) .none kV dc pm an cd ct),sl⟩/\codeIn K cd qual=true/\keepIn K (.ref f)=true
theorem fun_in {K:Frag} {x qual:Str} {st:Stmt} {f:Addr} {cd oc kV dc pm ct:Value} {od an:Option Addr} {sl:Array (Option Value)} (l:K.lookup f=some ⟨oc,od,.func (fnOf x qual (G4 st) (v6 st) (i5 st) .none kV dc pm an cd ct),sl⟩) (c:codeIn K cd qual=true) (k:keepIn K (.ref f)=true):FunI K x qual st f cd:=⟨_,_,_,_,_,_,_,_,l,c,k⟩
theorem FunI.fn {K:Frag} {x qual:Str} {st:Stmt} {f:Addr} {cd:Value} (h:FunI K x qual st f cd):∃ fd,Fun K x qual st f fd/\fd.code=cd/\keepIn K (.ref f)=true:=by
 obtain ⟨_,_,_,_,_,_,_,_,l,c,k⟩:=h;exact ⟨_,a8E l c k,rfl,k⟩
theorem Fun.b1 {K:Frag} {x qual:Str} {st:Stmt} {f:Addr} {fd:FuncData} {p0:Str} (F:Fun K x qual st f fd) (h:∀ (kV doc pm:Value) (an:Option Addr) (cdv ct v0:Value),bindArgs (fnOf x qual (G4 st) (v6 st) (i5 st) .none kV doc pm an cdv ct) ⟨[v0],[]⟩=pure [(p0,v0)]):Binds K fd [p0] [] :=
 F.binds λ a b c d e g us hl=>match us,hl with | [v0],_=>h a b c d e g v0
theorem Fun.b2 {K:Frag} {x qual:Str} {st:Stmt} {f:Addr} {fd:FuncData} {p0 p1:Str} (F:Fun K x qual st f fd) (h:∀ (kV doc pm:Value) (an:Option Addr) (cdv ct v0 v1:Value),bindArgs (fnOf x qual (G4 st) (v6 st) (i5 st) .none kV doc pm an cdv ct) ⟨[v0,v1],[]⟩=pure [(p0,v0),(p1,v1)]):Binds K fd [p0,p1] [] :=
 F.binds λ a b c d e g us hl=>match us,hl with | [v0,v1],_=>h a b c d e g v0 v1
theorem Fun.b3 {K:Frag} {x qual:Str} {st:Stmt} {f:Addr} {fd:FuncData} {p0 p1 p2:Str} (F:Fun K x qual st f fd) (h:∀ (kV doc pm:Value) (an:Option Addr) (cdv ct v0 v1 v2:Value),bindArgs (fnOf x qual (G4 st) (v6 st) (i5 st) .none kV doc pm an cdv ct) ⟨[v0,v1,v2],[]⟩=pure [(p0,v0),(p1,v1),(p2,v2)]):Binds K fd [p0,p1,p2] [] :=
 F.binds λ a b c d e g us hl=>match us,hl with | [v0,v1,v2],_=>h a b c d e g v0 v1 v2
theorem Fun.b4 {K:Frag} {x qual:Str} {st:Stmt} {f:Addr} {fd:FuncData} {p0 p1 p2 p3:Str} (F:Fun K x qual st f fd) (h:∀ (kV doc pm:Value) (an:Option Addr) (cdv ct v0 v1 v2 v3:Value),bindArgs (fnOf x qual (G4 st) (v6 st) (i5 st) .none kV doc pm an cdv ct) ⟨[v0,v1,v2,v3],[]⟩=pure [(p0,v0),(p1,v1),(p2,v2),(p3,v3)]):Binds K fd [p0,p1,p2,p3] [] :=
 F.binds λ a b c d e g us hl=>match us,hl with | [v0,v1,v2,v3],_=>h a b c d e g v0 v1 v2 v3
end L2
namespace Rim
open PySem L2 Fr
theorem all_mk {l:W.OpenLaw} {w:World} {K:W.Frag} {h:Heap} {mg:Str->Option Value} {fa:Addr} {Ct Pt Ct2 Pt2:Addr} (X:K.In h) (G:h.Ns mainGlobals mg) (hfa:mg "law"=some (.ref fa))
    {f1 f2 f3 f4 f5 f6 f7 f8 f9 f10 f11 f12 f13 f14 f15 f16 f17 f18 f19 f20 f21 f22 f23 f24 f25 f26 f27 f28 f29 f30 f31 f32 f33 f34 f35 CB dS tS0 tS1 tS2 tS3 cE_NoHouse:Addr} {cd1 cd2 cd3 cd4 cd5 cd6 cd7 cd8 cd9 cd10 cd11 cd12 cd13 cd15 cd16 cd17 cd18 cd19 cd20 cd21 cd22 cd23 cd24 cd25 cd26 cd27 cd28 cd29 cd31 cd32 cd33 cd34 ocL kVL dcL pmL cdL ctL:Value} {odL anL:Option Addr} {slL:Array (Option Value)} {odS0 odS1 odS2 odS3:Option Addr} {slS0 slS1 slS2 slS3:Array (Option Value)} {eS:Array DictEntry} {nS nS0 nS1 nS2 nS3:Nat} {tkA tkB tkC tkD:Tok} {oC_NOUGHT:Addr} {odC_NOUGHT:Option Addr} {slC_NOUGHT:Array (Option Value)} {nC_NOUGHT:Nat} {tkC0_NOUGHT tkC1_NOUGHT:Tok}
    (aB:W.nsIn K mainGlobals "Board"=some (some (.ref CB)))
    (a1:W.nsIn K mainGlobals "_law_cell_at"=some (some (.ref f1)))
    (l1:FunI K "_law_cell_at" "_law_cell_at" a9q f1 cd1)
    (a2:W.nsIn K mainGlobals "_law_draws"=some (some (.ref f2)))
    (l2:FunI K "_law_draws" "_law_draws" a6b f2 cd2)
    (a3:W.nsIn K mainGlobals "_law_near"=some (some (.ref f3)))
    (l3:FunI K "_law_near" "_law_near" a9z f3 cd3)
    (a4:W.nsIn K mainGlobals "_law_a_book"=some (some (.ref f4)))
    (l4:FunI K "_law_a_book" "_law_a_book" a1b f4 cd4)
    (a5:W.nsIn K mainGlobals "_law_measured"=some (some (.ref f5)))
    (l5:FunI K "_law_measured" "_law_measured" B6 f5 cd5)
    (a6:W.nsIn K mainGlobals "house_of"=some (some (.ref f6)))
    (l6:FunI K "house_of" "house_of" b3L f6 cd6)
    (a7:W.nsIn K mainGlobals "gives_no_less"=some (some (.ref f7)))
    (l7:FunI K "gives_no_less" "gives_no_less" N6 f7 cd7)
    (a8:W.nsIn K mainGlobals "common_divisor"=some (some (.ref f8)))
    (l8:FunI K "common_divisor" "common_divisor" b3F f8 cd8)
    (a9:W.nsIn K mainGlobals "lowest"=some (some (.ref f9)))
    (l9:FunI K "lowest" "lowest" b2E f9 cd9)
    (a10:W.nsIn K mainGlobals "compared"=some (some (.ref f10)))
    (l10:FunI K "compared" "compared" a0m f10 cd10)
    (a11:W.nsIn K mainGlobals "least_times"=some (some (.ref f11)))
    (l11:FunI K "least_times" "least_times" K8 f11 cd11)
    (a12:W.nsIn K mainGlobals "share_alone"=some (some (.ref f12)))
    (l12:FunI K "share_alone" "share_alone" K9 f12 cd12)
    (a13:W.findIn K (.ref CB) "__init__"=some (some (.ref f13)))
    (l13:FunI K "__init__" "Board.__init__" a4t f13 cd13)
    (n13:W.isFn K (.ref f13)=true)
    (a14:W.findIn K (.ref CB) "coming"=some (some (.ref f14)))
    (l14:FunI K "coming" "Board.coming" a3k f14 (.ref Ct))
    (n14:W.isFn K (.ref f14)=true)
    (a15:W.findIn K (.ref CB) "is_ahead"=some (some (.ref f15)))
    (l15:FunI K "is_ahead" "Board.is_ahead" a5B f15 cd15)
    (n15:W.isFn K (.ref f15)=true)
    (a16:W.findIn K (.ref CB) "going"=some (some (.ref f16)))
    (l16:FunI K "going" "Board.going" a5T f16 cd16)
    (n16:W.isFn K (.ref f16)=true)
    (a17:W.nsIn K mainGlobals "swept"=some (some (.ref f17)))
    (l17:FunI K "swept" "swept" a5u f17 cd17)
    (a18:W.findIn K (.ref CB) "exchange"=some (some (.ref f18)))
    (l18:FunI K "exchange" "Board.exchange" O3 f18 cd18)
    (n18:W.isFn K (.ref f18)=true)
    (a19:W.findIn K (.ref CB) "amounts"=some (some (.ref f19)))
    (l19:FunI K "amounts" "Board.amounts" a8F f19 cd19)
    (n19:W.isFn K (.ref f19)=true)
    (a20:W.findIn K (.ref CB) "weights"=some (some (.ref f20)))
    (l20:FunI K "weights" "Board.weights" b2N f20 cd20)
    (n20:W.isFn K (.ref f20)=true)
    (a21:W.nsIn K mainGlobals "greatest"=some (some (.ref f21)))
    (l21:FunI K "greatest" "greatest" K2 f21 cd21)
    (a22:W.nsIn K mainGlobals "house_rows"=some (some (.ref f22)))
    (l22:FunI K "house_rows" "house_rows" P5 f22 cd22)
    (a23:W.nsIn K mainGlobals "greatest_earned"=some (some (.ref f23)))
    (l23:FunI K "greatest_earned" "greatest_earned" X6 f23 cd23)
    (a24:W.nsIn K mainGlobals "held_against"=some (some (.ref f24)))
    (l24:FunI K "held_against" "held_against" a9r f24 cd24)
    (a25:W.nsIn K mainGlobals "share"=some (some (.ref f25)))
    (l25:FunI K "share" "share" a5S f25 cd25)
    (a26:W.nsIn K mainGlobals "scale"=some (some (.ref f26)))
    (l26:FunI K "scale" "scale" a3B f26 cd26)
    (a27:W.nsIn K mainGlobals "without"=some (some (.ref f27)))
    (l27:FunI K "without" "without" a2s f27 cd27)
    (a28:W.nsIn K mainGlobals "share_of_others"=some (some (.ref f28)))
    (l28:FunI K "share_of_others" "share_of_others" a3q f28 cd28)
    (a29:W.nsIn K mainGlobals "over_one_bottom"=some (some (.ref f29)))
    (l29:FunI K "over_one_bottom" "over_one_bottom" J4 f29 cd29)
    (a30:W.nsIn K mainGlobals "standing"=some (some (.ref f30)))
    (l30:FunI K "standing" "standing" K4 f30 (.ref Ct2))
    (a31:W.nsIn K mainGlobals "_law_a_less"=some (some (.ref f31)))
    (l31:FunI K "_law_a_less" "_law_a_less" a8s f31 cd31)
    (a32:W.nsIn K mainGlobals "greatest_floor"=some (some (.ref f32)))
    (l32:FunI K "greatest_floor" "greatest_floor" a0N f32 cd32)
    (a33:W.nsIn K mainGlobals "rim_of"=some (some (.ref f33)))
    (l33:FunI K "rim_of" "rim_of" a5W f33 cd33)
    (a34:W.nsIn K mainGlobals "levels"=some (some (.ref f34)))
    (l34:FunI K "levels" "levels" Z1 f34 cd34)
    (a35:W.nsIn K mainGlobals "law"=some (some (.ref f35)))
    (l35:K.lookup f35=some ⟨ocL,odL,.func (W.fnOf "law" "law" (G4 a1r) (v6 a1r) (i5 a1r) .none kVL dcL pmL anL cdL ctL),slL⟩)
    (c35:W.codeIn K cdL "law"=true)
    (k35:W.keepIn K (.ref f35)=true)
    (z1:W.nsIn K mainGlobals "len"=some none)
    (z2:W.nsIn K mainGlobals "all"=some none)
    (z3:W.nsIn K mainGlobals "any"=some none)
    (z4:W.nsIn K mainGlobals "max"=some none)
    (z5:W.nsIn K mainGlobals "min"=some none)
    (z6:W.nsIn K mainGlobals "sum"=some none)
    (z7:W.nsIn K mainGlobals "tuple"=some none)
    (z8:W.nsIn K mainGlobals "list"=some none)
    (z9:W.nsIn K mainGlobals "int"=some none)
    (z10:W.nsIn K mainGlobals "bool"=some none)
    (z11:W.nsIn K mainGlobals "range"=some none)
    (z12:W.nsIn K mainGlobals "isinstance"=some none)
    (z13:W.nsIn K mainGlobals "abs"=some none)
    (z14:W.nsIn K mainGlobals "zip"=some none)
    (z15:W.nsIn K mainGlobals "enumerate"=some none)
    (z16:W.nsIn K mainGlobals "ValueError"=some none)
    (z17:W.nsIn K mainGlobals "sorted"=some none)
    (bp:W.plainGet K CB Str.empty=true)
    (bh:W.hasDictIn K CB=true)
    (bo:W.plainOver K CB=true)
    (bs:W.findIn K (.ref CB) "__setattr__"=some (some (.builtin "object.__setattr__")))
    (b_many:W.findIn K (.ref CB) "many"=some none)
    (b_scale:W.findIn K (.ref CB) "scale"=some none)
    (b_cells:W.findIn K (.ref CB) "cells"=some none)
    (b_outs:W.findIn K (.ref CB) "outs"=some none)
    (b_ins:W.findIn K (.ref CB) "ins"=some none)
    (bm:W.makesIn K CB=true)
    (bk:W.keepIn K (.ref CB)=true)
    (s1:W.nsIn K mainGlobals "SIZE_SIGNS"=some (some (.ref dS)))
    (s3:K.lookup dS=some ⟨.type "dict",none,.dict eS nS,#[]⟩)
    (s4:W.KeysLit w.params eS.toList)
    (sa0:W.nsIn K dS "any"=some (some (.ref tS0)))
    (sb0:K.lookup tS0=some ⟨.type "tuple",odS0,.seq #[] nS0,slS0⟩)
    (sa1:W.nsIn K dS "one"=some (some (.ref tS1)))
    (sb1:K.lookup tS1=some ⟨.type "tuple",odS1,.seq #[.int 1 tkA,.int (-1) tkB] nS1,slS1⟩)
    (sa2:W.nsIn K dS "less"=some (some (.ref tS2)))
    (sb2:K.lookup tS2=some ⟨.type "tuple",odS2,.seq #[.int (-1) tkC] nS2,slS2⟩)
    (sa3:W.nsIn K dS "more"=some (some (.ref tS3)))
    (sb3:K.lookup tS3=some ⟨.type "tuple",odS3,.seq #[.int 1 tkD] nS3,slS3⟩)
    (xmNoHouse:W.nsIn K mainGlobals "NoHouse"=some (some (.ref cE_NoHouse)))
    (xoNoHouse:W.excIn K cE_NoHouse [.type "ValueError",.type "Exception",.type "BaseException",.type "object"] "ValueError.__new__"=true)
    (xgaNoHouse:W.findIn K (.ref cE_NoHouse) "__getattribute__"=some (some (.builtin "BaseException.__getattribute__")))
    (xgnNoHouse:W.findIn K (.ref cE_NoHouse) "__getattr__"=some none)
    (xcaNoHouse:W.findIn K (.ref cE_NoHouse) "__class__"=some (some (.builtin "object.__class__")))
    (xmoNoHouse:W.mroIn K cE_NoHouse (.type "object")=some true)
    (xmbNoHouse:W.mroIn K cE_NoHouse (.type "BaseException")=some true)
    (cmNOUGHT:W.nsIn K mainGlobals "NOUGHT"=some (some (.ref oC_NOUGHT)))
    (clNOUGHT:K.lookup oC_NOUGHT=some ⟨.type "tuple",odC_NOUGHT,.seq #[.int 0 tkC0_NOUGHT,.int 1 tkC1_NOUGHT] nC_NOUGHT,slC_NOUGHT⟩)
   :∃ fd:FuncData,(∀ (s:Shared) (v:Value),BindsTo s fd ⟨[v],[]⟩ [("script",v)])/\∀ base:Heap,K.In base->base.Ns mainGlobals mg->N8 mg base->(∀ t∈[(Ct,Pt),(Ct2,Pt2)],W.CodeHd base t.1 t.2)->FnOk l.prog w K mg base G5 13 fa fd ["script"] (a7l K Pt Pt2):=by
  have e:=hfa.symm.trans (W.mg_of X G a35)
  cases e;obtain ⟨_,F1,hc1,k1⟩:=l1.fn;obtain ⟨_,F2,hc2,k2⟩:=l2.fn;obtain ⟨_,F3,hc3,k3⟩:=l3.fn;obtain ⟨_,F4,hc4,k4⟩:=l4.fn;obtain ⟨_,F5,hc5,k5⟩:=l5.fn;obtain ⟨_,F6,hc6,k6⟩:=l6.fn;obtain ⟨_,F7,hc7,k7⟩:=l7.fn;obtain ⟨_,F8,hc8,k8⟩:=l8.fn;obtain ⟨_,F9,hc9,k9⟩:=l9.fn;obtain ⟨_,F10,hc10,k10⟩:=l10.fn;obtain ⟨_,F11,hc11,k11⟩:=l11.fn;obtain ⟨_,F12,hc12,k12⟩:=l12.fn;obtain ⟨_,F13,hc13,k13⟩:=l13.fn;obtain ⟨_,F14,hc14,k14⟩:=l14.fn;obtain ⟨_,F15,hc15,k15⟩:=l15.fn;obtain ⟨_,F16,hc16,k16⟩:=l16.fn;obtain ⟨_,F17,hc17,k17⟩:=l17.fn;obtain ⟨_,F18,hc18,k18⟩:=l18.fn;obtain ⟨_,F19,hc19,k19⟩:=l19.fn;obtain ⟨_,F20,hc20,k20⟩:=l20.fn;obtain ⟨_,F21,hc21,k21⟩:=l21.fn;obtain ⟨_,F22,hc22,k22⟩:=l22.fn;obtain ⟨_,F23,hc23,k23⟩:=l23.fn;obtain ⟨_,F24,hc24,k24⟩:=l24.fn;obtain ⟨_,F25,hc25,k25⟩:=l25.fn;obtain ⟨_,F26,hc26,k26⟩:=l26.fn;obtain ⟨_,F27,hc27,k27⟩:=l27.fn;obtain ⟨_,F28,hc28,k28⟩:=l28.fn;obtain ⟨_,F29,hc29,k29⟩:=l29.fn;obtain ⟨_,F30,hc30,k30⟩:=l30.fn;obtain ⟨_,F31,hc31,k31⟩:=l31.fn;obtain ⟨_,F32,hc32,k32⟩:=l32.fn;obtain ⟨_,F33,hc33,k33⟩:=l33.fn;obtain ⟨_,F34,hc34,k34⟩:=l34.fn;have F35:=a8E (st:=a1r) l35 c35 k35;have b1:Binds K _ ["script","k"] []:=F1.b2 λ _ _ _ _ _ _ _ _=>rfl;have b2:Binds K _ ["cell","many","base"] []:=F2.b3 λ _ _ _ _ _ _ _ _ _=>rfl;have b3:Binds K _ ["house","picks","far"] []:=F3.b3 λ _ _ _ _ _ _ _ _ _=>rfl;have b4:Binds K _ ["script","at","most","far"] []:=F4.b4 λ _ _ _ _ _ _ _ _ _ _=>rfl;have b5:Binds K _ ["book","side","kind","by"] []:=F5.b4 λ _ _ _ _ _ _ _ _ _ _=>rfl;have b6:Binds K _ ["book","number"] []:=F6.b2 λ _ _ _ _ _ _ _ _=>rfl;have b7:Binds K _ ["house","other"] []:=F7.b2 λ _ _ _ _ _ _ _ _=>rfl;have b8:Binds K _ ["one","other"] []:=F8.b2 λ _ _ _ _ _ _ _ _=>rfl;have b9:Binds K _ ["top","bottom"] []:=F9.b2 λ _ _ _ _ _ _ _ _=>rfl;have b10:Binds K _ ["one","other"] []:=F10.b2 λ _ _ _ _ _ _ _ _=>rfl;have b11:Binds K _ ["takes","others"] []:=F11.b2 λ _ _ _ _ _ _ _ _=>rfl;have b12:Binds K _ ["book","number"] []:=F12.b2 λ _ _ _ _ _ _ _ _=>rfl;have b13:Binds K _ ["self","goal","rows","bounds"] []:=F13.b4 λ _ _ _ _ _ _ _ _ _ _=>rfl;have b14:Binds K _ ["self"] []:=F14.b1 λ _ _ _ _ _ _ _=>rfl;have b15:Binds K _ ["self","row","other","column"] []:=F15.b4 λ _ _ _ _ _ _ _ _ _ _=>rfl;have b16:Binds K _ ["self","column"] []:=F16.b2 λ _ _ _ _ _ _ _ _=>rfl;have b17:Binds K _ ["cells","lead","column","scale"] []:=F17.b4 λ _ _ _ _ _ _ _ _ _ _=>rfl;have b18:Binds K _ ["self","row","column"] []:=F18.b3 λ _ _ _ _ _ _ _ _ _=>rfl;have b19:Binds K _ ["self"] []:=F19.b1 λ _ _ _ _ _ _ _=>rfl;have b20:Binds K _ ["self"] []:=F20.b1 λ _ _ _ _ _ _ _=>rfl;have b21:Binds K _ ["goal","rows","bounds"] []:=F21.b3 λ _ _ _ _ _ _ _ _ _=>rfl;have b22:Binds K _ ["houses","sizes"] []:=F22.b2 λ _ _ _ _ _ _ _ _=>rfl;have b23:Binds K _ ["houses","house","sizes"] []:=F23.b3 λ _ _ _ _ _ _ _ _ _=>rfl;have b24:Binds K _ ["houses","house","sizes"] []:=F24.b3 λ _ _ _ _ _ _ _ _ _=>rfl;have b25:Binds K _ ["book","number","sizes"] []:=F25.b3 λ _ _ _ _ _ _ _ _ _=>rfl;have b26:Binds K _ ["book","number"] []:=F26.b2 λ _ _ _ _ _ _ _ _=>rfl;have b27:Binds K _ ["houses","number"] []:=F27.b2 λ _ _ _ _ _ _ _ _=>rfl;have b28:Binds K _ ["book","number","sizes"] []:=F28.b3 λ _ _ _ _ _ _ _ _ _=>rfl;have b29:Binds K _ ["ones"] []:=F29.b1 λ _ _ _ _ _ _ _=>rfl;have b30:Binds K _ ["book","sizes"] []:=F30.b2 λ _ _ _ _ _ _ _ _=>rfl;have b31:Binds K _ ["one","other"] []:=F31.b2 λ _ _ _ _ _ _ _ _=>rfl;have b32:Binds K _ ["houses","number","sizes"] []:=F32.b3 λ _ _ _ _ _ _ _ _ _=>rfl;have b33:Binds K _ ["book","sizes"] []:=F33.b2 λ _ _ _ _ _ _ _ _=>rfl;have b34:Binds K _ ["book","sizes"] []:=F34.b2 λ _ _ _ _ _ _ _ _=>rfl;have T:x9 mg:=⟨W.mg_none_of X G z1,W.mg_none_of X G z2,W.mg_none_of X G z3,W.mg_none_of X G z4,W.mg_none_of X G z5,W.mg_none_of X G z6,W.mg_none_of X G z7,W.mg_none_of X G z8,W.mg_none_of X G z9,W.mg_none_of X G z10,W.mg_none_of X G z11,W.mg_none_of X G z12,W.mg_none_of X G z13,W.mg_none_of X G z14,W.mg_none_of X G z15,W.mg_none_of X G z16,W.mg_none_of X G z17⟩;have TBd:TB K CB:=⟨⟨bp,bh,bo,bs⟩,b_many,b_scale,b_cells,b_outs,b_ins⟩;have SG:Sg K w.params mg dS:=⟨W.mg_of X G s1,⟨_,_,s3,s4⟩,λ z hz=>by
    rcases hz with rfl | rfl | rfl | rfl
    . exact ⟨_,sa0,λ H=>.inr ⟨_,_,_,sb0,rfl,rfl,(by show 0<=sizeLine; decide),.nil⟩⟩
    . exact ⟨_,sa1,λ H=>.inr ⟨_,_,_,sb1,rfl,rfl,(by show 2<=sizeLine; decide),.cons ⟨_,rfl⟩ (.cons ⟨_,rfl⟩ .nil)⟩⟩
    . exact ⟨_,sa2,λ H=>.inr ⟨_,_,_,sb2,rfl,rfl,(by show 1<=sizeLine; decide),.cons ⟨_,rfl⟩ .nil⟩⟩
    . exact ⟨_,sa3,λ H=>.inr ⟨_,_,_,sb3,rfl,rfl,(by show 1<=sizeLine; decide),.cons ⟨_,rfl⟩ .nil⟩⟩
    ⟩
  have C_NOUGHT:a3D K mg oC_NOUGHT:=⟨W.mg_of X G cmNOUGHT,λ H=>.inr ⟨_,_,_,clNOUGHT,rfl,rfl,(by show 2<=sizeLine; decide),.cons ⟨_,rfl⟩ (.cons ⟨_,rfl⟩ .nil)⟩⟩;have k_NoHouse:b2P K cE_NoHouse:=⟨b3g xoNoHouse,xgaNoHouse,xgnNoHouse,xcaNoHouse,xmoNoHouse,xmbNoHouse⟩;have m_NoHouse:=W.mg_of X G xmNoHouse;refine ⟨W.fnOf "law" "law" (G4 a1r) (v6 a1r) (i5 a1r) .none kVL dcL pmL anL cdL ctL,λ s v=>.of_eq rfl,λ base _ _ BM hCH=>?_⟩;have g1:=λ n:Nat=>b1q (mg:=mg) (P:=l.prog) (w:=w) (base:=base) (n:=n) F1 T;have g2:=λ n:Nat=>a9K (mg:=mg) (P:=l.prog) (w:=w) (base:=base) (n:=n) F2 T;have g3:=λ n:Nat=>b1v (mg:=mg) (P:=l.prog) (w:=w) (base:=base) (n:=n) F3 T;have g4:=λ n:Nat=>a8p (mg:=mg) (P:=l.prog) (w:=w) (base:=base) F4 T (g1 (n+0)) b1 k1 (W.mg_of X G a1) (g2 (n+0)) b2 k2 (W.mg_of X G a2) (g3 (n+0)) b3 k3 (W.mg_of X G a3);have g5:=λ n:Nat=>b1r (mg:=mg) (P:=l.prog) (w:=w) (base:=base) (n:=n) F5 T;have g6:=λ n:Nat=>b2x (mg:=mg) (P:=l.prog) (w:=w) (base:=base) (n:=n) F6 T k_NoHouse m_NoHouse;have g7:=λ n:Nat=>b2W (mg:=mg) (P:=l.prog) (w:=w) (base:=base) (n:=n) F7 T;have g8:=λ n:Nat=>b3k (mg:=mg) (P:=l.prog) (w:=w) (base:=base) (n:=n) F8 T;have g9:=λ n:Nat=>b3w (mg:=mg) (P:=l.prog) (w:=w) (base:=base) F9 T ⟨g8 (n+0),b8,k8,(W.mg_of X G a8)⟩;have g10:=λ n:Nat=>b1h (mg:=mg) (P:=l.prog) (w:=w) (base:=base) (n:=n) F10;have g11:=λ n:Nat=>b2M (mg:=mg) (P:=l.prog) (w:=w) (base:=base) F11 T ⟨C_NOUGHT.m,C_NOUGHT.s⟩ ⟨g9 (n+0),b9,k9,(W.mg_of X G a9)⟩ ⟨g10 (n+1),b10,k10,(W.mg_of X G a10)⟩;have g12:=λ n:Nat=>b3l (mg:=mg) (P:=l.prog) (w:=w) (base:=base) F12 T ⟨g6 (n+2),b6,k6,(W.mg_of X G a6)⟩ ⟨g7 (n+2),b7,k7,(W.mg_of X G a7)⟩ ⟨g11 (n+0),b11,k11,(W.mg_of X G a11)⟩ ⟨g10 (n+2),b10,k10,(W.mg_of X G a10)⟩;have g13:=λ n:Nat=>b1G (mg:=mg) (P:=l.prog) (w:=w) (base:=base) (n:=n) F13 T TBd;have g14:=λ n:Nat=>a7P (mg:=mg) (P:=l.prog) (w:=w) (base:=base) (n:=n) F14 hc14 (hCH _ (.head _)) BM T TBd;have g15:=λ n:Nat=>a9p (mg:=mg) (P:=l.prog) (w:=w) (base:=base) (n:=n) F15 TBd;have g16:=λ n:Nat=>a8L (mg:=mg) (P:=l.prog) (w:=w) (base:=base) F16 T TBd ⟨g15 (n+0),b15,⟨a15,n15,k15⟩⟩;have g17:=λ n:Nat=>b0f (mg:=mg) (P:=l.prog) (w:=w) (base:=base) (n:=n) F17 T;have g18:=λ n:Nat=>a4a (mg:=mg) (P:=l.prog) (w:=w) (base:=base) F18 TBd ⟨g17 (n+0),b17,k17,(W.mg_of X G a17)⟩;have g19:=λ n:Nat=>b1f (mg:=mg) (P:=l.prog) (w:=w) (base:=base) (n:=n) F19 T TBd;have g20:=λ n:Nat=>b3t (mg:=mg) (P:=l.prog) (w:=w) (base:=base) (n:=n) F20 T TBd;have g21:=λ n:Nat=>a4R (mg:=mg) (P:=l.prog) (w:=w) (base:=base) F21 TBd ⟨⟨bm,a13,n13,bk⟩,g13 (n+2),b13,W.mg_of X G aB,⟨g14 (n+0),b14,⟨a14,n14,k14⟩⟩,⟨g16 (n+1),b16,⟨a16,n16,k16⟩⟩,⟨g18 (n+1),b18,⟨a18,n18,k18⟩⟩,⟨g19 (n+2),b19,⟨a19,n19,k19⟩⟩,⟨g20 (n+2),b20,⟨a20,n20,k20⟩⟩⟩;have g22:=λ n:Nat=>a3W (mg:=mg) (P:=l.prog) (w:=w) (base:=base) (n:=n) F22 T SG;have g23:=λ n:Nat=>a7D (mg:=mg) (P:=l.prog) (w:=w) (base:=base) F23 T SG ⟨g21 (n+0),b21,k21,(W.mg_of X G a21)⟩ ⟨g22 (n+4),b22,k22,(W.mg_of X G a22)⟩;have g24:=λ n:Nat=>b0D (mg:=mg) (P:=l.prog) (w:=w) (base:=base) F24 ⟨g23 (n+0),b23,k23,(W.mg_of X G a23)⟩ ⟨g9 (n+4),b9,k9,(W.mg_of X G a9)⟩;have g25:=λ n:Nat=>a9I (mg:=mg) (P:=l.prog) (w:=w) (base:=base) F25 ⟨g6 (n+6),b6,k6,(W.mg_of X G a6)⟩ ⟨g24 (n+0),b24,k24,(W.mg_of X G a24)⟩;have g26:=λ n:Nat=>a8o (mg:=mg) (P:=l.prog) (w:=w) (base:=base) F26 ⟨g25 (n+0),b25,k25,(W.mg_of X G a25)⟩;have g27:=λ n:Nat=>a5C (mg:=mg) (P:=l.prog) (w:=w) (base:=base) F27 ⟨g6 (n+0),b6,k6,(W.mg_of X G a6)⟩;have g28:=λ n:Nat=>a7Y (mg:=mg) (P:=l.prog) (w:=w) (base:=base) F28 ⟨g6 (n+6),b6,k6,(W.mg_of X G a6)⟩ ⟨g27 (n+5),b27,k27,(W.mg_of X G a27)⟩ ⟨g24 (n+0),b24,k24,(W.mg_of X G a24)⟩;have g29:=λ n:Nat=>a9O (mg:=mg) (P:=l.prog) (w:=w) (base:=base) F29 ⟨g8 (n+0),b8,k8,(W.mg_of X G a8)⟩;have g30:=λ n:Nat=>a4I (mg:=mg) (P:=l.prog) (w:=w) (base:=base) F30 hc30 (hCH _ (.tail _ (.head _))) BM T C_NOUGHT ⟨g28 (n+0),b28,k28,(W.mg_of X G a28)⟩ ⟨g29 (n+6),b29,k29,(W.mg_of X G a29)⟩;have g31:=λ n:Nat=>b1L (mg:=mg) (P:=l.prog) (w:=w) (base:=base) (n:=n) F31;have g32:=λ n:Nat=>a9V (mg:=mg) (P:=l.prog) (w:=w) (base:=base) F32 T ⟨g21 (n+0),b21,k21,(W.mg_of X G a21)⟩ ⟨g22 (n+4),b22,k22,(W.mg_of X G a22)⟩;have g33:=λ n:Nat=>a9j (mg:=mg) (P:=l.prog) (w:=w) (base:=base) F33 T ⟨g32 (n+0),b32,k32,(W.mg_of X G a32)⟩;have g34:=λ n:Nat=>a8i (mg:=mg) (P:=l.prog) (w:=w) (base:=base) F34 T ⟨g33 (n+0),b33,k33,(W.mg_of X G a33)⟩;exact b2K F35 T ⟨⟨g4 10,b4,k4,(W.mg_of X G a4)⟩,⟨g1 11,b1,k1,(W.mg_of X G a1)⟩,⟨g2 11,b2,k2,(W.mg_of X G a2)⟩,⟨g5 11,b5,k5,(W.mg_of X G a5)⟩,⟨g12 8,b12,k12,(W.mg_of X G a12)⟩,⟨g26 3,b26,k26,(W.mg_of X G a26)⟩,⟨g30 0,b30,k30,(W.mg_of X G a30)⟩,⟨g25 4,b25,k25,(W.mg_of X G a25)⟩,⟨g31 11,b31,k31,(W.mg_of X G a31)⟩,⟨g28 4,b28,k28,(W.mg_of X G a28)⟩,⟨g34 4,b34,k34,(W.mg_of X G a34)⟩⟩
end Rim
def PySem.W.Fast.tw5299616697219783283:Nat:=0
def PySem.W.Fast.tw13668071227615905911:Nat:=0
def PySem.W.Fast.tw13258761705369567244:Nat:=0
def PySem.W.Fast.tw5610100392671528421:Nat:=0
def PySem.W.Fast.tw13312483759018378234:Nat:=0
def PySem.W.Fast.tw79000865455213819:Nat:=0
def PySem.W.Fast.tw1763295472332140870:Nat:=0
def PySem.W.Fast.tw11456344823854997653:Nat:=0
def PySem.W.Fast.tw13085491114691980010:Nat:=0
def PySem.W.Fast.tw1572727862210685883:Nat:=0
def PySem.W.Fast.tw2605722674375077008:Nat:=0
def PySem.W.Fast.tw6967032795671848390:Nat:=0
def PySem.W.Fast.tw970147292174428342:Nat:=0
def PySem.W.Fast.tw13411149833987138820:Nat:=0
def PySem.W.Fast.tw15304581117335803808:Nat:=0
def PySem.W.Fast.tw15134785047423509172:Nat:=0
def PySem.W.Fast.tw11386456241010564269:Nat:=0
def PySem.W.Fast.tw17421320644425612844:Nat:=0
def PySem.W.Fast.tw2364769694357115924:Nat:=0
def PySem.W.Fast.tw15221992274055500486:Nat:=0
def PySem.W.Fast.tw10991008035226410024:Nat:=0
def PySem.W.Fast.tw17318190368202181431:Nat:=0
def PySem.W.Fast.tw2176155328505240215:Nat:=0
def PySem.W.Fast.tw15898802268846358016:Nat:=0
def PySem.W.Fast.tw18315359392398142709:Nat:=0
def PySem.W.Fast.tw5991098071950157305:Nat:=0
def PySem.W.Fast.tw15331494032162385050:Nat:=0
def PySem.W.Fast.tw14113832144849692407:Nat:=0
def PySem.W.Fast.tw14770040956784041572:Nat:=0
def PySem.W.Fast.tw9726909367772842842:Nat:=0
def PySem.W.Fast.tw13283537416679542999:Nat:=0
def PySem.W.Fast.tw3513546771894661498:Nat:=0
def PySem.W.Fast.tw16882964744739273786:Nat:=0
def PySem.W.Fast.tw18189540149773857883:Nat:=0
def PySem.W.Fast.tw16533832182012986237:Nat:=0
def PySem.W.Fast.tw8994669390193192714:Nat:=0
def PySem.W.Fast.tw16973694367137406709:Nat:=0
def PySem.W.Fast.tw2341665778684125239:Nat:=0
def PySem.W.Fast.tw4881734044593949684:Nat:=0
def PySem.W.Fast.tw8113679957229311613:Nat:=0
def PySem.W.Fast.tw13483188791784538932:Nat:=0
def PySem.W.Fast.tw14751916535505711445:Nat:=0
def PySem.W.Fast.tw17999286850529067768:Nat:=0
def PySem.W.Fast.tw4341487709341256195:Nat:=0
def PySem.W.Fast.tw4268118052118025714:Nat:=0
def PySem.W.Fast.tw8817711955748626769:Nat:=0
def PySem.W.Fast.tw4557094461139248597:Nat:=0
def PySem.W.Fast.tw4860493425942815697:Nat:=0
def PySem.W.Fast.tw715393953375760061:Nat:=0
def PySem.W.Fast.tw1650428727971061570:Nat:=0
def PySem.W.Fast.tw6750658999366317601:Nat:=0
def PySem.W.Fast.tw1180466713586795583:Nat:=0
def PySem.W.Fast.tw392177844111603314:Nat:=0
def PySem.W.Fast.tw10328275434863209832:Nat:=0
def PySem.W.Fast.tw5946771474982667948:Nat:=0
def PySem.W.Fast.tw13496362548129280407:Nat:=0
def PySem.W.Fast.tw3588140185881159020:Nat:=0
def PySem.W.Fast.tw11607801870561222398:Nat:=0
def PySem.W.Fast.tw14384811245816795222:Nat:=0
def PySem.W.Fast.tw13314705934670419074:Nat:=0
def PySem.W.Fast.tw2953325174626320568:Nat:=0
def PySem.W.Fast.tw11818742427024914085:Nat:=0
def PySem.W.Fast.tw11589355866519320317:Nat:=0
def PySem.W.Fast.tw9086020473924319128:Nat:=0
def PySem.W.Fast.tw1901989516228911639:Nat:=0
def PySem.W.Fast.tw4798551166258813222:Nat:=0
def PySem.W.Fast.tw4128976657831627959:Nat:=0
def PySem.W.Fast.tw12276913466955405281:Nat:=0
def PySem.W.Fast.tw14174146018912568718:Nat:=0
def PySem.W.Fast.tw16540078717879590610:Nat:=0
def PySem.W.Fast.tw9796301226087761009:Nat:=0
def PySem.W.Fast.tw15315430900621026042:Nat:=0
def PySem.W.Fast.tw1232372004311836187:Nat:=0
def PySem.W.Fast.tw2399678785158097190:Nat:=0
def PySem.W.Fast.tw9332234898745916897:Nat:=0
def PySem.W.Fast.tw11655698977173874843:Nat:=0
def PySem.W.Fast.tw2370225443589098174:Nat:=0
def PySem.W.Fast.tw8891184357993056572:Nat:=0
def PySem.W.Fast.tw11733614034261457231:Nat:=0
def PySem.W.Fast.tw2904284279728226068:Nat:=0
def PySem.W.Fast.tw6647220406977443846:Nat:=0
def PySem.W.Fast.tw1615645183104637031:Nat:=0
def PySem.W.Fast.tw8151301327603030326:Nat:=0
def PySem.W.Fast.tw4256572594709344834:Nat:=0
def PySem.W.Fast.tw6318581068837474489:Nat:=0
def PySem.W.Fast.tw5546814687015719983:Nat:=0
def PySem.W.Fast.tw9603944508651591599:Nat:=0
def PySem.W.Fast.tw1977511419082679645:Nat:=0
def PySem.W.Fast.tw5568405140356101052:Nat:=0
def PySem.W.Fast.tw17231784325764026766:Nat:=0
def PySem.W.Fast.tw13936614457103672327:Nat:=0
def PySem.W.Fast.tw9301143704742768527:Nat:=0
def PySem.W.Fast.tw16852853666092489589:Nat:=0
def PySem.W.Fast.tw3573825184053803864:Nat:=0
def PySem.W.Fast.tw4822177720946911557:Nat:=0
def PySem.W.Fast.tw16069798009250428599:Nat:=0
def PySem.W.Fast.tw10511975124252645229:Nat:=0
def PySem.W.Fast.tw12808843930408311901:Nat:=0
def PySem.W.Fast.tw3035073419535337488:Nat:=0
def PySem.W.Fast.tw8216840014377706338:Nat:=0
def PySem.W.Fast.tw4509330745971866905:Nat:=0
def PySem.W.Fast.tw3223831642327928351:Nat:=0
def PySem.W.Fast.tw16389211924023048614:Nat:=0
def PySem.W.Fast.tw1862388568932900398:Nat:=0
def PySem.W.Fast.tw13467441082646925208:Nat:=0
def PySem.W.Fast.tw286921307984731119:Nat:=0
def PySem.W.Fast.tw14095898579965373787:Nat:=0
def PySem.W.Fast.tw15866008347563898008:Nat:=0
def PySem.W.Fast.tw12975352068385349228:Nat:=0
def PySem.W.Fast.tw18426396201183953534:Nat:=0
def PySem.W.Fast.tw18421999159473364681:Nat:=0
def PySem.W.Fast.tw2885923642528895897:Nat:=0
def PySem.W.Fast.tw10566614325233378093:Nat:=0
def PySem.W.Fast.tw8330985162060986071:Nat:=0
def PySem.W.Fast.tw5033030540309776736:Nat:=0
def PySem.W.Fast.tw10408218161688539115:Nat:=0
def PySem.W.Fast.tw16508373453959460238:Nat:=0
def PySem.W.Fast.tw7533610494574710757:Nat:=0
def PySem.W.Fast.tw10147848060414203762:Nat:=0
def PySem.W.Fast.tw17926556275323680489:Nat:=0
def PySem.W.Fast.tw11045585872625223398:Nat:=0
def PySem.W.Fast.tw9236406787694601757:Nat:=0
def PySem.W.Fast.tw2202642121806418004:Nat:=0
def PySem.W.Fast.tw6837553351191135685:Nat:=0
def PySem.W.Fast.tw12368060677955212892:Nat:=0
def PySem.W.Fast.tw12721491264290138730:Nat:=0
def PySem.W.Fast.tw3285687027953050901:Nat:=0
def PySem.W.Fast.tw7471119778705798142:Nat:=0
def PySem.W.Fast.tw7306965618883651748:Nat:=0
def PySem.W.Fast.tw16988626266540656545:Nat:=0
def PySem.W.Fast.tw1247599586022137726:Nat:=0
def PySem.W.Fast.tw8787937974781022497:Nat:=0
def PySem.W.Fast.tw5029525088397895465:Nat:=0
def PySem.W.Fast.tw18064957302742561686:Nat:=0
def PySem.W.Fast.tw15357891640530673502:Nat:=0
def PySem.W.Fast.tw3870669634915489941:Nat:=0
def PySem.W.Fast.tw17230583865645423884:Nat:=0
def PySem.W.Fast.tw16487088134281643250:Nat:=0
def PySem.W.Fast.tw9026335527753680652:Nat:=0
def PySem.W.Fast.tw1192884023966218117:Nat:=0
def PySem.W.Fast.tw2895202076419541970:Nat:=0
def PySem.W.Fast.tw804311883765320504:Nat:=0
def PySem.W.Fast.tw13821916456958747359:Nat:=0
def PySem.W.Fast.tw10931393939290831431:Nat:=0
def PySem.W.Fast.tw1061297840976266355:Nat:=0
def PySem.W.Fast.tw11301993959367926126:Nat:=0
def PySem.W.Fast.tw18158473094055807183:Nat:=0
def PySem.W.Fast.tw13148688020453340045:Nat:=0
def PySem.W.Fast.tw14566359105285280485:Nat:=0
def PySem.W.Fast.tw6986225268607164193:Nat:=0
def PySem.W.Fast.tw2325707485125129024:Nat:=0
def PySem.W.Fast.tw100501124281334169:Nat:=0
def PySem.W.Fast.tw8134047584712314622:Nat:=0
def PySem.W.Fast.tw17339656457099098375:Nat:=0
def PySem.W.Fast.tw7143041703333819230:Nat:=0
def PySem.W.Fast.tw16533805804228589180:Nat:=0
def PySem.W.Fast.tw4593937759617842373:Nat:=0
def PySem.W.Fast.tw15152800443325574170:Nat:=0
def PySem.W.Fast.tw17112657653318184300:Nat:=0
def PySem.W.Fast.tw17768085831756195154:Nat:=0
def PySem.W.Fast.tw5145951574730980134:Nat:=0
def PySem.W.Fast.tw13885181869826656433:Nat:=0
def PySem.W.Fast.tw10229698957391644965:Nat:=0
def PySem.W.Fast.tw11049007907160633331:Nat:=0
def PySem.W.Fast.tw15854857778035673432:Nat:=0
def PySem.W.Fast.tw5906007951132047544:Nat:=0
def PySem.W.Fast.tw5307513849705889653:Nat:=0
def PySem.W.Fast.tw6946943694362709440:Nat:=0
def PySem.W.Fast.tw14682905355912633413:Nat:=0
def PySem.W.Fast.tw421983008590362668:Nat:=0
def PySem.W.Fast.tw23525201419929877:Nat:=0
def PySem.W.Fast.tw726930866251139448:Nat:=0
namespace Rim
open PySem L2 Fr
theorem walk {l:W.OpenLaw} {q:Program} {loose:List Str} {XP:(Str->Option Value)->Heap->Prop} {YP:World->Heap->Prop} {d:DefRec} {K:Params->W.Frag} {Ct Pt Ct2 Pt2:Addr} (hne:Pt2≠Pt) (hn:l.most=some 63) (hdf:d.params.defaults=[])
  (hY:∀ (w:World) (h:Heap),YP w h->(K w.params).In h/\∀ t∈[(Ct,Pt),(Ct2,Pt2)],h.get? t.2=some (W.tabObj #[]))
  (hC:∀ (w:World),∀ t∈[(Ct,Pt),(Ct2,Pt2)],W.codeHdIn (K w.params) t.1 t.2=true/\(K w.params).lookup t.2=none)
  (F:∀ (w:World) (mg:Str->Option Value) (fa:Addr) (h:Heap),(K w.params).In h->h.Ns mainGlobals mg->mg d.name=some (.ref fa) →
   ∃ fd:FuncData,(∀ (s:Shared) (u:Value),BindsTo s fd ⟨[u],[]⟩ [("script",u)])/\∀ base:Heap,(K w.params).In base->base.Ns mainGlobals mg->N8 mg base->(∀ t∈[(Ct,Pt),(Ct2,Pt2)],W.CodeHd base t.1 t.2)->FnOk l.prog w (K w.params) mg base G5 13 fa fd ["script"] (a7l (K w.params) Pt Pt2)) :
  W.WalkO q loose XP YP l.row.toRowW d [] (λ f vs=>PySem.call f vs) :=
 L2.walk_ofT (n:=63) (k:=13) (x:="script") (Ts:=[(Ct,Pt),(Ct2,Pt2)]) (CX:=λ _=>G5) (sp:=λ w=>a7l (K w.params) Pt Pt2) hn (by decide) hdf ⟨rfl,by decide,by decide⟩ hY hC F (λ _ _ a ns hl hT hS=>⟨a,ns,rfl,hS,hl,.inl (hT _ (.head _)),.inl (hT _ (.tail _ (.head _))),hne,λ _=>rfl⟩) λ _ _ _ _ _ z=>z
end Rim
open PySem PySem.W PyProof.Rows
set_option maxRecDepth 100000 in
set_option maxHeartbeats 0 in
theorem PySem.Challenge.cw_rimhouse_k30_whole_standings_and_levels_holds : PySem.Challenge.rw_rimhouse_k30_whole_standings_and_levels.Holds := by
  w_on; o_law; km_head; (case hw=>w_witness2)
  k_fill
  refine' Rim.walk (l:=PySem.Challenge.rw_rimhouse_k30_whole_standings_and_levels) (Ct:=_) (Pt:=99) (Ct2:=_) (Pt2:=201) (by decide) rfl rfl ?Y ?C ?F
  case Y=>exact λ w h Y=>⟨W.km_in_of Y,λ t ht=>by
    rcases List.mem_cons.mp ht with rfl | ht
    . exact W.km_tabs_of Y _ (.tail _ (.head _))
    . rw [List.mem_singleton.mp ht]; exact W.km_tabs_of Y _ (.head _)⟩
  case F =>
    intro w mg fa h KX G hmg;refine' Rim.all_mk KX G hmg ?aB ?a1 ?l1 ?a2 ?l2 ?a3 ?l3 ?a4 ?l4 ?a5 ?l5 ?a6 ?l6 ?a7 ?l7 ?a8 ?l8 ?a9 ?l9 ?a10 ?l10 ?a11 ?l11 ?a12 ?l12 ?a13 ?l13 ?n13 ?a14 ?l14 ?n14 ?a15 ?l15 ?n15 ?a16 ?l16 ?n16 ?a17 ?l17 ?a18 ?l18 ?n18 ?a19 ?l19 ?n19 ?a20 ?l20 ?n20 ?a21 ?l21 ?a22 ?l22 ?a23 ?l23 ?a24 ?l24 ?a25 ?l25 ?a26 ?l26 ?a27 ?l27 ?a28 ?l28 ?a29 ?l29 ?a30 ?l30 ?a31 ?l31 ?a32 ?l32 ?a33 ?l33 ?a34 ?l34 ?a35 ?l35 ?c35 ?k35 ?z1 ?z2 ?z3 ?z4 ?z5 ?z6 ?z7 ?z8 ?z9 ?z10 ?z11 ?z12 ?z13 ?z14 ?z15 ?z16 ?z17 ?bp ?bh ?bo ?bs ?b_many ?b_scale ?b_cells ?b_outs ?b_ins ?bm ?bk ?s1 ?s3 ?s4 ?sa0 ?sb0 ?sa1 ?sb1 ?sa2 ?sb2 ?sa3 ?sb3 ?xmNoHouse ?xoNoHouse ?xgaNoHouse ?xgnNoHouse ?xcaNoHouse ?xmoNoHouse ?xmbNoHouse ?cmNOUGHT ?clNOUGHT
    (case aB=>k_is)
    (case a1=>k_is)
    (case l1=>(refine' L2.fun_in ?l ?c ?k; (case l=>k_is); (case c=>k_is); (case k=>k_is)))
    (case a2=>k_is)
    (case l2=>(refine' L2.fun_in ?l ?c ?k; (case l=>k_is); (case c=>k_is); (case k=>k_is)))
    (case a3=>k_is)
    (case l3=>(refine' L2.fun_in ?l ?c ?k; (case l=>k_is); (case c=>k_is); (case k=>k_is)))
    (case a4=>k_is)
    (case l4=>(refine' L2.fun_in ?l ?c ?k; (case l=>k_is); (case c=>k_is); (case k=>k_is)))
    (case a5=>k_is)
    (case l5=>(refine' L2.fun_in ?l ?c ?k; (case l=>k_is); (case c=>k_is); (case k=>k_is)))
    (case a6=>k_is)
    (case l6=>(refine' L2.fun_in ?l ?c ?k; (case l=>k_is); (case c=>k_is); (case k=>k_is)))
    (case a7=>k_is)
    (case l7=>(refine' L2.fun_in ?l ?c ?k; (case l=>k_is); (case c=>k_is); (case k=>k_is)))
    (case a8=>k_is)
    (case l8=>(refine' L2.fun_in ?l ?c ?k; (case l=>k_is); (case c=>k_is); (case k=>k_is)))
    (case a9=>k_is)
    (case l9=>(refine' L2.fun_in ?l ?c ?k; (case l=>k_is); (case c=>k_is); (case k=>k_is)))
    (case a10=>k_is)
    (case l10=>(refine' L2.fun_in ?l ?c ?k; (case l=>k_is); (case c=>k_is); (case k=>k_is)))
    (case a11=>k_is)
    (case l11=>(refine' L2.fun_in ?l ?c ?k; (case l=>k_is); (case c=>k_is); (case k=>k_is)))
    (case a12=>k_is)
    (case l12=>(refine' L2.fun_in ?l ?c ?k; (case l=>k_is); (case c=>k_is); (case k=>k_is)))
    (case a13=>k_is)
    (case l13=>(refine' L2.fun_in ?l ?c ?k; (case l=>k_is); (case c=>k_is); (case k=>k_is)))
    (case n13=>k_is)
    (case a14=>k_is)
    (case l14=>(refine' L2.fun_in ?l ?c ?k; (case l=>k_is); (case c=>k_is); (case k=>k_is)))
    (case n14=>k_is)
    (case a15=>k_is)
    (case l15=>(refine' L2.fun_in ?l ?c ?k; (case l=>k_is); (case c=>k_is); (case k=>k_is)))
    (case n15=>k_is)
    (case a16=>k_is)
    (case l16=>(refine' L2.fun_in ?l ?c ?k; (case l=>k_is); (case c=>k_is); (case k=>k_is)))
    (case n16=>k_is)
    (case a17=>k_is)
    (case l17=>(refine' L2.fun_in ?l ?c ?k; (case l=>k_is); (case c=>k_is); (case k=>k_is)))
    (case a18=>k_is)
    (case l18=>(refine' L2.fun_in ?l ?c ?k; (case l=>k_is); (case c=>k_is); (case k=>k_is)))
    (case n18=>k_is)
    (case a19=>k_is)
    (case l19=>(refine' L2.fun_in ?l ?c ?k; (case l=>k_is); (case c=>k_is); (case k=>k_is)))
    (case n19=>k_is)
    (case a20=>k_is)
    (case l20=>(refine' L2.fun_in ?l ?c ?k; (case l=>k_is); (case c=>k_is); (case k=>k_is)))
    (case n20=>k_is)
    (case a21=>k_is)
    (case l21=>(refine' L2.fun_in ?l ?c ?k; (case l=>k_is); (case c=>k_is); (case k=>k_is)))
    (case a22=>k_is)
    (case l22=>(refine' L2.fun_in ?l ?c ?k; (case l=>k_is); (case c=>k_is); (case k=>k_is)))
    (case a23=>k_is)
    (case l23=>(refine' L2.fun_in ?l ?c ?k; (case l=>k_is); (case c=>k_is); (case k=>k_is)))
    (case a24=>k_is)
    (case l24=>(refine' L2.fun_in ?l ?c ?k; (case l=>k_is); (case c=>k_is); (case k=>k_is)))
    (case a25=>k_is)
    (case l25=>(refine' L2.fun_in ?l ?c ?k; (case l=>k_is); (case c=>k_is); (case k=>k_is)))
    (case a26=>k_is)
    (case l26=>(refine' L2.fun_in ?l ?c ?k; (case l=>k_is); (case c=>k_is); (case k=>k_is)))
    (case a27=>k_is)
    (case l27=>(refine' L2.fun_in ?l ?c ?k; (case l=>k_is); (case c=>k_is); (case k=>k_is)))
    (case a28=>k_is)
    (case l28=>(refine' L2.fun_in ?l ?c ?k; (case l=>k_is); (case c=>k_is); (case k=>k_is)))
    (case a29=>k_is)
    (case l29=>(refine' L2.fun_in ?l ?c ?k; (case l=>k_is); (case c=>k_is); (case k=>k_is)))
    (case a30=>k_is)
    (case l30=>(refine' L2.fun_in ?l ?c ?k; (case l=>k_is); (case c=>k_is); (case k=>k_is)))
    (case a31=>k_is)
    (case l31=>(refine' L2.fun_in ?l ?c ?k; (case l=>k_is); (case c=>k_is); (case k=>k_is)))
    (case a32=>k_is)
    (case l32=>(refine' L2.fun_in ?l ?c ?k; (case l=>k_is); (case c=>k_is); (case k=>k_is)))
    (case a33=>k_is)
    (case l33=>(refine' L2.fun_in ?l ?c ?k; (case l=>k_is); (case c=>k_is); (case k=>k_is)))
    (case a34=>k_is)
    (case l34=>(refine' L2.fun_in ?l ?c ?k; (case l=>k_is); (case c=>k_is); (case k=>k_is)))
    (case a35=>k_is)
    (case l35=>k_is)
    (case c35=>k_is)
    (case k35=>k_is)
    (case z1=>k_is)
    (case z2=>k_is)
    (case z3=>k_is)
    (case z4=>k_is)
    (case z5=>k_is)
    (case z6=>k_is)
    (case z7=>k_is)
    (case z8=>k_is)
    (case z9=>k_is)
    (case z10=>k_is)
    (case z11=>k_is)
    (case z12=>k_is)
    (case z13=>k_is)
    (case z14=>k_is)
    (case z15=>k_is)
    (case z16=>k_is)
    (case z17=>k_is)
    (case bp=>k_is)
    (case bh=>k_is)
    (case bo=>k_is)
    (case bs=>k_is)
    (case b_many=>k_is)
    (case b_scale=>k_is)
    (case b_cells=>k_is)
    (case b_outs=>k_is)
    (case b_ins=>k_is)
    (case bm=>k_is)
    (case bk=>k_is)
    (case s1=>k_is)
    (case s3=>k_is)
    (case s4=>k_keys)
    (case sa0=>k_is)
    (case sb0=>k_is)
    (case sa1=>k_is)
    (case sb1=>k_is)
    (case sa2=>k_is)
    (case sb2=>k_is)
    (case sa3=>k_is)
    (case sb3=>k_is)
    (case xmNoHouse=>k_is)
    (case xoNoHouse=>k_exc)
    (case xgaNoHouse=>k_is)
    (case xgnNoHouse=>k_is)
    (case xcaNoHouse=>k_is)
    (case xmoNoHouse=>k_is)
    (case xmbNoHouse=>k_is)
    (case cmNOUGHT=>k_is)
    (case clNOUGHT=>k_is)
  case C=>exact λ w t ht=>(List.mem_cons.mp ht).elim (λ z=>by subst z; exact ⟨by kernel_rfl,by kernel_rfl⟩) (λ z=>by rw [List.mem_singleton.mp z]; exact ⟨by kernel_rfl,by kernel_rfl⟩)
