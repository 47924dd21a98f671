import PyProof.Rows.All
import Wide.All
import OpenK.AllK
import Wide.FinOn
import Lean
import PyProof.EqAt
import PyProof.EqKinds
import PyProof.TupleCall
import PyProof.NeData
import PyProof.ZipIter
import PyProof.EnumMake
import PyProof.EnumFor
import KE.KMinKey
import KE.KUnpack
import KE.KNestM
import KE.KLam
import PySem.Challenge.RW_rimhouse_k07_papers_of_rims
set_option Elab.async false
set_option maxHeartbeats 16000000
set_option linter.all false
set_option maxRecDepth 100000
namespace L2
open PySem PySem.Spec PyProof.Rows
abbrev Key:=Sum Int Str
def b0N:Key->Value->Bool
 | .inl k,v=>Value.isInt k v
 | .inr x,v=>Value.isStrOf x v
def b4F (w:World):Key->Int
 | .inl k=>hashInt k
 | .inr x=>hashStr w x
theorem G1:∀ {k:Key} {v:Value},b0N k v=true->(∃ i t,k=Sum.inl i/\v=Value.int i t)\/(∃ x t,k=Sum.inr x/\v=Value.str x t)
 | .inl i,v,h=>by
  obtain ⟨t,e⟩:=Value.isInt_shape (k:=i) (v:=v) h;exact .inl ⟨i,t,rfl,e⟩
 | .inr x,v,h=>by
  obtain ⟨t,e⟩:=Value.isStrOf_shape (x:=x) (v:=v) h;exact .inr ⟨x,t,rfl,e⟩
theorem b1K (a b:Int):decide ((Sum.inl a:Key)=Sum.inl b)=(a==b):=by
 by_cases e:a=b
 ·subst e; simp
 ·have h:¬ (Sum.inl a:Key)=Sum.inl b:=λ q=>e (Sum.inl.inj q)
  rw [decide_eq_false h];exact (beq_eq_false_iff_ne.mpr e).symm
theorem b1b (a b:Str):decide ((Sum.inr a:Key)=Sum.inr b)=decide (a=b):=by
 by_cases e:a=b
 ·subst e; simp
 ·have h:¬ (Sum.inr a:Key)=Sum.inr b:=λ q=>e (Sum.inr.inj q)
  rw [decide_eq_false h,decide_eq_false e]
theorem b1V (a:Int) (b:Str):decide ((Sum.inl a:Key)=Sum.inr b)=false:=decide_eq_false (λ q=>nomatch q)
theorem b2l (a:Str) (b:Int):decide ((Sum.inr a:Key)=Sum.inl b)=false:=decide_eq_false (λ q=>nomatch q)
def a5N (prog:Program) (w:World):PySem.KeyKind prog w Key where
 is:=b0N
 hash:=b4F w
 inj:=λ v a b ha hb=>by
  rcases G1 ha with ⟨i,t,rfl,rfl⟩ | ⟨x,t,rfl,rfl⟩
  ·rcases G1 hb with ⟨j,u,rfl,e⟩ | ⟨y,u,rfl,e⟩
   ·injection e with e1 _; rw [e1]
   ·exact nomatch e
  ·rcases G1 hb with ⟨j,u,rfl,e⟩ | ⟨y,u,rfl,e⟩
   ·exact nomatch e
   ·injection e with e1 _; rw [e1]
 byValue:=λ k v h=>by
  rcases G1 h with ⟨i,t,rfl,rfl⟩ | ⟨x,t,rfl,rfl⟩ <;> rfl
 pyHash:=λ hv h=>by
  rcases G1 hv with ⟨i,t,rfl,rfl⟩ | ⟨x,t,rfl,rfl⟩
  ·exact wpAny_pyHash_int h
  ·exact wpAny_pyHash_str h
 eqBool:=λ hu hv h=>by
  rcases G1 hu with ⟨i,t,rfl,rfl⟩ | ⟨x,t,rfl,rfl⟩
  ·rcases G1 hv with ⟨j,u,rfl,rfl⟩ | ⟨y,u,rfl,rfl⟩
   ·rw [b1K] at h; exact wpAny_eqBool_int h
   ·rw [b1V] at h; exact SeqAt.EqAt.int_str i t y u _ _ _ _ h
  ·rcases G1 hv with ⟨j,u,rfl,rfl⟩ | ⟨y,u,rfl,rfl⟩
   ·rw [b2l] at h; exact SeqAt.EqAt.str_int x t j u _ _ _ _ h
   ·rw [b1b] at h; exact wpAny_eqBool_str h
 «strs»:=λ k x t v h=>by
  rcases G1 h with ⟨i,u,rfl,e⟩ | ⟨y,u,rfl,e⟩
  ·exact nomatch e
  ·injection e with e1 _
   subst e1
   cases v <;> rfl
inductive V where
 | non | bl (b:Bool) | int (i:Int) | str (x:Str) | byt (b:Array UInt8) | flt (b:UInt64) | ref (a:Addr) | ty (n:String)
 deriving DecidableEq
def RelV:V->Value->Prop
 | .non,u=>u=Value.none
 | .bl b,u=>u=Value.bool b
 | .int i,u=>∃ t,u=Value.int i t
 | .str x,u=>∃ t,u=Value.str x t
 | .byt b,u=>∃ t,u=Value.bytes b t
 | .flt b,u=>∃ t,u=Value.float b t
 | .ref a,u=>u=Value.ref a
 | .ty n,u=>u=Value.type n
abbrev Vals:List V->List Value->Prop:=Paired RelV
theorem Vals.length {xs:List V} {us:List Value} (r:Vals xs us):xs.length=us.length:=Paired.length r
theorem Vals.get:∀ {xs:List V} {us:List Value} {i:Nat} {x:V},Vals xs us->xs[i]?=some x->∃ u,us[i]?=some u/\RelV x u
 | _,_,_,_,.nil,e=>by simp at e
 | _,_,0,_,.cons r _,e=>by simp at e; subst e; exact ⟨_,rfl,r⟩
 | _,_,i+1,x,.cons _ t,e=>by
  obtain ⟨u,h1,h2⟩:=Vals.get (i:=i) (x:=x) t (by simpa using e);exact ⟨u,by simpa using h1,h2⟩
theorem Vals.set {x:V} {u:Value} (r:RelV x u):∀ {xs:List V} {us:List Value} (i:Nat),Vals xs us->Vals (xs.set i x) (us.set i u)
 | _,_,_,.nil=>.nil
 | _,_,0,.cons _ t=>.cons r t
 | _,_,i+1,.cons q t=>.cons q (Vals.set r i t)
theorem Vals.append:∀ {xs ys:List V} {us ws:List Value},Vals xs us->Vals ys ws->Vals (xs++ys) (us++ws)
 | _,_,_,_,.nil,s=>s
 | _,_,_,_,.cons r t,s=>.cons r (Vals.append t s)
theorem Vals.take:∀ {xs:List V} {us:List Value} (n:Nat),Vals xs us->Vals (xs.take n) (us.take n)
 | _,_,0,_=>.nil
 | _,_,_+1,.nil=>.nil
 | _,_,n+1,.cons r t=>.cons r (Vals.take n t)
theorem Vals.drop:∀ {xs:List V} {us:List Value} (n:Nat),Vals xs us->Vals (xs.drop n) (us.drop n)
 | _,_,0,r=>r
 | _,_,_+1,.nil=>.nil
 | _,_,n+1,.cons _ t=>Vals.drop n t
theorem Vals.none_of:∀ {xs:List V} {us:List Value} {i:Nat},Vals xs us->xs[i]?=none->us[i]?=none:=λ {xs us i} r e=>by
 have h1:=r.length;have h2:xs.length<=i:=List.getElem?_eq_none_iff.mp e;exact List.getElem?_eq_none_iff.mpr (by omega)
def RelO:Option V->Option Value->Prop
 | some v,some u=>RelV v u
 | none,none=>True
 | _,_=>False
def KV {κ:Type}:List (κ×V)->List (κ×Value)->Prop:=Paired λ (p:κ×V) (q:κ×Value)=>p.1=q.1/\RelV p.2 q.2
def kV:Key->V
 | .inl i=>.int i
 | .inr x=>.str x
inductive HO where
  | lst (xs:List V)
  | tup (xs:List V)
  | dK (kvs:List (Key×V)) | dT (kvs:List (List Key×V))
  | set (S:Int->Bool) (n:Nat)
  | ins (C dx:Addr) (fs:List (Str×V))
  | own (x:Addr)
  | xd (fs:List (Str×V))
  | met (f x:Addr)
  | rng (lo hi:Int)
  | frz (o:Obj) (u:HO)
  | tbl (ps:Array Value)
  | ext (φ:Heap->Prop)
abbrev Hp:=Addr->Option HO
def upd (H:Hp) (a:Addr) (o:HO):Hp:=λ b=>if b=a then some o else H b
theorem upd_same {H:Hp} {a:Addr} {o:HO}:upd H a o a=some o:=by unfold upd; rw [if_pos rfl]
theorem i5 {H:Hp} {a b:Addr} {o:HO} (h:b≠a):upd H a o b=H b:=by unfold upd; rw [if_neg h]
theorem a1q {H:Hp} {a:Addr} {o u:HO}:upd (upd H a o) a u=upd H a u:=by
 funext b; unfold upd; split <;> rfl
theorem a1L {H:Hp} {a b:Addr} {o u:HO} (h:H a=some o) (h':H b=some u) (d:o≠u):a≠b:=by
 intro e; subst e; rw [h] at h'; exact d (Option.some.inj h')
theorem i6 {H:Hp} {a b:Addr} {o:HO} (h:H a=some o) (h':H b=none):a≠b:=by
 intro e; subst e; rw [h] at h'; cases h'
section
variable (P:Program) (w:World)
def ObjOk (H:Hp) (h:Heap) (a:Addr):HO->Prop
 | .lst xs=>xs.length<=sizeLine/\∃ (its:List Value) (n:Nat),Vals xs its/\h.get? a=some { cls:=.type "list",data:=.seq its.toArray n }
 | .tup xs=>xs.length<=sizeLine/\∃ its:List Value,Vals xs its/\IsTup h a its.toArray
 | .dK kvs=>kvs.length<=sizeLine/\(a==sysModules)=false/\∃ vs,KV kvs vs/\h.DictOf (a5N P w) a vs
 | .dT kvs=>kvs.length<=sizeLine/\(a==sysModules)=false/\∃ xs:List (List Key×Addr×Value),
   Paired (λ (p:List Key×V) (q:List Key×Addr×Value)=>p.1=q.1/\H q.2.1=some (.tup (p.1.map kV))/\RelV p.2 q.2.2) kvs xs ∧
   ∃ o es ep,h.get? a=some o/\o.ExactDict/\o.data=.dict es ep/\es.toList=xs.map (entryOfKey (tupleKind (a5N P w)))/\(xs.map (·.1)).Nodup
 | .set S n=>h.SetOf (intKind P w) a S n
 | .ins C dx fs=>H dx=some (.own a)/\fs.length<=1000/\dx≠a/\h.get? a=some (W.instObj C dx) ∧
   ∃ mA,h.Ns1 dx mA/\(∀ f,RelO (fs.lookup f) (mA f))/\PySem.Within mA (fs.map (·.1))
 | .own _=>∃ o,h.get? a=some o
 | .xd fs=>∃ mA,h.Ns1 a mA/\∀ f,RelO (fs.lookup f) (mA f)
 | .rng lo hi=>∃ t u v,h.get? a=some { cls:=.type "range",data:=.fields #[.int lo t,.int hi u,.int 1 v] }
 | .frz o u=>h.get? a=some o/\ObjOk H h a u
 | .tbl ps=>h.get? a=some { cls:=.none,data:=.fields ps }
 | .met f x=>h.get? a=some (W.methodObj (.ref f) (.ref x))
 | .ext φ=>φ h/\(∃ o,h.get? a=some o)/\∀ h1 h2:Heap,φ h1->(∀ o,h1.get? a=some o->h2.get? a=some o)->φ h2
def HOk (H:Hp) (h:Heap):Prop:=∀ a o,H a=some o->ObjOk P w H h a o
end
section
variable {P:Program} {w:World} {H H':Hp} {h h':Heap} {a:Addr} {o:HO}
theorem ObjOk.lt (x:ObjOk P w H h a o):a<h.objs.size:=by
 cases o with
 | lst xs=>obtain ⟨_,_,_,_,e⟩:=x; exact Heap.lt_size e
 | tup xs=>obtain ⟨_,_,_,p⟩:=x; exact p.lt
 | dK kvs=>obtain ⟨_,_,_,_,o,_,_,e,_⟩:=x; exact Heap.lt_size e
 | dT kvs=>obtain ⟨_,_,_,_,o,_,_,e,_⟩:=x; exact Heap.lt_size e
 | set S n=>obtain ⟨o,_,_,_,e,_⟩:=x; exact Heap.lt_size e
 | ins C dx fs=>obtain ⟨_,_,_,e,_⟩:=x; exact Heap.lt_size e
 | own y=>obtain ⟨_,e⟩:=x; exact Heap.lt_size e
 | xd fs=>obtain ⟨_,⟨_,_,_,e,_⟩,_⟩:=x; exact Heap.lt_size e
 | rng lo hi=>obtain ⟨_,_,_,e⟩:=x; exact Heap.lt_size e
 | frz ob u=>obtain ⟨e,_⟩:=x; exact Heap.lt_size e
 | tbl ps=>exact Heap.lt_size (show h.get? a=some _ from x)
 | met f y=>exact Heap.lt_size (show h.get? a=some _ from x)
 | ext φ=>obtain ⟨_,⟨_,e⟩,_⟩:=x; exact Heap.lt_size e
theorem Paired.mapP {α β:Type} {F G:α->β->Prop}:∀ {l₁:List α} {l₂:List β},Paired F l₁ l₂->(∀ a b,F a b->G a b)->Paired G l₁ l₂
 | _,_,.nil,_=>.nil
 | _,_,.cons r t,f=>.cons (f _ _ r) (Paired.mapP t f)
theorem Paired.imp' {α β:Type} {F G:α->β->Prop} (f:∀ a b,F a b->G a b) {l₁:List α} {l₂:List β} (r:Paired F l₁ l₂):Paired G l₁ l₂:=Paired.mapP r f
theorem ObjOk.stay (x:ObjOk P w H h a o) (k:∀ b u,(b=a\/H b=some (.own a))->h.get? b=some u->h'.get? b=some u)
  (ho:∀ b,H b=some (.own a)->H' b=some (.own a)) (ht:∀ b xs,H b=some (.tup xs)->H' b=some (.tup xs)):ObjOk P w H' h' a o:=by
 induction o with
 | lst xs=>obtain ⟨z,its,n,r,e⟩:=x; exact ⟨z,its,n,r,k _ _ (.inl rfl) e⟩
 | tup xs=>obtain ⟨z,its,r,ob,e,c⟩:=x; exact ⟨z,its,r,ob,k _ _ (.inl rfl) e,c⟩
 | dK kvs=>obtain ⟨z,y,vs,r,ob,es,ep,e,c⟩:=x; exact ⟨z,y,vs,r,ob,es,ep,k _ _ (.inl rfl) e,c⟩
 | dT kvs =>
  obtain ⟨z,y,xs,r,ob,es,ep,e,c⟩:=x;exact ⟨z,y,xs,Paired.mapP r λ p q z=>⟨z.1,ht _ _ z.2.1,z.2.2⟩,ob,es,ep,k _ _ (.inl rfl) e,c⟩
 | set S n=>obtain ⟨ob,es,ep,t,e,c⟩:=x; exact ⟨ob,es,ep,t,k _ _ (.inl rfl) e,c⟩
 | ins C dx fs =>
  obtain ⟨d,z,ne,e,mA,⟨od,es,ep,e2,c⟩,r⟩:=x;exact ⟨ho _ d,z,ne,k _ _ (.inl rfl) e,mA,⟨od,es,ep,k _ _ (.inr d) e2,c⟩,r⟩
 | own y=>obtain ⟨ob,e⟩:=x; exact ⟨ob,k _ _ (.inl rfl) e⟩
 | xd fs=>obtain ⟨mA,⟨od,es,ep,e,c⟩,r⟩:=x; exact ⟨mA,⟨od,es,ep,k _ _ (.inl rfl) e,c⟩,r⟩
 | rng lo hi=>obtain ⟨t,u,v,e⟩:=x; exact ⟨t,u,v,k _ _ (.inl rfl) e⟩
 | frz ob u ih=>obtain ⟨e,q⟩:=x; exact ⟨k _ _ (.inl rfl) e,ih q⟩
 | tbl ps =>
  have e:h.get? a=some { cls:=.none,data:=.fields ps }:=x
  show h'.get? a=some { cls:=.none,data:=.fields ps }
  exact k a _ (.inl rfl) e
 | met f y =>
  have e:h.get? a=some (W.methodObj (.ref f) (.ref y)):=x
  show h'.get? a=some (W.methodObj (.ref f) (.ref y))
  exact k a _ (.inl rfl) e
 | ext φ=>obtain ⟨p,⟨o,e⟩,st⟩:=x; exact ⟨st _ _ p λ o q=>k _ _ (.inl rfl) q,⟨o,k _ _ (.inl rfl) e⟩,st⟩
theorem HOk.lt (x:HOk P w H h) (e:H a=some o):a<h.objs.size:=(x a o e).lt
theorem HOk.fresh (x:HOk P w H h) (e:h.objs.size<=a):H a=none:=by
 cases q:H a with
 | none=>rfl
 | some u=>exact absurd (Nat.lt_of_lt_of_le (x.lt q) e) (Nat.lt_irrefl _)
theorem HOk.kept (x:HOk P w H h) (k:∀ b u,h.get? b=some u->h'.get? b=some u):HOk P w H h':=λ a o e =>
 (x a o e).stay (λ b u _ q=>k b u q) (λ _ q=>q) λ _ _ q=>q
theorem HOk.laid (x:HOk P w H h) (k:∀ b u,h.get? b=some u->h'.get? b=some u) (hp:h.objs.size<=a) (new:ObjOk P w (upd H a o) h' a o):HOk P w (upd H a o) h':=λ b u e=>by
 have hn:=x.fresh hp
 by_cases hb:b=a
 ·subst hb; rw [upd_same] at e; cases e; exact new
 ·rw [i5 hb] at e
  exact (x b u e).stay (λ c v _ q=>k c v q) (λ c q=>by rw [i5 (i6 q hn)]; exact q) λ c xs q=>by rw [i5 (i6 q hn)]; exact q
end
def Rd (H:Hp) (a:Addr) (u:HO):Prop:=H a=some u\/∃ o,H a=some (.frz o u)
theorem Rd.ok {P:Program} {w:World} {H:Hp} {h:Heap} {a:Addr} {u:HO} (r:Rd H a u) (x:HOk P w H h):ObjOk P w H h a u:=by
 rcases r with r | ⟨o,r⟩
 ·exact x a u r
 ·obtain ⟨_,q⟩:=x a _ r
  exact q
def Mut:Option HO->Prop
 | some (.lst _)=>True
 | some (.dK _)=>True
 | some (.dT _)=>True
 | some (.set _ _)=>True
 | some (.ins _ _ _)=>True
 | some (.ext _)=>True
 | _=>False
section
variable {P:Program} {w:World} {H:Hp} {h h':Heap} {x e:Addr} {o':HO}
theorem HOk.write (ok:HOk P w H h) (mu:Mut (H x)) (he:e=x\/H e=some (.own x)) (k:∀ b u,b≠e->h.get? b=some u->h'.get? b=some u) (heo:∃ u,h'.get? e=some u)
  (new:ObjOk P w (upd H x o') h' x o'):HOk P w (upd H x o') h':=λ b u q=>by
 have nown:∀ c y,H c=some (.own y)->c≠x:=λ c y r z=>by subst z; rw [r] at mu; exact mu
 have ntup:∀ c xs,H c=some (.tup xs)->c≠x:=λ c xs r z=>by subst z; rw [r] at mu; exact mu
 by_cases hb:b=x
 ·subst hb; rw [upd_same] at q; cases q; exact new
 ·rw [i5 hb] at q
  by_cases hbe:b=e
  ·have q':H b=some (.own x):=by
    rcases he with z | z
    ·exact absurd (hbe.trans z) hb
    ·rw [hbe]; exact z
   rw [q] at q'; cases q';obtain ⟨v,hv⟩:=heo;exact ⟨v,by rw [hbe]; exact hv⟩
  ·refine (ok b u q).stay (λ c v hc r=>k c v ?_ r) (λ c r=>by rw [i5 (nown c b r)]; exact r) λ c xs r=>by rw [i5 (ntup c xs r)]; exact r
   rcases hc with rfl | hc
   ·exact hbe
   ·rintro rfl
    rcases he with z | z
    ·exact nown c b hc z
    ·rw [hc] at z; cases z; exact hb rfl
end
structure Un (fs ex:List Addr) (H H':Hp) (h h':Heap):Prop where
 keep:∀ b o,h.get? b=some o->H b=none->b ∉ fs->b ∉ ex->h'.get? b=some o
 slot:∀ b o,h.get? b=some o->H b=none->b∈fs->b ∉ ex->∃ sl,h'.get? b=some { o with slots:=sl }
 free:∀ b o,h.get? b=some o->H b=none->b ∉ ex->H' b=none
 there:∀ b o,h.get? b=some o->b ∉ ex->∃ o',h'.get? b=some o'
 tups:∀ b xs,H b=some (.tup xs)->H' b=some (.tup xs)
 frzs:∀ b o u,H b=some (.frz o u)->H' b=some (.frz o u)
 tbls:∀ b ps,H b=some (.tbl ps)->∃ more,H' b=some (.tbl (ps++more))
section
variable {fs fs' ex ex':List Addr} {H H1 H2:Hp} {h h1 h2 h':Heap} {a x e:Addr} {o:HO}
theorem Un.any (u:Un fs ex H H1 h h1) {b:Addr} {ob:Obj} (q:h.get? b=some ob) (n:H b=none) (hx:b ∉ ex):∃ sl,h1.get? b=some { ob with slots:=sl }:=by
 by_cases hb:b∈fs
 ·exact u.slot b ob q n hb hx
 ·exact ⟨ob.slots,u.keep b ob q n hb hx⟩
theorem Un.kept (k:∀ b u,h.get? b=some u->h'.get? b=some u):Un fs ex H H h h' :=
 ⟨λ b ob q _ _ _=>k b ob q,λ b ob q _ _ _=>⟨ob.slots,k b ob q⟩,λ _ _ _ n _=>n,λ b ob q _=>⟨ob,k b ob q⟩,λ _ _ q=>q,λ _ _ _ q=>q,λ _ ps q=>⟨#[],by rw [q]; simp⟩⟩
theorem Un.refl:Un fs ex H H h h:=Un.kept λ _ _ q=>q
theorem Un.laid (k:∀ b u,h.get? b=some u->h'.get? b=some u) (hp:h.objs.size<=a) (hn:H a=none):Un fs ex H (upd H a o) h h' where
 keep:=λ b u q _ _ _=>k b u q
 slot:=λ b u q _ _ _=>⟨u.slots,k b u q⟩
 free:=λ b u q n _=>by rw [i5 (Nat.ne_of_lt (Nat.lt_of_lt_of_le (Heap.lt_size q) hp))]; exact n
 there:=λ b u q _=>⟨u,k b u q⟩
 tups:=λ b xs q=>by rw [i5 (i6 q hn)]; exact q
 frzs:=λ b u xs q=>by rw [i5 (i6 q hn)]; exact q
 tbls:=λ b ps q=>⟨#[],by rw [i5 (i6 q hn),q]; simp⟩
theorem Un.write (mu:Mut (H x)) (he:e=x\/H e=some (.own x)) (k:∀ b u,b≠e->h.get? b=some u->h'.get? b=some u) (heo:∃ u,h'.get? e=some u):Un fs ex H (upd H x o) h h':=by
 have hx:∀ b,H b=none->b≠x:=λ b n z=>by subst z; rw [n] at mu; exact mu
 have hb:∀ b,H b=none->b≠e:=λ b n z=>by
  subst z;rcases he with r | r
  ·exact hx b n r
  ·rw [n] at r; cases r
 have hm:∀ b u,H b=some u->¬ Mut (some u)->b≠x:=λ b u q nm z=>by subst z; rw [q] at mu; exact nm mu
 refine ⟨λ b u q n _ _=>k b u (hb b n) q,λ b u q n _ _=>⟨u.slots,k b u (hb b n) q⟩,λ b u q n _=>by rw [i5 (hx b n)]; exact n,λ b u q _=>?_,
  λ b xs q=>by rw [i5 (hm b _ q λ z=>z)]; exact q,λ b u xs q=>by rw [i5 (hm b _ q λ z=>z)]; exact q,λ b ps q=>⟨#[],by rw [i5 (hm b _ q λ z=>z),q]; simp⟩⟩
 by_cases hbe:b=e
 ·subst hbe; exact heo
 ·exact ⟨u,k b u hbe q⟩
end
def trk (h:Heap) (H:Hp):List Addr:=(List.range h.objs.size).filter λ a=>(H a).isSome
def a2p (h:Heap) (H:Hp):Heap:=W.hideAll h (trk h H)
theorem a6N (h:Heap) (H:Hp):(a2p h H).objs.size=h.objs.size:=W.hideAll_size _ _
theorem a8F {h:Heap} {H:Hp} {b:Addr} {o:Obj} (e:h.get? b=some o) (n:H b=none):(a2p h H).get? b=some o :=
 W.hideAll_get _ e λ hm=>by
  have q:(H b).isSome=true:=(List.mem_filter.mp hm).2;rw [n] at q; simp at q
theorem a9u {h:Heap} {H:Hp} {b:Addr} {o:Obj} (e:(a2p h H).get? b=some o):h.get? b=some o/\H b=none:=by
 have e':h.get? b=some o:=W.of_hideAll (trk h H) e;refine ⟨e',?_⟩
 cases q:H b with
 | none=>rfl
 | some x =>
  have hm:b∈trk h H:=List.mem_filter.mpr ⟨List.mem_range.mpr (Heap.lt_size e'),by simp [q]⟩;have z:(a2p h H).get? b=none:=W.hideAll_none (trk h H) hm;rw [z] at e; cases e
def b0g (g h:Heap) (L:Addr):List (Addr×Obj):=(List.range h.objs.size).filterMap λ a=>if a=L\/(g.get? a).isSome=true then none else (h.get? a).map λ o=>(a,o)
def rest (g h:Heap) (L d:Addr):List (Addr×Obj):=(b0g g h L).filter λ p=>decide (p.1≠d)
structure Mod (K:W.Frag) (mg:Str->Option Value) (base:Heap):Prop where
 kin:K.In base
 glob:base.Ns mainGlobals mg
 blt:∃ mb,base.Ns builtinsNs mb/\∀ x:Str,x≠"__name__"->mb x=bootBuiltins x
 nolimit:base.NoLimit
structure Cx where
 prog:Program
 w:World
 K:W.Frag
 mg:Str->Option Value
 base:Heap
 A:Around
 N:List Str
 s₀:Shared
 H₀:Hp
 env:Env
 outer:List Env
 stack:List Env
 ex:List Addr
 fn:Str->Bool
 calm:Bool
 pn:List (Addr×Obj)
 xe:Value->Shared->Prop
def frs (l:List Env):List Addr:=l.filterMap (·.frame)
abbrev Cx.fs (X:Cx):List Addr:=frs X.outer
def Vis (sc:Scope) (x:Str):Prop:=sc.names.lookup x=some .local\/sc.names.lookup x=some .cell\/sc.names.lookup x=some .free
def Loc (sc:Scope) (x:Str):Prop:=sc.names.lookup x=some .local\/sc.names.lookup x=some .cell
def b4X (env:Env) (h:Heap) (m:Str->Option Value) (x:Str) (u:Value):Prop :=
 (env.kindOf x=some .local/\m x=some u)\/((env.kindOf x=some .cell\/env.kindOf x=some .free)/\∃ c,env.cells.lookup x=some c/\h.IsCell c (some u))
structure Cx.Ok (X:Cx):Prop where
 mod:Mod X.K X.mg X.base
 kind:X.env.scope.kind=.function
 glob:X.env.globals=mainGlobals
 blt:X.env.builtins=builtinsNs
 above:X.s₀.heap.objs.size<=X.env.locals
 inj:∀ x y c,X.env.cells.lookup x=some c->X.env.cells.lookup y=some c->x=y
 has:∀ x,(X.env.kindOf x=some .cell\/X.env.kindOf x=some .free)->∃ c,X.env.cells.lookup x=some c
 cab:∀ x c,X.fn x=true->X.env.cells.lookup x=some c->X.s₀.heap.objs.size<=c
 hd:X.calm=true->X.A.handled=none
 frames:X.A.frames=some X.stack
 stk:X.stack=X.outer\/(X.stack=X.env::X.outer/\X.env.frame=some X.env.locals)
 exf:∀ b∈X.ex,b≠X.env.locals/\∀ x c,X.env.cells.lookup x=some c->c≠b
 bs:∀ b o,X.base.get? b=some o->X.s₀.heap.get? b=some o/\X.H₀ b=none
 bsz:X.base.objs.size<=X.s₀.heap.objs.size
 noex:∀ b o,X.base.get? b=some o->b ∉ X.ex
 exfs:∀ b∈X.ex,b ∉ X.fs
 funs:X.s₀.heap.FunFrames X.base X.outer
 frf:∀ b∈X.fs,X.H₀ b=none
structure Inv (X:Cx) (pins:List (Addr×Obj)) (σ:List (Option V)) (H:Hp) (s:Shared):Prop where
 ok:X.Ok
 os:s.os=X.s₀.os
 bare:AllBare s.gens
 base:Un X.fs X.ex X.H₀ H X.s₀.heap s.heap
 loc:∃ m,s.heap.Ns X.env.locals m/\∀ (i:Nat) (x:Str) (v:V),X.N[i]?=some x->σ[i]?=some (some v)->Vis X.env.scope x->∃ u,RelV v u/\b4X X.env s.heap m x u
 cell:∀ x c,X.env.cells.lookup x=some c->∃ v,s.heap.IsCell c v
 free:H X.env.locals=none
 freeC:∀ x c,X.env.cells.lookup x=some c->H c=none
 pin:∀ p∈X.pn++pins,s.heap.get? p.1=some p.2/\H p.1=none/\p.1≠X.env.locals/\p.1 ∉ X.fs/\∀ v,p.2.data≠.cell v
 hok:HOk X.prog X.w H s.heap
 len:σ.length=X.N.length
section
variable {X:Cx} {pins:List (Addr×Obj)} {σ:List (Option V)} {H H':Hp} {s:Shared} {h':Heap}
theorem Cx.Ok.nofr (ok:X.Ok) {b:Addr} {o:Obj} (e:X.base.get? b=some o):b ∉ X.fs:=λ hb=>by
 have:=(ok.funs.mem hb).1;rw [e] at this; cases this
theorem Inv.bs (I:Inv X pins σ H s):∀ b o,X.base.get? b=some o->s.heap.get? b=some o/\H b=none:=λ b o e =>
 ⟨I.base.keep b o (I.ok.bs b o e).1 (I.ok.bs b o e).2 (I.ok.nofr e) (I.ok.noex b o e),I.base.free b o (I.ok.bs b o e).1 (I.ok.bs b o e).2 (I.ok.noex b o e)⟩
theorem Inv.bk (I:Inv X pins σ H s):∀ b o,X.base.get? b=some o->s.heap.get? b=some o:=λ b o e=>(I.bs b o e).1
theorem Inv.mod (I:Inv X pins σ H s):Mod X.K X.mg X.base:=I.ok.mod
theorem Inv.kIn (I:Inv X pins σ H s):X.K.In s.heap:=I.ok.mod.kin.keeps I.bk
theorem Inv.nolimit (I:Inv X pins σ H s):s.heap.NoLimit:=I.ok.mod.nolimit.keeps I.bk
theorem Inv.fr (I:Inv X pins σ H s):∃ m,Fr X.base X.env.locals s.heap m :=
 let ⟨m,hn,_⟩:=I.loc
 ⟨m,hn,I.bk,Nat.le_trans I.ok.bsz I.ok.above⟩
theorem Inv.lt (I:Inv X pins σ H s):X.env.locals<s.heap.objs.size:=let ⟨_,hn,_⟩:=I.loc; hn.lt
theorem Inv.sz (I:Inv X pins σ H s):X.s₀.heap.objs.size<=s.heap.objs.size:=Nat.le_trans I.ok.above (Nat.le_of_lt I.lt)
theorem Inv.nofs (I:Inv X pins σ H s) {a:Addr} (h:s.heap.objs.size<=a):a ∉ X.fs:=λ hb=>by
 obtain ⟨_,o,ho,_⟩:=I.ok.funs.mem hb;exact absurd (Nat.lt_of_lt_of_le (Heap.lt_size ho) (Nat.le_trans I.sz h)) (Nat.lt_irrefl _)
theorem Inv.cne (I:Inv X pins σ H s):∀ x c,X.env.cells.lookup x=some c->c≠X.env.locals:=λ x c e z=>by
 obtain ⟨v,o,ho,hd⟩:=I.cell x c e;obtain ⟨m,⟨o',es,ep,ho',hd',_⟩,_⟩:=I.loc;rw [z,ho'] at ho; cases ho; rw [hd'] at hd; cases hd
theorem Inv.funs (I:Inv X pins σ H s):s.heap.FunFrames X.base X.outer:=by
 have all:∀ (l:List Env),(∀ b∈frs l,b∈X.fs)->X.s₀.heap.FunFrames X.base l->s.heap.FunFrames X.base l:=by
  intro l
  induction l with
  | nil=>intro _ _; trivial
  | cons env r ih =>
   intro hs hl;obtain ⟨hk,⟨L,o,hf,hn,ho,hd⟩,hr⟩:=hl;have hL:L∈X.fs:=hs L (by unfold frs; rw [List.filterMap_cons,hf]; exact List.mem_cons_self);obtain ⟨sl,e⟩:=I.base.slot L o ho (I.ok.frf L hL) hL λ z=>I.ok.exfs L z hL;exact ⟨hk,⟨L,_,hf,hn,e,hd⟩,ih (λ b hb=>hs b (by unfold frs; rw [List.filterMap_cons,hf]; exact List.mem_cons_of_mem _ hb)) hr⟩
 exact all X.outer (λ _ hb=>hb) I.ok.funs
theorem Inv.stack (I:Inv X pins σ H s):s.heap.FunFrames X.base X.stack:=by
 rcases I.ok.stk with e | ⟨e,hf⟩
 ·rw [e]; exact I.funs
 ·rw [e]
  obtain ⟨m,hn,_⟩:=I.loc;refine .cons (by rw [I.ok.kind]; decide) hf hn ?_ I.funs;exact Heap.get?_none_of_le (Nat.le_trans I.ok.bsz I.ok.above)
theorem Inv.stkSub (I:Inv X pins σ H s):∀ b∈frs X.stack,b∈X.env.locals::X.fs:=λ b hb=>by
 rcases I.ok.stk with e | ⟨e,hf⟩
 ·rw [e] at hb; exact List.mem_cons_of_mem _ hb
 ·rw [e] at hb
  unfold frs at hb;rw [List.filterMap_cons,hf] at hb;exact hb
theorem Inv.stkFree (I:Inv X pins σ H s):∀ b∈frs X.stack,H b=none:=λ b hb=>by
 rcases List.mem_cons.mp (I.stkSub b hb) with e | hb
 ·rw [e]; exact I.free
 ·obtain ⟨_,o,ho,_⟩:=I.ok.funs.mem hb
  exact I.base.free b o ho (I.ok.frf b hb) λ z=>I.ok.exfs b z hb
theorem Inv.step {g':Array GenState} {t':Nat} {d':Drawn} {ch:List Addr} (I:Inv X pins σ H s)
  (hch:∀ b∈ch,(b∈X.ex\/X.s₀.heap.objs.size<=b)/\b≠X.env.locals/\(∀ x c,X.env.cells.lookup x=some c->c≠b)/\∀ p∈X.pn++pins,p.1≠b)
  (keep:∀ b o,b≠X.env.locals->b ∉ X.fs->b ∉ ch->s.heap.get? b=some o->H b=none->h'.get? b=some o)
  (slot:∀ b o,b≠X.env.locals->b∈X.fs->b ∉ ch->s.heap.get? b=some o->H b=none->∃ sl,h'.get? b=some { o with slots:=sl }) (free:∀ b o,b ∉ ch->s.heap.get? b=some o->H b=none->H' b=none)
  (there:∀ b o,b ∉ ch->s.heap.get? b=some o->∃ o',h'.get? b=some o')
  (tups:∀ b xs,H b=some (.tup xs)->H' b=some (.tup xs)) (frzs:∀ b o u,H b=some (.frz o u)->H' b=some (.frz o u)) (tbls:∀ b ps,H b=some (.tbl ps)->∃ more,H' b=some (.tbl (ps++more)))
  (ns:∀ m,s.heap.Ns X.env.locals m->h'.Ns X.env.locals m) (hok:HOk X.prog X.w H' h') (hg:AllBare g') :
  Inv X pins σ H' { s with heap:=h',gens:=g',drawn:=d',toks:=t' }:=by
 have neL:∀ b o,X.s₀.heap.get? b=some o->b≠X.env.locals:=λ b o e=>Nat.ne_of_lt (Nat.lt_of_lt_of_le (Heap.lt_size e) I.ok.above);have neC:∀ b o,X.s₀.heap.get? b=some o->b ∉ X.ex->b ∉ ch:=λ b o e hx hb=>by
  rcases (hch b hb).1 with z | z
  ·exact hx z
  ·exact absurd (Nat.lt_of_lt_of_le (Heap.lt_size e) z) (Nat.lt_irrefl _)
 have cellK:∀ x c,X.env.cells.lookup x=some c->∀ v,s.heap.IsCell c v->h'.IsCell c v:=λ x c e v ⟨o,ho,hd⟩=>by
  have nch:c ∉ ch:=λ z=>(hch c z).2.2.1 x c e rfl
  by_cases hc:c∈X.fs
  ·obtain ⟨sl,q⟩:=slot c o (I.cne x c e) hc nch ho (I.freeC x c e)
   exact ⟨_,q,hd⟩
  ·exact ⟨o,keep c o (I.cne x c e) hc nch ho (I.freeC x c e),hd⟩
 refine ⟨I.ok,I.os,hg,⟨λ b o e n hb hx=>?_,λ b o e n hb hx=>?_,λ b o e n hx=>?_,λ b o e hx=>?_,λ b xs e=>tups b xs (I.base.tups b xs e),λ b o xs e=>frzs b o xs (I.base.frzs b o xs e),λ b ps e=>?_⟩,?_,λ x c e=>?_,?_,λ x c e=>?_,λ p hp=>?_,hok,I.len⟩
 ·exact keep b o (neL b o e) hb (neC b o e hx) (I.base.keep b o e n hb hx) (I.base.free b o e n hx)
 ·obtain ⟨sl,e1⟩:=I.base.slot b o e n hb hx
  obtain ⟨sl',e2⟩:=slot b _ (neL b o e) hb (neC b o e hx) e1 (I.base.free b o e n hx);exact ⟨sl',e2⟩
 ·obtain ⟨o',e1⟩:=I.base.there b o e hx
  exact free b o' (neC b o e hx) e1 (I.base.free b o e n hx)
 ·obtain ⟨o',e1⟩:=I.base.there b o e hx
  exact there b o' (neC b o e hx) e1
 ·obtain ⟨m1,e1⟩:=I.base.tbls b ps e
  obtain ⟨m2,e2⟩:=tbls b _ e1;exact ⟨m1++m2,by rw [e2,Array.append_assoc]⟩
 ·obtain ⟨m,hn,hl⟩:=I.loc
  refine ⟨m,ns m hn,λ i x v e1 e2 e3=>?_⟩;obtain ⟨u,r,l⟩:=hl i x v e1 e2 e3;refine ⟨u,r,?_⟩;rcases l with l | ⟨k,c,e,z⟩
  ·exact .inl l
  ·exact .inr ⟨k,c,e,cellK x c e _ z⟩
 ·obtain ⟨v,z⟩:=I.cell x c e
  exact ⟨v,cellK x c e v z⟩
 ·obtain ⟨m,⟨o,_,_,ho,_⟩,_⟩:=I.loc
  exact free _ o (λ z=>(hch _ z).2.1 rfl) ho I.free
 ·obtain ⟨v,o,ho,hd⟩:=I.cell x c e
  exact free c o (λ z=>(hch c z).2.2.1 x c e rfl) ho (I.freeC x c e)
 ·obtain ⟨e,n,ne,nf,d⟩:=I.pin p hp
  have nch:p.1 ∉ ch:=λ z=>(hch p.1 z).2.2.2 p hp rfl;exact ⟨keep p.1 p.2 ne nf nch e n,free p.1 p.2 nch e n,ne,nf,d⟩
theorem Inv.un {t':Nat} (I:Inv X pins σ H s) (u:Un X.fs [] H H' s.heap h') (hok:HOk X.prog X.w H' h'):Inv X pins σ H' { s with heap:=h',toks:=t' }:=by
 obtain ⟨m,⟨o,es,ep,ho,r⟩,_⟩:=id I.loc;obtain ⟨sl,hL⟩:=u.any ho I.free (by simp);exact I.step (g':=s.gens) (d':=s.drawn) (ch:=[]) (λ _ z=>nomatch z) (λ b o _ hb _ e n=>u.keep b o e n hb (by simp)) (λ b o _ hb _ e n=>u.slot b o e n hb (by simp)) (λ b o _ e n=>u.free b o e n (by simp)) (λ b o _ e=>u.there b o e (by simp)) u.tups u.frzs u.tbls (λ m' hm=>by
  obtain ⟨o',es',ep',ho',r'⟩:=hm;rw [ho] at ho'; cases ho';exact ⟨_,es',ep',hL,r'⟩) hok I.bare
theorem Inv.call {g':Array GenState} {t':Nat} {d':Drawn} {ch:List Addr} (I:Inv X pins σ H s) (u:Un (frs X.stack) ch H H' s.heap h') (hok:HOk X.prog X.w H' h') (hg:AllBare g')
  (hch:∀ b∈ch,(b∈X.ex\/X.s₀.heap.objs.size<=b)/\b≠X.env.locals/\(∀ x c,X.env.cells.lookup x=some c->c≠b)/\∀ p∈X.pn++pins,p.1≠b) :
  Inv X pins σ H' { s with heap:=h',gens:=g',drawn:=d',toks:=t' }:=by
 obtain ⟨m,⟨o,es,ep,ho,r⟩,_⟩:=id I.loc;obtain ⟨sl,hL⟩:=u.any ho I.free λ z=>(hch _ z).2.1 rfl;exact I.step (ch:=ch) hch (λ b o hL hb hc e n=>u.keep b o e n (λ z=>(List.mem_cons.mp (I.stkSub b z)).elim hL hb) hc) (λ b o _ _ hc e n=>u.any e n hc) (λ b o hc e n=>u.free b o e n hc) (λ b o hc e=>u.there b o e hc) u.tups u.frzs u.tbls (λ m' hm=>by
  obtain ⟨o',es',ep',ho',r'⟩:=hm;rw [ho] at ho'; cases ho';exact ⟨_,es',ep',hL,r'⟩) hok hg
theorem Inv.turned {t':Nat} {it:Addr} (I:Inv X pins σ H s) (k:∀ b o,b≠it->s.heap.get? b=some o->h'.get? b=some o) (hn:H it=none) (hL:it≠X.env.locals)
  (h1:it∈X.ex\/X.s₀.heap.objs.size<=it) (h2:∀ x c,X.env.cells.lookup x=some c->c≠it) (h3:∀ p∈X.pn++pins,p.1≠it):Inv X pins σ H { s with heap:=h',toks:=t' }:=by
 have nit:∀ b u,H b=some u->b≠it:=λ b u e z=>by rw [z,hn] at e; cases e
 refine I.step (g':=s.gens) (d':=s.drawn) (ch:=[it]) (λ b hb=>?_) (λ b o _ _ hc e _=>k b o (λ z=>hc (by simp [z])) e) (λ b o _ _ hc e _=>⟨o.slots,k b o (λ z=>hc (by simp [z])) e⟩) (λ _ _ _ _ n=>n)
  (λ b o hc e=>⟨o,k b o (λ z=>hc (by simp [z])) e⟩) (λ _ _ e=>e) (λ _ _ _ e=>e) (λ b ps e=>⟨#[],by rw [e]; simp⟩) (λ m hm=>?_) (λ b u e=>?_) I.bare
 ·have e:b=it:=by simpa using hb
  subst e;exact ⟨h1,hL,h2,h3⟩
 ·obtain ⟨o,es,ep,ho,r⟩:=hm
  exact ⟨o,es,ep,k _ o (Ne.symm hL) ho,r⟩
 ·refine (I.hok b u e).stay (λ c v hc q=>k c v ?_ q) (λ _ q=>q) λ _ _ q=>q
  rcases hc with z | z
  ·rw [z]; exact nit b u e
  ·exact nit c _ z
theorem Inv.tok (I:Inv X pins σ H s) (t:Nat):Inv X pins σ H { s with toks:=t }:=I.un (h':=s.heap) (t':=t) Un.refl I.hok
theorem Inv.kept {t':Nat} (I:Inv X pins σ H s) (k:∀ b u,s.heap.get? b=some u->h'.get? b=some u):Inv X pins σ H { s with heap:=h',toks:=t' }:=I.un (Un.kept k) (I.hok.kept k)
theorem Inv.laid {a:Addr} {o:HO} {t':Nat} (I:Inv X pins σ H s) (k:∀ b u,s.heap.get? b=some u->h'.get? b=some u) (hp:s.heap.objs.size<=a) (new:ObjOk X.prog X.w (upd H a o) h' a o) :
  Inv X pins σ (upd H a o) { s with heap:=h',toks:=t' }:=I.un (Un.laid k hp (I.hok.fresh hp)) (I.hok.laid k hp new)
theorem Inv.write {x e:Addr} {o:HO} {t':Nat} (I:Inv X pins σ H s) (mu:Mut (H x)) (he:e=x\/H e=some (.own x)) (k:∀ b u,b≠e->s.heap.get? b=some u->h'.get? b=some u) (heo:∃ u,h'.get? e=some u)
  (new:ObjOk X.prog X.w (upd H x o) h' x o):Inv X pins σ (upd H x o) { s with heap:=h',toks:=t' }:=I.un (Un.write mu he k heo) (I.hok.write mu he k heo new)
theorem Inv.weak {σ':List (Option V)} (I:Inv X pins σ H s) (hl:σ'.length=σ.length) (w:∀ (i:Nat) v,σ'[i]?=some (some v)->σ[i]?=some (some v)):Inv X pins σ' H s :=
 ⟨I.ok,I.os,I.bare,I.base,let ⟨m,hn,hl'⟩:=I.loc; ⟨m,hn,λ i x v e1 e2 e3=>hl' i x v e1 (w i v e2) e3⟩,I.cell,I.free,I.freeC,I.pin,I.hok,hl.trans I.len⟩
theorem Inv.pins_of {pins':List (Addr×Obj)} (I:Inv X pins σ H s) (h:∀ p∈pins',s.heap.get? p.1=some p.2/\H p.1=none/\p.1≠X.env.locals/\p.1 ∉ X.fs/\∀ v,p.2.data≠.cell v):Inv X pins' σ H s :=
 ⟨I.ok,I.os,I.bare,I.base,I.loc,I.cell,I.free,I.freeC,λ p hp=>(List.mem_append.mp hp).elim (λ z=>I.pin p (List.mem_append_left _ z)) (h p),I.hok,I.len⟩
theorem a4q {N:List Str} (hN:N.Nodup) {i j:Nat} {x:Str} (a:N[i]?=some x) (b:N[j]?=some x):i=j:=by
 obtain ⟨h1,e1⟩:=List.getElem?_eq_some_iff.mp a;obtain ⟨h2,e2⟩:=List.getElem?_eq_some_iff.mp b;exact (List.getElem_inj hN).mp (e1.trans e2.symm)
theorem a0T {M:Model} {A:Around} {E:Value->Shared->Prop} {i:Nat} {x:Str} {v:V} {u:Value} {Q:Unit->Shared->Prop} (I:Inv X pins σ H s) (hN:X.N.Nodup) (hi:X.N[i]?=some x) (hx:Loc X.env.scope x) (r:RelV v u)
  (h:∀ s',Inv X pins (σ.set i (some v)) H s'->(∃ a,Heap.SameBut a s.heap s'.heap/\(a=X.env.locals\/X.env.cells.lookup x=some a))->Q () s') (hf:X.fn x=true\/X.env.scope.names.lookup x=some .local:=by first | exact .inl rfl | exact .inr rfl | assumption):wpAny M A (storeName X.env x u) Q E s:=by
 obtain ⟨m,hn,hl⟩:=id I.loc;have hcls:(X.env.scope.kind==.class || (X.env.scope.kind==.module&&X.env.locals != X.env.globals))=false:=by rw [I.ok.kind]; rfl
 have hiσ:i<σ.length:=by rw [I.len]; exact (List.getElem?_eq_some_iff.mp hi).1
 have cne:=I.cne;have tracked:∀ {a:Addr} {h':Heap},(∃ o,s.heap.get? a=some o/\H a=none)->Heap.SameBut a s.heap h'->HOk X.prog X.w H h':=λ {a h'} ha hs b ob e=>by
  obtain ⟨_,_,hfree⟩:=ha;refine (I.hok b ob e).stay (λ c w' hc q=>(hs.2 c ?_).trans q) (λ _ q=>q) λ _ _ q=>q;rintro rfl;rcases hc with rfl | hc
  ·rw [hfree] at e; cases e
  ·rw [hfree] at hc; cases hc
 rcases hx with hk | hk
 ·refine wpAny_storeName_local hk hn (λ h' hn' hs=>?_) hcls
  obtain ⟨oL,_,_,hoL,_⟩:=id hn;refine h _ ⟨I.ok,I.os,I.bare,⟨λ b o e n hb hx=>?_,λ b o e n hb hx=>?_,I.base.free,λ b o e hx=>?_,I.base.tups,I.base.frzs,I.base.tbls⟩,⟨_,hn',λ j y v' e1 e2 e3=>?_⟩,λ y c e=>?_,I.free,I.freeC,λ p hp=>?_,tracked ⟨oL,hoL,I.free⟩ hs,by simpa using I.len⟩ ⟨_,hs,.inl rfl⟩
  ·exact (hs.2 b (Nat.ne_of_lt (Nat.lt_of_lt_of_le (Heap.lt_size e) I.ok.above))).trans (I.base.keep b o e n hb hx)
  ·obtain ⟨sl,e1⟩:=I.base.slot b o e n hb hx
   exact ⟨sl,(hs.2 b (Nat.ne_of_lt (Nat.lt_of_lt_of_le (Heap.lt_size e) I.ok.above))).trans e1⟩
  ·obtain ⟨o',e1⟩:=I.base.there b o e hx
   exact ⟨o',(hs.2 b (Nat.ne_of_lt (Nat.lt_of_lt_of_le (Heap.lt_size e) I.ok.above))).trans e1⟩
  ·by_cases hj:j=i
   ·subst hj
    rw [hi] at e1; cases e1;rw [List.getElem?_set_self hiσ] at e2
    cases e2;exact ⟨u,r,.inl ⟨hk,by simp⟩⟩
   ·rw [List.getElem?_set_ne (Ne.symm hj)] at e2
    obtain ⟨u',r',q⟩:=hl j y v' e1 e2 e3;refine ⟨u',r',?_⟩;rcases q with ⟨k,e⟩ | ⟨k,c,e,z⟩
    ·refine .inl ⟨k,?_⟩
     have:y≠x:=λ e=>hj (a4q hN e1 (e ▸ hi));simp [this,e]
    ·exact .inr ⟨k,c,e,z.sameBut hs (cne y c e)⟩
  ·obtain ⟨w',z⟩:=I.cell y c e
   exact ⟨w',z.sameBut hs (cne y c e)⟩
  ·obtain ⟨e,n,ne,nf,d⟩:=I.pin p hp
   exact ⟨(hs.2 p.1 ne).trans e,n,ne,nf,d⟩
 ·have hfn:X.fn x=true:=by
   rcases hf with z | z
   ·exact z
   ·rw [z] at hk; cases hk
  obtain ⟨c,hc⟩:=I.ok.has x (.inl hk);obtain ⟨w',z⟩:=I.cell x c hc;refine wpAny_storeName_cell I.ok.kind hk hc z (λ h' hc' hs=>?_);obtain ⟨oc,hoc,hocd⟩:=id z;refine h { s with heap:=h' } ⟨I.ok,I.os,I.bare,⟨λ b o e n hb hx=>?_,λ b o e n hb hx=>?_,I.base.free,λ b o e hx=>?_,I.base.tups,I.base.frzs,I.base.tbls⟩,⟨m,hn.sameBut hs (Ne.symm (cne x c hc)),λ j y v' e1 e2 e3=>?_⟩,λ y c' e=>?_,I.free,I.freeC,λ p hp=>?_,tracked ⟨oc,hoc,I.freeC x c hc⟩ hs,by simpa using I.len⟩ ⟨c,hs,.inr hc⟩
  ·exact (hs.2 b (Nat.ne_of_lt (Nat.lt_of_lt_of_le (Heap.lt_size e) (I.ok.cab x c hfn hc)))).trans (I.base.keep b o e n hb hx)
  ·obtain ⟨sl,e1⟩:=I.base.slot b o e n hb hx
   exact ⟨sl,(hs.2 b (Nat.ne_of_lt (Nat.lt_of_lt_of_le (Heap.lt_size e) (I.ok.cab x c hfn hc)))).trans e1⟩
  ·obtain ⟨o',e1⟩:=I.base.there b o e hx
   exact ⟨o',(hs.2 b (Nat.ne_of_lt (Nat.lt_of_lt_of_le (Heap.lt_size e) (I.ok.cab x c hfn hc)))).trans e1⟩
  ·by_cases hj:j=i
   ·subst hj
    rw [hi] at e1; cases e1;rw [List.getElem?_set_self hiσ] at e2
    cases e2;exact ⟨u,r,.inr ⟨.inl hk,c,hc,hc'⟩⟩
   ·rw [List.getElem?_set_ne (Ne.symm hj)] at e2
    obtain ⟨u',r',q⟩:=hl j y v' e1 e2 e3;refine ⟨u',r',?_⟩;rcases q with q | ⟨k,c',e,z'⟩
    ·exact .inl q
    ·refine .inr ⟨k,c',e,z'.sameBut hs ?_⟩
     rintro rfl;exact hj (a4q hN e1 (I.ok.inj _ _ _ e hc ▸ hi))
  ·by_cases hcc:c'=c
   ·subst hcc; exact ⟨_,hc'⟩
   ·obtain ⟨w2,z2⟩:=I.cell y c' e
    exact ⟨w2,z2.sameBut hs hcc⟩
  ·obtain ⟨e,n,ne,nf,d⟩:=I.pin p hp
   refine ⟨(hs.2 p.1 ?_).trans e,n,ne,nf,d⟩;intro q;rw [q,hoc] at e;have q':oc=p.2:=Option.some.inj e;exact d w' (by rw [<- q']; exact hocd)
theorem a0B {M:Model} {A:Around} {E:Value->Shared->Prop} {i:Nat} {x:Str} {v:V} {u:Value} {Q:Unit->Shared->Prop} (I:Inv X pins σ H s) (hN:X.N.Nodup) (hi:X.N[i]?=some x) (hx:Loc X.env.scope x) (r:RelV v u)
  (h:∀ s',Inv X pins (σ.set i (some v)) H s'->Q () s') (hf:X.fn x=true\/X.env.scope.names.lookup x=some .local:=by first | exact .inl rfl | exact .inr rfl | assumption):wpAny M A (storeName X.env x u) Q E s :=
 a0T I hN hi hx r (λ s' I' _=>h s' I') hf
theorem Inv.call' {s':Shared} {ch:List Addr} (I:Inv X pins σ H s) (ho:s'.os=s.os) (u:Un (frs X.stack) ch H H' s.heap s'.heap) (hok:HOk X.prog X.w H' s'.heap) (hg:AllBare s'.gens)
  (hch:∀ b∈ch,(b∈X.ex\/X.s₀.heap.objs.size<=b)/\b≠X.env.locals/\(∀ x c,X.env.cells.lookup x=some c->c≠b)/\∀ p∈X.pn++pins,p.1≠b):Inv X pins σ H' s':=by
 obtain ⟨h',g',d',t',o'⟩:=s';have e:o'=s.os:=ho;subst e;exact I.call (g':=g') (t':=t') (d':=d') u hok hg hch
end
abbrev XK:=Value->Option Addr->Hp->Prop
abbrev St:=List (Option V)
abbrev VK:=V->Hp->Prop
abbrev TE:=St->Hp->VK->Prop
abbrev TT:=St->Hp->(Bool->Hp->Prop)->Prop
abbrev TA:=St->Hp->(List V->Hp->Prop)->Prop
structure Ends where
 nx:St->Hp->Prop
 rt:VK
 bk:St->Hp->Prop:=λ _ _=>False
 ct:St->Hp->Prop:=λ _ _=>False
abbrev TS:=Ends->St->Hp->Prop
def EP (X:Cx) (pins:List (Addr×Obj)) (σ:St) (Q:VK) (u:Value) (s':Shared):Prop:=∃ v H',Inv X pins σ H' s'/\RelV v u/\Q v H'
def TP (X:Cx) (pins:List (Addr×Obj)) (σ:St) (Q:Bool->Hp->Prop) (b:Bool) (s':Shared):Prop:=∃ H',Inv X pins σ H' s'/\Q b H'
def AP (X:Cx) (pins:List (Addr×Obj)) (σ:St) (Q:List V->Hp->Prop) (us:List Value) (s':Shared):Prop:=∃ vs H',Inv X pins σ H' s'/\Vals vs us/\Q vs H'
def SP (X:Cx) (pins:List (Addr×Obj)) (D:Ends) (f:Flow) (s':Shared):Prop :=
 match f with
 | .next=>∃ σ' H',Inv X pins σ' H' s'/\D.nx σ' H'
 | .brk=>∃ σ' H',Inv X pins σ' H' s'/\D.bk σ' H'
 | .cont=>∃ σ' H',Inv X pins σ' H' s'/\D.ct σ' H'
 | .ret u=>∃ v σ' H',Inv X pins σ' H' s'/\RelV v u/\D.rt v H'
def PE (X:Cx) (e:Expr) (t:TE):Prop :=
 ∀ (pins:List (Addr×Obj)) (s:Shared) (σ:St) (H:Hp) (Q:VK),Inv X pins σ H s->t σ H Q->wpAny (model X.prog X.w) X.A (eval e X.env) (EP X pins σ Q) X.xe s
def PT (X:Cx) (e:Expr) (t:TT):Prop :=
 ∀ (pins:List (Addr×Obj)) (s:Shared) (σ:St) (H:Hp) (Q:Bool->Hp->Prop),Inv X pins σ H s->t σ H Q->wpAny (model X.prog X.w) X.A (isTrue e X.env (eval e X.env)) (TP X pins σ Q) X.xe s
def PW (X:Cx) (e:Expr) (t:TT):Prop :=
 ∀ (whole:Sem Value) (pins:List (Addr×Obj)) (s:Shared) (σ:St) (H:Hp) (Q:Bool->Hp->Prop),Inv X pins σ H s->t σ H Q->wpAny (model X.prog X.w) X.A (isTrue e X.env whole) (TP X pins σ Q) X.xe s
theorem PW.pt {X:Cx} {e:Expr} {t:TT} (h:PW X e t):PT X e t:=h _
def PA (X:Cx) (es:List Expr) (t:TA):Prop :=
 ∀ (pos:Pos) (pins:List (Addr×Obj)) (s:Shared) (σ:St) (H:Hp) (Q:List V->Hp->Prop),Inv X pins σ H s->t σ H Q->wpAny (model X.prog X.w) X.A (spliced (backTo pos (starEach es X.env))) (AP X pins σ Q) X.xe s
def PS (X:Cx) (st:Stmt) (t:TS):Prop :=
 ∀ (pins:List (Addr×Obj)) (s:Shared) (σ:St) (H:Hp) (D:Ends),Inv X pins σ H s->t D σ H->wpAny (model X.prog X.w) X.A (exec st X.env) (SP X pins D) X.xe s
def PSs (X:Cx) (st:List Stmt) (t:TS):Prop :=
 ∀ (pins:List (Addr×Obj)) (s:Shared) (σ:St) (H:Hp) (D:Ends),Inv X pins σ H s->t D σ H->wpAny (model X.prog X.w) X.A (execs st X.env) (SP X pins D) X.xe s
theorem G5 {α:Type} {t:Sem α} {Q Q':α->Shared->Prop} {M:Model} {A:Around} {E:Value->Shared->Prop} {s:Shared} (h:wpAny M A t Q E s) (hQ:∀ a s,Q a s->Q' a s):wpAny M A t Q' E s:=wpAny_mono h hQ λ _ _ x=>x
section
variable {X:Cx}
theorem bin {a b:Expr} {ta tb:TE} (ha:PE X a ta) (hb:PE X b tb) {pins:List (Addr×Obj)} {s:Shared} {σ:St} {H:Hp} {R:V->V->Hp->Prop} (I:Inv X pins σ H s) (h:ta σ H λ x H1=>tb σ H1 λ y H2=>R x y H2)
  {α:Type} {Q:α->Shared->Prop} {f:Value->Value->Sem α}
  (hf:∀ v u s2 x y H2,Inv X pins σ H2 s2->RelV x v->RelV y u->R x y H2->wpAny (model X.prog X.w) X.A (f v u) Q X.xe s2) :
  wpAny (model X.prog X.w) X.A (eval a X.env) (λ v s₁=>wpAny (model X.prog X.w) X.A (eval b X.env) (λ u s₂=>wpAny (model X.prog X.w) X.A (f v u) Q X.xe s₂) X.xe s₁) X.xe s:=by
 refine G5 (ha pins s σ H _ I h) λ v s1 ⟨x,H1,I1,r1,q1⟩=>?_;refine G5 (hb pins s1 σ H1 _ I1 q1) λ u s2 ⟨y,H2,I2,r2,q2⟩=>?_;exact hf v u s2 x y H2 I2 r1 r2 q2
def a4T (i:Nat):TE:=λ σ H Q=>∃ v,σ[i]?=some (some v)/\Q v H
def tC (v:V):TE:=λ _ H Q=>Q v H
theorem b1I {i:Nat} {x:Str} {pos:Pos} (hN:X.N[i]?=some x) (hv:Vis X.env.scope x) (hd:(x==("__debug__":Str))=false:=by decide) (hcd:(x==("__classdict__":Str))=false:=by decide):PE X (.Name x pos) (a4T i):=by
 intro pins s σ H Q I h;obtain ⟨v,e,h⟩:=h;obtain ⟨m,hn,hl⟩:=I.loc;obtain ⟨u,r,l⟩:=hl i x v hN e hv;have fin:EP X pins σ Q u s:=⟨v,H,I,r,h⟩;rcases l with ⟨hk,hm⟩ | ⟨hk,c,hc,hcell⟩
 ·exact wpAny_Name (wpAny_loadName_local I.ok.kind hk hn hm fin) hd
 ·rcases hk with hk | hk
  ·exact wpAny_Name (wpAny_loadName_cell I.ok.kind hk hc hcell fin) hd
  ·exact wpAny_Name (wpAny_loadName_free I.ok.kind hk hc hcell fin hcd) hd
theorem c7 {i j pos}:PE X (.Constant (.int i) j pos) (tC (.int i)):=λ _ _ _ H _ I h=>wpAny_Constant_int ⟨.int i,H,I.tok _,⟨_,rfl⟩,h⟩
theorem J8 {b j pos}:PE X (.Constant (.bool b) j pos) (tC (.bl b)):=λ _ _ _ H _ I h=>Constant_bool ⟨.bl b,H,I,rfl,h⟩
theorem a2k {j pos}:PE X (.Constant .none j pos) (tC .non):=λ _ _ _ H _ I h=>Constant_none ⟨.non,H,I,rfl,h⟩
theorem D3 {x j pos}:PE X (.Constant (.str x) j pos) (tC (.str x)):=λ _ _ _ H _ I h=>Calls.Constant_str ⟨.str x,H,I.tok _,⟨_,rfl⟩,h⟩
def Gl (X:Cx) (x:Str):Prop:=X.env.kindOf x=some .globalImplicit
theorem a1t {E:Value->Shared->Prop} {pins:List (Addr×Obj)} {s:Shared} {σ:St} {H:Hp} {x:Str} {u:Value} {pos:Pos} {Q:Value->Shared->Prop} (I:Inv X pins σ H s) (hg:Gl X x) (hm:X.mg x=some u) (h:Q u s)
  (hd:(x==("__debug__":Str))=false:=by decide):wpAny (model X.prog X.w) X.A (eval (.Name x pos) X.env) Q E s :=
 Calls.Name_function_global I.ok.kind hg (Calls.loadGlobal_global (by rw [I.ok.glob]; exact I.mod.glob.keeps I.bk) hm h) hd
theorem a0h {E:Value->Shared->Prop} {pins:List (Addr×Obj)} {s:Shared} {σ:St} {H:Hp} {x:Str} {u:Value} {pos:Pos} {Q:Value->Shared->Prop} (I:Inv X pins σ H s) (hg:Gl X x) (hm:X.mg x=none) (hv:bootBuiltins x=some u) (h:Q u s)
  (hn:x≠"__name__":=by decide) (hd:(x==("__debug__":Str))=false:=by decide):wpAny (model X.prog X.w) X.A (eval (.Name x pos) X.env) Q E s:=by
 obtain ⟨mb,h1,h2⟩:=I.mod.blt;exact Calls.Name_function_global I.ok.kind hg (Calls.loadGlobal_builtin (by rw [I.ok.glob]; exact I.mod.glob.keeps I.bk) hm (by rw [I.ok.blt]; exact h1.keeps I.bk) ((h2 x hn).trans hv) h) hd
theorem a0o {x:Str} {v:V} {u:Value} {pos:Pos} (hg:Gl X x) (hm:X.mg x=some u) (r:RelV v u) (hd:(x==("__debug__":Str))=false:=by decide):PE X (.Name x pos) (tC v) :=
 λ _ _ _ H _ I h=>a1t I hg hm ⟨v,H,I,r,h⟩ hd
theorem a6j {x:Str} {v:V} {u:Value} {pos:Pos} (hg:Gl X x) (hm:X.mg x=none) (hv:bootBuiltins x=some u) (r:RelV v u) (hn:x≠"__name__":=by decide) (hd:(x==("__debug__":Str))=false:=by decide):PE X (.Name x pos) (tC v) :=
 λ _ _ _ H _ I h=>a0h I hg hm hv ⟨v,H,I,r,h⟩ hn hd
variable {a b:Expr} {ta tb:TE} {pos:Pos}
def tB (t:TE):TT:=λ σ H Q=>t σ H λ x H1=>∃ c,x=.bl c/\Q c H1
theorem K9 {e:Expr} {t:TE} (h:PE X e t) (he:∀ whole,isTrue e X.env whole=(do let v <- whole; standAt e.pos; holding [v] (truthy v)):=by intro _; rfl):PT X e (tB t):=by
 intro pins s σ H Q I hw;refine isTrue_plain (G5 (h pins s σ H _ I hw) λ v s1 ⟨x,H1,I1,r1,q1⟩=>?_) (he _);obtain ⟨d,rfl,q⟩:=q1
 cases r1;exact wpAny_truthy_bool ⟨H1,I1,q⟩
variable {tA tB':TT} {rest:List Expr}
def b4K (t u:TT):TT:=λ σ H Q=>t σ H λ c H1=>if c=true then u σ H1 Q else Q false H1
def tOr (t u:TT):TT:=λ σ H Q=>t σ H λ c H1=>if c=true then Q true H1 else u σ H1 Q
def b4r (t:TT):TT:=λ σ H Q=>t σ H λ c H1=>Q (!c) H1
theorem S4 (ha:PT X a tA):PW X (.BoolOp .And [a] pos) tA:=by
 intro wh pins s σ H Q I h;refine isTrue_and (G5 (ha pins s σ H Q I h) λ c s1 e=>?_)
 cases c with
 | true=>exact isTrue_and_nil e
 | false=>exact e
theorem a0f (ha:PT X a tA):PW X (.BoolOp .Or [a] pos) tA:=by
 intro wh pins s σ H Q I h;refine isTrue_or (G5 (ha pins s σ H Q I h) λ c s1 e=>?_)
 cases c with
 | false=>exact isTrue_or_nil e
 | true=>exact e
theorem W5 (ha:PT X a tA) (hb:PW X (.BoolOp .And (b::rest) pos) tB'):PW X (.BoolOp .And (a::b::rest) pos) (b4K tA tB'):=by
 intro wh pins s σ H Q I h;refine isTrue_and (G5 (ha pins s σ H _ I h) λ c s1 ⟨H1,I1,q1⟩=>?_)
 cases c with
 | true=>exact hb wh pins s1 σ H1 Q I1 q1
 | false=>exact ⟨H1,I1,q1⟩
theorem a1O (ha:PT X a tA) (hb:PW X (.BoolOp .Or (b::rest) pos) tB'):PW X (.BoolOp .Or (a::b::rest) pos) (tOr tA tB'):=by
 intro wh pins s σ H Q I h;refine isTrue_or (G5 (ha pins s σ H _ I h) λ c s1 ⟨H1,I1,q1⟩=>?_)
 cases c with
 | true=>exact ⟨H1,I1,q1⟩
 | false=>exact hb wh pins s1 σ H1 Q I1 q1
theorem V1 (ha:PT X a tA):PT X (.UnaryOp .Not a pos) (b4r tA):=by
 intro pins s σ H Q I h;exact isTrue_not (ha pins s σ H (λ c H1=>Q (!c) H1) I h)
def b3m (ta tb:TE):TE:=λ σ H Q=>ta σ H λ x H1=>∃ c,x=.bl c/\if c=true then tb σ H1 Q else Q (.bl false) H1
def b4z (ta tb:TE):TE:=λ σ H Q=>ta σ H λ x H1=>∃ c,x=.bl c/\if c=true then Q (.bl true) H1 else tb σ H1 Q
def b2E (ta:TE):TE:=λ σ H Q=>ta σ H λ x H1=>∃ c,x=.bl c/\Q (.bl (!c)) H1
theorem a5n {op} {t:TE} (h:PE X a t):PE X (.BoolOp op [a] pos) t:=λ pins s σ H Q I hw=>BoolOp_one (h pins s σ H Q I hw)
theorem a9e (ha:PE X a ta) (hb:PE X (.BoolOp .And (b::rest) pos) tb):PE X (.BoolOp .And (a::b::rest) pos) (b3m ta tb):=by
 intro pins s σ H Q I h;refine BoolOp_and (G5 (ha pins s σ H _ I h) λ v s1 ⟨x,H1,I1,r1,q1⟩=>?_);obtain ⟨c,rfl,q1⟩:=q1
 cases r1;refine wpAny_truthy_bool ?_
 cases c with
 | true=>exact hb pins s1 σ H1 Q I1 q1
 | false=>exact ⟨.bl false,H1,I1,rfl,q1⟩
theorem b3s (ha:PE X a ta) (hb:PE X (.BoolOp .Or (b::rest) pos) tb):PE X (.BoolOp .Or (a::b::rest) pos) (b4z ta tb):=by
 intro pins s σ H Q I h;refine BoolOp_or (G5 (ha pins s σ H _ I h) λ v s1 ⟨x,H1,I1,r1,q1⟩=>?_);obtain ⟨c,rfl,q1⟩:=q1
 cases r1;refine wpAny_truthy_bool ?_
 cases c with
 | false=>exact hb pins s1 σ H1 Q I1 q1
 | true=>exact ⟨.bl true,H1,I1,rfl,q1⟩
theorem b1h (ha:PE X a ta):PE X (.UnaryOp .Not a pos) (b2E ta):=by
 intro pins s σ H Q I h;refine UnaryOp_ (G5 (ha pins s σ H _ I h) λ v s1 ⟨x,H1,I1,r1,q1⟩=>?_);obtain ⟨c,rfl,q1⟩:=q1
 cases r1;exact not_of (wpAny_truthy_bool ⟨.bl (!c),H1,I1,rfl,q1⟩)
end
def SqL (K:W.Frag) (H:Hp) (a:Addr) (xs:List V):Prop :=
 Rd H a (.lst xs) ∨
  ∃ (o:Obj) (its:Array Value) (n:Nat),K.lookup a=some o/\o.cls=.type "list"/\o.dict=none/\o.data=.seq its n/\its.size<=sizeLine/\Vals xs its.toList
def SqT (K:W.Frag) (H:Hp) (a:Addr) (xs:List V):Prop :=
 Rd H a (.tup xs) ∨
  ∃ (o:Obj) (its:Array Value) (n:Nat),K.lookup a=some o/\o.cls=.type "tuple"/\o.data=.seq its n/\its.size<=sizeLine/\Vals xs its.toList
def b4n:Value->Option V
 | .none=>some .non
 | .bool b=>some (.bl b)
 | .int i _=>some (.int i)
 | .str x _=>some (.str x)
 | .bytes b _=>some (.byt b)
 | .float b _=>some (.flt b)
 | .ref a=>some (.ref a)
 | .type n=>some (.ty n)
 | _=>none
theorem RelV.abs {x:V} {u:Value} (r:RelV x u):b4n u=some x:=by
 cases x with
 | non=>cases r; rfl
 | bl _=>cases r; rfl
 | int _=>obtain ⟨t,rfl⟩:=r; rfl
 | str _=>obtain ⟨t,rfl⟩:=r; rfl
 | byt _=>obtain ⟨t,rfl⟩:=r; rfl
 | flt _=>obtain ⟨t,rfl⟩:=r; rfl
 | ref _=>cases r; rfl
 | ty _=>cases r; rfl
theorem RelV.inj {x y:V} {u:Value} (r:RelV x u) (q:RelV y u):x=y:=Option.some.inj (r.abs.symm.trans q.abs)
theorem Vals.inj:∀ {xs ys:List V} {us:List Value},Vals xs us->Vals ys us->xs=ys
 | _,_,_,.nil,.nil=>rfl
 | _,_,_,.cons r t,.cons r' t'=>by rw [r.inj r',Vals.inj t t']
section
variable {X:Cx} {pins:List (Addr×Obj)} {σ:St} {H:Hp} {s:Shared} {a:Addr} {xs ys:List V}
theorem SqL.of {K:W.Frag} (h:H a=some (.lst xs)):SqL K H a xs:=.inl (.inl h)
theorem SqT.of {K:W.Frag} (h:H a=some (.tup xs)):SqT K H a xs:=.inl (.inl h)
theorem Inv.list (I:Inv X pins σ H s) (h:SqL X.K H a xs):∃ its:List Value,Vals xs its/\PlainL s.heap a its.toArray/\xs.length<=sizeLine:=by
 rcases h with h | ⟨o,its,n,hk,hc,hd,hs,hz,r⟩
 ·obtain ⟨z,its,n,r,e⟩:=h.ok I.hok
  exact ⟨its,r,⟨_,n,e,rfl,rfl,rfl⟩,z⟩
 ·refine ⟨its.toList,r,⟨o,n,I.kIn a o hk,hc,hd,by simpa using hs⟩,?_⟩
  have e:=r.length;simp only [Array.length_toList] at e;omega
theorem Inv.tuple (I:Inv X pins σ H s) (h:SqT X.K H a xs):∃ its:List Value,Vals xs its/\IsTup s.heap a its.toArray/\xs.length<=sizeLine:=by
 rcases h with h | ⟨o,its,n,hk,hc,hs,hz,r⟩
 ·obtain ⟨z,its,r,p⟩:=h.ok I.hok
  exact ⟨its,r,p,z⟩
 ·refine ⟨its.toList,r,⟨o,I.kIn a o hk,hc,n,by simpa using hs⟩,?_⟩
  have e:=r.length;simp only [Array.length_toList] at e;omega
theorem Inv.list_inj (I:Inv X pins σ H s) (h:SqL X.K H a xs) (h':SqL X.K H a ys):xs=ys:=by
 obtain ⟨its,r,⟨o,n,e,_,_,d⟩,_⟩:=I.list h;obtain ⟨its',r',⟨o',n',e',_,_,d'⟩,_⟩:=I.list h';rw [e] at e'; cases e';rw [d] at d';injection d' with d1 _
 have:its=its':=by simpa using congrArg Array.toList d1
 subst this;exact r.inj r'
theorem Inv.tuple_inj (I:Inv X pins σ H s) (h:SqT X.K H a xs) (h':SqT X.K H a ys):xs=ys:=by
 obtain ⟨its,r,⟨o,e,_,n,d⟩,_⟩:=I.tuple h;obtain ⟨its',r',⟨o',e',_,n',d'⟩,_⟩:=I.tuple h';rw [e] at e'; cases e';rw [d] at d';injection d' with d1 _
 have:its=its':=by simpa using congrArg Array.toList d1
 subst this;exact r.inj r'
end
abbrev Cx.wish (X:Cx) (E:Value->Shared->Prop):Cx:={ X with xe:=E }
abbrev Cx.nox (X:Cx):Cx:=X.wish λ _ _=>False
theorem Cx.Ok.wish {X:Cx} (ok:X.Ok) (E:Value->Shared->Prop):(X.wish E).Ok :=
 ⟨ok.mod,ok.kind,ok.glob,ok.blt,ok.above,ok.inj,ok.has,ok.cab,ok.hd,ok.frames,ok.stk,ok.exf,ok.bs,ok.bsz,ok.noex,ok.exfs,ok.funs,ok.frf⟩
theorem Cx.Ok.unwish {X:Cx} {E:Value->Shared->Prop} (ok:(X.wish E).Ok):X.Ok :=
 ⟨ok.mod,ok.kind,ok.glob,ok.blt,ok.above,ok.inj,ok.has,ok.cab,ok.hd,ok.frames,ok.stk,ok.exf,ok.bs,ok.bsz,ok.noex,ok.exfs,ok.funs,ok.frf⟩
section
variable {X:Cx} {pins:List (Addr×Obj)} {σ:St} {H:Hp} {s:Shared} {E:Value->Shared->Prop}
theorem Inv.wish (I:Inv X pins σ H s) (E:Value->Shared->Prop):Inv (X.wish E) pins σ H s:=⟨I.ok.wish E,I.os,I.bare,I.base,I.loc,I.cell,I.free,I.freeC,I.pin,I.hok,I.len⟩
theorem Inv.unwish (I:Inv (X.wish E) pins σ H s):Inv X pins σ H s:=⟨I.ok.unwish,I.os,I.bare,I.base,I.loc,I.cell,I.free,I.freeC,I.pin,I.hok,I.len⟩
theorem SP.unwish {D:Ends} {f:Flow} {s':Shared} (h:SP (X.wish E) pins D f s'):SP X pins D f s':=by
 cases f with
 | next=>obtain ⟨σ',H',I,q⟩:=h; exact ⟨σ',H',I.unwish,q⟩
 | brk=>obtain ⟨σ',H',I,q⟩:=h; exact ⟨σ',H',I.unwish,q⟩
 | cont=>obtain ⟨σ',H',I,q⟩:=h; exact ⟨σ',H',I.unwish,q⟩
 | ret u=>obtain ⟨v,σ',H',I,r,q⟩:=h; exact ⟨v,σ',H',I.unwish,r,q⟩
theorem PSs.nox {st:List Stmt} {t:TS} (h:PSs X.nox st t):PSs X st t:=λ pins s σ H D I hw =>
 wpAny_mono (h pins s σ H D (I.wish _) hw) (λ _ _ q=>q.unwish) λ _ _ z=>False.elim z
end
section
variable {X:Cx} {st:Stmt} {rest:List Stmt} {t u:TS} {e:Expr} {te:TE} {pos:Pos}
def b3y:TS:=λ D σ H=>D.nx σ H
def b4S (t u:TS):TS:=λ D σ H=>t { D with nx:=u D } σ H
theorem r9:PSs X [] b3y:=λ _ _ σ H _ I h=>wpAny_execs_nil ⟨σ,H,I,h⟩
theorem i4 (h1:PS X st t) (h2:PSs X rest u):PSs X (st::rest) (b4S t u):=by
 intro pins s σ H D I h;refine wpAny_execs_cons (G5 (h1 pins s σ H { D with nx:=u D } I h) λ f s1 q=>?_)
 cases f with
 | next =>
  obtain ⟨σ',H',I',q⟩:=q;exact h2 pins s1 σ' H' D I' q
 | ret v=>exact q
 | brk=>exact q
 | cont=>exact q
theorem i7 (h1:PS X st t):PSs X [st] t:=by
 intro pins s σ H D I h;refine wpAny_execs_cons (G5 (h1 pins s σ H D I h) λ f s1 q=>?_)
 cases f with
 | next=>exact wpAny_execs_nil q
 | ret v=>exact q
 | brk=>exact q
 | cont=>exact q
theorem Inv.quiet {pins:List (Addr×Obj)} {σ:St} {H:Hp} {s:Shared} (I:Inv X pins σ H s):interactive X.env=false:=by simp [interactive,I.ok.kind]
def b2y (te:TE):TS:=λ D σ H=>te σ H λ _ H1=>D.nx σ H1
theorem Q1 (he:PE X e te) (hs:swapsWith e none pos.line X.env=pure false:=by rfl):PS X (.Expr e pos) (b2y te):=by
 intro pins s σ H D I h;exact wpAny_Expr_any (G5 (he pins s σ H _ I h) λ v s1 ⟨x,H1,I1,r1,q1⟩=>⟨σ,H1,I1,q1⟩) I.quiet hs
def b2J (te:TE):TS:=λ D σ H=>te σ H D.rt
theorem m6 (he:PE X e te):PS X (.Return (some e) pos) (b2J te):=by
 intro pins s σ H D I h;exact wpAny_Return_some (G5 (he pins s σ H _ I h) λ v s1 ⟨x,H1,I1,r1,q1⟩=>⟨x,σ,H1,I1,r1,q1⟩)
def b4D (c:TT) (t u:TS):TS:=λ D σ H=>c σ H λ b H1=>if b=true then t D σ H1 else u D σ H1
theorem x6 {c:Expr} {a b:List Stmt} {tc:TT} (hc:PT X c tc) (ha:PSs X a t) (hb:PSs X b u):PS X (.If c a b pos) (b4D tc t u):=by
 intro pins s σ H D I h;refine wpAny_If (G5 (hc pins s σ H _ I h) λ d s1 ⟨H1,I1,q1⟩=>?_)
 cases d with
 | true=>exact ha pins s1 σ H1 D I1 q1
 | false=>exact hb pins s1 σ H1 D I1 q1
def b1c:TS:=λ _ _ _=>False
theorem a0K {sts:List Stmt}:PSs X sts b1c:=λ _ _ _ _ _ _ h=>h.elim
end
abbrev TG:=V->St->Hp->(St->Hp->Prop)->Prop
abbrev TGs:=List V->St->Hp->(St->Hp->Prop)->Prop
def PG (X:Cx) (target:Expr) (t:TG):Prop :=
 ∀ (pins:List (Addr×Obj)) (s:Shared) (σ:St) (H:Hp) (v:V) (u:Value) (Q:St->Hp->Prop),Inv X pins σ H s->RelV v u->t v σ H Q →
  wpAny (model X.prog X.w) X.A (assign target X.env u) (λ _ s'=>∃ σ' H',Inv X pins σ' H' s'/\Q σ' H') X.xe s
def PGs (X:Cx) (ts:List Expr) (t:TGs):Prop :=
 ∀ (pins:List (Addr×Obj)) (s:Shared) (σ:St) (H:Hp) (vs:List V) (us:List Value) (Q:St->Hp->Prop),Inv X pins σ H s->Vals vs us->t vs σ H Q →
  wpAny (model X.prog X.w) X.A (assignInOrder ((assignEach ts X.env).map (·.2)) us) (λ _ s'=>∃ σ' H',Inv X pins σ' H' s'/\Q σ' H') X.xe s
abbrev b1m:=V->V->V->Hp->(Hp->Prop)->Prop
def b3H (X:Cx) (t:b1m):Prop :=
 ∀ (pins:List (Addr×Obj)) (s:Shared) (σ:St) (H:Hp) (o i v:V) (ov iv u:Value) (Q:Hp->Prop),Inv X pins σ H s->RelV o ov->RelV i iv->RelV v u->t o i v H Q →
  wpAny (model X.prog X.w) X.A (setItem ov iv u) (λ _ s'=>∃ H',Inv X pins σ H' s'/\Q H') X.xe s
section
variable {X:Cx} {pos:Pos}
def P9 (i:Nat):TG:=λ v σ H Q=>Q (σ.set i (some v)) H
theorem i8 {i:Nat} {x:Str} (hN:X.N.Nodup) (hi:X.N[i]?=some x) (hx:Loc X.env.scope x) (hf:X.fn x=true\/X.env.scope.names.lookup x=some .local:=by first | exact .inl rfl | exact .inr rfl | assumption):PG X (.Name x pos) (P9 i):=by
 intro pins s σ H v u Q I r h;exact wpAny_assign_Name (a0B I hN hi hx r (λ s' I'=>⟨_,H,I',h⟩) hf)
def a6J:TGs:=λ vs σ H Q=>vs=[]/\Q σ H
def X6 (t:TG) (u:TGs):TGs:=λ vs σ H Q=>∃ v r,vs=v::r/\t v σ H λ σ' H'=>u r σ' H' Q
theorem t8:PGs X [] a6J:=by
 intro pins s σ H vs us Q I r h;obtain ⟨e,h⟩:=h;subst e
 cases r;exact assignInOrder_nil ⟨σ,H,I,h⟩
theorem j4 {e:Expr} {es:List Expr} {t:TG} {u:TGs} (h1:PG X e t) (h2:PGs X es u)
  (hs:(assignEach (e::es) X.env).map (·.2)=assign e X.env::(assignEach es X.env).map (·.2):=by rfl):PGs X (e::es) (X6 t u):=by
 intro pins s σ H vs us Q I r h;obtain ⟨v,vr,e1,h⟩:=h;subst e1
 cases r with
 | cons r rr =>
  rw [hs];refine assignInOrder_cons (G5 (h1 pins s σ H _ _ _ I r h) λ _ s1 ⟨σ1,H1,I1,q1⟩=>?_);exact h2 pins s1 σ1 H1 _ _ Q I1 rr q1
def a4X (K:W.Frag) (n:Nat) (t:TGs):TG:=λ v σ H Q=>∃ a xs,v=.ref a/\SqT K H a xs/\xs.length=n/\t xs σ H Q
theorem K2 {es:List Expr} {k:Nat} {t:TGs} {n:Nat} (hc:X.calm=true) (h:PGs X es t)
  (hn:(assignEach es X.env).length=n:=by rfl) (hst:(assignEach es X.env).findIdx? (·.1)=none:=by rfl):PG X (.Tuple es k pos) (a4X X.K n t):=by
 intro pins s σ H v u Q I r hw;obtain ⟨a,xs,e1,hq,hl,hw⟩:=hw;subst e1
 cases r;obtain ⟨its,rv,ht,hz⟩:=I.tuple hq;refine assign_Tuple_tuple (I.ok.hd hc) ht (by simp [hn,<- hl,rv.length]) hst λ h' hx=>?_;have I1:Inv X pins σ H { s with heap:=h' }:=I.kept (t':=s.toks) λ b o e=>hx b o (Nat.ne_of_lt (Heap.lt_size e)) e;exact h pins _ σ H xs _ Q I1 (by simpa using rv) hw
def b3W (to ti:TE) (t:b1m):TG:=λ v σ H Q=>to σ H λ o H1=>ti σ H1 λ i H2=>t o i v H2 λ H3=>Q σ H3
theorem M0 {o i:Expr} {to ti:TE} {t:b1m} (ho:PE X o to) (hi:PE X i ti) (hs:b3H X t)
  (ha:∀ v,assign (.Subscript o i pos) X.env v=(do
   let ov <- holding [v] (eval o X.env)
   let iv <- holding [v,ov] (eval i X.env)
   standAt pos
   holding [v,ov,iv] (setItem ov iv v)
   release [v,ov,iv] []):=by intro _; rfl):PG X (.Subscript o i pos) (b3W to ti t):=by
 intro pins s σ H v u Q I r h;rw [ha];refine wpAny_bind (wpAny_holding (G5 (ho pins s σ H _ I h) λ ov s1 ⟨x,H1,I1,r1,q1⟩=>?_));refine wpAny_bind (wpAny_holding (G5 (hi pins s1 σ H1 _ I1 q1) λ iv s2 ⟨y,H2,I2,r2,q2⟩=>?_));refine wpAny_bind (wpAny_standAt (wpAny_bind (wpAny_holding (G5 (hs pins s2 σ H2 x y v ov iv u _ I2 r1 r2 r q2) λ _ s3 ⟨H3,I3,q3⟩=>?_))));exact wpAny_release ⟨σ,H3,I3,q3⟩
def a7k (te:TE) (g:TG):TS:=λ D σ H=>te σ H λ x H1=>g x σ H1 D.nx
theorem C7 {tg e:Expr} {te:TE} {g:TG} (he:PE X e te) (hg:PG X tg g) (hs:swapsWithSole [tg] e pos.line X.env=pure false:=by rfl) (hw:swappedStores [tg] e X.env=pure none:=by rfl)
  (h1:(assignEach [tg] X.env).map (·.2)=[assign tg X.env]:=by rfl):PS X (.Assign [tg] e pos) (a7k te g):=by
 intro pins s σ H D I h;refine wpAny_Assign_stores (G5 (he pins s σ H _ I h) λ v s1 ⟨x,H1,I1,r1,q1⟩=>?_) hs hw;rw [h1];exact G5 (hg pins s1 σ H1 x v _ I1 r1 q1) λ _ s2 q=>q
theorem m9 {i:Nat} {x:Str} {e:Expr} {te:TE} {pos':Pos} (hN:X.N.Nodup) (hi:X.N[i]?=some x) (hx:Loc X.env.scope x) (he:PE X e te) (hs:swapsWith e (some (.Name x pos')) pos.line X.env=pure false:=by rfl) (hf:X.fn x=true\/X.env.scope.names.lookup x=some .local:=by first | exact .inl rfl | exact .inr rfl | assumption) :
  PS X (.Assign [.Name x pos'] e pos) (a7k te (P9 i)):=by
 intro pins s σ H D I h;refine wpAny_Assign_Name (G5 (he pins s σ H _ I h) λ v s1 ⟨y,H1,I1,r1,q1⟩=>?_) hs;exact a0B I1 hN hi hx r1 (λ s2 I2=>⟨_,H1,I2,q1⟩) hf
def b4L (i j:Nat) (ta:TA):TS:=λ D σ H=>ta σ H λ vs H1=>∃ v w,vs=[v,w]/\D.nx ((σ.set i (some v)).set j (some w)) H1
theorem a8y {i j:Nat} {x y:Str} {a b:Expr} {ta:TA} {px py pt:Pos} {kt k2 pt2} (hc:X.calm=true) (hN:X.N.Nodup) (hi:X.N[i]?=some x) (hj:X.N[j]?=some y) (hij:i≠j)
  (hx:X.env.scope.names.lookup x=some .local) (hy:X.env.scope.names.lookup y=some .local) (ha:PA X [a,b] ta)
  (hw:swappedStores [.Tuple [.Name x px,.Name y py] kt pt] (.Tuple [a,b] k2 pt2) X.env=pure (some [x,y]))
  (hs:swapsWithSole [.Tuple [.Name x px,.Name y py] kt pt] (.Tuple [a,b] k2 pt2) pos.line X.env=pure false:=by rfl) :
  PS X (.Assign [.Tuple [.Name x px,.Name y py] kt pt] (.Tuple [a,b] k2 pt2) pos) (b4L i j ta):=by
 intro pins s σ H D I h;rw [exec_Assign_arm];refine wpAny_bind (wpAny_standAt ?_);rw [hs];refine wpAny_bind (wpAny_pure ?_);rw [if_neg (by decide)];refine wpAny_bind (Tuple_ (G5 (ha _ pins s σ H _ I h) λ us s1 ⟨vs,H1,I1,r1,q1⟩=>?_));obtain ⟨v,w,e1,q1⟩:=q1;subst e1;obtain ⟨u1,u2,rfl,rv,rw'⟩:∃ u1 u2,us=[u1,u2]/\RelV v u1/\RelV w u2:=by
  cases r1 with
  | cons p q =>
   cases q with
   | cons p' q' =>
    cases q';exact ⟨_,_,rfl,p,p'⟩
 refine wpAny_newObj_type ?_ (by show 2<=sizeLine; decide);have I2:Inv X pins σ H1 { s1 with heap:=s1.heap.push { cls:=.type "tuple",data:=.seq [u1,u2].toArray } }:=I1.kept (t':=s1.toks) λ b o e=>Heap.get?_push_of_some _ e;rw [hw];refine wpAny_bind (wpAny_pure ?_)
 show wpAny (model X.prog X.w) X.A (do rule "assign.swapped-stores"; let items <- unpackItems (.ref s1.heap.objs.size) 2 none; assignInOrder [λ v=>bindName X.env y v,λ v=>bindName X.env x v] items.reverse; pure Flow.next) _ _ _
 refine wpAny_bind (wpAny_rule (wpAny_bind (unpackItems_tuple (items:=#[u1,u2]) (I.ok.hd hc) (IsTup.new s1.heap _) λ h' hx'=>?_)));have I3:=I2.kept (h':=h') (t':=s1.toks) λ b o e=>hx' b o (Nat.ne_of_lt (Heap.lt_size e)) e
 show wpAny _ _ (assignInOrder [λ v=>bindName X.env y v,λ v=>bindName X.env x v] [u2,u1] >>= λ _=>pure Flow.next) _ _ _
 refine wpAny_bind (assignInOrder_cons (wpAny_bindName (a0B I3 hN hj (.inl hy) rw' (λ s2 I4=>?_) (.inr hy))));refine assignInOrder_cons (wpAny_bindName (a0B I4 hN hi (.inl hx) rv (λ s3 I5=>assignInOrder_nil (wpAny_pure ?_)) (.inr hx)));rw [List.set_comm _ _ (Ne.symm hij)] at I5;exact ⟨_,H1,I5,q1⟩
end
section
variable {X:Cx} {pos:Pos}
def a8U (c:TT) (tb:TS):TS:=λ D σ H=>∃ W:Nat->St->Hp->Prop,(∃ m,W m σ H)/\∀ m σ H,W m σ H →
 c σ H λ b H1=>if b=true then ∃ N:St->Hp->Prop,(∀ σ' H',N σ' H'->∃ m',m'<m/\W m' σ' H')/\tb { D with nx:=N,ct:=N,bk:=D.nx } σ H1 else D.nx σ H1
theorem a2a {c:Expr} {body:List Stmt} {tc:TT} {tb:TS} (hp:PassesOwn (model X.prog X.w) X.A X.env X.xe) (hc:PT X c tc) (hb:PSs X body tb):PS X (.While c body [] pos) (a8U tc tb):=by
 intro pins s σ H D I h;obtain ⟨W,⟨m0,w0⟩,turn⟩:=h;refine wpAny_While (codeAny_whileLoop (λ n s'=>∃ σ' H',Inv X pins σ' H' s'/\W n σ' H') ?_ m0 ⟨σ,H,I,w0⟩);rintro n s1 ⟨σ1,H1,I1,w1⟩;refine wpAny_passesOwn hp (G5 (hc pins s1 σ1 H1 _ I1 (turn n σ1 H1 w1)) λ b s2 ⟨H2,I2,q2⟩=>?_)
 cases b with
 | true =>
  obtain ⟨N,hN,q2⟩:=q2;rw [if_pos rfl];refine wpAny_passesOwn hp (G5 (hb pins s2 σ1 H2 _ I2 q2) λ f s3 q3=>?_)
  cases f with
  | next =>
   obtain ⟨σ3,H3,I3,n3⟩:=q3;obtain ⟨m',hm,w3⟩:=hN σ3 H3 n3;exact ⟨m',hm,σ3,H3,I3,w3⟩
  | cont =>
   obtain ⟨σ3,H3,I3,n3⟩:=q3;obtain ⟨m',hm,w3⟩:=hN σ3 H3 n3;exact ⟨m',hm,σ3,H3,I3,w3⟩
  | brk=>exact q3
  | ret v=>exact q3
 | false =>
  rw [if_neg Bool.false_ne_true];exact wpAny_execs_nil ⟨σ1,H2,I2,q2⟩
end
structure It where
 go:Nat->Hp->Prop
 yld:Nat->Hp->V->Hp->Prop
 stop:Nat->Hp->Prop
def V9 (X:Cx) (pins:List (Addr×Obj)) (H:Hp) (b:Addr):Prop :=
 H b=none/\b≠X.env.locals/\b ∉ X.fs/\(b∈X.ex\/X.s₀.heap.objs.size<=b)/\(∀ x c,X.env.cells.lookup x=some c->c≠b)/\∀ p∈X.pn++pins,p.1≠b
theorem Inv.fpOk {X:Cx} {pins:List (Addr×Obj)} {σ:St} {H H':Hp} {s:Shared} {b:Addr} (I:Inv X pins σ H s) (hb:s.heap.objs.size<=b) (hn:H' b=none):V9 X pins H' b:=by
 refine ⟨hn,Nat.ne_of_gt (Nat.lt_of_lt_of_le I.lt hb),I.nofs hb,.inr (Nat.le_trans I.sz hb),λ x c e z=>?_,λ p hp z=>?_⟩
 ·obtain ⟨v,q⟩:=I.cell x c e
  exact absurd (Nat.lt_of_lt_of_le q.lt (by rw [z]; exact hb)) (Nat.lt_irrefl _)
 ·exact absurd (Nat.lt_of_lt_of_le (Heap.lt_size (I.pin p hp).1) (by rw [z]; exact hb)) (Nat.lt_irrefl _)
structure a7b (P:Program) (w:World) (K:W.Frag) (tg:Expr) (J:It) (fp:List Addr) (it:Addr) (tn:Nat->Heap->Prop):Prop where
 mem:it∈fp
 obj:∀ i h,tn i h->∀ b∈fp,∃ o,h.get? b=some o/\∀ v,o.data≠.cell v
 keep:∀ i h h',tn i h->(∀ b∈fp,∀ o,h.get? b=some o->h'.get? b=some o)->tn i h'
 item:∀ (X:Cx),X.prog=P->X.w=w->X.K=K->X.calm=true->∀ (i:Nat) (pins:List (Addr×Obj)) (s:Shared) (σ:St) (H:Hp) (E:Value->Shared->Prop),Inv X pins σ H s->(∀ b∈fp,V9 X pins H b)->tn i s.heap->J.go i H →
  wpAny (model P w) X.A (pyNext (.ref it)) (λ r s1=>∃ u,r=some u ∧
   wpAny (model P w) X.A (letOwnedTupleGo tg (.ref it) u) (λ _ s2=>∃ x H',Inv X pins σ H' s2/\RelV x u/\J.yld i H x H'/\tn (i+1) s2.heap/\∀ b∈fp,H' b=none) E s1) E s
 done:∀ (X:Cx),X.prog=P->X.w=w->X.K=K->X.calm=true->∀ (i:Nat) (pins:List (Addr×Obj)) (s:Shared) (σ:St) (H:Hp) (E:Value->Shared->Prop),Inv X pins σ H s->(∀ b∈fp,V9 X pins H b)->tn i s.heap->J.stop i H →
  wpAny (model P w) X.A (pyNext (.ref it)) (λ r s1=>r=none/\Inv X pins σ H s1) E s
 self:∀ (A:Around) (i:Nat) (s:Shared) (Q:Value->Shared->Prop) (E:Value->Shared->Prop),tn i s.heap->Q (.ref it) s->wpAny (model P w) A (pyIter (.ref it)) Q E s
abbrev TI:=St->Hp->(It->Hp->Prop)->Prop
def PIE (X:Cx) (pins:List (Addr×Obj)) (σ:St) (tg:Expr) (R:It->Hp->Prop) (itv:Value) (s2:Shared):Prop :=
 ∃ (it:Addr) (fp:List Addr) (tn:Nat->Heap->Prop) (J:It) (H':Hp),itv=.ref it/\Inv X pins σ H' s2/\a7b X.prog X.w X.K tg J fp it tn/\tn 0 s2.heap/\(∀ b∈fp,V9 X pins H' b)/\R J H'
def PI (X:Cx) (tg iter:Expr) (wi:TI):Prop :=
 ∀ (pins:List (Addr×Obj)) (s:Shared) (σ:St) (H:Hp) (R:It->Hp->Prop),Inv X pins σ H s->wi σ H R →
  wpAny (model X.prog X.w) X.A (eval iter X.env) (λ v s1=>wpAny (model X.prog X.w) X.A (pyIter v) (PIE X pins σ tg R) X.xe s1) X.xe s
theorem a7K {M:Model} {A:Around} {E:Value->Shared->Prop} {s:Shared} {tg:Expr} {it:Addr} {u:Value} {o:Obj} {n:String} {vs:Array Value} {Q:Unit->Shared->Prop} (ho:s.heap.get? it=some o) (hc:o.cls=.type n) (hd:o.data=.fields vs)
    (hn:["enumerate","zip","dict_itemiterator","dict_reverseitemiterator","odict_iterator","itertools.zip_longest","itertools.pairwise"].contains n=false) (hQ:Q () s):wpAny M A (letOwnedTupleGo tg (.ref it) u) Q E s:=by
  unfold letOwnedTupleGo
  cases tg <;> first
    | exact wpAny_pure hQ
    | (cases u <;> first
        | exact wpAny_pure hQ
        | (refine wpAny_bind (wpAny_load ho ?_)
           rw [hc,hd]
           show wpAny M A (if (["enumerate","zip","dict_itemiterator","dict_reverseitemiterator","odict_iterator","itertools.zip_longest","itertools.pairwise"].contains n&&vs[0]?==some (rawInt _))=true then _ else _) Q E s
           rw [if_neg (by intro h; rw [hn,Bool.false_and] at h; cases h)];exact wpAny_pure hQ))
def Itl (K:W.Frag) (a:Addr):It :=
 ⟨λ i H=>∃ xs x,SqL K H a xs/\xs[i]?=some x,λ i H x H'=>H'=H/\∀ xs,SqL K H a xs->xs[i]?=some x,λ i H=>∃ xs,SqL K H a xs/\xs.length<=i⟩
def Itt (K:W.Frag) (a:Addr):It :=
 ⟨λ i H=>∃ xs x,SqT K H a xs/\xs[i]?=some x,λ i H x H'=>H'=H/\∀ xs,SqT K H a xs->xs[i]?=some x,λ i H=>∃ xs,SqT K H a xs/\xs.length<=i⟩
def Itr (lo:Int) (n:Nat):It:=⟨λ i _=>i<n,λ i H x H'=>H'=H/\x=.int (lo+i),λ i _=>n<=i⟩
theorem a7d {P:Program} {w:World} {K:W.Frag} {tg:Expr} (a it:Addr):a7b P w K tg (Itl K a) [it] it (λ i h=>h.IsListIter it a i) where
 mem:=by simp
 obj:=λ i h st b hb=>by
  have e:b=it:=by simpa using hb
  subst e;obtain ⟨o,e,c,d⟩:=st;exact ⟨o,e,λ v z=>by rw [d] at z; cases z⟩
 keep:=λ i h h' st k=>st.at λ o e=>k it (by simp) o e
 item:=by
  intro X hP hw hK hc i pins s σ H E I hf st hg;subst hP hw hK;obtain ⟨xs,x,hq,hx⟩:=hg;obtain ⟨its,rv,p,hz⟩:=I.list hq;obtain ⟨u,hu,ru⟩:=rv.get hx;obtain ⟨f0,f1,f2,f3,f4,f5⟩:=hf it (by simp);refine wpAny_pyNext_list_item st p.isList (x:=u) (by simpa using hu) λ h' st' sb=>?_;have I1:Inv X pins σ H { s with heap:=h' }:=I.turned (t':=s.toks) (λ b o hb e=>(sb.2 b hb).trans e) f0 f1 f3 f4 f5;obtain ⟨o,e,c,d⟩:=id st';exact ⟨u,rfl,a7K (s:={ s with heap:=h' }) e c d (by decide) ⟨x,H,I1,ru,⟨rfl,λ ys hy=>by rw [I.list_inj hy hq]; exact hx⟩,st',λ b hb=>(hf b hb).1⟩⟩
 done:=by
  intro X hP hw hK hc i pins s σ H E I hf st hg;subst hP hw hK;obtain ⟨xs,hq,hx⟩:=hg;obtain ⟨its,rv,p,hz⟩:=I.list hq;obtain ⟨f0,f1,f2,f3,f4,f5⟩:=hf it (by simp);have hl:=rv.length;exact wpAny_pyNext_list_end (I.ok.hd hc) st p.isList (by simp; omega) λ h' eb=>⟨rfl,I.turned (t':=s.toks) (λ b o hb e=>eb b o hb e) f0 f1 f3 f4 f5⟩
 self:=λ _ _ _ _ _ st h=>wpAny_pyIter_listiter st h
theorem a5h {P:Program} {w:World} {K:W.Frag} {tg:Expr} (a it:Addr):a7b P w K tg (Itt K a) [it] it (λ i h=>h.IsTupleIter it a i) where
 mem:=by simp
 obj:=λ i h st b hb=>by
  have e:b=it:=by simpa using hb
  subst e;obtain ⟨o,e,c,d⟩:=st;exact ⟨o,e,λ v z=>by rw [d] at z; cases z⟩
 keep:=λ i h h' st k=>st.at λ o e=>k it (by simp) o e
 item:=by
  intro X hP hw hK hc i pins s σ H E I hf st hg;subst hP hw hK;obtain ⟨xs,x,hq,hx⟩:=hg;obtain ⟨its,rv,p,hz⟩:=I.tuple hq;obtain ⟨u,hu,ru⟩:=rv.get hx;obtain ⟨f0,f1,f2,f3,f4,f5⟩:=hf it (by simp);refine wpAny_pyNext_tuple_item st (show s.heap.IsTuple a its.toArray from p) (x:=u) (by simpa using hu) λ h' st' sb=>?_;have I1:Inv X pins σ H { s with heap:=h' }:=I.turned (t':=s.toks) (λ b o hb e=>(sb.2 b hb).trans e) f0 f1 f3 f4 f5;obtain ⟨o,e,c,d⟩:=id st';exact ⟨u,rfl,a7K (s:={ s with heap:=h' }) e c d (by decide) ⟨x,H,I1,ru,⟨rfl,λ ys hy=>by rw [I.tuple_inj hy hq]; exact hx⟩,st',λ b hb=>(hf b hb).1⟩⟩
 done:=by
  intro X hP hw hK hc i pins s σ H E I hf st hg;subst hP hw hK;obtain ⟨xs,hq,hx⟩:=hg;obtain ⟨its,rv,p,hz⟩:=I.tuple hq;obtain ⟨f0,f1,f2,f3,f4,f5⟩:=hf it (by simp);have hl:=rv.length;exact wpAny_pyNext_tuple_end (I.ok.hd hc) st (show s.heap.IsTuple a its.toArray from p) (by simp; omega) λ h' eb=>⟨rfl,I.turned (t':=s.toks) (λ b o hb e=>eb b o hb e) f0 f1 f3 f4 f5⟩
 self:=λ _ _ _ _ _ st h=>wpAny_pyIter_tupleiter st h
theorem a4Q {P:Program} {w:World} {K:W.Frag} {tg:Expr} (it:Addr) (lo:Int) (n:Nat):a7b P w K tg (Itr lo n) [it] it (λ i h=>IsRangeIter h it (lo+(i:Nat)*1) ((n:Int) - (i:Nat)) 1) where
 mem:=by simp
 obj:=λ i h st b hb=>by
  have e:b=it:=by simpa using hb
  subst e;exact ⟨_,st,λ v z=>by
   have z':Data.fields _=Data.cell v:=z
   cases z'⟩
 keep:=λ i h h' st k=>k it (by simp) _ st
 item:=by
  intro X hP hw hK hc i pins s σ H E I hf st hg;subst hP hw hK;obtain ⟨f0,f1,f2,f3,f4,f5⟩:=hf it (by simp);have W:=Walks.range (prog:=X.prog) (w:=X.w) (I.ok.hd hc) it lo 1 n;refine W.item i s _ _ hg st λ v h' tk hv st' kk=>?_;obtain ⟨t,rfl⟩:=hv;have I1:Inv X pins σ H { s with heap:=h',toks:=tk }:=I.turned (λ b o hb e=>kk b o (by simpa using hb) e) f0 f1 f3 f4 f5;refine ⟨_,rfl,a7K (s:={ s with heap:=h',toks:=tk }) (n:="range_iterator") st' rfl rfl (by decide) ⟨.int (lo+i),H,I1,⟨t,?_⟩,⟨rfl,rfl⟩,st',λ b hb=>(hf b hb).1⟩⟩;rw [Int.mul_one]
 done:=by
  intro X hP hw hK hc i pins s σ H E I hf st hg;subst hP hw hK;obtain ⟨f0,f1,f2,f3,f4,f5⟩:=hf it (by simp);exact wpAny_pyNext_range_end (I.ok.hd hc) st (by have:n<=i:=hg; omega) λ h' eb=>⟨rfl,I.turned (t':=s.toks) (λ b o hb e=>eb b o hb e) f0 f1 f3 f4 f5⟩
 self:=λ _ _ _ _ _ st h=>wpAny_pyIter_rangeiter st h
section
variable {X:Cx} {tg:Expr}
def b2X (K:W.Frag) (tl:TE):TI:=λ σ H R=>tl σ H λ x H1=>∃ a,x=.ref a/\(∃ xs,SqL K H1 a xs)/\R (Itl K a) H1
def b1P (K:W.Frag) (tl:TE):TI:=λ σ H R=>tl σ H λ x H1=>∃ a,x=.ref a/\(∃ xs,SqT K H1 a xs)/\R (Itt K a) H1
theorem A5 {l:Expr} {tl:TE} (hl:PE X l tl):PI X tg l (b2X X.K tl):=by
 intro pins s σ H R I h;refine G5 (hl pins s σ H _ I h) λ v s1 ⟨x,H1,I1,r1,q1⟩=>?_;obtain ⟨a,e,⟨xs,hq⟩,q⟩:=q1;subst e
 cases r1;obtain ⟨its,rv,p,hz⟩:=I1.list hq;refine wpAny_pyIter_list p.isList ?_;refine ⟨s1.heap.objs.size,[s1.heap.objs.size],_,_,H1,rfl,I1.kept (t':=s1.toks) λ b o e=>Heap.get?_push_of_some _ e,a7d a _,⟨_,Heap.get?_push_size _ rfl,rfl,rfl⟩,λ b hb=>?_,q⟩;have e:b=s1.heap.objs.size:=by simpa using hb
 subst e;exact I1.fpOk (Nat.le_refl _) (I1.hok.fresh (Nat.le_refl _))
theorem X4 {l:Expr} {tl:TE} (hl:PE X l tl):PI X tg l (b1P X.K tl):=by
 intro pins s σ H R I h;refine G5 (hl pins s σ H _ I h) λ v s1 ⟨x,H1,I1,r1,q1⟩=>?_;obtain ⟨a,e,⟨xs,hq⟩,q⟩:=q1;subst e
 cases r1;obtain ⟨its,rv,p,hz⟩:=I1.tuple hq;refine wpAny_pyIter_tuple (show s1.heap.IsTuple a its.toArray from p) ?_;refine ⟨s1.heap.objs.size,[s1.heap.objs.size],_,_,H1,rfl,I1.kept (t':=s1.toks) λ b o e=>Heap.get?_push_of_some _ e,a5h a _,⟨_,Heap.get?_push_size _ rfl,rfl,rfl⟩,λ b hb=>?_,q⟩;have e:b=s1.heap.objs.size:=by simpa using hb
 subst e;exact I1.fpOk (Nat.le_refl _) (I1.hok.fresh (Nat.le_refl _))
theorem a8b {pins:List (Addr×Obj)} {σ:St} {H:Hp} {s:Shared} {R:It->Hp->Prop} {E:Value->Shared->Prop} {lo hi:Int} {t u v:Tok} {tk:Nat} (I:Inv X pins σ H s) (h1:-(2 ^ 62)<=lo) (h2:lo<2 ^ 62) (h3:-(2 ^ 62)<=hi) (h4:hi<2 ^ 62)
  (q:R (Itr lo (hi - lo).toNat) H):wpAny (model X.prog X.w) X.A (pyIter (.ref s.heap.objs.size)) (PIE X pins σ tg R) E { s with heap:=s.heap.push { cls:=.type "range",data:=.fields #[.int lo t,.int hi u,.int 1 v] },toks:=tk }:=by
 refine wpAny_pyIter_range (IsRange.new ..) (small_one h1 h2 h3 h4) ?_;have I1:Inv X pins σ H { s with heap:=s.heap.push { cls:=.type "range",data:=.fields #[.int lo t,.int hi u,.int 1 v] },toks:=tk }:=I.kept λ b o e=>Heap.get?_push_of_some _ e;refine ⟨(s.heap.push { cls:=.type "range",data:=.fields #[.int lo t,.int hi u,.int 1 v] }).objs.size,[(s.heap.push { cls:=.type "range",data:=.fields #[.int lo t,.int hi u,.int 1 v] }).objs.size],_,_,H,rfl,
  I1.kept (t':=tk) λ b o e=>Heap.get?_push_of_some _ e,a4Q _ lo (hi - lo).toNat,?_,λ b hb=>?_,q⟩
 ·have e1:lo+((0:Nat):Int)*1=lo:=by simp
  have e2:(((hi - lo).toNat:Nat):Int) - ((0:Nat):Int)=Builtin.Range.rangeSize lo hi 1:=by rw [rangeSize_one]; split <;> omega
  show IsRangeIter _ _ (lo+((0:Nat):Int)*1) ((((hi - lo).toNat:Nat):Int) - ((0:Nat):Int)) 1
  rw [e1,e2];exact Heap.get?_push_size _ rfl
 ·have e:b=(s.heap.push { cls:=.type "range",data:=.fields #[.int lo t,.int hi u,.int 1 v] }).objs.size:=by simpa using hb
  subst e;exact I1.fpOk (Nat.le_refl _) (I1.hok.fresh (Nat.le_refl _))
def b3a (ta:TA):TI:=λ σ H R=>ta σ H λ vs H1=>∃ j:Int,vs=[.int j]/\-(2 ^ 62)<=j/\j<2 ^ 62/\R (Itr 0 j.toNat) H1
theorem O1 {a:Expr} {ta:TA} {p pos:Pos} (hg:Gl X "range") (hm:X.mg "range"=none) (ha:PA X [a] ta) (hs:starEach [a] X.env=[(false,eval a X.env)]:=by rfl):PI X tg (.Call (.Name "range" p) [a] [] pos) (b3a ta):=by
 intro pins s σ H R I h;refine Call_ (a0h I hg hm boot_range (PyProof.Rows.callWith_type1 (G5 (ha pos pins s σ H _ I h) λ us s1 ⟨vs,H1,I1,r1,q1⟩=>?_) hs rfl));obtain ⟨j,e,q1,q2,q⟩:=q1;subst e
 cases r1 with
 | cons r rr =>
  cases rr;obtain ⟨t,rfl⟩:=r;exact call_range_1 (a8b I1 (by omega) (by omega) q1 q2 (by simpa using q))
def b4y (wi:TI) (g:TG) (tb:TS):TS:=λ D σ H=>wi σ H λ J H1=>∃ W:Nat->Nat->St->Hp->Prop,(∃ m,W 0 m σ H1)/\∀ i m σ H,W i m σ H →
 (J.stop i H/\D.nx σ H)\/(J.go i H/\∃ N:St->Hp->Prop,(∀ σ' H',N σ' H'->∃ m',m'<m/\W (i+1) m' σ' H')/\∀ x H',J.yld i H x H'->g x σ H' λ σ2 H2=>tb { D with nx:=N,ct:=N,bk:=D.nx } σ2 H2)
def a1Y (fp:List Addr) (h:Heap):List (Addr×Obj):=fp.filterMap λ b=>(h.get? b).map λ o=>(b,o)
theorem U9 {fp:List Addr} {h:Heap} {b:Addr} {o:Obj} (hb:b∈fp) (e:h.get? b=some o):(b,o)∈a1Y fp h:=List.mem_filterMap.mpr ⟨b,hb,by rw [e]; rfl⟩
theorem a7i {fp:List Addr} {h:Heap} {p:Addr×Obj} (hp:p∈a1Y fp h):p.1∈fp/\h.get? p.1=some p.2:=by
 obtain ⟨b,hb,e⟩:=List.mem_filterMap.mp hp
 cases q:h.get? b with
 | none=>rw [q] at e; cases e
 | some o =>
  rw [q] at e;have e':(b,o)=p:=Option.some.inj e;subst e';exact ⟨hb,q⟩
theorem Inv.pinned {pins:List (Addr×Obj)} {σ:St} {H:Hp} {s:Shared} {fp:List Addr} (I:Inv X pins σ H s) (hf:∀ b∈fp,V9 X pins H b) (ho:∀ b∈fp,∃ o,s.heap.get? b=some o/\∀ v,o.data≠.cell v):Inv X (pins++a1Y fp s.heap) σ H s :=
 I.pins_of λ p hp=>(List.mem_append.mp hp).elim (λ z=>I.pin p (List.mem_append_right _ z)) λ z=>by
  obtain ⟨hb,e⟩:=a7i z;obtain ⟨f0,f1,f2,_⟩:=hf p.1 hb;obtain ⟨o,e',d⟩:=ho p.1 hb;rw [e] at e'; cases e';exact ⟨e,f0,f1,f2,d⟩
theorem Inv.unpinned {pins pl:List (Addr×Obj)} {σ:St} {H:Hp} {s:Shared} (I:Inv X (pins++pl) σ H s):Inv X pins σ H s:=I.pins_of λ p hp=>I.pin p (List.mem_append_right _ (List.mem_append_left _ hp))
theorem P7 {iter:Expr} {body:List Stmt} {wi:TI} {g:TG} {tb:TS} {pos:Pos} (hp:PassesOwn (model X.prog X.w) X.A X.env X.xe) (hc:X.calm=true) (hi:PI X tg iter wi) (hg:PG X tg g) (hb:PSs X body tb)
  (hs:∀ x,foldedSetIterable iter X.env x=pure x:=by intro _; rfl):PS X (.For tg iter body [] pos) (b4y wi g tb):=by
 intro pins s σ H D I h;refine wpAny_For (G5 (hi pins s σ H _ I h) λ v s1 h1=>G5 h1 λ itv s2 h2=>?_) hs;obtain ⟨it,fp,tn,J,H2,e,I2,T,st2,f2,W,⟨m0,w0⟩,turn⟩:=h2;subst e;have stat:∀ {H':Hp},(∀ b∈fp,H' b=none)->∀ b∈fp,V9 X pins H' b:=λ hn b hb=>⟨hn b hb,(f2 b hb).2⟩;refine codeAny_forLoop_any (λ n s'=>∃ i σ' H',Inv X pins σ' H' s'/\tn i s'.heap/\(∀ b∈fp,H' b=none)/\W i n σ' H') ?_ m0 ⟨0,σ,H2,I2,st2,λ b hb=>(f2 b hb).1,w0⟩;rintro n s3 ⟨i,σ3,H3,I3,st3,fr3,w3⟩;rcases turn i n σ3 H3 w3 with ⟨stop,qn⟩ | ⟨go,N,hN,step⟩
 ·refine wpAny_passesOwn hp (G5 (T.done X rfl rfl rfl hc i pins s3 σ3 H3 X.xe I3 (stat fr3) st3 stop) λ r s4 ⟨hr,I4⟩=>?_)
  subst hr;exact wpAny_execs_nil ⟨σ3,H3,I4,qn⟩
 ·refine wpAny_passesOwn hp (G5 (T.item X rfl rfl rfl hc i pins s3 σ3 H3 X.xe I3 (stat fr3) st3 go) λ r s4 ⟨u,hr,h4⟩=>?_)
  subst hr;refine wpAny_passesOwn hp (G5 h4 λ _ s5 ⟨x,H5,I5,r5,y5,st5,fr5⟩=>?_);have I5':=I5.pinned (stat fr5) (T.obj _ _ st5);refine wpAny_passesOwn hp (G5 (hg _ s5 σ3 H5 x u _ I5' r5 (step x H5 y5)) λ _ s6 ⟨σ6,H6,I6,q6⟩=>?_);refine wpAny_passesOwn hp (G5 (hb _ s6 σ6 H6 _ I6 q6) λ f s7 q7=>?_);have again:∀ {σ7:St} {H7:Hp},Inv X (pins++a1Y fp s5.heap) σ7 H7 s7->N σ7 H7->∃ m,m<n/\∃ i σ' H',Inv X pins σ' H' s7/\tn i s7.heap/\(∀ b∈fp,H' b=none)/\W i m σ' H':=λ {σ7 H7} I7 n7=>by
   obtain ⟨m',hm,w7⟩:=hN σ7 H7 n7;refine ⟨m',hm,i+1,σ7,H7,I7.unpinned,T.keep _ _ _ st5 λ b hb o e=>(I7.pin (b,o) (List.mem_append_right _ (List.mem_append_right _ (U9 hb e)))).1,λ b hb=>?_,w7⟩;obtain ⟨o,e,d⟩:=T.obj _ _ st5 b hb;exact (I7.pin (b,o) (List.mem_append_right _ (List.mem_append_right _ (U9 hb e)))).2.1
  cases f with
  | next=>obtain ⟨σ7,H7,I7,n7⟩:=q7; exact again I7 n7
  | cont=>obtain ⟨σ7,H7,I7,n7⟩:=q7; exact again I7 n7
  | brk=>obtain ⟨σ7,H7,I7,q7⟩:=q7; exact ⟨σ7,H7,I7.unpinned,q7⟩
  | ret v=>obtain ⟨x7,σ7,H7,I7,r7,q7⟩:=q7; exact ⟨x7,σ7,H7,I7.unpinned,r7,q7⟩
end
theorem a4z {K:W.Frag} {a:Addr} {xs:List V} {g:TG} {tb:TS} {D:Ends} {σ:St} {H:Hp} (Pv:Nat->St->Hp->Prop) (h0:Pv 0 σ H) (hl:∀ i σ H,i<=xs.length->Pv i σ H->SqL K H a xs)
  (hs:∀ i x σ H,xs[i]?=some x->Pv i σ H->g x σ H λ σ2 H2=>tb { D with nx:=Pv (i+1),ct:=Pv (i+1),bk:=D.nx } σ2 H2) (hd:∀ σ H,Pv xs.length σ H->D.nx σ H) :
  ∃ W:Nat->Nat->St->Hp->Prop,(∃ m,W 0 m σ H)/\∀ i m σ H,W i m σ H →
   ((Itl K a).stop i H/\D.nx σ H)\/((Itl K a).go i H/\∃ N:St->Hp->Prop,(∀ σ' H',N σ' H'->∃ m',m'<m/\W (i+1) m' σ' H')/\∀ x H',(Itl K a).yld i H x H'->g x σ H' λ σ2 H2=>tb { D with nx:=N,ct:=N,bk:=D.nx } σ2 H2):=by
 refine ⟨λ i m σ H=>m=xs.length - i/\i<=xs.length/\Pv i σ H,⟨xs.length,by simp,Nat.zero_le _,h0⟩,?_⟩;rintro i m σ H ⟨rfl,hi,p⟩;have q:=hl i σ H hi p
 by_cases hlt:i<xs.length
 ·refine .inr ⟨⟨xs,xs[i],q,by simp [hlt]⟩,Pv (i+1),λ σ' H' p'=>⟨xs.length - (i+1),by omega,rfl,hlt,p'⟩,λ x H' y=>?_⟩
  obtain ⟨e,y⟩:=y;subst e;exact hs i x σ _ (y xs q) p
 ·have e:i=xs.length:=by omega
  subst e;exact .inl ⟨⟨xs,q,Nat.le_refl _⟩,hd σ H p⟩
theorem T9 {lo:Int} {n:Nat} {g:TG} {tb:TS} {D:Ends} {σ:St} {H:Hp} (Pv:Nat->St->Hp->Prop) (h0:Pv 0 σ H)
  (hs:∀ i σ H,i<n->Pv i σ H->g (.int (lo+i)) σ H λ σ2 H2=>tb { D with nx:=Pv (i+1),ct:=Pv (i+1),bk:=D.nx } σ2 H2) (hd:∀ σ H,Pv n σ H->D.nx σ H) :
  ∃ W:Nat->Nat->St->Hp->Prop,(∃ m,W 0 m σ H)/\∀ i m σ H,W i m σ H →
   ((Itr lo n).stop i H/\D.nx σ H)\/((Itr lo n).go i H/\∃ N:St->Hp->Prop,(∀ σ' H',N σ' H'->∃ m',m'<m/\W (i+1) m' σ' H')/\∀ x H',(Itr lo n).yld i H x H'->g x σ H' λ σ2 H2=>tb { D with nx:=N,ct:=N,bk:=D.nx } σ2 H2):=by
 refine ⟨λ i m σ H=>m=n - i/\i<=n/\Pv i σ H,⟨n,by simp,Nat.zero_le _,h0⟩,?_⟩;rintro i m σ H ⟨rfl,hi,p⟩
 by_cases hlt:i<n
 ·refine .inr ⟨hlt,Pv (i+1),λ σ' H' p'=>⟨n - (i+1),by omega,rfl,hlt,p'⟩,λ x H' y=>?_⟩
  obtain ⟨e,y⟩:=y;subst e y;exact hs i σ _ hlt p
 ·have e:i=n:=by omega
  subst e;exact .inl ⟨Nat.le_refl _,hd σ H p⟩
theorem a4A {c:TT} {tb:TS} {D:Ends} {σ:St} {H:Hp} (Pv:St->Hp->Prop) (μ:St->Hp->Nat) (h0:Pv σ H)
  (hs:∀ σ H,Pv σ H->c σ H λ b H1=>if b=true then tb { D with nx:=λ σ' H'=>Pv σ' H'/\μ σ' H'<μ σ H,ct:=λ σ' H'=>Pv σ' H'/\μ σ' H'<μ σ H,bk:=D.nx } σ H1 else D.nx σ H1)
  (mono:∀ σ H Q Q',(∀ b H1,Q b H1->Q' b H1)->c σ H Q->c σ H Q'):a8U c tb D σ H:=by
 refine ⟨λ m σ H=>m=μ σ H/\Pv σ H,⟨_,rfl,h0⟩,?_⟩;rintro m σ H ⟨rfl,p⟩;refine mono σ H _ _ (λ b H1 q=>?_) (hs σ H p)
 cases b with
 | true=>exact ⟨_,λ σ' H' ⟨p',l⟩=>⟨_,l,rfl,p'⟩,q⟩
 | false=>exact q
abbrev R2:=V->V->Hp->VK->Prop
def OpR (X:Cx) (f:Value->Value->Sem Value) (r:R2):Prop :=
 ∀ (pins:List (Addr×Obj)) (s:Shared) (σ:St) (H:Hp) (x y:V) (v u:Value) (Q:VK),Inv X pins σ H s->RelV x v->RelV y u->r x y H Q →
  wpAny (model X.prog X.w) X.A (f v u) (EP X pins σ Q) X.xe s
def UnR (X:Cx) (f:Value->Sem Value) (r:V->Hp->VK->Prop):Prop :=
 ∀ (pins:List (Addr×Obj)) (s:Shared) (σ:St) (H:Hp) (x:V) (v:Value) (Q:VK),Inv X pins σ H s->RelV x v->r x H Q →
  wpAny (model X.prog X.w) X.A (f v) (EP X pins σ Q) X.xe s
def N6 (X:Cx) (f:Value) (r:List V->Hp->VK->Prop):Prop :=
 ∀ (pins:List (Addr×Obj)) (s:Shared) (σ:St) (H:Hp) (xs:List V) (us:List Value) (Q:VK),Inv X pins σ H s->Vals xs us->r xs H Q →
  wpAny (model X.prog X.w) X.A (call f us) (EP X pins σ Q) X.xe s
def tOp (r:R2) (ta tb:TE):TE:=λ σ H Q=>ta σ H λ x H1=>tb σ H1 λ y H2=>r x y H2 Q
def tUn (r:V->Hp->VK->Prop) (ta:TE):TE:=λ σ H Q=>ta σ H λ x H1=>r x H1 Q
def rI (C:Int->Int->Prop) (g:Int->Int->V):R2:=λ x y H Q=>∃ i j,x=.int i/\y=.int j/\C i j/\Q (g i j) H
def rI0 (g:Int->Int->V):R2:=λ x y H Q=>∃ i j,x=.int i/\y=.int j/\Q (g i j) H
def rU (g:Int->V):V->Hp->VK->Prop:=λ x H Q=>∃ i,x=.int i/\Q (g i) H
section
variable {X:Cx} {a b c:Expr} {ta tb tc:TE} {pos:Pos}
theorem b1v (ha:PE X a ta) (hb:PE X b tb) {pins:List (Addr×Obj)} {s:Shared} {σ:St} {H:Hp} {R:V->V->Hp->Prop} (I:Inv X pins σ H s)
  (h:ta σ H λ x H1=>tb σ H1 λ y H2=>R x y H2) {Q:Value->Shared->Prop} {f:Value->Value->Sem Value}
  (hf:∀ v u s2 x y H2,Inv X pins σ H2 s2->RelV x v->RelV y u->R x y H2->wpAny (model X.prog X.w) X.A (f v u) Q X.xe s2) :
  wpAny (model X.prog X.w) X.A (eval a X.env) (λ v s₁=>wpAny (model X.prog X.w) X.A (eval b X.env) (λ u s₂=>wpAny (model X.prog X.w) X.A (f v u) Q X.xe s₂) X.xe s₁) X.xe s:=by
 refine G5 (ha pins s σ H _ I h) λ v s1 ⟨x,H1,I1,r1,q1⟩=>?_;refine G5 (hb pins s1 σ H1 _ I1 q1) λ u s2 ⟨y,H2,I2,r2,q2⟩=>?_;exact hf v u s2 x y H2 I2 r1 r2 q2
theorem j3 {op:Operator} {r:R2} (ho:OpR X (binaryOp op) r) (ha:PE X a ta) (hb:PE X b tb):PE X (.BinOp a op b pos) (tOp r ta tb):=by
 intro pins s σ H Q I h;exact wpAny_BinOp (b1v ha hb I h λ v u s2 x y H2 I2 rx ry q=>ho pins s2 σ H2 x y v u Q I2 rx ry q)
theorem M3 {op:UnaryOp} {r:V->Hp->VK->Prop} (ho:UnR X (unaryOp op) r) (ha:PE X a ta):PE X (.UnaryOp op a pos) (tUn r ta):=by
 intro pins s σ H Q I h;exact UnaryOp_ (G5 (ha pins s σ H _ I h) λ v s1 ⟨x,H1,I1,r1,q1⟩=>ho pins s1 σ H1 x v Q I1 r1 q1)
theorem opI {f:Value->Value->Sem Value} {C:Int->Int->Prop} {g:Int->Int->Int}
  (rule:∀ (i j:Int) (t u:Tok) (s:Shared) (Q:Value->Shared->Prop) (E:Value->Shared->Prop),C i j->Q (.int (g i j) s.toks) { s with toks:=s.toks+1 }->wpAny (model X.prog X.w) X.A (f (.int i t) (.int j u)) Q E s) :
  OpR X f (rI C λ i j=>.int (g i j)):=by
 intro pins s σ H x y v u Q I rx ry h;obtain ⟨i,j,rfl,rfl,hc,q⟩:=h;obtain ⟨t,rfl⟩:=rx;obtain ⟨t',rfl⟩:=ry;exact rule i j t t' s _ _ hc ⟨.int (g i j),H,I.tok _,⟨_,rfl⟩,q⟩
theorem b2O {f:Value->Value->Sem Value} {g:Int->Int->Int}
  (rule:∀ (i j:Int) (t u:Tok) (s:Shared) (Q:Value->Shared->Prop) (E:Value->Shared->Prop),Q (.int (g i j) s.toks) { s with toks:=s.toks+1 }->wpAny (model X.prog X.w) X.A (f (.int i t) (.int j u)) Q E s) :
  OpR X f (rI0 λ i j=>.int (g i j)):=by
 intro pins s σ H x y v u Q I rx ry h;obtain ⟨i,j,rfl,rfl,q⟩:=h;obtain ⟨t,rfl⟩:=rx;obtain ⟨t',rfl⟩:=ry;exact rule i j t t' s _ _ ⟨.int (g i j),H,I.tok _,⟨_,rfl⟩,q⟩
theorem a9o {f:Value->Value->Sem Value} {g:Int->Int->Bool}
  (rule:∀ (i j:Int) (t u:Tok) (s:Shared) (Q:Value->Shared->Prop) (E:Value->Shared->Prop),Q (.bool (g i j)) s->wpAny (model X.prog X.w) X.A (f (.int i t) (.int j u)) Q E s) :
  OpR X f (rI0 λ i j=>.bl (g i j)):=by
 intro pins s σ H x y v u Q I rx ry h;obtain ⟨i,j,rfl,rfl,q⟩:=h;obtain ⟨t,rfl⟩:=rx;obtain ⟨t',rfl⟩:=ry;exact rule i j t t' s _ _ ⟨.bl (g i j),H,I,rfl,q⟩
def b2T (i j:Int):Prop:=0<j/\j<1073741824
def b4o (i j:Int):Prop:=0<=j/\j<=1000000/\i.natAbs<2 ^ 64
def CMul (i j:Int):Prop:=(-(2 ^ 64)<i/\i<2 ^ 64)\/(-(2 ^ 64)<j/\j<2 ^ 64)
theorem CMul.ok {i j:Int} (h:CMul i j):IntMulOk i j:=by
 rcases h with ⟨h1,h2⟩ | ⟨h1,h2⟩
 ·exact .of_left (intBits_le_64 h1 h2)
 ·exact .of_right (intBits_le_64 h1 h2)
theorem C4:OpR X (binaryOp .Add) (rI0 λ i j=>.int (i+j)):=b2O λ _ _ _ _ _ _ _ q=>add_int q
theorem W7:OpR X (binaryOp .Sub) (rI0 λ i j=>.int (i - j)):=b2O λ _ _ _ _ _ _ _ q=>sub_int q
theorem W2:OpR X (binaryOp .Mult) (rI CMul λ i j=>.int (i*j)):=opI λ _ _ _ _ _ _ _ hc q=>mul_int q hc.ok
theorem L8:OpR X (binaryOp .FloorDiv) (rI b2T λ i j=>.int (i / j)):=opI λ i j _ _ _ _ _ hc q=>by
 have h1:(0:Int)<j:=hc.1;have h2:j<1073741824:=hc.2;exact floordiv_int (by omega) (by rw [Int.fdiv_eq_ediv_of_nonneg i (by omega)]; exact q) (.inl (PyProof.noPylong_small (by omega)))
theorem u9:OpR X (binaryOp .Mod) (rI (λ _ j=>0<j) λ i j=>.int (i % j)):=opI λ i j _ _ _ _ _ hc q=>by
 have h1:(0:Int)<j:=hc;exact mod_int' (by omega) (by rw [Int.fmod_eq_emod_of_nonneg i (by omega)]; exact q)
theorem a0a:OpR X (binaryOp .Pow) (rI b4o λ i j=>.int (i ^ j.toNat)):=opI λ _ _ _ _ _ _ _ hc q=>pow_int_small hc.1 hc.2.1 hc.2.2 q
theorem unI {f:Value->Sem Value} {g:Int->Int}
  (rule:∀ (i:Int) (t:Tok) (s:Shared) (Q:Value->Shared->Prop) (E:Value->Shared->Prop),Q (.int (g i) s.toks) { s with toks:=s.toks+1 }->wpAny (model X.prog X.w) X.A (f (.int i t)) Q E s) :
  UnR X f (rU λ i=>.int (g i)):=by
 intro pins s σ H x v Q I rx h;obtain ⟨i,rfl,q⟩:=h;obtain ⟨t,rfl⟩:=rx;exact rule i t s _ _ ⟨.int (g i),H,I.tok _,⟨_,rfl⟩,q⟩
theorem G7:UnR X (unaryOp .USub) (rU λ i=>.int (-i)):=unI λ _ _ _ _ _ q=>neg_int q
end
def b2R:V->V->Bool
 | .non,.non=>true | .non,.int _=>true | .int _,.non=>true | .non,.bl _=>true | .bl _,.non=>true | .non,.str _=>true | .str _,.non=>true
 | .int _,.int _=>true | .bl _,.bl _=>true | .str _,.str _=>true | .byt _,.byt _=>true
 | .int _,.str _=>true | .str _,.int _=>true | .bl _,.str _=>true | .str _,.bl _=>true
 | _,_=>false
def rEq:R2:=λ x y H Q=>b2R x y=true/\Q (.bl (decide (x=y))) H
def rNe:R2:=λ x y H Q=>b2R x y=true/\Q (.bl (!decide (x=y))) H
theorem a6t {i j:Int}:decide (V.int i=V.int j)=(i==j):=by
 rw [Bool.eq_iff_iff];simp
theorem a8Z {i j:Bool}:decide (V.bl i=V.bl j)=(i==j):=by
 rw [Bool.eq_iff_iff];simp
theorem a6l {i j:Str}:decide (V.str i=V.str j)=(i==j):=by
 rw [Bool.eq_iff_iff];simp
theorem a5O {i j:Array UInt8}:decide (V.byt i=V.byt j)=(i.toList==j.toList):=by
 rw [Bool.eq_iff_iff]
 cases i
 cases j;simp
section
variable {X:Cx} {a b c:Expr} {ta tb tc:TE} {pos:Pos}
theorem B7 {pins:List (Addr×Obj)} {σ:St} {H:Hp} {s:Shared} {Q:VK} {k k':Bool} (I:Inv X pins σ H s) (q:Q (.bl k) H) (e:k=k'):EP X pins σ Q (.bool k') s:=by
 subst e;exact ⟨.bl k,H,I,rfl,q⟩
theorem G8:OpR X (compareOp .Eq) rEq:=by
 intro pins s σ H x y v u Q I rx ry h;obtain ⟨hs,q⟩:=h
 cases x with
 | non =>
  cases rx
  cases y with
  | non=>cases ry; exact PySem.EqNone.eq_none_none (B7 I q (by simp))
  | bl j=>cases ry; exact PySem.EqNone.eq_none_bool (B7 I q (by simp))
  | int j=>obtain ⟨t',rfl⟩:=ry; exact PySem.EqNone.eq_none_int (B7 I q (by simp))
  | str j=>obtain ⟨t',rfl⟩:=ry; exact PySem.EqNone.eq_none_str (B7 I q (by simp))
  | _=>exact absurd (show false=true from hs) Bool.false_ne_true
 | bl i =>
  cases rx
  cases y with
  | non=>cases ry; exact PySem.EqNone.eq_bool_none (B7 I q (by simp))
  | bl j=>cases ry; exact eq_bool (B7 I q a8Z)
  | str j=>obtain ⟨t',rfl⟩:=ry; exact PySem.EqMixed.eq_bool_str (B7 I q (by simp))
  | _=>exact absurd (show false=true from hs) Bool.false_ne_true
 | int i =>
  obtain ⟨t,rfl⟩:=rx
  cases y with
  | non=>cases ry; exact PySem.EqNone.eq_int_none (B7 I q (by simp))
  | int j=>obtain ⟨t',rfl⟩:=ry; exact eq_int (B7 I q a6t)
  | str j=>obtain ⟨t',rfl⟩:=ry; exact PySem.EqMixed.eq_int_str (B7 I q (by simp))
  | _=>exact absurd (show false=true from hs) Bool.false_ne_true
 | str i =>
  obtain ⟨t,rfl⟩:=rx
  cases y with
  | non=>cases ry; exact PySem.EqNone.eq_str_none (B7 I q (by simp))
  | bl j=>cases ry; exact PySem.EqMixed.eq_str_bool (B7 I q (by simp))
  | int j=>obtain ⟨t',rfl⟩:=ry; exact PySem.EqMixed.eq_str_int (B7 I q (by simp))
  | str j=>obtain ⟨t',rfl⟩:=ry; exact eq_str (B7 I q a6l)
  | _=>exact absurd (show false=true from hs) Bool.false_ne_true
 | byt i =>
  obtain ⟨t,rfl⟩:=rx
  cases y with
  | byt j=>obtain ⟨t',rfl⟩:=ry; exact W.eq_bytes (B7 I q a5O)
  | _=>exact absurd (show false=true from hs) Bool.false_ne_true
 | _=>cases y <;> exact absurd (show false=true from hs) Bool.false_ne_true
theorem a0z:OpR X (compareOp .NotEq) rNe:=by
 intro pins s σ H x y v u Q I rx ry h;obtain ⟨hs,q⟩:=h
 cases x with
 | non =>
  cases rx
  cases y with
  | non=>cases ry; exact PySem.EqNone.ne_none_none (B7 I q (by simp))
  | bl j=>cases ry; exact PySem.EqNone.ne_none_bool (B7 I q (by simp))
  | int j=>obtain ⟨t',rfl⟩:=ry; exact PySem.EqNone.ne_none_int (B7 I q (by simp))
  | str j=>obtain ⟨t',rfl⟩:=ry; exact PySem.EqNone.ne_none_str (B7 I q (by simp))
  | _=>exact absurd (show false=true from hs) Bool.false_ne_true
 | bl i =>
  cases rx
  cases y with
  | non=>cases ry; exact PySem.EqNone.ne_bool_none (B7 I q (by simp))
  | bl j=>cases ry; exact ne_bool (B7 I q (congrArg not a8Z))
  | str j=>obtain ⟨t',rfl⟩:=ry; exact PySem.EqMixed.ne_bool_str (B7 I q (by simp))
  | _=>exact absurd (show false=true from hs) Bool.false_ne_true
 | int i =>
  obtain ⟨t,rfl⟩:=rx
  cases y with
  | non=>cases ry; exact PySem.EqNone.ne_int_none (B7 I q (by simp))
  | int j=>obtain ⟨t',rfl⟩:=ry; exact ne_int (B7 I q (congrArg not a6t))
  | str j=>obtain ⟨t',rfl⟩:=ry; exact PySem.EqMixed.ne_int_str (B7 I q (by simp))
  | _=>exact absurd (show false=true from hs) Bool.false_ne_true
 | str i =>
  obtain ⟨t,rfl⟩:=rx
  cases y with
  | non=>cases ry; exact PySem.EqNone.ne_str_none (B7 I q (by simp))
  | bl j=>cases ry; exact PySem.EqMixed.ne_str_bool (B7 I q (by simp))
  | int j=>obtain ⟨t',rfl⟩:=ry; exact PySem.EqMixed.ne_str_int (B7 I q (by simp))
  | str j=>obtain ⟨t',rfl⟩:=ry; exact ne_str (B7 I q (congrArg not a6l))
  | _=>exact absurd (show false=true from hs) Bool.false_ne_true
 | byt i =>
  obtain ⟨t,rfl⟩:=rx
  cases y with
  | byt j=>obtain ⟨t',rfl⟩:=ry; exact W.ne_bytes (B7 I q (congrArg not a5O))
  | _=>exact absurd (show false=true from hs) Bool.false_ne_true
 | _=>cases y <;> exact absurd (show false=true from hs) Bool.false_ne_true
theorem Q0:OpR X (compareOp .Lt) (rI0 λ i j=>.bl (decide (i<j))):=a9o λ _ _ _ _ _ _ _ q=>lt_int q
theorem a2I:OpR X (compareOp .LtE) (rI0 λ i j=>.bl (decide (i<=j))):=a9o λ _ _ _ _ _ _ _ q=>le_int q
theorem V8:OpR X (compareOp .Gt) (rI0 λ i j=>.bl (decide (j<i))):=a9o λ _ _ _ _ _ _ _ q=>gt_int q
theorem a6B:OpR X (compareOp .GtE) (rI0 λ i j=>.bl (decide (j<=i))):=a9o λ _ _ _ _ _ _ _ q=>ge_int q
theorem a7F:OpR X (compareOp .Is) (λ x y H Q=>y=.non/\Q (.bl (decide (x=.non))) H):=by
 intro pins s σ H x y v u Q I rx ry h;obtain ⟨rfl,q⟩:=h
 cases ry;refine is_none_gen (B7 I q ?_)
 cases x <;> first
  | (cases rx; rfl)
  | (obtain ⟨t,rfl⟩:=rx; rfl)
theorem a9v:OpR X (compareOp .IsNot) (λ x y H Q=>y=.non/\Q (.bl (!decide (x=.non))) H):=by
 intro pins s σ H x y v u Q I rx ry h;obtain ⟨rfl,q⟩:=h
 cases ry;refine isnot_none_gen (B7 I q ?_)
 cases x <;> first
  | (cases rx; rfl)
  | (obtain ⟨t,rfl⟩:=rx; rfl)
theorem m8 (b:Expr) {op:CmpOp} (h:op≠.In:=by decide) (h2:op≠.NotIn:=by decide):behindInMarks op b=false:=by
 have e1:(op==CmpOp.In)=false:=by cases op <;> first | rfl | exact absurd rfl h
 have e2:(op==CmpOp.NotIn)=false:=by cases op <;> first | rfl | exact absurd rfl h2
 cases b <;> simp [behindInMarks,e1,e2]
theorem C2 {op:CmpOp} {r:R2} (ho:OpR X (compareOp op) r) (ha:PE X a ta) (hb:PE X b tb) (hm:behindInMarks op b=false):PE X (.Compare a [op] [b] pos) (tOp r ta tb):=by
 intro pins s σ H Q I h;exact wpAny_Compare1 (b1v ha hb I h λ v u s2 x y H2 I2 rx ry q=>ho pins s2 σ H2 x y v u Q I2 rx ry q) hm
def b0G (t:TE):TT:=λ σ H Q=>t σ H λ x H'=>∃ k,x=.bl k/\Q k H'
theorem p7 {op:CmpOp} {r:R2} (ho:OpR X (compareOp op) r) (ha:PE X a ta) (hb:PE X b tb) (hm:behindInMarks op b=false):PT X (.Compare a [op] [b] pos) (b0G (tOp r ta tb)):=by
 intro pins s σ H Q I h;refine wpAny_isTrue_Compare1 (G5 (ha pins s σ H _ I h) λ v s1 ⟨x,H1,I1,r1,q1⟩=>G5 (hb pins s1 σ H1 _ I1 q1) λ u s2 ⟨y,H2,I2,r2,q2⟩ =>
  G5 (ho pins s2 σ H2 x y v u _ I2 r1 r2 q2) λ c s3 ⟨z,H3,I3,r3,k,e,q3⟩=>?_) hm
 subst e
 cases r3;exact wpAny_truthy_bool ⟨H3,I3,q3⟩
def b1x (r r':R2) (ta tb tc:TE):TE:=λ σ H Q=>ta σ H λ x H1=>tb σ H1 λ y H2=>r x y H2 λ z H3=>∃ k,z=.bl k ∧
 (if k=true then tc σ H3 λ w' H4=>r' y w' H4 Q else Q (.bl false) H3)
theorem a7C {op op':CmpOp} {r r':R2} (ho:OpR X (compareOp op) r) (ho':OpR X (compareOp op') r') (ha:PE X a ta) (hb:PE X b tb) (hc:PE X c tc)
  (hm:lastMarks [op,op'] [b,c]=false:=by with_unfolding_all rfl):PT X (.Compare a [op,op'] [b,c] pos) (b0G (b1x r r' ta tb tc)):=by
 intro pins s σ H Q I h;refine isTrue_chain (G5 (ha pins s σ H _ I h) λ v s1 ⟨x,H1,I1,r1,q1⟩=>test_link (G5 (hb pins s1 σ H1 _ I1 q1) λ u s2 ⟨y,H2,I2,r2,q2⟩ =>
  G5 (ho pins s2 σ H2 x y v u _ I2 r1 r2 q2) λ d s3 ⟨z,H3,I3,r3,k,e,q3⟩=>?_)) hm
 subst e
 cases r3;refine wpAny_truthy_bool ?_
 cases k with
 | false =>
  obtain ⟨k',e',q'⟩:=q3
  cases e';exact ite_ff ⟨H3,I3,q'⟩
 | true =>
  refine ite_tt (test_last (G5 (hc pins s3 σ H3 _ I3 q3) λ w' s4 ⟨z',H4,I4,r4,q4⟩=>G5 (ho' pins s4 σ H4 y z' u w' _ I4 r2 r4 q4) λ d' s5 ⟨z2,H5,I5,r5,k2,e2,q5⟩=>?_));subst e2
  cases r5;exact wpAny_truthy_bool ⟨H5,I5,q5⟩
theorem a3o:(sizeLine:Nat)<2 ^ 63:=by rw [sizeLine_eq]; decide
theorem S3 {x:V} {us:List Value} (r:Vals [x] us):∃ u,us=[u]/\RelV x u:=by
 cases r with
 | cons r1 r2=>cases r2; exact ⟨_,rfl,r1⟩
theorem a4g {x y:V} {us:List Value} (r:Vals [x,y] us):∃ u w',us=[u,w']/\RelV x u/\RelV y w':=by
 cases r with
 | cons r1 r2 =>
  cases r2 with
  | cons r3 r4=>cases r4; exact ⟨_,_,rfl,r1,r3⟩
theorem a8B:N6 X (.builtin "abs") (λ xs H Q=>∃ i,xs=[.int i]/\Q (.int (if i<0 then -i else i)) H):=by
 intro pins s σ H xs us Q I r h;obtain ⟨i,rfl,q⟩:=h;obtain ⟨u,rfl,t,rfl⟩:=S3 r;exact call_abs_int λ u tk=>⟨.int (if i<0 then -i else i),H,I.tok _,⟨_,rfl⟩,q⟩
theorem a7j (hc:X.calm=true):N6 X (.builtin "max") (λ xs H Q=>∃ i j,xs=[.int i,.int j]/\Q (.int (if j>i then j else i)) H):=by
 intro pins s σ H xs us Q I r h;obtain ⟨i,j,rfl,q⟩:=h;obtain ⟨u,w',rfl,⟨t,rfl⟩,⟨t',rfl⟩⟩:=a4g r;refine max_two_ints (I.ok.hd hc) λ h' tk k=>⟨_,H,I.kept k,?_,q⟩
 by_cases hj:j>i
 ·rw [if_pos hj,if_pos hj]; exact ⟨_,rfl⟩
 ·rw [if_neg hj,if_neg hj]; exact ⟨_,rfl⟩
theorem Y2 (hc:X.calm=true):N6 X (.builtin "min") (λ xs H Q=>∃ i j,xs=[.int i,.int j]/\Q (.int (if j<i then j else i)) H):=by
 intro pins s σ H xs us Q I r h;obtain ⟨i,j,rfl,q⟩:=h;obtain ⟨u,w',rfl,⟨t,rfl⟩,⟨t',rfl⟩⟩:=a4g r;refine min_two_ints (I.ok.hd hc) λ h' tk k=>⟨_,H,I.kept k,?_,q⟩
 by_cases hj:j<i
 ·rw [if_pos hj,if_pos hj]; exact ⟨_,rfl⟩
 ·rw [if_neg hj,if_neg hj]; exact ⟨_,rfl⟩
theorem a2K:N6 X (.type "int") (λ xs H Q=>(∃ i,xs=[.int i]/\Q (.int i) H)\/∃ k,xs=[.bl k]/\Q (.int (if k then 1 else 0)) H):=by
 intro pins s σ H xs us Q I r h;rcases h with ⟨i,rfl,q⟩ | ⟨k,rfl,q⟩
 ·obtain ⟨u,rfl,t,rfl⟩:=S3 r
  exact call_int_int ⟨.int i,H,I,⟨_,rfl⟩,q⟩
 ·obtain ⟨u,rfl,r1⟩:=S3 r
  cases r1;exact call_int_bool ⟨.int (if k then 1 else 0),H,I.tok _,⟨_,rfl⟩,q⟩
end
structure ObjM (h:Heap) (x dx C:Addr) (mA:Str->Option Value):Prop where
 obj:h.get? x=some (W.instObj C dx)
 ns:h.Ns1 dx mA
 ne:dx≠x
theorem a6M {h:Heap} {dx:Addr} {mA:Str->Option Value} (n:h.Ns1 dx mA):∃ od,h.get? dx=some od/\∀ name,W.lookIn name od=some (mA name):=by
 obtain ⟨o,es,ep,ho,hd,hk,_,hm⟩:=n;refine ⟨o,ho,λ name=>?_⟩;have e:=hm name;unfold nsFind findBy at e;rw [<- Array.find?_toList] at e;unfold W.lookIn;rw [hd];dsimp only
 split
 ·rename_i y q
  rw [q] at e;exact congrArg some e
 ·rename_i q
  rw [q] at e;have a:es.toList.any (·.refKey)=false:=by
   rw [List.any_eq_false];intro y hy;obtain ⟨z,t,hkey⟩:=hk y (Array.mem_toList_iff.mp hy);simp [DictEntry.refKey,hkey]
  have a':¬ es.toList.any (·.refKey)=true:=by rw [a]; exact Bool.false_ne_true
  rw [if_neg a'];exact congrArg some e
theorem ObjM.look {h:Heap} {x dx C:Addr} {mA:Str->Option Value} (I:ObjM h x dx C mA):∃ od,W.InstAt h x (W.instObj C dx) C (some od)/\∀ name,W.lookIn name od=some (mA name) :=
 let ⟨od,ho,hl⟩:=a6M I.ns
 ⟨od,⟨I.obj,rfl,rfl,ho⟩,hl⟩
section
variable {prog:Program} {w:World} {A:Around} {E:Value->Shared->Prop} {s:Shared} {K:W.Frag} {x dx C f:Addr} {mA:Str->Option Value} {name:Str} {v:Value}
theorem a9S {expr:Bool} {Q:Value->Shared->Prop} (X:K.In s.heap) (I:ObjM s.heap x dx C mA) (hg:W.plainGet K C name=true) (hh:W.hasDictIn K C=true)
  (ha:W.findIn K (.ref C) name=some none) (hv:mA name=some v) (hv':W.handedIn v=true) (h:Q v { s with toks:=s.toks+1 }) :
  wpAny (model prog w) A (getAttr (.ref x) name expr) Q E s:=by
 obtain ⟨od,J,hl⟩:=I.look;exact W.get_value X J (W.plainGet_of hg).1 (W.findObj_own hh ha rfl (by rw [hl,hv])) hv' h
theorem a7S {pl:Sem Bool} {Q:Value×List Value->Shared->Prop} (X:K.In s.heap) (I:ObjM s.heap x dx C mA) (hg:W.plainGet K C name=true)
  (hf:W.findIn K (.ref C) name=some (some (.ref f))) (ht:W.isFn K (.ref f)=true) (hv:mA name=none) (h:Q (.ref f,[.ref x]) s) :
  wpAny (model prog w) A (getMethod (.ref x) name pl) Q E s:=by
 obtain ⟨od,J,hl⟩:=I.look;exact W.method_fn X J (W.plainGet_of hg).1 (W.plainGet_of hg).2 hf (beq_iff_eq.mp ht) (by show (W.lookIn name od).map (·.isSome)=some false; rw [hl,hv]; rfl) h
theorem a9J {ns:List Str} {Q:Unit->Shared->Prop} (X:K.In s.heap) (I:ObjM s.heap x dx C mA)
  (hs:W.findIn K (.ref C) "__setattr__"=some (some (.builtin "object.__setattr__"))) (hp:W.plainOver K C=true) (ht:W.takerIn K C name=some none) (hh:W.hasDictIn K C=true)
  (hw:PySem.Within mA ns) (hsz:ns.length<=sizeLine)
  (h:∀ h',ObjM h' x dx C (λ y=>if y=name then some v else mA y)->Heap.SameBut dx s.heap h'->Q () { s with heap:=h',toks:=s.toks+2 }) :
  wpAny (model prog w) A (setAttr (.ref x) name v) Q E s:=by
 obtain ⟨od,J,hl⟩:=I.look;refine W.set_plain X J hs (W.osa_open (s:={ s with toks:=s.toks+1 }) (r:=none) X J hp ht λ b=>?_);obtain ⟨cd,hc,hd'⟩:=W.any_some hh;have hx:s.heap.get? x=some ⟨.ref C,some dx,.plain,#[]⟩:=I.obj;refine wpAny_bind (wpAny_pure (wpAny_bind (wpAny_bind (wpAny_loadPart hx (wpAny_bind (W.Looks.here (s:={ s with toks:=s.toks+1 }) (W.looks_clsIn X hc) ?_))))));rw [hd'];refine wpAny_pure (a:=some dx) (wpAny_bind (wpAny_pure (wpAny_bind ?_)));refine wpAny_nsSet1 (s:={ s with toks:=s.toks+1 }) I.ns λ h' hn2 hs2=>?_;obtain ⟨oD,esD,epD,hoD,hdD,hcD⟩:=hn2.count (PySem.Within.cons name v hw);refine wpAny_bind (wpAny_lookBehind hoD (by rw [hdD]; exact pastItsLine_dict (Nat.le_trans hcD (by rw [List.length_cons]; omega))) ?_);exact wpAny_pure (h _ ⟨(hs2.2 _ (Ne.symm I.ne)).trans I.obj,hn2,I.ne⟩ hs2)
theorem a8m {R:Result->Shared->Prop} {vs:List Value} {kw:List (Str×Value)} (X:K.In s.heap) (hm:W.makesIn K C=true)
  (hi:W.findIn K (.ref C) "__init__"=some (some (.ref f))) (hf:W.typeIn K (.ref f)=some (.type "function"))
  (h:codeAny (model prog w) (A.under (.builtin "type.__call__" ⟨.ref C::vs,kw⟩)) (.call (.ref f) ⟨.ref (s.heap.objs.size+1)::vs,kw⟩) (W.InitBack (s.heap.objs.size+1) R)
   { s with heap:=(s.heap.push W.emptyDict).push (W.instObj C s.heap.objs.size) }) :
  codeAny (model prog w) A (.call (.ref C) ⟨vs,kw⟩) R s:=by
 obtain ⟨hh,g,d,t,os⟩:=s;exact W.make_core (W.makes_of X hm) (W.looks_findIn X hi) (λ self=>W.bind_fn X self hf) (.inl rfl) h
end
def Z2 (f:Str) (v:V):List (Str×V)->List (Str×V)
 | []=>[(f,v)]
 | (g,x)::r=>if g=f then (g,v)::r else (g,x)::Z2 f v r
theorem a1g (f g:Str) (v:V):∀ fs:List (Str×V),(Z2 f v fs).lookup g=if g=f then some v else fs.lookup g
 | []=>by
  show List.lookup g [(f,v)]=_
  by_cases h:g=f
  ·have hb:(g==f)=true:=beq_iff_eq.mpr h
   simp only [List.lookup,hb,if_pos h]
  ·have hb:(g==f)=false:=beq_eq_false_iff_ne.mpr h
   simp only [List.lookup,hb,if_neg h]
 | (k,x)::r=>by
  have ih:=a1g f g v r;rw [show Z2 f v ((k,x)::r)=(if k=f then (k,v)::r else (k,x)::Z2 f v r) from rfl]
  by_cases hk:k=f
  ·rw [if_pos hk]
   by_cases h:g=k
   ·have hb:(g==k)=true:=beq_iff_eq.mpr h
    simp only [List.lookup,hb,if_pos (h.trans hk)]
   ·have hb:(g==k)=false:=beq_eq_false_iff_ne.mpr h
    simp only [List.lookup,hb,if_neg (λ e:g=f=>h (e.trans hk.symm))]
  ·rw [if_neg hk]
   by_cases h:g=k
   ·have hb:(g==k)=true:=beq_iff_eq.mpr h
    simp only [List.lookup,hb,if_neg (λ e:g=f=>hk (h.symm.trans e))]
   ·have hb:(g==k)=false:=beq_eq_false_iff_ne.mpr h
    simp only [List.lookup,hb];exact ih
theorem a0H (f:Str) (v:V):∀ fs:List (Str×V),f∈(Z2 f v fs).map (·.1)/\∀ g,g∈fs.map (·.1)->g∈(Z2 f v fs).map (·.1)
 | []=>⟨by simp [Z2],λ g h=>by simp at h⟩
 | (k,x)::r=>by
  obtain ⟨i1,i2⟩:=a0H f v r;rw [show Z2 f v ((k,x)::r)=(if k=f then (k,v)::r else (k,x)::Z2 f v r) from rfl]
  by_cases hk:k=f
  ·rw [if_pos hk]
   subst hk;exact ⟨by simp,λ g h=>by simpa using h⟩
  ·rw [if_neg hk]
   refine ⟨?_,λ g h=>?_⟩
   ·rw [List.map_cons]
    exact List.mem_cons_of_mem _ i1
   ·rw [List.map_cons] at h ⊢
    rcases List.mem_cons.mp h with e | e
    ·exact List.mem_cons.mpr (.inl e)
    ·exact List.mem_cons_of_mem _ (i2 g e)
theorem a0X (f:Str) (v:V):∀ fs:List (Str×V),(Z2 f v fs).length<=fs.length+1
 | []=>by simp [Z2]
 | (k,x)::r=>by
  have ih:=a0X f v r;rw [show Z2 f v ((k,x)::r)=(if k=f then (k,v)::r else (k,x)::Z2 f v r) from rfl]
  by_cases hk:k=f
  ·rw [if_pos hk,List.length_cons,List.length_cons]; omega
  ·rw [if_neg hk,List.length_cons,List.length_cons]; omega
theorem RelO.some_of {v:V} {o:Option Value} (r:RelO (some v) o):∃ u,o=some u/\RelV v u:=by
 cases o with
 | none=>exact (show False from r).elim
 | some u=>exact ⟨u,rfl,r⟩
theorem RelO.none_of {o:Option Value} (r:RelO none o):o=none:=by
 cases o with
 | none=>rfl
 | some u=>exact (show False from r).elim
theorem a7a {v:V} {u:Value} (r:RelV v u):W.handedIn u=true:=by
 cases v with
 | non=>cases (show u=Value.none from r); rfl
 | bl b=>cases (show u=Value.bool b from r); rfl
 | int i=>obtain ⟨t,e⟩:=(show ∃ t,u=Value.int i t from r); cases e; rfl
 | str x=>obtain ⟨t,e⟩:=(show ∃ t,u=Value.str x t from r); cases e; rfl
 | byt b=>obtain ⟨t,e⟩:=(show ∃ t,u=Value.bytes b t from r); cases e; rfl
 | flt b=>obtain ⟨t,e⟩:=(show ∃ t,u=Value.float b t from r); cases e; rfl
 | ref a=>cases (show u=Value.ref a from r); rfl
 | ty n=>cases (show u=Value.type n from r); rfl
section
variable {P:Program} {w:World} {H H':Hp} {h h':Heap} {a C dx:Addr} {fs fs':List (Str×V)}
theorem a1v (hok:HOk P w H h) (e:H a=some (.ins C dx fs)):∃ mA,ObjM h a dx C mA/\(∀ f,RelO (fs.lookup f) (mA f))/\PySem.Within mA (fs.map (·.1))/\fs.length<=1000/\H dx=some (.own a):=by
 obtain ⟨d,z,ne,ob,mA,n,r,q⟩:=(show ObjOk P w H h a (.ins C dx fs) from hok a _ e);exact ⟨mA,⟨ob,n,ne⟩,r,q,z,d⟩
end
structure Cls (K:W.Frag) (C:Addr):Prop where
 pg:W.plainGet K C Str.empty=true
 hd:W.hasDictIn K C=true
 po:W.plainOver K C=true
 sa:W.findIn K (.ref C) "__setattr__"=some (some (.builtin "object.__setattr__"))
theorem Cls.get {K:W.Frag} {C:Addr} (c:Cls K C) (f:Str):W.plainGet K C f=true:=c.pg
def NoAttr (K:W.Frag) (C:Addr) (f:Str):Prop:=W.findIn K (.ref C) f=some none
theorem NoAttr.taker {K:W.Frag} {C:Addr} {f:Str} (n:NoAttr K C f):W.takerIn K C f=some none:=by
 unfold W.takerIn;rw [show W.findIn K (.ref C) f=some none from n];rfl
structure Con (K:W.Frag) (C:Addr) (f:Str) (v:V) (u:Value):Prop where
 at_:W.findIn K (.ref C) f=some (some u)
 rel:RelV v u
 get:W.specialIn K u "__get__"=some none
 cp:W.copiedNames.contains f=false
structure a9l (K:W.Frag) (C:Addr) (m:Str) (f:Addr):Prop where
 at_:W.findIn K (.ref C) m=some (some (.ref f))
 fn:W.isFn K (.ref f)=true
 kp:W.keepIn K (.ref f)=true
section
variable {X:Cx} {pins:List (Addr×Obj)} {σ:St} {H:Hp} {s:Shared} {a C dx:Addr} {fs:List (Str×V)} {f:Str} {v:V} {A:Around} {E:Value->Shared->Prop}
theorem a5i {b:Bool} {Q:Value->Shared->Prop} (I:Inv X pins σ H s) (e:H a=some (.ins C dx fs)) (c:Cls X.K C) (n:NoAttr X.K C f) (l:fs.lookup f=some v)
  (h:∀ u s',Inv X pins σ H s'->RelV v u->Q u s'):wpAny (model X.prog X.w) A (getAttr (.ref a) f b) Q E s:=by
 obtain ⟨mA,O,r,_,_,_⟩:=a1v I.hok e;obtain ⟨u,hu,ru⟩:=RelO.some_of (v:=v) (o:=mA f) (by rw [<- l]; exact r f);exact a9S I.kIn O (c.get f) c.hd n hu (a7a ru) (h u _ (I.tok _) ru)
theorem a1U {m:Str} {g:Addr} {pl:Sem Bool} {Q:Value×List Value->Shared->Prop} (I:Inv X pins σ H s) (e:H a=some (.ins C dx fs)) (c:Cls X.K C) (k:a9l X.K C m g) (l:fs.lookup m=none)
  (h:Q (.ref g,[.ref a]) s):wpAny (model X.prog X.w) A (getMethod (.ref a) m pl) Q E s:=by
 obtain ⟨mA,O,r,_,_,_⟩:=a1v I.hok e;have hn:mA m=none:=RelO.none_of (by rw [<- l]; exact r m);exact a7S I.kIn O (c.get m) k.at_ k.fn hn h
theorem a5d {y:V} {u:Value} {Q:Unit->Shared->Prop} (I:Inv X pins σ H s) (e:H a=some (.ins C dx fs)) (c:Cls X.K C) (n:NoAttr X.K C f) (hl:fs.length<1000) (ry:RelV y u)
  (h:∀ s',Inv X pins σ (upd H a (.ins C dx (Z2 f y fs))) s'->Q () s'):wpAny (model X.prog X.w) A (setAttr (.ref a) f u) Q E s:=by
 obtain ⟨mA,O,r,wi,_,ho⟩:=a1v I.hok e;have hz:(fs.map (·.1)).length<=sizeLine:=by rw [List.length_map,sizeLine_eq]; omega
 refine a9J I.kIn O c.sa c.po n.taker c.hd wi hz λ h' O' sb=>h _ ?_;have hd:∃ o,h'.get? dx=some o:=let ⟨o,_,_,e',_⟩:=O'.ns; ⟨o,e'⟩
 refine I.write (x:=a) (e:=dx) (by rw [e]; exact True.intro) (.inr ho) (λ b q hb z=>(sb.2 b hb).trans z) hd ?_;refine ⟨by rw [i5 O.ne]; exact ho,?_,O.ne,O'.obj,_,O'.ns,λ g=>?_,λ g hg=>?_⟩
 ·have:=a0X f y fs; omega
 ·show RelO ((Z2 f y fs).lookup g) (if g=f then some u else mA g)
  rw [a1g]
  by_cases q:g=f
  ·rw [if_pos q,if_pos q]; exact ry
  ·rw [if_neg q,if_neg q]; exact r g
 ·by_cases q:g=f
  ·rw [q]; exact (a0H f y fs).1
  ·refine (a0H f y fs).2 g (wi g λ z=>hg ?_)
   show (if g=f then some u else mA g)=none
   rw [if_neg q]; exact z
theorem Inv.made (I:Inv X pins σ H s):Inv X pins σ (upd (upd H s.heap.objs.size (.own (s.heap.objs.size+1))) (s.heap.objs.size+1) (.ins C s.heap.objs.size []))
  { s with heap:=(s.heap.push W.emptyDict).push (W.instObj C s.heap.objs.size) }:=by
 have e1:(s.heap.push W.emptyDict).get? s.heap.objs.size=some W.emptyDict:=Heap.get?_push_size s.heap rfl;have e2:((s.heap.push W.emptyDict).push (W.instObj C s.heap.objs.size)).get? (s.heap.objs.size+1)=some (W.instObj C s.heap.objs.size):=by
  have:=Heap.get?_push_size (s.heap.push W.emptyDict) (o:=W.instObj C s.heap.objs.size) rfl
  rwa [Heap.size_push] at this
 have e3:(s.heap.push W.emptyDict).Ns s.heap.objs.size (λ _=>none):=⟨W.emptyDict,#[],_,e1,rfl,(λ e he=>absurd he (by simp)),λ _=>rfl⟩;have I1:=I.laid (a:=s.heap.objs.size) (o:=.own (s.heap.objs.size+1)) (h':=s.heap.push W.emptyDict) (t':=s.toks) (λ b u q=>Heap.get?_push_of_some _ q) (Nat.le_refl _) ⟨_,e1⟩;refine I1.laid (a:=s.heap.objs.size+1) (o:=.ins C s.heap.objs.size []) (t':=s.toks) (λ b u q=>Heap.get?_push_of_some _ q) (Nat.le_of_eq (Heap.size_push _ _)) ?_;have ne:s.heap.objs.size≠s.heap.objs.size+1:=Nat.ne_of_lt (Nat.lt_succ_self _);refine ⟨by rw [i5 ne,upd_same],Nat.zero_le _,ne,e2,λ _=>none,(Heap.Ns1.of_empty e3).at λ o q=>Heap.get?_push_of_some _ q,λ _=>True.intro,λ y hy=>absurd rfl hy⟩
theorem b0i {prog:Program} {w:World} {env:Env} {e:Expr} {f:Str} {pos:Pos} {s:Shared} {Q:Value->Shared->Prop} (hb:attributeBase e f env (eval e env)=eval e env)
  (h:wpAny (model prog w) A (eval e env) (λ o s₁=>wpAny (model prog w) A (getAttr o f true) Q E s₁) E s):wpAny (model prog w) A (eval (.Attribute e f pos) env) Q E s :=
 Attribute_any_ h (by rw [arm_eval_Attribute,hb])
end
def b3k (K:W.Frag) (ta:TE) (f:Str):TE:=λ σ H Q=>ta σ H λ x H1=>∃ a C dx fs v,x=.ref a/\H1 a=some (.ins C dx fs)/\Cls K C/\NoAttr K C f/\fs.lookup f=some v/\Q v H1
def b4q (K:W.Frag) (ta tv:TE) (f:Str):TS:=λ D σ H=>tv σ H λ y H1=>ta σ H1 λ x H2=>∃ a C dx fs,x=.ref a/\H2 a=some (.ins C dx fs)/\Cls K C/\NoAttr K C f/\fs.length<1000 ∧
 D.nx σ (upd H2 a (.ins C dx (Z2 f y fs)))
section
variable {X:Cx} {o e value:Expr} {f:Str} {pos pos' tpos:Pos} {ta tv:TE}
theorem A7 (he:PE X e ta) (hb:attributeBase e f X.env (eval e X.env)=eval e X.env):PE X (.Attribute e f pos) (b3k X.K ta f):=by
 intro pins s σ H Q I h;refine b0i hb (G5 (he pins s σ H _ I h) λ u s1 ⟨x,H1,I1,rx,a,C,dx,fs,v,ex,ea,c,n,l,q⟩=>?_);subst ex;obtain rfl:u=Value.ref a:=rx;exact a5i I1 ea c n l λ u' s2 I2 ru=>⟨v,H1,I2,ru,q⟩
theorem a0d (ha:PE X o ta) (hv:PE X value tv) (hs:swapsWith value (some (.Attribute o f pos')) pos.line X.env=pure false):PS X (.Assign [.Attribute o f pos'] value pos) (b4q X.K ta tv f):=by
 intro pins s σ H D I h;refine plainObj_wpAny_Assign_Attribute (G5 (hv pins s σ H _ I h) λ u s1 ⟨y,H1,I1,ry,q⟩=>G5 (ha pins s1 σ H1 _ I1 q) λ ov s2 ⟨x,H2,I2,rx,a,C,dx,fs,ex,ea,c,n,l,q2⟩=>?_) hs;subst ex;obtain rfl:ov=Value.ref a:=rx;exact a5d I2 ea c n l ry λ s3 I3=>⟨σ,_,I3,q2⟩
end
section
variable {X:Cx} {pins:List (Addr×Obj)} {σ:St} {H:Hp} {s:Shared} {A:Around} {E:Value->Shared->Prop} {Q:Value->Shared->Prop} {c:Value} {b:Bool}
inductive a0G (K:W.Frag) (H:Hp):V->Value->Prop where
 | non:a0G K H .non (.type "NoneType")
 | bl (x:Bool):a0G K H (.bl x) (.type "bool")
 | int (i:Int):a0G K H (.int i) (.type "int")
 | str (x:Str):a0G K H (.str x) (.type "str")
 | flt (x:UInt64):a0G K H (.flt x) (.type "float")
 | lst {a:Addr} {xs:List V} (e:H a=some (.lst xs)):a0G K H (.ref a) (.type "list")
 | frz {a:Addr} {o:Obj} {xs:List V} (e:H a=some (.frz o (.lst xs))):a0G K H (.ref a) (.type "list")
 | tup {a:Addr} {xs:List V} (e:H a=some (.tup xs)):a0G K H (.ref a) (.type "tuple")
 | dK {a:Addr} {kvs:List (Key×V)} (e:H a=some (.dK kvs)):a0G K H (.ref a) (.type "dict")
 | dT {a:Addr} {kvs:List (List Key×V)} (e:H a=some (.dT kvs)):a0G K H (.ref a) (.type "dict")
 | ins {a C dx:Addr} {fs:List (Str×V)} (e:H a=some (.ins C dx fs)) (cl:Cls K C) (ha:W.findIn K (.ref C) "__class__"=some (some (.builtin "object.__class__")))
   (hn:W.specialIn K (.builtin "object.__class__") "__get__"=some (some (.builtin "getset_descriptor.__get__"))) (htk:W.takesIn K (.builtin "object.__class__")=some true)
   (hm:W.mroIn K C (.type "object")=some true):a0G K H (.ref a) (.ref C)
theorem a6G {x:V} {u t:Value} (I:Inv X pins σ H s) (rx:RelV x u) (ty:a0G X.K H x t) (e:W.kitOne X.K t c=some b) (h:∀ tk,Q (.bool b) { s with toks:=tk }) :
  wpAny (model X.prog X.w) A (call (.builtin "isinstance") [u,c]) Q E s:=by
 cases ty with
 | non=>cases (show u=Value.none from rx); exact W.kia_one W.kitx_none I.kIn True.intro e (λ z=>nomatch z) h
 | bl y=>cases (show u=Value.bool y from rx); exact W.kia_one W.kitx_bool I.kIn True.intro e (λ z=>nomatch z) h
 | int i=>obtain ⟨t,q⟩:=(show ∃ t,u=Value.int i t from rx); cases q; exact W.kia_one W.kitx_int I.kIn True.intro e (λ z=>nomatch z) h
 | str y=>obtain ⟨t,q⟩:=(show ∃ t,u=Value.str y t from rx); cases q; exact W.kia_one W.kitx_str I.kIn True.intro e (λ z=>nomatch z) h
 | flt y=>obtain ⟨t,q⟩:=(show ∃ t,u=Value.float y t from rx); cases q; exact W.kia_one W.kitx_float I.kIn True.intro e (λ z=>nomatch z) h
 | @lst a xs ea =>
  cases (show u=Value.ref a from rx);obtain ⟨_,_,n,_,h1⟩:=(show ObjOk X.prog X.w H s.heap a (.lst xs) from I.hok a _ ea);exact W.kia_one W.kitx_list I.kIn ⟨_,h1,rfl⟩ e (λ z=>nomatch z) h
 | @frz a ob xs ea =>
  cases (show u=Value.ref a from rx);obtain ⟨_,_,_,n,_,h1⟩:=(show ObjOk X.prog X.w H s.heap a (.frz ob (.lst xs)) from I.hok a _ ea);exact W.kia_one W.kitx_list I.kIn ⟨_,h1,rfl⟩ e (λ z=>nomatch z) h
 | @tup a xs ea =>
  cases (show u=Value.ref a from rx);obtain ⟨_,_,_,p⟩:=(show ObjOk X.prog X.w H s.heap a (.tup xs) from I.hok a _ ea);obtain ⟨o,h1,h2,_⟩:=p;exact W.kia_one W.kitx_tuple I.kIn ⟨o,h1,h2⟩ e (λ z=>nomatch z) h
 | @dK a kvs ea =>
  cases (show u=Value.ref a from rx);obtain ⟨_,_,vs,_,p⟩:=(show ObjOk X.prog X.w H s.heap a (.dK kvs) from I.hok a _ ea);obtain ⟨o,es,ep,h1,h2,_⟩:=p;exact W.kia_one W.kitx_dict I.kIn ⟨o,h1,h2.1⟩ e (λ z=>nomatch z) h
 | @dT a kvs ea =>
  cases (show u=Value.ref a from rx);obtain ⟨_,_,xs,_,o,es,ep,h1,h2,_⟩:=(show ObjOk X.prog X.w H s.heap a (.dT kvs) from I.hok a _ ea);exact W.kia_one W.kitx_dict I.kIn ⟨o,h1,h2.1⟩ e (λ z=>nomatch z) h
 | @ins a C dx fs ea cl ha hn htk hm =>
  cases (show u=Value.ref a from rx);obtain ⟨mA,O,_⟩:=a1v I.hok ea;obtain ⟨od,J,_⟩:=O.look;exact W.kia_one (W.kitx_own (cl.get _) cl.hd ha hn htk hm) I.kIn J e (λ z=>nomatch z) h
end
structure Room (k:Nat) (A:Around):Prop where
 hd:A.handled=none
 dp:A.depth+3*k+5<recursionLimit
 un:A.units+16*k+200<cLine
theorem Room.mono {j k:Nat} {A:Around} (r:Room k A) (h:j<=k):Room j A:=⟨r.hd,by have:=r.dp; omega,by have:=r.un; omega⟩
theorem Room.deeper {k:Nat} {A:Around} (r:Room (k+1) A) (env:Env):Room k (A.deeper env) :=
 ⟨r.hd,by have:=r.dp; show A.depth+1+3*k+5<_; omega,by have:=r.un; show A.units+3+16*k+200<_; omega⟩
theorem Room.in1 {k:Nat} {A:Around} (r:Room (k+1) A):Room k A.in1 :=
 ⟨r.hd,by have:=r.dp; show A.depth+3*k+5<_; omega,by have:=r.un; show A.units+1+16*k+200<_; omega⟩
theorem a5v {A:Around} {C:Addr} {us:List Value} {kw:List (Str×Value)}:(A.under (.builtin "type.__call__" ⟨.ref C::us,kw⟩)).depth=A.depth+1:=by
 first | rfl | simp [Around.under,Code.weight,Code.isCreation,Code.isGuard,Code.isCaller,Code.frames,Code.isFrame,guardIds]
theorem a4F {A:Around} {C:Addr} {us:List Value} {kw:List (Str×Value)}:(A.under (.builtin "type.__call__" ⟨.ref C::us,kw⟩)).units=A.units+1:=by
 first | rfl | simp [Around.under,Code.cUnits,Code.frames,Code.isFrame]
theorem Room.make {k:Nat} {A:Around} (r:Room (k+1) A) (C:Addr) (us:List Value) (kw:List (Str×Value)):Room k (A.under (.builtin "type.__call__" ⟨.ref C::us,kw⟩)) :=
 ⟨r.hd,by have:=r.dp; rw [a5v]; omega,by have:=r.un; rw [a4F]; omega⟩
theorem Room.depth {k:Nat} {A:Around} (r:Room k A):A.depth<recursionLimit:=by have:=r.dp; omega
theorem Room.units {k:Nat} {A:Around} (r:Room k A):A.units+64<cLine:=by have:=r.un; omega
def a7G:TA:=λ _ H Q=>Q [] H
def a5J (ta:TE) (tr:TA):TA:=λ σ H Q=>ta σ H λ x H1=>tr σ H1 λ xs H2=>Q (x::xs) H2
section
variable {X:Cx} {e:Expr} {es:List Expr} {te:TE} {t:TA} {pos:Pos}
theorem h8:PA X [] a7G:=λ _ _ _ _ H Q I h=>Calls.spliced_nil ⟨[],H,I,.nil,h⟩
theorem c6 (ha:PE X e te) (hr:PA X es t) (hs:starEach (e::es) X.env=(false,eval e X.env)::starEach es X.env:=by rfl):PA X (e::es) (a5J te t):=by
 intro pos pins s σ H Q I h;rw [hs]
 show wpAny _ _ (spliced ((false,eval e X.env)::backTo pos (starEach es X.env))) _ _ s
 refine Calls.spliced_cons (G5 (ha pins s σ H _ I h) λ u s1 ⟨x,H1,I1,r1,q1⟩=>?_);exact G5 (hr pos pins s1 σ H1 _ I1 q1) λ us s2 ⟨xs,H2,I2,r2,q2⟩=>⟨x::xs,H2,I2,.cons r1 r2,q2⟩
def b4b (t:TA):TE:=λ σ H Q=>t σ H λ xs H1=>xs.length<=sizeLine/\∀ p,H1 p=none->Q (.ref p) (upd H1 p (.tup xs))
def b4V (t:TA):TE:=λ σ H Q=>t σ H λ xs H1=>xs.length<=sizeLine/\∀ p,H1 p=none->Q (.ref p) (upd H1 p (.lst xs))
theorem w4 {x1} (h:PA X es t):PE X (.Tuple es x1 pos) (b4b t):=by
 intro pins s σ H Q I hq;refine wpAny_Tuple_spliced (G5 (h pos pins s σ H _ I hq) λ us s1 ⟨xs,H1,I1,r,z,q⟩=>⟨by rw [<- r.length]; exact z,?_⟩);have hf:H1 s1.heap.objs.size=none:=I1.hok.fresh (Nat.le_refl _);refine ⟨.ref s1.heap.objs.size,upd H1 s1.heap.objs.size (.tup xs),I1.laid (t':=s1.toks) (λ b u e=>Heap.get?_push_of_some _ e) (Nat.le_refl _) ?_,rfl,q _ hf⟩;exact ⟨z,us,r,⟨_,Heap.get?_push_size _ rfl,rfl,_,rfl⟩⟩
theorem x8 (h:PA X es t):PE X (.List es pos) (b4V t):=by
 intro pins s σ H Q I hq;refine wpAny_List_spliced (G5 (h pos pins s σ H _ I hq) λ us s1 ⟨xs,H1,I1,r,z,q⟩=>⟨by rw [<- r.length]; exact z,?_⟩);have hf:H1 s1.heap.objs.size=none:=I1.hok.fresh (Nat.le_refl _);refine ⟨.ref s1.heap.objs.size,upd H1 s1.heap.objs.size (.lst xs),I1.laid (t':=s1.toks) (λ b u e=>Heap.get?_push_of_some _ e) (Nat.le_refl _) ?_,rfl,q _ hf⟩;exact ⟨z,us,0,r,Heap.get?_push_size _ rfl⟩
end
abbrev Sp:=List V->Hp->VK->XK->Prop
abbrev CXT:=List Env->Hp->Shared->XK->Value->Shared->Prop
structure Env0 (P:Program) (w:World) (K:W.Frag) (mg:Str->Option Value) (base:Heap) (A:Around) (outer:List Env) (s:Shared) (H:Hp):Prop where
 frames:A.frames=some outer
 mod:Mod K mg base
 bs:∀ b o,base.get? b=some o->s.heap.get? b=some o/\H b=none
 bsz:base.objs.size<=s.heap.objs.size
 funs:s.heap.FunFrames base outer
 frf:∀ b∈frs outer,H b=none
 hok:HOk P w H s.heap
 bare:AllBare s.gens
def CE (outer:List Env) (P:Program) (w:World) (H:Hp) (s:Shared) (Q:VK) (u:Value) (s':Shared):Prop :=
 ∃ v H',s'.os=s.os/\AllBare s'.gens/\Un (frs outer) [] H H' s.heap s'.heap/\HOk P w H' s'.heap/\RelV v u/\Q v H'
def CR (CX:CXT) (outer:List Env) (P:Program) (w:World) (H:Hp) (s:Shared) (Q:VK) (E:XK) (r:Result) (s':Shared):Prop :=
 match r with
 | .ok (.ret u)=>CE outer P w H s Q u s'
 | .ok _=>False
 | .error e=>CX outer H s E e s'
structure FnOk (P:Program) (w:World) (K:W.Frag) (mg:Str->Option Value) (base:Heap) (CX:CXT) (k:Nat) (f:Addr) (fd:FuncData) (ps:List Str) (sp:Sp):Prop where
 len:∀ vs H Q E,sp vs H Q E->vs.length=ps.length
 run:∀ (A:Around) (outer:List Env) (s:Shared) (H:Hp) (args:Args) (us:List Value) (vs:List V) (Q:VK) (E:XK),Room k A->Env0 P w K mg base A outer s H->BindsTo s fd args (ps.zip us)->Vals vs us->sp vs H Q E →
  codeAny (model P w) A (.call (.ref f) args) (CR CX outer P w H s Q E) s
theorem FnOk.imp {P:Program} {w:World} {K:W.Frag} {mg:Str->Option Value} {base:Heap} {CX:CXT} {k:Nat} {f:Addr} {fd:FuncData} {ps:List Str} {sp sp':Sp} (F:FnOk P w K mg base CX k f fd ps sp)
  (h:∀ vs H Q E,sp' vs H Q E->sp vs H Q E):FnOk P w K mg base CX k f fd ps sp' :=
 ⟨λ vs H Q E q=>F.len vs H Q E (h _ _ _ _ q),λ A outer s H args us vs Q E hr he hb hv hs=>F.run A outer s H args us vs Q E hr he hb hv (h _ _ _ _ hs)⟩
theorem Env0.make {P:Program} {w:World} {K:W.Frag} {mg:Str->Option Value} {base:Heap} {A:Around} {outer:List Env} {s:Shared} {H:Hp} (e:Env0 P w K mg base A outer s H) (C:Addr) (us:List Value) (kw:List (Str×Value)) :
  Env0 P w K mg base (A.under (.builtin "type.__call__" ⟨.ref C::us,kw⟩)) outer s H:=⟨by first | exact e.frames | (simpa [Around.under,Code.envs,Code.isFrame,pushEnvs] using e.frames),e.mod,e.bs,e.bsz,e.funs,e.frf,e.hok,e.bare⟩
section
variable {X:Cx} {pins:List (Addr×Obj)} {σ:St} {H:Hp} {s s':Shared}
theorem Inv.env0 (I:Inv X pins σ H s):Env0 X.prog X.w X.K X.mg X.base X.A X.stack s H :=
 ⟨I.ok.frames,I.ok.mod,I.bs,Nat.le_trans I.ok.bsz I.sz,I.stack,I.stkFree,I.hok,I.bare⟩
theorem Inv.after {Q:VK} {u:Value} (I:Inv X pins σ H s) (h:CE X.stack X.prog X.w H s Q u s'):EP X pins σ Q u s':=by
 obtain ⟨v,H',os,bare,un,hok,r,q⟩:=h;obtain ⟨hh,g,d,t,os'⟩:=s';obtain rfl:os'=s.os:=os;exact ⟨v,H',I.call (h':=hh) (g':=g) (d':=d) (t':=t) (ch:=[]) un hok bare (λ b z=>absurd z (by simp)),r,q⟩
end
def b0E (sp:Sp) (dvs:List V) (E:XK) (t:TA):TE:=λ σ H Q=>t σ H λ vs H1=>sp (vs++dvs) H1 Q E
def b0B (C:Addr) (m:Str) (sp:Sp) (dvs:List V) (E:XK) (ta:TE) (t:TA):TE:=λ σ H Q=>ta σ H λ x H1=>∃ a dx fs,x=.ref a/\H1 a=some (.ins C dx fs)/\fs.lookup m=none ∧
 t σ H1 λ vs H2=>sp (x::(vs++dvs)) H2 Q E
def b2Y (C:Addr) (sp:Sp) (dvs:List V) (E:XK) (t:TA):TE:=λ σ H Q=>t σ H λ vs H1=>∀ x dx,H1 x=none->H1 dx=none->dx≠x →
 sp (.ref x::(vs++dvs)) (upd (upd H1 dx (.own x)) x (.ins C dx [])) (λ v H2=>v=.non/\Q (.ref x) H2) E
def Binds (K:W.Frag) (fd:FuncData) (ps:List Str) (ds:List Value):Prop :=
 ∀ (s:Shared) (us:List Value),K.In s.heap->(us++ds).length=ps.length->BindsTo s fd ⟨us,[]⟩ (ps.zip (us++ds))
theorem Binds.all {K:W.Frag} {fd:FuncData} {ps:List Str} (h:∀ us:List Value,us.length=ps.length->bindArgs fd ⟨us,[]⟩=pure (ps.zip us)):Binds K fd ps []:=λ s us _ hl=>by
 rw [List.append_nil] at hl ⊢;exact .of_eq (h us hl)
def U5 (CX:CXT) (X:Cx) (E:XK):Prop:=∀ (pins:List (Addr×Obj)) (σ:St) (H:Hp) (s:Shared) (e:Value) (s':Shared),Inv X pins σ H s->CX X.stack H s E e s'->X.xe e s'
section
variable {X:Cx} {CX:CXT} {k:Nat} {f C:Addr} {fd:FuncData} {ps:List Str} {sp:Sp} {dvs:List V} {ds:List Value} {E:XK} {x m:Str} {p pos apos:Pos} {e o:Expr} {es:List Expr} {ta:TE} {t:TA}
theorem a4U {pins:List (Addr×Obj)} {σ:St} {H:Hp} {s:Shared} {Q:VK} {us:List Value} {vs:List V} (F:FnOk X.prog X.w X.K X.mg X.base CX k f fd ps sp) (hr:Room k X.A) (hb:Binds X.K fd ps ds) (hd:Vals dvs ds) (hx:U5 CX X E)
  (I:Inv X pins σ H s) (r:Vals vs us) (h:sp (vs++dvs) H Q E):wpAny (model X.prog X.w) X.A (call (.ref f) us) (EP X pins σ Q) X.xe s:=by
 have r2:Vals (vs++dvs) (us++ds):=r.append hd;have hl:(us++ds).length=ps.length:=by rw [<- r2.length]; exact F.len _ _ _ _ h
 refine wpAny_call (codeAny_mono (F.run X.A X.stack s H ⟨us,[]⟩ (us++ds) (vs++dvs) Q E hr I.env0 (hb s us I.kIn hl) r2 h) λ r s' hq=>?_)
 cases r with
 | error e=>exact hx pins σ H s e s' I hq
 | ok fl =>
  cases fl with
  | ret u=>exact I.after hq
  | next=>exact False.elim hq
  | brk=>exact False.elim hq
  | cont=>exact False.elim hq
theorem j6 (F:FnOk X.prog X.w X.K X.mg X.base CX k f fd ps sp) (hr:Room k X.A) (hg:Gl X x) (hm:X.mg x=some (.ref f)) (hk:W.keepIn X.K (.ref f)=true) (hb:Binds X.K fd ps ds) (hd:Vals dvs ds) (hx:U5 CX X E)
  (ha:PA X (e::es) t) (hdb:(x==("__debug__":Str))=false:=by decide) (he:starEach (e::es) X.env=(false,eval e X.env)::starEach es X.env:=by rfl) (hpl:(backTo pos (starEach es X.env)).any (·.1)=false:=by rfl) :
  PE X (.Call (.Name x p) (e::es) [] pos) (b0E sp dvs E t):=by
 intro pins s σ H Q I h;refine wpAny_Call_Name_kw (a1t I hg hm ?_ hdb);refine W.callWith_K (h₀:=X.base) I.ok.mod.kin hk (G5 (ha pos pins s σ H _ I h) λ us s1 ⟨vs,H1,I1,r,q⟩=>⟨I1.kIn,?_⟩) he hpl;exact a4U F hr hb hd hx I1 r q
theorem a3i {pl:Sem Bool} (he:PE X o ta) (c:Cls X.K C) (hm:a9l X.K C m f) (F:FnOk X.prog X.w X.K X.mg X.base CX k f fd ps sp) (hr:Room k X.A) (hb:Binds X.K fd ps ds) (hd:Vals dvs ds) (hx:U5 CX X E) (ha:PA X (e::es) t)
  (hst:starEach (e::es) X.env=(false,eval e X.env)::starEach es X.env:=by rfl) (hpl:(backTo pos (starEach es X.env)).any (·.1)=false:=by rfl)
  (ht:eval (.Call (.Attribute o m apos) (e::es) [] pos) X.env=(do
   let ov <- eval o X.env
   standAt apos.atName
   let (f,first) <- holding [ov] (getMethod ov m pl)
   callWith pos f first (backTo pos (starEach (e::es) X.env)) (backToKw pos (keywordEach [] X.env))):=by rfl) :
  PE X (.Call (.Attribute o m apos) (e::es) [] pos) (b0B C m sp dvs E ta t):=by
 intro pins s σ H Q I h;refine W.methodCall_KW (pl:=pl) (G5 (he pins s σ H _ I h) λ u s1 ⟨x,H1,I1,rx,a,dx,fs,ex,ea,l,q⟩=>?_) ht;subst ex;obtain rfl:u=Value.ref a:=rx;refine a1U I1 ea c hm l ?_;refine W.callWith_K (first:=[.ref a]) (h₀:=X.base) I.ok.mod.kin hm.kp (G5 (ha pos pins s1 σ H1 _ I1 q) λ us s2 ⟨vs,H2,I2,r,q2⟩=>⟨I2.kIn,?_⟩) hst hpl;exact a4U (us:=.ref a::us) (vs:=.ref a::vs) F hr hb hd hx I2 (.cons rfl r) q2
theorem a0C {pl:Sem Bool} (he:PE X o ta) (c:Cls X.K C) (hm:a9l X.K C m f) (F:FnOk X.prog X.w X.K X.mg X.base CX k f fd ps sp) (hr:Room k X.A) (hb:Binds X.K fd ps ds) (hd:Vals dvs ds) (hx:U5 CX X E)
  (ht:eval (.Call (.Attribute o m apos) [] [] pos) X.env=(do
   let ov <- eval o X.env
   standAt apos.atName
   let (f,first) <- holding [ov] (getMethod ov m pl)
   callWith pos f first (backTo pos (starEach [] X.env)) (backToKw pos (keywordEach [] X.env))):=by rfl) :
  PE X (.Call (.Attribute o m apos) [] [] pos) (b0B C m sp dvs E ta a7G):=by
 intro pins s σ H Q I h;refine W.methodCall_KW (pl:=pl) (G5 (he pins s σ H _ I h) λ u s1 ⟨x,H1,I1,rx,a,dx,fs,ex,ea,l,q⟩=>?_) ht;subst ex;obtain rfl:u=Value.ref a:=rx;refine a1U I1 ea c hm l ?_;exact W.callWith_K0 (first:=[.ref a]) I1.kIn hm.kp (a4U (us:=[.ref a]) (vs:=[.ref a]) F hr hb hd hx I1 (.cons rfl .nil) q)
structure Mk (K:W.Frag) (C f:Addr):Prop where
 makes:W.makesIn K C=true
 init:W.findIn K (.ref C) "__init__"=some (some (.ref f))
 fn:W.isFn K (.ref f)=true
 kp:W.keepIn K (.ref C)=true
theorem a8d {pins:List (Addr×Obj)} {σ:St} {H:Hp} {s:Shared} {Q:VK} {us:List Value} {vs:List V} (M:Mk X.K C f) (F:FnOk X.prog X.w X.K X.mg X.base CX k f fd ps sp) (hr:Room (k+1) X.A) (hb:Binds X.K fd ps ds) (hd:Vals dvs ds)
  (hx:U5 CX X E) (I:Inv X pins σ H s) (r:Vals vs us)
  (h:∀ x dx,H x=none->H dx=none->dx≠x->sp (.ref x::(vs++dvs)) (upd (upd H dx (.own x)) x (.ins C dx [])) (λ v H2=>v=.non/\Q (.ref x) H2) E) :
  wpAny (model X.prog X.w) X.A (call (.ref C) us) (EP X pins σ Q) X.xe s:=by
 have hq:=h (s.heap.objs.size+1) s.heap.objs.size (I.hok.fresh (Nat.le_succ _)) (I.hok.fresh (Nat.le_refl _)) (Nat.ne_of_lt (Nat.lt_succ_self _));have I2:=Inv.made (C:=C) I;have r2:Vals (V.ref (s.heap.objs.size+1)::(vs++dvs)) (Value.ref (s.heap.objs.size+1)::(us++ds)):=.cons rfl (r.append hd);have hl:(Value.ref (s.heap.objs.size+1)::us++ds).length=ps.length:=by
  have e:=r2.length;rw [F.len _ _ _ _ hq] at e;exact e.symm
 refine wpAny_call (a8m (f:=f) I.kIn M.makes M.init (beq_iff_eq.mp M.fn) (codeAny_mono (F.run _ X.stack _ _ ⟨Value.ref (s.heap.objs.size+1)::us,[]⟩ (Value.ref (s.heap.objs.size+1)::(us++ds)) _ _ E (hr.make C us [])
  (I2.env0.make C us []) (hb _ (Value.ref (s.heap.objs.size+1)::us) I2.kIn hl) r2 hq) λ r s' hq'=>?_))
 cases r with
 | error e=>exact hx pins σ _ _ e s' I2 hq'
 | ok fl =>
  cases fl with
  | ret u =>
   obtain ⟨v,H',I3,rv,ev,q3⟩:=I2.after hq';subst ev;exact ⟨rv,⟨V.ref (s.heap.objs.size+1),H',I3,rfl,q3⟩⟩
  | next=>exact False.elim hq'
  | brk=>exact False.elim hq'
  | cont=>exact False.elim hq'
theorem a9P (M:Mk X.K C f) (F:FnOk X.prog X.w X.K X.mg X.base CX k f fd ps sp) (hr:Room (k+1) X.A) (hg:Gl X x) (hm:X.mg x=some (.ref C)) (hb:Binds X.K fd ps ds) (hd:Vals dvs ds) (hx:U5 CX X E)
  (ha:PA X (e::es) t) (hdb:(x==("__debug__":Str))=false:=by decide) (he:starEach (e::es) X.env=(false,eval e X.env)::starEach es X.env:=by rfl) (hpl:(backTo pos (starEach es X.env)).any (·.1)=false:=by rfl) :
  PE X (.Call (.Name x p) (e::es) [] pos) (b2Y C sp dvs E t):=by
 intro pins s σ H Q I h;refine wpAny_Call_Name_kw (a1t I hg hm ?_ hdb);refine W.callWith_K (h₀:=X.base) I.ok.mod.kin M.kp (G5 (ha pos pins s σ H _ I h) λ us s1 ⟨vs,H1,I1,r,q⟩=>⟨I1.kIn,?_⟩) he hpl;exact a8d M F hr hb hd hx I1 r q
end
section
variable {X:Cx} {CX:CXT} {k:Nat} {f C:Addr} {fd:FuncData} {ps ks:List Str} {sp:Sp} {E:XK} {x m:Str} {p pos apos kpos:Pos} {e o:Expr} {es:List Expr} {kws:List Keyword} {te ta:TE} {t tk:TA} {nm:Option Str}
structure b4P (K:W.Frag) (fd:FuncData) (ps ks:List Str) (g:List Value->List Value->List Value) (gV:List V->List V->List V):Prop where
 to:∀ (s:Shared) (us ws:List Value),K.In s.heap->(g us ws).length=ps.length->BindsTo s fd ⟨us,ks.zip ws⟩ (ps.zip (g us ws))
 rel:∀ {vs:List V} {us:List Value} {zs:List V} {ws:List Value},Vals vs us->Vals zs ws->Vals (gV vs zs) (g us ws)
variable {g:List Value->List Value->List Value} {gV:List V->List V->List V}
end
structure r8 (N P:List Str) (sc:Scope):Prop where
 kind:sc.kind=.function
 co:sc.isCoroutine=false
 gen:sc.isGenerator=false
 nd:N.Nodup
 pre:N.take P.length=P
 par:∀ x∈P,sc.names.lookup x=some .local\/sc.names.lookup x=some .cell
 nofree:∀ y∈sc.names,y.2≠.free
theorem a2J {kindOf:Str->Option NameKind} {x:Str}:∀ {binds:List (Str×Value)} {m:Str->Option Value},(∀ v,(x,v) ∉ binds)->bindL kindOf binds m x=m x
 | [],_,_=>rfl
 | (n,v)::r,m,h=>by
  unfold bindL;rw [a2J λ w hw=>h w (List.mem_cons_of_mem _ hw)]
  split
  ·have:x≠n:=by rintro rfl; exact h v List.mem_cons_self
   simp [this]
  ·rfl
theorem a2u {kindOf:Str->Option NameKind} {x:Str}:∀ {binds:List (Str×Value)} {m:Str->Option Value},(∀ v,(x,v) ∉ binds)->bindC kindOf binds m x=m x
 | [],_,_=>rfl
 | (n,v)::r,m,h=>by
  unfold bindC;rw [a2u λ w hw=>h w (List.mem_cons_of_mem _ hw)]
  split
  ·rfl
  ·have:x≠n:=by rintro rfl; exact h v List.mem_cons_self
   simp [this]
theorem a2G {kindOf:Str->Option NameKind} {x:Str} {v:Value}:∀ {P:List Str} {vs:List Value} {i:Nat} {m:Str->Option Value},P.Nodup->P[i]?=some x->vs[i]?=some v->kindOf x=some .local →
  bindL kindOf (P.zip vs) m x=some v
 | [],_,_,_,_,h,_,_=>by simp at h
 | _::_,[],_,_,_,_,h,_=>by simp at h
 | p::P,w::vs,0,m,nd,h1,h2,hk=>by
  simp at h1 h2; subst h1; subst h2
  show bindL kindOf ((p,w)::P.zip vs) m p=_
  unfold bindL;rw [a2J λ v hv=>(List.nodup_cons.mp nd).1 (List.of_mem_zip hv).1,if_pos hk];simp
 | p::P,w::vs,i+1,m,nd,h1,h2,hk=>by
  show bindL kindOf ((p,w)::P.zip vs) m x=_
  unfold bindL;exact a2G (i:=i) (List.nodup_cons.mp nd).2 (by simpa using h1) (by simpa using h2) hk
theorem a2D {kindOf:Str->Option NameKind} {x:Str} {v:Value}:∀ {P:List Str} {vs:List Value} {i:Nat} {m:Str->Option Value},P.Nodup->P[i]?=some x->vs[i]?=some v->kindOf x≠some .local →
  bindC kindOf (P.zip vs) m x=some v
 | [],_,_,_,_,h,_,_=>by simp at h
 | _::_,[],_,_,_,_,h,_=>by simp at h
 | p::P,w::vs,0,m,nd,h1,h2,hk=>by
  simp at h1 h2; subst h1; subst h2
  show bindC kindOf ((p,w)::P.zip vs) m p=_
  unfold bindC;rw [a2u λ v hv=>(List.nodup_cons.mp nd).1 (List.of_mem_zip hv).1,if_neg hk];simp
 | p::P,w::vs,i+1,m,nd,h1,h2,hk=>by
  show bindC kindOf ((p,w)::P.zip vs) m x=_
  unfold bindC;exact a2D (i:=i) (List.nodup_cons.mp nd).2 (by simpa using h1) (by simpa using h2) hk
def X5 (N:List Str) (vs:List V):St:=vs.map some++List.replicate (N.length - vs.length) none
def G9 (CX:CXT) (P:Program) (w:World) (K:W.Frag) (mg:Str->Option Value) (base:Heap) (N:List Str) (qual:Str) (scope:Scope) (f:Addr) (cd:Value) (A:Around) (outer:List Env) (s:Shared) (H:Hp) (E:XK):Cx where
 prog:=P
 w:=w
 K:=K
 mg:=mg
 base:=base
 A:=A.deeper (envOfC qual scope s.heap.objs.size f cd)
 N:=N
 s₀:=s
 H₀:=H
 env:=envOfC qual scope s.heap.objs.size f cd
 outer:=outer
 stack:=envOfC qual scope s.heap.objs.size f cd::outer
 ex:=[]
 calm:=true
 fn:=λ _=>true
 pn:=[]
 xe:=λ e s'=>wpAny (model P w) (A.deeper (envOfC qual scope s.heap.objs.size f cd)) (leaving (envOfC qual scope s.heap.objs.size f cd) e) (λ _ s''=>CX outer H s E e s'') (λ e' s''=>CX outer H s E e' s'') s'
theorem a4B {sc:Scope} {n:Nat} {x:Str} (h:sc.names.lookup x=some .cell):∃ c,(cellsFrom n sc.names []).lookup x=some c:=by
 have q:=W.cellsFrom_some sc.names n [] (.inl h);exact Option.isSome_iff_exists.mp q
theorem a6F {CX:CXT} {P:Program} {w:World} {K:W.Frag} {mg:Str->Option Value} {base:Heap} {N ps:List Str} {qual:Str} {scope:Scope} {f:Addr} {cd:Value} {A:Around} {outer:List Env} {s s1:Shared} {H:Hp} {E:XK} {us:List Value} {vs:List V}
  (S:r8 N ps scope) (hd:A.handled=none) (e0:Env0 P w K mg base A outer s H) (hl:vs.length=ps.length) (r:Vals vs us)
  (x:InCallC s s.heap.objs.size (bindL (envOfC qual scope s.heap.objs.size f cd).kindOf (ps.zip us) λ _=>none) (cellsFrom (s.heap.objs.size+1) scope.names []) (bindC (envOfC qual scope s.heap.objs.size f cd).kindOf (ps.zip us) λ _=>none) s1) :
  Inv (G9 CX P w K mg base N qual scope f cd A outer s H E) [] (X5 N vs) H s1:=by
 have hpl:ps.length<=N.length:=by have:=congrArg List.length S.pre; rw [List.length_take] at this; omega
 obtain ⟨h1,tk,rfl,hk⟩:=x.done;have noA:∀ b:Addr,b ∉ (G9 CX P w K mg base N qual scope f cd A outer s H E).ex:=λ b z=>absurd (show b∈([]:List Addr) from z) (by simp);refine ⟨⟨e0.mod,S.kind,rfl,rfl,Nat.le_refl _,λ y z c h1 h2=>?_,λ y hy=>?_,λ y c _ h=>?_,λ _=>hd,Around.frames_deeper e0.frames,.inr ⟨rfl,rfl⟩,λ b z=>absurd z (noA b),e0.bs,e0.bsz,λ b _ _=>noA b,λ b z=>absurd z (noA b),e0.funs,e0.frf⟩,
  rfl,e0.bare,Un.kept hk,⟨_,x.toInCall.ns,λ i y v h1 h2 h3=>?_⟩,λ y c h=>⟨_,x.cell y c h⟩,e0.hok.fresh (Nat.le_refl _),λ y c h=>?_,λ p hp=>absurd (show p∈([]:List (Addr×Obj)) from hp) (by simp),e0.hok.kept hk,?_⟩
 ·exact name_of_addr x.apart (PySem.mem_of_lookup h1) (PySem.mem_of_lookup h2)
 ·have hy:scope.names.lookup y=some .cell\/scope.names.lookup y=some .free:=hy
  rcases hy with hy | hy
  ·exact a4B hy
  ·exact absurd rfl (S.nofree _ (PySem.mem_of_lookup hy))
 ·exact Nat.le_of_lt (x.above y c (PySem.mem_of_lookup h))
 ·have hi:i<vs.length:=by
   unfold X5 at h2
   by_cases hi:i<vs.length
   ·exact hi
   ·rw [List.getElem?_append_right (by simpa using hi)] at h2
    rw [List.getElem?_replicate] at h2
    split at h2 <;> cases h2
  have ha:vs[i]?=some v:=by
   unfold X5 at h2;rw [List.getElem?_append_left (by simpa using hi),List.getElem?_map] at h2
   cases e:vs[i]? with
   | none=>rw [e] at h2; cases h2
   | some a=>rw [e] at h2; cases h2; rfl
  obtain ⟨u,hu,rv⟩:=r.get ha;have hp:ps[i]?=some y:=by
   rw [<- S.pre,List.getElem?_take_of_lt (by omega)]; exact h1
  have ndP:ps.Nodup:=by rw [<- S.pre]; exact S.nd.sublist (List.take_sublist _ _)
  refine ⟨u,rv,?_⟩;rcases S.par y (List.mem_of_getElem? hp) with k | k
  ·exact .inl ⟨k,a2G ndP hp hu k⟩
  ·obtain ⟨c,e⟩:=a4B (n:=s.heap.objs.size+1) k
   refine .inr ⟨.inl k,c,e,?_⟩;have q:=x.cell y c e;rw [a2D ndP hp hu (by show scope.names.lookup y≠_; rw [k]; decide)] at q;exact q
 ·exact e0.hok.fresh (Nat.le_of_lt (x.above y c (PySem.mem_of_lookup h)))
 ·unfold X5
  show _=N.length
  rw [List.length_append,List.length_map,List.length_replicate];omega
theorem a8J {CX:CXT} {P:Program} {w:World} {K:W.Frag} {mg:Str->Option Value} {base:Heap} {k:Nat} {f:Addr} {name qual:Str} {params:Arguments} {body:List Stmt} {scope:Scope} {dV kV doc pm cdv ct oc:Value} {an od:Option Addr}
  {osl:Array (Option Value)} {N ps:List Str} {sp:Sp} (lk:K.lookup f=some ⟨oc,od,.func (W.fnOf name qual params body scope dV kV doc pm an cdv ct),osl⟩) (hcd:W.codeIn K cdv qual=true) (S:r8 N ps scope)
  (len:∀ vs H Q E,sp vs H Q E->vs.length=ps.length)
  (hbody:∀ (A:Around) (outer:List Env) (s:Shared) (H:Hp) (vs:List V) (Q:VK) (E:XK),Room k (A.deeper (envOfC qual scope s.heap.objs.size f cdv))->sp vs H Q E →
   ∃ t,PSs (G9 CX P w K mg base N qual scope f cdv A outer s H E) body t/\t { nx:=λ _ H'=>Q .non H',rt:=Q } (X5 N vs) H) :
  FnOk P w K mg base CX (k+1) f (W.fnOf name qual params body scope dV kV doc pm an cdv ct) ps sp:=by
 refine ⟨len,λ A outer s H args us vs Q E hr e0 hb r hsp=>?_⟩;have hl:=len _ _ _ _ hsp;have KX:K.In s.heap:=e0.mod.kin.keeps λ b o e=>(e0.bs b o e).1;have lim:s.heap.NoLimit:=e0.mod.nolimit.keeps λ b o e=>(e0.bs b o e).1;have hkind:∀ y∈ps.zip us,scope.names.lookup y.1=some .local\/(scope.names.lookup y.1=some .cell/\((cellsFrom (s.heap.objs.size+1) scope.names []).lookup y.1).isSome=true):=λ ⟨n,v⟩ hy=>by
  rcases S.par n (List.of_mem_zip hy).1 with q | q
  ·exact .inl q
  ·exact .inr ⟨q,W.cellsFrom_some _ _ _ (.inl q)⟩
 refine codeAny_call_function hr.depth (KX _ _ lk) rfl S.co S.gen rfl (W.codeRec_of KX hcd) (hb _ _ _ _ ?_);refine wpAny_newFunctionEnv_cells S.kind hkind λ env he s1 x=>?_;subst he;refine ⟨lim.keeps x.toInCall.keep,codeAny_func ?_⟩;obtain ⟨t,ht,hq⟩:=hbody A outer s H vs Q E (hr.deeper _) hsp;have I:Inv (G9 CX P w K mg base N qual scope f cdv A outer s H E) [] (X5 N vs) H s1:=a6F S hr.hd e0 hl r x;refine wpAny_mono (ht [] s1 (X5 N vs) H _ I hq) (λ fl s' hs=>?_) λ e s' hs=>hs;have fin:∀ {σ':St} {H':Hp} {v:V} {u:Value},Inv (G9 CX P w K mg base N qual scope f cdv A outer s H E) [] σ' H' s'->RelV v u->Q v H'->CE outer P w H s Q u s' :=
  λ {σ' H' v u} J rv q=>⟨v,H',J.os,J.bare,J.base,J.hok,rv,q⟩
 cases fl with
 | ret u =>
  obtain ⟨v,σ',H',J,rv,q⟩:=hs;exact fin J rv q
 | next =>
  obtain ⟨σ',H',J,q⟩:=hs;exact fin (v:=V.non) (u:=Value.none) J rfl q
 | brk =>
  obtain ⟨_,_,_,q⟩:=hs;exact False.elim q
 | cont =>
  obtain ⟨_,_,_,q⟩:=hs;exact False.elim q
section
variable {X:Cx} {x:Str} {p pos:Pos} {e:Expr} {es:List Expr} {t:TA} {id T:String} {r:List V->Hp->VK->Prop}
def tCB (r:List V->Hp->VK->Prop) (t:TA):TE:=λ σ H Q=>t σ H λ vs H1=>r vs H1 Q
theorem j9 (hc:N6 X (.builtin id) r) (hg:Gl X x) (hm:X.mg x=none) (hv:bootBuiltins x=some (.builtin id)) (ha:PA X (e::es) t) (hn:x≠"__name__":=by decide) (hdb:(x==("__debug__":Str))=false:=by decide)
  (he:starEach (e::es) X.env=(false,eval e X.env)::starEach es X.env:=by rfl) (hpl:(backTo pos (starEach es X.env)).any (·.1)=false:=by rfl):PE X (.Call (.Name x p) (e::es) [] pos) (tCB r t):=by
 intro pins s σ H Q I h;refine wpAny_Call_Name_kw (a0h I hg hm hv ?_ hn hdb);exact PyProof.Rows.callWith_builtin1 (G5 (ha pos pins s σ H _ I h) λ us s1 ⟨vs,H1,I1,r1,q1⟩=>hc pins s1 σ H1 vs us Q I1 r1 q1) he hpl
theorem x9 (hc:N6 X (.type T) r) (hg:Gl X x) (hm:X.mg x=none) (hv:bootBuiltins x=some (.type T)) (ha:PA X (e::es) t) (hn:x≠"__name__":=by decide) (hdb:(x==("__debug__":Str))=false:=by decide)
  (he:starEach (e::es) X.env=(false,eval e X.env)::starEach es X.env:=by rfl) (hpl:(backTo pos (starEach es X.env)).any (·.1)=false:=by rfl):PE X (.Call (.Name x p) (e::es) [] pos) (tCB r t):=by
 intro pins s σ H Q I h;refine wpAny_Call_Name_kw (a0h I hg hm hv ?_ hn hdb);exact PyProof.Rows.callWith_type1 (G5 (ha pos pins s σ H _ I h) λ us s1 ⟨vs,H1,I1,r1,q1⟩=>hc pins s1 σ H1 vs us Q I1 r1 q1) he hpl
end
end L2
namespace HT
open PySem PyProof.Rows
section
open PySem.SeqAt
open PySem.AutoSeq1 (wpAny_loadPart')
open PySem.MeetsSeq PySem.MeetsSeq2 PySem.MeetsSeq3
end
section
variable {prog:Program} {w:World} {A:Around} {E:Value->Shared->Prop} {s:Shared}
theorem cat_tup {t b:Addr} {vs ws:List Value} {Q:Value->Shared->Prop} (ht:IsTup s.heap t vs.toArray) (hb:IsTup s.heap b ws.toArray) (hv:vs≠[])
  (h1:ws=[]->Q (.ref t) s) (h2:ws≠[]->Q (.ref s.heap.objs.size) { s with heap:=s.heap.push { cls:=.type "tuple",data:=.seq (vs++ws).toArray } })
  (hsz:vs.length+ws.length<=sizeLine):wpAny (model prog w) A (binaryOp .Add (.ref t) (.ref b)) Q E s:=by
 obtain ⟨⟨cls,dd,data,sl⟩,ho,hc,n,hd⟩:=id ht;obtain ⟨⟨cls2,dd2,data2,sl2⟩,ho2,hc2,n2,hd2⟩:=id hb;simp only at hc hd hc2 hd2;subst hc hd hc2 hd2;have e:vs.toArray++ws.toArray=(vs++ws).toArray:=by simp
 by_cases hw:ws=[]
 ·exact concat_meets ⟨_,ho,rfl⟩ ⟨_,ho2,rfl⟩ noFill_tuple_add seq_tuple_add PySem.F.slot_tuple_add PySem.F.entry_tuple_add (PySem.F.args_tuple_add_2 _ _)
   (tuple_addW1 t b vs.toArray ws.toArray n n2 dd dd2 sl sl2 (by simpa using hv) (by simp [hw])) ⟨ho,ho2,h1 hw⟩
 ·refine concat_meets ⟨_,ho,rfl⟩ ⟨_,ho2,rfl⟩ noFill_tuple_add seq_tuple_add PySem.F.slot_tuple_add PySem.F.entry_tuple_add (PySem.F.args_tuple_add_2 _ _)
   (tuple_addW2 t b vs.toArray ws.toArray n n2 dd dd2 sl sl2 (by simpa using hv) (by simpa using hw) (by rw [List.size_toArray,List.size_toArray]; exact hsz)) ⟨ho,ho2,?_⟩
  rw [e];exact h2 hw
def sIx (n d:Nat):Option Int->Nat
 | none=>d
 | some v=>if v<0 then (v+(n:Int)).toNat else min v.toNat n
theorem sIx_none (n d:Nat):sIx n d none=d:=rfl
theorem sIx_nat (n d k:Nat):sIx n d (some (k:Int))=min k n:=by
 show (if (k:Int)<0 then ((k:Int)+(n:Int)).toNat else min (k:Int).toNat n)=min k n
 rw [if_neg (by omega),Int.toNat_natCast]
end
end HT
namespace L2
open PySem PySem.Spec PyProof.Rows
abbrev TO:=St->Hp->(Option Int->Hp->Prop)->Prop
def PO (X:Cx) (e:Option Expr) (t:TO):Prop :=
 ∀ (pins:List (Addr×Obj)) (s:Shared) (σ:St) (H:Hp) (Q:Option Int->Hp->Prop),Inv X pins σ H s->t σ H Q →
  wpAny (model X.prog X.w) X.A (evalPart e X.env) (λ u s'=>∃ o H',Inv X pins σ H' s'/\IsPart u o/\Q o H') X.xe s
def a9r:TO:=λ _ H Q=>Q none H
def b3c (t:TE):TO:=λ σ H Q=>t σ H λ x H1=>∃ i,x=.int i/\Q (some i) H1
section
variable {X:Cx} {e:Expr} {te:TE} {lo hi:Option Expr} {tl th:TO} {pos p2:Pos}
theorem O9:PO X none a9r:=by
 intro pins s σ H Q I h;rw [evalPart_none];exact wpAny_pure ⟨none,H,I,.none,h⟩
theorem D2 (h:PE X e te):PO X (some e) (b3c te):=by
 intro pins s σ H Q I hw;rw [evalPart_some];refine G5 (h pins s σ H _ I hw) λ u s1 ⟨x,H1,I1,r1,q1⟩=>?_;obtain ⟨i,rfl,q⟩:=q1;obtain ⟨t,rfl⟩:=r1;exact ⟨some i,H1,I1,.int i t,q⟩
def SlR (X:Cx) (r:V->Option Int->Option Int->Hp->VK->Prop):Prop :=
 ∀ (pins:List (Addr×Obj)) (s:Shared) (σ:St) (H:Hp) (x:V) (v vl vu:Value) (lo hi:Option Int) (sl:Addr) (Q:VK),Inv X pins σ H s->RelV x v->s.heap.IsSliceOf sl vl vu .none->IsPart vl lo->IsPart vu hi->r x lo hi H Q →
  ∃ T id,typeLookup (.type T) "__getitem__"=pure (some (.builtin id))/\s.TypeIs v T/\wpAny (model X.prog X.w) X.A (getItem v (.ref sl)) (EP X pins σ Q) X.xe s
def tSl (r:V->Option Int->Option Int->Hp->VK->Prop) (te:TE) (tl th:TO):TE:=λ σ H Q=>te σ H λ x H1=>tl σ H1 λ l H2=>th σ H2 λ u H3=>r x l u H3 Q
theorem D9 {r:V->Option Int->Option Int->Hp->VK->Prop} (hr:SlR X r) (he:PE X e te) (hl:PO X lo tl) (hu:PO X hi th):PE X (.Subscript e (.Slice lo hi none p2) pos) (tSl r te tl th):=by
 intro pins s σ H Q I h;refine Subscript_ (G5 (he pins s σ H _ I h) λ v s1 ⟨x,H1,I1,r1,q1⟩=>?_);refine wpAny_Slice (G5 (hl pins s1 σ H1 _ I1 q1) λ vl s2 ⟨l,H2,I2,pl,q2⟩=>G5 (hu pins s2 σ H2 _ I2 q2) λ vu s3 ⟨u,H3,I3,pu,q3⟩=>?_);rw [evalPart_none];refine wpAny_pure ?_;have I4:Inv X pins σ H3 { s3 with heap:=s3.heap.push { cls:=.type "slice",data:=.fields #[vl,vu,.none] } }:=I3.kept (t':=s3.toks) λ b ob q=>Heap.get?_push_of_some _ q;obtain ⟨T,id,hT,ht,hg⟩:=hr pins { s3 with heap:=s3.heap.push { cls:=.type "slice",data:=.fields #[vl,vu,.none] } } σ H3 x v vl vu l u s3.heap.objs.size Q I4 r1 (Heap.IsSliceOf.new ..) pl pu q3
 show wpAny (model X.prog X.w) X.A (subscriptTail e (.Slice lo hi none p2) v (.ref s3.heap.objs.size)) (EP X pins σ Q) X.xe { s3 with heap:=s3.heap.push { cls:=.type "slice",data:=.fields #[vl,vu,.none] } }
 exact tail_any (ops:=[.ref s3.heap.objs.size,v]) ht hT hg (by with_unfolding_all rfl)
def E5 (xs:List V) (lo hi:Option Int):List V:=(xs.drop (HT.sIx xs.length 0 lo)).take (HT.sIx xs.length xs.length hi - HT.sIx xs.length 0 lo)
theorem R9 (xs:List V) (lo hi:Option Int):(E5 xs lo hi).length<=xs.length:=by
 unfold E5;rw [List.length_take,List.length_drop];omega
def b2Z (K:W.Frag):R2:=λ x y H Q=>∃ a b xs ys,x=.ref a/\y=.ref b/\SqT K H a xs/\SqT K H b ys/\xs≠[]/\xs.length+ys.length<=sizeLine ∧
 (ys=[]->Q (.ref a) H)/\(ys≠[]->∀ p,H p=none->Q (.ref p) (upd H p (.tup (xs++ys))))
theorem Vals.nil_iff {xs:List V} {us:List Value} (r:Vals xs us):us=[] ↔ xs=[]:=by
 cases r with
 | nil=>simp
 | cons _ _=>simp
theorem a9T:OpR X (binaryOp .Add) (b2Z X.K):=by
 intro pins s σ H x y v u Q I rx ry h;obtain ⟨a,b,xs,ys,rfl,rfl,ha,hb,hx,hz,q1,q2⟩:=h
 cases rx
 cases ry;obtain ⟨its,r1,p1,_⟩:=I.tuple ha;obtain ⟨its2,r2,p2,_⟩:=I.tuple hb;refine HT.cat_tup p1 p2 (λ z=>hx (r1.nil_iff.mp z)) (λ z=>⟨.ref a,H,I,rfl,q1 (r2.nil_iff.mp z)⟩) (λ z=>?_) (by rw [<- r1.length,<- r2.length]; exact hz);refine ⟨.ref s.heap.objs.size,_,I.laid (t':=s.toks) (o:=.tup (xs++ys)) (λ b ob q=>Heap.get?_push_of_some _ q) (Nat.le_refl _) ?_,rfl,q2 (λ w=>z (r2.nil_iff.mpr w)) _ (I.hok.fresh (Nat.le_refl _))⟩;exact ⟨by rw [List.length_append]; exact hz,_,r1.append r2,IsTup.new _ _⟩
end
def ixN (n:Nat) (i:Int):Option Nat:=if 0<=i then (if i<n then some i.toNat else none) else if -(n:Int)<=i then some (i+n).toNat else none
def M2 {α:Type} (xs:List α) (i:Int):Option α:=(ixN xs.length i).bind λ j=>xs[j]?
theorem a6c {n:Nat} {i:Int} {j:Nat} (h:ixN n i=some j):seqIndex? i n=some j/\j<n/\-(n:Int)<=i/\i<n:=by
 unfold ixN at h
 by_cases h0:0<=i
 ·rw [if_pos h0] at h
  by_cases h1:i<n
  ·rw [if_pos h1] at h
   have e:i.toNat=j:=Option.some.inj h;exact ⟨by rw [seqIndex_of h0 h1,e],by omega,by omega,h1⟩
  ·rw [if_neg h1] at h; cases h
 ·rw [if_neg h0] at h
  by_cases h1:-(n:Int)<=i
  ·rw [if_pos h1] at h
   have e:(i+n).toNat=j:=Option.some.inj h;exact ⟨by rw [seqIndex_neg (by omega) h1,e],by omega,h1,by omega⟩
  ·rw [if_neg h1] at h; cases h
theorem a6o {α:Type} {xs:List α} {i:Int} {v:α} (h:M2 xs i=some v):∃ j,seqIndex? i xs.length=some j/\xs[j]?=some v/\j<xs.length/\-(xs.length:Int)<=i/\i<xs.length:=by
 unfold M2 at h
 cases e:ixN xs.length i with
 | none=>rw [e] at h; cases h
 | some j =>
  rw [e] at h;obtain ⟨h1,h2,h3,h4⟩:=a6c e;exact ⟨j,h1,h,h2,h3,h4⟩
theorem r6 {α:Type} {xs:List α} {j:Nat} {v:α} (h:xs[j]?=some v):M2 xs (j:Int)=some v:=by
 have hj:j<xs.length:=(List.getElem?_eq_some_iff.mp h).1;have e:ixN xs.length (j:Int)=some j:=by
  unfold ixN;rw [if_pos (by omega),if_pos (by omega)]; simp
 unfold M2; rw [e]; exact h
theorem a7T {α:Type} (xs:List α) (v:α):M2 (xs++[v]) (-1)=some v:=by
 have hl:(xs++[v]).length=xs.length+1:=by simp
 have e:ixN (xs++[v]).length (-1)=some xs.length:=by
  unfold ixN;rw [hl,if_neg (by decide),if_pos (by omega)]
  congr 1
  omega
 unfold M2;rw [e]
 show (xs++[v])[xs.length]?=some v
 simp
def a9X (b:Expr):Prop:=∀ o i,subscripted b false o i=operate [o,i] (getItem o i)
def IxR (X:Cx) (r:R2):Prop :=
 ∀ (value slice:Expr) (pins:List (Addr×Obj)) (s:Shared) (σ:St) (H:Hp) (x y:V) (v u:Value) (Q:VK),Inv X pins σ H s->RelV x v->RelV y u->r x y H Q →
  subscripted slice false v u=operate [v,u] (getItem v u)->wpAny (model X.prog X.w) X.A (subscriptTail value slice v u) (EP X pins σ Q) X.xe s
def MtR (X:Cx) (id:String) (r:V->List V->Hp->VK->Prop):Prop :=
 ∀ (pins:List (Addr×Obj)) (s:Shared) (σ:St) (H:Hp) (x:V) (xs:List V) (v:Value) (us:List Value) (Q:VK),Inv X pins σ H s->RelV x v->Vals xs us->r x xs H Q →
  wpAny (model X.prog X.w) X.A (call (.builtin id) (v::us)) (EP X pins σ Q) X.xe s
section
variable {X:Cx} {a b:Expr} {ta tb:TE} {pos:Pos}
theorem i9 {r:R2} (hr:IxR X r) (ha:PE X a ta) (hb:PE X b tb) (hs:a9X b):PE X (.Subscript a b pos) (tOp r ta tb):=by
 intro pins s σ H Q I h;exact Subscript_ (b1v ha hb I h λ v u s2 x y H2 I2 rx ry q=>hr a b pins s2 σ H2 x y v u Q I2 rx ry q (hs _ _))
def b3o (K:W.Frag):R2:=λ x y H Q=>∃ p xs i v,x=.ref p/\y=.int i/\SqL K H p xs/\M2 xs i=some v/\Q v H
def b3u (K:W.Frag):R2:=λ x y H Q=>∃ p xs i v,x=.ref p/\y=.int i/\SqT K H p xs/\M2 xs i=some v/\Q v H
theorem j0:IxR X (b3o X.K):=by
 intro value slice pins s σ H x y v u Q I rx ry h hs;obtain ⟨p,xs,i,z,rfl,rfl,hq,he,q⟩:=h
 cases rx;obtain ⟨t,rfl⟩:=ry;obtain ⟨its,r,pl,hz⟩:=I.list hq;obtain ⟨j,h1,h2,h3,h4,h5⟩:=a6o he;obtain ⟨w,ew,rw'⟩:=r.get h2;have hl:=r.length;have hn:=a3o;have fin:EP X pins σ Q w s:=⟨z,H,I,rw',q⟩
 by_cases h0:0<=i
 ·have hj:i.toNat=j:=by
   rw [seqIndex_of h0 h5] at h1;exact Option.some.inj h1
  exact item_listR pl.isList h0 (by omega) (by rw [hj]; simpa using ew) fin hs
 ·have hj:(i+(its.toArray.size:Int)).toNat=j:=by
   rw [seqIndex_neg (by omega) h4] at h1;rw [List.size_toArray,<- hl];exact Option.some.inj h1
  exact subscriptTail_builtinR (x:=w) pl.isList.typeIs slot_list_getitem.lookup
   (wpAny_getItem_list_neg (Q:=λ r s'=>r=w/\EP X pins σ Q r s') pl.isList (by omega) (by rw [List.size_toArray] <;> omega) (by omega) (by rw [hj]; simpa using ew) ⟨rfl,fin⟩) hs
theorem t5:IxR X (b3u X.K):=by
 intro value slice pins s σ H x y v u Q I rx ry h hs;obtain ⟨p,xs,i,z,rfl,rfl,hq,he,q⟩:=h
 cases rx;obtain ⟨t,rfl⟩:=ry;obtain ⟨its,r,pl,hz⟩:=I.tuple hq;obtain ⟨j,h1,h2,h3,h4,h5⟩:=a6o he;obtain ⟨w,ew,rw'⟩:=r.get h2;have hl:=r.length;have hn:=a3o;have fin:EP X pins σ Q w s:=⟨z,H,I,rw',q⟩;exact subscriptTail_builtinR (x:=w) pl.typeIs slot_tuple_getitem.lookup
  (getItem_tuple (j:=j) (Q:=λ r s'=>r=w/\EP X pins σ Q r s') pl (by omega) (by omega) (by rw [List.size_toArray,<- hl]; exact h1) (by simpa using ew) ⟨rfl,fin⟩) hs
theorem a4O (its:List Value) (n j:Nat) (u:Value):Obj.mapSeq (·.setIfInBounds j u) { cls:=.type "list",data:=.seq its.toArray n }={ cls:=.type "list",data:=.seq (its.set j u).toArray n }:=by
 simp [Obj.mapSeq]
theorem Inv.lst {pins:List (Addr×Obj)} {σ:St} {H:Hp} {s:Shared} {p:Addr} {xs:List V} (I:Inv X pins σ H s) (h:H p=some (.lst xs)) :
  ∃ (its:List Value) (n:Nat),Vals xs its/\s.heap.get? p=some { cls:=.type "list",data:=.seq its.toArray n }/\xs.length<=sizeLine:=by
 obtain ⟨z,its,n,r,e⟩:=I.hok p _ h;exact ⟨its,n,r,e,z⟩
theorem Inv.lstUpd {pins:List (Addr×Obj)} {σ:St} {H:Hp} {s:Shared} {p:Addr} {xs ys:List V} {its its':List Value} {n n':Nat} {f:Obj->Obj} (I:Inv X pins σ H s) (h:H p=some (.lst xs))
  (ho:s.heap.get? p=some { cls:=.type "list",data:=.seq its.toArray n }) (hf:f { cls:=.type "list",data:=.seq its.toArray n }={ cls:=.type "list",data:=.seq its'.toArray n' }) (r:Vals ys its') (hz:ys.length<=sizeLine) (t:Nat) :
  Inv X pins σ (upd H p (.lst ys)) { s with heap:=s.heap.update p f,toks:=t }:=by
 have e:(s.heap.update p f).get? p=some { cls:=.type "list",data:=.seq its'.toArray n' }:=by
  rw [Heap.get?_update_self f ho (by rw [hf] <;> rfl),hf]
 refine I.write (x:=p) (e:=p) (by rw [h]; trivial) (.inl rfl) (λ b u hb q=>(Heap.get?_update_other _ _ (Ne.symm hb)).trans q) ⟨_,e⟩ ?_;exact ⟨hz,its',n',r,e⟩
def b3f:V->V->V->Hp->(Hp->Prop)->Prop:=λ o i v H Q=>∃ p xs k j,o=.ref p/\i=.int k/\H p=some (.lst xs)/\ixN xs.length k=some j/\Q (upd H p (.lst (xs.set j v)))
theorem D6:b3H X b3f:=by
 intro pins s σ H o i v ov iv u Q I ro ri rv h;obtain ⟨p,xs,k,j,rfl,rfl,hp,hj,q⟩:=h
 cases ro;obtain ⟨t,rfl⟩:=ri;obtain ⟨its,n,r,ho,hz⟩:=I.lst hp;obtain ⟨h1,h2,h3,h4⟩:=a6c hj;have hl:=r.length;have hn:=a3o;have I':Inv X pins σ (upd H p (.lst (xs.set j v))) { s with heap:=s.heap.update p (Obj.mapSeq (·.setIfInBounds j u)) } :=
  I.lstUpd hp ho (a4O its n j u) (r.set rv j) (by rw [List.length_set]; exact hz) s.toks
 by_cases h0:0<=k
 ·have hk:k.toNat=j:=by
   rw [seqIndex_of h0 h4] at h1;exact Option.some.inj h1
  exact W.ki_setAt ho h0 (by omega) (by rw [List.size_toArray,<- hl]; exact h4) (by rw [hk]; exact ⟨_,I',q⟩)
 ·have hk:(k+(its.toArray.size:Int)).toNat=j:=by
   rw [seqIndex_neg (by omega) h3] at h1;rw [List.size_toArray,<- hl];exact Option.some.inj h1
  exact W.ki_setBack ho (by omega) (by rw [List.size_toArray,<- hl]; exact h3) (by omega) (by rw [hk]; exact ⟨_,I',q⟩)
theorem a2P (lo hi:Option Int) (n:Nat):(sliceBounds lo hi none n).1=((HT.sIx n 0 lo:Nat):Int)/\(sliceBounds lo hi none n).2.1=((HT.sIx n n hi:Nat):Int)/\(sliceBounds lo hi none n).2.2=1:=by
 refine ⟨?_,?_,rfl⟩
 ·cases lo with
  | none=>simp [sliceBounds,HT.sIx]
  | some i =>
   simp only [sliceBounds,HT.sIx,Option.getD_none,show (1:Int)>0 by decide,if_true]
   by_cases h:i<0
   ·simp only [h,if_true] <;> omega
   ·simp only [h,if_false] <;> omega
 ·cases hi with
  | none=>simp [sliceBounds,HT.sIx]
  | some i =>
   simp only [sliceBounds,HT.sIx,Option.getD_none,show (1:Int)>0 by decide,if_true]
   by_cases h:i<0
   ·simp only [h,if_true] <;> omega
   ·simp only [h,if_false] <;> omega
theorem a2q (its:List Value) (lo hi:Option Int):slicePick its.toArray lo hi none=((its.drop (HT.sIx its.length 0 lo)).take (HT.sIx its.length its.length hi - HT.sIx its.length 0 lo)).toArray:=by
 obtain ⟨h1,h2,h3⟩:=a2P lo hi its.toArray.size;unfold slicePick;rw [h1,h2,h3];simp only [sliceRange_one,pick_run,List.size_toArray] <;> rfl
def b2K (K:W.Frag):V->Option Int->Option Int->Hp->VK->Prop:=λ x lo hi H Q=>∃ a xs,x=.ref a/\SqL K H a xs/\∀ p,H p=none->Q (.ref p) (upd H p (.lst (E5 xs lo hi)))
theorem J7:SlR X (b2K X.K):=by
 intro pins s σ H x v vl vu lo hi sl Q I rx hs pl pu h;obtain ⟨a,xs,rfl,hx,q⟩:=h
 cases rx;obtain ⟨its,r,ht,hz⟩:=I.list hx;have hlen:=r.length;refine ⟨"list",_,slot_list_getitem.lookup,ht.isList.typeIs,?_⟩;refine wpAny_getItem_list_slice ht.isList hs pl pu .none (by simp) ?_ (by rw [List.size_toArray] <;> omega);rw [a2q,<- hlen];refine ⟨.ref s.heap.objs.size,_,I.laid (t':=s.toks) (o:=.lst (E5 xs lo hi)) (λ b ob q=>Heap.get?_push_of_some _ q) (Nat.le_refl _) ?_,rfl,q _ (I.hok.fresh (Nat.le_refl _))⟩;exact ⟨Nat.le_trans (R9 xs lo hi) hz,_,0,(r.drop (HT.sIx xs.length 0 lo)).take (HT.sIx xs.length xs.length hi - HT.sIx xs.length 0 lo),Heap.get?_push_size _ rfl⟩
def a0Z:V->Bool
 | .non=>true
 | .bl _=>true
 | .int _=>true
 | .str _=>true
 | _=>false
def eqV:V->V->Bool
 | .non,.non=>true
 | .bl a,.bl b=>a==b
 | .bl a,.int b=>(if a then 1 else 0)==b
 | .int a,.bl b=>a==(if b then 1 else 0)
 | .int a,.int b=>a==b
 | .str a,.str b=>a==b
 | _,_=>false
theorem b1e {A:Around} {s:Shared} {y x:V} {u v:Value} (ry:RelV y u) (rx:RelV x v) (fy:a0Z y=true) (fx:a0Z x=true):SeqAt.EqAt A s u v (eqV y x):=by
 cases y with
 | non =>
  cases ry
  cases x with
  | non=>cases rx; exact SeqAt.EqAt.same _
  | bl b=>cases rx; exact SeqAt.EqAt.none_bool b
  | int b=>obtain ⟨t,rfl⟩:=rx; exact SeqAt.EqAt.none_int b t
  | str b=>obtain ⟨t,rfl⟩:=rx; exact SeqAt.EqAt.none_str b t
  | _=>exact absurd (show false=true from fx) Bool.false_ne_true
 | bl a =>
  cases ry
  cases x with
  | non=>cases rx; exact SeqAt.EqAt.bool_none a
  | bl b=>cases rx; exact SeqAt.EqAt.bool_bool a b
  | int b=>obtain ⟨t,rfl⟩:=rx; exact SeqAt.EqAt.bool_int a b t
  | str b=>obtain ⟨t,rfl⟩:=rx; exact SeqAt.EqAt.bool_str a b t
  | _=>exact absurd (show false=true from fx) Bool.false_ne_true
 | int a =>
  obtain ⟨t',rfl⟩:=ry
  cases x with
  | non=>cases rx; exact SeqAt.EqAt.int_none a t'
  | bl b=>cases rx; exact SeqAt.EqAt.int_bool a t' b
  | int b=>obtain ⟨t,rfl⟩:=rx; exact SeqAt.EqAt.int_int a t' b t
  | str b=>obtain ⟨t,rfl⟩:=rx; exact SeqAt.EqAt.int_str a t' b t
  | _=>exact absurd (show false=true from fx) Bool.false_ne_true
 | str a =>
  obtain ⟨t',rfl⟩:=ry
  cases x with
  | non=>cases rx; exact SeqAt.EqAt.str_none a t'
  | bl b=>cases rx; exact SeqAt.EqAt.str_bool a t' b
  | int b=>obtain ⟨t,rfl⟩:=rx; exact SeqAt.EqAt.str_int a t' b t
  | str b=>obtain ⟨t,rfl⟩:=rx; exact SeqAt.EqAt.str_str a t' b t
  | _=>exact absurd (show false=true from fx) Bool.false_ne_true
 | _=>exact absurd (show false=true from fy) Bool.false_ne_true
def eqU (x:V) (u:Value):Bool:=match u with
 | .none=>eqV .non x
 | .bool b=>eqV (.bl b) x
 | .int i _=>eqV (.int i) x
 | .str z _=>eqV (.str z) x
 | _=>false
theorem a8S {x y:V} {u:Value} (r:RelV y u) (f:a0Z y=true):eqU x u=eqV y x:=by
 cases y with
 | non=>cases r; rfl
 | bl b=>cases r; rfl
 | int i=>obtain ⟨t,rfl⟩:=r; rfl
 | str z=>obtain ⟨t,rfl⟩:=r; rfl
 | _=>exact absurd (show false=true from f) Bool.false_ne_true
theorem a2Z {x:V}:∀ {xs:List V} {us:List Value},Vals xs us->xs.all a0Z=true->us.any (eqU x)=xs.any λ y=>eqV y x
 | _,_,.nil,_=>rfl
 | y::xs,u::us,.cons r t,f=>by
  rw [List.all_cons,Bool.and_eq_true] at f;rw [List.any_cons,List.any_cons,a8S r f.1,a2Z t f.2]
theorem a1E {A:Around} {s:Shared} {x:V} {v:Value} (rx:RelV x v) (fx:a0Z x=true):∀ {xs:List V} {us:List Value},Vals xs us->xs.all a0Z=true->∀ u∈us,SeqAt.EqAt A s u v (eqU x u)
 | _,_,.nil,_=>λ u hu=>by cases hu
 | y::xs,u::us,.cons r t,f=>λ u' hu=>by
  rw [List.all_cons,Bool.and_eq_true] at f;rcases List.mem_cons.mp hu with rfl | hu
  ·rw [a8S r f.1]; exact b1e r rx f.1 fx
  ·exact a1E rx fx t f.2 u' hu
def inV (x:V) (xs:List V):Bool:=xs.any λ y=>eqV y x
def rIn (K:W.Frag) (neg:Bool):R2:=λ x y H Q=>∃ p xs,y=.ref p/\(SqL K H p xs\/SqT K H p xs)/\a0Z x=true/\xs.all a0Z=true/\Q (.bl (if neg then !inV x xs else inV x xs)) H
theorem Y8:OpR X (compareOp .In) (rIn X.K false):=by
 intro pins s σ H x y v u Q I rx ry h;obtain ⟨p,xs,rfl,hq,fx,fs,q⟩:=h
 cases ry;rcases hq with hq | hq
 ·obtain ⟨its,r,pl,hz⟩:=I.list hq
  refine SeqAt.in_listAt (eqU x) pl.isList (λ w hw=>a1E rx fx r fs w (by simpa using hw)) ⟨.bl _,H,I,rfl,?_⟩;rw [show its.toArray.any (eqU x)=its.any (eqU x) by simp,a2Z r fs];exact q
 ·obtain ⟨its,r,pl,hz⟩:=I.tuple hq
  refine SeqAt.in_tupleAt (eqU x) pl (λ w hw=>a1E rx fx r fs w (by simpa using hw)) ⟨.bl _,H,I,rfl,?_⟩;rw [show its.toArray.any (eqU x)=its.any (eqU x) by simp,a2Z r fs];exact q
theorem j7:N6 X (.builtin "len") (λ xs H Q=>∃ p ys,xs=[.ref p]/\(SqL X.K H p ys\/SqT X.K H p ys)/\Q (.int ys.length) H):=by
 intro pins s σ H xs us Q I r h;obtain ⟨p,ys,rfl,hq,q⟩:=h;obtain ⟨u,rfl,rx⟩:=S3 r
 cases rx;have hn:=a3o;rcases hq with hq | hq
 ·obtain ⟨its,r',pl,hz⟩:=I.list hq
  have hlen:=r'.length;exact Calls.call_len_list pl.isList (by simp only [List.size_toArray] <;> omega) ⟨.int ys.length,H,I.tok _,⟨s.toks+1,by rw [List.size_toArray,hlen]⟩,q⟩
 ·obtain ⟨its,r',pl,hz⟩:=I.tuple hq
  have hlen:=r'.length;exact len_tuple pl (by simp only [List.size_toArray] <;> omega) ⟨.int ys.length,H,I.tok _,⟨s.toks+1,by rw [List.size_toArray,hlen]⟩,q⟩
theorem C6:N6 X (.type "list") (λ xs H Q=>∃ p ys,xs=[.ref p]/\(SqL X.K H p ys\/SqT X.K H p ys)/\∀ l,H l=none->Q (.ref l) (upd H l (.lst ys))):=by
 intro pins s σ H xs us Q I r h;obtain ⟨p,ys,rfl,hq,q⟩:=h;obtain ⟨u,rfl,rx⟩:=S3 r
 cases rx;have fin:∀ (its:List Value),Vals ys its->ys.length<=sizeLine->∀ (h':Heap) (c':Nat),(∀ b o',s.heap.get? b=some o'->h'.get? b=some o') →
   h'.get? s.heap.objs.size=some { cls:=.type "list",dict:=none,data:=.seq its.toArray c',slots:=#[] }->EP X pins σ Q (.ref s.heap.objs.size) { s with heap:=h' }:=λ its r' hz h' c' kp e =>
  ⟨.ref s.heap.objs.size,_,I.laid (t':=s.toks) kp (Nat.le_refl _) (show ObjOk X.prog X.w _ h' _ (.lst ys) from ⟨hz,its,c',r',e⟩),rfl,q _ (I.hok.fresh (Nat.le_refl _))⟩
 rcases hq with hq | hq
 ·obtain ⟨its,r',pl,hz⟩:=I.list hq
  have hlen:=r'.length;obtain ⟨o,ho,hc,n,hd⟩:=pl.isList;exact call_list_seq p (.inl rfl) ho hc hd (λ h' c' kp e=>fin its r' hz h' c' kp e) (by simp only [List.size_toArray] <;> omega)
 ·obtain ⟨its,r',pl,hz⟩:=I.tuple hq
  have hlen:=r'.length;obtain ⟨o,ho,hc,n,hd⟩:=pl;exact call_list_seq p (.inr rfl) ho hc hd (λ h' c' kp e=>fin its r' hz h' c' kp e) (by simp only [List.size_toArray] <;> omega)
theorem O8:N6 X (.type "tuple") (λ xs H Q=>∃ p ys,xs=[.ref p]/\((SqL X.K H p ys/\∀ l,H l=none->Q (.ref l) (upd H l (.tup ys)))\/(SqT X.K H p ys/\Q (.ref p) H))):=by
 intro pins s σ H xs us Q I r h;obtain ⟨p,ys,rfl,h⟩:=h;obtain ⟨u,rfl,rx⟩:=S3 r
 cases rx;rcases h with ⟨hq,q⟩ | ⟨hq,q⟩
 ·obtain ⟨its,r',pl,hz⟩:=I.list hq
  have hlen:=r'.length;refine call_tuple_list pl.isList (λ h' kp=>?_) (by simp only [List.size_toArray] <;> omega);have I1:Inv X pins σ H { s with heap:=h' }:=I.kept (t':=s.toks) kp;have I2:Inv X pins σ (upd H h'.objs.size (.tup ys)) { s with heap:=h'.push { cls:=.type "tuple",data:=.seq its.toArray } } :=
   I1.laid (t':=s.toks) (λ b o e=>Heap.get?_push_of_some _ e) (Nat.le_refl _) (show ObjOk X.prog X.w _ _ _ (.tup ys) from ⟨hz,its,r',IsTup.new _ _⟩)
  exact ⟨.ref h'.objs.size,_,I2,rfl,q _ (I1.hok.fresh (Nat.le_refl _))⟩
 ·obtain ⟨its,r',pl,hz⟩:=I.tuple hq
  exact call_tuple_same pl ⟨.ref p,H,I,rfl,q⟩
def tyV (K:W.Frag) (T:String) (x:V) (H:Hp):Prop:=match x with
 | .str _=>T="str"
 | .int _=>T="int"
 | .ref p=>(T="list"/\∃ xs,SqL K H p xs)\/(T="tuple"/\∃ o,K.lookup p=some o/\o.cls=.type "tuple"/\o.dict=none) ∨
   (T="dict"/\((∃ kvs,H p=some (.dK kvs))\/∃ kvs,H p=some (.dT kvs)))\/(T="set"/\∃ S n,H p=some (.set S n))
 | _=>False
theorem b1S {pins:List (Addr×Obj)} {σ:St} {H:Hp} {s:Shared} {T:String} {x:V} {v:Value} (I:Inv X pins σ H s) (r:RelV x v) (ty:tyV X.K T x H) :
  s.TypeIs v T/\∀ a,v=.ref a->∃ ob,s.heap.get? a=some ob/\ob.dict=none:=by
 cases x with
 | str z =>
  obtain ⟨t,rfl⟩:=r
  cases (show T="str" from ty);exact ⟨typeIs_str s z t,λ _ e=>nomatch e⟩
 | int i =>
  obtain ⟨t,rfl⟩:=r
  cases (show T="int" from ty);exact ⟨typeIs_int s i t,λ _ e=>nomatch e⟩
 | ref p =>
  cases r;rcases ty with ⟨rfl,xs,hq⟩ | ⟨rfl,o,hk,hc,hd⟩ | ⟨rfl,hk⟩ | ⟨rfl,S,n,hk⟩
  ·obtain ⟨its,_,pl,_⟩:=I.list hq
   refine ⟨pl.isList.typeIs,λ a e=>?_⟩
   cases e;obtain ⟨o,n,e,c,hd,_⟩:=pl;exact ⟨o,e,hd⟩
  ·refine ⟨⟨o,I.kIn p o hk,hc⟩,λ a e=>?_⟩
   cases e;exact ⟨o,I.kIn _ o hk,hd⟩
  ·have z:∃ o,s.heap.get? p=some o/\o.ExactDict:=by
    rcases hk with ⟨kvs,hk⟩ | ⟨kvs,hk⟩
    ·obtain ⟨_,_,_,_,o,_,_,e,ex,_⟩:=I.hok p _ hk
     exact ⟨o,e,ex⟩
    ·obtain ⟨_,_,_,_,o,_,_,e,ex,_⟩:=I.hok p _ hk
     exact ⟨o,e,ex⟩
   obtain ⟨o,e,ex⟩:=z;refine ⟨⟨o,e,ex.1⟩,λ a e2=>?_⟩
   cases e2;exact ⟨o,e,ex.2.1⟩
  ·obtain ⟨o,_,_,_,e,ex,_⟩:=I.hok p _ hk
   refine ⟨⟨o,e,ex.1⟩,λ a e2=>?_⟩
   cases e2;exact ⟨o,e,ex.2.1⟩
 | _=>exact False.elim ty
def tBM (K:W.Frag) (T:String) (r:V->List V->Hp->VK->Prop) (to:TE) (t:TA):TE:=λ σ H Q=>to σ H λ x H1=>tyV K T x H1/\t σ H1 λ xs H2=>r x xs H2 Q
variable {o e:Expr} {es:List Expr} {to:TE} {t:TA} {name:Str} {apos cpos:Pos} {T id:String} {r:V->List V->Hp->VK->Prop}
theorem a1Z (pa:PlainAttrs T) (slot:Slot T name id) (hty:typeOf (.builtin id)=pure (.type "method_descriptor")) (hm:MtR X id r) (ho:PE X o to) (ha:PA X (e::es) t)
    (hbase:attributeBase o name X.env (eval o X.env)=eval o X.env:=by rfl)
    (hfew:((backTo cpos (starEach (e::es) X.env)).all (λ x=>!x.1)&&(backToKw cpos (keywordEach [] X.env)).all (λ x=>x.1.isSome)
     &&decide ((e::es).length+([]:List Keyword).length+(if ([]:List Keyword).isEmpty then 0 else 1)<30))=true:=by rfl)
    (hline:(apos.endLine==cpos.line)=true:=by rfl) (hs:starEach (e::es) X.env=(false,eval e X.env)::starEach es X.env:=by rfl) (hplain:(backTo cpos (starEach es X.env)).any (·.1)=false:=by rfl) :
    PE X (.Call (.Attribute o name apos) (e::es) [] cpos) (tBM X.K T r to t):=by
  intro pins s σ H Q I h;refine wpAny_Call_method_late hbase hfew hline rfl (G5 (ho pins s σ H _ I h) λ v s1 ⟨x,H1,I1,r1,ty,q1⟩=>?_);obtain ⟨h1,h2⟩:=b1S I1 r1 ty;refine ⟨T,id,pa,slot,hty,h1,h2,?_⟩;have hA:=ha cpos pins s1 σ H1 _ I1 q1;rw [hs] at hA ⊢;refine Calls.callWith_builtin (by show (false || (backTo cpos (starEach es X.env)).any (·.1))=false; rw [hplain] <;> rfl) (Calls.evalArgs_plain ?_);exact G5 hA λ us s2 ⟨vs,H2,I2,r2,q2⟩=>hm pins s2 σ H2 x vs v us Q I2 r1 r2 q2
/- xs.append(e),list.index on a module's tuple .. are MtR facts of 06m -/
end
def MtM (X:Cx) (id:String) (r:V->List V->Hp->VK->Prop):Prop :=
 ∀ (pins:List (Addr×Obj)) (s:Shared) (σ:St) (H:Hp) (x:V) (xs:List V) (v:Value) (us:List Value) (Q:VK),Inv X pins σ H s->RelV x v->Vals xs us->r x xs H Q →
  wpAny (model X.prog X.w) X.A (call (.builtin id) (v::us)) (EP X pins σ Q) X.xe s
theorem Vals.one:∀ {x:V} {us:List Value},Vals [x] us->∃ u,us=[u]/\RelV x u
 | _,_,.cons r .nil=>⟨_,rfl,r⟩
theorem Vals.rep {xs:List V} {us:List Value} (h:Vals xs us):∀ k:Nat,Vals (List.replicate k xs).flatten (List.replicate k us).flatten
 | 0=>.nil
 | k+1=>by
  rw [List.replicate_succ,List.replicate_succ,List.flatten_cons,List.flatten_cons];exact Vals.append h (Vals.rep h k)
theorem a2v (its:List Value):∀ (k:Nat) (acc:List Value),
  List.foldl (λ x1 x2=>x1++x2) acc.toArray (List.replicate k its.toArray)=(acc++(List.replicate k its).flatten).toArray
 | 0,acc=>by simp
 | k+1,acc=>by
  have e:acc.toArray++its.toArray=(acc++its).toArray:=by simp
  have e2:(acc++its)++(List.replicate k its).flatten=acc++(List.replicate (k+1) its).flatten:=by
   rw [List.replicate_succ,List.flatten_cons,List.append_assoc]
  rw [<- e2,<- a2v its k (acc++its),<- e,List.replicate_succ,List.foldl_cons]
section
variable {X:Cx} {pins:List (Addr×Obj)} {σ:St} {H:Hp} {s:Shared} {l b:Addr} {xs ys zs:List V}
theorem Inv.lset {its its':List Value} {n:Nat} {f:Array Value->Array Value} {t':Nat} (I:Inv X pins σ H s) (hH:H l=some (.lst xs))
  (e:s.heap.get? l=some { cls:=.type "list",data:=.seq its.toArray n }) (hf:f its.toArray=its'.toArray) (hv:Vals ys its') (hz:ys.length<=sizeLine) :
  Inv X pins σ (upd H l (.lst ys)) { s with heap:=s.heap.update l (Obj.mapSeq f),toks:=t' }:=by
 have q:=PySem.IsL.update e f;rw [hf] at q;refine I.write (x:=l) (e:=l) (by rw [hH]; exact trivial) (.inl rfl) (λ b' u hb hu=>(Heap.get?_update_other s.heap (Obj.mapSeq f) (Ne.symm hb)).trans hu) ⟨_,q⟩ ?_;exact ⟨hz,its',_,hv,q⟩
theorem Inv.lnew {its:List Value} {t':Nat} (I:Inv X pins σ H s) (hv:Vals ys its) (hz:ys.length<=sizeLine) :
  Inv X pins σ (upd H s.heap.objs.size (.lst ys)) { s with heap:=s.heap.push { cls:=.type "list",data:=.seq its.toArray },toks:=t' } :=
 I.laid (λ _ _ q=>Heap.get?_push_of_some _ q) (Nat.le_refl _) ⟨hz,its,0,hv,Heap.get?_push_size _ rfl⟩
theorem Inv.fresh (I:Inv X pins σ H s):H s.heap.objs.size=none:=I.hok.fresh (Nat.le_refl _)
theorem Inv.lstM (I:Inv X pins σ H s) (hH:H l=some (.lst xs)):xs.length<=sizeLine/\∃ (its:List Value) (n:Nat),Vals xs its/\xs.length=its.length/\s.heap.get? l=some { cls:=.type "list",data:=.seq its.toArray n }:=by
 obtain ⟨z,its,n,r,e⟩:=I.hok l _ hH;exact ⟨z,its,n,r,r.length,e⟩
theorem a7O {n:Nat} (h:n<=sizeLine):Builtin.List.listTooLong n=false:=by
 unfold Builtin.List.listTooLong;exact decide_eq_false (by omega)
end
section
variable {X:Cx}
def b0h:V->List V->Hp->VK->Prop:=λ x vs H Q=>∃ l xs y,x=.ref l/\vs=[y]/\H l=some (.lst xs)/\xs.length<sizeLine/\Q .non (upd H l (.lst (xs++[y])))
theorem O5:MtM X "list.append" b0h:=by
 intro pins s σ H x vs v us Q I rx rv h;obtain ⟨l,xs,y,rfl,rfl,hH,hz,q⟩:=h
 cases rx;obtain ⟨u,rfl,ru⟩:=rv.one;obtain ⟨z,its,n,r,hl,e⟩:=I.lstM hH;refine call_meets F.slot_list_append ⟨_,e,rfl⟩ F.entry_list_append (F.args_list_append_2 _ _) (PySem.list_append l its.toArray n u (by rw [List.size_toArray]; omega)) ⟨e,?_⟩;refine ⟨.non,_,I.lset (its':=its++[u]) hH e (by simp) (r.append (.cons ru .nil)) ?_,rfl,q⟩;rw [List.length_append,List.length_singleton];omega
def b4G:R2:=λ x y H Q=>∃ l b xs zs,x=.ref l/\y=.ref b/\H l=some (.lst xs)/\H b=some (.lst zs)/\xs.length+zs.length<=sizeLine/\∀ p,H p=none->Q (.ref p) (upd H p (.lst (xs++zs)))
theorem G4:OpR X (binaryOp .Add) b4G:=by
 intro pins s σ H x y v u Q I rx ry h;obtain ⟨l,b,xs,zs,rfl,rfl,hH,hB,hz,q⟩:=h
 cases rx
 cases ry;obtain ⟨z,its,n,r,hl,e⟩:=I.lstM hH;obtain ⟨z2,its2,n2,r2,hl2,e2⟩:=I.lstM hB;refine PySem.P.add_list e e2 ?_ (by rw [List.size_toArray,List.size_toArray]; omega);have ea:its.toArray++its2.toArray=(its++its2).toArray:=by simp
 rw [ea];exact ⟨.ref _,_,I.lnew (t':=s.toks) (r.append r2) (by rw [List.length_append]; omega),rfl,q _ I.fresh⟩
def b4m:R2:=λ x y H Q=>∃ l k xs,x=.ref l/\y=.int k/\H l=some (.lst xs)/\-(2 ^ 63)<=k/\k<2 ^ 63/\xs.length*k.toNat<=sizeLine ∧
 ∀ p,H p=none->Q (.ref p) (upd H p (.lst (List.replicate k.toNat xs).flatten))
theorem a2W {α:Type} (xs:List α) (k:Nat):(List.replicate k xs).flatten.length=k*xs.length:=by
 induction k with
 | zero=>simp
 | succ k ih=>rw [List.replicate_succ,List.flatten_cons,List.length_append,ih,Nat.succ_mul,Nat.add_comm]
theorem X2:OpR X (binaryOp .Mult) b4m:=by
 intro pins s σ H x y v u Q I rx ry h;obtain ⟨l,k,xs,rfl,rfl,hH,h1,h2,hz,q⟩:=h
 cases rx;obtain ⟨t,rfl⟩:=ry;obtain ⟨z,its,n,r,hl,e⟩:=I.lstM hH;have hlen:its.toArray.size*k.toNat<=sizeLine:=by rw [List.size_toArray,<- hl]; exact hz
 have hcap:¬ its.toArray.size*k.toNat>(2 ^ 63 - 1) / 8:=by
  have:(sizeLine:Nat)<=(2 ^ 63 - 1) / 8:=by decide
  omega
 have hfit:¬ (!Builtin.List.listFitsIndex k)=true:=by
  rw [fitsIndex_both h1 h2];exact Bool.false_ne_true
 have hlong:¬ Builtin.List.listTooLong (its.toArray.size*k.toNat)=true:=by
  rw [a7O hlen];exact Bool.false_ne_true
 have hnew:List.foldl (λ x1 x2=>x1++x2) #[] (List.replicate (if its.toArray.isEmpty=true then 0 else k.toNat) its.toArray)=(List.replicate k.toNat its).flatten.toArray:=by
  have f0:∀ m:Nat,List.foldl (λ x1 x2=>x1++x2) #[] (List.replicate m its.toArray)=(List.replicate m its).flatten.toArray:=λ m=>by
   have:=a2v its m [];rw [List.nil_append] at this;exact this
  rw [f0]
  cases its with
  | nil=>simp
  | cons a r'=>rw [if_neg (by simp)]
 refine wpAny_binaryOp_repeat_ref (T:="list") (U:="int") (by decide) ⟨_,e,rfl⟩ (λ s'=>typeIs_int s' k t) noFill_list_mul F.fills_int_mul F.slot_int_rmul repeat_list F.slot_int_index.lookup
  (call_meets F.slot_int_rmul (typeIs_int s k t) F.entry_int_rmul (F.args_int_rmul_2 _ _) (int___rmul___int_list k t l its.toArray n)
   ⟨e,rfl,⟨_,e,rfl⟩,call_meets F.slot_list_mul ⟨_,e,rfl⟩ F.entry_list_mul (F.args_list_mul_2 _ _) (AutoListH.list___mul___list_int_3 l its.toArray n k t hfit hcap hlong) ⟨e,?_⟩⟩)
 rw [hnew];exact ⟨.ref _,_,I.lnew (t':=s.toks) (r.rep k.toNat) (by rw [a2W,Nat.mul_comm]; exact hz),rfl,q _ I.fresh⟩
end
section
variable {prog:Program} {w:World} {A:Around} {E:Value->Shared->Prop} {s:Shared}
end
section
variable {X:Cx}
end
end L2
namespace Att
open PySem PySem.W PySem.Calls PyProof.Rows
theorem a1i {P:Params} {h:Heap}:∀ (ns:List Int) (vs:List Value),WellAll P h vs (ns.map WData.int)->IntsAre vs ns:=by
 intro ns
 induction ns with
 | nil =>
  intro vs w;rw [List.map_nil] at w
  cases w;exact .nil
 | cons n ns ih =>
  intro vs w;rw [List.map_cons] at w
  cases w with
  | cons a b =>
   cases a;exact .cons _ _ (ih _ b)
theorem a6E {l:OpenLaw} {n:Nat} (hn:l.most=some n) {P:Params} {h:Heap} {args:List WData} {vals:List Value}
  (hpre:l.row.toRowW.claim.pre args=true) (hwl:WellAll P h vals args) :
  ∃ a vs ns,vals=[Value.ref a]/\args=[WData.list (ns.map WData.int)]/\h.get? a=some { cls:=.type "list",data:=.seq vs.toArray }/\IntsAre vs ns/\ns.length<=n:=by
 have hsh:WShape.hasAll [] args [.list .int]=true:=(pre_splitW hpre).1;have hc:l.pre.holds [] { args:=args }=true:=(pre_splitW hpre).2;obtain ⟨d,r,rfl,h1,h2⟩:=hasAllW_cons hsh;obtain rfl:=hasAllW_nil h2;obtain ⟨xs,rfl,h3⟩:=hasW_list h1;obtain ⟨ns,rfl⟩:=items_int h3;have hlen:ns.length<=n:=by
  unfold OpenLaw.pre at hc;have h4:(WTm.not (.lt (.lit (.int (n:Int))) (.len (.arg 0)))).holds [] { args:=[.list (ns.map .int)] }=true:=by
   have h4:=(holds_andW hc).1;rw [hn] at h4;exact h4
  have h5:=condW_of h4 (w_not (w_lt w_lit (w_len_list (w_arg rfl))));rw [List.length_map] at h5;refine Nat.le_of_not_lt λ q=>?_;have q':(n:Int)<((ns.length:Nat):Int):=by omega
  first
   | (rw [decide_eq_true q'] at h5; exact absurd h5 (by decide))
   | (simp at h5; omega)
 cases hwl with
 | cons w1 w2 =>
  cases w2
  cases w1 with
  | list ho hall=>exact ⟨_,_,ns,rfl,rfl,ho,a1i ns _ hall,hlen⟩
theorem a6D (l:OpenLaw) (args:List WData):l.row.toRowW.claim.post args (.bool true) args=true :=
 postW_of (r:=l.row.toRowW) (X:=(true==true))
  (show WShape.has [] (.bool true) .bool=true by first | rfl | decide | simp [WShape.has,WShape.arms,WShape.armsAll])
  (show (WTm.eq .res (.lit (.bool true))).value [] { args:=args,res:=some (.bool true),after:=args }=some (.bool (true==true)) from w_eq_bool (w_res rfl) w_lit) rfl
theorem attach_call {l:OpenLaw} {n:Nat} {q:Program} {loose:List Str} {XP:(Str->Option Value)->Heap->Prop} {YP:World->Heap->Prop} {d:DefRec}
  (hn:l.most=some n) (hdf:d.params.defaults=[])
  (call:∀ (w:World) (s₀ s₁:Shared) (mg mb:Str->Option Value) (fa:Addr) (o:Obj) (pm cd doc:Value) (a:Addr) (vs:List Value) (ns:List Int),
   Ground q loose [] XP w s₀ mg mb s₁.heap->YP w s₁.heap →
   s₁.heap.get? fa=some o->o.data=.func (docDef d.name d.params d.body d.scope pm cd doc)->s₁.heap.CodeRec cd d.name->mg d.name=some (.ref fa) →
   s₁.heap.get? a=some { cls:=.type "list",data:=.seq vs.toArray }->IntsAre vs ns->ns.length<=n->s₁.gens=#[] →
   codeAny (model l.prog w) callerA (.call (.ref fa) ⟨[.ref a],[]⟩) (λ r s'=>r=.ok (.ret (.bool true))/\OldK s₁.heap s'.heap/\s'.os=s₁.os/\AllBare s'.gens) s₁) :
  WalkO q loose XP YP l.row.toRowW d [] (λ f vs=>PySem.call f vs):=by
 intro w s₀ s₁ mg mb G Y fa o pm cd doc dV kV ho hd hcd hD hmg hg args vals as hpre hlay hrd hwl hlo;obtain rfl:dV=.none:=Dflts.none hD hdf;obtain rfl:kV=.none:=Dflts.noKw hD;obtain ⟨a,vs,ns,rfl,rfl,hobj,hints,hlen⟩:=a6E hn hpre hwl;refine enter_call (codeAny_mono (call w s₀ s₁ mg mb fa o pm cd doc a vs ns G Y ho (fd_plain hd) hcd hmg hobj hints hlen hg) λ r s' hq=>?_);obtain ⟨rfl,h2,h3,h4⟩:=hq;exact ⟨.inl ⟨.bool true,.bool true,[],rfl,λ _=>rfl,.bool true,a6D l _,λ _=>⟨List.Pairwise.nil,λ _ hm=>(nomatch hm)⟩⟩,h2,h3,h4⟩
section
variable {prog:Program} {w:World} {A:Around} {E:Value->Shared->Prop} {s:Shared} {K:Frag}
end
end Att
namespace L2
open PySem PySem.Spec PyProof.Rows
theorem a2C:∀ {vs:List Value} {ns:List Int},IntsAre vs ns->Vals (ns.map V.int) vs
 | _,_,.nil=>.nil
 | _,_,.cons n t h=>.cons ⟨t,rfl⟩ (a2C h)
def V7 (s:Stmt) (j:Nat):Stmt:=match s with
 | .ClassDef _ _ _ body _ _ _ _ _ _ _=>body.getD j (.Pass ⟨0,0,0,0⟩)
 | _=>.Pass ⟨0,0,0,0⟩
def K7 (s:Stmt):Arguments:=match s with
 | .FunctionDef _ a _ _ _ _ _ _ _ _=>a
 | _=>{ posonlyargs:=[],args:=[],vararg:=none,kwonlyargs:=[],kw_defaults:=[],kwarg:=none,defaults:=[] }
def t9 (s:Stmt):List Stmt:=match s with
 | .FunctionDef _ _ b _ _ _ _ _ _ _=>b
 | _=>[]
def i3 (s:Stmt):Scope:=match s with
 | .FunctionDef _ _ _ _ _ _ sc _ _ _=>sc
 | _=>{ kind:=.function,names:=[],isGenerator:=false,isCoroutine:=false }
abbrev G2:CXT:=λ _ _ _ _ _ _=>False
abbrev E0:XK:=λ _ _ _=>False
theorem t6 {X:Cx}:U5 G2 X E0:=λ _ _ _ _ _ _ _ h=>h.elim
structure Fun (K:W.Frag) (x qual:Str) (st:Stmt) (f:Addr) (fd:FuncData):Prop where
 ex:∃ (oc:Value) (od:Option Addr) (kV doc pm:Value) (an:Option Addr) (cdv ct:Value) (osl:Array (Option Value)),
  fd=W.fnOf x qual (K7 st) (t9 st) (i3 st) .none kV doc pm an cdv ct/\K.lookup f=some ⟨oc,od,.func fd,osl⟩/\W.codeIn K cdv qual=true
 kp:W.keepIn K (.ref f)=true
section
variable {P:Program} {w:World} {K:W.Frag} {mg:Str->Option Value} {base:Heap}
theorem Fun.ok {x qual:Str} {st:Stmt} {f:Addr} {fd:FuncData} {N ps:List Str} {k:Nat} {sp:Sp} (F:Fun K x qual st f fd) (S:r8 N ps (i3 st)) (len:∀ vs H Q E,sp vs H Q E->vs.length=ps.length)
  (hbody:∀ (cdv:Value) (A:Around) (outer:List Env) (s:Shared) (H:Hp) (vs:List V) (Q:VK) (E:XK),Room k (A.deeper (envOfC qual (i3 st) s.heap.objs.size f cdv))->sp vs H Q E →
   ∃ t,PSs (G9 G2 P w K mg base N qual (i3 st) f cdv A outer s H E).nox (t9 st) t/\t { nx:=λ _ H'=>Q .non H',rt:=Q } (X5 N vs) H):FnOk P w K mg base G2 (k+1) f fd ps sp:=by
 obtain ⟨oc,od,kV,doc,pm,an,cdv,ct,osl,rfl,lk,hcd⟩:=F.ex;refine a8J lk hcd S len λ A outer s H vs Q E hr hsp=>?_;obtain ⟨t,h,q⟩:=hbody cdv A outer s H vs Q E hr hsp;exact ⟨t,h.nox,q⟩
theorem Fun.binds {x qual:Str} {st:Stmt} {f:Addr} {fd:FuncData} {ps:List Str} (F:Fun K x qual st f fd)
  (h:∀ (kV doc pm:Value) (an:Option Addr) (cdv ct:Value) (us:List Value),us.length=ps.length->bindArgs (W.fnOf x qual (K7 st) (t9 st) (i3 st) .none kV doc pm an cdv ct) ⟨us,[]⟩=pure (ps.zip us)):Binds K fd ps []:=by
 obtain ⟨oc,od,kV,doc,pm,an,cdv,ct,osl,rfl,lk,hcd⟩:=F.ex;exact .all (h kV doc pm an cdv ct)
theorem a8K {x qual:Str} {st:Stmt} {f:Addr} {oc:Value} {od an:Option Addr} {osl:Array (Option Value)} {kV doc pm cdv ct:Value} (l:K.lookup f=some ⟨oc,od,.func (W.fnOf x qual (K7 st) (t9 st) (i3 st) .none kV doc pm an cdv ct),osl⟩)
  (c:W.codeIn K cdv qual=true) (k:W.keepIn K (.ref f)=true):Fun K x qual st f (W.fnOf x qual (K7 st) (t9 st) (i3 st) .none kV doc pm an cdv ct):=⟨⟨oc,od,kV,doc,pm,an,cdv,ct,osl,rfl,l,c⟩,k⟩
end
theorem j8 {n:Nat} (h:n<=1000):n<sizeLine:=Nat.lt_of_le_of_lt h (by decide)
section
variable {X:Cx}
theorem pv (i:Nat) {x:Str} {pos:Pos} (hN:X.N[i]?=some x:=by rfl) (hv:Vis X.env.scope x:=by first | exact Or.inl rfl | exact Or.inr (Or.inl rfl) | exact Or.inr (Or.inr rfl)) (hd:(x==("__debug__":Str))=false:=by decide)
  (hcd:(x==("__classdict__":Str))=false:=by decide):PE X (.Name x pos) (a4T i):=b1I hN hv hd hcd
end
theorem a0t {A B:Prop} (h:B):if false=true then A else B:=by
 rw [if_neg Bool.false_ne_true];exact h
theorem a3A {A B:Prop} (h:A):if true=true then A else B:=by
 rw [if_pos rfl];exact h
theorem w8 {c A B:Prop} [Decidable c] (h1:c->A) (h2:¬ c->B):if c then A else B:=by
 by_cases h:c
 ·rw [if_pos h]
  exact h1 h
 ·rw [if_neg h]
  exact h2 h
theorem b0X {c A B:Prop} [Decidable c] (hc:c) (h:B):if (!decide c)=true then A else B:=by
 rw [decide_eq_true hc];exact a0t h
def Same (H H':Hp):Prop:=∀ b o,H b=some o->H' b=some o
theorem Same.refl (H:Hp):Same H H:=λ _ _ h=>h
theorem Same.trans {H H1 H2:Hp} (a:Same H H1) (b:Same H1 H2):Same H H2:=λ c o h=>b c o (a c o h)
theorem Same.free {H H':Hp} (e:Same H H') {l:Addr} (h:H' l=Option.none):H l=Option.none:=by
 cases q:H l with
 | none=>rfl
 | some o =>
  rw [e l o q] at h
  cases h
theorem Same.seq {K:W.Frag} {H H':Hp} {a:Addr} {xs:List V} (e:Same H H') (h:SqL K H a xs):SqL K H' a xs:=by
 rcases h with (h | ⟨o,h⟩) | h
 ·exact .inl (.inl (e _ _ h))
 ·exact .inl (.inr ⟨o,e _ _ h⟩)
 ·exact .inr h
def clo (env:Env):List (Str×NameKind)->List (Str×Addr)->List (Str×Addr)
 | [],cs=>cs
 | (n,k)::r,cs=>if k==.free then (match env.cells.lookup n with | some a=>clo env r ((n,a)::cs) | none=>clo env r cs) else clo env r cs
theorem K3 {scope:Scope} {env:Env} (h:∀ n,(n,NameKind.free)∈scope.names->∃ c,env.cells.lookup n=some c):closureFor scope env=pure (clo env scope.names []):=by
 simp only [closureFor];generalize ([]:List (Str×Addr))=cs
 revert h
 generalize scope.names=l;intro h
 induction l generalizing cs with
 | nil=>rfl
 | cons x r ih =>
  obtain ⟨n,k⟩:=x;have hr:∀ n,(n,NameKind.free)∈r->∃ c,env.cells.lookup n=some c:=λ n hn=>h n (List.mem_cons_of_mem _ hn)
  by_cases hk:k=.free
  ·subst hk
   obtain ⟨c,hc⟩:=h n List.mem_cons_self;have q:=ih ((n,c)::cs) hr;simp only [List.forIn_cons,clo,hc,beq_self_eq_true,if_true,cellOf];exact q
  ·have hb:(k==NameKind.free)=false:=by simpa using hk
   have q:=ih cs hr;simp only [List.forIn_cons,clo,hb,Bool.false_eq_true,if_false];exact q
theorem a0A {env:Env} {x:Str} {c:Addr}:∀ {l:List (Str×NameKind)} {cs:List (Str×Addr)},(∀ x c,cs.lookup x=some c->env.cells.lookup x=some c)->(clo env l cs).lookup x=some c->env.cells.lookup x=some c
 | [],_,h,e=>h x c e
 | (n,k)::r,cs,h,e=>by
  unfold clo at e
  by_cases hk:(k==NameKind.free)=true
  ·rw [if_pos hk] at e
   cases q:env.cells.lookup n with
   | none=>rw [q] at e; exact a0A h e
   | some a =>
    rw [q] at e;refine a0A (cs:=(n,a)::cs) (λ y d z=>?_) e;rw [List.lookup_cons] at z
    cases hy:y==n with
    | true =>
     rw [hy] at z;have:y=n:=by simpa using hy
     subst this;rw [q]; exact z
    | false=>rw [hy] at z; exact h y d z
  ·rw [if_neg hk] at e
   exact a0A h e
theorem a1w {env:Env} {x:Str} {c:Addr}:∀ {l:List (Str×NameKind)} {cs:List (Str×Addr)},(x,c)∈clo env l cs->(env.cells.lookup x=some c/\(x,NameKind.free)∈l)\/(x,c)∈cs
 | [],_,e=>.inr e
 | (n,k)::r,cs,e=>by
  unfold clo at e
  by_cases hk:(k==NameKind.free)=true
  ·rw [if_pos hk] at e
   have hk':k=.free:=by simpa using hk
   cases q:env.cells.lookup n with
   | none =>
    rw [q] at e;exact (a1w e).imp (λ z=>⟨z.1,List.mem_cons_of_mem _ z.2⟩) id
   | some a =>
    rw [q] at e;rcases a1w (cs:=(n,a)::cs) e with z | z
    ·exact .inl ⟨z.1,List.mem_cons_of_mem _ z.2⟩
    ·rcases List.mem_cons.mp z with z | z
     ·cases z
      exact .inl ⟨q,by rw [hk']; exact List.mem_cons_self⟩
     ·exact .inr z
  ·rw [if_neg hk] at e
   exact (a1w e).imp (λ z=>⟨z.1,List.mem_cons_of_mem _ z.2⟩) id
theorem A6:∀ (names:List (Str×NameKind)) (n:Nat) (acc:List (Str×Addr)),cellsFrom n names acc=cellsFrom n names []++acc
 | [],_,_=>rfl
 | (x,k)::r,n,acc=>by
  unfold cellsFrom
  split
  ·rw [A6 r (n+1) ((x,n)::acc),A6 r (n+1) [(x,n)],List.append_assoc]; rfl
  ·exact A6 r n acc
theorem M7 {x:Str} {c:Addr}:∀ {names:List (Str×NameKind)} {n:Nat},(x,c)∈cellsFrom n names []->(x,NameKind.cell)∈names
 | [],_,e=>by cases e
 | (y,k)::r,n,e=>by
  unfold cellsFrom at e
  by_cases hk:(k==NameKind.cell)=true
  ·rw [if_pos hk,A6] at e
   have hk':k=.cell:=by simpa using hk
   rcases List.mem_append.mp e with z | z
   ·exact List.mem_cons_of_mem _ (M7 z)
   ·rw [List.mem_singleton] at z
    cases z;rw [hk']; exact List.mem_cons_self
  ·rw [if_neg hk] at e
   exact List.mem_cons_of_mem _ (M7 e)
theorem S9 {x:Str}:∀ {names:List (Str×NameKind)} {n:Nat},(x,NameKind.cell)∈names->∃ c,(x,c)∈cellsFrom n names []
 | (y,k)::r,n,e=>by
  unfold cellsFrom;rcases List.mem_cons.mp e with z | z
  ·cases z
   rw [if_pos (by rfl),A6];exact ⟨n,List.mem_append_right _ List.mem_cons_self⟩
  ·split
   ·rw [A6]
    obtain ⟨c,hc⟩:=S9 (n:=n+1) z;exact ⟨c,List.mem_append_left _ hc⟩
   ·exact S9 z
theorem a1J {α:Type} {x:Str}:∀ {l₁ l₂:List (Str×α)},(l₁++l₂).lookup x=match l₁.lookup x with | some c=>some c | none=>l₂.lookup x
 | [],_=>rfl
 | (n,c)::r,l₂=>by
  rw [List.cons_append,List.lookup_cons,List.lookup_cons]
  cases hx:x==n with
  | true=>rfl
  | false=>exact a1J (l₁:=r)
theorem Z5 {α:Type} {x:Str} {c:α}:∀ {l:List (Str×α)},(x,c)∈l->∃ c',l.lookup x=some c'
 | (n,d)::r,h=>by
  rw [List.lookup_cons]
  cases hx:x==n with
  | true=>exact ⟨d,rfl⟩
  | false =>
   rcases List.mem_cons.mp h with z | z
   ·cases z; simp at hx
   ·exact Z5 z
theorem X9 {env:Env} {x:Str}:∀ {l:List (Str×NameKind)} {cs:List (Str×Addr)},(∃ c,cs.lookup x=some c)->∃ c,(clo env l cs).lookup x=some c
 | [],_,h=>h
 | (n,k)::r,cs,h=>by
  unfold clo
  split
  ·split
   ·refine X9 ?_
    rw [List.lookup_cons]
    cases hy:x==n with
    | true=>exact ⟨_,rfl⟩
    | false=>exact h
   ·exact X9 h
  ·exact X9 h
theorem Z1 {env:Env} {x:Str} (hx:∃ c,env.cells.lookup x=some c):∀ {l:List (Str×NameKind)} {cs:List (Str×Addr)},(x,NameKind.free)∈l->∃ c,(clo env l cs).lookup x=some c
 | (n,k)::r,cs,h=>by
  rcases List.mem_cons.mp h with e | e
  ·cases e
   obtain ⟨c,hc⟩:=hx;unfold clo;rw [if_pos (by rfl),hc];refine X9 ⟨c,?_⟩;simp [List.lookup_cons]
  ·unfold clo
   split
   ·split
    ·exact Z1 hx e
    ·exact Z1 hx e
   ·exact Z1 hx e
def T0 (env:Env) (scope:Scope) (C:Addr):List (Str×Addr):=cellsFrom (C+1) scope.names (clo env scope.names [])
theorem K5 {env:Env} {scope:Scope} {C:Addr} {x:Str} {c:Addr} (h:(T0 env scope C).lookup x=some c) :
  ((x,c)∈cellsFrom (C+1) scope.names []/\(x,NameKind.cell)∈scope.names)\/(env.cells.lookup x=some c/\(x,NameKind.free)∈scope.names):=by
 have m:=mem_of_lookup h;unfold T0 at m;rw [A6] at m;rcases List.mem_append.mp m with z | z
 ·exact .inl ⟨z,M7 z⟩
 ·rcases a1w z with y | y
  ·exact .inr y
  ·cases y
theorem a1e {env:Env} {scope:Scope} {C:Addr} {x:Str} (hx:∃ c,env.cells.lookup x=some c) (hf:(x,NameKind.free)∈scope.names) (hn:(x,NameKind.cell) ∉ scope.names):(T0 env scope C).lookup x=env.cells.lookup x:=by
 obtain ⟨c,hc⟩:=Z1 (env:=env) (cs:=[]) hx hf;have hc':=a0A (env:=env) (λ _ _ z=>by simp at z) hc;unfold T0;rw [A6,a1J]
 cases q:(cellsFrom (C+1) scope.names []).lookup x with
 | some d=>exact absurd (M7 (mem_of_lookup q)) hn
 | none=>rw [hc',<- hc]
def blk (X:Cx) (os:List Str) (fr:List Nat) (scope:Scope) (C:Addr) (fp:List Addr) (s₀:Shared) (H₀:Hp):Cx :=
 { X with N:=os++fr.map (λ j=>X.N.getD j ""),s₀:=s₀,H₀:=H₀,env:=compEnvC scope (T0 X.env scope C) C X.env,outer:=X.stack,ex:=fp,fn:=λ x=>scope.names.lookup x==some .cell,pn:=[],xe:=λ _ _=>False }
def frv (fr:List Nat) (σ:St):St:=fr.map λ j=>(σ[j]?).join
def blkσ (n:Nat) (fr:List Nat) (σ:St):St:=List.replicate n none++frv fr σ
def Wk (σ0 σ2:St):Prop:=σ2.length=σ0.length/\∀ (i:Nat) v,σ0[i]?=some (some v)->σ2[i]?=some (some v)
def a0v (outer:Scope) (scope:Scope) (N:List Str) (fr:List Nat):Bool :=
 (scope.names.all λ p=>(scope.names.lookup p.1==some p.2)&&(p.2 != .free || outer.names.lookup p.1==some .cell)) &&
 (fr.all λ j=>decide (j<N.length)&&(outer.names.lookup (N.getD j "")==some .cell)&&(scope.names.lookup (N.getD j "")==some .free))
theorem M1 {x:Str} {k:NameKind}:∀ {l:List (Str×NameKind)},l.lookup x=some k->(x,k)∈l
 | (n,j)::r,h=>by
  rw [List.lookup_cons] at h
  cases hx:x==n with
  | true =>
   rw [hx] at h;have:x=n:=by simpa using hx
   subst this
   cases h;exact List.mem_cons_self
  | false=>rw [hx] at h; exact List.mem_cons_of_mem _ (M1 h)
theorem Q5 {env:Env} {x:Str} {k:NameKind}:∀ {names:List (Str×NameKind)},
  (names.map λ (n,k)=>if (k==NameKind.free&&env.scope.kind==.function&&env.kindOf n==some .cell) then (n,NameKind.cell) else (n,k)).lookup x=some k →
  (x,k)∈names\/(x,NameKind.free)∈names
 | [],h=>by simp at h
 | (n,j)::r,h=>by
  rw [List.map_cons] at h;dsimp only at h
  by_cases hc:(j==NameKind.free&&env.scope.kind==.function&&env.kindOf n==some .cell)=true
  ·rw [if_pos hc,List.lookup_cons] at h
   have hj:j=.free:=by
    have:=(Bool.and_eq_true _ _ ▸ (Bool.and_eq_true _ _ ▸ hc).1).1
    simpa using this
   cases hx:x==n with
   | true =>
    have:x=n:=by simpa using hx
    subst this;subst hj;exact .inr List.mem_cons_self
   | false =>
    rw [hx] at h;exact (Q5 h).imp (List.mem_cons_of_mem _) (List.mem_cons_of_mem _)
  ·rw [if_neg hc,List.lookup_cons] at h
   cases hx:x==n with
   | true =>
    rw [hx] at h;have:x=n:=by simpa using hx
    subst this
    cases h;exact .inl List.mem_cons_self
   | false =>
    rw [hx] at h;exact (Q5 h).imp (List.mem_cons_of_mem _) (List.mem_cons_of_mem _)
section
variable {X:Cx} {os:List Str} {fr:List Nat} {scope:Scope}
theorem R4 (h:a0v X.env.scope scope X.N fr=true):∀ p∈scope.names,scope.names.lookup p.1=some p.2/\(p.2=.free->X.env.scope.names.lookup p.1=some .cell):=λ p hp=>by
 have q:=List.all_eq_true.mp (Bool.and_eq_true _ _ ▸ h).1 p hp;simp only [Bool.and_eq_true,bne_iff_ne,Bool.or_eq_true,beq_iff_eq,ne_eq] at q;refine ⟨q.1,λ e=>?_⟩;rcases q.2 with z | z
 ·exact absurd e z
 ·exact z
theorem a5t (h:a0v X.env.scope scope X.N fr=true) {x:Str} {a b:NameKind} (ha:(x,a)∈scope.names) (hb:(x,b)∈scope.names):a=b:=by
 have h1:=(R4 h _ ha).1;have h2:=(R4 h _ hb).1;rw [h1] at h2;exact Option.some.inj h2
theorem b0O (h:a0v X.env.scope scope X.N fr=true):∀ j∈fr,j<X.N.length/\X.env.scope.names.lookup (X.N.getD j "")=some .cell/\scope.names.lookup (X.N.getD j "")=some .free:=λ j hj=>by
 have q:=List.all_eq_true.mp (Bool.and_eq_true _ _ ▸ h).2 j hj;simp only [Bool.and_eq_true,beq_iff_eq,decide_eq_true_eq] at q;exact ⟨q.1.1,q.1.2,q.2⟩
theorem U1 {pins:List (Addr×Obj)} {σ:St} {H:Hp} {s:Shared} (I:Inv X pins σ H s) (h:a0v X.env.scope scope X.N fr=true):∀ n,(n,NameKind.free)∈scope.names->∃ c,X.env.cells.lookup n=some c:=λ n hn =>
 I.ok.has n (.inl ((R4 h _ hn).2 rfl))
theorem Inv.block {pins:List (Addr×Obj)} {σ:St} {H:Hp} {s:Shared} {fp:List Addr} {h₁:Heap} {t':Nat} (I:Inv X pins σ H s) (hk:scope.kind=.function) (h:a0v X.env.scope scope X.N fr=true)
  (hf:∀ b∈fp,V9 X pins H b) (ho:∀ b∈fp,∃ o,s.heap.get? b=some o) (hns:h₁.Ns s.heap.objs.size λ _=>none) (hkeep:∀ b o,s.heap.get? b=some o->h₁.get? b=some o)
  (hcl:CellsOk h₁ (s.heap.objs.size+1) (cellsFrom (s.heap.objs.size+1) scope.names [])) :
  Inv (blk X os fr scope s.heap.objs.size fp s H) [] (blkσ os.length fr σ) H { s with heap:=h₁,toks:=t' } where
 ok:={
  mod:=I.ok.mod
  kind:=hk
  glob:=I.ok.glob
  blt:=I.ok.blt
  above:=Nat.le_refl _
  inj:=λ x y c e1 e2=>by
   have old:∀ {z:Str},X.env.cells.lookup z=some c->c<s.heap.objs.size:=λ {z} e=>by
    obtain ⟨v,q⟩:=I.cell z c e;exact q.lt
   rcases K5 e1 with z1 | z1 <;> rcases K5 e2 with z2 | z2
   ·exact name_of_addr hcl.apart z1.1 z2.1
   ·exact absurd (Nat.lt_of_lt_of_le (Nat.lt_succ_of_lt (old z2.1)) (hcl.empty _ _ z1.1).2) (Nat.lt_irrefl _)
   ·exact absurd (Nat.lt_of_lt_of_le (Nat.lt_succ_of_lt (old z1.1)) (hcl.empty _ _ z2.1).2) (Nat.lt_irrefl _)
   ·exact I.ok.inj x y c z1.1 z2.1
  has:=λ x hx=>by
   have hm:(x,NameKind.cell)∈scope.names\/(x,NameKind.free)∈scope.names:=by
    rcases hx with e | e
    ·exact Q5 e
    ·rcases Q5 e with z | z
     ·exact .inr z
     ·exact .inr z
   rcases hm with z | z
   ·obtain ⟨c,hc⟩:=S9 (n:=s.heap.objs.size+1) z
    refine Z5 (c:=c) ?_
    show (x,c)∈T0 _ _ _
    unfold T0;rw [A6];exact List.mem_append_left _ hc
   ·obtain ⟨c,hc⟩:=U1 I h x z
    refine ⟨c,?_⟩
    show (T0 _ _ _).lookup x=_
    rw [a1e ⟨c,hc⟩ z (λ w=>by cases a5t h z w)];exact hc
  cab:=λ x c hx e=>by
   have hx':scope.names.lookup x=some .cell:=by simpa using (show (scope.names.lookup x==some .cell)=true from hx)
   rcases K5 e with z | z
   ·exact Nat.le_of_lt (Nat.lt_of_succ_le (hcl.empty _ _ z.1).2)
   ·cases a5t h (M1 hx') z.2
  hd:=I.ok.hd
  frames:=I.ok.frames
  stk:=.inl rfl
  exf:=λ b hb=>by
   obtain ⟨o,e⟩:=ho b hb;refine ⟨Nat.ne_of_lt (Heap.lt_size e),λ x c e1=>?_⟩;rcases K5 e1 with z | z
   ·intro w
    have:=(hcl.empty _ _ z.1).2;rw [w] at this;exact absurd (Nat.lt_of_lt_of_le (Nat.lt_succ_of_lt (Heap.lt_size e)) this) (Nat.lt_irrefl _)
   ·exact (hf b hb).2.2.2.2.1 x c z.1
  bs:=I.bs
  bsz:=Nat.le_trans I.ok.bsz I.sz
  noex:=λ b o e hb=>by
   rcases (hf b hb).2.2.2.1 with z | z
   ·exact I.ok.noex b o e z
   ·exact absurd (Nat.lt_of_lt_of_le (Heap.lt_size e) (Nat.le_trans I.ok.bsz z)) (Nat.lt_irrefl _)
  exfs:=λ b hb hz=>by
   rcases List.mem_cons.mp (I.stkSub b hz) with e | e
   ·exact (hf b hb).2.1 e
   ·exact (hf b hb).2.2.1 e
  funs:=I.stack
  frf:=I.stkFree }
 os:=rfl
 bare:=I.bare
 base:=Un.kept hkeep
 loc:=by
  refine ⟨_,hns,λ i x v e1 e2 _=>?_⟩;have hi:os.length<=i:=by
   refine Nat.le_of_not_lt λ hlt=>?_;unfold blkσ at e2;rw [List.getElem?_append_left (by simpa using hlt)] at e2;rw [List.getElem?_replicate] at e2
   split at e2 <;> cases e2
  have e1':(fr.map λ j=>X.N.getD j "")[i - os.length]?=some x:=by
   rw [<- List.getElem?_append_right (l₁:=os) hi]; exact e1
  have e2':(fr.map λ j=>(σ[j]?).join)[i - os.length]?=some (some v):=by
   have z:(List.replicate os.length (none:Option V)).length<=i:=by simpa using hi
   unfold blkσ at e2;rw [List.getElem?_append_right z,List.length_replicate] at e2;exact e2
  rw [List.getElem?_map] at e1' e2'
  cases q:fr[i - os.length]? with
  | none=>rw [q] at e1'; cases e1'
  | some j =>
   rw [q] at e1' e2';have hj:j∈fr:=List.mem_of_getElem? q;obtain ⟨hjl,hjc,hjf⟩:=b0O h j hj;have ex:X.N.getD j ""=x:=Option.some.inj e1';have ev:(σ[j]?).join=some v:=Option.some.inj e2';have hN:X.N[j]?=some x:=by
    rw [<- ex,List.getD_eq_getElem?_getD,List.getElem?_eq_getElem hjl]; rfl
   have hσ:σ[j]?=some (some v):=by
    cases r:σ[j]? with
    | none=>rw [r] at ev; cases ev
    | some y=>rw [r] at ev; exact congrArg some ev
   rw [ex] at hjc hjf;obtain ⟨m,_,hl⟩:=I.loc;obtain ⟨u,r,lk⟩:=hl j x v hN hσ (.inr (.inl hjc));refine ⟨u,r,?_⟩;have kc:Env.kindOf X.env x=some .cell:=hjc;rcases lk with ⟨k1,_⟩ | ⟨_,c,ec,z⟩
   ·rw [kc] at k1; cases k1
   ·have hfm:=M1 hjf
    have ec':(T0 X.env scope s.heap.objs.size).lookup x=some c:=by
     rw [a1e ⟨c,ec⟩ hfm (λ w=>by cases a5t h hfm w)]; exact ec
    refine .inr ⟨?_,c,ec',?_⟩
    ·have kk:∀ {names:List (Str×NameKind)},names.lookup x=some .free->(names.map λ (n,k)=>if (k==NameKind.free&&X.env.scope.kind==.function&&X.env.kindOf n==some .cell) then (n,NameKind.cell) else (n,k)).lookup x=some .cell:=by
      intro names
      induction names with
      | nil=>intro e; simp at e
      | cons p r ih =>
       obtain ⟨n,k⟩:=p;intro e;rw [List.lookup_cons] at e;rw [List.map_cons];dsimp only
       cases hx:x==n with
       | true =>
        rw [hx] at e
        cases e;have hxn:x=n:=by simpa using hx
        subst hxn;rw [if_pos (by rw [I.ok.kind,kc]; rfl),List.lookup_cons];simp
       | false =>
        rw [hx] at e
        by_cases hc:(k==NameKind.free&&X.env.scope.kind==.function&&X.env.kindOf n==some .cell)=true
        ·rw [if_pos hc,List.lookup_cons,hx]; exact ih e
        ·rw [if_neg hc,List.lookup_cons,hx]; exact ih e
     exact .inl (kk hjf)
    ·obtain ⟨o,ho',hd⟩:=z
     exact ⟨o,hkeep _ _ ho',hd⟩
 cell:=λ x c e=>by
  rcases K5 e with z | z
  ·exact ⟨_,(hcl.empty _ _ z.1).1⟩
  ·obtain ⟨v,o,ho',hd⟩:=I.cell x c z.1
   exact ⟨v,o,hkeep _ _ ho',hd⟩
 free:=I.hok.fresh (Nat.le_refl _)
 freeC:=λ x c e=>by
  rcases K5 e with z | z
  ·exact I.hok.fresh (Nat.le_of_lt (Nat.lt_of_succ_le (hcl.empty _ _ z.1).2))
  ·exact I.freeC x c z.1
 pin:=λ p hp=>nomatch hp
 hok:=I.hok.kept hkeep
 len:=by simp [blkσ,frv,blk]
theorem Inv.unblock {pins:List (Addr×Obj)} {σ σ':St} {H H':Hp} {s s':Shared} {fp:List Addr} {C:Addr} (I:Inv X pins σ H s) (hf:∀ b∈fp,V9 X pins H b) (J:Inv (blk X os fr scope C fp s H) [] σ' H' s'):Inv X pins σ H' s' :=
 I.call' J.os J.base J.hok J.bare λ b hb=>⟨(hf b hb).2.2.2.1,(hf b hb).2.1,(hf b hb).2.2.2.2.1,(hf b hb).2.2.2.2.2⟩
theorem Inv.letgo {pins:List (Addr×Obj)} {σ:St} {H H₀:Hp} {s s₀:Shared} {C:Addr} {h':Heap} (I₀:Inv X pins σ₀ H₀ s₀) (I:Inv X pins σ H s) (hn:H C=none) (hC:s₀.heap.objs.size<=C) (hs:Heap.SameBut C s.heap h'):Inv X pins σ H { s with heap:=h' } :=
 I.turned (t':=s.toks) (it:=C) (λ b o hb e=>(hs.2 b hb).trans e) hn (Nat.ne_of_gt (Nat.lt_of_lt_of_le I₀.lt hC)) (.inr (Nat.le_trans I₀.sz hC))
  (λ x c e z=>by
   obtain ⟨v,q⟩:=I₀.cell x c e;exact absurd (Nat.lt_of_lt_of_le q.lt (by rw [z]; exact hC)) (Nat.lt_irrefl _))
  λ p hp z=>absurd (Nat.lt_of_lt_of_le (Heap.lt_size (I₀.pin p hp).1) (by rw [z]; exact hC)) (Nat.lt_irrefl _)
end
def b1F (X:Cx) (ifs:List Expr) (t:TT):Prop :=
 ∀ (pins:List (Addr×Obj)) (s:Shared) (σ:St) (H:Hp) (Q:Bool->Hp->Prop),Inv X pins σ H s->t σ H Q →
  wpAny (model X.prog X.w) X.A (forIn ifs true λ c r=>if r=true then do let ok <- isTrue c X.env (eval c X.env); pure (ForInStep.yield ok) else pure (ForInStep.yield r)) (TP X pins σ Q) X.xe s
def a8T:TT:=λ _ H Q=>Q true H
theorem a3W {X:Cx}:b1F X [] a8T:=λ _ _ _ H _ I h=>wpAny_tests_nil ⟨H,I,h⟩
theorem a4s {X:Cx} {c:Expr} {t:TT} (h:PT X c t):b1F X [c] t:=λ pins s σ H Q I q=>wpAny_tests_one (h pins s σ H Q I q)
theorem a3q {M:Model} {A:Around} {E:Value->Shared->Prop} {s:Shared} {scope:Scope} {globals:Addr} {closure:List (Str×Addr)} {qual:Str} {env:Env} {Q:Env->Shared->Prop}
  (hQ:Q { scope,locals:=s.heap.objs.size,globals,cells:=cellsFrom (s.heap.objs.size+1) scope.names closure,qual,func:=none,code:=env.code,frame:=env.frame,builtins:=env.builtins } { s with heap:=pushCells (s.heap.push { cls:=.type "dict",data:=.dict #[] }) scope.names }) :
  wpAny M A (newFunctionEnv scope globals closure [] qual none .none (some env)) Q E s:=by
 simp only [newFunctionEnv,Option.isSome_some,if_true];refine wpAny_bind (wpAny_alloc ?_);refine wpAny_bind (wpAny_layCells _ (λ name kind cells=>by cases hkc:kind==NameKind.cell <;> simp [hkc]) _ _ _ _ ?_);rw [show ({ s with heap:=s.heap.push { cls:=.type "dict",data:=.dict #[] } }:Shared).heap.objs.size=s.heap.objs.size+1 from Heap.size_push ..];simp only [List.forIn_nil];exact wpAny_bind (wpAny_pure (wpAny_pure hQ))
theorem a2X {prog:Program} {w:World} {A:Around} {R:Result->Shared->Prop} {s:Shared} {elt target iter:Expr} {ifs:List Expr} {scope:Scope} {pos:Pos} {it acc:Value} {env:Env} (I:Nat->Shared->Prop)
  (turn:∀ n s,I n s->wpAny (model prog w) A (pyNext it) (λ r s₁=>match r with
   | none=>R (.ok .next) s₁
   | some v=>wpAny (model prog w) A (letOwnedTupleGo target it v) (λ _ s₀=>wpAny (model prog w) A (assign target env v) (λ _ s₂ =>
     wpAny (model prog w) A (forIn ifs true λ c r=>if r=true then do let ok <- isTrue c env (eval c env); pure (ForInStep.yield ok) else pure (ForInStep.yield r)) (λ ok s₃ =>
      if ok=true then wpAny (model prog w) A (eval elt env) (λ x s₄ =>
       wpAny (model prog w) A (call (.builtin "list.append") [acc,x]) (λ _ s₅=>∃ m,m<n/\I m s₅) (λ _ _=>False) s₄) (λ _ _=>False) s₃
      else ∃ m,m<n/\I m s₃) (λ _ _=>False) s₂) (λ _ _=>False) s₀) (λ _ _=>False) s₁) (λ _ _=>False) s)
  (n:Nat) (h:I n s) :
  codeAny (model prog w) A (.compLoop (.ListComp elt [⟨target,iter,ifs,0⟩] scope pos) 0 it acc env) R s:=by
 refine codeAny_loop rfl I (λ n s hI=>?_) n h
 show wpAny _ A ((compTurn (.ListComp elt [⟨target,iter,ifs,0⟩] scope pos) 0 it acc env).onRaise (λ x=>do noteFrame x env; theTreesLotGoes x)) _ _ s
 refine wpAny_noted ?_;rw [compTurn_list];refine wpAny_bind (wpAny_standAt (wpAny_bind (wpAny_mono (turn n s hI) (λ r s₁ h₁=>?_) λ _ _ h'=>h'.elim)))
 cases r with
 | none=>exact wpAny_pure h₁
 | some v =>
  refine wpAny_bind (wpAny_mono h₁ (λ _ s₀ h₀=>?_) λ _ _ h'=>h'.elim);refine wpAny_bind (wpAny_mono h₀ (λ _ s₂ h₂=>wpAny_bind (wpAny_mono h₂ (λ ok s₃ h₃=>?_) λ _ _ h'=>h'.elim)) λ _ _ h'=>h'.elim)
  cases ok with
  | false=>exact wpAny_pure ⟨rfl,h₃⟩
  | true =>
   exact wpAny_bind (wpAny_bind (wpAny_mono h₃ (λ x s₄ h₄=>wpAny_bind (wpAny_mono h₄ (λ _ s₅ h₅=>wpAny_pure (wpAny_pure ⟨rfl,h₅⟩)) λ _ _ h'=>h'.elim)) λ _ _ h'=>h'.elim))
def lcW (n:Nat) (fr:List Nat) (g:TG) (te:TE) (σ:St) (J:It) (H1:Hp) (p:Addr) (D:Hp->Prop):Prop :=
 ∃ W:Nat->Nat->List V->Hp->Prop,(∃ m,W 0 m [] (upd H1 p (.lst [])))/\∀ i m ys H,W i m ys H →
  (J.stop i H/\D H)\/(J.go i H/\∀ x H',J.yld i H x H'->g x (blkσ n fr σ) H' λ σ2 H2=>Wk (blkσ n fr σ) σ2/\te σ2 H2 λ v H3=>H3 p=some (.lst ys)/\ys.length<sizeLine/\∃ m',m'<m/\W (i+1) m' (ys++[v]) (upd H3 p (.lst (ys++[v]))))
def tLC (n:Nat) (fr:List Nat) (wi:TI) (g:TG) (te:TE):TE:=λ σ H Q=>wi σ H λ J H1=>∀ p,H1 p=none->lcW n fr g te σ J H1 p (Q (.ref p))
def lcI (n:Nat) (fr:List Nat) (g:TG) (tc:TT) (te:TE) (σ:St) (J:It) (H1:Hp) (p:Addr) (D:Hp->Prop):Prop :=
 ∃ W:Nat->Nat->List V->Hp->Prop,(∃ m,W 0 m [] (upd H1 p (.lst [])))/\∀ i m ys H,W i m ys H →
  (J.stop i H/\D H)\/(J.go i H/\∀ x H',J.yld i H x H'->g x (blkσ n fr σ) H' λ σ2 H2=>Wk (blkσ n fr σ) σ2/\tc σ2 H2 λ ok H2' =>
   if ok=true then te σ2 H2' λ v H3=>H3 p=some (.lst ys)/\ys.length<sizeLine/\∃ m',m'<m/\W (i+1) m' (ys++[v]) (upd H3 p (.lst (ys++[v]))) else ∃ m',m'<m/\W (i+1) m' ys H2')
def b2L (n:Nat) (fr:List Nat) (wi:TI) (g:TG) (tc:TT) (te:TE):TE:=λ σ H Q=>wi σ H λ J H1=>∀ p,H1 p=none->lcI n fr g tc te σ J H1 p (Q (.ref p))
theorem a3U {n:Nat} {fr:List Nat} {g:TG} {te:TE} {σ:St} {J:It} {H1:Hp} {p:Addr} {D:Hp->Prop}:lcI n fr g a8T te σ J H1 p D=lcW n fr g te σ J H1 p D:=by
 unfold lcI lcW a8T;simp only [if_true]
section
variable {X:Cx} {os:List Str} {fr:List Nat} {scope:Scope} {elt tg iter:Expr} {pos:Pos} {wi:TI} {g:TG} {te:TE}
theorem a0y {ifs:List Expr} {tc:TT} {pins:List (Addr×Obj)} {σ:St} {s2:Shared} {D:Addr->Hp->Prop} {itv:Value} {RR:Value->Addr->Result->Shared->Prop}
  (hc:X.calm=true) (hg:∀ C fp s₀ H₀,PG (blk X os fr scope C fp s₀ H₀) tg g) (ht:∀ C fp s₀ H₀,b1F (blk X os fr scope C fp s₀ H₀) ifs tc) (he:∀ C fp s₀ H₀,PE (blk X os fr scope C fp s₀ H₀) elt te)
  (hk:scope.kind=.function) (hok:a0v X.env.scope scope X.N fr=true)
  (h2:PIE X pins σ tg (λ J H1=>∀ p,H1 p=none->lcI os.length fr g tc te σ J H1 p (D p)) itv s2)
  (hRR:∀ p C s3 H3 s' H',Inv X pins σ H3 s3->s3.heap.objs.size=C->H' C=none->Inv X pins σ H' s'->(∃ m,s'.heap.Ns C m)->D p H'->RR (.ref p) C (.ok .next) s') :
  wpAny (model X.prog X.w) X.A (newList []) (λ acc s₃=>wpAny (model X.prog X.w) X.A (newFunctionEnv scope X.env.globals (clo X.env scope.names []) [] X.env.qual none .none (some X.env)) (λ cenv s₄ =>
   codeAny (model X.prog X.w) X.A (.compStart (.ListComp elt [⟨tg,iter,ifs,0⟩] scope pos) 0 itv acc { cenv with scope:=relabel scope X.env }) (RR acc cenv.locals) s₄) X.xe s₃) X.xe s2:=by
 obtain ⟨it,fp,tn,J,H2,e,I2,T,st2,f2,hR⟩:=h2;subst e;refine wpAny_newObj_type ?_;have fresh:H2 s2.heap.objs.size=none:=I2.fresh;obtain ⟨W,⟨m0,w0⟩,turn⟩:=hR s2.heap.objs.size fresh;have I3:Inv X pins σ (upd H2 s2.heap.objs.size (.lst [])) { s2 with heap:=s2.heap.push { cls:=.type "list",dict:=none,data:=.seq ([]:List Value).toArray } }:=I2.lnew (ys:=[]) (its:=[]) (t':=s2.toks) .nil (Nat.zero_le _);have obj2:=T.obj _ _ st2;have ne2:∀ b∈fp,b≠s2.heap.objs.size:=λ b hb=>by
  obtain ⟨o,e,_⟩:=obj2 b hb;exact Nat.ne_of_lt (Heap.lt_size e)
 have st3:tn 0 (s2.heap.push { cls:=.type "list",dict:=none,data:=.seq ([]:List Value).toArray }):=T.keep _ _ _ st2 λ b hb o e=>Heap.get?_push_of_some _ e;have f3:∀ b∈fp,V9 X pins (upd H2 s2.heap.objs.size (.lst [])) b:=λ b hb=>⟨by rw [i5 (ne2 b hb)]; exact (f2 b hb).1,(f2 b hb).2⟩;generalize hs3:({ s2 with heap:=s2.heap.push { cls:=.type "list",dict:=none,data:=.seq ([]:List Value).toArray } }:Shared)=s3 at I3 ⊢;have st3':tn 0 s3.heap:=by rw [<- hs3]; exact st3
 generalize s2.heap.objs.size=p at *;refine a3q ?_;have hns:(pushCells (s3.heap.push { cls:=.type "dict",data:=.dict #[] }) scope.names).Ns s3.heap.objs.size λ _=>none:=(Heap.Ns.new s3.heap (.type "dict")).keeps (pushCells_keeps _ _);have hkeep:∀ b o,s3.heap.get? b=some o->(pushCells (s3.heap.push { cls:=.type "dict",data:=.dict #[] }) scope.names).get? b=some o:=λ b o e=>pushCells_keeps _ _ b o (Heap.get?_push_of_some _ e);have hcl:=cellsFrom_ok scope.names (s3.heap.push { cls:=.type "dict",data:=.dict #[] }) (s3.heap.objs.size+1) [] ⟨λ _ _ hm=>(nomatch hm),List.Pairwise.nil⟩ (by rw [Heap.size_push]; exact Nat.le_refl _);rw [Heap.size_push] at hcl;generalize pushCells (s3.heap.push { cls:=.type "dict",data:=.dict #[] }) scope.names=h₁ at hns hkeep hcl ⊢;have obj3:∀ b∈fp,∃ o,s3.heap.get? b=some o:=λ b hb=>by
  obtain ⟨o,e,_⟩:=T.obj _ _ st3' b hb;exact ⟨o,e⟩
 have J0:=I3.block (os:=os) (t':=s3.toks) hk hok f3 obj3 (h₁:=h₁) hns hkeep hcl;have ok0:=J0.ok;have fpY:∀ {H':Hp},(∀ b∈fp,H' b=none)->∀ b∈fp,V9 (blk X os fr scope s3.heap.objs.size fp s3 (upd H2 p (.lst []))) [] H' b:=λ hn b hb =>
  ⟨hn b hb,(ok0.exf b hb).1,ok0.exfs b hb,.inl hb,(ok0.exf b hb).2,λ q hq=>nomatch hq⟩
 have st4:tn 0 h₁:=T.keep _ _ _ st3' λ b hb o e=>hkeep b o e;have fr0:∀ b∈fp,upd H2 p (.lst []) b=none:=λ b hb=>(f3 b hb).1;have loop:∀ s4:Shared,s4={ s3 with heap:=h₁,toks:=s3.toks } →
   codeAny (model X.prog X.w) X.A (.compLoop (.ListComp elt [⟨tg,iter,ifs,0⟩] scope pos) 0 (.ref it) (.ref p) (compEnvC scope (T0 X.env scope s3.heap.objs.size) s3.heap.objs.size X.env)) (RR (.ref p) s3.heap.objs.size) s4:=by
  rintro s4 rfl;refine a2X (λ n s'=>∃ i ys H',Inv (blk X os fr scope s3.heap.objs.size fp s3 (upd H2 p (.lst []))) [] (blkσ os.length fr σ) H' s'/\tn i s'.heap/\(∀ b∈fp,H' b=none)/\W i n ys H') ?_ m0 ⟨0,[],_,J0,st4,fr0,w0⟩;rintro n s5 ⟨i,ys,H5,I5,st5,fr5,w5⟩;rcases turn i n ys H5 w5 with ⟨stop,qd⟩ | ⟨go,step⟩
  ·refine G5 (T.done (blk X os fr scope s3.heap.objs.size fp s3 (upd H2 p (.lst []))) rfl rfl rfl hc i [] s5 _ H5 (λ _ _=>False) I5 (fpY fr5) st5 stop) λ r s6 ⟨hr,I6⟩=>?_
   subst hr;exact hRR p _ s3 _ s6 H5 I3 rfl I6.free (I3.unblock f3 I6) (let ⟨m,hm,_⟩:=I6.loc; ⟨m,hm⟩) qd
  ·refine G5 (T.item (blk X os fr scope s3.heap.objs.size fp s3 (upd H2 p (.lst []))) rfl rfl rfl hc i [] s5 _ H5 (λ _ _=>False) I5 (fpY fr5) st5 go) λ r s6 ⟨u,hr,h6⟩=>?_
   subst hr;refine G5 h6 λ _ s7 ⟨x,H7,I7,r7,y7,st7,fr7⟩=>?_;have I7':=I7.pinned (fpY fr7) (T.obj _ _ st7);refine G5 (hg _ _ _ _ _ s7 _ H7 x u _ I7' r7 (step x H7 y7)) λ _ s8 ⟨σ8,H8,I8,wk8,q8⟩=>?_;have again:∀ {H':Hp} {s':Shared} {zs:List V} {m':Nat},Inv (blk X os fr scope s3.heap.objs.size fp s3 (upd H2 p (.lst []))) ([]++a1Y fp s7.heap) σ8 H' s'->m'<n->W (i+1) m' zs H' →
     ∃ m,m<n/\∃ i ys H',Inv (blk X os fr scope s3.heap.objs.size fp s3 (upd H2 p (.lst []))) [] (blkσ os.length fr σ) H' s'/\tn i s'.heap/\(∀ b∈fp,H' b=none)/\W i m ys H':=λ {H' s' zs m'} J' hm' w'=>by
    refine ⟨m',hm',i+1,zs,H',(J'.weak wk8.1.symm λ i v e=>wk8.2 i v e).unpinned,T.keep _ _ _ st7 λ b hb o e=>(J'.pin (b,o) (List.mem_append_right _ (List.mem_append_right _ (U9 hb e)))).1,λ b hb=>?_,w'⟩;obtain ⟨o,e,d⟩:=T.obj _ _ st7 b hb;exact (J'.pin (b,o) (List.mem_append_right _ (List.mem_append_right _ (U9 hb e)))).2.1
   refine G5 (ht _ _ _ _ _ s8 σ8 H8 _ I8 q8) λ ok s9 ⟨H9,I9,q9⟩=>?_
   cases ok with
   | false =>
    obtain ⟨m',hm',w9⟩:=q9;exact again I9 hm' w9
   | true =>
    refine G5 (he _ _ _ _ _ s9 σ8 H9 _ I9 q9) λ y s10 ⟨v,H10,I10,r10,hp10,hz10,m',hm',w10⟩=>?_;refine G5 (O5 (X:=blk X os fr scope s3.heap.objs.size fp s3 (upd H2 p (.lst []))) _ s10 σ8 H10 (.ref p) [v] (.ref p) [y] (λ _ H'=>H'=upd H10 p (.lst (ys++[v]))) I10 rfl (.cons r10 .nil) ⟨p,ys,v,rfl,rfl,hp10,hz10,rfl⟩) λ _ s11 ⟨_,H11,I11,_,e11⟩=>?_;subst e11;exact again I11 hm' w10
 exact codeAny_compStart_list (loop _ rfl) (T.self _ 0 _ _ _ st4 (loop _ rfl))
theorem J9 (os:List Str) (fr:List Nat) (hc:X.calm=true) (hi:PI X tg iter wi) (hg:∀ C fp s₀ H₀,PG (blk X os fr scope C fp s₀ H₀) tg g) (he:∀ C fp s₀ H₀,PE (blk X os fr scope C fp s₀ H₀) elt te)
  (hk:scope.kind=.function:=by rfl) (hok:a0v X.env.scope scope X.N fr=true:=by rfl) (hs:∀ x,foldedSetIterable iter X.env x=pure x:=by intro _; rfl) :
  PE X (.ListComp elt [⟨tg,iter,[],0⟩] scope pos) (tLC os.length fr wi g te):=by
 intro pins s σ H Q I h;unfold tLC at h;simp only [<- a3U] at h;rw [eval_ListComp];refine wpAny_comprehension_free (use:=none) rfl hs (K3 (U1 I hok)) hk (λ x hx hl=>by have:=(R4 hok x hx).1; rw [hl] at this; exact this) (G5 (hi pins s σ H _ I h) λ v s1 h1=>G5 h1 λ itv s2 h2=>?_);refine a0y (os:=os) (D:=λ p H'=>Q (.ref p) H') (RR:=λ acc C=>compPost (model X.prog X.w) X.A X.xe none (EP X pins σ Q) acc C) hc hg (λ _ _ _ _=>a3W) he hk hok h2 ?_;intro p C s3 H3 s' H' I3 eC hn I' ⟨m,hm⟩ q;refine ⟨m,hm,λ h' hs'=>⟨.ref p,H',I3.letgo I' hn (by omega) hs',rfl,q⟩⟩
theorem a3C {c:Expr} {tc:TT} (os:List Str) (fr:List Nat) (hc:X.calm=true) (hi:PI X tg iter wi) (hg:∀ C fp s₀ H₀,PG (blk X os fr scope C fp s₀ H₀) tg g) (ht:∀ C fp s₀ H₀,PT (blk X os fr scope C fp s₀ H₀) c tc) (he:∀ C fp s₀ H₀,PE (blk X os fr scope C fp s₀ H₀) elt te)
  (hk:scope.kind=.function:=by rfl) (hok:a0v X.env.scope scope X.N fr=true:=by rfl) (hs:∀ x,foldedSetIterable iter X.env x=pure x:=by intro _; rfl) :
  PE X (.ListComp elt [⟨tg,iter,[c],0⟩] scope pos) (b2L os.length fr wi g tc te):=by
 intro pins s σ H Q I h;rw [eval_ListComp];refine wpAny_comprehension_free (use:=none) rfl hs (K3 (U1 I hok)) hk (λ x hx hl=>by have:=(R4 hok x hx).1; rw [hl] at this; exact this) (G5 (hi pins s σ H _ I h) λ v s1 h1=>G5 h1 λ itv s2 h2=>?_);refine a0y (os:=os) (D:=λ p H'=>Q (.ref p) H') (RR:=λ acc C=>compPost (model X.prog X.w) X.A X.xe none (EP X pins σ Q) acc C) hc hg (λ _ _ _ _=>a4s (ht _ _ _ _)) he hk hok h2 ?_;intro p C s3 H3 s' H' I3 eC hn I' ⟨m,hm⟩ q;refine ⟨m,hm,λ h' hs'=>⟨.ref p,H',I3.letgo I' hn (by omega) hs',rfl,q⟩⟩
theorem S5 {i:Nat} {x:Str} {pos' spos:Pos} (os:List Str) (fr:List Nat) (hN:X.N.Nodup) (hi':X.N[i]?=some x) (hx:X.env.scope.names.lookup x=some .local)
  (hc:X.calm=true) (hi:PI X tg iter wi) (hg:∀ C fp s₀ H₀,PG (blk X os fr scope C fp s₀ H₀) tg g) (he:∀ C fp s₀ H₀,PE (blk X os fr scope C fp s₀ H₀) elt te)
  (hsw:swapsWith (.ListComp elt [⟨tg,iter,[],0⟩] scope pos) (some (.Name x pos')) spos.line X.env=pure true:=by rfl)
  (hk:scope.kind=.function:=by rfl) (hok:a0v X.env.scope scope X.N fr=true:=by rfl) (hs:∀ x,foldedSetIterable iter X.env x=pure x:=by intro _; rfl) :
  PS X (.Assign [.Name x pos'] (.ListComp elt [⟨tg,iter,[],0⟩] scope pos) spos) (a7k (tLC os.length fr wi g te) (P9 i)):=by
 intro pins s σ H D I h;unfold a7k tLC at h;simp only [<- a3U] at h;rw [exec_Assign_Name_used _ _ _ _ hsw];refine wpAny_bind (wpAny_standAt (wpAny_bind ?_))
 show wpAny _ X.A (do let _ <- comprehension (.ListComp elt [⟨tg,iter,[],0⟩] scope pos) scope X.env _ (newList []) false (eval iter X.env) (some (assign (.Name x pos') X.env))) _ _ s
 refine wpAny_bind (wpAny_mono (wpAny_comprehension_free (use:=some (assign (.Name x pos') X.env)) (Q:=λ _ s'=>SP X pins D .next s') rfl hs (K3 (U1 I hok)) hk (λ x hx hl=>by have:=(R4 hok x hx).1; rw [hl] at this; exact this)
  (G5 (hi pins s σ H _ I h) λ v s1 h1=>G5 h1 λ itv s2 h2=>?_)) (λ _ s' hq=>wpAny_pure (wpAny_pure hq)) λ _ _ e=>e)
 refine a0y (os:=os) (D:=λ p H'=>D.nx (σ.set i (some (.ref p))) H') (RR:=λ acc C=>compPost (model X.prog X.w) X.A X.xe (some (assign (.Name x pos') X.env)) (λ _ s'=>SP X pins D .next s') acc C) hc hg (λ _ _ _ _=>a3W) he hk hok h2 ?_;intro p C s3 H3 s' H' I3 eC hn I' ⟨m,hm⟩ q
 show wpAny _ X.A (assign (.Name x pos') X.env (.ref p)) _ _ _
 refine wpAny_assign_Name (a0T (v:=.ref p) I' hN hi' (.inl hx) rfl (λ s'' I'' ⟨a,hsa,ha⟩=>?_) (.inr hx));have hCa:C≠a:=by
  rcases ha with e | e
  ·rw [e]; exact Nat.ne_of_gt (by rw [<- eC]; exact I3.lt)
  ·obtain ⟨v,z⟩:=I3.cell x a e
   exact Nat.ne_of_gt (by rw [<- eC]; exact z.lt)
 exact ⟨m,hm.sameBut hsa hCa,λ h' hs'=>⟨_,H',I3.letgo I'' hn (by omega) hs',q⟩⟩
end
section
variable {X:Cx} {pins:List (Addr×Obj)} {σ:St} {H:Hp} {s:Shared} {a:Addr} {xs:List V}
abbrev SqA (K:W.Frag) (H:Hp) (a:Addr) (xs:List V):Prop:=SqL K H a xs\/SqT K H a xs
theorem a1p {h':Heap} {o:Obj} {h:Heap} (hk:∀ b x,b ∉ [h.objs.size]->(h.push o).get? b=some x->h'.get? b=some x):∀ b x,h.get? b=some x->h'.get? b=some x :=
 λ b x e=>hk b x (λ hm=>by rw [List.mem_singleton.mp hm] at e; exact Nat.lt_irrefl _ (Heap.lt_size e)) (Heap.get?_push_of_some _ e)
theorem a0s (hc:X.calm=true) (I:Inv X pins σ H s) (h:SqA X.K H a xs):∃ its:List Value,Vals xs its/\∀ (Q:Value->Shared->Prop) (E:Value->Shared->Prop),
  (∀ (o:Obj) (St:Nat->Heap->Prop),Walks X.prog X.w X.A.in1 s.heap.objs.size [s.heap.objs.size,a] [s.heap.objs.size] its.toArray.size (λ i v=>its.toArray[i]?=some v) St->St 0 (s.heap.push o) →
   (∀ b∈[s.heap.objs.size,a],b<(s.heap.push o).objs.size)->Q (.ref s.heap.objs.size) { s with heap:=s.heap.push o })->wpAny (model X.prog X.w) X.A.in1 (pyIter (.ref a)) Q E s:=by
 have hh:=I.ok.hd hc;have lt2:∀ (o:Obj),a<s.heap.objs.size->∀ b∈[s.heap.objs.size,a],b<(s.heap.push o).objs.size:=λ o hlt b hb=>by
  rw [Heap.size_push];rcases List.mem_cons.mp hb with rfl | hb
  ·exact Nat.lt_succ_self _
  ·rw [List.mem_singleton.mp hb]; exact Nat.lt_succ_of_lt hlt
 rcases h with h | h
 ·obtain ⟨its,r,p,hz⟩:=I.list h
  have hl:=p.isList;have hlt:a<s.heap.objs.size:=by obtain ⟨_,e,_⟩:=hl; exact Heap.lt_size e
  refine ⟨its,r,λ Q E hQ=>wpAny_pyIter_list hl ?_⟩;exact hQ _ _ (Walks.list (A:=X.A.in1) hh _ a (Nat.ne_of_lt hlt) its.toArray) ⟨⟨_,Heap.get?_push_size _ rfl,rfl,rfl⟩,hl.push _⟩ (lt2 _ hlt)
 ·obtain ⟨its,r,p,hz⟩:=I.tuple h
  have hl:s.heap.IsTuple a its.toArray:=p;have hlt:a<s.heap.objs.size:=by obtain ⟨_,e,_⟩:=hl; exact Heap.lt_size e
  refine ⟨its,r,λ Q E hQ=>wpAny_pyIter_tuple hl ?_⟩;exact hQ _ _ (Walks.tuple (A:=X.A.in1) hh _ a (Nat.ne_of_lt hlt) its.toArray) ⟨⟨_,Heap.get?_push_size _ rfl,rfl,rfl⟩,hl.push _⟩ (lt2 _ hlt)
theorem a2R {ys:List V} {its:List Value} (r:Vals ys its) {i:Nat} {v:Value} (e:its.toArray[i]?=some v):∃ y,ys[i]?=some y/\RelV y v:=by
 have e':its[i]?=some v:=by simpa using e
 cases q:ys[i]? with
 | none=>rw [r.none_of q] at e'; cases e'
 | some y =>
  obtain ⟨u,h1,h2⟩:=r.get q;rw [e'] at h1; cases h1;exact ⟨y,rfl,h2⟩
theorem a4P (bs:List Bool):((List.range bs.length).all λ i=>(bs[i]?).getD true)=bs.all id:=by
 rw [Bool.eq_iff_iff,List.all_eq_true,List.all_eq_true];constructor
 ·intro h b hb
  obtain ⟨i,hi,e⟩:=List.getElem_of_mem hb;have:=h i (List.mem_range.mpr hi);simp only [List.getElem?_eq_getElem hi,Option.getD_some,e] at this;exact this
 ·intro h i hi
  have hi':=List.mem_range.mp hi;simp only [List.getElem?_eq_getElem hi',Option.getD_some];exact h _ (List.getElem_mem hi')
theorem a4H (bs:List Bool):((List.range bs.length).any λ i=>(bs[i]?).getD false)=bs.any id:=by
 rw [Bool.eq_iff_iff,List.any_eq_true,List.any_eq_true];constructor
 ·rintro ⟨i,hi,e⟩
  have hi':=List.mem_range.mp hi;simp only [List.getElem?_eq_getElem hi',Option.getD_some] at e;exact ⟨_,List.getElem_mem hi',e⟩
 ·rintro ⟨b,hb,e⟩
  obtain ⟨i,hi,rfl⟩:=List.getElem_of_mem hb;exact ⟨i,List.mem_range.mpr hi,by simp only [List.getElem?_eq_getElem hi,Option.getD_some]; exact e⟩
end
section
variable {X:Cx}
theorem a4c (hc:X.calm=true):N6 X (.builtin "all") (λ vs H Q=>∃ (a:Addr) (bs:List Bool),vs=[.ref a]/\SqA X.K H a (bs.map V.bl)/\Q (.bl (bs.all id)) H):=by
 intro pins s σ H vs us Q I r h;obtain ⟨a,bs,rfl,hs,q⟩:=h;obtain ⟨u,rfl,ru⟩:=S3 r
 cases ru;obtain ⟨its,rv,walk⟩:=a0s hc I hs;have hlen:its.toArray.size=bs.length:=by rw [List.size_toArray,<- rv.length,List.length_map]
 refine call_all_walk (walk _ _ λ o St W st fp=>?_);refine ⟨_,_,_,_,_,_,λ i=>(bs[i]?).getD true,rfl,W,st,λ i v s' Q' E' hP hQ=>?_,λ h' tk hk=>?_⟩
 ·obtain ⟨y,e,ry⟩:=a2R rv hP
  rw [List.getElem?_map] at e
  cases eb:bs[i]? with
  | none=>rw [eb] at e; cases e
  | some b =>
   rw [eb] at e; cases e
   cases ry;simp only [eb,Option.getD_some] at hQ;exact wpAny_truthy_bool hQ
 ·rw [hlen,a4P bs]
  exact ⟨.bl _,H,I.kept (a1p hk),rfl,q⟩
theorem a1F (hc:X.calm=true):N6 X (.builtin "any") (λ vs H Q=>∃ (a:Addr) (bs:List Bool),vs=[.ref a]/\SqA X.K H a (bs.map V.bl)/\Q (.bl (bs.any id)) H):=by
 intro pins s σ H vs us Q I r h;obtain ⟨a,bs,rfl,hs,q⟩:=h;obtain ⟨u,rfl,ru⟩:=S3 r
 cases ru;obtain ⟨its,rv,walk⟩:=a0s hc I hs;have hlen:its.toArray.size=bs.length:=by rw [List.size_toArray,<- rv.length,List.length_map]
 refine call_any_walk (walk _ _ λ o St W st fp=>?_);refine ⟨_,_,_,_,_,_,λ i=>(bs[i]?).getD false,rfl,W,st,λ i v s' Q' E' hP hQ=>?_,λ h' tk hk=>?_⟩
 ·obtain ⟨y,e,ry⟩:=a2R rv hP
  rw [List.getElem?_map] at e
  cases eb:bs[i]? with
  | none=>rw [eb] at e; cases e
  | some b =>
   rw [eb] at e; cases e
   cases ry;simp only [eb,Option.getD_some] at hQ;exact wpAny_truthy_bool hQ
 ·rw [hlen,a4H bs]
  exact ⟨.bl _,H,I.kept (a1p hk),rfl,q⟩
theorem a3B {ns:List Int} {its:List Value} (rv:Vals (ns.map V.int) its):∀ (i:Nat) (v:Value),its.toArray[i]?=some v->∃ t,v=Value.int (ns.getD i 0) t:=λ i v hP=>by
 obtain ⟨y,e,ry⟩:=a2R rv hP;rw [List.getElem?_map] at e
 cases en:ns[i]? with
 | none=>rw [en] at e; cases e
 | some n =>
  rw [en] at e; cases e;obtain ⟨t,rfl⟩:=ry;exact ⟨t,by rw [List.getD_eq_getElem?_getD,en]; rfl⟩
theorem a0Y (ns:List Int):∀ j,preSum (λ i=>ns.getD i 0) j=(ns.take j).sum
 | 0=>by simp [preSum]
 | j+1=>by
  rw [preSum,a0Y ns j]
  by_cases hj:j<ns.length
  ·rw [List.take_succ_eq_append_getElem hj,List.sum_append,List.getD_eq_getElem?_getD,List.getElem?_eq_getElem hj]; simp
  ·rw [List.take_of_length_le (by omega),List.take_of_length_le (by omega),List.getD_eq_getElem?_getD,List.getElem?_eq_none (by omega)]; simp
theorem a1R (hc:X.calm=true):N6 X (.builtin "sum") (λ vs H Q=>∃ (a:Addr) (ns:List Int),vs=[.ref a]/\SqA X.K H a (ns.map V.int)/\Q (.int ns.sum) H):=by
 intro pins s σ H vs us Q I r h;obtain ⟨a,ns,rfl,hs,q⟩:=h;obtain ⟨u,rfl,ru⟩:=S3 r
 cases ru;obtain ⟨its,rv,walk⟩:=a0s hc I hs;have hlen:its.toArray.size=ns.length:=by rw [List.size_toArray,<- rv.length,List.length_map]
 refine call_sum_walkG (walk _ _ λ o St W st fp=>?_);refine ⟨_,_,_,_,_,_,λ i=>ns.getD i 0,rfl,W,st,fp,a3B rv,λ h' tk t' hk=>?_⟩;rw [hlen,a0Y,List.take_of_length_le (Nat.le_refl _)];exact ⟨.int _,H,I.kept (a1p hk),⟨_,rfl⟩,q⟩
theorem a6V {l:List Int} {j:Nat} (h:j<l.length):l.getD j 0∈l:=by
 rw [List.getD_eq_getElem?_getD,List.getElem?_eq_getElem h]; exact List.getElem_mem h
theorem a7n {l:List Int} {a:Int} (h:a∈l):∃ j,j<l.length/\l.getD j 0=a:=by
 obtain ⟨j,hj,e⟩:=List.getElem_of_mem h;exact ⟨j,hj,by rw [List.getD_eq_getElem?_getD,List.getElem?_eq_getElem hj]; exact e⟩
theorem a2x (hc:X.calm=true):N6 X (.builtin "max") (λ vs H Q=>∃ (a:Addr) (ns:List Int),vs=[.ref a]/\SqA X.K H a (ns.map V.int)/\ns≠[]/\∀ M,M∈ns->(∀ n∈ns,n<=M)->Q (.int M) H):=by
 intro pins s σ H vs us Q I r h;obtain ⟨a,ns,rfl,hs,hne,q⟩:=h;obtain ⟨u,rfl,ru⟩:=S3 r
 cases ru;obtain ⟨its,rv,walk⟩:=a0s hc I hs;have hlen:its.toArray.size=ns.length:=by rw [List.size_toArray,<- rv.length,List.length_map]
 have hpos:0<ns.length:=List.length_pos_iff.mpr hne;refine call_max_walk (walk _ _ λ o St W st fp=>?_);refine ⟨_,_,_,_,_,_,_,rfl,W,st,fp,by rw [hlen]; exact hpos,CmpOf.ints_gt (λ i=>ns.getD i 0) (a3B rv),λ v h' tk hP hk=>?_⟩;obtain ⟨h1,h2⟩:=argBest_gt (λ i=>ns.getD i 0) (its.toArray.size - 1);obtain ⟨t,rfl⟩:=a3B rv _ v hP;refine ⟨.int _,H,I.kept (a1p hk),⟨_,rfl⟩,q _ (a6V (by omega)) λ n hn=>?_⟩;obtain ⟨j,hj,rfl⟩:=a7n hn;exact h2 j (by omega)
theorem a1b:N6 X (.builtin "isinstance") (λ vs H Q=>∃ x t n b,vs=[x,.ty n]/\a0G X.K H x t/\W.kitOne X.K t (.type n)=some b/\Q (.bl b) H):=by
 intro pins s σ H vs us Q I r h;obtain ⟨x,t,n,b,rfl,ty,e,q⟩:=h;obtain ⟨u,v,rfl,ru,rv⟩:=a4g r
 cases rv;exact a6G I ru ty e λ tk=>⟨.bl b,H,I.tok _,rfl,q⟩
end
mutual
inductive Dp (K:W.Frag) (H:Hp):V->PyData->Prop
 | non:Dp K H .non .none
 | bl (b:Bool):Dp K H (.bl b) (.bool b)
 | int (i:Int):Dp K H (.int i) (.int i)
 | str (x:Str):Dp K H (.str x) (.str x)
 | lst {a:Addr} {xs:List V} {ds:List PyData}:SqL K H a xs->Dps K H xs ds->Dp K H (.ref a) (.list ds)
 | tup {a:Addr} {xs:List V} {ds:List PyData}:SqT K H a xs->Dps K H xs ds->Dp K H (.ref a) (.tuple ds)
inductive Dps (K:W.Frag) (H:Hp):List V->List PyData->Prop
 | nil:Dps K H [] []
 | cons {x:V} {xs:List V} {d:PyData} {ds:List PyData}:Dp K H x d->Dps K H xs ds->Dps K H (x::xs) (d::ds)
end
theorem Same.tseq {K:W.Frag} {H H':Hp} {a:Addr} {xs:List V} (e:Same H H') (h:SqT K H a xs):SqT K H' a xs:=by
 rcases h with (h | ⟨o,h⟩) | h
 ·exact .inl (.inl (e _ _ h))
 ·exact .inl (.inr ⟨o,e _ _ h⟩)
 ·exact .inr h
mutual
theorem Dp.same {K:W.Frag} {H H':Hp} (e:Same H H'):∀ {x:V} {d:PyData},Dp K H x d->Dp K H' x d
 | _,_,.non=>.non
 | _,_,.bl b=>.bl b
 | _,_,.int i=>.int i
 | _,_,.str x=>.str x
 | _,_,.lst h r=>.lst (e.seq h) (Dps.same e r)
 | _,_,.tup h r=>.tup (e.tseq h) (Dps.same e r)
theorem Dps.same {K:W.Frag} {H H':Hp} (e:Same H H'):∀ {xs:List V} {ds:List PyData},Dps K H xs ds->Dps K H' xs ds
 | _,_,.nil=>.nil
 | _,_,.cons a r=>.cons (Dp.same e a) (Dps.same e r)
end
section
variable {X:Cx} {pins:List (Addr×Obj)} {σ:St} {H:Hp} {s:Shared}
mutual
theorem Dp.reads (I:Inv X pins σ H s):∀ {x:V} {d:PyData},Dp X.K H x d->∀ {u:Value},RelV x u->∃ as,Reads s.heap u d as
 | _,_,.non,u,r=>by cases r; exact ⟨_,.none⟩
 | _,_,.bl b,u,r=>by cases r; exact ⟨_,.bool b⟩
 | _,_,.int i,u,r=>by obtain ⟨t,rfl⟩:=r; exact ⟨_,.int i t⟩
 | _,_,.str x,u,r=>by obtain ⟨t,rfl⟩:=r; exact ⟨_,.str x t⟩
 | _,_,.lst h q,u,r=>by
  cases r;obtain ⟨its,rv,p,hz⟩:=I.list h;obtain ⟨o,e1,e2,n,e3⟩:=p.isList;obtain ⟨as,ra⟩:=Dps.reads I q rv;exact ⟨_,.list e1 e2 e3 (by simpa using ra)⟩
 | _,_,.tup h q,u,r=>by
  cases r;obtain ⟨its,rv,p,hz⟩:=I.tuple h;obtain ⟨o,e1,e2,n,e3⟩:=(show s.heap.IsTuple _ its.toArray from p);obtain ⟨as,ra⟩:=Dps.reads I q rv;exact ⟨_,.tuple e1 e2 e3 (by simpa using ra)⟩
theorem Dps.reads (I:Inv X pins σ H s):∀ {xs:List V} {ds:List PyData},Dps X.K H xs ds->∀ {us:List Value},Vals xs us->∃ as,ReadsAll s.heap us ds as
 | _,_,.nil,us,r=>by cases r; exact ⟨_,.nil⟩
 | _,_,.cons a q,us,r=>by
  cases r with
  | cons r1 r2 =>
   obtain ⟨as,h1⟩:=Dp.reads I a r1;obtain ⟨bs,h2⟩:=Dps.reads I q r2;exact ⟨_,.cons h1 h2⟩
end
end
section
variable {X:Cx}
def b3r (K:W.Frag):R2:=λ x y H Q=>∃ d e,Dp K H x d/\Dp K H y e/\d.canLay0=true/\e.canLay0=true/\min d.depth e.depth<=60/\Q (.bl (PyData.eqv d e)) H
def b3q (K:W.Frag):R2:=λ x y H Q=>∃ d e,Dp K H x d/\Dp K H y e/\d.canLay0=true/\e.canLay0=true/\min d.depth e.depth<=60/\Q (.bl (!PyData.eqv d e)) H
theorem a8t {k:Nat} (hr:Room k X.A):OpR X (compareOp .Eq) (b3r X.K):=by
 intro pins s σ H x y v u Q I rx ry h;obtain ⟨d,e,h1,h2,c1,c2,hd,q⟩:=h;obtain ⟨as,r1⟩:=h1.reads I rx;obtain ⟨bs,r2⟩:=h2.reads I ry;exact SeqAt.compareEq_reads r1 r2 c1 c2 (by have:=hr.units; omega) ⟨.bl _,H,I,rfl,q⟩
theorem Z8 {k:Nat} (hr:Room k X.A):OpR X (compareOp .NotEq) (b3q X.K):=by
 intro pins s σ H x y v u Q I rx ry h;obtain ⟨d,e,h1,h2,c1,c2,hd,q⟩:=h;obtain ⟨as,r1⟩:=h1.reads I rx;obtain ⟨bs,r2⟩:=h2.reads I ry;exact SeqAt.compareNe_reads r1 r2 c1 c2 (by have:=hr.units; omega) ⟨.bl _,H,I,rfl,q⟩
end
theorem Same.new {H:Hp} {p:Addr} (h:H p=none) (o:HO):Same H (upd H p o):=λ b u q=>by rw [i5 (i6 q h)]; exact q
theorem Wk.set {n:Nat} {fr:List Nat} {σ:St} {i:Nat} {v:V} (hi:i<n):Wk (blkσ n fr σ) ((blkσ n fr σ).set i (some v)):=by
 refine ⟨by simp,λ j w e=>?_⟩
 by_cases hj:j=i
 ·subst hj
  unfold blkσ at e;rw [List.getElem?_append_left (by simpa using hi),List.getElem?_replicate] at e
  split at e <;> cases e
 ·rw [List.getElem?_set_ne (Ne.symm hj)]; exact e
structure a4W (J:It) (H1:Hp) (xs:List V):Prop where
 go:∀ i H,Same H1 H->i<xs.length->J.go i H
 yld:∀ i H x H',Same H1 H->i<xs.length->J.yld i H x H'->H'=H/\xs[i]?=some x
 stop:∀ H,Same H1 H->J.stop xs.length H
theorem v6 {K:W.Frag} {a:Addr} {xs:List V} {H1:Hp} (h:SqL K H1 a xs):a4W (Itl K a) H1 xs :=
 ⟨λ i H e hi=>⟨xs,xs[i],e.seq h,List.getElem?_eq_getElem hi⟩,λ i H x H' e hi y=>⟨y.1,y.2 xs (e.seq h)⟩,λ H e=>⟨xs,e.seq h,Nat.le_refl _⟩⟩
theorem P5 {K:W.Frag} {a:Addr} {xs:List V} {H1:Hp} (h:SqT K H1 a xs):a4W (Itt K a) H1 xs :=
 ⟨λ i H e hi=>⟨xs,xs[i],e.tseq h,List.getElem?_eq_getElem hi⟩,λ i H x H' e hi y=>⟨y.1,y.2 xs (e.tseq h)⟩,λ H e=>⟨xs,e.tseq h,Nat.le_refl _⟩⟩
theorem a2h {lo:Int} {n:Nat} {H1:Hp}:a4W (Itr lo n) H1 ((List.range n).map λ (i:Nat)=>V.int (lo+(i:Int))) :=
 ⟨λ i H e hi=>(show i<n from by simpa using hi),λ i H x H' e hi y=>⟨y.1,by rw [y.2,List.getElem?_map,List.getElem?_range (by simpa using hi)]; rfl⟩,λ H e=>by simp [Itr]⟩
theorem Paired.app {α β:Type} {F:α->β->Prop}:∀ {a c:List α} {b d:List β},Paired F a b->Paired F c d->Paired F (a++c) (b++d)
 | _,_,_,_,.nil,s=>s
 | _,_,_,_,.cons r t,s=>.cons r (Paired.app t s)
section
variable {xs:List V} {J:It} {n:Nat} {fr:List Nat} {g:TG} {te:TE} {σ:St} {H1:Hp} {p:Addr} {D:Hp->Prop}
theorem W8 (hJ:a4W J H1 xs) (hp:H1 p=none) (hz:xs.length<sizeLine) (F:V->V)
  (step:∀ (i:Nat) x H (N:VK),xs[i]?=some x->Same H1 H->N (F x) H->g x (blkσ n fr σ) H λ σ2 H2=>Wk (blkσ n fr σ) σ2/\te σ2 H2 N)
  (hd:D (upd H1 p (.lst (xs.map F)))):lcW n fr g te σ J H1 p D:=by
 refine ⟨λ i m ys H=>m=xs.length - i/\i<=xs.length/\ys=(xs.take i).map F/\H=upd H1 p (.lst ys),⟨xs.length,by simp,Nat.zero_le _,by simp,rfl⟩,?_⟩;rintro i m ys H ⟨rfl,hi,rfl,rfl⟩;have e:=Same.new (o:=.lst ((xs.take i).map F)) hp
 by_cases hlt:i<xs.length
 ·refine .inr ⟨hJ.go i _ e hlt,λ x H' y=>?_⟩
  obtain ⟨rfl,hx⟩:=hJ.yld i _ x H' e hlt y;refine step i x _ _ hx e ⟨upd_same,by rw [List.length_map,List.length_take]; omega,xs.length - (i+1),by omega,rfl,hlt,?_,a1q⟩;rw [List.take_succ,hx,List.map_append]; rfl
 ·have:i=xs.length:=by omega
  subst this;refine .inl ⟨hJ.stop _ e,?_⟩;rw [List.take_of_length_le (Nat.le_refl _)]; exact hd
theorem C9 (hJ:a4W J H1 xs) (hp:H1 p=none) (hz:xs.length<sizeLine) (R:Nat->V->Hp->Prop) (hR:∀ i y H H',R i y H->(∀ b o,b≠p->H b=some o->H' b=some o)->R i y H')
  (step:∀ (i:Nat) x H ys (N:VK),xs[i]?=some x->Same H1 H->H p=some (.lst ys)->(∀ v H3,Same H H3->R i v H3->N v H3)->g x (blkσ n fr σ) H λ σ2 H2=>Wk (blkσ n fr σ) σ2/\te σ2 H2 N)
  (hd:∀ ys H,Same H1 H->H p=some (.lst ys)->ys.length=xs.length->(∀ i y,ys[i]?=some y->R i y H)->D H):lcW n fr g te σ J H1 p D:=by
 refine ⟨λ i m ys H=>m=xs.length - i/\i<=xs.length/\Same H1 H/\H p=some (.lst ys)/\ys.length=i/\∀ j y,ys[j]?=some y->R j y H,⟨xs.length,by simp,Nat.zero_le _,Same.new hp _,upd_same,rfl,λ j y e=>by simp at e⟩,?_⟩;rintro i m ys H ⟨rfl,hi,e,hH,len,pr⟩
 by_cases hlt:i<xs.length
 ·refine .inr ⟨hJ.go i _ e hlt,λ x H' y=>?_⟩
  obtain ⟨rfl,hx⟩:=hJ.yld i _ x H' e hlt y;refine step i x _ ys _ hx e hH λ v H3 s3 r3=>⟨s3 _ _ hH,by omega,xs.length - (i+1),by omega,rfl,hlt,λ b o q=>?_,upd_same,by rw [List.length_append,len]; rfl,λ j y ey=>?_⟩
  ·rw [i5 (i6 q hp)]; exact s3 _ _ (e _ _ q)
  ·have up:∀ b o,b≠p->H3 b=some o->upd H3 p (.lst (ys++[v])) b=some o:=λ b o hb q=>by rw [i5 hb]; exact q
   by_cases hj:j<ys.length
   ·rw [List.getElem?_append_left hj] at ey
    exact hR j y _ _ (pr j y ey) λ b o hb q=>up b o hb (s3 _ _ q)
   ·rw [List.getElem?_append_right (by omega)] at ey
    have hj':j - ys.length=0:=by
     cases q:j - ys.length with
     | zero=>rfl
     | succ k=>rw [q] at ey; simp at ey
    rw [hj'] at ey;have:j=i:=by omega
    subst this;simp at ey;subst ey;exact hR j v _ _ r3 up
 ·have:i=xs.length:=by omega
  subst this;exact .inl ⟨hJ.stop _ e,hd ys H e hH len pr⟩
end
theorem Inv.turnedLaid {X:Cx} {pins:List (Addr×Obj)} {σ:St} {H:Hp} {s:Shared} {h':Heap} {fp:List Addr} {T:Addr} {xs:List V} {its:List Value} (I:Inv X pins σ H s) (hf:∀ b∈fp,V9 X pins H b)
  (k:∀ b o,b ∉ fp->s.heap.get? b=some o->h'.get? b=some o) (ho:∀ b∈fp,∃ o,h'.get? b=some o) (hT:s.heap.objs.size<=T) (hz:xs.length<=sizeLine) (hv:Vals xs its) (ht:IsTup h' T its.toArray) :
  Inv X pins σ (upd H T (.tup xs)) { s with heap:=h' }:=by
 have hTn:H T=none:=I.hok.fresh hT;have neT:∀ b o,s.heap.get? b=some o->b≠T:=λ b o e=>Nat.ne_of_lt (Nat.lt_of_lt_of_le (Heap.lt_size e) hT);refine I.step (g':=s.gens) (t':=s.toks) (d':=s.drawn) (ch:=fp) (λ b hb=>⟨(hf b hb).2.2.2.1,(hf b hb).2.1,(hf b hb).2.2.2.2.1,(hf b hb).2.2.2.2.2⟩) (λ b o _ _ hc e _=>k b o hc e) (λ b o _ _ hc e _=>⟨o.slots,k b o hc e⟩)
  (λ b o hc e n=>by rw [i5 (neT b o e)]; exact n) (λ b o hc e=>⟨o,k b o hc e⟩) (λ b ys e=>by rw [i5 (i6 e hTn)]; exact e) (λ b o u e=>by rw [i5 (i6 e hTn)]; exact e) (λ b ps e=>⟨#[],by rw [i5 (i6 e hTn),e]; simp⟩)
  (λ m hm=>?_) (λ b u e=>?_) I.bare
 ·obtain ⟨o,es,ep,e1,r⟩:=hm
  exact ⟨o,es,ep,k _ o (λ z=>(hf _ z).2.1 rfl) e1,r⟩
 ·by_cases hb:b=T
  ·subst hb; rw [upd_same] at e; cases e
   exact ⟨hz,its,hv,ht⟩
  ·rw [i5 hb] at e
   have nit:∀ c u,H c=some u->c ∉ fp:=λ c u q z=>by rw [(hf c z).1] at q; cases q
   refine (I.hok b u e).stay (λ c v hc q=>k c v ?_ q) (λ c q=>by rw [i5 (i6 q hTn)]; exact q) λ c ys q=>by rw [i5 (i6 q hTn)]; exact q
   rcases hc with z | z
   ·rw [z]; exact nit b u e
   ·exact nit c _ z
theorem Inv.turnedAll {X:Cx} {pins:List (Addr×Obj)} {σ:St} {H:Hp} {s:Shared} {h':Heap} {fp:List Addr} (I:Inv X pins σ H s) (hf:∀ b∈fp,V9 X pins H b)
  (k:∀ b o,b ∉ fp->s.heap.get? b=some o->h'.get? b=some o):Inv X pins σ H { s with heap:=h' }:=by
 refine I.step (g':=s.gens) (t':=s.toks) (d':=s.drawn) (ch:=fp) (λ b hb=>⟨(hf b hb).2.2.2.1,(hf b hb).2.1,(hf b hb).2.2.2.2.1,(hf b hb).2.2.2.2.2⟩) (λ b o _ _ hc e _=>k b o hc e) (λ b o _ _ hc e _=>⟨o.slots,k b o hc e⟩)
  (λ b o hc e n=>n) (λ b o hc e=>⟨o,k b o hc e⟩) (λ b ys e=>e) (λ b o u e=>e) (λ b ps e=>⟨#[],by rw [e]; simp⟩)
  (λ m hm=>?_) (λ b u e=>?_) I.bare
 ·obtain ⟨o,es,ep,e1,r⟩:=hm
  exact ⟨o,es,ep,k _ o (λ z=>(hf _ z).2.1 rfl) e1,r⟩
 ·have nit:∀ c u,H c=some u->c ∉ fp:=λ c u q z=>by rw [(hf c z).1] at q; cases q
  refine (I.hok b u e).stay (λ c v hc q=>k c v ?_ q) (λ c q=>q) λ c ys q=>q;rcases hc with z | z
  ·rw [z]; exact nit b u e
  ·exact nit c _ z
theorem b1p (n l1 l2:Nat) (h1:l1<n) (h2:l2<n):ZipApart (n+4) (n+2) (n+3) n (n+1) l1 l2 where
 TIz:=(by omega:(n+2:Nat)≠n+4)
 TOz:=(by omega:(n+3:Nat)≠n+4)
 i1z:=(by omega:(n:Nat)≠n+4)
 i2z:=(by omega:(n+1:Nat)≠n+4)
 TITO:=(by omega:(n+2:Nat)≠n+3)
 TIi1:=(by omega:(n+2:Nat)≠n)
 TIi2:=(by omega:(n+2:Nat)≠n+1)
 TOi1:=(by omega:(n+3:Nat)≠n)
 TOi2:=(by omega:(n+3:Nat)≠n+1)
 i12:=(by omega:(n:Nat)≠n+1)
 l1z:=(by omega:(l1:Nat)≠n+4)
 l1TO:=(by omega:(l1:Nat)≠n+3)
 l1i1:=(by omega:(l1:Nat)≠n)
 l1i2:=(by omega:(l1:Nat)≠n+1)
 l2z:=(by omega:(l2:Nat)≠n+4)
 l2TO:=(by omega:(l2:Nat)≠n+3)
 l2i1:=(by omega:(l2:Nat)≠n)
 l2i2:=(by omega:(l2:Nat)≠n+1)
section
variable {X:Cx}
def b3K (i j:Int):Prop:=0<j/\j<2 ^ 8000
theorem log2_lt {y:Nat} (h:y<2 ^ 8000):y.log2<9000:=by
 by_cases h0:y=0
 ·subst h0; decide
 ·exact Nat.lt_of_lt_of_le ((Nat.log2_lt h0).mpr h) (by decide)
theorem L0:OpR X (binaryOp .FloorDiv) (rI b3K λ i j=>.int (i / j)):=opI λ i j _ _ _ _ _ hc q=>by
 have h0:j≠0:=by have:=hc.1; omega
 have e:i.fdiv j=i / j:=Int.fdiv_eq_ediv_of_nonneg i (Int.le_of_lt hc.1);refine floordiv_int h0 (by rw [e]; exact q) (.inl (PyProof.noPylong_of_log2 (log2_lt ?_)));have:=hc.1;have:=hc.2;omega
def Big (n:Nat) (i:Int):Prop:=i.natAbs<2 ^ n
def b0z (i j:Int):Prop:=Big 1000000 i/\Big 1000000 j
theorem a5V {i:Int} (h:Big 1000000 i):Builtin.Int.intBits i<=2 ^ 20:=by
 unfold Builtin.Int.intBits
 split
 ·exact Nat.zero_le _
 ·rename_i h0
  have h0':i.natAbs≠0:=by
   intro z;exact h0 (by rw [Int.natAbs_eq_zero.mp z]; rfl)
  have:=(Nat.log2_lt h0').mpr h;omega
theorem y6:OpR X (binaryOp .Mult) (rI b0z λ i j=>.int (i*j)):=opI λ _ _ _ _ _ _ _ hc q=>mul_int q (IntMulOk.of_bits (a5V hc.1) (a5V hc.2))
end
theorem Same.write {H H':Hp} {p:Addr} {o:HO} (e:Same H H') (hp:H p=none):Same H (upd H' p o):=λ b u q=>by rw [i5 (i6 q hp)]; exact e b u q
section
variable {xs:List V} {J:It} {fr:List Nat} {tc:TT} {σ:St} {H1:Hp} {p:Addr} {D:Hp->Prop}
theorem Y0 (hJ:a4W J H1 xs) (hp:H1 p=none) (hz:xs.length<sizeLine) (q:Nat->Bool)
  (step:∀ (i:Nat) x H ys (N:Bool->Hp->Prop),xs[i]?=some x->Same H1 H->H p=some (.lst ys)->(∀ H3,Same H H3->N (q i) H3)->tc ((blkσ 1 fr σ).set 0 (some x)) H N)
  (hd:∀ ys H,Same H1 H->H p=some (.lst ys)->((∀ i,i<xs.length->q i=false)->ys=[])->((∃ i,i<xs.length/\q i=true)->ys≠[])->(∀ y∈ys,y∈xs)->D H):lcI 1 fr (P9 0) tc (a4T 0) σ J H1 p D:=by
 refine ⟨λ i m ys H=>m=xs.length - i/\i<=xs.length/\Same H1 H/\H p=some (.lst ys)/\ys.length<=i/\((∀ j,j<i->q j=false)->ys=[])/\((∃ j,j<i/\q j=true)->ys≠[])/\∀ y∈ys,y∈xs,
  ⟨xs.length,by simp,Nat.zero_le _,Same.new hp _,upd_same,Nat.le_refl _,λ _=>rfl,λ ⟨j,hj,_⟩=>absurd hj (Nat.not_lt_zero _),λ y hy=>by cases hy⟩,?_⟩
 rintro i m ys H ⟨rfl,hi,e,hH,hl,h0,h1,hm⟩
 by_cases hlt:i<xs.length
 ·refine .inr ⟨hJ.go i _ e hlt,λ x H' y=>?_⟩
  obtain ⟨rfl,hx⟩:=hJ.yld i _ x H' e hlt y;refine ⟨Wk.set (by decide),?_⟩;refine step i x _ ys _ hx e hH λ H3 s3=>?_
  cases hq:q i with
  | false =>
   rw [if_neg Bool.false_ne_true];refine ⟨xs.length - (i+1),by omega,rfl,hlt,e.trans s3,s3 _ _ hH,by omega,λ z=>h0 λ j hj=>z j (by omega),λ ⟨j,hj,z⟩=>h1 ⟨j,?_,z⟩,hm⟩
   by_cases hji:j=i
   ·subst hji; rw [hq] at z; cases z
   ·omega
  | true =>
   rw [if_pos rfl];refine ⟨x,?_,s3 _ _ hH,by omega,xs.length - (i+1),by omega,rfl,hlt,(e.trans s3).write hp,upd_same,by rw [List.length_append,List.length_singleton]; omega,λ z=>?_,λ _ z=>?_,λ y hy=>?_⟩
   ·show ((blkσ 1 fr σ).set 0 (some x))[0]?=some (some x)
    rw [List.getElem?_set_self (by simp [blkσ])]
   ·have:=z i (by omega); rw [hq] at this; cases this
   ·simp at z
   ·rcases List.mem_append.mp hy with z | z
    ·exact hm y z
    ·rw [List.mem_singleton.mp z]; exact List.mem_of_getElem? hx
 ·have:i=xs.length:=by omega
  subst this;exact .inl ⟨hJ.stop _ e,hd ys H e hH h0 h1 hm⟩
end
end L2
namespace L2
open PySem PySem.W
section
variable {prog:Program} {w:World} {A:Around} {E:Value->Shared->Prop} {s:Shared} {K:Frag} {x C D:Addr} {ox:Obj}
end
structure b1d (K:Frag) (D:Addr):Prop where
 ob:∃ nm q N bs bm hdct sn sub ab col dd k0 k1 k2 k3 k5,K.lookup D=some (excClassObj nm q D N bs bm hdct sn sub ab col dd k0 k1 k2 k3 k5 "ValueError.__new__")/\nsOkIn K N=true/\nsIn K N "__init__"=some none ∧
  tailIn K [.type "ValueError",.type "Exception",.type "BaseException",.type "object"] bm=true
 ga:findIn K (.ref D) "__getattribute__"=some (some (.builtin "BaseException.__getattribute__"))
 gn:findIn K (.ref D) "__getattr__"=some none
 ca:findIn K (.ref D) "__class__"=some (some (.builtin "object.__class__"))
 mo:mroIn K D (.type "object")=some true
 mb:mroIn K D (.type "BaseException")=some true
end L2
namespace L2
open PySem PySem.Spec PyProof.Rows
theorem ObjOk.got {P:Program} {w:World} {H:Hp} {h:Heap} {a:Addr} {o:HO} (x:ObjOk P w H h a o):∃ ob,h.get? a=some ob:=by
 cases o with
 | lst xs=>obtain ⟨_,_,_,_,e⟩:=x; exact ⟨_,e⟩
 | tup xs=>obtain ⟨_,_,_,ob,e,_⟩:=x; exact ⟨ob,e⟩
 | dK kvs=>obtain ⟨_,_,_,_,ob,_,_,e,_⟩:=x; exact ⟨ob,e⟩
 | dT kvs=>obtain ⟨_,_,_,_,ob,_,_,e,_⟩:=x; exact ⟨ob,e⟩
 | set S n=>obtain ⟨ob,_,_,_,e,_⟩:=x; exact ⟨ob,e⟩
 | ins C dx fs=>obtain ⟨_,_,_,e,_⟩:=x; exact ⟨_,e⟩
 | own y=>exact x
 | xd fs=>obtain ⟨_,⟨ob,_,_,e,_⟩,_⟩:=x; exact ⟨ob,e⟩
 | rng lo hi=>obtain ⟨_,_,_,e⟩:=x; exact ⟨_,e⟩
 | frz ob u=>obtain ⟨e,_⟩:=x; exact ⟨_,e⟩
 | tbl ps=>exact ⟨_,(show h.get? a=some _ from x)⟩
 | met f y=>exact ⟨_,(show h.get? a=some _ from x)⟩
 | ext φ=>obtain ⟨_,e,_⟩:=x; exact e
theorem Un.slots {fs ex:List Addr} {H0 H':Hp} {h0 h1 h2:Heap} (u:Un fs ex H0 H' h0 h1) (hb:∀ b o,h1.get? b=some o->(∃ o0,h0.get? b=some o0)->b ∉ fs->h2.get? b=some o)
  (hf:∀ b∈fs,∀ o,h1.get? b=some o->∃ sl,h2.get? b=some { o with slots:=sl }):Un fs ex H0 H' h0 h2 where
 keep:=λ b o q n hfs hx=>hb b o (u.keep b o q n hfs hx) ⟨o,q⟩ hfs
 slot:=λ b o q n hfs hx=>by
  obtain ⟨sl,e⟩:=u.slot b o q n hfs hx;obtain ⟨sl',e'⟩:=hf b hfs _ e;exact ⟨sl',e'⟩
 free:=u.free
 there:=λ b o q hx=>by
  obtain ⟨o',e⟩:=u.there b o q hx
  by_cases hm:b∈fs
  ·obtain ⟨sl,e'⟩:=hf b hm _ e; exact ⟨_,e'⟩
  ·exact ⟨_,hb b o' e ⟨o,q⟩ hm⟩
 tups:=u.tups
 frzs:=u.frzs
 tbls:=u.tbls
theorem HOk.slots {P:Program} {w:World} {H:Hp} {h h':Heap} (x:HOk P w H h) (k:∀ b u o,H b=some u->h.get? b=some o->h'.get? b=some o):HOk P w H h':=λ a o e =>
 (x a o e).stay (λ b u hb q=>by
  rcases hb with rfl | hb
  ·exact k b o u e q
  ·exact k b _ u hb q) (λ _ q=>q) λ _ _ q=>q
structure Fly (P:Program) (w:World) (l:List Env) (H:Hp) (s:Shared) (ea t D:Addr) (B:Heap) (H':Hp) (s':Shared):Prop where
 os:s'.os=s.os
 bare:AllBare s'.gens
 un:Un (frs l) [] H H' s.heap s'.heap
 hok:HOk P w H' s'.heap
 fly:Heap.FlyingW B l ea (.ref D) (.ref t) s'.heap
 inb:∀ b o,s'.heap.get? b=some o->((∃ o0,s.heap.get? b=some o0)/\b ∉ frs l)\/H' b≠none->B.get? b=some o
def CX1 (P:Program) (w:World):CXT:=λ l H s E e s'=>∃ (ea t D:Addr) (B:Heap) (H':Hp),e=.ref ea/\Fly P w l H s ea t D B H' s'/\E (.ref D) none H'
section
variable {P:Program} {w:World} {l:List Env} {H:Hp} {s s':Shared} {ea t D:Addr} {B h':Heap} {H':Hp}
theorem Fly.inv {X:Cx} {pins:List (Addr×Obj)} {σ:St} (I:Inv X pins σ H s) (F:Fly X.prog X.w X.stack H s ea t D B H' s'):Inv X pins σ H' s' :=
 I.call' F.os F.un F.hok F.bare (λ b z=>absurd z (by simp))
end
section
variable {P:Program} {w:World} {K:W.Frag} {mg:Str->Option Value} {base:Heap} {N:List Str} {qual:Str} {scope:Scope} {f:Addr} {cd:Value} {A:Around} {outer:List Env} {s₀:Shared} {H₀:Hp} {E:XK}
theorem a0F {b:Addr} {o:Obj} {X:Cx} {pins:List (Addr×Obj)} {σ:St} {H:Hp} {s:Shared} (I:Inv X pins σ H s) (e:X.s₀.heap.get? b=some o) (hb:b ∉ frs X.outer):b ∉ frs X.stack:=λ z=>by
 rcases List.mem_cons.mp (I.stkSub b z) with q | q
 ·have:=Nat.lt_of_lt_of_le (Heap.lt_size e) I.ok.above
  rw [q] at this;exact Nat.lt_irrefl _ this
 ·exact hb q
theorem a6k:U5 (CX1 P w) (G9 (CX1 P w) P w K mg base N qual scope f cd A outer s₀ H₀ E) E:=by
 intro pins σ H s e s' I h;obtain ⟨ea,t,D,B,H',rfl,F,hE⟩:=h;have I':=F.inv I;refine wpAny_leaves_onW I.ok.frames rfl F.fly λ h' fl up=>?_;have st:∀ b o,B.get? b=some o->h'.get? b=some o:=fl.1;have bin:∀ b o,s'.heap.get? b=some o->(∃ o0,s₀.heap.get? b=some o0)->b ∉ frs outer->B.get? b=some o:=λ b o q ⟨o0,z⟩ hn=>by
  obtain ⟨o1,q1⟩:=I.base.there b o0 z (by show b ∉ ([]:List Addr); simp);exact F.inb b o q (.inl ⟨⟨o1,q1⟩,a0F I z hn⟩)
 refine ⟨ea,t,D,B,H',rfl,⟨I'.os,F.bare,I'.base.slots (λ b o q z hn=>st b o (bin b o q z hn)) (λ b hb o q=>?_),F.hok.slots (λ b u o e q=>st b o (F.inb b o q (.inr (by rw [e]; simp)))),fl,λ b o q z=>?_⟩,hE⟩
 ·obtain ⟨_,o',ho',hd⟩:=F.fly.2.2.1.2.2.mem hb
  rw [q] at ho'; cases ho';exact up b o q hd
 ·have:∃ o1,s'.heap.get? b=some o1/\B.get? b=some o1:=by
   rcases z with ⟨⟨o0,z⟩,hn⟩ | z
   ·obtain ⟨o1,q1⟩:=I'.base.there b o0 z (by show b ∉ ([]:List Addr); simp)
    exact ⟨o1,q1,bin b o1 q1 ⟨o0,z⟩ hn⟩
   ·cases e:H' b with
    | none=>exact absurd e z
    | some u =>
     obtain ⟨o1,q1⟩:=(F.hok b u e).got;exact ⟨o1,q1,F.inb b o1 q1 (.inr z)⟩
  obtain ⟨o1,_,b1⟩:=this;have:=st b o1 b1;rw [show h'.get? b=some o from q] at this
  cases this;exact b1
theorem b2S {pins:List (Addr×Obj)} {σ:St} {H:Hp} {s:Shared} {h1:Heap} {ea D:Addr} {vs:List Value} (I:Inv (G9 (CX1 P w) P w K mg base N qual scope f cd A outer s₀ H₀ E) pins σ H s) (hx:Heap.MadeExcOf s.heap h1 ea (.ref D) vs)
  (hE:E (.ref D) none H):(G9 (CX1 P w) P w K mg base N qual scope f cd A outer s₀ H₀ E).xe (.ref ea) { s with heap:=h1 }:=by
 have hin:∀ env∈(envOfC qual scope s₀.heap.objs.size f cd::outer),∀ b,env.frame=some b->b∈frs (envOfC qual scope s₀.heap.objs.size f cd::outer):=λ env he b hb=>List.mem_filterMap.mpr ⟨env,he,hb⟩;refine wpAny_leaves_madeW (base:=W.hideAll s.heap (frs (envOfC qual scope s₀.heap.objs.size f cd::outer))) (h:=s.heap) I.ok.frames rfl (λ b o q=>W.of_hideAll _ q) (W.funFrames_hide I.stack hin) hx λ h' t fl _ _ up=>?_;have st:∀ b o,s.heap.get? b=some o->b ∉ frs (envOfC qual scope s₀.heap.objs.size f cd::outer)->h'.get? b=some o:=λ b o q hn=>fl.1 b o (W.hideAll_get _ q hn);have trn:∀ b u,H b=some u->b ∉ frs (envOfC qual scope s₀.heap.objs.size f cd::outer):=λ b u e z=>by
  have:=I.stkFree b z;rw [e] at this; cases this
 refine ⟨ea,t,D,_,H,rfl,⟨I.os,I.bare,I.base.slots (λ b o q ⟨o0,z⟩ hn=>st b o q (a0F I z hn)) (λ b hb o q=>?_),I.hok.slots (λ b u o e q=>st b o q (trn b u e)),fl,λ b o q z=>?_⟩,hE⟩
 ·obtain ⟨_,o',ho',hd⟩:=I.funs.mem hb
  rw [q] at ho'; cases ho';exact up b o (hx.keeps b o q) hd
 ·have:∃ o1,s.heap.get? b=some o1/\b ∉ frs (envOfC qual scope s₀.heap.objs.size f cd::outer):=by
   rcases z with ⟨⟨o0,z⟩,hn⟩ | z
   ·obtain ⟨o1,q1⟩:=I.base.there b o0 z (by show b ∉ ([]:List Addr); simp)
    exact ⟨o1,q1,a0F I z hn⟩
   ·cases e:H b with
    | none=>exact absurd e z
    | some u =>
     obtain ⟨o1,q1⟩:=(I.hok b u e).got;exact ⟨o1,q1,trn b u e⟩
  obtain ⟨o1,q1,hn⟩:=this;have:=st b o1 q1 hn;rw [show h'.get? b=some o from q] at this
  cases this;exact W.hideAll_get _ q1 hn
end
section
variable {X:Cx} {e:Expr} {te:TE} {a:Str} {j:Nat} {p1 p2 p3:Pos}
def tFs (te:TE):TE:=λ σ H Q=>te σ H λ v H1=>∃ i:Int,v=.int i/\i.natAbs.log2<1920/\∀ x,Q (.str x) H1
theorem a9p (he:PE X e te) (ha:a.length<=1000):PE X (.JoinedStr [.Constant (.str a) j p1,.FormattedValue e (-1) none p2] p3) (tFs te):=by
 intro pins s σ H Q I h;refine JoinedStr_many (joinParts_cons ?_);refine G5 (D3 pins s σ H (λ v H'=>v=.str a/\H'=H) I ⟨rfl,rfl⟩) λ u s1 ⟨v,H1,I1,r,hv,hH⟩=>?_;subst hv; subst hH;obtain ⟨tk,rfl⟩:=r;have e0:(Str.empty++a).length=a.length:=by rw [strLen_append]; show 0+a.length=a.length; omega
 refine ⟨by rw [e0]; exact Nat.le_trans ha (by decide),joinParts_cons (FormattedValue_plain ?_)⟩;refine G5 (he pins s1 σ H1 _ I1 h) λ u s2 ⟨v,H2,I2,r,i,hv,hi,q⟩=>?_;subst hv;obtain ⟨tk2,rfl⟩:=r;refine formatField_int_small hi ?_;have hl:(Str.empty++a++Str.ofString (toString i)).length<=sizeLine:=by
  rw [strLen_append,e0];have h1:=int_text_length_le (a:=i) (k:=1920) (by decide) hi;rw [PySem.ofString_length,sizeLine_eq];omega
 refine ⟨hl,joinParts_nil ?_ hl⟩;exact ⟨.str _,H2,(I2.tok _).tok _,⟨_,rfl⟩,q _⟩
end
section
variable {P:Program} {w:World} {K:W.Frag} {mg:Str->Option Value} {base:Heap} {N:List Str} {qual:Str} {scope:Scope} {f:Addr} {cd:Value} {A:Around} {outer:List Env} {s₀:Shared} {H₀:Hp} {E:XK}
 {x:Str} {D:Addr} {e:Expr} {t:TA} {np cpos pos:Pos}
def a7P (t:TA) (D:Addr) (E:XK):TS:=λ _ σ H=>t σ H λ vs H1=>vs.length<=1000/\E (.ref D) none H1
theorem a8R (k:b1d K D) (hg:Gl (G9 (CX1 P w) P w K mg base N qual scope f cd A outer s₀ H₀ E) x) (hm:mg x=some (.ref D)) (hh:A.handled=none)
  (ha:PA (G9 (CX1 P w) P w K mg base N qual scope f cd A outer s₀ H₀ E) [e] t)
  (he:starEach [e] (envOfC qual scope s₀.heap.objs.size f cd)=[(false,eval e (envOfC qual scope s₀.heap.objs.size f cd))]:=by rfl) (hdb:(x==("__debug__":Str))=false:=by decide) :
  PS (G9 (CX1 P w) P w K mg base N qual scope f cd A outer s₀ H₀ E) (.Raise (some (.Call (.Name x np) [e] [] cpos)) none pos) (a7P t D E):=by
 intro pins s σ H Dn I h;obtain ⟨nm,q,Na,bs,bm,hdct,sn,sub,ab,col,dd,k0,k1,k2,k3,k5,lk,ok,ni,tl⟩:=k.ob;have tb:∀ h:Heap,K.In h->OwnTail h [.type "ValueError",.type "Exception",.type "BaseException",.type "object"] bm:=λ h X=>W.tail_of_in X tl;have nsf:∀ h:Heap,K.In h->h.Ns Na (h.nsMap Na)/\h.nsMap Na "__init__"=none:=λ h X=>⟨.of_isNs (W.isNs_of_in X ok),W.nsMap_none_of_in X ok ni⟩;have hN0:=(nsf s.heap I.kIn).1;refine wpAny_Raise_call_subT (C:=D) (nm:=nm) (q:=q) (N:=Na) (bs:=bs) (bm:=bm) (hdct:=hdct) (sn:=sn) (sub:=sub) (ab:=ab) (col:=col) (dd:=dd) (k0:=k0) (k1:=k1) (k2:=k2) (k3:=k3) (k5:=k5) (newId:="ValueError.__new__")
  F.excBase_ValueError (mN:=base.nsMap Na) ((tb base I.mod.kin).hasType (by decide +kernel)) (by show (A.deeper _).handled=none; exact hh) (by rw [show starEach [e] (G9 (CX1 P w) P w K mg base N qual scope f cd A outer s₀ H₀ E).env=_ from he]; rfl)
  (nsf base I.mod.kin).2 (a1t I hg hm ⟨rfl,?_⟩ hdb)
 have h2:=ha cpos pins s σ H _ I h;rw [show starEach [e] (G9 (CX1 P w) P w K mg base N qual scope f cd A outer s₀ H₀ E).env=_ from he] at h2 ⊢;refine Calls.evalArgs_plain (wpAny_mono h2 (λ us s2 ⟨vs,H2,I2,r,hl,hE⟩=>⟨rfl,by rw [<- r.length]; exact Nat.le_of_lt (j8 hl),I2.kIn _ _ lk,(nsf base I.mod.kin).1.keeps I2.bk,tb _ I2.kIn,λ h' ea hx=>b2S I2 hx hE⟩) λ _ _ z=>z)
end
section
variable {X:Cx} {CX:CXT} {k:Nat} {f:Addr} {fd:FuncData} {ps:List Str} {sp:Sp} {EX:St->XK} {x:Str} {p pos:Pos} {e:Expr} {es:List Expr} {t:TA}
end
section
variable {X:Cx} {pins:List (Addr×Obj)} {σ:St} {H:Hp} {s:Shared} {ea:Addr}
end
section
variable {X:Cx} {x n:Str} {R:Addr} {i:Nat} {tb:(St->XK)->TS} {ts:TS} {body suite:List Stmt} {b₀:Stmt} {np hpos pos:Pos}
end
structure b2U (k:Nat) (A:Around):Prop where
 dp:A.depth+3*k+5<recursionLimit
 un:A.units+16*k+200<cLine
structure FnU (P:Program) (w:World) (K:W.Frag) (mg:Str->Option Value) (base:Heap) (k:Nat) (f:Addr) (fd:FuncData) (ps:List Str) (sp:Sp):Prop where
 len:∀ vs H Q E,sp vs H Q E->vs.length=ps.length
 run:∀ (A:Around) (outer:List Env) (s:Shared) (H:Hp) (args:Args) (us:List Value) (vs:List V) (Q:VK) (E:XK),b2U k A->Env0 P w K mg base A outer s H->BindsTo s fd args (ps.zip us)->Vals vs us->sp vs H Q E →
  codeAny (model P w) A (.call (.ref f) args) (CR G2 outer P w H s Q E) s
section
variable {P:Program} {w:World} {K:W.Frag} {mg:Str->Option Value} {base:Heap}
theorem Fun.ok1 {x qual:Str} {st:Stmt} {f:Addr} {fd:FuncData} {N ps:List Str} {k:Nat} {sp:Sp} (F:Fun K x qual st f fd) (S:r8 N ps (i3 st)) (len:∀ vs H Q E,sp vs H Q E->vs.length=ps.length)
  (hbody:∀ (cdv:Value) (A:Around) (outer:List Env) (s:Shared) (H:Hp) (vs:List V) (Q:VK) (E:XK),Room k (A.deeper (envOfC qual (i3 st) s.heap.objs.size f cdv))->sp vs H Q E →
   ∃ t,PSs (G9 (CX1 P w) P w K mg base N qual (i3 st) f cdv A outer s H E) (t9 st) t/\t { nx:=λ _ H'=>Q .non H',rt:=Q } (X5 N vs) H):FnOk P w K mg base (CX1 P w) (k+1) f fd ps sp:=by
 obtain ⟨oc,od,kV,doc,pm,an,cdv,ct,osl,rfl,lk,hcd⟩:=F.ex;exact a8J lk hcd S len λ A outer s H vs Q E hr hsp=>hbody cdv A outer s H vs Q E hr hsp
end
section
variable {X:Cx} {k:Nat} {f:Addr} {fd:FuncData} {ps:List Str} {sp:Sp} {x:Str} {p pos:Pos} {e:Expr} {es:List Expr} {t:TA}
end
section
variable {prog:Program} {w:World} {A:Around} {E:Value->Shared->Prop} {s:Shared}
theorem a9n {j tp:Addr} {i:Nat} {vs:Array Value} {x:Value} {Q:Value->Shared->Prop} (q1:IsTupIter s.heap j tp i) (q2:IsTup s.heap tp vs) (q3:vs[i]?=some x)
  (q:∀ h',IsTupIter h' j tp (i+1)->Heap.SameBut j s.heap h'->Q x { s with heap:=h' }):wpAny (model prog w) A (Builtin.SmallTypes.nextOf (.ref j)) Q E s:=by
 obtain ⟨oj,g1,g2,g3⟩:=id q1;obtain ⟨ot,g4,_,nt,g5⟩:=q2;unfold Builtin.SmallTypes.nextOf;refine wpAny_bind (wpAny_callSpecial?_slot (name:=Str.ofString "__next__") q1.typeIs slot_tupleiter_next (wpAny_call_entry slot_tupleiter_next q1.typeIs entry_tupleiter_next ?_ (args_tupleiter_next _)))
 show wpAny _ _ (field (.ref j) 0 >>= _) _ _ s
 refine wpAny_bind (wpAny_field g1 g3 (x:=.ref tp) rfl ?_)
 show wpAny _ _ (if (Value.ref tp==Value.none)=true then _ else _) _ _ s
 rw [if_neg (λ z=>by cases z)]
 show wpAny _ _ (field (.ref j) 1 >>= _) _ _ s
 refine wpAny_bind (wpAny_field g1 g3 (x:=.int i 0) rfl ?_)
 show wpAny _ _ (seqItems? (.ref tp) >>= _) _ _ s
 refine wpAny_bind (wpAny_seqItems g4 g5 ?_);simp only [Int.toNat_natCast,q3];refine wpAny_bind (wpAny_setField g1 g3 (by simp) (wpAny_pure ⟨x,rfl,wpAny_pure (q _ ?_ (Heap.SameBut.update ..))⟩));refine ⟨_,Heap.get?_update_self _ g1 (Obj.isFreed_of_fields (Obj.data_mapFields g3 _)),(Obj.cls_mapFields ..).trans g2,?_⟩;rw [Obj.data_mapFields g3];simp [rawInt]
theorem b2f {j tp:Addr} {i:Nat} {vs:Array Value} {Q:Value->Shared->Prop} (hh:A.handled=none) (q1:IsTupIter s.heap j tp i) (q2:IsTup s.heap tp vs) (q3:vs[i]?=none)
  (q:∀ h' e,Heap.ExtBut j s.heap h'->(∃ o,h'.get? e=some o/\o.cls=.type "StopIteration")->E (.ref e) { s with heap:=h' }):wpAny (model prog w) A (Builtin.SmallTypes.nextOf (.ref j)) Q E s:=by
 obtain ⟨oj,g1,g2,g3⟩:=id q1;obtain ⟨ot,g4,_,nt,g5⟩:=q2;unfold Builtin.SmallTypes.nextOf;refine wpAny_bind (wpAny_callSpecial?_slot (name:=Str.ofString "__next__") q1.typeIs slot_tupleiter_next (wpAny_call_entry slot_tupleiter_next q1.typeIs entry_tupleiter_next ?_ (args_tupleiter_next _)))
 show wpAny _ _ (field (.ref j) 0 >>= _) _ _ s
 refine wpAny_bind (wpAny_field g1 g3 (x:=.ref tp) rfl ?_)
 show wpAny _ _ (if (Value.ref tp==Value.none)=true then _ else _) _ _ s
 rw [if_neg (λ z=>by cases z)]
 show wpAny _ _ (field (.ref j) 1 >>= _) _ _ s
 refine wpAny_bind (wpAny_field g1 g3 (x:=.int i 0) rfl ?_)
 show wpAny _ _ (seqItems? (.ref tp) >>= _) _ _ s
 refine wpAny_bind (wpAny_seqItems g4 g5 ?_);simp only [Int.toNat_natCast,q3];refine wpAny_bind (wpAny_rule (wpAny_bind (wpAny_setField g1 g3 (by simp) ?_)))
 show wpAny _ _ (do let e <- newExc (.type "StopIteration") []; _) _ _ _
 simp only [newExc,newTuple];refine wpAny_bind (wpAny_bind (wpAny_newObj_type (wpAny_bind (m:=firstArgMember _ _) (wpAny_of_eq (a:=Value.none) (by first | rfl | (simp only [firstArgMember]; rfl)) (wpAny_newObj_type ?_ (by size_fits)))) (by size_fits)));simp only [raiseNew];refine wpAny_bind (wpAny_handled ?_);rw [show A.in1.handled=none from hh];exact wpAny_bind (wpAny_pure (wpAny_throw (q _ _ (((Heap.SameBut.update ..).extBut.push _).push _) ⟨_,Heap.get?_push_size _ rfl,rfl⟩)))
theorem IsTupIter.at' {h h':Heap} {a t:Addr} {i:Nat} (x:IsTupIter h a t i) (e:∀ o,h.get? a=some o->h'.get? a=some o):IsTupIter h' a t i:=let ⟨o,ho,r⟩:=x; ⟨o,e _ ho,r⟩
end
def IsB:Bool->Heap->Addr->Array Value->Prop
 | true,h,t,xs=>h.IsList t xs
 | false,h,t,xs=>IsTup h t xs
def ItB:Bool->Heap->Addr->Addr->Nat->Prop
 | true,h,j,t,k=>h.IsListIter j t k
 | false,h,j,t,k=>IsTupIter h j t k
def SqB:Bool->W.Frag->Hp->Addr->List V->Prop
 | true,K,H,a,xs=>SqL K H a xs
 | false,K,H,a,xs=>SqT K H a xs
def itN:Bool->String
 | true=>"list_iterator"
 | false=>"tuple_iterator"
section
variable {b:Bool} {h h':Heap} {j t c:Addr} {k:Nat} {xs:Array Value}
theorem ItB.at' (x:ItB b h j t k) (e:∀ o,h.get? j=some o->h'.get? j=some o):ItB b h' j t k:=by
 cases b
 ·exact IsTupIter.at' x e
 ·exact Heap.IsListIter.at x e
theorem ItB.extBut (x:ItB b h j t k) (hs:Heap.ExtBut c h h') (n:j≠c):ItB b h' j t k:=x.at' λ o e=>hs j o n e
theorem IsB.at' (x:IsB b h t xs) (e:∀ o,h.get? t=some o->h'.get? t=some o):IsB b h' t xs:=by
 cases b
 ·obtain ⟨o,ho,r⟩:=x; exact ⟨o,e o ho,r⟩
 ·obtain ⟨o,ho,r⟩:=x; exact ⟨o,e o ho,r⟩
theorem IsB.extBut (x:IsB b h t xs) (hs:Heap.ExtBut c h h') (n:t≠c):IsB b h' t xs:=x.at' λ o e=>hs t o n e
theorem IsB.push (x:IsB b h t xs) (o:Obj):IsB b (h.push o) t xs:=x.at' λ _ e=>Heap.get?_push_of_some _ e
theorem IsB.lt (x:IsB b h t xs):t<h.objs.size:=by
 cases b
 ·obtain ⟨o,ho,_⟩:=x; exact Heap.lt_size ho
 ·obtain ⟨o,ho,_⟩:=x; exact Heap.lt_size ho
theorem ItB.mk (e:h.get? j=some { cls:=.type (itN b),data:=.fields #[.ref t,.int 0 0] }):ItB b h j t 0:=by
 cases b
 ·exact ⟨_,e,rfl,rfl⟩
 ·exact ⟨_,e,rfl,rfl⟩
theorem ItB.obj (x:ItB b h j t k):∃ o,h.get? j=some o/\∃ vs,o.data=.fields vs:=by
 cases b
 ·obtain ⟨o,ho,_,d⟩:=x; exact ⟨o,ho,_,d⟩
 ·obtain ⟨o,ho,_,d⟩:=x; exact ⟨o,ho,_,d⟩
theorem Same.sqB {K:W.Frag} {H H':Hp} {a:Addr} {ys:List V} (e:Same H H') (x:SqB b K H a ys):SqB b K H' a ys:=by
 cases b
 ·exact e.tseq x
 ·exact e.seq x
theorem Inv.sqB {X:Cx} {pins:List (Addr×Obj)} {σ:St} {H:Hp} {s:Shared} {a:Addr} {ys:List V} (I:Inv X pins σ H s) (x:SqB b X.K H a ys):∃ its:List Value,Vals ys its/\IsB b s.heap a its.toArray/\ys.length<=sizeLine:=by
 cases b
 ·exact I.tuple x
 ·obtain ⟨i,r,p,z⟩:=I.list x
  exact ⟨i,r,p.isList,z⟩
theorem Inv.sqB_inj {X:Cx} {pins:List (Addr×Obj)} {σ:St} {H:Hp} {s:Shared} {a:Addr} {ys zs:List V} (I:Inv X pins σ H s) (x:SqB b X.K H a ys) (y:SqB b X.K H a zs):ys=zs:=by
 cases b
 ·exact I.tuple_inj x y
 ·exact I.list_inj x y
end
section
variable {prog:Program} {w:World} {A:Around} {E:Value->Shared->Prop} {s:Shared}
theorem a1P {b:Bool} {j tp:Addr} {i:Nat} {vs:Array Value} {x:Value} {Q:Value->Shared->Prop} (q1:ItB b s.heap j tp i) (q2:IsB b s.heap tp vs) (q3:vs[i]?=some x)
  (q:∀ h',ItB b h' j tp (i+1)->Heap.SameBut j s.heap h'->Q x { s with heap:=h' }):wpAny (model prog w) A (Builtin.SmallTypes.nextOf (.ref j)) Q E s:=by
 cases b
 ·exact a9n q1 q2 q3 q
 ·exact wpAny_nextOf_list_item q1 q2 q3 q
theorem a5G {b:Bool} {j tp:Addr} {i:Nat} {vs:Array Value} {Q:Value->Shared->Prop} (hh:A.handled=none) (q1:ItB b s.heap j tp i) (q2:IsB b s.heap tp vs) (q3:vs[i]?=none)
  (q:∀ h' e,Heap.ExtBut j s.heap h'->(∃ o,h'.get? e=some o/\o.cls=.type "StopIteration")->E (.ref e) { s with heap:=h' }):wpAny (model prog w) A (Builtin.SmallTypes.nextOf (.ref j)) Q E s:=by
 cases b
 ·exact b2f hh q1 q2 q3 q
 ·exact wpAny_nextOf_list_end hh q1 q2 q3 q
theorem b0P {b:Bool} {t:Addr} {xs:Array Value} {Q:Value->Shared->Prop} (m:IsB b s.heap t xs) (h:Q (.ref s.heap.objs.size) { s with heap:=s.heap.push { cls:=.type (itN b),data:=.fields #[.ref t,.int 0 0] } }):wpAny (model prog w) A (pyIter (.ref t)) Q E s:=by
 cases b
 ·exact iter_tuple m h
 ·exact wpAny_pyIter_list m h
theorem a9I {b1 b2:Bool} {z ti to j1 j2 t1 t2:Addr} {k1 k2:Nat} {xs ys:Array Value} {x y a b:Value} {Q:Value->Shared->Prop} (D:ZipApart z ti to j1 j2 t1 t2)
  (q0:IsZip s.heap z ti to .none) (p1:IsPair s.heap ti (.ref j1) (.ref j2)) (p2:IsPair s.heap to a b)
  (i1:ItB b1 s.heap j1 t1 k1) (i2:ItB b2 s.heap j2 t2 k2) (l1:IsB b1 s.heap t1 xs) (l2:IsB b2 s.heap t2 ys) (ex:xs[k1]?=some x) (ey:ys[k2]?=some y)
  (q:∀ h',IsZip h' z ti to (rawInt s.heap.objs.size)->IsPair h' to x y->ItB b1 h' j1 t1 (k1+1)->ItB b2 h' j2 t2 (k2+1)->IsPair h' s.heap.objs.size x y →
   (∀ c o,c≠z->c≠to->c≠j1->c≠j2->s.heap.get? c=some o->h'.get? c=some o)->Q (.ref s.heap.objs.size) { s with heap:=h' }) :
  wpAny (model prog w) A (Builtin.«zip.__next__» ⟨[.ref z],[]⟩) (λ fin s'=>∃ v,fin=.done (.ret v)/\Q v s') E s:=by
 show wpAny _ _ (field (.ref z) 2 >>= _) _ _ _
 refine wpAny_bind (wpAny_field q0 rfl (x:=.bool false) rfl (show wpAny _ _ (field (.ref z) 3 >>= _) _ _ _ from wpAny_bind (wpAny_field q0 rfl (x:=.ref ti) rfl (wpAny_bind (wpAny_seqItems p1 rfl ?_)))))
 show wpAny _ _ (do let free <- Builtin.SmallTypes.ownedTupleIsFree (.ref z); _) _ _ _
 unfold Builtin.SmallTypes.ownedTupleIsFree;refine wpAny_bind (wpAny_bind (wpAny_field q0 rfl (x:=.none) rfl (wpAny_pure ?_)));simp only [if_true];refine wpAny_bind (wpAny_rule (wpAny_bind (wpAny_field q0 rfl (x:=.ref to) rfl (wpAny_bind (wpAny_setField_rec q0 (by simp) λ u1 z1 s1=>?_)))));have z1':IsZip u1 z ti to .ellipsis:=z1;refine wpAny_bind ?_;simp only [List.zipIdx_cons,List.zipIdx_nil,List.forIn_cons,List.forIn_nil];refine wpAny_bind (wpAny_bind (wpAny_onRaise (show wpAny _ _ (Builtin.SmallTypes.nextOf (.ref j1) >>= _) _ _ _ from wpAny_bind (a1P (i1.extBut s1.extBut D.i1z) (l1.extBut s1.extBut D.l1z) ex λ u2 j1' s2=>wpAny_pure ?_))));have to2:IsPair u2 to a b:=s2.extBut _ _ D.TOi1 (s1.extBut _ _ D.TOz p2);refine wpAny_bind (wpAny_seqItems to2 rfl (wpAny_bind (wpAny_updateSeq_pair to2 λ u3 to3 s3=>wpAny_bind (wpAny_letGo (wpAny_pure ?_)))));have to3':IsPair u3 to x b:=to3;refine wpAny_bind (wpAny_bind (wpAny_onRaise (show wpAny _ _ (Builtin.SmallTypes.nextOf (.ref j2) >>= _) _ _ _ from wpAny_bind (a1P (((i2.extBut s1.extBut D.i2z).extBut s2.extBut D.i12.symm).extBut s3.extBut D.TOi2.symm)
  (((l2.extBut s1.extBut D.l2z).extBut s2.extBut D.l2i1).extBut s3.extBut D.l2TO) ey λ u4 j2' s4=>wpAny_pure ?_))))
 have to4:IsPair u4 to x b:=s4.extBut _ _ D.TOi2 to3';refine wpAny_bind (wpAny_seqItems to4 rfl (wpAny_bind (wpAny_updateSeq_pair to4 λ u5 to5 s5=>wpAny_bind (wpAny_letGo (wpAny_pure (wpAny_pure ?_))))));have to5':IsPair u5 to x y:=to5;refine wpAny_bind (wpAny_seqItems to5' rfl (wpAny_bind (wpAny_newTuple ?_)));have sz:u5.objs.size=s.heap.objs.size:=by rw [s5.1,s4.1,s3.1,s2.1,s1.1]
 have z5:IsZip u5 z ti to .ellipsis:=s5.extBut _ _ D.TOz.symm (s4.extBut _ _ D.i2z.symm (s3.extBut _ _ D.TOz.symm (s2.extBut _ _ D.i1z.symm z1')));have kp:∀ c o,c≠z->c≠to->c≠j1->c≠j2->s.heap.get? c=some o->u5.get? c=some o:=λ c o n1 n2 n3 n4 e=>s5.extBut _ _ n2 (s4.extBut _ _ n4 (s3.extBut _ _ n2 (s2.extBut _ _ n3 (s1.extBut _ _ n1 e))));have a1:ItB b1 u5 j1 t1 (k1+1):=((j1'.extBut s3.extBut D.TOi1.symm).extBut s4.extBut D.i12).extBut s5.extBut D.TOi1.symm;have a2:ItB b2 u5 j2 t2 (k2+1):=j2'.extBut s5.extBut D.TOi2.symm;have zl:z<u5.objs.size:=Heap.lt_size z5
 show wpAny _ _ (do let r <- Builtin.SmallTypes.ownedTupleHandOut (.ref z) (.ref u5.objs.size); _) _ _ _
 unfold Builtin.SmallTypes.ownedTupleHandOut;have z6:IsZip (u5.push { cls:=.type "tuple",data:=.seq #[x,y] }) z ti to .ellipsis:=Heap.get?_push_of_some _ z5;refine wpAny_bind (wpAny_bind (wpAny_setField_rec z6 (by simp) λ u7 z7 s7=>?_));have z7':IsZip u7 z ti to (rawInt u5.objs.size):=z7;refine wpAny_setField_rec z7' (by simp) λ u8 z8 s8=>?_;have z8':IsZip u8 z ti to (rawInt u5.objs.size):=z8;have up:∀ c o,c≠z->u5.get? c=some o->u8.get? c=some o:=λ c o n1 e=>s8.extBut _ _ n1 (s7.extBut _ _ n1 (Heap.get?_push_of_some _ e));have nt8:IsPair u8 u5.objs.size x y:=s8.extBut _ _ (Nat.ne_of_gt zl) (s7.extBut _ _ (Nat.ne_of_gt zl) (Heap.get?_push_size _ rfl));rw [sz] at z8' nt8;refine wpAny_pure ⟨_,rfl,?_⟩
 show Q (.ref u5.objs.size) _
 rw [sz];exact q u8 z8' (up _ _ D.TOz to5') (ItB.at' a1 λ o e=>up _ o D.i1z e) (ItB.at' a2 λ o e=>up _ o D.i2z e) nt8 λ c o n1 n2 n3 n4 e=>up c o n1 (kp c o n1 n2 n3 n4 e)
theorem b1s {b1 b2:Bool} {z ti to j1 j2 t1 t2:Addr} {k1 k2:Nat} {xs ys:Array Value} {a b:Value} {Q:PySem.Fin->Shared->Prop} (hh:A.handled=none) (D:ZipApart z ti to j1 j2 t1 t2)
  (q0:IsZip s.heap z ti to .none) (p1:IsPair s.heap ti (.ref j1) (.ref j2)) (p2:IsPair s.heap to a b)
  (i1:ItB b1 s.heap j1 t1 k1) (i2:ItB b2 s.heap j2 t2 k2) (l1:IsB b1 s.heap t1 xs) (l2:IsB b2 s.heap t2 ys) (en:xs[k1]?=none\/ys[k2]?=none)
  (q:∀ h' e,(∀ c o,c≠z->c≠to->c≠j1->c≠j2->s.heap.get? c=some o->h'.get? c=some o)->(∃ o,h'.get? e=some o/\o.cls=.type "StopIteration")->E (.ref e) { s with heap:=h' }) :
  wpAny (model prog w) A (Builtin.«zip.__next__» ⟨[.ref z],[]⟩) Q E s:=by
 show wpAny _ _ (field (.ref z) 2 >>= _) _ _ _
 refine wpAny_bind (wpAny_field q0 rfl (x:=.bool false) rfl (show wpAny _ _ (field (.ref z) 3 >>= _) _ _ _ from wpAny_bind (wpAny_field q0 rfl (x:=.ref ti) rfl (wpAny_bind (wpAny_seqItems p1 rfl ?_)))))
 show wpAny _ _ (do let free <- Builtin.SmallTypes.ownedTupleIsFree (.ref z); _) _ _ _
 unfold Builtin.SmallTypes.ownedTupleIsFree;refine wpAny_bind (wpAny_bind (wpAny_field q0 rfl (x:=.none) rfl (wpAny_pure ?_)));simp only [if_true];refine wpAny_bind (wpAny_rule (wpAny_bind (wpAny_field q0 rfl (x:=.ref to) rfl (wpAny_bind (wpAny_setField_rec q0 (by simp) λ u1 z1 s1=>?_)))));have z1':IsZip u1 z ti to .ellipsis:=z1;refine wpAny_bind ?_;simp only [List.zipIdx_cons,List.zipIdx_nil,List.forIn_cons,List.forIn_nil]
 cases ex:xs[k1]? with
 | none =>
  refine wpAny_bind (wpAny_bind (wpAny_onRaise (show wpAny _ _ (Builtin.SmallTypes.nextOf (.ref j1) >>= _) _ _ _ from wpAny_bind (a5G hh (i1.extBut s1.extBut D.i1z) (l1.extBut s1.extBut D.l1z) ex λ u2 e s2 ⟨oe,e1,e2⟩=>?_))));have z2:IsZip u2 z ti to .ellipsis:=s2 _ _ D.i1z.symm z1';have ne:e≠z:=λ c=>by subst c; rw [z2] at e1; cases e1; simp at e2
  exact wpAny_setField_rec z2 (by simp) λ u3 _ s3=>q u3 e (λ c o n1 _ n3 _ m=>s3.extBut _ _ n1 (s2 _ _ n3 (s1.extBut _ _ n1 m))) ⟨oe,s3.extBut _ _ ne e1,e2⟩
 | some x =>
  have ey:ys[k2]?=none:=by
   rcases en with m | m
   ·rw [ex] at m; cases m
   ·exact m
  refine wpAny_bind (wpAny_bind (wpAny_onRaise (show wpAny _ _ (Builtin.SmallTypes.nextOf (.ref j1) >>= _) _ _ _ from wpAny_bind (a1P (i1.extBut s1.extBut D.i1z) (l1.extBut s1.extBut D.l1z) ex λ u2 j1' s2=>wpAny_pure ?_))));have to2:IsPair u2 to a b:=s2.extBut _ _ D.TOi1 (s1.extBut _ _ D.TOz p2);refine wpAny_bind (wpAny_seqItems to2 rfl (wpAny_bind (wpAny_updateSeq_pair to2 λ u3 to3 s3=>wpAny_bind (wpAny_letGo (wpAny_pure ?_)))));refine wpAny_bind (wpAny_bind (wpAny_onRaise (show wpAny _ _ (Builtin.SmallTypes.nextOf (.ref j2) >>= _) _ _ _ from wpAny_bind (a5G hh (((i2.extBut s1.extBut D.i2z).extBut s2.extBut D.i12.symm).extBut s3.extBut D.TOi2.symm)
   (((l2.extBut s1.extBut D.l2z).extBut s2.extBut D.l2i1).extBut s3.extBut D.l2TO) ey λ u4 e s4 ⟨oe,e1,e2⟩=>?_))))
  have z4:IsZip u4 z ti to .ellipsis:=s4 _ _ D.i2z.symm (s3.extBut _ _ D.TOz.symm (s2.extBut _ _ D.i1z.symm z1'));have ne:e≠z:=λ c=>by subst c; rw [z4] at e1; cases e1; simp at e2
  exact wpAny_setField_rec z4 (by simp) λ u5 _ s5=>q u5 e (λ c o n1 n2 n3 n4 m=>s5.extBut _ _ n1 (s4 _ _ n4 (s3.extBut _ _ n2 (s2.extBut _ _ n3 (s1.extBut _ _ n1 m))))) ⟨oe,s5.extBut _ _ ne e1,e2⟩
theorem a9L {b1 b2:Bool} {z ti to j1 j2 t1 t2:Addr} {k1 k2:Nat} {xs ys:Array Value} {x y a b:Value} {Q:Option Value->Shared->Prop} (D:ZipApart z ti to j1 j2 t1 t2)
  (q0:IsZip s.heap z ti to .none) (p1:IsPair s.heap ti (.ref j1) (.ref j2)) (p2:IsPair s.heap to a b)
  (i1:ItB b1 s.heap j1 t1 k1) (i2:ItB b2 s.heap j2 t2 k2) (l1:IsB b1 s.heap t1 xs) (l2:IsB b2 s.heap t2 ys) (ex:xs[k1]?=some x) (ey:ys[k2]?=some y)
  (q:∀ h',IsZip h' z ti to (rawInt s.heap.objs.size)->IsPair h' to x y->ItB b1 h' j1 t1 (k1+1)->ItB b2 h' j2 t2 (k2+1)->IsPair h' s.heap.objs.size x y →
   (∀ c o,c≠z->c≠to->c≠j1->c≠j2->s.heap.get? c=some o->h'.get? c=some o)->Q (some (.ref s.heap.objs.size)) { s with heap:=h' }) :
  wpAny (model prog w) A (pyNext (.ref z)) Q E s:=by
 have ty:s.TypeIs (.ref z) "zip":=⟨_,q0,rfl⟩;unfold pyNext;exact wpAny_bind (wpAny_attempt (wpAny_callSpecial?_slot (name:=Str.ofString "__next__") ty F.slot_zip_next (wpAny_call_entry F.slot_zip_next ty F.entry_zip_next
  (a9I D q0 p1 p2 i1 i2 l1 l2 ex ey λ h' b1 b2 b3 b4 b5 b6=>wpAny_pure (q h' b1 b2 b3 b4 b5 b6)) (F.args_zip_next_1 _))))
theorem b0a {b1 b2:Bool} {z ti to j1 j2 t1 t2:Addr} {k1 k2:Nat} {xs ys:Array Value} {a b:Value} {Q:Option Value->Shared->Prop} (hh:A.handled=none) (D:ZipApart z ti to j1 j2 t1 t2)
  (q0:IsZip s.heap z ti to .none) (p1:IsPair s.heap ti (.ref j1) (.ref j2)) (p2:IsPair s.heap to a b)
  (i1:ItB b1 s.heap j1 t1 k1) (i2:ItB b2 s.heap j2 t2 k2) (l1:IsB b1 s.heap t1 xs) (l2:IsB b2 s.heap t2 ys) (en:xs[k1]?=none\/ys[k2]?=none)
  (q:∀ h',(∀ c o,c≠z->c≠to->c≠j1->c≠j2->s.heap.get? c=some o->h'.get? c=some o)->Q none { s with heap:=h' }):wpAny (model prog w) A (pyNext (.ref z)) Q E s:=by
 have ty:s.TypeIs (.ref z) "zip":=⟨_,q0,rfl⟩;unfold pyNext;refine wpAny_bind (wpAny_attempt (wpAny_callSpecial?_slot (name:=Str.ofString "__next__") ty F.slot_zip_next (wpAny_call_entry F.slot_zip_next ty F.entry_zip_next
  (b1s hh D q0 p1 p2 i1 i2 l1 l2 en λ h' e kp ⟨o,e1,e2⟩=>wpAny_bind (wpAny_isInstance (T:="StopIteration") (b:=true) ⟨o,e1,e2⟩ isSubtype_stop (wpAny_pure (q _ kp)))) (F.args_zip_next_1 _))))
end
abbrev zg1 (b1:Bool) (h:Heap) (t1:Addr):Heap:=h.push { cls:=.type (itN b1),data:=.fields #[.ref t1,.int 0 0] }
abbrev zg2 (b1 b2:Bool) (h:Heap) (t1 t2:Addr):Heap:=(zg1 b1 h t1).push { cls:=.type (itN b2),data:=.fields #[.ref t2,.int 0 0] }
abbrev zg3 (b1 b2:Bool) (h:Heap) (t1 t2:Addr):Heap:=(zg2 b1 b2 h t1 t2).push { cls:=.type "tuple",data:=.seq #[.ref h.objs.size,.ref (zg1 b1 h t1).objs.size] }
abbrev zg4 (b1 b2:Bool) (h:Heap) (t1 t2:Addr):Heap:=(zg3 b1 b2 h t1 t2).push { cls:=.type "tuple",data:=.seq #[.none,.none] }
abbrev zg5 (b1 b2:Bool) (h:Heap) (t1 t2:Addr):Heap:=(zg4 b1 b2 h t1 t2).push { cls:=.type "zip",data:=.fields #[.none,.bool false,.bool false,.ref (zg2 b1 b2 h t1 t2).objs.size,.ref (zg3 b1 b2 h t1 t2).objs.size] }
theorem b2d (b1 b2:Bool) (t1 t2:Addr) (xs ys:Array Value) :
  Meets (Builtin.«zip.__new__» ⟨[.type "zip",.ref t1,.ref t2],[]⟩) (λ _ R s=>IsB b1 s.heap t1 xs/\IsB b2 s.heap t2 ys/\R (.ok (.ret (.ref (zg4 b1 b2 s.heap t1 t2).objs.size))) { s with heap:=zg5 b1 b2 s.heap t1 t2 }) :=
 .of_wp λ prog w A R s h=>by
  obtain ⟨hp,g,d,tk,os⟩:=s;obtain ⟨e1,e2,h⟩:=h;have hsub:=sub_zip;have m1:IsB b1 (Shared.heap ⟨hp,g,d,tk,os⟩) t1 xs:=e1;have m2:IsB b2 (Shared.heap ⟨hp.push { cls:=.type (itN b1),data:=.fields #[.ref t1,.int 0 0] },g,d,tk,os⟩) t2 ys:=IsB.push e2 _
  wp_walk using b0P m1,b0P m2
  exact ⟨_,rfl,h⟩
section
variable {prog:Program} {w:World} {A:Around} {E:Value->Shared->Prop} {s:Shared}
theorem b0v {b1 b2:Bool} {t1 t2:Addr} {xs ys:Array Value} {Q:Value->Shared->Prop} (l1:IsB b1 s.heap t1 xs) (l2:IsB b2 s.heap t2 ys)
  (q:∀ h',IsZip h' (s.heap.objs.size+4) (s.heap.objs.size+2) (s.heap.objs.size+3) .none->IsPair h' (s.heap.objs.size+2) (.ref s.heap.objs.size) (.ref (s.heap.objs.size+1))->IsPair h' (s.heap.objs.size+3) .none .none →
   ItB b1 h' s.heap.objs.size t1 0->ItB b2 h' (s.heap.objs.size+1) t2 0->(∀ c o,s.heap.get? c=some o->h'.get? c=some o)->Q (.ref (s.heap.objs.size+4)) { s with heap:=h' }) :
  wpAny (model prog w) A (call (.type "zip") [.ref t1,.ref t2]) Q E s:=by
 refine callType_new F.called_zip (by decide) (F.typeCall_zip_2 _ _) (F.newCall_zip_2 _ _) (λ ob=>F.args_object_init_3 ob _ _) F.entry_zip_new (b2d b1 b2 t1 t2 xs ys) ⟨l1,l2,?_⟩;have n1:(zg1 b1 s.heap t1).objs.size=s.heap.objs.size+1:=Heap.size_push ..;have n2:(zg2 b1 b2 s.heap t1 t2).objs.size=s.heap.objs.size+2:=by rw [Heap.size_push,n1]
 have n3:(zg3 b1 b2 s.heap t1 t2).objs.size=s.heap.objs.size+3:=by rw [Heap.size_push,n2]
 have n4:(zg4 b1 b2 s.heap t1 t2).objs.size=s.heap.objs.size+4:=by rw [Heap.size_push,n3]
 have p5:(zg5 b1 b2 s.heap t1 t2).get? (zg4 b1 b2 s.heap t1 t2).objs.size=some _:=Heap.get?_push_size _ rfl;have p4:(zg5 b1 b2 s.heap t1 t2).get? (zg3 b1 b2 s.heap t1 t2).objs.size=some _:=Heap.get?_push_of_some _ (Heap.get?_push_size _ rfl);have p3:(zg5 b1 b2 s.heap t1 t2).get? (zg2 b1 b2 s.heap t1 t2).objs.size=some _:=Heap.get?_push_of_some _ (Heap.get?_push_of_some _ (Heap.get?_push_size _ rfl));have p2:(zg5 b1 b2 s.heap t1 t2).get? (zg1 b1 s.heap t1).objs.size=some _:=Heap.get?_push_of_some _ (Heap.get?_push_of_some _ (Heap.get?_push_of_some _ (Heap.get?_push_size _ rfl)));have p1:(zg5 b1 b2 s.heap t1 t2).get? s.heap.objs.size=some _:=Heap.get?_push_of_some _ (Heap.get?_push_of_some _ (Heap.get?_push_of_some _ (Heap.get?_push_of_some _ (Heap.get?_push_size _ rfl))));rw [n2,n3,n4] at p5;rw [n1,n2] at p3;rw [n3] at p4;rw [n1] at p2
 show _/\_
 rw [n4];refine ⟨⟨_,p5,rfl⟩,q _ p5 p3 p4 (ItB.mk p1) (ItB.mk p2) λ c o m=>?_⟩;exact Heap.get?_push_of_some _ (Heap.get?_push_of_some _ (Heap.get?_push_of_some _ (Heap.get?_push_of_some _ (Heap.get?_push_of_some _ m))))
end
def Itg (b1 b2:Bool) (K:W.Frag) (l1 l2:Addr):It :=
  ⟨λ i H=>∃ xs ys x y,SqB b1 K H l1 xs/\SqB b2 K H l2 ys/\xs[i]?=some x/\ys[i]?=some y,
   λ i H x H'=>∃ p a b,H p=none/\x=.ref p/\H'=upd H p (.tup [a,b])/\∀ xs ys,SqB b1 K H l1 xs->SqB b2 K H l2 ys->xs[i]?=some a/\ys[i]?=some b,
   λ i H=>∃ xs ys,SqB b1 K H l1 xs/\SqB b2 K H l2 ys/\(xs.length<=i\/ys.length<=i)⟩
theorem b0j {b1 b2:Bool} {P:Program} {w:World} {K:W.Frag} {elts:List Expr} {x1:Nat} {pos:Pos} {z ti to j1 j2 l1 l2:Addr} (D:ZipApart z ti to j1 j2 l1 l2) :
  a7b P w K (.Tuple elts x1 pos) (Itg b1 b2 K l1 l2) [z,ti,to,j1,j2] z (λ i h=>IsZip h z ti to .none/\IsPair h ti (.ref j1) (.ref j2)/\(∃ a b,IsPair h to a b)/\ItB b1 h j1 l1 i/\ItB b2 h j2 l2 i) where
 mem:=by simp
 obj:=λ i h st b hb=>by
  obtain ⟨hz,hti,⟨a,c,hto⟩,h1,h2⟩:=st;obtain ⟨o1,e1,v1,d1⟩:=h1.obj;obtain ⟨o2,e2,v2,d2⟩:=h2.obj;simp only [List.mem_cons,List.not_mem_nil,or_false] at hb;rcases hb with rfl | rfl | rfl | rfl | rfl
  ·exact ⟨_,hz,λ v q=>by cases q⟩
  ·exact ⟨_,hti,λ v q=>by cases q⟩
  ·exact ⟨_,hto,λ v q=>by cases q⟩
  ·exact ⟨o1,e1,λ v q=>by rw [d1] at q; cases q⟩
  ·exact ⟨o2,e2,λ v q=>by rw [d2] at q; cases q⟩
 keep:=λ i h h' st k=>by
  obtain ⟨hz,hti,⟨a,c,hto⟩,h1,h2⟩:=st;exact ⟨k z (by simp) _ hz,k ti (by simp) _ hti,⟨a,c,k to (by simp) _ hto⟩,ItB.at' h1 λ o e=>k j1 (by simp) o e,ItB.at' h2 λ o e=>k j2 (by simp) o e⟩
 item:=by
  intro X hP hw hK hc i pins s σ H E I hf st hg;subst hP hw hK;obtain ⟨xs,ys,x,y,hq1,hq2,hx,hy⟩:=hg;obtain ⟨hz,hti,⟨a,c,hto⟩,h1,h2⟩:=st;obtain ⟨its1,rv1,p1,_⟩:=I.sqB hq1;obtain ⟨its2,rv2,p2,_⟩:=I.sqB hq2;obtain ⟨u1,hu1,ru1⟩:=rv1.get hx;obtain ⟨u2,hu2,ru2⟩:=rv2.get hy;refine a9L D hz hti hto h1 h2 p1 p2 (x:=u1) (y:=u2) (by simpa using hu1) (by simpa using hu2) λ h' a1 a2 a3 a4 a5 a7=>?_;refine ⟨_,rfl,wpAny_letOwnedTupleGo_zip (s:={ s with heap:=h' }) a1 λ h'' hz'' hs''=>?_⟩;have neT:∀ b∈[z,ti,to,j1,j2],b≠s.heap.objs.size:=λ b hb e=>by
   have:∃ o,s.heap.get? b=some o:=by
    obtain ⟨o1,e1,_⟩:=h1.obj;obtain ⟨o2,e2,_⟩:=h2.obj;simp only [List.mem_cons,List.not_mem_nil,or_false] at hb;rcases hb with rfl | rfl | rfl | rfl | rfl
    ·exact ⟨_,hz⟩
    ·exact ⟨_,hti⟩
    ·exact ⟨_,hto⟩
    ·exact ⟨_,e1⟩
    ·exact ⟨_,e2⟩
   obtain ⟨o,ho⟩:=this;exact absurd (Heap.lt_size ho) (by rw [e]; exact Nat.lt_irrefl _)
  have kk:∀ b o,b ∉ [z,ti,to,j1,j2]->s.heap.get? b=some o->h''.get? b=some o:=λ b o hb e=>by
   simp only [List.mem_cons,List.not_mem_nil,or_false,not_or] at hb;exact hs''.extBut b o hb.1 (a7 b o hb.1 hb.2.2.1 hb.2.2.2.1 hb.2.2.2.2 e)
  have tti:h'.get? ti=_:=a7 ti _ D.TIz D.TITO D.TIi1 D.TIi2 hti;have st':IsZip h'' z ti to .none/\IsPair h'' ti (.ref j1) (.ref j2)/\(∃ a b,IsPair h'' to a b)/\ItB b1 h'' j1 l1 (i+1)/\ItB b2 h'' j2 l2 (i+1) :=
   ⟨hz'',hs''.extBut _ _ D.TIz tti,⟨_,_,hs''.extBut _ _ D.TOz a2⟩,a3.extBut hs''.extBut D.i1z,a4.extBut hs''.extBut D.i2z⟩
  have hoF:∀ b∈[z,ti,to,j1,j2],∃ o,h''.get? b=some o:=λ b hb=>by
   obtain ⟨q1,q2,⟨_,_,q3⟩,q4,q5⟩:=st';obtain ⟨o1,e1,_⟩:=q4.obj;obtain ⟨o2,e2,_⟩:=q5.obj;simp only [List.mem_cons,List.not_mem_nil,or_false] at hb;rcases hb with rfl | rfl | rfl | rfl | rfl
   ·exact ⟨_,q1⟩
   ·exact ⟨_,q2⟩
   ·exact ⟨_,q3⟩
   ·exact ⟨_,e1⟩
   ·exact ⟨_,e2⟩
  have zs:z≠s.heap.objs.size:=neT z (by simp);have tup:IsTup h'' s.heap.objs.size [u1,u2].toArray:=⟨_,hs''.extBut _ _ (Ne.symm zs) a5,rfl,0,rfl⟩;refine ⟨.ref s.heap.objs.size,upd H s.heap.objs.size (.tup [x,y]),I.turnedLaid (h':=h'') hf kk hoF (Nat.le_refl _) (by show 2<=sizeLine; decide) (.cons ru1 (.cons ru2 .nil)) tup,rfl,⟨_,x,y,I.fresh,rfl,rfl,λ xs' ys' q1 q2=>?_⟩,st',λ b hb=>?_⟩
  ·rw [I.sqB_inj q1 hq1,I.sqB_inj q2 hq2]; exact ⟨hx,hy⟩
  ·rw [i5 (neT b hb)]; exact (hf b hb).1
 done:=by
  intro X hP hw hK hc i pins s σ H E I hf st hg;subst hP hw hK;obtain ⟨xs,ys,hq1,hq2,hend⟩:=hg;obtain ⟨hz,hti,⟨a,c,hto⟩,h1,h2⟩:=st;obtain ⟨its1,rv1,p1,_⟩:=I.sqB hq1;obtain ⟨its2,rv2,p2,_⟩:=I.sqB hq2;have hl1:=rv1.length;have hl2:=rv2.length;refine b0a (I.ok.hd hc) D hz hti hto h1 h2 p1 p2 (by
   rcases hend with q | q
   ·exact .inl (by simp; omega)
   ·exact .inr (by simp; omega)) λ h' k=>⟨rfl,I.turnedAll hf λ b o hb e=>?_⟩
  simp only [List.mem_cons,List.not_mem_nil,or_false,not_or] at hb;exact k b o hb.1 hb.2.2.1 hb.2.2.2.1 hb.2.2.2.2 e
 self:=λ _ _ _ _ _ st h=>wpAny_pyIter_zip st.1 h
def iZg (b1 b2:Bool) (K:W.Frag) (ta:TA):TI:=λ σ H R=>ta σ H λ vs H1=>∃ l1 l2,vs=[.ref l1,.ref l2]/\(∃ xs,SqB b1 K H1 l1 xs)/\(∃ ys,SqB b2 K H1 l2 ys)/\R (Itg b1 b2 K l1 l2) H1
theorem Z3 (b1 b2:Bool) (K:W.Frag) {X:Cx} {a b:Expr} {ta:TA} {p pos pos':Pos} {elts:List Expr} {x1:Nat} (hK:X.K=K) (hg:Gl X "zip") (hm:X.mg "zip"=none) (ha:PA X [a,b] ta) (hs:starEach [a,b] X.env=[(false,eval a X.env),(false,eval b X.env)]:=by rfl) (hs2:starEach [b] X.env=[(false,eval b X.env)]:=by rfl) :
  PI X (.Tuple elts x1 pos') (.Call (.Name "zip" p) [a,b] [] pos) (iZg b1 b2 K ta):=by
 subst hK;intro pins s σ H R I h;refine Call_ (a0h I hg hm boot_zip (PyProof.Rows.callWith_type1 (G5 (ha pos pins s σ H _ I h) λ us s1 ⟨vs,H1,I1,r1,q1⟩=>?_) (by rw [hs,hs2]) (by rw [hs2]; rfl)));obtain ⟨l1,l2,e,⟨xs,q1⟩,⟨ys,q2⟩,q⟩:=q1;subst e;obtain ⟨u1,u2,rfl,ru1,ru2⟩:=a4g r1
 cases ru1
 cases ru2;obtain ⟨its1,rv1,p1,_⟩:=I1.sqB q1;obtain ⟨its2,rv2,p2,_⟩:=I1.sqB q2;refine b0v p1 p2 λ h' z1 z2 z3 z4 z5 k=>?_;have I2:Inv X pins σ H1 { s1 with heap:=h' }:=I1.kept (t':=s1.toks) k;refine wpAny_pyIter_zip z1 ?_;have D:ZipApart (s1.heap.objs.size+4) (s1.heap.objs.size+2) (s1.heap.objs.size+3) s1.heap.objs.size (s1.heap.objs.size+1) l1 l2:=b1p _ _ _ p1.lt p2.lt;refine ⟨s1.heap.objs.size+4,[s1.heap.objs.size+4,s1.heap.objs.size+2,s1.heap.objs.size+3,s1.heap.objs.size,s1.heap.objs.size+1],_,_,H1,rfl,I2,b0j D,⟨z1,z2,⟨_,_,z3⟩,z4,z5⟩,λ b hb=>?_,q⟩;have hb':s1.heap.objs.size<=b:=by
  simp only [List.mem_cons,List.not_mem_nil,or_false] at hb;rcases hb with rfl | rfl | rfl | rfl | rfl
  ·exact Nat.le_add_right _ _
  ·exact Nat.le_add_right _ _
  ·exact Nat.le_add_right _ _
  ·exact Nat.le_refl _
  ·exact Nat.le_add_right _ _
 exact I1.fpOk hb' (I1.hok.fresh hb')
section
variable {b1 b2:Bool} {xs ys:List V} {K:W.Frag} {l1 l2:Addr} {fr:List Nat} {te:TE} {σ:St} {H1:Hp} {p:Addr} {D:Hp->Prop}
theorem a2Y (h1:SqB b1 K H1 l1 xs) (h2:SqB b2 K H1 l2 ys) (hp:H1 p=none) (hz:xs.length<sizeLine) (R:Nat->V->Hp->Prop) (hR:∀ i y H H',R i y H->(∀ b o,b≠p->H b=some o->H' b=some o)->R i y H')
  (step:∀ (i:Nat) x y H zs (N:VK),xs[i]?=some x->ys[i]?=some y->Same H1 H->H p=some (.lst zs)->(∀ v H3,Same H H3->R i v H3->N v H3)->te (((blkσ 2 fr σ).set 0 (some x)).set 1 (some y)) H N)
  (hd:∀ zs H,Same H1 H->H p=some (.lst zs)->zs.length=min xs.length ys.length->(∀ i z,zs[i]?=some z->R i z H)->D H):lcW 2 fr (a4X K 2 (X6 (P9 0) (X6 (P9 1) a6J))) te σ (Itg b1 b2 K l1 l2) H1 p D:=by
 refine ⟨λ i m zs H=>m=min xs.length ys.length - i/\i<=min xs.length ys.length/\Same H1 H/\H p=some (.lst zs)/\zs.length=i/\∀ j y,zs[j]?=some y->R j y H,⟨_,rfl,Nat.zero_le _,Same.new hp _,upd_same,rfl,λ j y e=>by simp at e⟩,?_⟩;rintro i m zs H ⟨rfl,hi,e,hH,len,pr⟩
 by_cases hlt:i<min xs.length ys.length
 ·have hx:i<xs.length:=by omega
  have hy:i<ys.length:=by omega
  refine .inr ⟨⟨xs,ys,xs[i],ys[i],e.sqB h1,e.sqB h2,List.getElem?_eq_getElem hx,List.getElem?_eq_getElem hy⟩,λ u H' y=>?_⟩;obtain ⟨q,a,b,hq,rfl,rfl,hab⟩:=y;obtain ⟨ha,hb⟩:=hab xs ys (e.sqB h1) (e.sqB h2);have s1:=Same.new hq (.tup [a,b]);refine ⟨q,_,rfl,SqT.of upd_same,rfl,_,_,rfl,_,_,rfl,rfl,?_,?_⟩
  ·refine ⟨by simp,λ k w ek=>?_⟩
   have:¬ k<2:=λ hk=>by
    unfold blkσ at ek;rw [List.getElem?_append_left (by simpa using hk),List.getElem?_replicate] at ek
    split at ek <;> cases ek
   rw [List.getElem?_set_ne (by omega),List.getElem?_set_ne (by omega)]; exact ek
  ·refine step i a b _ zs _ ha hb (e.trans s1) (s1 _ _ hH) λ v H3 s3 r3=>⟨s3 _ _ (s1 _ _ hH),by omega,min xs.length ys.length - (i+1),by omega,rfl,hlt,λ b' o q'=>?_,upd_same,by rw [List.length_append,len]; rfl,λ j y ey=>?_⟩
   ·rw [i5 (i6 q' hp)]; exact s3 _ _ (s1 _ _ (e _ _ q'))
   ·have up:∀ b o,b≠p->H3 b=some o->upd H3 p (.lst (zs++[v])) b=some o:=λ b o hb q=>by rw [i5 hb]; exact q
    by_cases hj:j<zs.length
    ·rw [List.getElem?_append_left hj] at ey
     exact hR j y _ _ (pr j y ey) λ b o hb q=>up b o hb (s3 _ _ (s1 _ _ q))
    ·rw [List.getElem?_append_right (by omega)] at ey
     have hj':j - zs.length=0:=by
      cases q:j - zs.length with
      | zero=>rfl
      | succ k=>rw [q] at ey; simp at ey
     rw [hj'] at ey;have:j=i:=by omega
     subst this;simp at ey;subst ey;exact hR j v _ _ r3 up
 ·have:i=min xs.length ys.length:=by omega
  subst this;exact .inl ⟨⟨xs,ys,e.sqB h1,e.sqB h2,by omega⟩,hd zs H e hH len pr⟩
theorem b0F (h1:SqB b1 K H1 l1 xs) (h2:SqB b2 K H1 l2 ys) (hp:H1 p=none) (hz:xs.length<sizeLine) (F:V->V->V)
  (step:∀ (i:Nat) x y H (N:VK),xs[i]?=some x->ys[i]?=some y->Same H1 H->N (F x y) H->te (((blkσ 2 fr σ).set 0 (some x)).set 1 (some y)) H N)
  (hd:∀ H,Same H1 H->H p=some (.lst (List.zipWith F xs ys))->D H):lcW 2 fr (a4X K 2 (X6 (P9 0) (X6 (P9 1) a6J))) te σ (Itg b1 b2 K l1 l2) H1 p D:=by
 refine a2Y h1 h2 hp hz (λ i v _=>∀ x y,xs[i]?=some x->ys[i]?=some y->v=F x y) (λ _ _ _ _ r _=>r) (λ i x y H zs N hx hy e _ hN=>step i x y H N hx hy e (hN _ _ (Same.refl _) λ x' y' ex ey=>?_)) λ zs H e hH hl hr=>hd H e ?_
 ·rw [hx] at ex; rw [hy] at ey; cases ex; cases ey; rfl
 ·rw [hH]
  congr 2
  refine List.ext_getElem? λ i=>?_
  by_cases hi:i<min xs.length ys.length
  ·have a1:i<zs.length:=by omega
   have a2:i<xs.length:=by omega
   have a3:i<ys.length:=by omega
   rw [List.getElem?_eq_getElem a1,List.getElem?_eq_getElem (by rw [List.length_zipWith]; exact hi),List.getElem_zipWith,hr i _ (List.getElem?_eq_getElem a1) _ _ (List.getElem?_eq_getElem a2) (List.getElem?_eq_getElem a3)]
  ·rw [List.getElem?_eq_none (by omega),List.getElem?_eq_none (by rw [List.length_zipWith]; omega)]
theorem a5p {i1 i2:Nat} {tb:TS} {D:Ends} {H:Hp} (Pv:Nat->St->Hp->Prop) (h0:Pv 0 σ H) (hl:∀ i σ H,Pv i σ H->SqB b1 K H l1 xs/\SqB b2 K H l2 ys)
  (hs:∀ i x y σ H q,xs[i]?=some x->ys[i]?=some y->Pv i σ H->H q=none->tb { D with nx:=Pv (i+1),ct:=Pv (i+1),bk:=D.nx } ((σ.set i1 (some x)).set i2 (some y)) (upd H q (.tup [x,y]))) (hd:∀ σ H,Pv (min xs.length ys.length) σ H->D.nx σ H) :
  ∃ W:Nat->Nat->St->Hp->Prop,(∃ m,W 0 m σ H)/\∀ i m σ H,W i m σ H →
   ((Itg b1 b2 K l1 l2).stop i H/\D.nx σ H)\/((Itg b1 b2 K l1 l2).go i H/\∃ N:St->Hp->Prop,(∀ σ' H',N σ' H'->∃ m',m'<m/\W (i+1) m' σ' H')/\∀ x H',(Itg b1 b2 K l1 l2).yld i H x H'->a4X K 2 (X6 (P9 i1) (X6 (P9 i2) a6J)) x σ H' λ σ2 H2=>tb { D with nx:=N,ct:=N,bk:=D.nx } σ2 H2):=by
 refine ⟨λ i m σ H=>m=min xs.length ys.length - i/\i<=min xs.length ys.length/\Pv i σ H,⟨_,rfl,Nat.zero_le _,h0⟩,?_⟩;rintro i m σ H ⟨rfl,hi,p⟩;obtain ⟨q1,q2⟩:=hl i σ H p
 by_cases hlt:i<min xs.length ys.length
 ·have hx:i<xs.length:=by omega
  have hy:i<ys.length:=by omega
  refine .inr ⟨⟨xs,ys,xs[i],ys[i],q1,q2,List.getElem?_eq_getElem hx,List.getElem?_eq_getElem hy⟩,Pv (i+1),λ σ' H' p'=>⟨min xs.length ys.length - (i+1),by omega,rfl,hlt,p'⟩,λ u H' y=>?_⟩;obtain ⟨q,a,b,hq,rfl,rfl,hab⟩:=y;obtain ⟨ha,hb⟩:=hab xs ys q1 q2;exact ⟨q,_,rfl,SqT.of upd_same,rfl,_,_,rfl,_,_,rfl,rfl,hs i a b σ H q ha hb p hq⟩
 ·have:i=min xs.length ys.length:=by omega
  subst this;exact .inl ⟨⟨xs,ys,q1,q2,by omega⟩,hd σ H p⟩
end
def Ite (K:W.Frag) (l:Addr):It :=
  ⟨λ i H=>∃ xs x,SqL K H l xs/\xs[i]?=some x,
   λ i H x H'=>∃ p a,H p=none/\x=.ref p/\H'=upd H p (.tup [.int (i:Int),a])/\∀ xs,SqL K H l xs->xs[i]?=some a,
   λ i H=>∃ xs,SqL K H l xs/\xs.length<=i⟩
theorem a7f {P:Program} {w:World} {K:W.Frag} {elts:List Expr} {x1:Nat} {pos:Pos} {e it l:Addr} (hne:e≠it) (hle:l≠e) (hli:l≠it) :
  a7b P w K (.Tuple elts x1 pos) (Ite K l) [e,it] e (λ i h=>(∃ old,IsEnum h e it (i:Int) old)/\h.IsListIter it l i) where
 mem:=by simp
 obj:=λ i h st b hb=>by
  obtain ⟨⟨old,he⟩,⟨o1,e1,c1,d1⟩⟩:=st;simp only [List.mem_cons,List.not_mem_nil,or_false] at hb;rcases hb with rfl | rfl
  ·exact ⟨_,he,λ v q=>by cases q⟩
  ·exact ⟨o1,e1,λ v q=>by rw [d1] at q; cases q⟩
 keep:=λ i h h' st k=>by
  obtain ⟨⟨old,he⟩,h1⟩:=st;exact ⟨⟨old,k e (by simp) _ he⟩,h1.at λ o q=>k it (by simp) o q⟩
 item:=by
  intro X hP hw hK hc i pins s σ H E I hf st hg;subst hP hw hK;obtain ⟨xs,x,hq,hx⟩:=hg;obtain ⟨⟨old,he⟩,h1⟩:=st;obtain ⟨its,rv,p,_⟩:=I.list hq;obtain ⟨u,hu,ru⟩:=rv.get hx;refine wpAny_pyNext_enum_item he h1 p.isList (x:=u) (by simpa using hu) hne λ h' a1 a2 a3 a4 a5=>?_;refine ⟨_,rfl,wpAny_letOwnedTupleGo_enum (s:={ s with heap:=h',toks:=s.toks+1 }) a1 λ h'' he'' hs''=>?_⟩;have ie:s.heap.get? e=_:=he;obtain ⟨o1,ei,_⟩:=id h1;have neT:∀ b∈[e,it],b≠s.heap.objs.size:=λ b hb q=>by
   have:∃ o,s.heap.get? b=some o:=by
    simp only [List.mem_cons,List.not_mem_nil,or_false] at hb;rcases hb with rfl | rfl
    ·exact ⟨_,ie⟩
    ·exact ⟨_,ei⟩
   obtain ⟨o,ho⟩:=this;exact absurd (Heap.lt_size ho) (by rw [q]; exact Nat.lt_irrefl _)
  have kk:∀ b o,b ∉ [e,it]->s.heap.get? b=some o->h''.get? b=some o:=λ b o hb q=>by
   simp only [List.mem_cons,List.not_mem_nil,or_false,not_or] at hb;exact hs''.extBut b o hb.1 (a5 b o hb.1 hb.2 q)
  have it'':h''.IsListIter it l (i+1):=a2.extBut hs''.extBut (Ne.symm hne);have hoF:∀ b∈[e,it],∃ o,h''.get? b=some o:=λ b hb=>by
   obtain ⟨o2,e2,_⟩:=it'';simp only [List.mem_cons,List.not_mem_nil,or_false] at hb;rcases hb with rfl | rfl
   ·exact ⟨_,he''⟩
   ·exact ⟨_,e2⟩
  have es:e≠s.heap.objs.size:=neT e (by simp);have tup:IsTup h'' s.heap.objs.size [Value.int (i:Int) s.toks,u].toArray:=⟨_,hs''.extBut _ _ (Ne.symm es) a3,rfl,0,rfl⟩;refine ⟨.ref s.heap.objs.size,upd H s.heap.objs.size (.tup [.int (i:Int),x]),(I.turnedLaid (h':=h'') hf kk hoF (Nat.le_refl _) (by show 2<=sizeLine; decide) (show Vals [.int (i:Int),x] [Value.int (i:Int) s.toks,u] from .cons ⟨_,rfl⟩ (.cons ru .nil)) tup).tok _,rfl,⟨_,x,I.fresh,rfl,rfl,λ xs' q1=>?_⟩,⟨⟨_,he''⟩,it''⟩,λ b hb=>?_⟩
  ·rw [I.list_inj q1 hq]; exact hx
  ·rw [i5 (neT b hb)]; exact (hf b hb).1
 done:=by
  intro X hP hw hK hc i pins s σ H E I hf st hg;subst hP hw hK;obtain ⟨xs,hq,hend⟩:=hg;obtain ⟨⟨old,he⟩,h1⟩:=st;obtain ⟨its,rv,p,_⟩:=I.list hq;have hl:=rv.length;refine wpAny_pyNext_enum_end (I.ok.hd hc) he h1 p.isList (by simp; omega) λ h' k=>⟨rfl,I.turnedAll hf λ b o hb q=>?_⟩;simp only [List.mem_cons,List.not_mem_nil,or_false,not_or] at hb;exact k b o hb.2 q
 self:=λ _ _ _ _ _ st h=>by
  obtain ⟨⟨old,he⟩,_⟩:=st;exact wpAny_pyIter_enum he h
def b3l (K:W.Frag) (ta:TA):TI:=λ σ H R=>ta σ H λ vs H1=>∃ l,vs=[.ref l]/\(∃ xs,SqL K H1 l xs)/\R (Ite K l) H1
theorem a5I (K:W.Frag) {X:Cx} {a:Expr} {ta:TA} {p pos pos':Pos} {elts:List Expr} {x1:Nat} (hK:X.K=K) (hg:Gl X "enumerate") (hm:X.mg "enumerate"=none) (ha:PA X [a] ta) (hs:starEach [a] X.env=[(false,eval a X.env)]:=by rfl) (hs2:starEach ([]:List Expr) X.env=[]:=by rfl) :
  PI X (.Tuple elts x1 pos') (.Call (.Name "enumerate" p) [a] [] pos) (b3l K ta):=by
 subst hK;intro pins s σ H R I h;refine Call_ (a0h I hg hm boot_enumerate (PyProof.Rows.callWith_type1 (G5 (ha pos pins s σ H _ I h) λ us s1 ⟨vs,H1,I1,r1,q1⟩=>?_) (by rw [hs,hs2]) (by rw [hs2]; rfl)));obtain ⟨l,e,⟨xs,q1⟩,q⟩:=q1;subst e;obtain ⟨u,rfl,ru⟩:=S3 r1
 cases ru;obtain ⟨its,rv,p,_⟩:=I1.list q1;have lt1:l<s1.heap.objs.size:=by obtain ⟨_,e,_⟩:=p.isList; exact Heap.lt_size e
 refine call_enumerate_list p.isList λ h' z1 z2 z3 k=>?_;have I2:Inv X pins σ H1 { s1 with heap:=h' }:=I1.kept (t':=s1.toks) k;refine wpAny_pyIter_enum z1 ?_;refine ⟨s1.heap.objs.size+1,[s1.heap.objs.size+1,s1.heap.objs.size],_,_,H1,rfl,I2,a7f (l:=l) (e:=s1.heap.objs.size+1) (it:=s1.heap.objs.size) (Nat.succ_ne_self _) (Nat.ne_of_lt (Nat.lt_succ_of_lt lt1)) (Nat.ne_of_lt lt1),⟨⟨_,z1⟩,z2⟩,λ b hb=>?_,q⟩;have hb':s1.heap.objs.size<=b:=by
  simp only [List.mem_cons,List.not_mem_nil,or_false] at hb;rcases hb with rfl | rfl
  ·exact Nat.le_succ _
  ·exact Nat.le_refl _
 exact I1.fpOk hb' (I1.hok.fresh hb')
section
variable {xs ys:List V} {K:W.Frag} {l1 l2:Addr} {fr:List Nat} {te:TE} {σ:St} {H1:Hp} {p:Addr} {D:Hp->Prop}
theorem a4v {i1 i2:Nat} {tb:TS} {D:Ends} {H:Hp} (Pv:Nat->St->Hp->Prop) (h0:Pv 0 σ H) (hl:∀ i σ H,Pv i σ H->SqL K H l1 xs)
  (hs:∀ i x σ H q,xs[i]?=some x->Pv i σ H->H q=none->tb { D with nx:=Pv (i+1),ct:=Pv (i+1),bk:=D.nx } ((σ.set i1 (some (.int (i:Int)))).set i2 (some x)) (upd H q (.tup [.int (i:Int),x]))) (hd:∀ σ H,Pv xs.length σ H->D.nx σ H) :
  ∃ W:Nat->Nat->St->Hp->Prop,(∃ m,W 0 m σ H)/\∀ i m σ H,W i m σ H →
   ((Ite K l1).stop i H/\D.nx σ H)\/((Ite K l1).go i H/\∃ N:St->Hp->Prop,(∀ σ' H',N σ' H'->∃ m',m'<m/\W (i+1) m' σ' H')/\∀ x H',(Ite K l1).yld i H x H'->a4X K 2 (X6 (P9 i1) (X6 (P9 i2) a6J)) x σ H' λ σ2 H2=>tb { D with nx:=N,ct:=N,bk:=D.nx } σ2 H2):=by
 refine ⟨λ i m σ H=>m=xs.length - i/\i<=xs.length/\Pv i σ H,⟨_,rfl,Nat.zero_le _,h0⟩,?_⟩;rintro i m σ H ⟨rfl,hi,p⟩;have q1:=hl i σ H p
 by_cases hlt:i<xs.length
 ·refine .inr ⟨⟨xs,xs[i],q1,List.getElem?_eq_getElem hlt⟩,Pv (i+1),λ σ' H' p'=>⟨xs.length - (i+1),by omega,rfl,hlt,p'⟩,λ u H' y=>?_⟩
  obtain ⟨q,a,hq,rfl,rfl,hab⟩:=y;have ha:=hab xs q1;exact ⟨q,_,rfl,SqT.of upd_same,rfl,_,_,rfl,_,_,rfl,rfl,hs i a σ H q ha p hq⟩
 ·have:i=xs.length:=by omega
  subst this;exact .inl ⟨⟨xs,q1,by omega⟩,hd σ H p⟩
end
theorem a5j {X:Cx} {tg iter:Expr} {w:Bool->TI} (h:∀ b,PI X tg iter (w b)):PI X tg iter (λ σ H R=>∃ b,w b σ H R):=λ pins s σ H R I ⟨b,q⟩=>h b pins s σ H R I q
end L2
namespace Fr
abbrev Q2:=Int×Int
def gI (a b:Int):Int:=(Int.gcd a b:Int)
def t7 (t b:Int):Q2:=(t / gI t b,b / gI t b)
def a3R (f:Q2):Prop:=0<f.2/\Int.gcd f.1 f.2=1
theorem Y7 (a b:Int):0<=gI a b:=Int.natCast_nonneg _
theorem F0 (a b:Int):gI a b∣a:=Int.gcd_dvd_left ..
theorem C8 (a b:Int):gI a b∣b:=Int.gcd_dvd_right ..
theorem P8 {a b:Int} (hb:0<b):0<gI a b:=by
 have h0:=Y7 a b
 by_cases z:gI a b=0
 ·have:=C8 a b
  rw [z,Int.zero_dvd] at this;omega
 ·omega
theorem a6i {a b:Int} (hb:0<b):gI a b<=b:=Int.le_of_dvd hb (C8 a b)
theorem a5e {c a b:Int} (h1:c∣a) (h2:c∣b):c∣gI a b:=Int.dvd_coe_gcd h1 h2
theorem a0L {a b:Int} (ha:0<=a) (hb:0<=b) (h1:a∣b) (h2:b∣a):a=b:=Int.dvd_antisymm ha hb h1 h2
theorem a6d (a b:Int):gI b (a % b)=gI a b:=by
 refine a0L (Y7 _ _) (Y7 _ _) (a5e ?_ (F0 _ _)) (a5e (C8 _ _) ?_)
 ·have h1:=F0 b (a % b)
  have h2:=C8 b (a % b);have:=Int.dvd_add (Int.dvd_mul_of_dvd_left (c:=a / b) h1) h2;rw [Int.mul_ediv_add_emod] at this;exact this
 ·have h1:=F0 a b
  have h2:=C8 a b;have:=Int.dvd_sub h1 (Int.dvd_mul_of_dvd_left (c:=a / b) h2);rw [Int.emod_def];exact this
theorem a6w (a:Int):gI a 0=a.natAbs:=by unfold gI; rw [Int.gcd_zero_right]
theorem b2k (a b:Int):gI (-a) b=gI a b:=by unfold gI; rw [Int.neg_gcd]
theorem A9 {t b:Int} (hb:0<b):0<(t7 t b).2:=by
 have h:=P8 (a:=t) hb;obtain ⟨k,hk⟩:=C8 t b
 show 0<b / gI t b
 have e:b / gI t b=k:=by
  have:b / gI t b=(gI t b*k) / gI t b:=by rw [<- hk]
  rw [this,Int.mul_ediv_cancel_left _ (by omega)]
 rw [e]
 by_cases z:0<k
 ·exact z
 ·have:=Int.mul_nonneg (Int.le_of_lt h) (show 0 <= -k by omega)
  rw [Int.mul_neg] at this;omega
theorem M6 {t b:Int} (hb:0<b):t=gI t b*(t7 t b).1/\b=gI t b*(t7 t b).2 :=
 ⟨(Int.mul_ediv_cancel' (F0 t b)).symm,(Int.mul_ediv_cancel' (C8 t b)).symm⟩
theorem J4 {t b:Int} (hb:0<b):(t7 t b).1*b=t*(t7 t b).2:=by
 obtain ⟨h1,h2⟩:=M6 (t:=t) hb;generalize gI t b=g at h1 h2;generalize t7 t b=f at h1 h2;rw [h1,h2]
 ac_rfl
theorem Y3 {t b:Int} (hb:0<b):a3R (t7 t b):=by
 refine ⟨A9 hb,?_⟩;obtain ⟨h1,h2⟩:=M6 (t:=t) hb;have hg:=P8 (a:=t) hb;have q:gI t b*gI (t7 t b).1 (t7 t b).2∣gI t b*1:=by
  rw [Int.mul_one];refine a5e ?_ ?_
  ·have:=Int.mul_dvd_mul_left (gI t b) (F0 (t7 t b).1 (t7 t b).2)
   rw [<- h1] at this;exact this
  ·have:=Int.mul_dvd_mul_left (gI t b) (C8 (t7 t b).1 (t7 t b).2)
   rw [<- h2] at this;exact this
 have q2:gI (t7 t b).1 (t7 t b).2∣1:=Int.dvd_of_mul_dvd_mul_left (by omega) q;have q3:gI (t7 t b).1 (t7 t b).2=1:=a0L (Y7 _ _) (by decide) q2 (Int.one_dvd _);unfold gI at q3;omega
theorem a1d {a b c:Int} (h:Int.gcd a b=1) (d:b∣a*c):b∣c:=by
 have h':Nat.Coprime b.natAbs a.natAbs:=by
  rw [Nat.coprime_comm]; exact h
 have d':b.natAbs∣a.natAbs*c.natAbs:=by rw [<- Int.natAbs_mul]; exact Int.natAbs_dvd_natAbs.mpr d
 exact Int.natAbs_dvd_natAbs.mp (h'.dvd_of_dvd_mul_left d')
theorem V0 {f g:Q2} (hf:a3R f) (hg:a3R g) (h:f.1*g.2=g.1*f.2):f=g:=by
 have d1:f.2∣g.2:=a1d hf.2 ⟨g.1,by rw [h,Int.mul_comm]⟩;have d2:g.2∣f.2:=a1d hg.2 ⟨f.1,by rw [<- h,Int.mul_comm]⟩;have e2:f.2=g.2:=a0L (Int.le_of_lt hf.1) (Int.le_of_lt hg.1) d1 d2;have e1:f.1=g.1:=by
  rw [e2] at h;exact Int.eq_of_mul_eq_mul_right (by have:=hg.1; omega) h
 exact Prod.ext e1 e2
theorem R3 {t b t' b':Int} (hb:0<b) (hb':0<b') (h:t*b'=t'*b):t7 t b=t7 t' b':=by
 refine V0 (Y3 hb) (Y3 hb') ?_;have c1:=J4 (t:=t) hb;have c2:=J4 (t:=t') hb';generalize t7 t b=x at c1 ⊢;generalize t7 t' b'=y at c2 ⊢;refine Int.eq_of_mul_eq_mul_right (a:=b*b') (by have:=Int.mul_pos hb hb'; omega) ?_
 calc x.1*y.2*(b*b')=(x.1*b)*(y.2*b'):=by ac_rfl
  _=(t*b')*(x.2*y.2):=by rw [c1]; ac_rfl
  _=(t'*y.2)*(b*x.2):=by rw [h]; ac_rfl
  _=(y.1*b')*(b*x.2):=by rw [c2]
  _=y.1*x.2*(b*b'):=by ac_rfl
theorem a4C {f:Q2} (hf:a3R f):t7 f.1 f.2=f:=by
 refine V0 (Y3 hf.1) hf ?_;exact J4 hf.1
abbrev a1I:=Int×Q2
def Q6 (s:Q2) (x:a1I):Q2:=(s.1*x.2.2+x.1*x.2.1*s.2,s.2*x.2.2)
def raw (l:List a1I):Q2:=l.foldl Q6 (0,1)
def Q4 (s:Q2) (x:a1I):Q2:=(s.1*(x.2.2 / gI s.2 x.2.2)+x.1*x.2.1*(s.2 / gI s.2 x.2.2),s.2 / gI s.2 x.2.2*x.2.2)
def a4j (a b:Q2):Prop:=a.1*b.2=b.1*a.2
theorem D1 {a m:Int} (ha:0<a) (hm:0<m) (h:m∣a):0<a / m/\m*(a / m)=a:=by
 have e:=Int.mul_ediv_cancel' h;refine ⟨?_,e⟩
 by_cases z:0<a / m
 ·exact z
 ·have:=Int.mul_nonneg (Int.le_of_lt hm) (show 0 <= -(a / m) by omega)
  rw [Int.mul_neg] at this;omega
theorem b0t {s:Q2} {x:a1I} (hs:0<s.2) (hx:0<x.2.2):0<(Q4 s x).2:=by
 have hm:=P8 (a:=s.2) hx;exact Int.mul_pos (D1 hs hm (F0 _ _)).1 hx
theorem a7h {s r:Q2} {x:a1I} (hs:0<s.2) (hx:0<x.2.2) (h:a4j s r):a4j (Q4 s x) (Q6 r x):=by
 have hm:=P8 (a:=s.2) hx;obtain ⟨_,h1⟩:=D1 hs hm (F0 s.2 x.2.2);obtain ⟨_,h2⟩:=D1 hx hm (C8 s.2 x.2.2);unfold a4j Q4 Q6 at *;generalize gI s.2 x.2.2=m at h1 h2;generalize s.2 / m=b' at h1;generalize hq':x.2.2 / m=q' at h2;dsimp only at *;have k:s.1*q'*r.2=r.1*x.2.2*b':=by
  calc s.1*q'*r.2=(s.1*r.2)*q':=by ac_rfl
   _=r.1*(m*b')*q':=by rw [h,<- h1]
   _=r.1*(m*q')*b':=by ac_rfl
   _=r.1*x.2.2*b':=by rw [h2]
 rw [Int.add_mul,Int.add_mul]
 congr 1
 ·calc s.1*q'*(r.2*x.2.2)=s.1*q'*r.2*x.2.2:=by ac_rfl
   _=r.1*x.2.2*(b'*x.2.2):=by rw [k]; ac_rfl
 ·ac_rfl
theorem a7t {l:List a1I}:∀ {s r:Q2},(∀ x∈l,0<x.2.2)->0<s.2->a4j s r->0<(l.foldl Q4 s).2/\a4j (l.foldl Q4 s) (l.foldl Q6 r):=by
 induction l with
 | nil=>intro s r _ hs h; exact ⟨hs,h⟩
 | cons x l ih =>
  intro s r hl hs h;have hx:=hl x List.mem_cons_self;exact ih (λ y hy=>hl y (List.mem_cons_of_mem _ hy)) (b0t hs hx) (a7h hs hx h)
theorem a6g {l:List a1I}:∀ {r:Q2},(∀ x∈l,0<x.2.2)->0<r.2->0<(l.foldl Q6 r).2:=by
 induction l with
 | nil=>intro r _ h; exact h
 | cons x l ih=>intro r hl h; exact ih (λ y hy=>hl y (List.mem_cons_of_mem _ hy)) (Int.mul_pos h (hl x List.mem_cons_self))
theorem a5m {L:Int} {l:List a1I}:∀ {T:Int} {r:Q2},(∀ x∈l,0<x.2.2/\x.2.2∣L)->T*r.2=r.1*L->(T+(l.map λ x=>x.1*(x.2.1*(L / x.2.2))).sum)*(l.foldl Q6 r).2=(l.foldl Q6 r).1*L:=by
 induction l with
 | nil=>intro T r _ h; simpa using h
 | cons x l ih =>
  intro T r hl h;obtain ⟨hx,hd⟩:=hl x List.mem_cons_self;have e:=Int.mul_ediv_cancel' hd;have:=ih (T:=T+x.1*(x.2.1*(L / x.2.2))) (r:=Q6 r x) (λ y hy=>hl y (List.mem_cons_of_mem _ hy)) (by
   unfold Q6;dsimp only;generalize L / x.2.2=k at e;rw [Int.add_mul,Int.add_mul]
   congr 1
   ·calc T*(r.2*x.2.2)=(T*r.2)*x.2.2:=by ac_rfl
     _=r.1*x.2.2*L:=by rw [h]; ac_rfl
   ·calc x.1*(x.2.1*k)*(r.2*x.2.2)=x.1*x.2.1*r.2*(x.2.2*k):=by ac_rfl
     _=x.1*x.2.1*r.2*L:=by rw [e])
  rw [List.map_cons,List.sum_cons,<- Int.add_assoc];exact this
end Fr
namespace L2
open PySem PySem.Spec PyProof.Rows
abbrev a5q (X:Cx) (qual:Str) (scope:Scope) (f:Addr) (cd:Value) (C:Addr):Env:=W.envX qual scope C f cd (clo X.env scope.names [])
def a6p (X:Cx) (col:Str) (fr:List Nat) (qual:Str) (scope:Scope) (f:Addr) (cd:Value) (A':Around) (s₀:Shared) (H₀:Hp):Cx :=
  { X with N:=col::fr.map (λ j=>X.N.getD j ""),s₀:=s₀,H₀:=H₀,A:=A'.deeper (a5q X qual scope f cd s₀.heap.objs.size),env:=a5q X qual scope f cd s₀.heap.objs.size,outer:=X.stack,
           stack:=a5q X qual scope f cd s₀.heap.objs.size::X.stack,ex:=[],fn:=λ _=>false,pn:=[],xe:=λ _ _=>False }
section
variable {X:Cx} {pins:List (Addr×Obj)} {σ:St} {H:Hp} {s:Shared} {fr:List Nat} {scope:Scope} {col:Str} {qual:Str} {f:Addr} {cd:Value} {A':Around}
theorem W9 {env:Env} {l:List (Str×NameKind)} {x:Str} {c:Addr} (e:(clo env l []).lookup x=some c):env.cells.lookup x=some c:=a0A (cs:=[]) (λ _ _ z=>by simp at z) e
theorem Inv.lam {h₁:Heap} {t':Nat} {v:V} {u:Value} (I:Inv X pins σ H s) (hA:A'.frames=some X.stack) (hh:A'.handled=X.A.handled) (hk:scope.kind=.function) (h:a0v X.env.scope scope X.N fr=true)
  (hcell:∀ x∈scope.names,x.2≠.cell) (hcol:scope.names.lookup col=some .local) (hns:h₁.Ns s.heap.objs.size λ x=>[(col,u)].reverse.lookup x) (hkeep:∀ b o,s.heap.get? b=some o->h₁.get? b=some o) (r:RelV v u) :
  Inv (a6p X col fr qual scope f cd A' s H) [] (some v::frv fr σ) H { s with heap:=h₁,toks:=t' } where
 ok:={
  mod:=I.ok.mod
  kind:=hk
  glob:=rfl
  blt:=rfl
  above:=Nat.le_refl _
  inj:=λ x y c e1 e2=>I.ok.inj x y c (W9 e1) (W9 e2)
  has:=λ x hx=>by
   have hx':scope.names.lookup x=some .cell\/scope.names.lookup x=some .free:=hx;rcases hx' with e | e
   ·exact absurd rfl (hcell _ (M1 e))
   ·exact Z1 (U1 I h x (M1 e)) (M1 e)
  cab:=λ x c hx=>by cases (show false=true from hx)
  hd:=λ z=>by
   show A'.handled=none
   rw [hh];exact I.ok.hd z
  frames:=Around.frames_deeper hA
  stk:=.inr ⟨rfl,rfl⟩
  exf:=λ b hb=>by cases (show b∈([]:List Addr) from hb)
  bs:=I.bs
  bsz:=Nat.le_trans I.ok.bsz I.sz
  noex:=λ b o _ hb=>by cases (show b∈([]:List Addr) from hb)
  exfs:=λ b hb=>by cases (show b∈([]:List Addr) from hb)
  funs:=I.stack
  frf:=I.stkFree }
 os:=rfl
 bare:=I.bare
 base:=Un.kept hkeep
 loc:=by
  refine ⟨_,hns,λ i x w e1 e2 _=>?_⟩
  cases i with
  | zero =>
   have hx:col=x:=Option.some.inj e1;have hv:v=w:=Option.some.inj (Option.some.inj e2);subst hx;subst hv;exact ⟨u,r,.inl ⟨hcol,by simp [List.lookup]⟩⟩
  | succ i =>
   have e1':(fr.map λ j=>X.N.getD j "")[i]?=some x:=e1;have e2':(fr.map λ j=>(σ[j]?).join)[i]?=some (some w):=e2;rw [List.getElem?_map] at e1' e2'
   cases q:fr[i]? with
   | none=>rw [q] at e1'; cases e1'
   | some j =>
    rw [q] at e1' e2';have hj:j∈fr:=List.mem_of_getElem? q;obtain ⟨hjl,hjc,hjf⟩:=b0O h j hj;have ex:X.N.getD j ""=x:=Option.some.inj e1';have ev:(σ[j]?).join=some w:=Option.some.inj e2';have hN:X.N[j]?=some x:=by
     rw [<- ex,List.getD_eq_getElem?_getD,List.getElem?_eq_getElem hjl]; rfl
    have hσ:σ[j]?=some (some w):=by
     cases r:σ[j]? with
     | none=>rw [r] at ev; cases ev
     | some y=>rw [r] at ev; exact congrArg some ev
    rw [ex] at hjc hjf;obtain ⟨m,_,hl⟩:=I.loc;obtain ⟨u',r',lk⟩:=hl j x w hN hσ (.inr (.inl hjc));refine ⟨u',r',?_⟩;have kc:Env.kindOf X.env x=some .cell:=hjc;rcases lk with ⟨k1,_⟩ | ⟨_,c,ec,o,ho',hd⟩
    ·rw [kc] at k1; cases k1
    ·obtain ⟨c',hc'⟩:=Z1 (env:=X.env) (cs:=[]) ⟨c,ec⟩ (M1 hjf)
     have e3:=W9 hc';rw [ec] at e3
     cases e3;exact .inr ⟨.inr hjf,c,hc',o,hkeep _ _ ho',hd⟩
 cell:=λ x c e=>by
  obtain ⟨v,o,ho',hd⟩:=I.cell x c (W9 e);exact ⟨v,o,hkeep _ _ ho',hd⟩
 free:=I.hok.fresh (Nat.le_refl _)
 freeC:=λ x c e=>I.freeC x c (W9 e)
 pin:=λ p hp=>by cases (show p∈([]:List (Addr×Obj)) from hp)
 hok:=I.hok.kept hkeep
 len:=by simp [frv,a6p]
def Quiet (X:Cx) (H:Hp) (s s':Shared):Prop:=∀ b o,s.heap.get? b=some o->H b=none->b≠X.env.locals->b ∉ X.fs->s'.heap.get? b=some o
theorem a8C {params:Arguments} {body:Expr} {pm ctv:Value} {c':Addr} {v k:V} {u:Value} {t:TE} {Q:Value->Shared->Prop} {E:Value->Shared->Prop} (I:Inv X pins σ H s) (hA:A'.frames=some X.stack) (hh:A'.handled=X.A.handled)
  (hroom:A'.depth<recursionLimit) (hk:scope.kind=.function) (h:a0v X.env.scope scope X.N fr=true)
  (hcell:∀ x∈scope.names,x.2≠.cell) (hcol:scope.names.lookup col=some .local) (hco:scope.isCoroutine=false) (hgen:scope.isGenerator=false)
  (hf:s.heap.get? f=some (W.kla_obj "<lambda>" qual params body scope (clo X.env scope.names []) pm c' ctv)) (hcd:s.heap.CodeRec (.ref c') qual)
  (hb:∀ u:Value,bindArgs (W.kla_fn "<lambda>" qual params body scope (clo X.env scope.names []) pm (.ref c') ctv) ⟨[u],[]⟩=pure [(col,u)])
  (hbody:PE (a6p X col fr qual scope f (.ref c') A' s H) body t) (r:RelV v u) (ht:t (some v::frv fr σ) H λ y H'=>y=k/\H'=H)
  (q:∀ y s',RelV k y->Inv X pins σ H s'->Quiet X H s s'->Q y s'):wpAny (model X.prog X.w) A' (call (.ref f) [u]) Q E s:=by
 refine wpAny_call (W.kla_callFunE hroom hf rfl hco hgen rfl hcd ?_);rw [hb u];refine wpAny_pure (wpAny_newFunctionEnv hcell (λ y hy=>?_) (λ h₁ hns hsb=>?_) hk)
 ·rw [List.mem_singleton.mp hy]; exact hcol
 ·have hk₁:∀ b o,s.heap.get? b=some o->h₁.get? b=some o:=λ b o e=>hsb.extBut b o (Nat.ne_of_lt (Heap.lt_size e)) (Heap.get?_push_of_some _ e)
  refine ⟨I.nolimit.keeps hk₁,W.kla_codeExpr ?_⟩;have J:=I.lam (qual:=qual) (f:=f) (cd:=.ref c') (t':=s.toks+[(col,u)].length) hA hh hk h hcell hcol hns hk₁ r;refine wpAny_mono (hbody [] _ _ _ _ J ht) (λ y s' hy=>?_) λ e s' z=>False.elim z;obtain ⟨w,H',J',rw',rfl,rfl⟩:=hy;have J2:Inv X pins σ H' s':=I.call' (ch:=[]) J'.os J'.base J'.hok J'.bare λ b hb=>by cases hb
  refine q y s' rw' J2 λ b o e n n1 n2=>?_;refine J'.base.keep b o e n (λ z=>?_) (by intro z; cases z);rcases List.mem_cons.mp (I.stkSub b z) with w | w
  ·exact n1 w
  ·exact n2 w
end
def V6 (mg:Str->Option Value) (base:Heap):Prop:=∃ bm ob,mg "__builtins__"=some (.ref bm)/\bm≠builtinsNs/\base.get? bm=some ob/\ob.cls=.type "module"/\ob.dict=some builtinsNs/\ob.data=.plain
abbrev a2L (c:Addr) (qual:Str):HO:=.ext λ h=>h.CodeRec (.ref c) qual
def LamTab (P:Addr) (pos:Pos) (qual:Str) (H:Hp):Prop :=
 H P=some (.tbl #[])\/∃ c',H P=some (.tbl #[rawInt pos.line,rawInt pos.col,.ref c'])/\H c'=some (a2L c' qual)
def Same1 (P:Addr) (H H':Hp):Prop:=∀ b o,b≠P->H b=some o->H' b=some o
theorem LamTab.same {P:Addr} {pos:Pos} {qual:Str} {H H':Hp} (T:LamTab P pos qual H) (h:∀ b o,H b=some o->H' b=some o):LamTab P pos qual H':=by
 rcases T with e | ⟨c,e1,e2⟩
 ·exact .inl (h _ _ e)
 ·exact .inr ⟨c,h _ _ e1,h _ _ e2⟩
section
variable {X:Cx} {pins:List (Addr×Obj)} {σ:St} {H:Hp} {s:Shared} {fr:List Nat} {scope:Scope} {qual:Str} {c P:Addr} {params:Arguments} {body:Expr} {pos:Pos}
theorem a7D {K:Program} {w:World} {H:Hp} {h:Heap} {c:Addr} {o:Obj} (e:h.get? c=some o) (r:h.CodeRec (.ref c) qual):ObjOk K w H h c (a2L c qual) :=
 ⟨r,⟨o,e⟩,λ h1 h2 ⟨c',o',vs,t,z,g,q⟩ k=>by
  have z':c=c':=Value.ref.inj z;subst z';exact ⟨c,o',vs,t,rfl,k _ g,q⟩⟩
theorem Inv.grown {h':Heap} {t':Nat} {ps more:Array Value} {c':Addr} (I:Inv X pins σ H s) (hP:H P=some (.tbl ps)) (hx:Heap.ExtBut P s.heap h') (hge:s.heap.objs.size<=c') (hcr:h'.CodeRec (.ref c') qual)
  (htb:h'.get? P=some { cls:=.none,data:=.fields (ps++more) }):Inv X pins σ (upd (upd H P (.tbl (ps++more))) c' (a2L c' qual)) { s with heap:=h',toks:=t' }:=by
 have hPl:P<s.heap.objs.size:=I.hok.lt hP;have hPc:P≠c':=Nat.ne_of_lt (Nat.lt_of_lt_of_le hPl hge);have hcn:H c'=none:=I.hok.fresh hge;have atP:upd (upd H P (.tbl (ps++more))) c' (a2L c' qual) P=some (.tbl (ps++more)):=by rw [i5 hPc,upd_same]
 have nP:∀ b o,H b=some o->(∀ qs,o≠.tbl qs)->upd (upd H P (.tbl (ps++more))) c' (a2L c' qual) b=some o:=λ b o e n=>by
  rw [i5 (i6 e hcn),i5 (λ z=>by subst z; rw [e] at hP; exact n _ (Option.some.inj hP))];exact e
 have neP:∀ b,H b=none->b≠P:=λ b n z=>by subst z; rw [hP] at n; cases n
 obtain ⟨cc,oc,vs,tt,z,gc,gr⟩:=id hcr;have z':c'=cc:=Value.ref.inj z;subst z';refine I.un ⟨λ b o e n _ _=>hx b o (neP b n) e,λ b o e n _ _=>⟨o.slots,hx b o (neP b n) e⟩,λ b o e n _=>?_,λ b o e _=>?_,λ b xs e=>nP b _ e (λ _=>nofun),λ b o u e=>nP b _ e (λ _=>nofun),λ b qs e=>?_⟩ λ b u e=>?_
 ·rw [i5 (Nat.ne_of_lt (Nat.lt_of_lt_of_le (Heap.lt_size e) hge)),i5 (neP b n)]; exact n
 ·by_cases hb:b=P
  ·subst hb; exact ⟨_,htb⟩
  ·exact ⟨o,hx b o hb e⟩
 ·by_cases hb:b=P
  ·subst hb
   rw [e] at hP
   cases hP;exact ⟨more,atP⟩
  ·refine ⟨#[],?_⟩
   rw [i5 (i6 e hcn),i5 hb,e]; simp
 ·by_cases hb:b=c'
  ·subst hb
   rw [upd_same] at e
   cases e;exact a7D gc hcr
  ·rw [i5 hb] at e
   by_cases hb2:b=P
   ·subst hb2
    rw [upd_same] at e
    cases e;exact htb
   ·rw [i5 hb2] at e
    refine (I.hok b u e).stay (λ d v hd g=>hx d v (λ z=>?_) g) (λ d g=>nP d _ g λ _=>nofun) λ d xs g=>nP d _ g λ _=>nofun;subst z;rcases hd with w | w
    ·exact hb2 w.symm
    ·rw [hP] at w; cases w
theorem a7E {Q:Value->Shared->Prop} {E:Value->Shared->Prop} (I:Inv X pins σ H s) (hcode:X.env.code=.ref c) (C:W.CodeHd X.base c P) (B:V6 X.mg X.base) (T:LamTab P pos (X.env.qual++"<lambda>") H)
  (h:a0v X.env.scope scope X.N fr=true) (hdef:defaultsOf params X.env=([],[]))
  (q:∀ f c' ctv pm H' s',Inv X ((f,W.kla_obj "<lambda>" (X.env.qual++"<lambda>") params body scope (clo X.env scope.names []) pm c' ctv)::pins) σ H' s'->LamTab P pos (X.env.qual++"<lambda>") H'->Same1 P H H' →
   H' c'=some (a2L c' (X.env.qual++"<lambda>"))->(∀ b,b<s.heap.objs.size->H b=none->H' b=none)->Q (.ref f) s') :
  wpAny (model X.prog X.w) X.A (eval (.Lambda params body scope pos) X.env) Q E s:=by
 have hcl:=K3 (U1 I h);have hg:s.heap.Ns mainGlobals X.mg:=I.mod.glob.keeps I.bk;obtain ⟨bm,ob,b1,b2,b3,b4,b5,b6⟩:=B;have Pg:∀ ps,s.heap.get? P=some (W.tabObj ps)->mainGlobals≠P:=λ ps e z=>by
  obtain ⟨o,es,ep,e1,hd,_⟩:=hg;rw [z,e] at e1; cases e1; cases hd
 have Pb:∀ ps,s.heap.get? P=some (W.tabObj ps)->bm≠P:=λ ps e z=>by
  have e1:=I.bk _ _ b3;rw [z,e] at e1; cases e1; cases b4
 have bg:bm≠mainGlobals:=λ z=>by
  obtain ⟨o,es,ep,e1,hd,_⟩:=I.mod.glob;rw [z,e1] at b3; cases b3; rw [hd] at b6; cases b6
 refine W.kla_eval hdef ?_;rcases T with T | ⟨c',T,Tc⟩
 ·have hP:s.heap.get? P=some (W.tabObj #[]):=I.hok P _ T
  refine W.kla_makeFunction (mg:=X.mg) hcl I.ok.glob hg hcode (C.keeps I.bk) hP trivial rfl (Pg _ hP) ⟨bm,ob,b1,b2,bg,Pb _ hP,I.bk _ _ b3,b4,b5,b6⟩ λ c' ctv h' tk hx hge hlt hrec htb=>?_;have J:=I.grown (t':=tk) (more:=#[rawInt pos.line,rawInt pos.col,.ref c']) T hx hge hrec htb;have hsz:s.heap.objs.size<=h'.objs.size:=Nat.le_trans hge (Nat.le_of_lt hlt);have hPl:P<s.heap.objs.size:=I.hok.lt T;have J2:=J.kept (h':=h'.push (W.kla_obj "<lambda>" (X.env.qual++"<lambda>") params body scope (clo X.env scope.names []) ((X.mg "__name__").getD .none) c' ctv)) (t':=tk) λ b u e=>Heap.get?_push_of_some _ e;have hPc:P≠c':=Nat.ne_of_lt (Nat.lt_of_lt_of_le hPl hge);refine q _ c' ctv ((X.mg "__name__").getD .none) _ _ (J2.pins_of λ p hp=>?_) (.inr ⟨c',?_,upd_same⟩) (λ b o hb e=>?_) upd_same λ b hb e=>?_
  ·rcases List.mem_cons.mp hp with rfl | hp
   ·refine ⟨Heap.get?_push_size _ rfl,J.hok.fresh (Nat.le_refl _),Nat.ne_of_gt (Nat.lt_of_lt_of_le I.lt hsz),I.nofs hsz,λ v=>nofun⟩
   ·exact J2.pin p (List.mem_append_right _ hp)
  ·rw [i5 hPc,upd_same]; rfl
  ·rw [i5 (i6 e (I.hok.fresh hge)),i5 hb]; exact e
  ·rw [i5 (Nat.ne_of_lt (Nat.lt_of_lt_of_le hb hge)),i5 (λ z=>by rw [z,T] at e; cases e)]; exact e
 ·have hP:s.heap.get? P=some (W.tabObj #[rawInt pos.line,rawInt pos.col,.ref c']):=I.hok P _ T
  have hf:codeAmong pos (#[rawInt pos.line,rawInt pos.col,Value.ref c']).toList=some (.ref c'):=by
   show codeAmong pos ([]++[rawInt pos.line,rawInt pos.col,Value.ref c'])=_
   exact codeAmong_snoc [] trivial rfl
  refine W.kla_makeFunctionHit (mg:=X.mg) hcl I.ok.glob hg hcode (C.keeps I.bk) hP trivial hf ⟨bm,ob,b1,b2,bg,Pb _ hP,I.bk _ _ b3,b4,b5,b6⟩ λ ctv h' tk hk hsz=>?_;have J:=I.kept (h':=h') (t':=tk) hk;have J2:=J.kept (h':=h'.push (W.kla_obj "<lambda>" (X.env.qual++"<lambda>") params body scope (clo X.env scope.names []) ((X.mg "__name__").getD .none) c' ctv)) (t':=tk) λ b u e=>Heap.get?_push_of_some _ e;refine q _ c' ctv ((X.mg "__name__").getD .none) _ _ (J2.pins_of λ p hp=>?_) (.inr ⟨c',T,Tc⟩) (λ b o hb e=>e) Tc λ b hb e=>e;rcases List.mem_cons.mp hp with rfl | hp
  ·exact ⟨Heap.get?_push_size _ rfl,J.hok.fresh (Nat.le_refl _),Nat.ne_of_gt (Nat.lt_of_lt_of_le I.lt hsz),I.nofs hsz,λ v=>nofun⟩
  ·exact J2.pin p (List.mem_append_right _ hp)
end
section
variable {X:Cx} {pins:List (Addr×Obj)} {σ:St} {H:Hp} {l It S fq:Addr} {ns:List Int} {g:Int->Int} {R:Result->Shared->Prop}
theorem Quiet.fp {s s':Shared} {b:Addr} {o:Obj} (k:Quiet X H s s') (f:V9 X pins H b) (e:s.heap.get? b=some o):s'.heap.get? b=some o:=k b o e f.1 f.2.1 f.2.2.1
theorem Inv.fpTurn {s:Shared} {h':Heap} {t':Nat} {b:Addr} (I:Inv X pins σ H s) (f:V9 X pins H b) (k:∀ c o,c≠b->s.heap.get? c=some o->h'.get? c=some o):Inv X pins σ H { s with heap:=h',toks:=t' } :=
 I.turned k f.1 f.2.1 f.2.2.2.1 f.2.2.2.2.1 f.2.2.2.2.2
def b2h (ns:List Int) (g:Int->Int) (j:Nat) (cont:List Value):Prop :=
 (cont=[]/\j=0)\/∃ M vb kb,cont=[vb,kb]/\M∈ns/\RelV (.int M) vb/\RelV (.int (g M)) kb/\∀ a∈ns.take j,g M<=g a
abbrev a8h (X:Cx) (pins:List (Addr×Obj)) (σ:St) (H:Hp) (fq:Addr) (ns:List Int) (g:Int->Int):Prop :=
 ∀ n∈ns,∀ (u:Value) (s:Shared) (Q:Value->Shared->Prop) (E:Value->Shared->Prop),Inv X pins σ H s->RelV (.int n) u →
  (∀ y s',RelV (.int (g n)) y->Inv X pins σ H s'->Quiet X H s s'->Q y s')->wpAny (model X.prog X.w) X.A.in1 (call (.ref fq) [u]) Q E s
theorem b0f (hc:X.calm=true) (hl:SqL X.K H l (ns.map V.int)) (turn:a8h X pins σ H fq ns g) (fI:V9 X pins H It) (fS:V9 X pins H S) (hIS:It≠S) (hIl:l≠It)
  (hN:ns=[]->∀ s',Inv X pins σ H s'->R (.ok (.ret .none)) s') (hR:∀ M∈ns,(∀ a∈ns,g M<=g a)->∀ y s',RelV (.int M) y->Inv X pins σ H s'->R (.ok (.ret y)) s') :
  ∀ (r j:Nat) (s:Shared) (cont:List Value) (cn:Nat),ns.length - j=r->j<=ns.length->Inv X pins σ H s->s.heap.IsListIter It l j->s.heap.get? S=some (seqObj "list" cont.toArray cn)->b2h ns g j cont →
   codeAny (model X.prog X.w) X.A (.builtin "min.loop" ⟨[.ref It,.ref fq,.ref S],[("default",.none)]⟩) R s:=by
 have nm:(toString "min"++toString ".loop":String)="min.loop":=by decide
 have hh:∀ {s:Shared},Inv X pins σ H s->X.A.in1.handled=none:=λ I=>I.ok.hd hc;intro r
 induction r with
 | zero =>
  intro j s cont cn hr hj I hit hS hb;have hjn:j=ns.length:=by omega
  obtain ⟨its,rv,pl,hz⟩:=I.list hl;have W:=Walks.list (prog:=X.prog) (w:=X.w) (A:=X.A.in1) (hh I) It l hIl its.toArray;have hsz:its.toArray.size=ns.length:=by rw [List.size_toArray,<- rv.length,List.length_map]
  refine codeAny_builtin F.entry_min_loop ?_; rw [Around.under_plainId F.plain_min_loop _];refine wpAny_bind (wpAny_seqItems hS rfl ?_);rcases hb with ⟨rfl,rfl⟩ | ⟨M,vb,kb,rfl,hM,rM,rK,best⟩
  ·show wpAny _ X.A.in1 (tryCatch (pyNext (.ref It)) _ >>= _) _ _ _
   refine wpAny_bind (wpAny_tryCatch (W.done _ _ _ ⟨by rw [hsz,<- hjn]; exact hit,pl.isList⟩ λ h' tk' hk'=>?_));have J:=I.fpTurn (h':=h') (t':=tk') fI λ c o n e=>hk' c o (by simpa using n) e
   show wpAny _ X.A.in1 (rule _ >>= _) _ _ _
   exact wpAny_bind (wpAny_rule (wpAny_pure (hN (List.length_eq_zero_iff.mp hjn.symm) _ J)))
  ·show wpAny _ X.A.in1 (tryCatch (pyNext (.ref It)) _ >>= _) _ _ _
   refine wpAny_bind (wpAny_tryCatch (W.done _ _ _ ⟨by rw [hsz,<- hjn]; exact hit,pl.isList⟩ λ h' tk' hk'=>?_));have J:=I.fpTurn (h':=h') (t':=tk') fI λ c o n e=>hk' c o (by simpa using n) e;have hS':=hk' S _ (by simpa using hIS.symm) hS;have s1:=Heap.SameBut.update h' S (Obj.mapSeq λ _=>(#[]:Array Value))
   show wpAny _ X.A.in1 (updateSeq S (λ _=>#[]) >>= _) _ _ _
   refine wpAny_bind (wpAny_updateSeq hS' rfl (wpAny_bind (wpAny_letGo (wpAny_pure ?_))));exact hR M hM (λ a ha=>best a (by rw [hjn,List.take_length]; exact ha)) vb _ rM (J.fpTurn fS λ c o n e=>(s1.2 c n).trans e)
 | succ r ih =>
  intro j s cont cn hr hj I hit hS hb;have hlt:j<ns.length:=by omega
  obtain ⟨its,rv,pl,hz⟩:=I.list hl;have W:=Walks.list (prog:=X.prog) (w:=X.w) (A:=X.A.in1) (hh I) It l hIl its.toArray;have hsz:its.toArray.size=ns.length:=by rw [List.size_toArray,<- rv.length,List.length_map]
  refine codeAny_builtin F.entry_min_loop ?_; rw [Around.under_plainId F.plain_min_loop _];refine wpAny_bind (wpAny_seqItems hS rfl ?_);have go:∀ (old:List Value) (kx:Value->Sem (Option Value)) (B:Option Value->Sem PySem.Fin) (Q:PySem.Fin->Shared->Prop) (E:Value->Shared->Prop),
    (∀ v h' tk',RelV (.int ns[j]) v->Inv X pins σ H { s with heap:=h',toks:=tk' }->h'.IsListIter It l (j+1)->h'.get? S=some (seqObj "list" cont.toArray cn)->wpAny (model X.prog X.w) X.A.in1 (B (some v)) Q E { s with heap:=h',toks:=tk' }) →
    wpAny (model X.prog X.w) X.A.in1 (tryCatch (pyNext (.ref It)) kx >>= B) Q E s:=by
   intro old kx B Q E hB;refine wpAny_bind (wpAny_tryCatch (W.item j _ _ _ (by rw [hsz]; exact hlt) ⟨hit,pl.isList⟩ λ v h' tk' hP hst' hk'=>?_));have hv:(ns.map V.int)[j]?=some (V.int ns[j]):=by rw [List.getElem?_map,List.getElem?_eq_getElem hlt]; rfl
   obtain ⟨u,hu,ru⟩:=rv.get hv;have hP':its[j]?=some v:=by simpa using hP
   rw [hu] at hP'
   cases hP';exact hB _ h' tk' ru (I.fpTurn fI λ c o n e=>hk' c o (by simpa using n) e) hst'.1 (hk' S _ (by simpa using hIS.symm) hS)
  have hn:ns[j]∈ns:=List.getElem_mem hlt;have tk1:∀ a∈ns.take (j+1),a∈ns.take j\/a=ns[j]:=λ a ha=>by
   rw [List.take_succ_eq_append_getElem hlt] at ha;rcases List.mem_append.mp ha with z | z
   ·exact .inl z
   ·exact .inr (List.mem_singleton.mp z)
  rcases hb with ⟨rfl,rfl⟩ | ⟨M,vb,kb,rfl,hM,rM,rK,best⟩
  ·show wpAny _ X.A.in1 (tryCatch (pyNext (.ref It)) _ >>= _) _ _ _
   refine go [] _ _ _ _ λ v h' tk' rv' J hit' hS'=>?_
   show wpAny _ X.A.in1 (tryCatch (holding [v] (call (.ref fq) [v])) _ >>= _) _ _ _
   refine wpAny_bind (wpAny_tryCatch (wpAny_holding (turn _ hn v _ _ _ J rv' λ y s2 ry J2 qu=>?_)));have hS2:=qu.fp fS hS';obtain ⟨oI,hoI,hoc,hod⟩:=hit';have hI2:=qu.fp fI hoI;have s1:=Heap.SameBut.update s2.heap S (Obj.mapSeq λ _=>#[v,y]);obtain ⟨c2,hc2⟩:∃ c2,(s2.heap.update S (Obj.mapSeq λ _=>#[v,y])).get? S=some (seqObj "list" #[v,y] c2):=⟨_,get?_update_seq hS2 λ _=>#[v,y]⟩
   show wpAny _ X.A.in1 (updateSeq S (λ _=>#[v,y]) >>= _) _ _ _
   refine wpAny_bind (wpAny_updateSeq hS2 rfl ?_);rw [nm];refine wpAny_pure ⟨plainId_quiet F.plain_min_loop _,ih (0+1) _ [v,y] c2 (by omega) hlt (J2.fpTurn fS λ c o n e=>(s1.2 c n).trans e) ⟨oI,(s1.2 It hIS).trans hI2,hoc,hod⟩ hc2 (.inr ⟨ns[0],v,y,rfl,hn,rv',ry,λ a ha=>?_⟩)⟩;rcases tk1 a ha with z | z
   ·simp at z
   ·rw [z]; exact Int.le_refl _
  ·show wpAny _ X.A.in1 (tryCatch (pyNext (.ref It)) _ >>= _) _ _ _
   refine go [] _ _ _ _ λ v h' tk' rv' J hit' hS'=>?_
   show wpAny _ X.A.in1 (tryCatch (holding [v] (call (.ref fq) [v])) _ >>= _) _ _ _
   refine wpAny_bind (wpAny_tryCatch (wpAny_holding (turn _ hn v _ _ _ J rv' λ y s2 ry J2 qu=>?_)));have hS2:=qu.fp fS hS';obtain ⟨oI,hoI,hoc,hod⟩:=hit';have hI2:=qu.fp fI hoI;obtain ⟨t2,rfl⟩:=ry;obtain ⟨tb,rfl⟩:=rK
   show wpAny _ X.A.in1 (tryCatch (holding [v,.int (g ns[j]) t2] (richCompare .Lt (.int (g ns[j]) t2) (.int (g M) tb) >>= _)) _ >>= _) _ _ _
   refine wpAny_bind (wpAny_tryCatch (wpAny_holding (wpAny_bind (CmpOf.ints_lt (prog:=X.prog) (w:=X.w) (A:=X.A.in1) (P:=λ i v=>∃ t,v=.int ([g ns[j],g M].getD i 0) t) (λ i=>[g ns[j],g M].getD i 0) (λ i v h=>h) 0 1 _ _ _ _ _ ⟨t2,rfl⟩ ⟨tb,rfl⟩ ?_))));refine wpAny_bind (wpAny_holding (wpAny_truthy_bool (wpAny_bind (wpAny_letGo (wpAny_pure ?_)))));have e01:(λ i j_1=>decide ([g ns[j],g M].getD i 0<[g ns[j],g M].getD j_1 0)) 0 1=decide (g ns[j]<g M):=rfl;rw [e01]
   by_cases hb':g ns[j]<g M
   ·have s1:=Heap.SameBut.update s2.heap S (Obj.mapSeq λ _=>#[v,.int (g ns[j]) t2])
    obtain ⟨c2,hc2⟩:∃ c2,(s2.heap.update S (Obj.mapSeq λ _=>#[v,.int (g ns[j]) t2])).get? S=some (seqObj "list" #[v,.int (g ns[j]) t2] c2):=⟨_,get?_update_seq hS2 λ _=>#[v,.int (g ns[j]) t2]⟩;simp only [hb',decide_true,if_true];refine wpAny_bind (wpAny_updateSeq hS2 rfl (wpAny_bind (wpAny_letGo ?_)));rw [nm];refine wpAny_pure ⟨plainId_quiet F.plain_min_loop _,ih (j+1) _ [v,.int (g ns[j]) t2] c2 (by omega) hlt (J2.fpTurn fS λ c o n e=>(s1.2 c n).trans e) ⟨oI,(s1.2 It hIS).trans hI2,hoc,hod⟩ hc2 (.inr ⟨ns[j],v,_,rfl,hn,rv',⟨t2,rfl⟩,λ a ha=>?_⟩)⟩;rcases tk1 a ha with z | z
    ·have:=best a z; omega
    ·rw [z]; exact Int.le_refl _
   ·simp only [hb',decide_false,Bool.false_eq_true,if_false]
    refine wpAny_bind (wpAny_letGo ?_);rw [nm];refine wpAny_pure ⟨plainId_quiet F.plain_min_loop _,ih (j+1) _ [vb,.int (g M) tb] cn (by omega) hlt J2 ⟨oI,hI2,hoc,hod⟩ hS2 (.inr ⟨M,vb,_,rfl,hM,rM,⟨tb,rfl⟩,λ a ha=>?_⟩)⟩;rcases tk1 a ha with z | z
    ·exact best a z
    ·rw [z]; omega
theorem b0p {s:Shared} {Q:Value->Shared->Prop} {E:Value->Shared->Prop} (hc:X.calm=true) (I:Inv X pins σ H s) (hl:SqL X.K H l (ns.map V.int)) (turn:a8h X pins σ H fq ns g)
  (hN:ns=[]->∀ s',Inv X pins σ H s'->Q .none s') (hR:∀ M∈ns,(∀ a∈ns,g M<=g a)->∀ y s',RelV (.int M) y->Inv X pins σ H s'->Q y s') :
  wpAny (model X.prog X.w) X.A (call (.builtin "min") [.ref l] [("key",.ref fq),("default",.none)]) Q E s:=by
 have nm:(toString "min"++toString ".loop":String)="min.loop":=by decide
 have ha:argsOk "min" ⟨[.ref l],[("key",.ref fq),("default",.none)]⟩:=by unfold argsOk; rfl
 obtain ⟨its,rv,pl,hz⟩:=I.list hl;have hlt:l<s.heap.objs.size:=by obtain ⟨_,e,_⟩:=pl.isList; exact Heap.lt_size e
 refine kmk_tree F.kind_min F.plain_min F.entry_min ha ?_
 show wpAny _ X.A.in1 (Builtin.Builtins.bindParams "min" ["key","default"] 0 ⟨[],[("key",.ref fq),("default",.none)]⟩ >>= _) _ _ s
 refine wpAny_bind (wpAny_of_eq (show Builtin.Builtins.bindParams "min" ["key","default"] 0 ⟨[],[("key",.ref fq),("default",.none)]⟩=pure [some (.ref fq),some .none] from rfl) (wpAny_bind (wpAny_pure ?_)));refine wpAny_bind (wpAny_pyIter_list pl.isList (wpAny_bind (wpAny_newList ?_ (Nat.zero_le _))));rw [nm];have I1:=I.kept (h':=s.heap.push { cls:=.type "list_iterator",data:=.fields #[.ref l,.int 0 0] }) (t':=s.toks) λ b u e=>Heap.get?_push_of_some _ e;have I2:=I1.kept (h':=(s.heap.push { cls:=.type "list_iterator",data:=.fields #[.ref l,.int 0 0] }).push (seqObj "list" #[] 0)) (t':=s.toks) λ b u e=>Heap.get?_push_of_some _ e;have hS:(s.heap.push { cls:=.type "list_iterator",data:=.fields #[.ref l,.int 0 0] }).objs.size=s.heap.objs.size+1:=size_push' ..;have fI:V9 X pins H s.heap.objs.size:=I.fpOk (Nat.le_refl _) (I.hok.fresh (Nat.le_refl _));have fS:V9 X pins H (s.heap.push { cls:=.type "list_iterator",data:=.fields #[.ref l,.int 0 0] }).objs.size:=I.fpOk (by rw [hS]; omega) (I.hok.fresh (by rw [hS]; omega));refine wpAny_pure ⟨plainId_quiet F.plain_min_loop _,b0f hc hl turn fI fS (Nat.ne_of_lt (by rw [hS]; exact Nat.lt_succ_self _)) (Nat.ne_of_lt hlt) hN hR _ 0 _ [] 0 rfl (Nat.zero_le _) I2 ⟨_,Heap.get?_push_of_some _ (Heap.get?_push_size _ rfl),rfl,rfl⟩ (Heap.get?_push_size _ rfl) (.inl ⟨rfl,rfl⟩)⟩
end
theorem SqL.same1 {K:W.Frag} {P:Addr} {pos:Pos} {qual:Str} {H H':Hp} {a:Addr} {xs:List V} (T:LamTab P pos qual H) (e:Same1 P H H') (h:SqL K H a xs):SqL K H' a xs:=by
 have ne:∀ o,H a=some o->(∀ ps,o≠.tbl ps)->a≠P:=λ o q n z=>by
  subst z;rcases T with t | ⟨c,t,_⟩
  ·rw [q] at t; exact n _ (Option.some.inj t)
  ·rw [q] at t; exact n _ (Option.some.inj t)
 rcases h with (h | ⟨o,h⟩) | h
 ·exact .inl (.inl (e _ _ (ne _ h λ _=>nofun) h))
 ·exact .inl (.inr ⟨o,e _ _ (ne _ h λ _=>nofun) h⟩)
 ·exact .inr h
def a9Q (K:W.Frag) (P:Addr) (lpos:Pos) (qual:Str) (fr:List Nat) (t:TA) (tb:TE):TE:=λ σ H Q=>t σ H λ vs H1=>∃ (l:Addr) (ns:List Int) (g:Int->Int),vs=[.ref l]/\SqL K H1 l (ns.map V.int)/\LamTab P lpos qual H1 ∧
 ∀ H2,Same1 P H1 H2->LamTab P lpos qual H2->(∀ n∈ns,tb (some (.int n)::frv fr σ) H2 λ y H'=>y=.int (g n)/\H'=H2)/\(ns=[]->Q .non H2)/\∀ M∈ns,(∀ a∈ns,g M<=g a)->Q (.int M) H2
section
variable {X:Cx} {e body:Expr} {es:List Expr} {t:TA} {tb:TE} {fr:List Nat} {scope:Scope} {col:Str} {c P:Addr} {params:Arguments} {p pos lpos kp1 kp2 cp:Pos} {cj:Nat}
theorem a6H (hc:X.calm=true) (hr:Room 2 X.A) (hg:Gl X "min") (hm:X.mg "min"=none) (hcode:X.env.code=.ref c) (C:W.CodeHd X.base c P) (B:V6 X.mg X.base) (hlc:a0v X.env.scope scope X.N fr=true) (hk:scope.kind=.function)
  (hcell:∀ x∈scope.names,x.2≠.cell) (hcol:scope.names.lookup col=some .local) (hco:scope.isCoroutine=false) (hgen:scope.isGenerator=false)
  (hb:∀ (pm ctv:Value) (c':Addr) (u:Value),bindArgs (W.kla_fn "<lambda>" (X.env.qual++"<lambda>") params body scope (clo X.env scope.names []) pm (.ref c') ctv) ⟨[u],[]⟩=pure [(col,u)])
  (ha:PA X [e] t) (hbody:∀ (f:Addr) (cd:Value) (s:Shared) (H:Hp),PE (a6p X col fr (X.env.qual++"<lambda>") scope f cd X.A.in1 s H) body tb) (hdef:defaultsOf params X.env=([],[]):=by rfl)
  (he:backTo pos (starEach [e] X.env)=(false,eval e X.env)::backTo pos (starEach [] X.env):=by rfl) (hpl:(backTo pos (starEach [e] X.env)).any (·.1)=false:=by rfl) :
  PE X (.Call (.Name "min" p) [e] [⟨some "key",.Lambda params body scope lpos,kp1⟩,⟨some "default",.Constant .none cj cp,kp2⟩] pos) (a9Q X.K P lpos (X.env.qual++"<lambda>") fr t tb):=by
 intro pins s σ H Q I h;refine wpAny_Call_Name_kw (a0h I hg hm (u:=.builtin "min") rfl ?_);refine PyProof.Rows.callWith_kw (G5 (ha pos pins s σ H _ I h) λ us s1 ⟨vs,H1,I1,r,l,ns,g,ev,hl,T,q⟩=>?_) he hpl;subst ev;obtain ⟨u,rfl,ru⟩:=S3 r
 cases ru
 show wpAny _ _ (evalAll [(do let v <- eval (.Lambda params body scope lpos) X.env; standAt pos; pure v),(do let v <- eval (.Constant .none cj cp) X.env; standAt pos; pure v)]) _ _ s1
 refine wpAny_evalAll_cons (wpAny_bind (a7E I1 hcode C B T hlc hdef λ f c' ctv pm H2 s2 I2 T2 e2 Hc' _=>wpAny_bind (wpAny_standAt (wpAny_pure ?_))));refine wpAny_evalAll_cons (wpAny_bind (Constant_none (wpAny_bind (wpAny_standAt (wpAny_pure (wpAny_evalAll_nil ?_))))));obtain ⟨q1,q2,q3⟩:=q H2 e2 T2;have hl2:=hl.same1 T e2;have drop:∀ {po:Addr×Obj} {s'},Inv X (po::pins) σ H2 s'->Inv X pins σ H2 s':=λ J=>J.pins_of λ p hp=>J.pin p (List.mem_append_right _ (List.mem_cons_of_mem _ hp));have hd':X.A.in1.depth<recursionLimit:=by
  have z:X.A.in1.depth+3*1+5<recursionLimit:=hr.in1.dp;omega
 refine b0p (g:=g) hc I2 hl2 (λ n hn u s3 Q3 E3 I3 ru k3=>?_) (λ en s3 I3=>⟨.non,H2,drop I3,rfl,q2 en⟩) λ M hM hmin y s3 ry I3=>⟨.int M,H2,drop I3,ry,q3 M hM hmin⟩;obtain ⟨cr,_,_⟩:=I3.hok c' _ Hc';exact a8C (k:=.int (g n)) I3 I3.ok.frames rfl hd' hk hlc hcell hcol hco hgen (I3.pin _ (List.mem_append_right _ List.mem_cons_self)).1 cr (hb pm ctv c') (hbody f (.ref c') s3 H2) ru (q1 n hn) k3
end
section
variable {X:Cx} {os:List Str} {fr:List Nat} {scope:Scope} {elt tg iter:Expr} {pos:Pos} {wi:TI} {g:TG} {te:TE}
theorem b1M {c:Expr} {tc:TT} {i:Nat} {x:Str} {pos' spos:Pos} (os:List Str) (fr:List Nat) (hN:X.N.Nodup) (hi':X.N[i]?=some x) (hx:X.env.scope.names.lookup x=some .local)
  (hc:X.calm=true) (hi:PI X tg iter wi) (hg:∀ C fp s₀ H₀,PG (blk X os fr scope C fp s₀ H₀) tg g) (ht:∀ C fp s₀ H₀,PT (blk X os fr scope C fp s₀ H₀) c tc) (he:∀ C fp s₀ H₀,PE (blk X os fr scope C fp s₀ H₀) elt te)
  (hsw:swapsWith (.ListComp elt [⟨tg,iter,[c],0⟩] scope pos) (some (.Name x pos')) spos.line X.env=pure true:=by rfl)
  (hk:scope.kind=.function:=by rfl) (hok:a0v X.env.scope scope X.N fr=true:=by rfl) (hs:∀ x,foldedSetIterable iter X.env x=pure x:=by intro _; rfl) :
  PS X (.Assign [.Name x pos'] (.ListComp elt [⟨tg,iter,[c],0⟩] scope pos) spos) (a7k (b2L os.length fr wi g tc te) (P9 i)):=by
 intro pins s σ H D I h;unfold a7k at h;rw [exec_Assign_Name_used _ _ _ _ hsw];refine wpAny_bind (wpAny_standAt (wpAny_bind ?_))
 show wpAny _ X.A (do let _ <- comprehension (.ListComp elt [⟨tg,iter,[c],0⟩] scope pos) scope X.env _ (newList []) false (eval iter X.env) (some (assign (.Name x pos') X.env))) _ _ s
 refine wpAny_bind (wpAny_mono (wpAny_comprehension_free (use:=some (assign (.Name x pos') X.env)) (Q:=λ _ s'=>SP X pins D .next s') rfl hs (K3 (U1 I hok)) hk (λ x hx hl=>by have:=(R4 hok x hx).1; rw [hl] at this; exact this)
  (G5 (hi pins s σ H _ I h) λ v s1 h1=>G5 h1 λ itv s2 h2=>?_)) (λ _ s' hq=>wpAny_pure (wpAny_pure hq)) λ _ _ e=>e)
 refine a0y (os:=os) (D:=λ p H'=>D.nx (σ.set i (some (.ref p))) H') (RR:=λ acc C=>compPost (model X.prog X.w) X.A X.xe (some (assign (.Name x pos') X.env)) (λ _ s'=>SP X pins D .next s') acc C) hc hg (λ _ _ _ _=>a4s (ht _ _ _ _)) he hk hok h2 ?_;intro p C s3 H3 s' H' I3 eC hn I' ⟨m,hm⟩ q
 show wpAny _ X.A (assign (.Name x pos') X.env (.ref p)) _ _ _
 refine wpAny_assign_Name (a0T (v:=.ref p) I' hN hi' (.inl hx) rfl (λ s'' I'' ⟨a,hsa,ha⟩=>?_) (.inr hx));have hCa:C≠a:=by
  rcases ha with e | e
  ·rw [e]; exact Nat.ne_of_gt (by rw [<- eC]; exact I3.lt)
  ·obtain ⟨v,z⟩:=I3.cell x a e
   exact Nat.ne_of_gt (by rw [<- eC]; exact z.lt)
 exact ⟨m,hm.sameBut hsa hCa,λ h' hs'=>⟨_,H',I3.letgo I'' hn (by omega) hs',q⟩⟩
theorem a3t (K:W.Frag) {e:Expr} {f:Str} {ta:TE} (h:X.K=K) (he:PE X e ta) (hb:attributeBase e f X.env (eval e X.env)=eval e X.env):PE X (.Attribute e f pos) (b3k K ta f):=by subst h; exact A7 he hb
end
section
variable {fr:List Nat} {tc:TT} {σ:St} {J:It} {H1:Hp} {p:Addr} {D:Hp->Prop} {xs:List V}
theorem b0o (hJ:a4W J H1 xs) (hp:H1 p=none) (hz:xs.length<sizeLine) (F:V->Bool)
  (step:∀ (i:Nat) x H (N:Bool->Hp->Prop),xs[i]?=some x->Same H1 H->N (F x) H->tc ((blkσ 1 fr σ).set 0 (some x)) H N)
  (hd:D (upd H1 p (.lst (xs.filter F)))):lcI 1 fr (P9 0) tc (a4T 0) σ J H1 p D:=by
 refine ⟨λ i m ys H=>m=xs.length - i/\i<=xs.length/\ys=(xs.take i).filter F/\H=upd H1 p (.lst ys),⟨xs.length,by simp,Nat.zero_le _,by simp,rfl⟩,?_⟩;rintro i m ys H ⟨rfl,hi,rfl,rfl⟩;have e:=Same.new (o:=.lst ((xs.take i).filter F)) hp
 by_cases hlt:i<xs.length
 ·refine .inr ⟨hJ.go i _ e hlt,λ x H' y=>?_⟩
  obtain ⟨rfl,hx⟩:=hJ.yld i _ x H' e hlt y;have tk:(xs.take (i+1)).filter F=(xs.take i).filter F++[x].filter F:=by rw [List.take_succ,hx,List.filter_append]; rfl
  refine ⟨Wk.set (by decide),step i x _ _ hx e ?_⟩
  cases hq:F x with
  | false =>
   rw [if_neg Bool.false_ne_true];refine ⟨xs.length - (i+1),by omega,rfl,hlt,?_,rfl⟩;rw [tk]; simp [hq]
  | true =>
   rw [if_pos rfl];refine ⟨x,?_,upd_same,?_,xs.length - (i+1),by omega,rfl,hlt,?_,a1q⟩
   ·show ((blkσ 1 fr σ).set 0 (some x))[0]?=some (some x)
    rw [List.getElem?_set_self (by simp [blkσ])]
   ·have h1:=List.length_filter_le F (xs.take i)
    rw [List.length_take] at h1;omega
   ·rw [tk]; simp [hq]
 ·have:i=xs.length:=by omega
  subst this;refine .inl ⟨hJ.stop _ e,?_⟩;rw [List.take_of_length_le (Nat.le_refl _)]; exact hd
end
section
variable {P:Program} {w:World} {K:W.Frag} {mg:Str->Option Value} {base:Heap}
theorem Fun.okC {x qual:Str} {st:Stmt} {f c:Addr} {fd:FuncData} {N ps:List Str} {k:Nat} {sp:Sp} (F:Fun K x qual st f fd) (hc:fd.code=.ref c) (S:r8 N ps (i3 st)) (len:∀ vs H Q E,sp vs H Q E->vs.length=ps.length)
  (hbody:∀ (A:Around) (outer:List Env) (s:Shared) (H:Hp) (vs:List V) (Q:VK) (E:XK),Room k (A.deeper (envOfC qual (i3 st) s.heap.objs.size f (.ref c)))->sp vs H Q E →
   ∃ t,PSs (G9 G2 P w K mg base N qual (i3 st) f (.ref c) A outer s H E).nox (t9 st) t/\t { nx:=λ _ H'=>Q .non H',rt:=Q } (X5 N vs) H):FnOk P w K mg base G2 (k+1) f fd ps sp:=by
 obtain ⟨oc,od,kV,doc,pm,an,cdv,ct,osl,rfl,lk,hcd⟩:=F.ex;have e:cdv=.ref c:=hc;subst e;refine a8J lk hcd S len λ A outer s H vs Q E hr hsp=>?_;obtain ⟨t,h,q⟩:=hbody A outer s H vs Q E hr hsp;exact ⟨t,h.nox,q⟩
end
end L2
namespace L2
open PySem
section
variable {xs ys:List V} {K:W.Frag} {l1 l2:Addr} {fr:List Nat} {te:TE} {σ:St} {H1:Hp} {p:Addr} {D:Hp->Prop}
end
theorem A4 {G0:St->Hp->Prop} {σ:St} {H:Hp} (h:∀ G:St->Hp->Prop,G=G0->G σ H):G0 σ H:=h G0 rfl
section
variable {X:Cx} {st:Stmt} {rest:List Stmt} {t u:TS}
def b4f (t u:TS):TS:=λ D σ H=>∃ M:St->Hp->Prop,t { D with nx:=M } σ H/\∀ σ' H',M σ' H'->u D σ' H'
theorem p6 (h1:PS X st t) (h2:PSs X rest u):PSs X (st::rest) (b4f t u):=by
 intro pins s σ H D I ⟨M,h,hM⟩;refine wpAny_execs_cons (G5 (h1 pins s σ H { D with nx:=M } I h) λ f s1 q=>?_)
 cases f with
 | next =>
  obtain ⟨σ',H',I',q⟩:=q;exact h2 pins s1 σ' H' D I' (hM _ _ q)
 | ret v=>exact q
 | brk=>exact q
 | cont=>exact q
end
end L2
namespace Rim
open PySem L2
theorem a0U (xs:List V) (k:Nat) (h:k<=xs.length):E5 xs none (some (k:Int))=xs.take k:=by
 unfold E5;rw [HT.sIx_none,HT.sIx_nat,List.drop_zero]
 congr 1
 omega
theorem a1S (xs:List V) (k:Nat) (h:k<=xs.length):E5 xs (some (k:Int)) none=xs.drop k:=by
 unfold E5;rw [HT.sIx_none,HT.sIx_nat,Nat.min_eq_left h];exact List.take_of_length_le (by rw [List.length_drop]; exact Nat.le_refl _)
end Rim
namespace L2
open PySem PySem.Spec PyProof.Rows
section
variable {X:Cx}
theorem a7p:N6 X (.type "range") (λ vs H Q=>∃ j:Int,vs=[.int j]/\∀ p,H p=none->Q (.ref p) (upd H p (.rng 0 j))):=by
 intro pins s σ H vs us Q I r h;obtain ⟨j,rfl,q⟩:=h;obtain ⟨u,rfl,t,rfl⟩:=S3 r;refine call_range_1 ⟨.ref s.heap.objs.size,_,I.laid (o:=.rng 0 j) (λ b u e=>Heap.get?_push_of_some _ e) (Nat.le_refl _) ⟨_,_,_,Heap.get?_push_size _ rfl⟩,rfl,q _ (I.hok.fresh (Nat.le_refl _))⟩
theorem a6K:N6 X (.type "range") (λ vs H Q=>∃ i j:Int,vs=[.int i,.int j]/\∀ p,H p=none->Q (.ref p) (upd H p (.rng i j))):=by
 intro pins s σ H vs us Q I r h;obtain ⟨i,j,rfl,q⟩:=h;obtain ⟨u,v,rfl,⟨t,rfl⟩,t',rfl⟩:=a4g r;refine call_range_2 ⟨.ref s.heap.objs.size,_,I.laid (o:=.rng i j) (λ b u e=>Heap.get?_push_of_some _ e) (Nat.le_refl _) ⟨_,_,_,Heap.get?_push_size _ rfl⟩,rfl,q _ (I.hok.fresh (Nat.le_refl _))⟩
theorem a1z:∀ (n:Nat) (acc:List Value) (F:Nat->Int),acc.length=n->(∀ j v,acc[j]?=some v->∃ t,v=Value.int (F j) t)->Vals ((List.range n).map λ i=>V.int (F i)) acc
 | 0,[],_,_,_=>.nil
 | n+1,a::acc,F,hl,h=>by
  rw [List.range_succ_eq_map,List.map_cons,List.map_map];refine .cons (h 0 a rfl) ?_;exact a1z n acc (λ i=>F (i+1)) (by simpa using hl) λ j v e=>h (j+1) v (by simpa using e)
theorem Z6 (hc:X.calm=true):N6 X (.type "list") (λ vs H Q=>∃ (p:Addr) (lo:Int) (n:Nat),vs=[.ref p]/\H p=some (.rng lo (lo+n))/\-(2 ^ 60)<=lo/\lo<2 ^ 60/\n<=1000/\∀ l,H l=none->Q (.ref l) (upd H l (.lst ((List.range n).map λ (i:Nat)=>V.int (lo+(i:Int)))))):=by
 intro pins s σ H vs us Q I r h;obtain ⟨p,lo,n,rfl,hp,h1,h2,hn,q⟩:=h;obtain ⟨u,rfl,ru⟩:=S3 r
 cases ru;obtain ⟨t,u,v,e⟩:=I.hok p _ hp;have hsz:Builtin.Range.rangeSize lo (lo+n) 1=n:=by rw [rangeSize_one]; split <;> omega
 refine call_list_range (I.ok.hd hc) e (small_one (by omega) (by omega) (by omega) (by omega)) hsz (by omega) λ h' tk acc' c' hk hS hacc=>?_;have hv:Vals ((List.range n).map λ (i:Nat)=>V.int (lo+(i:Int))) acc'.toList:=a1z n acc'.toList (λ i=>lo+(i:Int)) (by simpa using hacc.1) λ j v e=>by
  obtain ⟨t,et⟩:=hacc.2 j v (by simpa using e);exact ⟨t,by rw [et,Int.mul_one]⟩
 have h9:n<=sizeLine:=Nat.le_trans hn (by decide);refine ⟨.ref s.heap.objs.size,_,I.laid (o:=.lst ((List.range n).map λ (i:Nat)=>V.int (lo+(i:Int)))) (t':=tk) hk (Nat.le_refl _) ⟨by simpa using h9,acc'.toList,c',hv,by simpa using hS⟩,rfl,q _ (I.hok.fresh (Nat.le_refl _))⟩
end
end L2
namespace Lp
abbrev G3:=Nat->Int
def tl (v:G3):G3:=λ i=>v (i+1)
def U0 (a:Int) (u:G3) (b:Int) (v:G3):G3:=λ i=>a*u i+b*v i
def P0 (D:List G3->Int):List G3->List G3->Int
 | _,[]=>0
 | pre,c::rest=>c 0*D ((pre++rest).map tl) - P0 D (pre++[c]) rest
def E4:Nat->List G3->Int
 | 0,_=>1
 | n+1,cols=>P0 (E4 n) [] cols
def Lin (n:Nat) (D:List G3->Int):Prop:=∀ (a:Int) (u:G3) (b:Int) (v:G3) (xs ys:List G3),xs.length+ys.length+1=n->D (xs++U0 a u b v::ys)=a*D (xs++u::ys)+b*D (xs++v::ys)
theorem a5L (a:Int) (u:G3) (b:Int) (v:G3):tl (U0 a u b v)=U0 a (tl u) b (tl v):=rfl
theorem b3D (a b x y p q:Int) (c:Int):c*(a*x+b*y) - (a*p+b*q)=a*(c*x - p)+b*(c*y - q):=by
 rw [Int.mul_add,Int.mul_sub,Int.mul_sub];have e1:c*(a*x)=a*(c*x):=by rw [<- Int.mul_assoc,Int.mul_comm c a,Int.mul_assoc]
 have e2:c*(b*y)=b*(c*y):=by rw [<- Int.mul_assoc,Int.mul_comm c b,Int.mul_assoc]
 rw [e1,e2];lia
theorem a5K {n:Nat} {D:List G3->Int} (h:Lin n D) (a:Int) (u:G3) (b:Int) (v:G3):∀ (rest p1 p2:List G3),p1.length+p2.length+rest.length=n →
  P0 D (p1++U0 a u b v::p2) rest=a*P0 D (p1++u::p2) rest+b*P0 D (p1++v::p2) rest
 | [],p1,p2,_=>by simp [P0]
 | c::rest,p1,p2,hl=>by
  have hl':p1.length+p2.length+(rest.length+1)=n:=hl;have ih:=a5K h a u b v rest p1 (p2++[c]) (by rw [List.length_append,List.length_singleton]; lia);have h0:=h a (tl u) b (tl v) (p1.map tl) ((p2++rest).map tl) (by rw [List.length_map,List.length_map,List.length_append]; lia);unfold P0;simp only [List.append_assoc,List.cons_append,List.map_append,List.map_cons,a5L] at h0 ih ⊢;rw [h0,ih];exact b3D ..
theorem b4E (a b x y p q D:Int):(a*x+b*y)*D - (a*p+b*q)=a*(x*D - p)+b*(y*D - q):=by
 rw [Int.add_mul,Int.mul_sub,Int.mul_sub,Int.mul_assoc,Int.mul_assoc];lia
theorem a3J {n:Nat} {D:List G3->Int} (h:Lin n D) (a:Int) (u:G3) (b:Int) (v:G3):∀ (r1 pre r2:List G3),pre.length+r1.length+r2.length=n →
  P0 D pre (r1++U0 a u b v::r2)=a*P0 D pre (r1++u::r2)+b*P0 D pre (r1++v::r2)
 | [],pre,r2,hl=>by
  have hp:=a5K h a u b v r2 pre [] (by simp only [List.length_nil] at hl ⊢; lia);simp only [List.nil_append];unfold P0;rw [hp];exact b4E ..
 | c::r1,pre,r2,hl=>by
  have hl':pre.length+(r1.length+1)+r2.length=n:=hl;have ih:=a3J h a u b v r1 (pre++[c]) r2 (by rw [List.length_append,List.length_singleton]; lia);have h0:=h a (tl u) b (tl v) ((pre++r1).map tl) (r2.map tl) (by rw [List.length_map,List.length_map,List.length_append]; lia);simp only [List.cons_append];unfold P0;simp only [List.append_assoc,List.cons_append,List.map_append,List.map_cons,a5L] at h0 ih ⊢;rw [h0,ih];exact b3D ..
theorem a3x:∀ n,Lin n (E4 n)
 | 0=>λ a u b v xs ys h=>by lia
 | n+1=>λ a u b v xs ys h=>a3J (a3x n) a u b v xs [] ys (by simp only [List.length_nil]; lia)
def Adj (n:Nat) (D:List G3->Int):Prop:=∀ (u:G3) (xs ys:List G3),xs.length+ys.length+2=n->D (xs++u::u::ys)=0
theorem a5F {n:Nat} {D:List G3->Int} (h:Adj n D) (u:G3):∀ (rest p1 p2:List G3),p1.length+p2.length+rest.length+1=n->P0 D (p1++u::u::p2) rest=0
 | [],_,_,_=>rfl
 | c::rest,p1,p2,hl=>by
  have hl':p1.length+p2.length+(rest.length+1)+1=n:=hl;have ih:=a5F h u rest p1 (p2++[c]) (by rw [List.length_append,List.length_singleton]; lia);have h0:=h (tl u) (p1.map tl) ((p2++rest).map tl) (by rw [List.length_map,List.length_map,List.length_append]; lia);unfold P0;simp only [List.append_assoc,List.cons_append,List.map_append,List.map_cons] at h0 ih ⊢;rw [h0,ih];lia
theorem a4h {n:Nat} {D:List G3->Int} (h:Adj n D) (u:G3):∀ (r1 pre r2:List G3),pre.length+r1.length+r2.length+1=n->P0 D pre (r1++u::u::r2)=0
 | [],pre,r2,hl=>by
  have hp:=a5F h u r2 pre [] (by simp only [List.length_nil] at hl ⊢; lia);simp only [List.nil_append];unfold P0;unfold P0;simp only [List.append_assoc,List.cons_append,List.nil_append] at hp ⊢;rw [hp];lia
 | c::r1,pre,r2,hl=>by
  have hl':pre.length+(r1.length+1)+r2.length+1=n:=hl;have ih:=a4h h u r1 (pre++[c]) r2 (by rw [List.length_append,List.length_singleton]; lia);have h0:=h (tl u) ((pre++r1).map tl) (r2.map tl) (by rw [List.length_map,List.length_map,List.length_append]; lia);simp only [List.cons_append];unfold P0;simp only [List.append_assoc,List.cons_append,List.map_append,List.map_cons] at h0 ih ⊢;rw [h0,ih];lia
theorem a3u:∀ n,Adj n (E4 n)
 | 0=>λ u xs ys h=>by lia
 | n+1=>λ u xs ys h=>a4h (a3u n) u xs [] ys (by simp only [List.length_nil]; lia)
def S7 (k:Nat):G3:=λ i=>if i=k then 1 else 0
theorem a8p {D:List G3->Int}:∀ (rest pre:List G3),(∀ c∈rest,c 0=0)->P0 D pre rest=0
 | [],_,_=>rfl
 | c::rest,pre,h=>by
  unfold P0;rw [h c List.mem_cons_self,a8p rest (pre++[c]) λ x hx=>h x (List.mem_cons_of_mem _ hx)];lia
theorem a0x:∀ n,E4 n ((List.range n).map S7)=1
 | 0=>rfl
 | n+1=>by
  show P0 (E4 n) [] ((List.range (n+1)).map S7)=1
  rw [List.range_succ_eq_map,List.map_cons,List.map_map];unfold P0;rw [a8p _ _ (λ c hc=>by
   obtain ⟨k,_,rfl⟩:=List.mem_map.mp hc;rfl)]
  have e:([]++(List.range n).map (S7 ∘ Nat.succ)).map tl=(List.range n).map S7:=by
   rw [List.nil_append,List.map_map];refine List.map_congr_left λ k _=>?_
   funext i
   show (if i+1=k+1 then (1:Int) else 0)=if i=k then 1 else 0
   by_cases c:i=k
   ·rw [if_pos (by lia),if_pos c]
   ·rw [if_neg (by lia),if_neg c]
  rw [e,a0x n];rfl
def bnd (M:Nat):Nat->Nat
 | 0=>1
 | n+1=>(n+1)*(M*bnd M n)
def Fits (M n:Nat) (v:G3):Prop:=∀ i,i<n->(v i).natAbs<=M
theorem a5Z {D:List G3->Int} {M n B:Nat} (hD:∀ cols,cols.length=n->(∀ c∈cols,Fits M n c)->(D cols).natAbs<=B):∀ (rest pre:List G3),pre.length+rest.length=n+1->(∀ c∈pre,Fits M (n+1) c)->(∀ c∈rest,Fits M (n+1) c)->(P0 D pre rest).natAbs<=rest.length*(M*B)
 | [],_,_,_,_=>by simp [P0]
 | c::rest,pre,hl,hp,hr=>by
  have hl':pre.length+(rest.length+1)=n+1:=hl;have h1:=a5Z hD rest (pre++[c]) (by rw [List.length_append,List.length_singleton]; lia) (λ x hx=>(List.mem_append.mp hx).elim (hp x) λ z=>by rw [List.mem_singleton.mp z]; exact hr c List.mem_cons_self) λ x hx=>hr x (List.mem_cons_of_mem _ hx);have h2:=hD ((pre++rest).map tl) (by rw [List.length_map,List.length_append]; lia) λ x hx=>by
   obtain ⟨y,hy,rfl⟩:=List.mem_map.mp hx;intro i hi;rcases List.mem_append.mp hy with z | z
   ·exact hp y z (i+1) (by lia)
   ·exact hr y (List.mem_cons_of_mem _ z) (i+1) (by lia)
  have h3:=hr c List.mem_cons_self 0 (by lia);unfold P0;rw [List.length_cons,Nat.succ_mul];have h4:(c 0*D ((pre++rest).map tl)).natAbs<=M*B:=by rw [Int.natAbs_mul]; exact Nat.mul_le_mul h3 h2
  have h5:=Int.natAbs_sub_le (c 0*D ((pre++rest).map tl)) (P0 D (pre++[c]) rest);lia
theorem a3h {M:Nat}:∀ (n:Nat) (cols:List G3),cols.length=n->(∀ c∈cols,Fits M n c)->(E4 n cols).natAbs<=bnd M n
 | 0,_,_,_=>Nat.le_refl 1
 | n+1,cols,hl,hf=>by
  have:=a5Z (a3h (M:=M) n) cols [] (by simpa using hl) (λ c hc=>by cases hc) hf;rw [hl] at this;exact this
theorem a4f {α:Type} {C:List α} {i:Nat} {u:α} (h:C[i]?=some u):C=C.take i++u::C.drop (i+1):=by
 obtain ⟨hi,rfl⟩:=List.getElem?_eq_some_iff.mp h;rw [<- List.drop_eq_getElem_cons hi,List.take_append_drop]
theorem a8X (n:Nat) (u v:G3) (xs ys:List G3) (hl:xs.length+ys.length+2=n):E4 n (xs++u::v::ys) = - E4 n (xs++v::u::ys):=by
 have L:=a3x n;have A:=a3u n;have h0:=A (U0 1 u 1 v) xs ys hl;have h1:=L 1 u 1 v xs (U0 1 u 1 v::ys) (by simp only [List.length_cons]; lia);have h2:=L 1 u 1 v (xs++[u]) ys (by simp only [List.length_append,List.length_singleton]; lia);have h3:=L 1 u 1 v (xs++[v]) ys (by simp only [List.length_append,List.length_singleton]; lia);have h4:=A u xs ys hl;have h5:=A v xs ys hl;simp only [List.append_assoc,List.cons_append,List.nil_append] at h2 h3;lia
theorem a5E (n:Nat) (u:G3):∀ (zs xs ys:List G3),xs.length+zs.length+ys.length+2=n->E4 n (xs++u::(zs++u::ys))=0
 | [],xs,ys,hl=>a3u n u xs ys (by simp only [List.length_nil] at hl; lia)
 | z::zs,xs,ys,hl=>by
  have hl':xs.length+(zs.length+1)+ys.length+2=n:=hl;rw [List.cons_append,a8X n u z xs (zs++u::ys) (by simp only [List.length_append,List.length_cons]; lia)];have:=a5E n u zs (xs++[z]) ys (by rw [List.length_append,List.length_singleton]; lia);simp only [List.append_assoc,List.cons_append,List.nil_append] at this;lia
theorem a5S {n:Nat} {C:List G3} {i k:Nat} {u:G3} (hl:C.length=n) (hik:i<k) (h1:C[i]?=some u) (h2:C[k]?=some u):E4 n C=0:=by
 have e1:=a4f h1;have hk:k<C.length:=(List.getElem?_eq_some_iff.mp h2).1;have h3:(C.drop (i+1))[k - (i+1)]?=some u:=by rw [List.getElem?_drop,show i+1+(k - (i+1))=k by lia]; exact h2
 have e2:=a4f h3;rw [e1,e2];refine a5E n u _ _ _ ?_;simp only [List.length_take,List.length_drop];lia
theorem X1 {n:Nat} {C:List G3} {i k:Nat} {u:G3} (hl:C.length=n) (hik:i≠k) (h1:C[i]?=some u) (h2:C[k]?=some u):E4 n C=0:=by
 rcases Nat.lt_or_gt_of_ne hik with h | h
 ·exact a5S hl h h1 h2
 ·exact a5S hl h h2 h1
theorem a0R {α:Type} {C:List α} {k:Nat} (h:k<C.length) (u:α):C.set k u=C.take k++u::C.drop (k+1):=by
 rw [List.set_eq_take_append_cons_drop,if_pos h]
theorem U3 {n:Nat} {C:List G3} {k:Nat} (hl:C.length=n) (hk:k<n) (a:Int) (u:G3) (b:Int) (v:G3):E4 n (C.set k (U0 a u b v))=a*E4 n (C.set k u)+b*E4 n (C.set k v):=by
 have hk':k<C.length:=by lia
 rw [a0R hk',a0R hk',a0R hk'];refine a3x n a u b v _ _ ?_;simp only [List.length_take,List.length_drop];lia
theorem a2V {n:Nat} {C:List G3} {i k:Nat} (hl:C.length=n) (hi:i<n) (hk:k<n) (hik:i≠k) (u:G3):E4 n ((C.set i u).set k u)=0:=by
 refine X1 (i:=i) (k:=k) (u:=u) (by rw [List.length_set,List.length_set]; exact hl) hik ?_ ?_
 ·rw [List.getElem?_set_ne (Ne.symm hik),List.getElem?_set_self (by lia)]
 ·rw [List.getElem?_set_self (by rw [List.length_set]; lia)]
theorem a3Q {n:Nat} {C:List G3} {i k:Nat} (hl:C.length=n) (hi:i<n) (hk:k<n) (hik:i≠k) (u v:G3):E4 n ((C.set i u).set k v) = - E4 n ((C.set i v).set k u):=by
 have h0:=a2V hl hi hk hik (U0 1 u 1 v);have h1:=U3 (C:=C.set i (U0 1 u 1 v)) (by rw [List.length_set]; exact hl) hk 1 u 1 v;have h2:=U3 (C:=C.set k u) (by rw [List.length_set]; exact hl) hi 1 u 1 v;have h3:=U3 (C:=C.set k v) (by rw [List.length_set]; exact hl) hi 1 u 1 v;have h4:=a2V hl hi hk hik u;have h5:=a2V hl hi hk hik v;rw [List.set_comm _ _ (Ne.symm hik),List.set_comm _ _ (Ne.symm hik),List.set_comm _ _ (Ne.symm hik)] at h2 h3;lia
def sumTo (g:Nat->Int):Nat->Int
 | 0=>0
 | n+1=>sumTo g n+g n
theorem sum_congr {g h:Nat->Int}:∀ {n:Nat},(∀ k,k<n->g k=h k)->sumTo g n=sumTo h n
 | 0,_=>rfl
 | n+1,e=>by
  show sumTo g n+g n=sumTo h n+h n
  rw [sum_congr λ k hk=>e k (by lia),e n (by lia)]
theorem sum_zero {g:Nat->Int} {n:Nat} (h:∀ k,k<n->g k=0):sumTo g n=0:=by
 induction n with
 | zero=>rfl
 | succ n ih =>
  show sumTo g n+g n=0
  rw [ih λ k hk=>h k (by lia),h n (by lia)];rfl
theorem sum_one {g:Nat->Int} {n r:Nat} (hr:r<n) (h:∀ k,k<n->k≠r->g k=0):sumTo g n=g r:=by
 induction n with
 | zero=>lia
 | succ n ih =>
  show sumTo g n+g n=g r
  by_cases c:r=n
  ·subst c
   rw [sum_zero λ k hk=>h k (by lia) (by lia)];lia
  ·rw [ih (by lia) λ k hk hn=>h k (by lia) hn,h n (by lia) (by lia)]
   lia
theorem U7 {g h:Nat->Int}:∀ n:Nat,sumTo (λ k=>g k+h k) n=sumTo g n+sumTo h n
 | 0=>rfl
 | n+1=>by
  show sumTo (λ k=>g k+h k) n+(g n+h n)=sumTo g n+g n+(sumTo h n+h n)
  rw [U7 n];lia
theorem N5 {g:Nat->Int} (a:Int):∀ n:Nat,sumTo (λ k=>a*g k) n=a*sumTo g n
 | 0=>(Int.mul_zero a).symm
 | n+1=>by
  show sumTo (λ k=>a*g k) n+a*g n=a*(sumTo g n+g n)
  rw [N5 a n,Int.mul_add]
theorem a9z {g:Nat->Int} {n r i:Nat} (hr:r<n) (hi:i<n) (hne:r≠i) (h:∀ k,k<n->k≠r->k≠i->g k=0):sumTo g n=g r+g i:=by
 have e:sumTo g n=sumTo (λ k=>(if k=r then g k else 0)+(if k=i then g k else 0)) n:=sum_congr λ k hk=>by
  by_cases c1:k=r
  ·rw [if_pos c1,if_neg (by lia)]; lia
  ·by_cases c2:k=i
   ·rw [if_neg c1,if_pos c2]; lia
   ·rw [if_neg c1,if_neg c2,h k hk c1 c2]; lia
 rw [e,U7,sum_one hr λ k _ hn=>if_neg hn,sum_one hi λ k _ hn=>if_neg hn,if_pos rfl,if_pos rfl]
theorem a1s {n:Nat} {C:List G3} {k:Nat} (hl:C.length=n) (hk:k<n) (t:Nat->Int) (W:Nat->G3):∀ m:Nat,E4 n (C.set k (λ x=>sumTo (λ j=>t j*W j x) m))=sumTo (λ j=>t j*E4 n (C.set k (W j))) m
 | 0=>by
  have h:=U3 hl hk 0 (λ _=>0) 0 (λ _=>0);have e:U0 0 (λ _=>0) 0 (λ _=>0)=(λ x:Nat=>sumTo (λ j=>t j*W j x) 0):=by funext x; simp [U0,sumTo]
  rw [e] at h;rw [h];simp [sumTo]
 | m+1=>by
  have h:=U3 hl hk 1 (λ x=>sumTo (λ j=>t j*W j x) m) (t m) (W m);have e:U0 1 (λ x=>sumTo (λ j=>t j*W j x) m) (t m) (W m)=(λ x:Nat=>sumTo (λ j=>t j*W j x) (m+1)):=by funext x; simp [U0,sumTo]
  rw [e,a1s hl hk t W m] at h;rw [h]
  show 1*sumTo _ m+_=sumTo _ m+_
  rw [Int.one_mul]
def zv:G3:=λ _=>0
def a4l (n:Nat) (B:List G3) (u:G3):Prop:=∀ x,E4 n B*u x=sumTo (λ k=>E4 n (B.set k u)*(B.getD k zv) x) n
theorem a2U {B:List G3} {k:Nat} (h:k<B.length):B[k]?=some (B.getD k zv):=by rw [List.getD_eq_getElem?_getD,List.getElem?_eq_getElem h]; rfl
theorem R5 {B:List G3} {k:Nat} (h:k<B.length):B.set k (B.getD k zv)=B:=by
 have e:B.getD k zv=B[k]:=by rw [List.getD_eq_getElem?_getD,List.getElem?_eq_getElem h]; rfl
 rw [e,List.set_getElem_self]
theorem plu {n:Nat} {B:List G3} {r i:Nat} (hl:B.length=n) (hr:r<n) (hi:i<n) (hne:i≠r) {u:G3} (v:G3) (hc:a4l n B u) :
  E4 n B*E4 n ((B.set r u).set i v)=E4 n (B.set r u)*E4 n (B.set i v) - E4 n (B.set i u)*E4 n (B.set r v):=by
 have hl':(B.set i v).length=n:=by rw [List.length_set]; exact hl
 have e1:E4 n ((B.set i v).set r (U0 (E4 n B) u 0 u))=E4 n B*E4 n ((B.set i v).set r u):=by
  rw [U3 hl' hr]; lia
 have e2:U0 (E4 n B) u 0 u=(λ x:Nat=>sumTo (λ k=>E4 n (B.set k u)*(B.getD k zv) x) n):=by
  funext x
  rw [<- hc x];unfold U0;lia
 rw [e2,a1s hl' hr (λ k=>E4 n (B.set k u)) (λ k=>B.getD k zv) n] at e1;rw [List.set_comm _ _ (Ne.symm hne),<- e1];rw [a9z hr hi (Ne.symm hne) λ k hk n1 n2=>?_]
 ·have a1:(B.set i v).set r (B.getD r zv)=B.set i v:=by rw [List.set_comm _ _ hne,R5 (by lia)]
  have a2:E4 n ((B.set i v).set r (B.getD i zv)) = - E4 n (B.set r v):=by
   rw [a3Q hl hi hr hne,R5 (by lia)]
  show E4 n (B.set r u)*E4 n ((B.set i v).set r (B.getD r zv))+E4 n (B.set i u)*E4 n ((B.set i v).set r (B.getD i zv))=_
  rw [a1,a2,Int.mul_neg];lia
 ·have:E4 n ((B.set i v).set r (B.getD k zv))=0:=by
   refine X1 (i:=k) (k:=r) (u:=B.getD k zv) (by rw [List.length_set,List.length_set]; exact hl) n1 ?_ ?_
   ·rw [List.getElem?_set_ne (Ne.symm n1),List.getElem?_set_ne (Ne.symm n2)]; exact a2U (by lia)
   ·rw [List.getElem?_set_self (by rw [List.length_set]; lia)]
  show E4 n (B.set k u)*E4 n ((B.set i v).set r (B.getD k zv))=0
  rw [this,Int.mul_zero]
theorem b1l {d a b:Int} (hd:d≠0) (h:d*a=d*b):a=b:=Int.eq_of_mul_eq_mul_left hd h
theorem a2H {n:Nat} {B:List G3} {r:Nat} (hl:B.length=n) (hr:r<n) {u v:G3} (hd:E4 n B≠0) (hu:a4l n B u) (hv:a4l n B v):a4l n (B.set r u) v:=by
 intro x;refine b1l hd ?_;have e:∀ k,k<n->E4 n B*(E4 n ((B.set r u).set k v)*((B.set r u).getD k zv) x) =
   E4 n (B.set r u)*(E4 n (B.set k v)*(B.getD k zv) x)+(if k=r then E4 n B*(E4 n (B.set r v)*u x) else 0) - E4 n (B.set r v)*(E4 n (B.set k u)*(B.getD k zv) x):=λ k hk=>by
  by_cases c:k=r
  ·subst c
   rw [if_pos rfl,List.set_set];have g:(B.set k u).getD k zv=u:=by rw [List.getD_eq_getElem?_getD,List.getElem?_set_self (by lia)]; rfl
   rw [g];have:E4 n (B.set k u)*(E4 n (B.set k v)*B.getD k zv x)=E4 n (B.set k v)*(E4 n (B.set k u)*B.getD k zv x):=by rw [<- Int.mul_assoc,<- Int.mul_assoc,Int.mul_comm (E4 n (B.set k u))]
   lia
  ·rw [if_neg c]
   have g:(B.set r u).getD k zv=B.getD k zv:=by rw [List.getD_eq_getElem?_getD,List.getElem?_set_ne (Ne.symm c),<- List.getD_eq_getElem?_getD]
   rw [g,<- Int.mul_assoc,plu hl hr hk c v hu,Int.sub_mul,Int.mul_assoc,Int.mul_assoc];have:E4 n (B.set k u)*(E4 n (B.set r v)*B.getD k zv x)=E4 n (B.set r v)*(E4 n (B.set k u)*B.getD k zv x):=by rw [<- Int.mul_assoc,<- Int.mul_assoc,Int.mul_comm (E4 n (B.set k u))]
   lia
 have s1:E4 n B*sumTo (λ k=>E4 n ((B.set r u).set k v)*((B.set r u).getD k zv) x) n =
   sumTo (λ k=>E4 n (B.set r u)*(E4 n (B.set k v)*(B.getD k zv) x)+(if k=r then E4 n B*(E4 n (B.set r v)*u x) else 0)+(- E4 n (B.set r v))*(E4 n (B.set k u)*(B.getD k zv) x)) n:=by
  rw [<- N5];refine sum_congr λ k hk=>?_;rw [e k hk,Int.neg_mul];lia
 rw [s1,U7,U7,N5,N5,<- hv x,<- hu x,sum_one hr λ k _ hn=>if_neg hn,if_pos rfl,Int.neg_mul];have a1:E4 n B*(E4 n (B.set r u)*v x)=E4 n (B.set r u)*(E4 n B*v x):=by rw [<- Int.mul_assoc,<- Int.mul_assoc,Int.mul_comm (E4 n B)]
 have a2:E4 n B*(E4 n (B.set r v)*u x)=E4 n (B.set r v)*(E4 n B*u x):=by rw [<- Int.mul_assoc,<- Int.mul_assoc,Int.mul_comm (E4 n B)]
 lia
theorem a6R {n:Nat} {B:List G3} {r:Nat} (hl:B.length=n) (hr:r<n):a4l n B (B.getD r zv):=by
 intro x;rw [sum_one hr λ k hk hn=>?_]
 ·rw [R5 (by lia)]
 ·have:E4 n (B.set k (B.getD r zv))=0:=by
   refine X1 (i:=r) (k:=k) (u:=B.getD r zv) (by rw [List.length_set]; exact hl) (Ne.symm hn) ?_ ?_
   ·rw [List.getElem?_set_ne hn]; exact a2U (by lia)
   ·rw [List.getElem?_set_self (by lia)]
  rw [this,Int.zero_mul]
theorem b3n {n:Nat} {B:List G3} (hl:B.length=n) (hd:E4 n B≠0) {t:Nat->Int} (h:∀ x,sumTo (λ k=>t k*(B.getD k zv) x) n=0) {i:Nat} (hi:i<n):t i=0:=by
 have h1:=a1s (C:=B) hl hi t (λ k=>B.getD k zv) n;have e:(λ x:Nat=>sumTo (λ k=>t k*(B.getD k zv) x) n)=zv:=by funext x; rw [h x]; rfl
 rw [e] at h1;have h0:E4 n (B.set i zv)=0:=by
  have:=U3 hl hi 0 zv 0 zv;have e:U0 0 zv 0 zv=zv:=by funext x; simp [U0,zv]
  rw [e] at this;lia
 rw [h0,sum_one hi λ k hk hn=>?_,R5 (by lia)] at h1
 ·exact (Int.mul_eq_zero.mp h1.symm).resolve_right hd
 ·have:E4 n (B.set i (B.getD k zv))=0:=by
   refine X1 (i:=k) (k:=i) (u:=B.getD k zv) (by rw [List.length_set]; exact hl) hn ?_ ?_
   ·rw [List.getElem?_set_ne (Ne.symm hn)]; exact a2U (by lia)
   ·rw [List.getElem?_set_self (by lia)]
  rw [this,Int.mul_zero]
structure Bo where
 d:Int
 T:Nat->Nat->Int
 ins:Nat->Nat
 outs:Nat->Nat
def Y4 (g:Nat->Nat) (k v:Nat):Nat->Nat:=λ i=>if i=k then v else g i
theorem B8 {g:Nat->Nat} {k v:Nat}:Y4 g k v k=v:=if_pos rfl
theorem C3 {g:Nat->Nat} {k v i:Nat} (h:i≠k):Y4 g k v i=g i:=if_neg h
def piv (S:Bo) (r c:Nat):Bo where
 d:=S.T r c
 T:=λ i j=>if i=r then (if j=c then S.d else S.T r j) else (if j=c then - S.T i c else (S.T i j*S.T r c - S.T i c*S.T r j) / S.d)
 ins:=Y4 S.ins r (S.outs c)
 outs:=Y4 S.outs c (S.ins r)
def Bs (m:Nat) (V:Nat->G3) (ins:Nat->Nat):List G3:=(List.range (m+1)).map λ i=>V (ins i)
theorem a0Q (m:Nat) (V:Nat->G3) (ins:Nat->Nat):(Bs m V ins).length=m+1:=by unfold Bs; rw [List.length_map,List.length_range]
theorem a6u {m:Nat} {V:Nat->G3} {ins:Nat->Nat} {i:Nat} (h:i<m+1):(Bs m V ins).getD i zv=V (ins i):=by
 unfold Bs;rw [List.getD_eq_getElem?_getD,List.getElem?_map,List.getElem?_range h];rfl
theorem a9a {m:Nat} {V:Nat->G3} {ins:Nat->Nat} {r v:Nat} (h:r<m+1):Bs m V (Y4 ins r v)=(Bs m V ins).set r (V v):=by
 refine List.ext_getElem? λ i=>?_;unfold Bs
 by_cases c:i=r
 ·subst c
  rw [List.getElem?_set_self (by rw [List.length_map,List.length_range]; exact h),List.getElem?_map,List.getElem?_range h]
  show some (V (Y4 ins i v i))=_
  rw [B8]
 ·rw [List.getElem?_set_ne (Ne.symm c),List.getElem?_map,List.getElem?_map]
  by_cases hi:i<m+1
  ·rw [List.getElem?_range hi]
   show some (V (Y4 ins r v i))=some (V (ins i))
   rw [C3 c]
  ·rw [List.getElem?_eq_none (by rw [List.length_range]; lia)]
   rfl
structure Wf (m q:Nat) (V:Nat->G3) (S:Bo):Prop where
 hd:S.d=E4 (m+1) (Bs m V S.ins)
 hT:∀ i j,i<m+1->j<q+1->S.T i j=E4 (m+1) ((Bs m V S.ins).set i (V (S.outs j)))
 cr:∀ j,j<q+1->a4l (m+1) (Bs m V S.ins) (V (S.outs j))
 pos:0<S.d
 feas:∀ i,i<m->0<=S.T i q
 im:S.ins m=q+m
 oq:S.outs q=q+m+1
 ib:∀ i,i<m->S.ins i<q+m
 ob:∀ j,j<q->S.outs j<q+m
 ii:∀ i k,i<m->k<m->S.ins i=S.ins k->i=k
 oo:∀ j k,j<q->k<q->S.outs j=S.outs k->j=k
 io:∀ i j,i<m->j<q->S.ins i≠S.outs j
 all:∀ v,v<q+m->(∃ i,i<m/\S.ins i=v)\/(∃ j,j<q/\S.outs j=v)
section
variable {m q:Nat} {V:Nat->G3} {S:Bo}
theorem Wf.exact (W:Wf m q V S) {r c i j:Nat} (hr:r<m) (hc:c<q) (hi:i<m+1) (hj:j<q+1) (hne:i≠r) :
  S.T i j*S.T r c - S.T i c*S.T r j=S.d*E4 (m+1) (((Bs m V S.ins).set r (V (S.outs c))).set i (V (S.outs j))):=by
 have h:=plu (a0Q m V S.ins) (show r<m+1 by lia) hi hne (V (S.outs j)) (W.cr c (by lia));rw [W.hd,h,W.hT i j hi hj,W.hT r c (by lia) (by lia),W.hT i c hi (by lia),W.hT r j (by lia) hj];rw [Int.mul_comm (E4 (m+1) ((Bs m V S.ins).set i (V (S.outs j))))]
theorem Wf.pivT (W:Wf m q V S) {r c i j:Nat} (hr:r<m) (hc:c<q) (hi:i<m+1) (hj:j<q+1):(piv S r c).T i j=E4 (m+1) ((Bs m V (piv S r c).ins).set i (V ((piv S r c).outs j))):=by
 have hl:=a0Q m V S.ins
 show (if i=r then (if j=c then S.d else S.T r j) else (if j=c then - S.T i c else (S.T i j*S.T r c - S.T i c*S.T r j) / S.d))=E4 (m+1) ((Bs m V (Y4 S.ins r (S.outs c))).set i (V (Y4 S.outs c (S.ins r) j)))
 rw [a9a (by lia)]
 by_cases c1:i=r
 ·subst c1
  rw [if_pos rfl,List.set_set]
  by_cases c2:j=c
  ·subst c2
   rw [if_pos rfl,B8,W.hd,<- a6u (V:=V) (ins:=S.ins) hi,R5 (by lia)]
  ·rw [if_neg c2,C3 c2]
   exact W.hT i j hi hj
 ·rw [if_neg c1]
  by_cases c2:j=c
  ·subst c2
   rw [if_pos rfl,B8,a3Q hl (by lia) hi (Ne.symm c1),<- a6u (V:=V) (ins:=S.ins) (show r<m+1 by lia),R5 (by lia),W.hT i j hi hj]
  ·rw [if_neg c2,C3 c2,W.exact hr hc hi hj c1]
   exact Int.mul_ediv_cancel_left _ (by have:=W.pos; lia)
theorem Wf.mulT (W:Wf m q V S) {r c i j:Nat} (hr:r<m) (hc:c<q) (hi:i<m+1) (hj:j<q+1) (hne:i≠r) (hjc:j≠c):S.d*(piv S r c).T i j=S.T i j*S.T r c - S.T i c*S.T r j:=by
 have e:=W.pivT hr hc hi hj;have h:=W.exact hr hc hi hj hne;have e2:Bs m V (piv S r c).ins=(Bs m V S.ins).set r (V (S.outs c)):=a9a (by lia);have e3:(piv S r c).outs j=S.outs j:=C3 hjc;rw [e2,e3] at e;rw [h,e]
theorem Wf.pivot (W:Wf m q V S) {r c:Nat} (hr:r<m) (hc:c<q) (hp:0<S.T r c) (hq:∀ i,i<m->0<S.T i c->S.T r q*S.T i c<=S.T i q*S.T r c):Wf m q V (piv S r c):=by
 have hl:=a0Q m V S.ins;have hd0:E4 (m+1) (Bs m V S.ins)≠0:=by have:=W.pos; rw [W.hd] at this; lia
 have hB:Bs m V (piv S r c).ins=(Bs m V S.ins).set r (V (S.outs c)):=a9a (by lia);refine ⟨?_,λ i j hi hj=>W.pivT hr hc hi hj,λ j hj=>?_,hp,λ i hi=>?_,?_,?_,λ i hi=>?_,λ j hj=>?_,λ i k hi hk e=>?_,λ j k hj hk e=>?_,λ i j hi hj e=>?_,λ v hv=>?_⟩
 ·rw [hB]; exact W.hT r c (by lia) (by lia)
 ·rw [hB]
  by_cases c2:j=c
  ·subst c2
   show a4l _ _ (V (Y4 S.outs j (S.ins r) j))
   rw [B8];have h:=a6R hl (show r<m+1 by lia);rw [a6u (by lia)] at h;exact a2H hl (by lia) hd0 (W.cr j hj) h
  ·show a4l _ _ (V (Y4 S.outs c (S.ins r) j))
   rw [C3 c2];exact a2H hl (by lia) hd0 (W.cr c (by lia)) (W.cr j hj)
 ·by_cases c1:i=r
  ·subst c1
   show 0<=(if i=i then (if q=c then S.d else S.T i q) else _)
   rw [if_pos rfl,if_neg (by lia)];exact W.feas i hi
  ·have e:=W.mulT hr hc (show i<m+1 by lia) (show q<q+1 by lia) c1 (show q≠c by lia)
   have f1:=W.feas i hi;have f2:=W.feas r hr;have hpos:=W.pos;have nn:0<=S.T i q*S.T r c - S.T i c*S.T r q:=by
    have a1:0<=S.T i q*S.T r c:=Int.mul_nonneg f1 (Int.le_of_lt hp)
    by_cases z:0<S.T i c
    ·have:=hq i hi z
     rw [Int.mul_comm (S.T i c)];lia
    ·have a2:0 <= - (S.T i c)*S.T r q:=Int.mul_nonneg (by lia) f2
     rw [Int.neg_mul] at a2;lia
   rw [<- e] at nn
   by_cases z:0<=(piv S r c).T i q
   ·exact z
   ·have:=Int.mul_pos hpos (show 0 < - (piv S r c).T i q by lia)
    rw [Int.mul_neg] at this;lia
 ·show Y4 S.ins r (S.outs c) m=q+m
  rw [C3 (by lia)]; exact W.im
 ·show Y4 S.outs c (S.ins r) q=q+m+1
  rw [C3 (by lia)]; exact W.oq
 ·show Y4 S.ins r (S.outs c) i<q+m
  by_cases c1:i=r
  ·rw [c1,B8]; exact W.ob c hc
  ·rw [C3 c1]; exact W.ib i hi
 ·show Y4 S.outs c (S.ins r) j<q+m
  by_cases c1:j=c
  ·rw [c1,B8]; exact W.ib r hr
  ·rw [C3 c1]; exact W.ob j hj
 ·replace e:Y4 S.ins r (S.outs c) i=Y4 S.ins r (S.outs c) k:=e
  by_cases c1:i=r
  ·by_cases c2:k=r
   ·lia
   ·rw [c1,B8,C3 c2] at e
    exact absurd e.symm (W.io k c hk hc)
  ·by_cases c2:k=r
   ·rw [c2,B8,C3 c1] at e
    exact absurd e (W.io i c hi hc)
   ·rw [C3 c1,C3 c2] at e
    exact W.ii i k hi hk e
 ·replace e:Y4 S.outs c (S.ins r) j=Y4 S.outs c (S.ins r) k:=e
  by_cases c1:j=c
  ·by_cases c2:k=c
   ·lia
   ·rw [c1,B8,C3 c2] at e
    exact absurd e (W.io r k hr hk)
  ·by_cases c2:k=c
   ·rw [c2,B8,C3 c1] at e
    exact absurd e.symm (W.io r j hr hj)
   ·rw [C3 c1,C3 c2] at e
    exact W.oo j k hj hk e
 ·replace e:Y4 S.ins r (S.outs c) i=Y4 S.outs c (S.ins r) j:=e
  by_cases c1:i=r
  ·by_cases c2:j=c
   ·rw [c1,c2,B8,B8] at e
    exact absurd e.symm (W.io r c hr hc)
   ·rw [c1,B8,C3 c2] at e
    exact c2 (W.oo c j hc hj e).symm
  ·by_cases c2:j=c
   ·rw [c2,B8,C3 c1] at e
    exact c1 (W.ii i r hi hr e)
   ·rw [C3 c1,C3 c2] at e
    exact W.io i j hi hj e
 ·show (∃ i,i<m/\Y4 S.ins r (S.outs c) i=v)\/(∃ j,j<q/\Y4 S.outs c (S.ins r) j=v)
  rcases W.all v hv with ⟨i,hi,e⟩ | ⟨j,hj,e⟩
  ·by_cases c1:i=r
   ·exact .inr ⟨c,hc,by rw [B8,<- c1]; exact e⟩
   ·exact .inl ⟨i,hi,by rw [C3 c1]; exact e⟩
  ·by_cases c1:j=c
   ·exact .inl ⟨r,hr,by rw [B8,<- c1]; exact e⟩
   ·exact .inr ⟨j,hj,by rw [C3 c1]; exact e⟩
def Ker (m q:Nat) (V:Nat->G3) (S:Bo) (z:Nat->Int):Prop:=∀ x,sumTo (λ k=>z (S.ins k)*V (S.ins k) x) (m+1)+sumTo (λ j=>z (S.outs j)*V (S.outs j) x) (q+1)=0
theorem a6v {g h:Nat->Int} {n r:Nat} (hr:r<n) (e:∀ k,k<n->k≠r->g k=h k):sumTo g n=sumTo h n+(g r - h r):=by
 have e1:sumTo g n=sumTo (λ k=>h k+(if k=r then g k - h k else 0)) n:=sum_congr λ k hk=>by
  by_cases c:k=r
  ·rw [if_pos c]; lia
  ·rw [if_neg c,e k hk c]; lia
 rw [e1,U7,sum_one hr λ k _ hn=>if_neg hn,if_pos rfl]
theorem Ker.piv {r c:Nat} (hr:r<m) (hc:c<q) {z:Nat->Int}:Ker m q V (piv S r c) z ↔ Ker m q V S z:=by
  have e:∀ x,sumTo (λ k=>z ((Lp.piv S r c).ins k)*V ((Lp.piv S r c).ins k) x) (m+1)+sumTo (λ j=>z ((Lp.piv S r c).outs j)*V ((Lp.piv S r c).outs j) x) (q+1)
     =sumTo (λ k=>z (S.ins k)*V (S.ins k) x) (m+1)+sumTo (λ j=>z (S.outs j)*V (S.outs j) x) (q+1):=λ x=>by
    have h1:=a6v (g:=λ k=>z ((Lp.piv S r c).ins k)*V ((Lp.piv S r c).ins k) x) (h:=λ k=>z (S.ins k)*V (S.ins k) x) (n:=m+1) (r:=r) (by lia) λ k hk hn=>by
      show z (Y4 S.ins r (S.outs c) k)*V (Y4 S.ins r (S.outs c) k) x=_
      rw [C3 hn]
    have h2:=a6v (g:=λ j=>z ((Lp.piv S r c).outs j)*V ((Lp.piv S r c).outs j) x) (h:=λ j=>z (S.outs j)*V (S.outs j) x) (n:=q+1) (r:=c) (by lia) λ k hk hn=>by
      show z (Y4 S.outs c (S.ins r) k)*V (Y4 S.outs c (S.ins r) k) x=_
      rw [C3 hn]
    rw [h1,h2]
    show _+(z (Y4 S.ins r (S.outs c) r)*V (Y4 S.ins r (S.outs c) r) x - _)+(_+(z (Y4 S.outs c (S.ins r) c)*V (Y4 S.outs c (S.ins r) c) x - _))=_
    rw [B8,B8];lia
  exact ⟨λ h x=>(e x).symm.trans (h x),λ h x=>(e x).trans (h x)⟩
def a1V (q:Nat) (S:Bo) (z:Nat->Int) (i:Nat):Int:=S.d*z (S.ins i)+sumTo (λ j=>S.T i j*z (S.outs j)) (q+1)
theorem a2i {g:Nat->Nat->Int} (n:Nat):∀ k:Nat,sumTo (λ i=>sumTo (λ j=>g i j) k) n=sumTo (λ j=>sumTo (λ i=>g i j) n) k
 | 0=>sum_zero λ _ _=>rfl
 | k+1=>by
  show sumTo (λ i=>sumTo (λ j=>g i j) k+g i k) n=sumTo (λ j=>sumTo (λ i=>g i j) n) k+sumTo (λ i=>g i k) n
  rw [U7,a2i n k]
theorem Wf.rows (W:Wf m q V S) (z:Nat->Int) (x:Nat):S.d*(sumTo (λ k=>z (S.ins k)*V (S.ins k) x) (m+1)+sumTo (λ j=>z (S.outs j)*V (S.outs j) x) (q+1))=sumTo (λ k=>a1V q S z k*((Bs m V S.ins).getD k zv) x) (m+1):=by
 have e1:S.d*sumTo (λ j=>z (S.outs j)*V (S.outs j) x) (q+1)=sumTo (λ k=>sumTo (λ j=>S.T k j*z (S.outs j)) (q+1)*((Bs m V S.ins).getD k zv) x) (m+1):=by
  rw [<- N5];have h1:∀ j,j<q+1->S.d*(z (S.outs j)*V (S.outs j) x)=sumTo (λ k=>S.T k j*z (S.outs j)*((Bs m V S.ins).getD k zv) x) (m+1):=λ j hj=>by
   have h:=W.cr j hj x;rw [<- W.hd] at h;rw [Int.mul_comm (z (S.outs j)),<- Int.mul_assoc,h,Int.mul_comm,<- N5];refine sum_congr λ k hk=>?_;rw [W.hT k j hk hj,<- Int.mul_assoc,Int.mul_comm (z (S.outs j))]
  rw [sum_congr h1,<- a2i];refine sum_congr λ k hk=>?_;rw [Int.mul_comm (sumTo _ _),<- N5];exact sum_congr λ j _=>Int.mul_comm _ _
 rw [Int.mul_add,e1,<- N5,<- U7];refine sum_congr λ k hk=>?_
 show _=(S.d*z (S.ins k)+_)*_
 rw [Int.add_mul,a6u hk,Int.mul_assoc]
theorem Wf.row_of (W:Wf m q V S) {z:Nat->Int} (h:Ker m q V S z) {i:Nat} (hi:i<m+1):a1V q S z i=0:=by
 refine b3n (a0Q m V S.ins) (by have:=W.pos; rw [W.hd] at this; lia) (λ x=>?_) hi;rw [<- W.rows z x,h x,Int.mul_zero]
theorem Wf.ker_of (W:Wf m q V S) {z:Nat->Int} (h:∀ i,i<m+1->a1V q S z i=0):Ker m q V S z:=λ x=>by
 have e:=W.rows z x;have e0:sumTo (λ k=>a1V q S z k*((Bs m V S.ins).getD k zv) x) (m+1)=0:=sum_zero λ k hk=>by rw [h k hk,Int.zero_mul]
 rw [e0] at e;exact (Int.mul_eq_zero.mp e).resolve_left (by have:=W.pos; lia)
end
structure Choice (m q:Nat) (S:Bo) (r c:Nat):Prop where
 hc:c<q
 neg:S.T m c<0
 minc:∀ j,j<q->S.T m j<0->S.outs c<=S.outs j
 hr:r<m
 pos:0<S.T r c
 ratio:∀ i,i<m->0<S.T i c->S.T r q*S.T i c<=S.T i q*S.T r c
 tie:∀ i,i<m->0<S.T i c->S.T r q*S.T i c=S.T i q*S.T r c->S.ins r<=S.ins i
theorem a6b {g:Nat->Int}:∀ {n:Nat},sumTo g n<0->∃ k,k<n/\g k<0
 | 0,h=>absurd h (by show ¬ (0:Int)<0; lia)
 | n+1,h=>by
  have h':sumTo g n+g n<0:=h
  by_cases c:g n<0
  ·exact ⟨n,by lia,c⟩
  ·obtain ⟨k,hk,hg⟩:=a6b (g:=g) (n:=n) (by lia)
   exact ⟨k,by lia,hg⟩
section
variable {m q:Nat} {V:Nat->G3} {S S':Bo}
theorem Wf.inj (W:Wf m q V S) {i k:Nat} (hi:i<m+1) (hk:k<m+1) (e:S.ins i=S.ins k):i=k:=by
 by_cases c1:i=m
 ·by_cases c2:k=m
  ·lia
  ·have:=W.ib k (by lia)
   rw [c1,W.im] at e;lia
 ·by_cases c2:k=m
  ·have:=W.ib i (by lia)
   rw [c2,W.im] at e;lia
  ·exact W.ii i k (by lia) (by lia) e
theorem Wf.apart (W:Wf m q V S) {i j:Nat} (hi:i<m+1) (hj:j<q+1):S.ins i≠S.outs j:=by
 intro e;have hI:S.ins i<=q+m:=by
  by_cases c1:i=m
  ·rw [c1,W.im]; exact Nat.le_refl _
  ·have:=W.ib i (by lia); lia
 by_cases c2:j=q
 ·rw [c2,W.oq] at e; lia
 ·have:=W.ob j (by lia)
  by_cases c1:i=m
  ·rw [c1,W.im] at e; lia
  ·exact W.io i j (by lia) (by lia) e
theorem Wf.injo (W:Wf m q V S) {j k:Nat} (hj:j<q+1) (hk:k<q+1) (e:S.outs j=S.outs k):j=k:=by
 by_cases c1:j=q
 ·by_cases c2:k=q
  ·lia
  ·have:=W.ob k (by lia)
   rw [c1,W.oq] at e;lia
 ·by_cases c2:k=q
  ·have:=W.ob j (by lia)
   rw [c2,W.oq] at e;lia
  ·exact W.oo j k (by lia) (by lia) e
def ray (m:Nat) (S:Bo) (c:Nat) (v:Nat):Int:=if v=S.outs c then S.d else sumTo (λ i=>if S.ins i=v then - S.T i c else 0) (m+1)
theorem Wf.ray_in (W:Wf m q V S) {c k:Nat} (hc:c<q+1) (hk:k<m+1):ray m S c (S.ins k) = - S.T k c:=by
 unfold ray;rw [if_neg (W.apart hk hc),sum_one hk λ i hi hn=>if_neg λ e=>hn (W.inj hi hk e),if_pos rfl]
theorem Wf.ray_out (W:Wf m q V S) {c j:Nat} (hc:c<q+1) (hj:j<q+1) (hn:j≠c):ray m S c (S.outs j)=0:=by
 unfold ray;rw [if_neg λ e=>hn (W.injo hj hc e)];exact sum_zero λ i hi=>if_neg (W.apart hi hj)
theorem Wf.ray_c {c:Nat}:ray m S c (S.outs c)=S.d:=if_pos rfl
theorem Wf.ray_ker (W:Wf m q V S) {c:Nat} (hc:c<q+1):Ker m q V S (ray m S c):=W.ker_of λ i hi=>by
 unfold a1V;rw [W.ray_in hc hi,sum_one hc λ j hj hn=>by rw [W.ray_out hc hj hn,Int.mul_zero],Wf.ray_c,Int.mul_neg,Int.mul_comm];lia
theorem b0x (W:Wf m q V S) (W':Wf m q V S') (hk:∀ z,Ker m q V S z->Ker m q V S' z) {r c r' c':Nat} (C:Choice m q S r c) (C':Choice m q S' r' c') (ht:S.ins r=S'.outs c') (hst:S.outs c<S.ins r)
  (stat:∀ v,S.ins r<v->(∃ i,i<m/\S.ins i=v)->∃ i,i<m/\S'.ins i=v) (zero:∀ k j,k<m->j<q->S.ins k=S'.outs j->S.T k q=0):False:=by
 have hc1:c<q+1:=by have:=C.hc; lia
 have R:=W'.row_of (hk _ (W.ray_ker hc1)) (show m<m+1 by lia);have zobj:ray m S c (S'.ins m) = - S.T m c:=by rw [W'.im,<- W.im]; exact W.ray_in hc1 (by lia)
 have zcon:ray m S c (S'.outs q)=0:=by rw [W'.oq,<- W.oq]; exact W.ray_out hc1 (by lia) (by have:=C.hc; lia)
 unfold a1V at R
 replace R:S'.d*ray m S c (S'.ins m)+(sumTo (λ j=>S'.T m j*ray m S c (S'.outs j)) q+S'.T m q*ray m S c (S'.outs q))=0:=R
 rw [zobj,zcon,Int.mul_zero,Int.mul_neg] at R;have hneg:0<S'.d*(- S.T m c):=Int.mul_pos W'.pos (by have:=C.neg; lia);rw [Int.mul_neg] at hneg;obtain ⟨j,hj,hg⟩:=a6b (g:=λ j=>S'.T m j*ray m S c (S'.outs j)) (n:=q) (by lia)
 replace hg:S'.T m j*ray m S c (S'.outs j)<0:=hg
 rcases W.all (S'.outs j) (W'.ob j hj) with ⟨k,hk1,e⟩ | ⟨j2,hj2,e⟩
 ·rw [<- e,W.ray_in hc1 (by lia)] at hg
  rcases Nat.lt_trichotomy (S'.outs j) (S.ins r) with h | h | h
  ·have h1:0<=S'.T m j:=by
    by_cases z:S'.T m j<0
    ·have:=C'.minc j hj z
     lia
    ·lia
   have h2:0<S.T k c:=by
    by_cases z:0<S.T k c
    ·exact z
    ·have:=Int.mul_nonneg h1 (show 0 <= - S.T k c by lia)
     lia
   have h3:=zero k j hk1 hj e;have h4:=C.ratio k hk1 h2;rw [h3,Int.zero_mul] at h4;have h5:0<=S.T r q*S.T k c:=Int.mul_nonneg (W.feas r C.hr) (Int.le_of_lt h2);have h6:=C.tie k hk1 h2 (by rw [h3,Int.zero_mul]; omega);lia
  ·have e1:j=c':=W'.oo j c' hj C'.hc (by rw [h,ht])
   have e2:k=r:=W.ii k r hk1 C.hr (by rw [e,h]);rw [e1,e2] at hg;have:=Int.mul_pos (show 0 < - S'.T m c' by have:=C'.neg; lia) C.pos;rw [Int.neg_mul] at this;rw [Int.mul_neg] at hg;lia
  ·obtain ⟨i,hi,e3⟩:=stat _ h ⟨k,hk1,e⟩
   exact W'.io i j hi hj e3
 ·by_cases c2:j2=c
  ·rw [<- e,c2,Wf.ray_c] at hg
   have h1:S'.T m j<0:=by
    by_cases z:S'.T m j<0
    ·exact z
    ·have:=Int.mul_nonneg (show 0<=S'.T m j by lia) (Int.le_of_lt W.pos)
     lia
   have:=C'.minc j hj h1;rw [c2] at e;lia
  ·rw [<- e,W.ray_out hc1 (by lia) c2,Int.mul_zero] at hg
   lia
def Zr (m q:Nat) (S:Bo) (v:Nat):Prop:=∀ i,i<m->S.ins i=v->S.T i q=0
def Bas (m:Nat) (S:Bo) (v:Nat):Prop:=∃ i,i<m/\S.ins i=v
theorem Bas.piv (W:Wf m q V S) {r c v:Nat} (hr:r<m) (hc:c<q) (h1:v≠S.ins r) (h2:v≠S.outs c):Bas m (Lp.piv S r c) v ↔ Bas m S v:=by
 constructor
 ·rintro ⟨i,hi,e⟩
  replace e:Y4 S.ins r (S.outs c) i=v:=e
  by_cases z:i=r
  ·rw [z,B8] at e; exact absurd e.symm h2
  ·rw [C3 z] at e; exact ⟨i,hi,e⟩
 ·rintro ⟨i,hi,e⟩
  have z:i≠r:=λ z=>h1 (by rw [<- e,z]);exact ⟨i,hi,(C3 z).trans e⟩
theorem Zr.piv (W:Wf m q V S) {r c:Nat} (C:Choice m q S r c) (h0:S.T r q=0) (v:Nat):Zr m q (Lp.piv S r c) v ↔ Zr m q S v:=by
 have key:∀ i,i<m->i≠r->((Lp.piv S r c).T i q=0 ↔ S.T i q=0):=λ i hi hn=>by
  have e:=W.mulT C.hr C.hc (show i<m+1 by lia) (show q<q+1 by lia) hn (show q≠c by have:=C.hc; lia);rw [h0,Int.mul_zero,Int.sub_zero] at e;constructor
  ·intro z
   rw [z,Int.mul_zero] at e;exact (Int.mul_eq_zero.mp e.symm).resolve_right (by have:=C.pos; lia)
  ·intro z
   rw [z,Int.zero_mul] at e;exact (Int.mul_eq_zero.mp e).resolve_left (by have:=W.pos; lia)
 have kr:(Lp.piv S r c).T r q=0:=by
  show (if r=r then (if q=c then S.d else S.T r q) else _)=0
  rw [if_pos rfl,if_neg (by have:=C.hc; lia)]; exact h0
 constructor
 ·intro h i hi e
  by_cases z:i=r
  ·rw [z]; exact h0
  ·exact (key i hi z).mp (h i hi ((C3 z).trans e))
 ·intro h i hi e
  by_cases z:i=r
  ·rw [z]; exact kr
  ·exact (key i hi z).mpr (h i hi ((C3 z).symm.trans e))
end
structure Seq (m q:Nat) (V:Nat->G3) (S:Nat->Bo) (R C:Nat->Nat):Prop where
 w:Wf m q V (S 0)
 ch:∀ k,Choice m q (S k) (R k) (C k)
 st:∀ k,S (k+1)=piv (S k) (R k) (C k)
section
variable {m q:Nat} {V:Nat->G3} {S:Nat->Bo} {R C:Nat->Nat}
theorem Seq.wf (Q:Seq m q V S R C):∀ k,Wf m q V (S k)
 | 0=>Q.w
 | k+1=>by rw [Q.st k]; exact (Q.wf k).pivot (Q.ch k).hr (Q.ch k).hc (Q.ch k).pos (Q.ch k).ratio
theorem Seq.ker (Q:Seq m q V S R C) (z:Nat->Int) (a:Nat):∀ n,Ker m q V (S (a+n)) z ↔ Ker m q V (S a) z
 | 0=>Iff.rfl
 | n+1=>by
  show Ker m q V (S (a+n+1)) z ↔ _
  rw [Q.st,Ker.piv (Q.ch _).hr (Q.ch _).hc];exact Q.ker z a n
def Dg (q:Nat) (S:Nat->Bo) (R:Nat->Nat) (k:Nat):Prop:=(S k).T (R k) q=0
theorem Seq.zr (Q:Seq m q V S R C) (v a:Nat):∀ n,(∀ k,a<=k->k<a+n->Dg q S R k)->(Zr m q (S (a+n)) v ↔ Zr m q (S a) v)
 | 0,_=>Iff.rfl
 | n+1,h=>by
  show Zr m q (S (a+n+1)) v ↔ _
  rw [Q.st,Zr.piv (Q.wf _) (Q.ch _) (h (a+n) (by lia) (by lia))];exact Q.zr v a n λ k h1 h2=>h k h1 (by lia)
def a4o (S:Nat->Bo) (R C:Nat->Nat) (k v:Nat):Prop:=v=(S k).ins (R k)\/v=(S k).outs (C k)
theorem Seq.bas (Q:Seq m q V S R C) (v a:Nat):∀ n,(∀ k,a<=k->k<a+n->¬ a4o S R C k v)->(Bas m (S (a+n)) v ↔ Bas m (S a) v)
 | 0,_=>Iff.rfl
 | n+1,h=>by
  have hp:=h (a+n) (by lia) (by lia)
  show Bas m (S (a+n+1)) v ↔ _
  rw [Q.st,Bas.piv (Q.wf _) (Q.ch _).hr (Q.ch _).hc (λ z=>hp (.inl z)) λ z=>hp (.inr z)];exact Q.bas v a n λ k h1 h2=>h k h1 (by lia)
theorem Seq.once (Q:Seq m q V S R C) {a b t:Nat} (hd:∀ k,a<=k->k<b->Dg q S R k) (ht:∀ k,a<=k->k<b->∀ v,a4o S R C k v->v<=t):∀ (g k0 k1:Nat),k1=k0+1+g->a<=k0->k1<b->a4o S R C k0 t->a4o S R C k1 t->False:=by
 intro g
 induction g using Nat.strongRecOn with
 | _ g ih =>
  intro k0 k1 hk ha hb p0 p1
  by_cases hm:∃ k,k0<k/\k<k1/\a4o S R C k t
  ·obtain ⟨k,h1,h2,h3⟩:=hm
   exact ih (k - k0 - 1) (by lia) k0 k (by lia) ha (by lia) p0 h3
  have W0:=Q.wf k0;have W1:=Q.wf k1;have C0:=Q.ch k0;have C1:=Q.ch k1;have bmid:Bas m (S k1) t ↔ Bas m (S (k0+1)) t:=by
   have:=Q.bas t (k0+1) g λ k h1 h2=>λ z=>hm ⟨k,by lia,by lia,z⟩;rw [show k0+1+g=k1 by lia] at this;exact this
  have stat:∀ v,t<v->(Bas m (S k1) v ↔ Bas m (S k0) v):=λ v hv=>by
   have:=Q.bas v k0 (g+1) λ k h1 h2=>λ z=>by have:=ht k (by lia) (by lia) v z; lia
   rw [show k0+(g+1)=k1 by lia] at this;exact this
  have ker:∀ z,Ker m q V (S k1) z ↔ Ker m q V (S k0) z:=λ z=>by
   have:=Q.ker z k0 (g+1);rw [show k0+(g+1)=k1 by lia] at this;exact this
  have zrr:∀ v,Zr m q (S k1) v ↔ Zr m q (S k0) v:=λ v=>by
   have:=Q.zr v k0 (g+1) λ k h1 h2=>hd k (by lia) (by lia);rw [show k0+(g+1)=k1 by lia] at this;exact this
  rcases p0 with e0 | e0
  ·-- it goes out at k0,so it comes in at k1
   have nb:¬ Bas m (S (k0+1)) t:=by
    rintro ⟨i,hi,e⟩;rw [Q.st k0] at e
    replace e:Y4 (S k0).ins (R k0) ((S k0).outs (C k0)) i=t:=e
    by_cases z:i=R k0
    ·rw [z,B8,e0] at e
     exact W0.io _ _ C0.hr C0.hc e.symm
    ·rw [C3 z,e0] at e
     exact z (W0.ii i (R k0) hi C0.hr e)
   rcases p1 with e1 | e1
   ·exact nb (bmid.mp ⟨_,C1.hr,e1.symm⟩)
   ·have hst:(S k0).outs (C k0)<(S k0).ins (R k0):=by
     have h1:=ht k0 ha (by lia) _ (.inr rfl);rw [e0] at h1;have:=W0.io (R k0) (C k0) C0.hr C0.hc;lia
    refine b0x W0 W1 (λ z h=>(ker z).mpr h) C0 C1 (by rw [<- e0,<- e1]) hst (λ v hv hb'=>(stat v (by rw [e0]; exact hv)).mpr hb') λ k j hk1 hj e=>?_;refine ((zrr ((S k0).ins k)).mp λ i hi e2=>?_) k hk1 rfl;rw [e] at e2;exact absurd e2 (W1.io i j hi hj)
  ·-- it comes in at k0,so it goes out at k1
   have ba:Bas m (S (k0+1)) t:=⟨R k0,C0.hr,by rw [Q.st k0]; show Y4 (S k0).ins (R k0) ((S k0).outs (C k0)) (R k0)=t; rw [B8]; exact e0.symm⟩;rcases p1 with e1 | e1
   ·have hst:(S k1).outs (C k1)<(S k1).ins (R k1):=by
     have h1:=ht k1 (by lia) hb _ (.inr rfl);rw [e1] at h1;have:=W1.io (R k1) (C k1) C1.hr C1.hc;lia
    refine b0x W1 W0 (λ z h=>(ker z).mp h) C1 C0 (by rw [<- e0,<- e1]) hst (λ v hv hb'=>(stat v (by rw [e1]; exact hv)).mp hb') λ k j hk1 hj e=>?_;refine ((zrr ((S k1).ins k)).mpr λ i hi e2=>?_) k hk1 rfl;rw [e] at e2;exact absurd e2 (W0.io i j hi hj)
   ·obtain ⟨i,hi,e⟩:=bmid.mpr ba
    rw [e1] at e;exact W1.io i (C k1) hi C1.hc e
theorem Seq.short (Q:Seq m q V S R C):∀ (t a b:Nat),a<=b->(∀ k,a<=k->k<b->Dg q S R k)->(∀ k,a<=k->k<b->∀ v,a4o S R C k v->v<t)->b+1<=a+2 ^ t
 | 0,a,b,hab,hd,hp=>by
  by_cases c:a<b
  ·have:=hp a (Nat.le_refl _) c _ (.inl rfl)
   lia
  ·rw [Nat.pow_zero]; lia
 | t+1,a,b,hab,hd,hp=>by
  rw [Nat.pow_succ]
  by_cases h:∃ k,a<=k/\k<b/\a4o S R C k t
  ·obtain ⟨k,h1,h2,h3⟩:=h
   have once:=Q.once hd (t:=t) λ k h1 h2 v hv=>by have:=hp k h1 h2 v hv; lia
   have i1:=Q.short t a k h1 (λ j j1 j2=>hd j j1 (by lia)) λ j j1 j2 v hv=>by
    have:=hp j j1 (by lia) v hv
    by_cases z:v=t
    ·subst z
     exact (once (k - j - 1) j k (by lia) j1 h2 hv h3).elim
    ·lia
   have i2:=Q.short t (k+1) b (by lia) (λ j j1 j2=>hd j (by lia) j2) λ j j1 j2 v hv=>by
    have:=hp j (by lia) j2 v hv
    by_cases z:v=t
    ·subst z
     exact (once (j - k - 1) k j (by lia) h1 j2 h3 hv).elim
    ·lia
   lia
  ·have:=Q.short t a b hab hd λ j j1 j2 v hv=>by
    have h4:=hp j j1 j2 v hv
    by_cases z:v=t
    ·subst z; exact absurd ⟨j,j1,j2,hv⟩ h
    ·lia
   have:0<2 ^ t:=Nat.two_pow_pos t;lia
end
section
variable {m q:Nat} {V:Nat->G3} {S:Bo}
theorem Wf.bndB {M:Nat} (hM:∀ v,Fits M (m+1) (V v)):∀ c∈Bs m V S.ins,Fits M (m+1) c:=λ c hc=>by
 obtain ⟨i,_,rfl⟩:=List.mem_map.mp hc;exact hM _
theorem Wf.bndd (W:Wf m q V S) {M:Nat} (hM:∀ v,Fits M (m+1) (V v)):S.d.natAbs<=bnd M (m+1):=by
 rw [W.hd];exact a3h (m+1) _ (a0Q m V S.ins) (Wf.bndB hM)
theorem Wf.bndT (W:Wf m q V S) {M:Nat} (hM:∀ v,Fits M (m+1) (V v)) {i j:Nat} (hi:i<m+1) (hj:j<q+1):(S.T i j).natAbs<=bnd M (m+1):=by
 rw [W.hT i j hi hj];refine a3h (m+1) _ (by rw [List.length_set]; exact a0Q m V S.ins) λ c hc=>?_;rcases List.mem_or_eq_of_mem_set hc with h | h
 ·exact Wf.bndB hM c h
 ·rw [h]; exact hM _
def phi (m q:Nat) (M:Int) (S:Bo):Int:=M*M*S.T m q / S.d
theorem Wf.gain (W:Wf m q V S) {r c:Nat} (C:Choice m q S r c) {M:Int} (h1:S.d<=M) (h2:S.T r c<=M):phi m q M S+(if S.T r q=0 then 0 else 1)<=phi m q M (piv S r c):=by
 have hcq:c<q:=C.hc;have hrm:r<m:=C.hr;have e:=W.mulT hrm hcq (show m<m+1 by lia) (show q<q+1 by lia) (show m≠r by lia) (show q≠c by lia);have hp:=C.pos;have hd:=W.pos;have hn:=C.neg;have hf:=W.feas r hrm;unfold phi
 show _<=M*M*(piv S r c).T m q / S.T r c
 generalize (piv S r c).T m q=N' at *;generalize S.T m q=N at *;generalize S.T r c=p at *;generalize S.d=d at *;generalize S.T m c=g at *;generalize S.T r q=b at *;rw [Int.le_ediv_iff_mul_le hp];have hfl:M*M*N / d*d<=M*M*N:=Int.ediv_mul_le _ (by lia);generalize M*M*N / d=f at *;have hM:0<M:=by lia
 have hMM:d*p<=M*M:=Int.mul_le_mul h1 h2 (Int.le_of_lt hp) (Int.le_of_lt hM);have key:(f+(if b=0 then 0 else 1))*p*d<=M*M*N'*d:=by
  have a1:M*M*N'*d=M*M*N*p+M*M*(-(g*b)):=by
   have:N'*d=N*p - g*b:=by rw [Int.mul_comm N' d]; exact e
   rw [Int.mul_assoc (M*M),this,Int.mul_sub,Int.mul_assoc (M*M),Int.mul_neg];lia
  have a2:f*d*p<=M*M*N*p:=Int.mul_le_mul_of_nonneg_right hfl (Int.le_of_lt hp);have a3:f*p*d=f*d*p:=by rw [Int.mul_assoc,Int.mul_comm p d,<- Int.mul_assoc]
  by_cases c0:b=0
  ·rw [if_pos c0,Int.add_zero,a1,a3,c0]
   simp only [Int.mul_zero,Int.neg_zero,Int.add_zero];exact a2
  ·rw [if_neg c0]
   have a4:1 <= -(g*b):=by
    have:=Int.mul_pos (show 0 < -g by lia) (show 0<b by lia);rw [Int.neg_mul] at this;lia
   have a5:M*M*1<=M*M*(-(g*b)):=Int.mul_le_mul_of_nonneg_left a4 (Int.mul_nonneg (Int.le_of_lt hM) (Int.le_of_lt hM));rw [Int.add_mul,Int.add_mul,Int.one_mul,a3,a1];rw [Int.mul_comm d p] at hMM;lia
 exact Int.le_of_mul_le_mul_right key hd
theorem Wf.phi_le (W:Wf m q V S) {M:Int} (h1:S.T m q<=M) (h0:0<M):phi m q M S<=M*M*M:=by
 unfold phi;refine Int.ediv_le_of_le_mul W.pos ?_;have a1:M*M*S.T m q<=M*M*M:=Int.mul_le_mul_of_nonneg_left h1 (Int.mul_nonneg (Int.le_of_lt h0) (Int.le_of_lt h0));have a2:M*M*M*1<=M*M*M*S.d:=Int.mul_le_mul_of_nonneg_left (by have:=W.pos; lia) (Int.mul_nonneg (Int.mul_nonneg (Int.le_of_lt h0) (Int.le_of_lt h0)) (Int.le_of_lt h0));lia
end
section
variable {m q:Nat} {V:Nat->G3} {S:Nat->Bo} {R C:Nat->Nat}
theorem Seq.part_lt (Q:Seq m q V S R C) (k v:Nat) (h:a4o S R C k v):v<q+m:=by
 rcases h with h | h
 ·rw [h]; exact (Q.wf k).ib _ (Q.ch k).hr
 ·rw [h]; exact (Q.wf k).ob _ (Q.ch k).hc
theorem Seq.never (Q:Seq m q V S R C) {M:Nat} (hM:∀ v,Fits M (m+1) (V v)):False:=by
 obtain ⟨B,hB⟩:∃ B:Int,B=(bnd M (m+1):Int):=⟨_,rfl⟩;have bT:∀ k i j,i<m+1->j<q+1->(S k).T i j<=B:=λ k i j hi hj=>by
  have:=(Q.wf k).bndT hM hi hj;lia
 have bd:∀ k,(S k).d<=B:=λ k=>by
  have:=(Q.wf k).bndd hM;lia
 have B0:0<B:=by have:=bd 0; have:=(Q.wf 0).pos; lia
 have up:∀ k,phi m q B (S k)+(if (S k).T (R k) q=0 then 0 else 1)<=phi m q B (S (k+1)):=λ k=>by
  rw [Q.st k];exact (Q.wf k).gain (Q.ch k) (bd k) (bT k _ _ (by have:=(Q.ch k).hr; lia) (by have:=(Q.ch k).hc; lia))
 have mono:∀ n k,phi m q B (S k)<=phi m q B (S (k+n)):=λ n=>by
  induction n with
  | zero=>intro k; exact Int.le_refl _
  | succ n ih =>
   intro k;have h1:=ih k;have h2:=up (k+n);have h3:phi m q B (S (k+n))<=phi m q B (S (k+n+1)):=by
    split at h2 <;> lia
   exact Int.le_trans h1 h3
 have Q9:∀ k,phi m q B (S k)<=B*B*B:=λ k=>(Q.wf k).phi_le (bT k m q (by lia) (by lia)) B0;have gap:∀ (g:Nat) (k:Nat),B*B*B - phi m q B (S k)<=(g:Int)->False:=by
  intro g
  induction g with
  | zero =>
   intro k hk;have:∃ j,k<=j/\j<k+2 ^ (q+m)/\¬ Dg q S R j:=by
    refine Classical.byContradiction λ hn=>?_;have:=Q.short (q+m) k (k+2 ^ (q+m)) (Nat.le_add_right _ _) (λ j h1 h2=>Classical.byContradiction λ z=>hn ⟨j,h1,h2,z⟩) λ j _ _ v hv=>Q.part_lt j v hv;lia
   obtain ⟨j,h1,h2,h3⟩:=this;have u:=up j;rw [if_neg (show ¬ (S j).T (R j) q=0 from h3)] at u;have m1:=mono (j - k) k;rw [show k+(j - k)=j by lia] at m1;have:=Q9 (j+1);lia
  | succ g ih =>
   intro k hk;have:∃ j,k<=j/\j<k+2 ^ (q+m)/\¬ Dg q S R j:=by
    refine Classical.byContradiction λ hn=>?_;have:=Q.short (q+m) k (k+2 ^ (q+m)) (Nat.le_add_right _ _) (λ j h1 h2=>Classical.byContradiction λ z=>hn ⟨j,h1,h2,z⟩) λ j _ _ v hv=>Q.part_lt j v hv;lia
   obtain ⟨j,h1,h2,h3⟩:=this;have u:=up j;rw [if_neg (show ¬ (S j).T (R j) q=0 from h3)] at u;have m1:=mono (j - k) k;rw [show k+(j - k)=j by lia] at m1;exact ih (j+1) (by lia)
 exact gap (B*B*B - phi m q B (S 0)).toNat 0 (by lia)
end
inductive Ends (m q:Nat):Bo->Nat->Prop
 | stop {S:Bo}:(¬ ∃ r c,Choice m q S r c)->Ends m q S 0
 | go {S:Bo} {r c k:Nat}:Choice m q S r c->Ends m q (piv S r c) k->Ends m q S (k+1)
theorem Choice.uniq {m q:Nat} {V:Nat->G3} {S:Bo} (W:Wf m q V S) {r c r' c':Nat} (h:Choice m q S r c) (h':Choice m q S r' c'):r=r'/\c=c':=by
 have ec:c=c':=W.oo c c' h.hc h'.hc (Nat.le_antisymm (h.minc c' h'.hc h'.neg) (h'.minc c h.hc h.neg));subst ec;have e1:=h.ratio r' h'.hr h'.pos;have e2:=h'.ratio r h.hr h.pos;have e:S.T r q*S.T r' c=S.T r' q*S.T r c:=by lia
 exact ⟨W.ii r r' h.hr h'.hr (Nat.le_antisymm (h.tie r' h'.hr h'.pos e) (h'.tie r h.hr h.pos e.symm)),rfl⟩
theorem Ends.next {m q:Nat} {V:Nat->G3} {S:Bo} (W:Wf m q V S) {k r c:Nat} (h:Ends m q S k) (C:Choice m q S r c):∃ j,j<k/\Ends m q (piv S r c) j:=by
 cases h with
 | stop hn=>exact absurd ⟨r,c,C⟩ hn
 | go C' h' =>
  obtain ⟨rfl,rfl⟩:=C.uniq W C';exact ⟨_,Nat.lt_succ_self _,h'⟩
theorem Wf.ends {m q:Nat} {V:Nat->G3} {M:Nat} (hM:∀ v,Fits M (m+1) (V v)) {S:Bo} (W:Wf m q V S):∃ k,Ends m q S k:=by
 refine Classical.byContradiction λ hn=>?_;have ch:∀ S',Wf m q V S'->(¬ ∃ k,Ends m q S' k)->∃ p:Nat×Nat,Choice m q S' p.1 p.2:=λ S' _ h'=>by
  refine Classical.byContradiction λ z=>h' ⟨0,.stop λ ⟨r,c,C⟩=>z ⟨(r,c),C⟩⟩
 let St:={ S':Bo // Wf m q V S'/\¬ ∃ k,Ends m q S' k }
 let pk:(X:St)->Nat×Nat:=λ X=>(ch X.1 X.2.1 X.2.2).choose
 have pc:∀ X:St,Choice m q X.1 (pk X).1 (pk X).2:=λ X=>(ch X.1 X.2.1 X.2.2).choose_spec
 let nx:St->St:=λ X=>⟨piv X.1 (pk X).1 (pk X).2,X.2.1.pivot (pc X).hr (pc X).hc (pc X).pos (pc X).ratio,λ ⟨k,e⟩=>X.2.2 ⟨k+1,.go (pc X) e⟩⟩
 let sq:Nat->St:=λ k=>Nat.rec ⟨S,W,hn⟩ (λ _ X=>nx X) k
 exact Seq.never (S:=λ k=>(sq k).1) (R:=λ k=>(pk (sq k)).1) (C:=λ k=>(pk (sq k)).2) ⟨W,λ k=>pc (sq k),λ k=>rfl⟩ hM
def Vv (m q:Nat) (A:Nat->Nat->Int) (b c:Nat->Int):Nat->G3:=λ v x =>
 if v<q then (if x<m then A x v else if x=m then - c v else 0) else if v<q+m+1 then (if x=v - q then 1 else 0) else (if x<m then b x else 0)
def S0 (m q:Nat) (A:Nat->Nat->Int) (b c:Nat->Int):Bo where
 d:=1
 T:=λ i j=>if j<q then (if i<m then A i j else - c j) else (if i<m then b i else 0)
 ins:=λ i=>q+i
 outs:=λ j=>if j<q then j else q+m+1
section
variable {m q:Nat} {A:Nat->Nat->Int} {b c:Nat->Int}
theorem b1L {v x:Nat} (h:v<q):Vv m q A b c v x=if x<m then A x v else if x=m then - c v else 0:=by unfold Vv; rw [if_pos h]
theorem b2D {i:Nat} (h:i<m+1):Vv m q A b c (q+i)=S7 i:=by
 funext x
 unfold Vv S7;rw [if_neg (by lia),if_pos (by lia),show q+i - q=i by lia]
theorem b2H {x:Nat}:Vv m q A b c (q+m+1) x=if x<m then b x else 0:=by unfold Vv; rw [if_neg (by lia),if_neg (by lia)]
theorem b0D {v x:Nat} (h:m<x):Vv m q A b c v x=0:=by
 unfold Vv
 by_cases h1:v<q
 ·rw [if_pos h1,if_neg (by lia),if_neg (by lia)]
 ·rw [if_neg h1]
  by_cases h2:v<q+m+1
  ·rw [if_pos h2,if_neg (by lia)]
  ·rw [if_neg h2,if_neg (by lia)]
theorem Bs0:Bs m (Vv m q A b c) (S0 m q A b c).ins=(List.range (m+1)).map S7:=by
 unfold Bs;exact List.map_congr_left λ i hi=>b2D (List.mem_range.mp hi)
theorem a3S {n k:Nat} (h:k<n):((List.range n).map S7).getD k zv=S7 k:=by rw [List.getD_eq_getElem?_getD,List.getElem?_map,List.getElem?_range h]; rfl
theorem a2B {n:Nat} {u:G3} (hu:∀ x,n<=x->u x=0) (x:Nat):sumTo (λ k=>u k*S7 k x) n=u x:=by
 by_cases h:x<n
 ·rw [sum_one h λ k _ hn=>by show u k*(if x=k then 1 else 0)=0; rw [if_neg (Ne.symm hn),Int.mul_zero]]
  show u x*(if x=x then 1 else 0)=u x
  rw [if_pos rfl,Int.mul_one]
 ·rw [hu x (by lia)]
  refine sum_zero λ k hk=>?_
  show u k*(if x=k then 1 else 0)=0
  rw [if_neg (by lia),Int.mul_zero]
theorem a0w {n i:Nat} (hi:i<n) {u:G3} (hu:∀ x,n<=x->u x=0):E4 n (((List.range n).map S7).set i u)=u i:=by
 have hl:((List.range n).map S7).length=n:=by rw [List.length_map,List.length_range]
 have h:=a1s hl hi u S7 n;have e:(λ x:Nat=>sumTo (λ k=>u k*S7 k x) n)=u:=by funext x; exact a2B hu x
 rw [e,sum_one hi λ k hk hn=>?_] at h
 ·rw [h,<- a3S hi,R5 (by lia),a0x,Int.mul_one]
 ·have:E4 n (((List.range n).map S7).set i (S7 k))=0:=by
   refine X1 (i:=k) (k:=i) (u:=S7 k) (by rw [List.length_set]; exact hl) hn ?_ ?_
   ·rw [List.getElem?_set_ne (Ne.symm hn),List.getElem?_map,List.getElem?_range hk]; rfl
   ·rw [List.getElem?_set_self (by lia)]
  rw [this,Int.mul_zero]
theorem wf0 (hb:∀ i,i<m->0<=b i):Wf m q (Vv m q A b c) (S0 m q A b c):=by
 have far:∀ v x,m+1<=x->Vv m q A b c v x=0:=λ v x h=>b0D (by lia);refine ⟨?_,λ i j hi hj=>?_,λ j hj x=>?_,Int.one_pos,λ i hi=>?_,rfl,?_,λ i hi=>?_,λ j hj=>?_,λ i k hi hk e=>?_,λ j k hj hk e=>?_,λ i j hi hj e=>?_,λ v hv=>?_⟩
 ·rw [Bs0,a0x]; rfl
 ·rw [Bs0,a0w hi (far _)]
  show (if j<q then (if i<m then A i j else - c j) else (if i<m then b i else 0))=Vv m q A b c (if j<q then j else q+m+1) i
  by_cases h:j<q
  ·rw [if_pos h,if_pos h,b1L h]
   by_cases h2:i<m
   ·rw [if_pos h2,if_pos h2]
   ·rw [if_neg h2,if_neg h2,if_pos (by lia)]
  ·rw [if_neg h,if_neg h,b2H]
 ·rw [Bs0,a0x,Int.one_mul]
  have e:sumTo (λ k=>E4 (m+1) (((List.range (m+1)).map S7).set k (Vv m q A b c ((S0 m q A b c).outs j)))*(((List.range (m+1)).map S7).getD k zv) x) (m+1)=sumTo (λ k=>Vv m q A b c ((S0 m q A b c).outs j) k*S7 k x) (m+1) :=
   sum_congr λ k hk=>by rw [a0w hk (far _),a3S hk]
  rw [e,a2B (far _)]
 ·show 0<=(if q<q then _ else (if i<m then b i else 0))
  rw [if_neg (Nat.lt_irrefl _),if_pos hi]; exact hb i hi
 ·show (if q<q then q else q+m+1)=q+m+1
  rw [if_neg (Nat.lt_irrefl _)]
 ·show q+i<q+m; lia
 ·show (if j<q then j else q+m+1)<q+m
  rw [if_pos hj]; lia
 ·replace e:q+i=q+k:=e
  lia
 ·replace e:(if j<q then j else q+m+1)=(if k<q then k else q+m+1):=e
  rw [if_pos hj,if_pos hk] at e;exact e
 ·replace e:q+i=(if j<q then j else q+m+1):=e
  rw [if_pos hj] at e;lia
 ·by_cases h:v<q
  ·exact .inr ⟨v,h,if_pos h⟩
  ·exact .inl ⟨v - q,by lia,by show q+(v - q)=v; lia⟩
theorem ker0 {z:Nat->Int}:Ker m q (Vv m q A b c) (S0 m q A b c) z ↔ (∀ i,i<m->z (q+i)+sumTo (λ j=>A i j*z j) q+b i*z (q+m+1)=0)/\z (q+m)=sumTo (λ j=>c j*z j) q:=by
  have e:∀ x,sumTo (λ k=>z ((S0 m q A b c).ins k)*Vv m q A b c ((S0 m q A b c).ins k) x) (m+1)+sumTo (λ j=>z ((S0 m q A b c).outs j)*Vv m q A b c ((S0 m q A b c).outs j) x) (q+1)
     =(if x<m+1 then z (q+x) else 0)+(sumTo (λ j=>z j*Vv m q A b c j x) q+z (q+m+1)*(if x<m then b x else 0)):=λ x=>by
    have e1:sumTo (λ k=>z ((S0 m q A b c).ins k)*Vv m q A b c ((S0 m q A b c).ins k) x) (m+1)=if x<m+1 then z (q+x) else 0:=by
      have:sumTo (λ k=>z ((S0 m q A b c).ins k)*Vv m q A b c ((S0 m q A b c).ins k) x) (m+1)=sumTo (λ k=>z (q+k)*S7 k x) (m+1):=sum_congr λ k hk=>by
        show z (q+k)*Vv m q A b c (q+k) x=_
        rw [b2D hk]
      rw [this]
      by_cases h:x<m+1
      . rw [if_pos h,sum_one h λ k _ hn=>by show z (q+k)*(if x=k then 1 else 0)=0; rw [if_neg (Ne.symm hn),Int.mul_zero]]
        show z (q+x)*(if x=x then 1 else 0)=_
        rw [if_pos rfl,Int.mul_one]
      . rw [if_neg h]
        refine sum_zero λ k hk=>?_
        show z (q+k)*(if x=k then 1 else 0)=0
        rw [if_neg (by lia),Int.mul_zero]
    have e2:sumTo (λ j=>z ((S0 m q A b c).outs j)*Vv m q A b c ((S0 m q A b c).outs j) x) (q+1)=sumTo (λ j=>z j*Vv m q A b c j x) q+z (q+m+1)*(if x<m then b x else 0):=by
      show sumTo (λ j=>z (if j<q then j else q+m+1)*Vv m q A b c (if j<q then j else q+m+1) x) q+z (if q<q then q else q+m+1)*Vv m q A b c (if q<q then q else q+m+1) x=_
      rw [if_neg (Nat.lt_irrefl _),b2H];have:sumTo (λ j=>z (if j<q then j else q+m+1)*Vv m q A b c (if j<q then j else q+m+1) x) q=sumTo (λ j=>z j*Vv m q A b c j x) q:=sum_congr λ j hj=>by rw [if_pos hj]
      rw [this]
    rw [e1,e2]
  have am:∀ i,i<m->sumTo (λ j=>z j*Vv m q A b c j i) q=sumTo (λ j=>A i j*z j) q:=λ i hi=>sum_congr λ j hj=>by rw [b1L hj,if_pos hi,Int.mul_comm]
  have ob:sumTo (λ j=>z j*Vv m q A b c j m) q = - sumTo (λ j=>c j*z j) q:=by
    rw [show - sumTo (λ j=>c j*z j) q=(-1)*sumTo (λ j=>c j*z j) q by lia,<- N5];refine sum_congr λ j hj=>?_;rw [b1L hj,if_neg (Nat.lt_irrefl _),if_pos rfl,Int.mul_neg,Int.mul_comm];lia
  constructor
  . intro h
    refine ⟨λ i hi=>?_,?_⟩
    . have:=h i
      rw [e i,if_pos (by lia),if_pos hi,am i hi,Int.mul_comm (z (q+m+1))] at this;lia
    . have:=h m
      rw [e m,if_pos (by lia),if_neg (Nat.lt_irrefl _),ob,Int.mul_zero] at this;lia
  . rintro ⟨h1,h2⟩ x
    rw [e x]
    by_cases c1:x<m
    . have:=h1 x c1
      rw [if_pos (by lia),if_pos c1,am x c1,Int.mul_comm (z (q+m+1))];lia
    . by_cases c2:x=m
      . subst c2
        rw [if_pos (by lia),if_neg (Nat.lt_irrefl _),ob,Int.mul_zero];lia
      . rw [if_neg (by lia),if_neg c1,Int.mul_zero,sum_zero λ j hj=>by rw [b0D (by lia),Int.mul_zero]]
        rfl
end
def valIn (m:Nat) (S:Bo) (q v:Nat):Int:=sumTo (λ i=>if S.ins i=v then S.T i q else 0) m
def valOut (m q:Nat) (S:Bo) (v:Nat):Int:=sumTo (λ j=>if S.outs j=v then S.T m j else 0) q
theorem a8Y {g:Nat->Int}:∀ {n:Nat},(∀ k,k<n->0<=g k)->0<=sumTo g n
 | 0,_=>Int.le_refl 0
 | n+1,h=>by
  have h1:=a8Y (g:=g) (n:=n) λ k hk=>h k (by lia);have h2:=h n (by lia)
  show 0<=sumTo g n+g n
  lia
section
variable {m q:Nat} {A:Nat->Nat->Int} {b c:Nat->Int} {S:Bo}
structure Of (m q:Nat) (A:Nat->Nat->Int) (b c:Nat->Int) (S:Bo):Prop where
 w:Wf m q (Vv m q A b c) S
 k:∀ z,Ker m q (Vv m q A b c) S z ↔ Ker m q (Vv m q A b c) (S0 m q A b c) z
theorem of0 (hb:∀ i,i<m->0<=b i):Of m q A b c (S0 m q A b c):=⟨wf0 hb,λ _=>Iff.rfl⟩
theorem Of.piv (O:Of m q A b c S) {r cc:Nat} (C:Choice m q S r cc):Of m q A b c (Lp.piv S r cc) :=
 ⟨O.w.pivot C.hr C.hc C.pos C.ratio,λ z=>(Ker.piv C.hr C.hc).trans (O.k z)⟩
theorem Of.valOut_nn (h:∀ j,j<q->0<=S.T m j) (v:Nat):0<=valOut m q S v:=a8Y λ j hj=>by
 split
 ·exact h j hj
 ·exact Int.le_refl 0
theorem a8r (O:Of m q A b c S) (z:Nat->Int):sumTo (λ j=>S.T m j*z (S.outs j)) q=sumTo (λ v=>valOut m q S v*z v) (q+m):=by
 have e:∀ v,v<q+m->valOut m q S v*z v=sumTo (λ j=>(if S.outs j=v then S.T m j else 0)*z v) q:=λ v _=>by
  unfold valOut;rw [Int.mul_comm,<- N5];exact sum_congr λ j _=>Int.mul_comm _ _
 rw [sum_congr e,a2i];refine sum_congr λ j hj=>?_;rw [sum_one (O.w.ob j hj) λ v _ hn=>by rw [if_neg (Ne.symm hn),Int.zero_mul],if_pos rfl]
theorem Of.row_goal (O:Of m q A b c S) {z:Nat->Int} (h:Ker m q (Vv m q A b c) (S0 m q A b c) z):S.d*z (q+m)+sumTo (λ v=>valOut m q S v*z v) (q+m)+S.T m q*z (q+m+1)=0:=by
 have R:=O.w.row_of ((O.k z).mpr h) (show m<m+1 by lia);unfold a1V at R
 replace R:S.d*z (S.ins m)+(sumTo (λ j=>S.T m j*z (S.outs j)) q+S.T m q*z (S.outs q))=0:=R
 rw [O.w.im,O.w.oq,a8r O] at R;lia
theorem a0I {g:Nat->Int} (n:Nat):∀ k:Nat,sumTo g (n+k)=sumTo g n+sumTo (λ i=>g (n+i)) k
 | 0=>(Int.add_zero _).symm
 | k+1=>by
  show sumTo g (n+k)+g (n+k)=sumTo g n+(sumTo (λ i=>g (n+i)) k+g (n+k))
  rw [a0I n k];lia
theorem Of.dual (O:Of m q A b c S):(∀ j,j<q->sumTo (λ i=>A i j*valOut m q S (q+i)) m=c j*S.d+valOut m q S j)/\sumTo (λ i=>b i*valOut m q S (q+i)) m=S.T m q:=by
 constructor
 ·intro j hj
  have hk:Ker m q (Vv m q A b c) (S0 m q A b c) (λ v=>if v<q then (if v=j then 1 else 0) else if v<q+m then - A (v - q) j else if v=q+m then c j else 0):=by
   refine ker0.mpr ⟨λ i hi=>?_,?_⟩
   ·rw [if_neg (by lia),if_pos (by lia),show q+i - q=i by lia,if_neg (by lia),if_neg (by lia),if_neg (by lia),Int.mul_zero,sum_one hj λ k hk hn=>by rw [if_pos hk,if_neg hn,Int.mul_zero],if_pos hj,if_pos rfl]
    lia
   ·rw [if_neg (by lia),if_neg (by lia),if_pos rfl,sum_one hj λ k hk hn=>by rw [if_pos hk,if_neg hn,Int.mul_zero],if_pos hj,if_pos rfl]
    lia
  have R:=O.row_goal hk;rw [if_neg (by lia),if_neg (by lia),if_pos rfl,if_neg (by lia),if_neg (by lia),if_neg (by lia),Int.mul_zero,a0I,sum_one hj λ k hk hn=>by rw [if_pos hk,if_neg hn,Int.mul_zero],if_pos hj,if_pos rfl] at R;have e:sumTo (λ i=>valOut m q S (q+i)*(if q+i<q then (if q+i=j then 1 else 0) else if q+i<q+m then - A (q+i - q) j else if q+i=q+m then c j else 0)) m = - sumTo (λ i=>A i j*valOut m q S (q+i)) m:=by
   rw [show - sumTo (λ i=>A i j*valOut m q S (q+i)) m=(-1)*sumTo (λ i=>A i j*valOut m q S (q+i)) m by lia,<- N5];refine sum_congr λ i hi=>?_;rw [if_neg (by lia),if_pos (by lia),show q+i - q=i by lia,Int.mul_neg,Int.mul_comm];lia
  rw [e,Int.mul_comm S.d] at R;lia
 ·have hk:Ker m q (Vv m q A b c) (S0 m q A b c) (λ v=>if v<q then 0 else if v<q+m then b (v - q) else if v=q+m then 0 else -1):=by
   refine ker0.mpr ⟨λ i hi=>?_,?_⟩
   ·rw [if_neg (by lia),if_pos (by lia),show q+i - q=i by lia,if_neg (by lia),if_neg (by lia),if_neg (by lia),sum_zero λ k hk=>by rw [if_pos hk,Int.mul_zero]]
    lia
   ·rw [if_neg (by lia),if_neg (by lia),if_pos rfl,sum_zero λ k hk=>by rw [if_pos hk,Int.mul_zero]]
  have R:=O.row_goal hk;rw [if_neg (by lia),if_neg (by lia),if_pos rfl,if_neg (by lia),if_neg (by lia),if_neg (by lia),Int.mul_zero,a0I,sum_zero λ k hk=>by rw [if_pos hk,Int.mul_zero]] at R;have e:sumTo (λ i=>valOut m q S (q+i)*(if q+i<q then 0 else if q+i<q+m then b (q+i - q) else if q+i=q+m then 0 else -1)) m=sumTo (λ i=>b i*valOut m q S (q+i)) m :=
   sum_congr λ i hi=>by rw [if_neg (by lia),if_pos (by lia),show q+i - q=i by lia,Int.mul_comm]
  rw [e] at R;lia
end
end Lp
namespace Rim
open PySem L2
def Q9 (i:Nat):Stmt:=PySem.Challenge.pw_rimhouse_k07_papers_of_rims.main.body.getD i (.Pass ⟨0,0,0,0⟩)
abbrev b1J:Stmt:=Q9 5
abbrev b1g:Stmt:=Q9 6
abbrev b1N:Stmt:=Q9 11
abbrev a4E:Stmt:=Q9 17
abbrev O2:Stmt:=Q9 19
abbrev a3d:Stmt:=Q9 24
abbrev R6:Stmt:=Q9 27
abbrev K1:Stmt:=Q9 29
abbrev a0S:Stmt:=Q9 28
abbrev a8k:Stmt:=Q9 39
abbrev a4N:Stmt:=Q9 40
abbrev a8n:Stmt:=Q9 42
abbrev a0N:Stmt:=Q9 43
abbrev a3r:Stmt:=Q9 44
abbrev a7J:Stmt:=Q9 45
abbrev a7l:Stmt:=Q9 47
abbrev a7x:Stmt:=Q9 48
abbrev a2M:Stmt:=Q9 49
abbrev T6:Stmt:=Q9 50
abbrev T7:Stmt:=Q9 51
abbrev a8g:Stmt:=Q9 52
abbrev O3:Stmt:=Q9 53
abbrev a1k:Stmt:=Q9 61
abbrev a0g:Stmt:=Q9 7
abbrev N3:Stmt:=Q9 8
abbrev a2T:Stmt:=Q9 9
abbrev E7:Stmt:=Q9 12
abbrev Y1:Stmt:=Q9 13
abbrev S6:Stmt:=Q9 14
abbrev a2e:Stmt:=Q9 15
abbrev M8:Stmt:=Q9 22
abbrev U8:Stmt:=Q9 23
abbrev T3:Stmt:=Q9 25
abbrev J1:Stmt:=Q9 26
abbrev a3b:Stmt:=Q9 31
abbrev S8:Stmt:=Q9 32
abbrev G6:Stmt:=Q9 33
abbrev T4:Stmt:=Q9 35
abbrev a3f:Stmt:=Q9 36
abbrev V4:Stmt:=Q9 37
abbrev K4:Stmt:=Q9 56
abbrev J6:Stmt:=Q9 57
abbrev M5:Stmt:=Q9 58
abbrev J5:Stmt:=Q9 59
abbrev K8:Stmt:=Q9 60
abbrev Z7:Stmt:=Q9 18
abbrev a4i:Stmt:=V7 Z7 0
abbrev a3v:Stmt:=V7 Z7 1
abbrev a5s:Stmt:=V7 Z7 2
abbrev a5w:Stmt:=V7 Z7 3
abbrev Q7:Stmt:=V7 Z7 4
abbrev a9c:Stmt:=V7 Z7 5
abbrev b2e:Stmt:=V7 Z7 6
abbrev b2m:Pos:=⟨82,32,82,64⟩
structure w6 (mg:Str->Option Value):Prop where
 len:mg "len"=none
 all:mg "all"=none
 any:mg "any"=none
 max:mg "max"=none
 min:mg "min"=none
 sum:mg "sum"=none
 tuple:mg "tuple"=none
 list:mg "list"=none
 int:mg "int"=none
 bool:mg "bool"=none
 range:mg "range"=none
 isi:mg "isinstance"=none
 abs:mg "abs"=none
 zip:mg "zip"=none
 enum:mg "enumerate"=none
 ve:mg "ValueError"=none
 so:mg "sorted"=none
theorem a3s (K:W.Frag) {X:Cx} (h:X.K=K):IxR X (b3o K):=by subst h; exact j0
theorem E6 (K:W.Frag) {X:Cx} {es:List Expr} {k:Nat} {t:TGs} {n:Nat} {pos:Pos} (h:X.K=K) (hc:X.calm=true) (hp:PGs X es t) (hn:(assignEach es X.env).length=n:=by rfl) (hst:(assignEach es X.env).findIdx? (·.1)=none:=by rfl):PG X (.Tuple es k pos) (a4X K n t):=by subst h; exact K2 hc hp hn hst
def b2V (K:W.Frag):List V->Hp->VK->Prop:=λ xs H Q=>∃ p ys,xs=[.ref p]/\(SqL K H p ys\/SqT K H p ys)/\∀ l,H l=none->Q (.ref l) (upd H l (.lst ys))
theorem a5W (K:W.Frag) {X:Cx} (h:X.K=K):N6 X (.type "list") (b2V K):=by subst h; exact C6
def vI:V->Int
 | .int i=>i
 | _=>0
theorem O6 {ns:List Int} {i:Nat} {x:V} (h:(ns.map V.int)[i]?=some x):∃ k,x=.int k:=by
 rw [List.getElem?_map] at h
 cases hn:ns[i]? with
 | none=>rw [hn] at h; cases h
 | some k=>rw [hn] at h; cases h; exact ⟨k,rfl⟩
theorem b2I {N:VK} {b b':Bool} {H:Hp} (h:N (.bl b) H) (e:b'=b):N (.bl b') H:=by rw [e]; exact h
abbrev j5:=List Int×List Int
def HS (K:W.Frag) (H:Hp) (v:V) (h:j5):Prop:=∃ a t g,v=.ref a/\SqT K H a [.ref t,.ref g]/\SqT K H t (h.1.map V.int)/\SqT K H g (h.2.map V.int)
abbrev Bk (K:W.Frag) (H:Hp):List V->List j5->Prop:=PySem.Paired (HS K H)
theorem HS.same {K:W.Frag} {H H':Hp} {v:V} {h:j5} (e:Same H H') (x:HS K H v h):HS K H' v h:=by
 obtain ⟨a,t,g,h0,h1,h2,h3⟩:=x;exact ⟨a,t,g,h0,e.tseq h1,e.tseq h2,e.tseq h3⟩
theorem Bk.same {K:W.Frag} {H H':Hp} {vs:List V} {hs:List j5} (e:Same H H') (x:Bk K H vs hs):Bk K H' vs hs:=Paired.imp' (λ _ _ r=>HS.same e r) x
theorem Paired.at {α β:Type} {F:α->β->Prop}:∀ {l₁:List α} {l₂:List β},PySem.Paired F l₁ l₂->∀ {i:Nat} {x:α},l₁[i]?=some x->∃ y,l₂[i]?=some y/\F x y
 | _,_,.nil,_,_,e=>by simp at e
 | _,_,.cons r _,0,_,e=>by simp at e; subst e; exact ⟨_,rfl,r⟩
 | _,_,.cons _ t,i+1,x,e=>by
  obtain ⟨y,h1,h2⟩:=Paired.at t (i:=i) (x:=x) (by simpa using e);exact ⟨y,by simpa using h1,h2⟩
def C5 (q:Nat) (S:Lp.Bo) (i:Nat):List Int:=(List.range (q+1)).map (S.T i)
def N9 (q:Nat) (S:Lp.Bo):List Int:=(List.range q).map λ j=>(S.outs j:Int)
def R7 (m:Nat) (S:Lp.Bo):List Int:=(List.range m).map λ i=>(S.ins i:Int)
abbrev bdF (q:Nat) (d:Int) (ca oa ia:Addr):List (Str×V):=[("many",.int q),("scale",.int d),("cells",.ref ca),("outs",.ref oa),("ins",.ref ia)]
structure Bd (C:Addr) (H:Hp) (p dx ca oa ia:Addr) (rs:List Addr) (m q:Nat) (S:Lp.Bo):Prop where
 obj:H p=some (.ins C dx (bdF q S.d ca oa ia))
 cel:H ca=some (.lst (rs.map V.ref))
 len:rs.length=m+1
 row:∀ i r,rs[i]?=some r->H r=some (.lst ((C5 q S i).map V.int))
 out:H oa=some (.lst ((N9 q S).map V.int))
 inn:H ia=some (.lst ((R7 m S).map V.int))
 ne:oa≠ia
structure TB (K:W.Frag) (C:Addr):Prop where
 cl:Cls K C
 nM:NoAttr K C "many"
 nS:NoAttr K C "scale"
 nC:NoAttr K C "cells"
 nO:NoAttr K C "outs"
 nI:NoAttr K C "ins"
section
variable {C:Addr} {H H':Hp} {p dx ca oa ia:Addr} {rs:List Addr} {m q:Nat} {S:Lp.Bo}
theorem Bd.rs_at (B:Bd C H p dx ca oa ia rs m q S) {i:Nat} (h:i<m+1):∃ r,rs[i]?=some r/\M2 (rs.map V.ref) (i:Int)=some (.ref r):=by
 have h':i<rs.length:=by rw [B.len]; exact h
 refine ⟨rs[i],List.getElem?_eq_getElem h',r6 ?_⟩;rw [List.getElem?_map,List.getElem?_eq_getElem h']; rfl
theorem X8 {i j:Nat} (h:j<q+1):M2 ((C5 q S i).map V.int) (j:Int)=some (.int (S.T i j)):=r6 (by
 unfold C5;rw [List.getElem?_map,List.getElem?_map,List.getElem?_range h]; rfl)
theorem a6x {α:Type} {xs:List α} {n:Nat} {v:α} (hl:xs.length=n+1) (h:xs[n]?=some v):M2 xs (-1)=some v:=by
 have e:ixN xs.length (-1)=some n:=by
  unfold ixN;rw [hl,if_neg (by decide),if_pos (by lia)]
  congr 1
  lia
 unfold M2; rw [e]; exact h
theorem Y9 {i:Nat}:M2 ((C5 q S i).map V.int) (-1)=some (.int (S.T i q)):=a6x (n:=q) (by unfold C5; simp) (by
 unfold C5;rw [List.getElem?_map,List.getElem?_map,List.getElem?_range (Nat.lt_succ_self _)]; rfl)
theorem Bd.rs_last (B:Bd C H p dx ca oa ia rs m q S):∃ r,rs[m]?=some r/\M2 (rs.map V.ref) (-1)=some (.ref r):=by
 have h':m<rs.length:=by rw [B.len]; exact Nat.lt_succ_self _
 refine ⟨rs[m],List.getElem?_eq_getElem h',a6x (n:=m) (by simpa using B.len) ?_⟩;rw [List.getElem?_map,List.getElem?_eq_getElem h']; rfl
theorem a1r {i:Nat} (h:i<m):M2 ((R7 m S).map V.int) (i:Int)=some (.int (S.ins i)):=r6 (by
 unfold R7;rw [List.getElem?_map,List.getElem?_map,List.getElem?_range h]; rfl)
theorem a2l {j:Nat} (h:j<q):M2 ((N9 q S).map V.int) (j:Int)=some (.int (S.outs j)):=r6 (by
 unfold N9;rw [List.getElem?_map,List.getElem?_map,List.getElem?_range h]; rfl)
theorem Bd.same1 {P:Addr} (B:Bd C H p dx ca oa ia rs m q S) (e:∀ b o,H b=some o->(∀ ps,o≠.tbl ps)->H' b=some o):Bd C H' p dx ca oa ia rs m q S :=
 ⟨e _ _ B.obj λ _=>nofun,e _ _ B.cel λ _=>nofun,B.len,λ i r h=>e _ _ (B.row i r h) λ _=>nofun,e _ _ B.out λ _=>nofun,e _ _ B.inn λ _=>nofun,B.ne⟩
def Sz (n m q:Nat) (S:Lp.Bo):Prop:=(∀ i j,i<m+1->j<q+1->Big n (S.T i j))/\Big n S.d
end
section
variable {P:Program} {w:World} {K:W.Frag} {mg:Str->Option Value} {base:Heap} {f:Addr} {fd:FuncData} {n:Nat} {C:Addr}
theorem a8L {a b:Nat} {x:Int} (h:Big a x) (hab:a<=b):Big b x:=Nat.lt_of_lt_of_le h (Nat.pow_le_pow_right (by decide) hab)
def a0P (q:Nat) (S:Lp.Bo) (i o c:Nat):Bool:=if S.T i q*S.T o c=S.T o q*S.T i c then decide (S.ins i<S.ins o) else decide (S.T i q*S.T o c<S.T o q*S.T i c)
def a6A (C:Addr):Sp:=λ vs H Q _=>∃ (p dx ca oa ia:Addr) (rs:List Addr) (m q:Nat) (S:Lp.Bo) (i o c:Nat),vs=[.ref p,.int i,.int o,.int c]/\Bd C H p dx ca oa ia rs m q S/\Sz 4000 m q S/\i<m/\o<m/\c<q+1/\Q (.bl (a0P q S i o c)) H
theorem scAhead:r8 ["self","row","other","column","left","right"] ["self","row","other","column"] (i3 a5w):=⟨rfl,rfl,rfl,by decide +kernel,rfl,by decide +kernel,by decide +kernel⟩
theorem a8V (F:Fun K "is_ahead" "Board.is_ahead" a5w f fd) (T:TB K C):FnOk P w K mg base G2 (n+1) f fd ["self","row","other","column"] (a6A C):=by
 refine F.ok scAhead (λ vs H Q E h=>?_) (λ cdv A outer s H vs Q E hr h=>?_)
 ·obtain ⟨p,dx,ca,oa,ia,rs,m,q,S,i,o,c,rfl,_⟩:=h
  rfl
 obtain ⟨p,dx,ca,oa,ia,rs,m,q,S,i,o,c,rfl,B,hz,hi,ho,hc,k⟩:=h;refine ⟨_,i4 (m9 (i:=4) scAhead.nd rfl (Or.inl rfl) (j3 y6 (i9 j0 (i9 j0 (A7 (pv 0) rfl) (pv 1) (λ _ _=>rfl)) (M3 G7 c7) (λ _ _=>rfl)) (i9 j0 (i9 j0 (A7 (pv 0) rfl) (pv 2) (λ _ _=>rfl)) (pv 3) (λ _ _=>rfl))))
  (i4 (m9 (i:=5) scAhead.nd rfl (Or.inl rfl) (j3 y6 (i9 j0 (i9 j0 (A7 (pv 0) rfl) (pv 2) (λ _ _=>rfl)) (M3 G7 c7) (λ _ _=>rfl)) (i9 j0 (i9 j0 (A7 (pv 0) rfl) (pv 1) (λ _ _=>rfl)) (pv 3) (λ _ _=>rfl))))
  (i4 (x6 (p7 G8 (pv 4) (pv 5) (m8 _)) (i7 (m6 (C2 Q0 (i9 j0 (A7 (pv 0) rfl) (pv 1) (λ _ _=>rfl)) (i9 j0 (A7 (pv 0) rfl) (pv 2) (λ _ _=>rfl)) (m8 _)))) r9)
  (i7 (m6 (C2 Q0 (pv 4) (pv 5) (m8 _)))))),?_⟩
 obtain ⟨ri,ei,ai⟩:=B.rs_at (i:=i) (by lia);obtain ⟨ro,eo,ao⟩:=B.rs_at (i:=o) (by lia);have bi:=SqL.of (K:=K) (B.row i ri ei);have bo:=SqL.of (K:=K) (B.row o ro eo);have z:∀ i j,i<m+1->j<q+1->Big 1000000 (S.T i j):=λ i j h1 h2=>a8L (hz.1 i j h1 h2) (by decide);refine ⟨_,rfl,p,C,dx,_,_,rfl,B.obj,T.cl,T.nC,rfl,_,rfl,ca,_,_,_,rfl,rfl,SqL.of B.cel,ai,_,rfl,ri,_,_,_,rfl,rfl,bi,Y9,?_⟩;refine ⟨_,rfl,p,C,dx,_,_,rfl,B.obj,T.cl,T.nC,rfl,_,rfl,ca,_,_,_,rfl,rfl,SqL.of B.cel,ao,_,rfl,ro,_,_,_,rfl,rfl,bo,X8 hc,_,_,rfl,rfl,⟨z _ _ (by lia) (by lia),z _ _ (by lia) (by lia)⟩,?_⟩;refine ⟨_,rfl,p,C,dx,_,_,rfl,B.obj,T.cl,T.nC,rfl,_,rfl,ca,_,_,_,rfl,rfl,SqL.of B.cel,ao,_,rfl,ro,_,_,_,rfl,rfl,bo,Y9,?_⟩;refine ⟨_,rfl,p,C,dx,_,_,rfl,B.obj,T.cl,T.nC,rfl,_,rfl,ca,_,_,_,rfl,rfl,SqL.of B.cel,ai,_,rfl,ri,_,_,_,rfl,rfl,bi,X8 hc,_,_,rfl,rfl,⟨z _ _ (by lia) (by lia),z _ _ (by lia) (by lia)⟩,?_⟩;refine ⟨_,rfl,_,rfl,rfl,_,rfl,?_⟩;unfold a0P at k;refine w8 (λ e=>?_) (λ e=>?_)
 ·have e':S.T i q*S.T o c=S.T o q*S.T i c:=by simpa using e
  rw [if_pos e'] at k;refine ⟨_,rfl,p,C,dx,_,_,rfl,B.obj,T.cl,T.nI,rfl,_,rfl,ia,_,_,_,rfl,rfl,SqL.of B.inn,a1r hi,_,rfl,p,C,dx,_,_,rfl,B.obj,T.cl,T.nI,rfl,_,rfl,ia,_,_,_,rfl,rfl,SqL.of B.inn,a1r ho,_,_,rfl,rfl,?_⟩;refine b2I k ?_;simp
 ·have e':¬ S.T i q*S.T o c=S.T o q*S.T i c:=by simpa using e
  rw [if_neg e'] at k;exact ⟨_,rfl,_,rfl,_,_,rfl,rfl,k⟩
end
structure a6P (P:Program) (w:World) (K:W.Frag) (mg:Str->Option Value) (base:Heap) (n:Nat) (C:Addr) (m:Str) (ps:List Str) (sp:Sp) (f:Addr) (fd:FuncData):Prop where
 ok:FnOk P w K mg base G2 n f fd ps sp
 bd:Binds K fd ps []
 me:a9l K C m f
def Bet (q:Nat) (S:Lp.Bo) (c r i:Nat):Prop:=S.T r q*S.T i c<=S.T i q*S.T r c/\(S.T r q*S.T i c=S.T i q*S.T r c->S.ins r<=S.ins i)
theorem a6L {ar cr ab cb ai ci:Int} (h1:ar*cb<=ab*cr) (h2:ab*ci<=ai*cb) (pr:0<cr) (pb:0<cb) (pi:0<ci):ar*ci<=ai*cr/\(ar*ci=ai*cr->ar*cb=ab*cr/\ab*ci=ai*cb):=by
 have e1:ar*cb*ci<=ab*cr*ci:=Int.mul_le_mul_of_nonneg_right h1 (Int.le_of_lt pi);have e2:ab*ci*cr<=ai*cb*cr:=Int.mul_le_mul_of_nonneg_right h2 (Int.le_of_lt pr);have x1:ar*cb*ci=ar*ci*cb:=by rw [Int.mul_assoc,Int.mul_comm cb ci,<- Int.mul_assoc]
 have x2:ab*cr*ci=ab*ci*cr:=by rw [Int.mul_assoc,Int.mul_comm cr ci,<- Int.mul_assoc]
 have x3:ai*cb*cr=ai*cr*cb:=by rw [Int.mul_assoc,Int.mul_comm cb cr,<- Int.mul_assoc]
 rw [x1] at e1;rw [x3] at e2;refine ⟨Int.le_of_mul_le_mul_right (a:=cb) (by lia) pb,λ e=>?_⟩;rw [e] at e1;refine ⟨Int.eq_of_mul_eq_mul_right (a:=ci) (by omega) (by rw [x1,e]; omega),Int.eq_of_mul_eq_mul_right (a:=cr) (by omega) (by rw [x3]; omega)⟩
theorem Bet.trans {q:Nat} {S:Lp.Bo} {c r b i:Nat} (h1:Bet q S c r b) (h2:Bet q S c b i) (pr:0<S.T r c) (pb:0<S.T b c) (pi:0<S.T i c):Bet q S c r i:=by
 obtain ⟨a,t⟩:=a6L h1.1 h2.1 pr pb pi;exact ⟨a,λ e=>Nat.le_trans (h1.2 (t e).1) (h2.2 (t e).2)⟩
theorem a6Z {q:Nat} {S:Lp.Bo} {c r b:Nat} (h:a0P q S r b c=true):Bet q S c r b:=by
 unfold a0P at h
 by_cases e:S.T r q*S.T b c=S.T b q*S.T r c
 ·rw [if_pos e] at h
  exact ⟨Int.le_of_eq e,λ _=>Nat.le_of_lt (of_decide_eq_true h)⟩
 ·rw [if_neg e] at h
  have:=of_decide_eq_true h;exact ⟨Int.le_of_lt this,λ z=>absurd z e⟩
theorem a9A {q:Nat} {S:Lp.Bo} {c r b:Nat} (h:a0P q S r b c=false):Bet q S c b r:=by
 unfold a0P at h
 by_cases e:S.T r q*S.T b c=S.T b q*S.T r c
 ·rw [if_pos e] at h
  exact ⟨Int.le_of_eq e.symm,λ _=>Nat.le_of_not_lt (of_decide_eq_false h)⟩
 ·rw [if_neg e] at h
  have:=of_decide_eq_false h;exact ⟨by lia,λ z=>absurd z.symm e⟩
section
variable {P:Program} {w:World} {K:W.Frag} {mg:Str->Option Value} {base:Heap} {f g:Addr} {fd gd:FuncData} {n:Nat} {C:Addr}
def a5M (C:Addr):Sp:=λ vs H Q _=>∃ (p dx ca oa ia:Addr) (rs:List Addr) (m q:Nat) (S:Lp.Bo) (c:Nat),vs=[.ref p,.int c]/\Bd C H p dx ca oa ia rs m q S/\Sz 4000 m q S/\m<1000/\c<q+1 ∧
 ((∀ i,i<m->¬ 0<S.T i c)->Q .non H)/\∀ r,r<m->0<S.T r c->(∀ i,i<m->0<S.T i c->Bet q S c r i)->Q (.int r) H
theorem scGoing:r8 ["self","column","best","row"] ["self","column"] (i3 a5s):=⟨rfl,rfl,rfl,by decide +kernel,rfl,by decide +kernel,by decide +kernel⟩
theorem a8j (F:Fun K "going" "Board.going" a5s f fd) (N:w6 mg) (T:TB K C) (A1:a6P P w K mg base n C "is_ahead" ["self","row","other","column"] (a6A C) g gd):FnOk P w K mg base G2 (n+1) f fd ["self","column"] (a5M C):=by
 refine F.ok scGoing (λ vs H Q E h=>?_) (λ cdv A outer s H vs Q E hr h=>?_)
 ·obtain ⟨p,dx,ca,oa,ia,rs,m,q,S,c,rfl,_⟩:=h
  rfl
 obtain ⟨p,dx,ca,oa,ia,rs,m,q,S,c,rfl,B,hz,hm,hc,kN,kI⟩:=h;refine ⟨_,i4 (m9 (i:=2) scGoing.nd rfl (Or.inl rfl) a2k)
  (i4 (P7 PassesOwn.never rfl (O1 rfl N.range (c6 (j9 j7 rfl N.len PySem.boot_len (c6 (A7 (pv 0) rfl) h8)) h8)) (i8 (i:=3) scGoing.nd rfl (Or.inl rfl))
   (i7 (x6 (PW.pt (W5 (p7 V8 (i9 j0 (i9 j0 (A7 (pv 0) rfl) (pv 3) (λ _ _=>rfl)) (pv 1) (λ _ _=>rfl)) c7 (m8 _))
     (S4 (PW.pt (a1O (p7 a7F (pv 2) a2k (m8 _)) (a0f (K9 (a3i (pv 0) T.cl A1.me A1.ok hr A1.bd .nil t6 (c6 (pv 3) (c6 (pv 2) (c6 (pv 1) h8)))))))))))
    (i7 (m9 (i:=2) scGoing.nd rfl (Or.inl rfl) (pv 3))) r9)))
  (i7 (m6 (pv 2)))),?_⟩
 have lm:((R7 m S).map V.int).length=m:=by unfold R7; simp
 refine ⟨_,rfl,p,C,dx,_,_,rfl,B.obj,T.cl,T.nI,rfl,ia,_,rfl,.inl (SqL.of B.inn),_,rfl,(by rw [lm]; lia),(by rw [lm]; lia),?_⟩;rw [lm,Int.toNat_natCast];refine T9 (n:=m) (λ k σ H'=>∃ (b o3:Option V),σ=[some (.ref p),some (.int c),b,o3]/\H'=H/\((b=some .non/\∀ i,i<k->¬ 0<S.T i c)\/∃ r:Nat,b=some (.int r)/\r<k/\0<S.T r c/\∀ i,i<k->0<S.T i c->Bet q S c r i))
  ⟨_,_,rfl,rfl,.inl ⟨rfl,λ i hi=>absurd hi (Nat.not_lt_zero _)⟩⟩ (λ k σ H' hk hP=>?_) λ σ H' hP=>?_
 ·obtain ⟨b,o3,rfl,rfl,hb⟩:=hP
  obtain ⟨rk,ek,ak⟩:=B.rs_at (i:=k) (by lia);have zk:(0:Int)+(k:Int)=(k:Int):=Int.zero_add _;rw [zk];refine ⟨_,rfl,p,C,dx,_,_,rfl,B.obj,T.cl,T.nC,rfl,_,rfl,ca,_,_,_,rfl,rfl,SqL.of B.cel,ak,_,rfl,rk,_,_,_,rfl,rfl,SqL.of (B.row k rk ek),X8 hc,_,_,rfl,rfl,_,rfl,?_⟩;have keep:¬ 0<S.T k c->((b=some .non/\∀ i,i<k+1->¬ 0<S.T i c)\/∃ r:Nat,b=some (.int r)/\r<k+1/\0<S.T r c/\∀ i,i<k+1->0<S.T i c->Bet q S c r i):=λ hn=>by
   rcases hb with ⟨e,hb⟩ | ⟨r,e,h1,h2,h3⟩
   ·refine .inl ⟨e,λ i hi=>?_⟩
    by_cases z:i=k
    ·subst z; exact hn
    ·exact hb i (by lia)
   ·refine .inr ⟨r,e,by lia,h2,λ i hi hp=>?_⟩
    by_cases z:i=k
    ·subst z; exact absurd hp hn
    ·exact h3 i (by lia) hp
  refine w8 (λ d=>?_) (λ d=>?_)
  ·have d':0<S.T k c:=of_decide_eq_true d
   rcases hb with ⟨rfl,hb⟩ | ⟨r,rfl,h1,h2,h3⟩
   ·refine ⟨_,rfl,rfl,_,rfl,?_⟩
    refine w8 (λ _=>?_) (λ z=>absurd (decide_eq_true rfl) z);refine a3A ?_;refine ⟨_,rfl,⟨_,_,rfl,rfl,.inr ⟨k,rfl,by lia,d',λ i hi hp=>?_⟩⟩⟩
    by_cases z:i=k
    ·subst z; exact ⟨Int.le_refl _,λ _=>Nat.le_refl _⟩
    ·exact absurd hp (hb i (by lia))
   ·refine ⟨_,rfl,rfl,_,rfl,?_⟩
    refine w8 (λ z=>absurd (of_decide_eq_true z) (by nofun)) (λ _=>?_);refine ⟨_,rfl,p,dx,_,rfl,B.obj,rfl,_,rfl,_,rfl,_,rfl,?_⟩;refine ⟨p,dx,ca,oa,ia,rs,m,q,S,k,r,c,rfl,B,hz,hk,by lia,hc,_,rfl,?_⟩;refine w8 (λ e=>?_) (λ e=>?_)
    ·have bt:=a6Z e
     refine ⟨_,rfl,⟨_,_,rfl,rfl,.inr ⟨k,rfl,by lia,d',λ i hi hp=>?_⟩⟩⟩
     by_cases z:i=k
     ·subst z; exact ⟨Int.le_refl _,λ _=>Nat.le_refl _⟩
     ·exact bt.trans (h3 i (by lia) hp) d' h2 hp
    ·have bt:=a9A (Bool.eq_false_iff.mpr e)
     refine ⟨_,_,rfl,rfl,.inr ⟨r,rfl,by lia,h2,λ i hi hp=>?_⟩⟩
     by_cases z:i=k
     ·subst z; exact bt
     ·exact h3 i (by lia) hp
  ·have d':¬ 0<S.T k c:=λ z=>d (decide_eq_true z)
   exact ⟨_,_,rfl,rfl,keep d'⟩
 ·obtain ⟨b,o3,rfl,rfl,hb⟩:=hP
  rcases hb with ⟨rfl,hb⟩ | ⟨r,rfl,h1,h2,h3⟩
  ·exact ⟨_,rfl,kN hb⟩
  ·exact ⟨_,rfl,kI r h1 h2 h3⟩
end
abbrev b4w:Str:=("Board.coming"++".<locals>.")++"<lambda>"
abbrev LT (Pt:Addr) (H:Hp):Prop:=LamTab Pt b2m b4w H
section
variable {P:Program} {w:World} {K:W.Frag} {mg:Str->Option Value} {base:Heap} {f g c Pt:Addr} {fd gd:FuncData} {n:Nat} {C:Addr}
def a1B (C Pt:Addr):Sp:=λ vs H Q _=>∃ (p dx ca oa ia:Addr) (rs:List Addr) (m q:Nat) (S:Lp.Bo),vs=[.ref p]/\Bd C H p dx ca oa ia rs m q S/\q<1000/\LT Pt H ∧
 ∀ H',Same1 Pt H H'->LT Pt H'->((∀ j,j<q->¬ S.T m j<0)->Q .non H')/\∀ j,j<q->S.T m j<0->(∀ i,i<q->S.T m i<0->S.outs j<=S.outs i)->Q (.int j) H'
theorem scComing:r8 ["self","columns"] ["self"] (i3 a3v):=⟨rfl,rfl,rfl,by decide +kernel,rfl,by decide +kernel,by decide +kernel⟩
theorem b3e:(["column","self"]:List Str).Nodup:=by decide +kernel
theorem LamTab.new {Pt a:Addr} {pos:Pos} {qual:Str} {H:Hp} {o:HO} (T:LamTab Pt pos qual H) (h:H a=none):LamTab Pt pos qual (upd H a o):=T.same λ b u e=>by rw [i5 (i6 e h)]; exact e
def a6T (q:Nat) (S:Lp.Bo) (m:Nat):List Int:=((List.range q).filter λ j=>decide (S.T m j<0)).map λ (j:Nat)=>(j:Int)
theorem a8x {q:Nat} {S:Lp.Bo} {m:Nat}:((List.range q).map λ (i:Nat)=>V.int (0+(i:Int))).filter (λ v=>decide (S.T m (vI v).toNat<0))=(a6T q S m).map V.int:=by
 unfold a6T;rw [List.filter_map,List.map_map];have e:((λ v=>decide (S.T m (vI v).toNat<0)) ∘ λ (i:Nat)=>V.int (0+(i:Int)))=λ j=>decide (S.T m j<0):=by
  funext j
  show decide (S.T m (vI (V.int (0+(j:Int)))).toNat<0)=_
  rw [show (vI (V.int (0+(j:Int)))).toNat=j from by simp [vI]]
 rw [e];refine List.map_congr_left λ j _=>?_;simp
theorem Bd.lam {H H':Hp} {p dx ca oa ia:Addr} {rs:List Addr} {m q:Nat} {S:Lp.Bo} (B:Bd C H p dx ca oa ia rs m q S) (T:LT Pt H) (e:Same1 Pt H H'):Bd C H' p dx ca oa ia rs m q S:=by
 refine B.same1 (P:=Pt) λ b o q n=>e b o (λ z=>?_) q;subst z;rcases T with t | ⟨c,t,_⟩
 ·rw [q] at t; exact n _ (Option.some.inj t)
 ·rw [q] at t; exact n _ (Option.some.inj t)
theorem a7s (F:Fun K "coming" "Board.coming" a3v f fd) (hcode:fd.code=.ref c) (CH:W.CodeHd base c Pt) (BM:V6 mg base) (N:w6 mg) (T:TB K C):FnOk P w K mg base G2 (n+3) f fd ["self"] (a1B C Pt):=by
 refine F.okC hcode scComing (λ vs H Q E h=>?_) (λ A outer s H vs Q E hr h=>?_)
 ·obtain ⟨p,dx,ca,oa,ia,rs,m,q,S,rfl,_⟩:=h
  rfl
 obtain ⟨p,dx,ca,oa,ia,rs,m,q,S,rfl,B,hq,L,k⟩:=h;refine ⟨_,i4 (b1M (i:=1) ["column"] [0] scComing.nd rfl rfl rfl (O1 rfl N.range (c6 (A7 (pv 0) rfl) h8)) (λ _ _ _ _=>i8 (i:=0) b3e rfl (Or.inl rfl))
   (λ _ _ _ _=>p7 Q0 (i9 (a3s K rfl) (i9 (a3s K rfl) (a3t K rfl (pv 1) rfl) (M3 G7 c7) (λ _ _=>rfl)) (pv 0) (λ _ _=>rfl)) c7 (m8 _))
   (λ _ _ _ _=>pv 0))
  (i7 (m6 (a6H (col:="column") (fr:=[0]) (c:=c) (P:=Pt) rfl (hr.mono (by lia)) rfl N.min rfl CH BM rfl rfl (by decide +kernel) rfl rfl rfl (λ _ _ _ _=>rfl) (c6 (pv 1) h8)
   (λ _ _ _ _=>i9 (a3s K rfl) (a3t K rfl (pv 1) rfl) (pv 0) (λ _ _=>rfl))))),?_⟩
 refine ⟨_,rfl,p,C,dx,_,_,rfl,B.obj,T.cl,T.nM,rfl,_,rfl,(by lia),(by lia),?_⟩;rw [Int.toNat_natCast];intro l hl;obtain ⟨rm,em,am⟩:=B.rs_last;refine b0o a2h hl (by rw [List.length_map,List.length_range]; exact j8 (by lia)) (λ v=>decide (S.T m (vI v).toNat<0)) (λ i x H' N' hx e hN=>?_) ?_
 ·have hx':x=.int (i:Int)/\i<q:=by
   rw [List.getElem?_map] at hx
   by_cases hi:i<q
   ·rw [List.getElem?_range hi] at hx
    refine ⟨?_,hi⟩;have:=Option.some.inj hx;rw [<- this]; simp
   ·rw [List.getElem?_eq_none (by simp; lia)] at hx; cases hx
  obtain ⟨rfl,hi⟩:=hx';have e':∀ b o,H b=some o->H' b=some o:=λ b o z=>e b o z;refine ⟨_,rfl,p,C,dx,_,_,rfl,e' _ _ B.obj,T.cl,T.nC,rfl,_,rfl,ca,_,_,_,rfl,rfl,SqL.of (e' _ _ B.cel),am,_,rfl,rm,_,_,_,rfl,rfl,SqL.of (e' _ _ (B.row m rm em)),X8 (by lia),_,_,rfl,rfl,_,rfl,?_⟩;have ev:decide (S.T m (vI (V.int (i:Int))).toNat<0)=decide (S.T m i<0):=by rw [show (vI (V.int (i:Int))).toNat=i from by simp [vI]]
  rw [ev] at hN;exact hN
 rw [a8x];have L2':LT Pt (upd H l (.lst ((a6T q S m).map V.int))):=LamTab.new L hl;have B2:Bd C (upd H l (.lst ((a6T q S m).map V.int))) p dx ca oa ia rs m q S:=B.same1 (P:=Pt) λ b o z _=>by rw [i5 (i6 z hl)]; exact z
 have mem:∀ x:Int,x∈a6T q S m ↔ ∃ j:Nat,x=(j:Int)/\j<q/\S.T m j<0:=λ x=>by
  unfold a6T;rw [List.mem_map];constructor
  ·rintro ⟨j,hj,rfl⟩
   rw [List.mem_filter,List.mem_range] at hj;exact ⟨j,rfl,hj.1,of_decide_eq_true hj.2⟩
  ·rintro ⟨j,rfl,h1,h2⟩
   exact ⟨j,by rw [List.mem_filter,List.mem_range]; exact ⟨h1,decide_eq_true h2⟩,rfl⟩
 refine ⟨_,rfl,l,_,λ x=>(S.outs x.toNat:Int),rfl,SqL.of upd_same,L2',λ H2 e2 L3=>?_⟩;have B3:=B2.lam L2' e2;have e3:Same1 Pt H H2:=λ b o hb z=>e2 b o hb (by rw [i5 (i6 z hl)]; exact z);obtain ⟨k1,k2⟩:=k H2 e3 L3;refine ⟨λ x hx=>?_,λ en=>k1 λ j hj hn=>?_,λ M hM hmin=>?_⟩
 ·obtain ⟨j,rfl,hj,hn⟩:=(mem x).mp hx
  exact ⟨_,rfl,p,C,dx,_,_,rfl,B3.obj,T.cl,T.nO,rfl,_,rfl,oa,_,_,_,rfl,rfl,SqL.of B3.out,a2l hj,by simp,rfl⟩
 ·have:=(mem (j:Int)).mpr ⟨j,rfl,hj,hn⟩
  rw [en] at this
  cases this
 ·obtain ⟨j,rfl,hj,hn⟩:=(mem M).mp hM
  refine k2 j hj hn λ i hi hni=>?_;have:=hmin (i:Int) ((mem _).mpr ⟨i,rfl,hi,hni⟩)
  simpa using this
end
def a0c (xs ys:List Int) (c:Nat) (d:Int):List Int:=(List.zipWith (λ x y=>(x*ys.getD c 0 - xs.getD c 0*y) / d) xs ys).set c (-(xs.getD c 0))
theorem a3K {ns:List Int} {i:Nat} (h:i<ns.length):M2 (ns.map V.int) (i:Int)=some (.int (ns.getD i 0)):=r6 (by
 rw [List.getElem?_map,List.getElem?_eq_getElem h,List.getD_eq_getElem?_getD,List.getElem?_eq_getElem h]; rfl)
theorem I0 {ns:List Int} {i:Nat} {x:V} (h:(ns.map V.int)[i]?=some x):∃ k,x=.int k/\k∈ns:=by
 rw [List.getElem?_map] at h
 cases hn:ns[i]? with
 | none=>rw [hn] at h; cases h
 | some k=>rw [hn] at h; cases h; exact ⟨k,rfl,List.mem_of_getElem? hn⟩
theorem a3p (F:V->V->V) (G:Int->Int->Int) (h:∀ a b,F (.int a) (.int b)=.int (G a b)):∀ xs ys:List Int,List.zipWith F (xs.map V.int) (ys.map V.int)=(List.zipWith G xs ys).map V.int
 | [],_=>by simp
 | _::_,[]=>by simp
 | x::xs,y::ys=>by simp [h,a3p F G h xs ys]
theorem M4 {ns:List Int} {i:Nat} (h:i<ns.length):ns.getD i 0∈ns:=by
 rw [List.getD_eq_getElem?_getD,List.getElem?_eq_getElem h]; exact List.getElem_mem h
section
variable {P:Program} {w:World} {K:W.Frag} {mg:Str->Option Value} {base:Heap} {f g c Pt:Addr} {fd gd:FuncData} {n:Nat} {C:Addr}
def a3w (K:W.Frag):Sp:=λ vs H Q _=>∃ (a b:Addr) (c:Nat) (d:Int) (xs ys:List Int),vs=[.ref a,.ref b,.int c,.int d]/\SqL K H a (xs.map V.int)/\SqL K H b (ys.map V.int)/\xs.length=ys.length/\xs.length<=1000/\c<xs.length ∧
 0<d/\Big 4000 d/\(∀ x∈xs,Big 4000 x)/\(∀ y∈ys,Big 4000 y)/\∀ (r:Addr) (H':Hp),Same H H'->H r=none->H' r=some (.lst ((a0c xs ys c d).map V.int))->Q (.ref r) H'
theorem scSwept:r8 ["cells","lead","column","scale","factor","pivot","fresh"] ["cells","lead","column","scale"] (i3 a4E):=⟨rfl,rfl,rfl,by decide +kernel,rfl,by decide +kernel,by decide +kernel⟩
theorem b3J:(["cell","other","scale","factor","pivot"]:List Str).Nodup:=by decide +kernel
theorem a7Q (F:Fun K "swept" "swept" a4E f fd) (N:w6 mg):FnOk P w K mg base G2 (n+1) f fd ["cells","lead","column","scale"] (a3w K):=by
 refine F.ok scSwept (λ vs H Q E h=>?_) (λ cdv A outer s H vs Q E hr h=>?_)
 ·obtain ⟨a,b,c,d,xs,ys,rfl,_⟩:=h
  rfl
 obtain ⟨a,b,c,d,xs,ys,rfl,ha,hb,hl,hz,hc,hd,hD,hx,hy,k⟩:=h;refine ⟨_,i4 (m9 (i:=4) scSwept.nd rfl (Or.inr rfl) (i9 j0 (pv 0) (pv 2) (λ _ _=>rfl)))
  (i4 (m9 (i:=5) scSwept.nd rfl (Or.inr rfl) (i9 j0 (pv 1) (pv 2) (λ _ _=>rfl)))
  (i4 (S5 (i:=6) ["cell","other"] [3,4,5] scSwept.nd rfl rfl rfl (Z3 true true K rfl rfl N.zip (c6 (pv 0) (c6 (pv 1) h8)))
   (λ _ _ _ _=>E6 K (n:=2) rfl rfl (j4 (i8 (i:=0) b3J rfl (Or.inl rfl)) (j4 (i8 (i:=1) b3J rfl (Or.inl rfl)) t8)))
   (λ _ _ _ _=>j3 L0 (j3 W7 (j3 y6 (pv 0) (pv 4)) (j3 y6 (pv 3) (pv 1))) (pv 2)))
  (i4 (C7 (M3 G7 (pv 4)) (M0 (pv 6) (pv 2) D6))
  (i7 (m6 (pv 6)))))),?_⟩
 have hc2:c<ys.length:=by lia
 refine ⟨_,rfl,_,rfl,a,_,_,_,rfl,rfl,ha,a3K hc,?_⟩;refine ⟨_,rfl,_,rfl,b,_,_,_,rfl,rfl,hb,a3K hc2,?_⟩;refine ⟨_,rfl,_,rfl,a,b,rfl,⟨_,ha⟩,⟨_,hb⟩,λ l hl'=>?_⟩;have up:∀ {x},Big 4000 x->Big 1000000 x:=λ h=>a8L h (by decide);refine b0F ha hb hl' (by rw [List.length_map]; exact j8 hz) (λ u v=>.int ((vI u*ys.getD c 0 - xs.getD c 0*vI v) / d)) (λ i u v H' N' hu hv e hN=>?_) (λ H' e hH=>?_)
 ·obtain ⟨x,rfl,hxm⟩:=I0 hu
  obtain ⟨y,rfl,hym⟩:=I0 hv;have dl:d<2 ^ 8000:=by
   have h1:d.natAbs<2 ^ 4000:=hD;have h2:(2:Nat) ^ 4000<=2 ^ 8000:=Nat.pow_le_pow_right (by decide) (by decide);have h3:d=(d.natAbs:Int):=by lia
   rw [h3]
   exact_mod_cast Nat.lt_of_lt_of_le h1 h2
  refine ⟨_,rfl,_,rfl,_,_,rfl,rfl,⟨up (hx _ hxm),up (hy _ (M4 hc2))⟩,_,rfl,_,rfl,_,_,rfl,rfl,⟨up (hx _ (M4 hc)),up (hy _ hym)⟩,_,_,rfl,rfl,_,rfl,_,_,rfl,rfl,⟨hd,dl⟩,hN⟩
 ·rw [a3p _ (λ x y=>(x*ys.getD c 0 - xs.getD c 0*y) / d) (λ _ _=>rfl)] at hH
  refine ⟨_,rfl,_,rfl,?_⟩;refine ⟨_,rfl,_,rfl,l,_,_,c,rfl,rfl,hH,?_,?_⟩
  ·unfold ixN
   rw [List.length_map,List.length_zipWith,if_pos (by lia),if_pos (by lia),Int.toNat_natCast]
  ·refine ⟨_,rfl,k l _ ?_ hl' ?_⟩
   ·exact λ b' o q=>by rw [i5 (i6 q hl')]; exact e b' o q
   ·rw [upd_same]
    unfold a0c;rw [<- List.map_set]
end
structure SCal (P:Program) (w:World) (K:W.Frag) (mg:Str->Option Value) (base:Heap) (n:Nat) (x:Str) (ps:List Str) (sp:Sp) (fa:Addr) (d:FuncData):Prop where
 ok:FnOk P w K mg base G2 n fa d ps sp
 b:Binds K d ps []
 k:W.keepIn K (.ref fa)=true
 m:mg x=some (.ref fa)
theorem J3 {q:Nat} {S:Lp.Bo} {i:Nat}:(C5 q S i).length=q+1:=by unfold C5; simp
theorem a2A {q:Nat} {S:Lp.Bo} {i j:Nat} (h:j<q+1):(C5 q S i).getD j 0=S.T i j:=by
 unfold C5;rw [List.getD_eq_getElem?_getD,List.getElem?_map,List.getElem?_range h]; rfl
theorem a6S {q:Nat} {S:Lp.Bo} {i r c:Nat} (hi:i≠r) (hc:c<q):a0c (C5 q S i) (C5 q S r) c S.d=C5 q (Lp.piv S r c) i:=by
 refine List.ext_getElem? λ j=>?_;unfold a0c
 by_cases hj:j<q+1
 ·rw [a2A (by lia),a2A (by lia)]
  have e:(C5 q (Lp.piv S r c) i)[j]?=some ((Lp.piv S r c).T i j):=by unfold C5; rw [List.getElem?_map,List.getElem?_range hj]; rfl
  have hT:(Lp.piv S r c).T i j=if j=c then - S.T i c else (S.T i j*S.T r c - S.T i c*S.T r j) / S.d:=by
   show (if i=r then _ else _)=_
   rw [if_neg hi]
  rw [e,hT]
  by_cases hjc:j=c
  ·subst hjc
   rw [List.getElem?_set_self (by rw [List.length_zipWith,J3,J3]; lia),if_pos rfl]
  ·rw [List.getElem?_set_ne (Ne.symm hjc),List.getElem?_zipWith,if_neg hjc]
   unfold C5;rw [List.getElem?_map,List.getElem?_map,List.getElem?_range hj]; rfl
 ·rw [List.getElem?_eq_none (by rw [List.length_set,List.length_zipWith,J3,J3]; lia),List.getElem?_eq_none (by rw [J3]; lia)]
theorem a7U {q:Nat} {S:Lp.Bo} {r c:Nat} (hc:c<q):(((C5 q S r).map V.int).take c++[V.int S.d])++((C5 q S r).map V.int).drop (c+1)=(C5 q (Lp.piv S r c) r).map V.int:=by
 have hT:∀ j,(Lp.piv S r c).T r j=if j=c then S.d else S.T r j:=λ j=>by
  show (if r=r then _ else _)=_
  rw [if_pos rfl]
 have hl:((C5 q S r).map V.int).length=q+1:=by rw [List.length_map,J3]
 refine List.ext_getElem? λ j=>?_
 by_cases hj:j<q+1
 ·have e:((C5 q (Lp.piv S r c) r).map V.int)[j]?=some (.int (if j=c then S.d else S.T r j)):=by
   rw [List.getElem?_map]; unfold C5; rw [List.getElem?_map,List.getElem?_range hj,<- hT]; rfl
  have e0:((C5 q S r).map V.int)[j]?=some (.int (S.T r j)):=by
   rw [List.getElem?_map]; unfold C5; rw [List.getElem?_map,List.getElem?_range hj]; rfl
  rw [e];have lt:(((C5 q S r).map V.int).take c).length=c:=by rw [List.length_take,hl]; lia
  by_cases h1:j<c
  ·rw [List.getElem?_append_left (by rw [List.length_append,lt]; lia),List.getElem?_append_left (by lia),List.getElem?_take_of_lt h1,e0,if_neg (by lia)]
  ·by_cases h2:j=c
   ·subst h2
    rw [List.getElem?_append_left (by rw [List.length_append,lt]; simp),List.getElem?_append_right (by lia),lt,Nat.sub_self,if_pos rfl]; rfl
   ·rw [List.getElem?_append_right (by rw [List.length_append,lt]; simp; lia),List.length_append,lt,List.getElem?_drop,if_neg h2]
    have:c+1+(j - (c+[V.int S.d].length))=j:=by simp; lia
    rw [this,e0]
 ·rw [List.getElem?_eq_none (by rw [List.length_append,List.length_append,List.length_take,List.length_drop,hl]; simp; lia),List.getElem?_eq_none (by rw [List.length_map,J3]; lia)]
theorem b0m {m:Nat} {S:Lp.Bo} {r c:Nat} (hr:r<m):((R7 m S).map V.int).set r (.int (S.outs c))=(R7 m (Lp.piv S r c)).map V.int:=by
 refine List.ext_getElem? λ j=>?_;have hT:(Lp.piv S r c).ins j=if j=r then S.outs c else S.ins j:=rfl
 by_cases hj:j<m
 ·have e:((R7 m (Lp.piv S r c)).map V.int)[j]?=some (.int ((if j=r then S.outs c else S.ins j:Nat))):=by
   rw [List.getElem?_map]; unfold R7; rw [List.getElem?_map,List.getElem?_range hj,<- hT]; rfl
  rw [e]
  by_cases h:j=r
  ·subst h
   rw [List.getElem?_set_self (by unfold R7; simp; lia),if_pos rfl]
  ·rw [List.getElem?_set_ne (Ne.symm h),if_neg h,List.getElem?_map]
   unfold R7; rw [List.getElem?_map,List.getElem?_range hj]; rfl
 ·rw [List.getElem?_eq_none (by unfold R7; simp; lia),List.getElem?_eq_none (by unfold R7; simp; lia)]
theorem a8Q {q:Nat} {S:Lp.Bo} {r c:Nat} (hc:c<q):((N9 q S).map V.int).set c (.int (S.ins r))=(N9 q (Lp.piv S r c)).map V.int:=by
 refine List.ext_getElem? λ j=>?_;have hT:(Lp.piv S r c).outs j=if j=c then S.ins r else S.outs j:=rfl
 by_cases hj:j<q
 ·have e:((N9 q (Lp.piv S r c)).map V.int)[j]?=some (.int ((if j=c then S.ins r else S.outs j:Nat))):=by
   rw [List.getElem?_map]; unfold N9; rw [List.getElem?_map,List.getElem?_range hj,<- hT]; rfl
  rw [e]
  by_cases h:j=c
  ·subst h
   rw [List.getElem?_set_self (by unfold N9; simp; lia),if_pos rfl]
  ·rw [List.getElem?_set_ne (Ne.symm h),if_neg h,List.getElem?_map]
   unfold N9; rw [List.getElem?_map,List.getElem?_range hj]; rfl
 ·rw [List.getElem?_eq_none (by unfold N9; simp; lia),List.getElem?_eq_none (by unfold N9; simp; lia)]
theorem V3 {n i:Nat} (h:i<n):ixN n (i:Int)=some i:=by
 unfold ixN;rw [if_pos (by lia),if_pos (by lia),Int.toNat_natCast]
section
variable {P:Program} {w:World} {K:W.Frag} {mg:Str->Option Value} {base:Heap} {f g c Pt:Addr} {fd gd:FuncData} {n:Nat} {C:Addr}
def a1C (C:Addr):Sp:=λ vs H Q _=>∃ (p dx ca oa ia:Addr) (rs:List Addr) (m q:Nat) (S:Lp.Bo) (r c:Nat),vs=[.ref p,.int r,.int c]/\Bd C H p dx ca oa ia rs m q S/\Sz 4000 m q S/\r<m/\c<q/\m<900/\q<900/\0<S.d ∧
 ∀ (H':Hp) (ca':Addr) (rs':List Addr),Bd C H' p dx ca' oa ia rs' m q (Lp.piv S r c)->(∀ b o,b≠p->b≠oa->b≠ia->H b=some o->H' b=some o)->Q .non H'
theorem scEx:r8 ["self","row","column","lead","pivot"] ["self","row","column"] (i3 Q7):=⟨rfl,rfl,rfl,by decide +kernel,rfl,by decide +kernel,by decide +kernel⟩
theorem b4B:(["cells","self","column","lead"]:List Str).Nodup:=by decide +kernel
noncomputable def exT {cdv:Value} {A:Around} {outer:List Env} {s:Shared} {H:Hp} {E:XK} {fb:Addr} {db:FuncData} (Cs:SCal P w K mg base n "swept" ["cells","lead","column","scale"] (a3w K) fb db)
  (hr:Room n (A.deeper (PyProof.Rows.envOfC "Board.exchange" (i3 Q7) s.heap.objs.size f cdv))) :
  { t:TS // PSs (G9 G2 P w K mg base ["self","row","column","lead","pivot"] "Board.exchange" (i3 Q7) f cdv A outer s H E).nox (t9 Q7) t } :=
 ⟨_,i4 (m9 (i:=3) scEx.nd rfl (Or.inr rfl) (i9 j0 (A7 (pv 0) rfl) (pv 1) (λ _ _=>rfl)))
  (i4 (m9 (i:=4) scEx.nd rfl (Or.inl rfl) (i9 j0 (pv 3) (pv 2) (λ _ _=>rfl)))
  (p6 (a0d (pv 0) (J9 ["cells"] [0,2,3] rfl (A5 (A7 (pv 0) rfl)) (λ _ _ _ _=>i8 (i:=0) b4B rfl (Or.inl rfl))
   (λ _ _ _ _=>j6 Cs.ok hr rfl Cs.m Cs.k Cs.b .nil t6 (c6 (pv 0) (c6 (pv 3) (c6 (pv 2) (c6 (a3t K rfl (pv 1) rfl) h8)))))) rfl)
  (i4 (C7 (j3 G4 (j3 G4 (D9 J7 (pv 3) O9 (D2 (pv 2))) (x8 (c6 (A7 (pv 0) rfl) h8))) (D9 J7 (pv 3) (D2 (j3 C4 (pv 2) c7)) O9)) (M0 (A7 (pv 0) rfl) (pv 1) D6))
  (i4 (a0d (pv 0) (pv 4) rfl)
  (i7 (C7 (w4 (c6 (i9 j0 (A7 (pv 0) rfl) (pv 2) (λ _ _=>rfl)) (c6 (i9 j0 (A7 (pv 0) rfl) (pv 1) (λ _ _=>rfl)) h8)))
   (K2 rfl (j4 (M0 (A7 (pv 0) rfl) (pv 1) D6) (j4 (M0 (A7 (pv 0) rfl) (pv 2) D6) t8)))))))))⟩
end
def a4d:V->Addr
 | .ref a=>a
 | _=>0
section
variable {P:Program} {w:World} {K:W.Frag} {mg:Str->Option Value} {base:Heap} {f g c Pt:Addr} {fd gd:FuncData} {n:Nat} {C:Addr}
theorem a3N {m q i:Nat} {S:Lp.Bo} (h:Sz 4000 m q S) (hi:i<m+1):∀ x∈C5 q S i,Big 4000 x:=λ x hx=>by
 unfold C5 at hx;obtain ⟨j,hj,rfl⟩:=List.mem_map.mp hx;exact h.1 i j hi (List.mem_range.mp hj)
theorem a4m {fb:Addr} {db:FuncData} (F:Fun K "exchange" "Board.exchange" Q7 f fd) (T:TB K C) (Cs:SCal P w K mg base n "swept" ["cells","lead","column","scale"] (a3w K) fb db) :
  FnOk P w K mg base G2 (n+1) f fd ["self","row","column"] (a1C C):=by
 refine F.ok scEx (λ vs H Q E h=>?_) (λ cdv A outer s H vs Q E hr h=>?_)
 ·obtain ⟨p,dx,ca,oa,ia,rs,m,q,S,r,c,rfl,_⟩:=h
  rfl
 obtain ⟨p,dx,ca,oa,ia,rs,m,q,S,r,c,rfl,B,hz,hrm,hc,hm,hq,hd,k⟩:=h;refine ⟨_,(exT Cs hr).2,?_⟩;obtain ⟨rl,er,ar⟩:=B.rs_at (i:=r) (by lia);have hrl:=B.row r rl er;have nrl:rl≠p:=a1L hrl B.obj (by intro z; cases z);have noa:oa≠p:=a1L B.out B.obj (by intro z; cases z);have nia:ia≠p:=a1L B.inn B.obj (by intro z; cases z);refine ⟨_,rfl,p,C,dx,_,_,rfl,B.obj,T.cl,T.nC,rfl,_,rfl,ca,_,_,_,rfl,rfl,SqL.of B.cel,ar,?_⟩;refine ⟨_,rfl,_,rfl,rl,_,_,_,rfl,rfl,SqL.of hrl,X8 (by lia),?_⟩;refine ⟨λ σ' H3=>∃ (l:Addr) (rs':List Addr),σ'=[some (.ref p),some (.int r),some (.int c),some (.ref rl),some (.int (S.T r c))]/\H3 p=some (.ins C dx (bdF q S.d l oa ia))/\H3 l=some (.lst (rs'.map V.ref))/\rs'.length=m+1/\H l=none ∧
  (∀ i a,rs'[i]?=some a->H a=none/\a≠l/\H3 a=some (.lst ((a0c (C5 q S i) (C5 q S r) c S.d).map V.int)))/\∀ b o,b≠p->H b=some o->H3 b=some o,?_,?_⟩
 ·refine ⟨_,rfl,p,C,dx,_,_,rfl,B.obj,T.cl,T.nC,rfl,ca,rfl,⟨_,SqL.of B.cel⟩,λ l hl=>?_⟩
  refine C9 (v6 (SqL.of B.cel)) hl (by rw [List.length_map,B.len]; exact j8 (by lia)) (λ i y H2=>∃ a,y=.ref a/\H a=none/\a≠l/\H2 a=some (.lst ((a0c (C5 q S i) (C5 q S r) c S.d).map V.int)))
   (λ i y H2 H3 ⟨a,h1,h2,h3,h4⟩ e=>⟨a,h1,h2,h3,e a _ h3 h4⟩) (λ i x H2 ys N hx e hl2 hN=>?_) (λ ys H2 e hl2 len pr=>?_)
  ·rw [List.getElem?_map] at hx
   cases hri:rs[i]? with
   | none=>rw [hri] at hx; cases hx
   | some a =>
    rw [hri] at hx;have hx':V.ref a=x:=Option.some.inj hx;subst hx';have hi:i<m+1:=by rw [<- B.len]; exact (List.getElem?_eq_some_iff.mp hri).1
    refine ⟨Wk.set (by decide),?_⟩;refine ⟨_,rfl,_,rfl,_,rfl,_,rfl,p,C,dx,_,_,rfl,e _ _ B.obj,T.cl,T.nS,rfl,?_⟩;refine ⟨a,rl,c,S.d,C5 q S i,C5 q S r,rfl,SqL.of (e _ _ (B.row i a hri)),SqL.of (e _ _ hrl),by rw [J3,J3],by rw [J3]; lia,by rw [J3]; lia,hd,hz.2,a3N hz hi,a3N hz (by lia),λ r' H3 s3 hn hr'=>?_⟩;refine hN _ _ s3 ⟨r',rfl,?_,λ z=>?_,hr'⟩
    ·cases q1:H r' with
     | none=>rfl
     | some o=>rw [e _ _ q1] at hn; cases hn
    ·rw [z,hl2] at hn; cases hn
  ·have hp2:=e _ _ B.obj
   have nlp:p≠l:=i6 B.obj hl;refine ⟨_,rfl,p,C,dx,_,rfl,hp2,T.cl,T.nC,(by show 5<1000; decide),?_⟩;have hys:ys=(ys.map a4d).map V.ref:=by
    rw [List.map_map];refine List.ext_getElem? λ i=>?_;rw [List.getElem?_map]
    cases qi:ys[i]? with
    | none=>rfl
    | some y =>
     obtain ⟨a,rfl,_⟩:=pr i y qi;rfl
   refine ⟨l,ys.map a4d,rfl,upd_same,by rw [i5 nlp.symm,hl2]; rw [<- hys],by rw [List.length_map,len,List.length_map,B.len],hl,λ i a hi=>?_,λ b o hb hbo=>by rw [i5 hb]; exact e _ _ hbo⟩;rw [List.getElem?_map] at hi
   cases qi:ys[i]? with
   | none=>rw [qi] at hi; cases hi
   | some y =>
    obtain ⟨a',rfl,h2,h3,h4⟩:=pr i y qi;rw [qi] at hi;have:a'=a:=Option.some.inj hi;subst this;refine ⟨h2,h3,?_⟩;rw [i5 (λ z=>by rw [z,hp2] at h4; cases h4)];exact h4
 ·intro σ' H3 hM_; refine A4 λ G_ hG_=>?_; obtain ⟨l,rs',rfl,hp,hl,hlen,hl0,hrs,hk⟩:=hM_; subst hG_
  have hr3:=hk rl _ nrl hrl;have lr:((C5 q S r).map V.int).length=q+1:=by rw [List.length_map,J3]
  refine ⟨_,rfl,_,rfl,_,rfl,rl,_,rfl,SqL.of hr3,λ a1 h1=>?_⟩;have e1:=Same.new h1 (.lst (E5 ((C5 q S r).map V.int) none (some (c:Int))));refine ⟨_,rfl,p,C,dx,_,_,rfl,e1 _ _ hp,T.cl,T.nS,rfl,(by show 1<=sizeLine; decide),λ a2 h2=>?_⟩;have e2:=e1.trans (Same.new h2 (.lst [.int S.d]));have n12:a1≠a2:=i6 upd_same h2;refine ⟨a1,a2,_,_,rfl,rfl,(by rw [i5 n12]; exact upd_same),upd_same,?_,λ a3 h3=>?_⟩
  ·rw [a0U _ _ (by rw [lr]; lia),List.length_take,lr]
   have:=j8 (show c+1<=1000 by lia);simp;lia
  have e3:=e2.trans (Same.new h3 (.lst (E5 ((C5 q S r).map V.int) none (some (c:Int))++[.int S.d])));refine ⟨_,rfl,_,rfl,_,_,rfl,rfl,_,rfl,rl,_,rfl,SqL.of (e3 _ _ hr3),λ a4 h4=>?_⟩;have e4:=e3.trans (Same.new h4 (.lst (E5 ((C5 q S r).map V.int) (some ((c:Int)+1)) none)));have n34:a3≠a4:=i6 upd_same h4;have c1:E5 ((C5 q S r).map V.int) none (some (c:Int))=((C5 q S r).map V.int).take c:=a0U _ _ (by rw [lr]; lia);have c2:E5 ((C5 q S r).map V.int) (some ((c:Int)+1)) none=((C5 q S r).map V.int).drop (c+1):=by
   have:=a1S ((C5 q S r).map V.int) (c+1) (by rw [lr]; lia);rw [<- this]; rfl
  refine ⟨a3,a4,_,_,rfl,rfl,(by rw [i5 n34]; exact upd_same),upd_same,?_,λ a5 h5=>?_⟩
  ·rw [c1,c2,List.length_append,List.length_take,List.length_drop,lr]
   have:=j8 (show q+1<=1000 by lia);simp;lia
  have hrow:(E5 ((C5 q S r).map V.int) none (some (c:Int))++[.int S.d])++E5 ((C5 q S r).map V.int) (some ((c:Int)+1)) none=(C5 q (Lp.piv S r c) r).map V.int:=by rw [c1,c2,a7U hc]
  have h5n:H3 a5=none:=by
   cases z:H3 a5 with
   | none=>rfl
   | some o=>rw [e4 _ _ z] at h5; cases h5
  have e5:=e4.trans (Same.new h5 (.lst ((E5 ((C5 q S r).map V.int) none (some (c:Int))++[.int S.d])++E5 ((C5 q S r).map V.int) (some ((c:Int)+1)) none)));have u5:∀ H4:Hp,upd H4 a5 (.lst ((E5 ((C5 q S r).map V.int) none (some (c:Int))++[.int S.d])++E5 ((C5 q S r).map V.int) (some ((c:Int)+1)) none)) a5=some (.lst ((C5 q (Lp.piv S r c) r).map V.int)):=λ H4=>upd_same.trans (congrArg (λ z=>some (HO.lst z)) hrow);have oa3:=hk oa _ noa B.out;have ia3:=hk ia _ nia B.inn;have nlp:l≠p:=(i6 B.obj hl0).symm;have nlo:l≠oa:=(i6 B.out hl0).symm;have nli:l≠ia:=(i6 B.inn hl0).symm;have n5p:a5≠p:=(i6 hp h5n).symm;have n5l:a5≠l:=(i6 hl h5n).symm;have n5o:a5≠oa:=(i6 oa3 h5n).symm;have n5i:a5≠ia:=(i6 ia3 h5n).symm;have lrs:(rs'.map V.ref).length=m+1:=by rw [List.length_map]; exact hlen
  refine ⟨_,rfl,p,C,dx,_,_,rfl,e5 _ _ hp,T.cl,T.nC,rfl,_,rfl,l,_,_,r,rfl,rfl,e5 _ _ hl,V3 (by rw [lrs]; lia),?_⟩;refine ⟨_,rfl,_,rfl,p,C,dx,_,rfl,(by rw [i5 nlp.symm]; exact e5 _ _ hp),T.cl,T.nS,(by show 5<1000; decide),?_⟩;refine ⟨_,rfl,p,C,dx,_,_,rfl,upd_same,T.cl,T.nO,rfl,_,rfl,oa,_,_,_,rfl,rfl,SqL.of (by rw [i5 noa,i5 nlo.symm]; exact e5 _ _ oa3),a2l hc,?_⟩;refine ⟨_,rfl,p,C,dx,_,_,rfl,upd_same,T.cl,T.nI,rfl,_,rfl,ia,_,_,_,rfl,rfl,SqL.of (by rw [i5 nia,i5 nli.symm]; exact e5 _ _ ia3),a1r hrm,(by show 2<=sizeLine; decide),λ t ht=>?_⟩;have ntp:t≠p:=(i6 upd_same ht).symm;have ntl:t≠l:=by
   refine (i6 (H:=_) (o:=.lst ((rs'.map V.ref).set r (.ref a5))) ?_ ht).symm;rw [i5 nlp,upd_same]
  have nto:t≠oa:=by
   refine (i6 (H:=_) (o:=.lst ((N9 q S).map V.int)) ?_ ht).symm;rw [i5 noa,i5 nlo.symm]; exact e5 _ _ oa3
  have nti:t≠ia:=by
   refine (i6 (H:=_) (o:=.lst ((R7 m S).map V.int)) ?_ ht).symm;rw [i5 nia,i5 nli.symm]; exact e5 _ _ ia3
  refine ⟨t,_,rfl,SqT.of upd_same,rfl,?_⟩;refine ⟨_,_,rfl,_,rfl,p,C,dx,_,_,rfl,(by rw [i5 ntp.symm]; exact upd_same),T.cl,T.nI,rfl,_,rfl,ia,_,_,r,rfl,rfl,(by rw [i5 nti.symm,i5 nia,i5 nli.symm]; exact e5 _ _ ia3),V3 (by unfold R7; simp; lia),?_⟩;refine ⟨_,_,rfl,_,rfl,p,C,dx,_,_,rfl,(by rw [i5 nia.symm,i5 ntp.symm]; exact upd_same),T.cl,T.nO,rfl,_,rfl,oa,_,_,c,rfl,rfl,(by rw [i5 B.ne,i5 nto.symm,i5 noa,i5 nlo.symm]; exact e5 _ _ oa3),V3 (by unfold N9; simp; lia),rfl,?_⟩;refine k _ l (rs'.set r a5) ⟨?_,?_,by rw [List.length_set]; exact hlen,λ i a hi=>?_,?_,?_,B.ne⟩ λ b o hb hbo hbi hH=>?_
  ·rw [i5 noa.symm,i5 nia.symm,i5 ntp.symm,upd_same]; rfl
  ·rw [i5 nlo,i5 nli,i5 ntl.symm,i5 nlp,upd_same,List.map_set]
  ·by_cases hir:i=r
   ·subst hir
    rw [List.getElem?_set_self (by rw [hlen]; lia)] at hi;have:a5=a:=Option.some.inj hi;subst this;have n5t:a5≠t:=by
     refine i6 (H:=_) (o:=.lst ((C5 q (Lp.piv S i c) i).map V.int)) ?_ ht;rw [i5 n5p,i5 n5l]; exact u5 _
    rw [i5 n5o,i5 n5i,i5 n5t,i5 n5p,i5 n5l];exact u5 _
   ·rw [List.getElem?_set_ne (Ne.symm hir)] at hi
    obtain ⟨g1,g2,g3⟩:=hrs i a hi;have nap:a≠p:=(i6 B.obj g1).symm;have nao:a≠oa:=(i6 B.out g1).symm;have nai:a≠ia:=(i6 B.inn g1).symm;have g5:=e5 _ _ g3;have nat:a≠t:=by
     refine i6 (H:=_) (o:=.lst ((a0c (C5 q S i) (C5 q S r) c S.d).map V.int)) ?_ ht;rw [i5 nap,i5 g2]; exact g5
    rw [i5 nao,i5 nai,i5 nat,i5 nap,i5 g2,<- a6S hir hc];exact g5
  ·rw [upd_same,a8Q hc]
  ·rw [i5 B.ne.symm,upd_same,b0m hrm]
  ·have h3:=hk b o hb hH
   have nbl:b≠l:=i6 hH hl0;have nbt:b≠t:=by
    refine i6 (H:=_) (o:=o) ?_ ht;rw [i5 hb,i5 nbl]; exact e5 _ _ h3
   rw [i5 hbo,i5 hbi,i5 nbt,i5 hb,i5 nbl];exact e5 _ _ h3
end
theorem a1X {g:Nat->Int}:∀ {n:Nat},(∀ k,k<n->g k=0)->Lp.sumTo g n=0
 | 0,_=>rfl
 | n+1,h=>by
  show Lp.sumTo g n+g n=0
  rw [a1X λ k hk=>h k (by lia),h n (by lia)]; rfl
def a9H (q:Nat) (S:Lp.Bo) (k v:Nat):Int:=Lp.sumTo (λ i=>if S.ins i=v then S.T i q else 0) k
def a5A (m:Nat) (S:Lp.Bo) (k v:Nat):Int:=Lp.sumTo (λ j=>if S.outs j=v then S.T m j else 0) k
def y4 (m q:Nat) (S:Lp.Bo):List Int:=(List.range q).map λ v=>Lp.valIn m S q v
def A8 (m q:Nat) (S:Lp.Bo):List Int:=(List.range m).map λ i=>Lp.valOut m q S (q+i)
theorem a3Z (k:Nat):(List.replicate k [V.int 0]).flatten=(List.range k).map λ _=>V.int 0:=by
 induction k with
 | zero=>rfl
 | succ k ih=>rw [List.replicate_succ',List.flatten_append,ih,List.range_succ,List.map_append]; rfl
theorem a8P {n v:Nat} {F G:Nat->Int} {x:Int} (hv:G v=x) (h:∀ u,u<n->u≠v->F u=G u):((List.range n).map λ u=>V.int (F u)).set v (.int x)=(List.range n).map λ u=>V.int (G u):=by
 refine List.ext_getElem? λ j=>?_
 by_cases hj:j<n
 ·by_cases e:j=v
  ·subst e
   rw [List.getElem?_set_self (by simp; lia),List.getElem?_map,List.getElem?_range hj,Option.map_some,hv]
  ·rw [List.getElem?_set_ne (Ne.symm e),List.getElem?_map,List.getElem?_map,List.getElem?_range hj,Option.map_some,Option.map_some,h j hj e]
 ·rw [List.getElem?_eq_none (by simp; lia),List.getElem?_eq_none (by simp; lia)]
section
variable {P:Program} {w:World} {K:W.Frag} {mg:Str->Option Value} {base:Heap} {f g c Pt:Addr} {fd gd:FuncData} {n:Nat} {C:Addr}
def a8f (C:Addr):Sp:=λ vs H Q _=>∃ (p dx ca oa ia:Addr) (rs:List Addr) (m q:Nat) (S:Lp.Bo),vs=[.ref p]/\Bd C H p dx ca oa ia rs m q S/\m<900/\q<900/\(∀ i k,i<m->k<m->S.ins i=S.ins k->i=k) ∧
 ∀ (r:Addr) (H':Hp),Same H H'->H r=none->H' r=some (.lst ((y4 m q S).map V.int))->Q (.ref r) H'
theorem scAmts:r8 ["self","told","row","number"] ["self"] (i3 a9c):=⟨rfl,rfl,rfl,by decide +kernel,rfl,by decide +kernel,by decide +kernel⟩
theorem a9V (F:Fun K "amounts" "Board.amounts" a9c f fd) (N:w6 mg) (T:TB K C):FnOk P w K mg base G2 (n+1) f fd ["self"] (a8f C):=by
 refine F.ok scAmts (λ vs H Q E h=>?_) (λ cdv A outer s H vs Q E hr h=>?_)
 ·obtain ⟨p,dx,ca,oa,ia,rs,m,q,S,rfl,_⟩:=h
  rfl
 obtain ⟨p,dx,ca,oa,ia,rs,m,q,S,rfl,B,hm,hq,inj,k⟩:=h;refine ⟨_,i4 (m9 (i:=1) scAmts.nd rfl (Or.inl rfl) (j3 X2 (x8 (c6 c7 h8)) (A7 (pv 0) rfl)))
  (i4 (P7 PassesOwn.never rfl (a5I K rfl rfl N.enum (c6 (A7 (pv 0) rfl) h8)) (E6 K (n:=2) rfl rfl (j4 (i8 (i:=2) scAmts.nd rfl (Or.inl rfl)) (j4 (i8 (i:=3) scAmts.nd rfl (Or.inl rfl)) t8)))
   (i7 (x6 (p7 Q0 (pv 3) (A7 (pv 0) rfl) (m8 _)) (i7 (C7 (i9 j0 (i9 j0 (A7 (pv 0) rfl) (pv 2) (λ _ _=>rfl)) (M3 G7 c7) (λ _ _=>rfl)) (M0 (pv 1) (pv 3) D6))) r9)))
  (i7 (m6 (pv 1)))),?_⟩
 have sl:=j8 (show q<=1000 by lia);refine ⟨(by show 1<=sizeLine; decide),λ z hz=>?_⟩;have ez:=Same.new hz (.lst [.int 0]);refine ⟨_,rfl,p,C,dx,_,_,rfl,ez _ _ B.obj,T.cl,T.nM,rfl,z,_,_,rfl,rfl,upd_same,(by lia),(by lia),(by rw [Int.toNat_natCast]; simp; lia),λ tl htl=>?_⟩;rw [Int.toNat_natCast,a3Z];have htn:H tl=none:=by
  cases q1:H tl with
  | none=>rfl
  | some o=>rw [ez _ _ q1] at htl; cases htl
 have e0:Same H (upd (upd H z (.lst [.int 0])) tl (.lst ((List.range q).map λ _=>V.int 0))):=ez.write htn;refine ⟨_,rfl,p,C,dx,_,_,rfl,e0 _ _ B.obj,T.cl,T.nI,rfl,ia,rfl,⟨_,SqL.of (e0 _ _ B.inn)⟩,?_⟩;have li:((R7 m S).map V.int).length=m:=by unfold R7; simp
 refine a4v (xs:=(R7 m S).map V.int) (i1:=2) (i2:=3) (λ j σ H'=>∃ o2 o3:Option V,σ=[some (.ref p),some (.ref tl),o2,o3]/\Same H H'/\H' tl=some (.lst ((List.range q).map λ v=>V.int (a9H q S j v))))
  ⟨_,_,rfl,e0,by rw [upd_same]; rfl⟩ (λ j σ H' ⟨_,_,_,e,_⟩=>SqL.of (e _ _ B.inn)) ?_ ?_
 ·rintro j x σ H1 qq hx ⟨o2,o3,rfl,e1,ht⟩ hqq
  have hj:j<m:=by rw [<- li]; exact (List.getElem?_eq_some_iff.mp hx).1
  have hx':x=.int (S.ins j):=by
   have:=(r6 hx).symm.trans (a1r (S:=S) hj);exact Option.some.inj this
  subst hx';have s1:=Same.new hqq (.tup [V.int (j:Int),.int (S.ins j)]);have e2:=e1.trans s1;have ht2:=s1 _ _ ht;refine ⟨_,rfl,_,rfl,p,C,dx,_,_,rfl,e2 _ _ B.obj,T.cl,T.nM,rfl,_,_,rfl,rfl,_,rfl,?_⟩;have st:∀ v,a9H q S (j+1) v=a9H q S j v+(if S.ins j=v then S.T j q else 0):=λ v=>rfl;refine w8 (λ d=>?_) (λ d=>?_)
  ·have d':S.ins j<q:=by have:=of_decide_eq_true d; lia
   obtain ⟨rj,erj,arj⟩:=B.rs_at (i:=j) (by lia);refine ⟨_,rfl,p,C,dx,_,_,rfl,e2 _ _ B.obj,T.cl,T.nC,rfl,_,rfl,ca,_,_,_,rfl,rfl,SqL.of (e2 _ _ B.cel),arj,_,rfl,rj,_,_,_,rfl,rfl,SqL.of (e2 _ _ (B.row j rj erj)),Y9,?_⟩;refine ⟨_,rfl,_,rfl,tl,_,_,S.ins j,rfl,rfl,ht2,V3 (by simp; lia),?_⟩;refine ⟨_,_,rfl,e2.write htn,?_⟩;rw [upd_same]
   congr 2
   refine a8P ?_ λ u hu hne=>?_
   ·rw [st,if_pos rfl]
    have:a9H q S j (S.ins j)=0:=a1X λ i hi=>if_neg λ z=>absurd (inj i j (by lia) hj z) (by lia);rw [this]; lia
   ·rw [st,if_neg (Ne.symm hne)]; lia
  ·have d':¬ S.ins j<q:=λ z=>d (decide_eq_true (by lia))
   refine ⟨_,_,rfl,e2,?_⟩;rw [ht2]
   congr 2
   refine List.map_congr_left λ v hv=>?_;rw [st,if_neg (λ z=>d' (by rw [z]; exact List.mem_range.mp hv)),Int.add_zero]
 ·intro σ H1 hM_; refine A4 λ G_ hG_=>?_; obtain ⟨o2,o3,rfl,e1,ht⟩:=hM_; subst hG_
  rw [li] at ht;refine ⟨_,rfl,k tl H1 e1 htn ?_⟩;rw [ht];unfold y4;rw [List.map_map]; rfl
def b0L (C:Addr):Sp:=λ vs H Q _=>∃ (p dx ca oa ia:Addr) (rs:List Addr) (m q:Nat) (S:Lp.Bo),vs=[.ref p]/\Bd C H p dx ca oa ia rs m q S/\m<900/\q<900/\(∀ j k,j<q->k<q->S.outs j=S.outs k->j=k)/\(∀ j,j<q->S.outs j<q+m) ∧
 ∀ (r:Addr) (H':Hp),Same H H'->H r=none->H' r=some (.lst ((A8 m q S).map V.int))->Q (.ref r) H'
theorem scWts:r8 ["self","told","column","number"] ["self"] (i3 b2e):=⟨rfl,rfl,rfl,by decide +kernel,rfl,by decide +kernel,by decide +kernel⟩
theorem b1t (F:Fun K "weights" "Board.weights" b2e f fd) (N:w6 mg) (T:TB K C):FnOk P w K mg base G2 (n+1) f fd ["self"] (b0L C):=by
 refine F.ok scWts (λ vs H Q E h=>?_) (λ cdv A outer s H vs Q E hr h=>?_)
 ·obtain ⟨p,dx,ca,oa,ia,rs,m,q,S,rfl,_⟩:=h
  rfl
 obtain ⟨p,dx,ca,oa,ia,rs,m,q,S,rfl,B,hm,hq,inj,ob,k⟩:=h;refine ⟨_,i4 (m9 (i:=1) scWts.nd rfl (Or.inl rfl) (j3 X2 (x8 (c6 c7 h8)) (j9 j7 rfl N.len PySem.boot_len (c6 (A7 (pv 0) rfl) h8))))
  (i4 (P7 PassesOwn.never rfl (a5I K rfl rfl N.enum (c6 (A7 (pv 0) rfl) h8)) (E6 K (n:=2) rfl rfl (j4 (i8 (i:=2) scWts.nd rfl (Or.inl rfl)) (j4 (i8 (i:=3) scWts.nd rfl (Or.inl rfl)) t8)))
   (i7 (x6 (p7 a6B (pv 3) (A7 (pv 0) rfl) (m8 _)) (i7 (C7 (i9 j0 (i9 j0 (A7 (pv 0) rfl) (M3 G7 c7) (λ _ _=>rfl)) (pv 2) (λ _ _=>rfl)) (M0 (pv 1) (j3 W7 (pv 3) (A7 (pv 0) rfl)) D6))) r9)))
  (i7 (m6 (pv 1)))),?_⟩
 have sl:=j8 (show m<=1000 by lia);have li:((R7 m S).map V.int).length=m:=by unfold R7; simp
 have lo:((N9 q S).map V.int).length=q:=by unfold N9; simp
 refine ⟨(by show 1<=sizeLine; decide),λ z hz=>?_⟩;have ez:=Same.new hz (.lst [.int 0]);refine ⟨_,rfl,p,C,dx,_,_,rfl,ez _ _ B.obj,T.cl,T.nI,rfl,ia,_,rfl,.inl (SqL.of (ez _ _ B.inn)),z,_,_,rfl,rfl,upd_same,(by lia),(by lia),(by rw [li,Int.toNat_natCast]; simp; lia),λ tl htl=>?_⟩;rw [li,Int.toNat_natCast,a3Z];have htn:H tl=none:=by
  cases q1:H tl with
  | none=>rfl
  | some o=>rw [ez _ _ q1] at htl; cases htl
 have e0:Same H (upd (upd H z (.lst [.int 0])) tl (.lst ((List.range m).map λ _=>V.int 0))):=ez.write htn;refine ⟨_,rfl,p,C,dx,_,_,rfl,e0 _ _ B.obj,T.cl,T.nO,rfl,oa,rfl,⟨_,SqL.of (e0 _ _ B.out)⟩,?_⟩;refine a4v (xs:=(N9 q S).map V.int) (i1:=2) (i2:=3) (λ j σ H'=>∃ o2 o3:Option V,σ=[some (.ref p),some (.ref tl),o2,o3]/\Same H H'/\H' tl=some (.lst ((List.range m).map λ v=>V.int (a5A m S j (q+v)))))
  ⟨_,_,rfl,e0,by rw [upd_same]; rfl⟩ (λ j σ H' ⟨_,_,_,e,_⟩=>SqL.of (e _ _ B.out)) ?_ ?_
 ·rintro j x σ H1 qq hx ⟨o2,o3,rfl,e1,ht⟩ hqq
  have hj:j<q:=by rw [<- lo]; exact (List.getElem?_eq_some_iff.mp hx).1
  have hx':x=.int (S.outs j):=by
   have:=(r6 hx).symm.trans (a2l (S:=S) hj);exact Option.some.inj this
  subst hx';have s1:=Same.new hqq (.tup [V.int (j:Int),.int (S.outs j)]);have e2:=e1.trans s1;have ht2:=s1 _ _ ht;refine ⟨_,rfl,_,rfl,p,C,dx,_,_,rfl,e2 _ _ B.obj,T.cl,T.nM,rfl,_,_,rfl,rfl,_,rfl,?_⟩;have st:∀ v,a5A m S (j+1) v=a5A m S j v+(if S.outs j=v then S.T m j else 0):=λ v=>rfl;have hob:=ob j hj;refine w8 (λ d=>?_) (λ d=>?_)
  ·have d':q<=S.outs j:=by have:=of_decide_eq_true d; lia
   obtain ⟨rm,erm,arm⟩:=B.rs_last;refine ⟨_,rfl,p,C,dx,_,_,rfl,e2 _ _ B.obj,T.cl,T.nC,rfl,_,rfl,ca,_,_,_,rfl,rfl,SqL.of (e2 _ _ B.cel),arm,_,rfl,rm,_,_,_,rfl,rfl,SqL.of (e2 _ _ (B.row m rm erm)),X8 (by lia),?_⟩;refine ⟨_,rfl,_,rfl,_,rfl,p,C,dx,_,_,rfl,e2 _ _ B.obj,T.cl,T.nM,rfl,_,_,rfl,rfl,tl,_,_,S.outs j - q,rfl,rfl,ht2,?_,?_⟩
   ·rw [show ((S.outs j:Int) - (q:Int))=((S.outs j - q:Nat):Int) by lia]
    exact V3 (by simp; lia)
   refine ⟨_,_,rfl,e2.write htn,?_⟩;rw [upd_same]
   congr 2
   refine a8P ?_ λ u hu hne=>?_
   ·rw [st,if_pos (by lia)]
    have:a5A m S j (q+(S.outs j - q))=0:=a1X λ i hi=>if_neg λ z=>absurd (inj i j (by lia) hj (by lia)) (by lia);rw [this]; lia
   ·rw [st,if_neg (by lia)]; lia
  ·have d':¬ q<=S.outs j:=λ z=>d (decide_eq_true (by lia))
   refine ⟨_,_,rfl,e2,?_⟩;rw [ht2]
   congr 2
   refine List.map_congr_left λ v hv=>?_;rw [st,if_neg (by lia),Int.add_zero]
 ·intro σ H1 hM_; refine A4 λ G_ hG_=>?_; obtain ⟨o2,o3,rfl,e1,ht⟩:=hM_; subst hG_
  rw [lo] at ht;refine ⟨_,rfl,k tl H1 e1 htn ?_⟩;rw [ht];unfold A8;rw [List.map_map]; rfl
end
def Arr (rows:List (List Int)):Nat->Nat->Int:=λ i j=>(rows.getD i []).getD j 0
def R8 (l:List Int):Nat->Int:=λ i=>l.getD i 0
abbrev RowsL (K:W.Frag) (H:Hp):List V->List (List Int)->Prop:=PySem.Paired λ v row=>∃ a,v=.ref a/\SqL K H a (row.map V.int)
section
variable {P:Program} {w:World} {K:W.Frag} {mg:Str->Option Value} {base:Heap} {f g c Pt:Addr} {fd gd:FuncData} {n:Nat} {C:Addr}
def a7L (K:W.Frag) (C:Addr):Sp:=λ vs H Q _=>∃ (p dx ga ra ba:Addr) (goal:List Int) (rvs:List V) (rows:List (List Int)) (bounds:List Int) (m q:Nat),vs=[.ref p,.ref ga,.ref ra,.ref ba]/\H p=some (.ins C dx [])/\SqL K H ga (goal.map V.int)/\SqL K H ra rvs ∧
 RowsL K H rvs rows/\SqL K H ba (bounds.map V.int)/\rows.length=m/\bounds.length=m/\goal.length=q/\(∀ r∈rows,r.length=q)/\m<900/\q<900 ∧
 ∀ (H':Hp) (ca oa ia:Addr) (rs:List Addr),Bd C H' p dx ca oa ia rs m q (Lp.S0 m q (Arr rows) (R8 bounds) (R8 goal))->(∀ b o,b≠p->H b=some o->H' b=some o)->H oa=none->H ia=none->Q .non H'
theorem b1j:r8 ["self","goal","rows","bounds"] ["self","goal","rows","bounds"] (i3 a4i):=⟨rfl,rfl,rfl,by decide +kernel,rfl,by decide +kernel,by decide +kernel⟩
theorem b3B:(["row","bound"]:List Str).Nodup:=by decide +kernel
theorem b3X:(["one"]:List Str).Nodup:=by decide +kernel
noncomputable def b3j {cdv:Value} {A:Around} {outer:List Env} {s:Shared} {H:Hp} {E:XK} (N:w6 mg) :
  { t:TS // PSs (G9 G2 P w K mg base ["self","goal","rows","bounds"] "Board.__init__" (i3 a4i) f cdv A outer s H E).nox (t9 a4i) t } :=
 ⟨_,i4 (a0d (pv 0) (j9 j7 rfl N.len PySem.boot_len (c6 (pv 1) h8)) rfl)
  (i4 (a0d (pv 0) c7 rfl)
  (p6 (a0d (pv 0) (J9 ["row","bound"] [] rfl (Z3 true true K rfl rfl N.zip (c6 (pv 2) (c6 (pv 3) h8)))
   (λ _ _ _ _=>E6 K (n:=2) rfl rfl (j4 (i8 (i:=0) b3B rfl (Or.inl rfl)) (j4 (i8 (i:=1) b3B rfl (Or.inl rfl)) t8)))
   (λ _ _ _ _=>j3 G4 (x9 (a5W K rfl) rfl N.list PyProof.Rows.boot_list (c6 (pv 0) h8)) (x8 (c6 (pv 1) h8)))) rfl)
  (p6 (Q1 (a1Z PySem.F.plainAttrs_list PySem.F.slot_list_append PySem.F.type_list_append O5 (A7 (pv 0) rfl)
   (c6 (j3 G4 (J9 ["one"] [] rfl (A5 (pv 1)) (λ _ _ _ _=>i8 (i:=0) b3X rfl (Or.inl rfl)) (λ _ _ _ _=>M3 G7 (pv 0))) (x8 (c6 c7 h8))) h8)))
  (i4 (a0d (pv 0) (x9 (Z6 rfl) rfl N.list PyProof.Rows.boot_list (c6 (x9 a7p rfl N.range PyProof.Rows.boot_range (c6 (A7 (pv 0) rfl) h8)) h8)) rfl)
  (i7 (a0d (pv 0) (x9 (Z6 rfl) rfl N.list PyProof.Rows.boot_list (c6 (x9 a6K rfl N.range PyProof.Rows.boot_range (c6 (A7 (pv 0) rfl) (c6 (j3 C4 (A7 (pv 0) rfl) (j9 j7 rfl N.len PySem.boot_len (c6 (pv 2) h8))) h8))) h8)) rfl))))))⟩
end
theorem b1w {m q i:Nat} {rows:List (List Int)} {bounds goal row:List Int} {b:Int} (hr:rows[i]?=some row) (hb:bounds[i]?=some b) (hl:row.length=q) (hi:i<m) :
  row++[b]=C5 q (Lp.S0 m q (Arr rows) (R8 bounds) (R8 goal)) i:=by
 refine List.ext_getElem? λ j=>?_;unfold C5
 by_cases hj:j<q+1
 ·rw [List.getElem?_map,List.getElem?_range hj,Option.map_some]
  have hT:(Lp.S0 m q (Arr rows) (R8 bounds) (R8 goal)).T i j=if j<q then Arr rows i j else R8 bounds i:=by
   show (if j<q then (if i<m then _ else _) else (if i<m then _ else _))=_
   rw [if_pos hi,if_pos hi]
  rw [hT]
  by_cases h:j<q
  ·rw [List.getElem?_append_left (by lia),if_pos h]
   unfold Arr;rw [List.getD_eq_getElem?_getD,List.getD_eq_getElem?_getD,hr,Option.getD_some,List.getElem?_eq_getElem (by lia),Option.getD_some]
  ·rw [List.getElem?_append_right (by lia),if_neg h,hl,show j - q=0 by lia]
   unfold R8;rw [List.getD_eq_getElem?_getD,hb]; rfl
 ·rw [List.getElem?_eq_none (by simp; lia),List.getElem?_eq_none (by simp; lia)]
theorem b0e {m q:Nat} {rows:List (List Int)} {bounds goal:List Int} (hl:goal.length=q):goal.map (λ x=>-x)++[0]=C5 q (Lp.S0 m q (Arr rows) (R8 bounds) (R8 goal)) m:=by
 refine List.ext_getElem? λ j=>?_;unfold C5
 by_cases hj:j<q+1
 ·rw [List.getElem?_map,List.getElem?_range hj,Option.map_some]
  have hT:(Lp.S0 m q (Arr rows) (R8 bounds) (R8 goal)).T m j=if j<q then - R8 goal j else 0:=by
   show (if j<q then (if m<m then _ else _) else (if m<m then _ else _))=_
   rw [if_neg (Nat.lt_irrefl _),if_neg (Nat.lt_irrefl _)]
  rw [hT]
  by_cases h:j<q
  ·rw [List.getElem?_append_left (by simp; lia),if_pos h,List.getElem?_map]
   unfold R8;rw [List.getD_eq_getElem?_getD,List.getElem?_eq_getElem (by lia),Option.map_some,Option.getD_some]
  ·rw [List.getElem?_append_right (by simp; lia),if_neg h,List.length_map,hl,show j - q=0 by lia]; rfl
 ·rw [List.getElem?_eq_none (by simp; lia),List.getElem?_eq_none (by simp; lia)]
theorem a9E {m q:Nat} {A:Nat->Nat->Int} {b c:Nat->Int}:((List.range q).map λ (i:Nat)=>V.int (0+(i:Int)))=(N9 q (Lp.S0 m q A b c)).map V.int:=by
 unfold N9;rw [List.map_map];refine List.map_congr_left λ j hj=>?_;have h:(Lp.S0 m q A b c).outs j=j:=if_pos (List.mem_range.mp hj);simp [h]
theorem b1o {m q:Nat} {A:Nat->Nat->Int} {b c:Nat->Int}:((List.range m).map λ (i:Nat)=>V.int ((q:Int)+(i:Int)))=(R7 m (Lp.S0 m q A b c)).map V.int:=by
 unfold R7;rw [List.map_map];refine List.map_congr_left λ j hj=>?_;have h:(Lp.S0 m q A b c).ins j=q+j:=rfl;simp [h]
section
variable {P:Program} {w:World} {K:W.Frag} {mg:Str->Option Value} {base:Heap} {f g c Pt:Addr} {fd gd:FuncData} {n:Nat} {C:Addr}
theorem W3 {H H':Hp} {a p:Addr} {xs:List V} {C dx:Addr} {fs:List (Str×V)} (hp:H p=some (.ins C dx fs)) (e:∀ b o,b≠p->H b=some o->H' b=some o) (h:SqL K H a xs):SqL K H' a xs:=by
 rcases h with (h | ⟨o,h⟩) | h
 ·exact .inl (.inl (e _ _ (a1L h hp (by intro z; cases z)) h))
 ·exact .inl (.inr ⟨o,e _ _ (a1L h hp (by intro z; cases z)) h⟩)
 ·exact .inr h
theorem b0d (F:Fun K "__init__" "Board.__init__" a4i f fd) (N:w6 mg) (T:TB K C):FnOk P w K mg base G2 (n+1) f fd ["self","goal","rows","bounds"] (a7L K C):=by
 refine F.ok b1j (λ vs H Q E h=>?_) (λ cdv A outer s H vs Q E hr h=>?_)
 ·obtain ⟨p,dx,ga,ra,ba,goal,rvs,rows,bounds,m,q,rfl,_⟩:=h
  rfl
 obtain ⟨p,dx,ga,ra,ba,goal,rvs,rows,bounds,m,q,rfl,hp,hg,hra,hrw,hba,lr,lb,lg,hrl,hm,hq,k⟩:=h;refine ⟨_,(b3j N).2,?_⟩;have lv:rvs.length=m:=by rw [<- lr]; exact Paired.length hrw
 have k1:∀ b o,b≠p->H b=some o->upd (upd H p (.ins C dx [("many",.int q)])) p (.ins C dx [("many",.int q),("scale",.int 1)]) b=some o:=λ b o hb e=>by rw [i5 hb,i5 hb]; exact e
 refine ⟨_,rfl,ga,_,rfl,.inl hg,_,rfl,p,C,dx,_,rfl,hp,T.cl,T.nM,(by show 0<1000; decide),?_⟩;rw [List.length_map,lg];refine ⟨_,rfl,p,C,dx,_,rfl,upd_same,T.cl,T.nS,(by show 1<1000; decide),?_⟩;refine ⟨λ σ' H4=>∃ (l:Addr) (rs:List Addr),σ'=[some (.ref p),some (.ref ga),some (.ref ra),some (.ref ba)]/\H4 p=some (.ins C dx [("many",.int q),("scale",.int 1),("cells",.ref l)])/\H4 l=some (.lst (rs.map V.ref))/\rs.length=m/\H l=none ∧
  (∀ i a,rs[i]?=some a->a≠l/\H4 a=some (.lst ((C5 q (Lp.S0 m q (Arr rows) (R8 bounds) (R8 goal)) i).map V.int)))/\∀ b o,b≠p->H b=some o->H4 b=some o,?_,?_⟩
 ·refine ⟨_,rfl,_,rfl,ra,ba,rfl,⟨_,W3 hp k1 hra⟩,⟨_,W3 hp k1 hba⟩,λ l hl=>?_⟩
  have nlp:p≠l:=i6 upd_same hl;have hl0:H l=none:=by
   rw [i5 nlp.symm,i5 nlp.symm] at hl; exact hl
  refine a2Y (W3 hp k1 hra) (W3 hp k1 hba) hl (by rw [lv]; exact j8 (by lia)) (λ i y H2=>∃ a,y=.ref a/\a≠l/\H2 a=some (.lst ((C5 q (Lp.S0 m q (Arr rows) (R8 bounds) (R8 goal)) i).map V.int)))
   (λ i y H2 H3 ⟨a,h1,h2,h3⟩ e=>⟨a,h1,h2,e a _ h2 h3⟩) (λ i x y H2 zs N' hx hy e hl2 hN=>?_) (λ zs H2 e hl2 len pr=>?_)
  ·obtain ⟨row,hrow,⟨a,rfl,ha⟩⟩:=Paired.at hrw hx
   rw [List.getElem?_map] at hy
   cases hbi:bounds[i]? with
   | none=>rw [hbi] at hy; cases hy
   | some b =>
    rw [hbi] at hy;have hy':V.int b=y:=Option.some.inj hy;subst hy';have hi:i<m:=by rw [<- lb]; exact (List.getElem?_eq_some_iff.mp hbi).1
    have hlen:=hrl row (List.mem_of_getElem? hrow);have ha2:SqL K H2 a (row.map V.int):=e.seq (W3 hp k1 ha);refine ⟨_,rfl,a,_,rfl,.inl ha2,λ a1 h1=>?_⟩;have s1:=Same.new h1 (.lst (row.map V.int));refine ⟨_,rfl,(by show 1<=sizeLine; decide),λ a2 h2=>?_⟩;have s2:=s1.trans (Same.new h2 (.lst [.int b]));have n12:a1≠a2:=i6 upd_same h2;refine ⟨a1,a2,_,_,rfl,rfl,(by rw [i5 n12]; exact upd_same),upd_same,?_,λ a3 h3=>?_⟩
    ·rw [List.length_map,hlen]
     have:=j8 (show q+1<=1000 by lia);simp;lia
    ·refine hN _ _ (s2.trans (Same.new h3 _)) ⟨a3,rfl,λ z=>?_,?_⟩
     ·rw [z,s2 _ _ hl2] at h3; cases h3
     ·rw [upd_same,<- b1w hrow hbi hlen hi,List.map_append]; rfl
  ·have hp2:=e _ _ (upd_same (H:=upd H p (.ins C dx [("many",.int q)])) (a:=p) (o:=.ins C dx [("many",.int q),("scale",.int 1)]))
   refine ⟨_,rfl,p,C,dx,_,rfl,hp2,T.cl,T.nC,(by show 2<1000; decide),?_⟩;have hzs:zs=(zs.map a4d).map V.ref:=by
    rw [List.map_map];refine List.ext_getElem? λ i=>?_;rw [List.getElem?_map]
    cases qi:zs[i]? with
    | none=>rfl
    | some y =>
     obtain ⟨a,rfl,_⟩:=pr i y qi;rfl
   refine ⟨l,zs.map a4d,rfl,upd_same,by rw [i5 nlp.symm,hl2]; rw [<- hzs],by rw [List.length_map,len,lv,List.length_map,lb]; lia,hl0,λ i a hi=>?_,λ b o hb hbo=>by rw [i5 hb]; exact e _ _ (k1 b o hb hbo)⟩;rw [List.getElem?_map] at hi
   cases qi:zs[i]? with
   | none=>rw [qi] at hi; cases hi
   | some y =>
    obtain ⟨a',rfl,h2,h3⟩:=pr i y qi;rw [qi] at hi;have:a'=a:=Option.some.inj hi;subst this;refine ⟨h2,?_⟩;rw [i5 (λ z=>by rw [z,hp2] at h3; cases h3)];exact h3
 intro σ' H4 hM_; refine A4 λ G_ hG_=>?_; obtain ⟨l,rs,rfl,hp4,hl4,hlen,hl0,hrs,hk⟩:=hM_; subst hG_;have nlp:l≠p:=(i6 hp hl0).symm;refine ⟨λ σ' H5=>∃ rs':List Addr,σ'=[some (.ref p),some (.ref ga),some (.ref ra),some (.ref ba)]/\H5 p=some (.ins C dx [("many",.int q),("scale",.int 1),("cells",.ref l)])/\H5 l=some (.lst (rs'.map V.ref))/\rs'.length=m+1 ∧
  (∀ i a,rs'[i]?=some a->a≠l/\H5 a=some (.lst ((C5 q (Lp.S0 m q (Arr rows) (R8 bounds) (R8 goal)) i).map V.int)))/\∀ b o,b≠p->H b=some o->H5 b=some o,?_,?_⟩
 ·refine ⟨_,rfl,p,C,dx,_,_,rfl,hp4,T.cl,T.nC,rfl,.inl ⟨rfl,_,SqL.of hl4⟩,?_⟩
  have hg4:=W3 hp hk hg;refine ⟨_,rfl,ga,rfl,⟨_,hg4⟩,λ a1 h1=>?_⟩;refine W8 (v6 hg4) h1 (by rw [List.length_map,lg]; exact j8 (by lia)) (λ x=>.int (-(vI x))) (λ i x H' N' hx e hN=>?_) ?_
  ·obtain ⟨x',rfl,_⟩:=I0 hx
   exact ⟨Wk.set (by decide),_,rfl,_,rfl,hN⟩
  have eg:(goal.map V.int).map (λ x=>V.int (-(vI x)))=(goal.map λ x=>-x).map V.int:=by rw [List.map_map,List.map_map]; rfl
  rw [eg];have s1:=Same.new h1 (.lst ((goal.map λ x=>-x).map V.int));refine ⟨(by show 1<=sizeLine; decide),λ a2 h2=>?_⟩;have s2:=s1.trans (Same.new h2 (.lst [.int 0]));have n12:a1≠a2:=i6 upd_same h2;refine ⟨a1,a2,_,_,rfl,rfl,(by rw [i5 n12]; exact upd_same),upd_same,?_,λ a3 h3=>?_⟩
  ·rw [List.length_map,List.length_map,lg]
   have:=j8 (show q+1<=1000 by lia);simp;lia
  have s3:=s2.trans (Same.new h3 (.lst ((goal.map λ x=>-x).map V.int++[.int 0])));refine ⟨l,_,_,rfl,rfl,s3 _ _ hl4,(by rw [List.length_map,hlen]; exact j8 (by lia)),?_⟩;have n3l:a3≠l:=λ z=>by rw [z,s2 _ _ hl4] at h3; cases h3
  have n3p:a3≠p:=λ z=>by rw [z,s2 _ _ hp4] at h3; cases h3
  refine ⟨rs++[a3],rfl,by rw [i5 nlp.symm]; exact s3 _ _ hp4,by rw [upd_same,List.map_append]; rfl,by rw [List.length_append,hlen]; rfl,λ i a hi=>?_,λ b o hb hbo=>by rw [i5 (i6 hbo hl0)]; exact s3 _ _ (hk b o hb hbo)⟩
  by_cases him:i<m
  ·rw [List.getElem?_append_left (by lia)] at hi
   obtain ⟨g1,g2⟩:=hrs i a hi;exact ⟨g1,by rw [i5 g1]; exact s3 _ _ g2⟩
  ·rw [List.getElem?_append_right (by lia)] at hi
   have hi0:i - rs.length=0:=by
    cases z:i - rs.length with
    | zero=>rfl
    | succ j=>rw [z] at hi; simp at hi
   rw [hi0] at hi;have:a3=a:=Option.some.inj hi;subst this;have:i=m:=by lia
   subst this;refine ⟨n3l,?_⟩;rw [i5 n3l,upd_same,<- b0e lg,List.map_append]; rfl
 intro σ' H5 hM_; refine A4 λ G_ hG_=>?_; obtain ⟨rs',rfl,hp5,hl5,hlen5,hrs5,hk5⟩:=hM_; subst hG_;refine ⟨_,rfl,p,C,dx,_,_,rfl,hp5,T.cl,T.nM,rfl,q,rfl,λ r1 h1=>?_⟩;have s1:=Same.new h1 (.rng 0 (q:Int));refine ⟨r1,0,q,rfl,by rw [upd_same,Int.zero_add],by lia,by lia,by lia,λ oa hoa=>?_⟩;have s2:=s1.trans (Same.new hoa (.lst ((List.range q).map λ (i:Nat)=>V.int (0+(i:Int)))));have noa5:H5 oa=none:=by
  cases z:H5 oa with
  | none=>rfl
  | some o=>rw [s1 _ _ z] at hoa; cases hoa
 have nop:oa≠p:=(i6 hp5 noa5).symm;refine ⟨_,rfl,p,C,dx,_,rfl,s2 _ _ hp5,T.cl,T.nO,(by show 3<1000; decide),?_⟩;have hra5:=W3 hp hk5 hra;have lp5:SqL K (upd (upd (upd H5 r1 (.rng 0 (q:Int))) oa (.lst ((List.range q).map λ (i:Nat)=>V.int (0+(i:Int))))) p (.ins C dx [("many",.int q),("scale",.int 1),("cells",.ref l),("outs",.ref oa)])) ra rvs :=
  W3 (s2 _ _ hp5) (λ b o hb e=>by rw [i5 hb]; exact e) (s2.seq hra5)
 refine ⟨_,rfl,p,C,dx,_,_,rfl,upd_same,T.cl,T.nM,rfl,_,rfl,p,C,dx,_,_,rfl,upd_same,T.cl,T.nM,rfl,_,rfl,ra,_,rfl,.inl lp5,_,_,rfl,rfl,_,_,rfl,λ r2 h2=>?_⟩;rw [lv];refine ⟨r2,(q:Int),m,rfl,upd_same,by lia,by lia,by lia,λ ia hia=>?_⟩;have n2p:r2≠p:=(i6 upd_same h2).symm;have nip:ia≠p:=by
  refine (i6 (H:=_) (o:=.ins C dx [("many",.int q),("scale",.int 1),("cells",.ref l),("outs",.ref oa)]) ?_ hia).symm;rw [i5 n2p.symm,upd_same]; rfl
 have oa6:∀ o,upd (upd (upd H5 r1 (.rng 0 (q:Int))) oa o) p (.ins C dx [("many",.int q),("scale",.int 1),("cells",.ref l),("outs",.ref oa)]) oa=some o:=λ o=>by rw [i5 nop,upd_same]
 have n2o:r2≠oa:=(i6 (oa6 _) h2).symm;have nio:ia≠oa:=by
  refine (i6 (H:=_) (o:=.lst ((List.range q).map λ (i:Nat)=>V.int (0+(i:Int)))) ?_ hia).symm;rw [i5 n2o.symm]; exact oa6 _
 have up:∀ b o,b≠p->H5 b=some o->b≠ia/\b≠r2/\upd (upd H5 r1 (.rng 0 (q:Int))) oa (.lst ((List.range q).map λ (i:Nat)=>V.int (0+(i:Int)))) b=some o:=λ b o hb e=>by
  have e2:=s2 _ _ e;have nb2:b≠r2:=by
   refine i6 (H:=_) (o:=o) ?_ h2;rw [i5 hb]; exact e2
  refine ⟨?_,nb2,e2⟩;refine i6 (H:=_) (o:=o) ?_ hia;rw [i5 nb2,i5 hb]; exact e2
 refine ⟨_,rfl,p,C,dx,_,rfl,(by rw [i5 nip.symm,i5 n2p.symm]; exact upd_same),T.cl,T.nI,(by show 4<1000; decide),?_⟩;have fin:∀ b o,b≠p->H5 b=some o->upd (upd (upd (upd (upd (upd H5 r1 (.rng 0 (q:Int))) oa (.lst ((List.range q).map λ (i:Nat)=>V.int (0+(i:Int))))) p (.ins C dx [("many",.int q),("scale",.int 1),("cells",.ref l),("outs",.ref oa)])) r2 (.rng (q:Int) ((q:Int)+(m:Int)))) ia (.lst ((List.range m).map λ (i:Nat)=>V.int ((q:Int)+(i:Int))))) p (.ins C dx [("many",.int q),("scale",.int 1),("cells",.ref l),("outs",.ref oa),("ins",.ref ia)]) b=some o:=λ b o hb e=>by
  obtain ⟨g1,g2,g3⟩:=up b o hb e;rw [i5 hb,i5 g1,i5 g2,i5 hb]; exact g3
 have ia5:H5 ia=none:=by
  cases z:H5 ia with
  | none=>rfl
  | some o=>exact absurd rfl (up ia o nip z).1
 have back:∀ b,b≠p->H5 b=none->H b=none:=λ b hb z=>by
  cases z2:H b with
  | none=>rfl
  | some o=>rw [hk5 b o hb z2] at z; cases z
 refine k _ l oa ia rs' ⟨upd_same,fin _ _ nlp hl5,hlen5,λ i a hi=>fin _ _ (λ z=>?_) (hrs5 i a hi).2,?_,?_,nio.symm⟩ (λ b o hb hbo=>fin b o hb (hk5 b o hb hbo)) (back _ nop noa5) (back _ nip ia5)
 ·have:=(hrs5 i a hi).2
  rw [z,hp5] at this; cases this
 ·rw [i5 nop,i5 nio.symm,i5 n2o.symm,i5 nop,upd_same,a9E]
 ·rw [i5 nip,upd_same,b1o]
end
section
variable {P:Program} {w:World} {K:W.Frag} {mg:Str->Option Value} {base:Heap} {f Pt:Addr} {fd:FuncData} {n:Nat} {C:Addr}
def Z9 (K:W.Frag) (C Pt:Addr):Sp:=λ vs H Q _=>∃ (ga ra ba:Addr) (goal:List Int) (rvs:List V) (rows:List (List Int)) (bounds:List Int) (m q M:Nat),vs=[.ref ga,.ref ra,.ref ba]/\SqL K H ga (goal.map V.int)/\SqL K H ra rvs ∧
 RowsL K H rvs rows/\SqL K H ba (bounds.map V.int)/\rows.length=m/\bounds.length=m/\goal.length=q/\(∀ r∈rows,r.length=q)/\m<900/\q<900/\(∀ i,i<m->0<=R8 bounds i) ∧
 (∀ v,Lp.Fits M (m+1) (Lp.Vv m q (Arr rows) (R8 bounds) (R8 goal) v))/\Lp.bnd M (m+1)<2 ^ 4000/\LT Pt H ∧
 (∀ (S:Lp.Bo) (H':Hp) (t aa wa:Addr),Lp.Of m q (Arr rows) (R8 bounds) (R8 goal) S->(∀ j,j<q->¬ S.T m j<0)->Sz 4000 m q S->Same1 Pt H H'->LT Pt H'->H' t=some (.tup [.int (S.T m q),.ref aa,.ref wa,.int S.d]) →
  H' aa=some (.lst ((y4 m q S).map V.int))->H' wa=some (.lst ((A8 m q S).map V.int))->Q (.ref t) H') ∧
 ∀ (S:Lp.Bo) (H':Hp) (c:Nat),Lp.Of m q (Arr rows) (R8 bounds) (R8 goal) S->c<q->S.T m c<0->(∀ i,i<m->¬ 0<S.T i c)->Same1 Pt H H'->LT Pt H'->Q .non H'
theorem scGr:r8 ["goal","rows","bounds","board","column","row"] ["goal","rows","bounds"] (i3 O2):=⟨rfl,rfl,rfl,by decide +kernel,rfl,by decide +kernel,by decide +kernel⟩
structure b3p (P:Program) (w:World) (K:W.Frag) (mg:Str->Option Value) (base:Heap) (n:Nat) (C Pt:Addr) (f1 f2 f3 f4 f5 f6:Addr) (d1 d2 d3 d4 d5 d6:FuncData):Prop where
 mak:Mk K C f1
 ini:FnOk P w K mg base G2 n f1 d1 ["self","goal","rows","bounds"] (a7L K C)
 inb:Binds K d1 ["self","goal","rows","bounds"] []
 mC:mg "Board"=some (.ref C)
 com:a6P P w K mg base n C "coming" ["self"] (a1B C Pt) f2 d2
 goi:a6P P w K mg base n C "going" ["self","column"] (a5M C) f3 d3
 exc:a6P P w K mg base n C "exchange" ["self","row","column"] (a1C C) f4 d4
 amt:a6P P w K mg base n C "amounts" ["self"] (a8f C) f5 d5
 wts:a6P P w K mg base n C "weights" ["self"] (b0L C) f6 d6
noncomputable def grT {cdv:Value} {A:Around} {outer:List Env} {s:Shared} {H:Hp} {E:XK} {f1 f2 f3 f4 f5 f6:Addr} {d1 d2 d3 d4 d5 d6:FuncData} (T:TB K C) (G:b3p P w K mg base n C Pt f1 f2 f3 f4 f5 f6 d1 d2 d3 d4 d5 d6)
  (hr:Room (n+1) (A.deeper (PyProof.Rows.envOfC "greatest" (i3 O2) s.heap.objs.size f cdv))) (hr0:Room n (A.deeper (PyProof.Rows.envOfC "greatest" (i3 O2) s.heap.objs.size f cdv))) :
  { t:TS // PSs (G9 G2 P w K mg base ["goal","rows","bounds","board","column","row"] "greatest" (i3 O2) f cdv A outer s H E).nox (t9 O2) t } :=
 ⟨_,i4 (m9 (i:=3) scGr.nd rfl (Or.inl rfl) (a9P G.mak G.ini hr rfl G.mC G.inb .nil t6 (c6 (pv 0) (c6 (pv 1) (c6 (pv 2) h8)))))
  (i4 (m9 (i:=4) scGr.nd rfl (Or.inl rfl) (a0C (pv 3) T.cl G.com.me G.com.ok hr0 G.com.bd .nil t6))
  (i4 (a2a PassesOwn.never (p7 a9v (pv 4) a2k (m8 _))
   (i4 (m9 (i:=5) scGr.nd rfl (Or.inl rfl) (a3i (pv 3) T.cl G.goi.me G.goi.ok hr0 G.goi.bd .nil t6 (c6 (pv 4) h8)))
   (i4 (x6 (p7 a7F (pv 5) a2k (m8 _)) (i7 (m6 a2k)) r9)
   (i4 (Q1 (a3i (pv 3) T.cl G.exc.me G.exc.ok hr0 G.exc.bd .nil t6 (c6 (pv 5) (c6 (pv 4) h8))))
   (i7 (m9 (i:=4) scGr.nd rfl (Or.inl rfl) (a0C (pv 3) T.cl G.com.me G.com.ok hr0 G.com.bd .nil t6)))))))
  (i7 (m6 (w4 (c6 (i9 j0 (i9 j0 (A7 (pv 3) rfl) (M3 G7 c7) (λ _ _=>rfl)) (M3 G7 c7) (λ _ _=>rfl))
   (c6 (a0C (pv 3) T.cl G.amt.me G.amt.ok hr0 G.amt.bd .nil t6) (c6 (a0C (pv 3) T.cl G.wts.me G.wts.ok hr0 G.wts.bd .nil t6) (c6 (A7 (pv 3) rfl) h8)))))))))⟩
end
section
variable {P:Program} {w:World} {K:W.Frag} {mg:Str->Option Value} {base:Heap} {f Pt:Addr} {fd:FuncData} {n:Nat} {C:Addr}
theorem RowsL.same {H H':Hp} {vs:List V} {rs:List (List Int)} (e:Same H H') (x:RowsL K H vs rs):RowsL K H' vs rs:=Paired.imp' (λ _ _ ⟨a,z,q⟩=>⟨a,z,e.seq q⟩) x
theorem b2B {m q M:Nat} {A:Nat->Nat->Int} {b c:Nat->Int} {S:Lp.Bo} (O:Lp.Of m q A b c S) (hM:∀ v,Lp.Fits M (m+1) (Lp.Vv m q A b c v)) (hb:Lp.bnd M (m+1)<2 ^ 4000):Sz 4000 m q S :=
 ⟨λ i j hi hj=>Nat.lt_of_le_of_lt (O.w.bndT hM hi hj) hb,Nat.lt_of_le_of_lt (O.w.bndd hM) hb⟩
def Cv (m q:Nat) (S:Lp.Bo) (cv:V):Prop:=(cv=.non/\∀ j,j<q->¬ S.T m j<0)\/∃ c:Nat,cv=.int c/\c<q/\S.T m c<0/\∀ i,i<q->S.T m i<0->S.outs c<=S.outs i
theorem a4p {f1 f2 f3 f4 f5 f6:Addr} {d1 d2 d3 d4 d5 d6:FuncData} (F:Fun K "greatest" "greatest" O2 f fd) (T:TB K C) (G:b3p P w K mg base n C Pt f1 f2 f3 f4 f5 f6 d1 d2 d3 d4 d5 d6) :
  FnOk P w K mg base G2 (n+2) f fd ["goal","rows","bounds"] (Z9 K C Pt):=by
 refine F.ok scGr (λ vs H Q E h=>?_) (λ cdv A outer s H vs Q E hr h=>?_)
 ·obtain ⟨ga,ra,ba,goal,rvs,rows,bounds,m,q,M,rfl,_⟩:=h
  rfl
 obtain ⟨ga,ra,ba,goal,rvs,rows,bounds,m,q,M,rfl,hg,hra,hrw,hba,lr,lb,lg,hrl,hm,hq,hbn,hM,hB,L,kT,kN⟩:=h;refine ⟨_,(grT T G hr (hr.mono (by lia))).2,?_⟩;refine ⟨_,rfl,_,rfl,_,rfl,λ p dx hp hdx hne=>?_⟩;have e0:Same H (upd (upd H dx (.own p)) p (.ins C dx [])):=λ b o q'=>by rw [i5 (i6 q' hp),i5 (i6 q' hdx)]; exact q'
 refine ⟨p,dx,ga,ra,ba,goal,rvs,rows,bounds,m,q,rfl,upd_same,e0.seq hg,e0.seq hra,hrw.same e0,e0.seq hba,lr,lb,lg,hrl,hm,hq,λ H1 ca oa ia rs B k1 hoa hia=>⟨rfl,?_⟩⟩;have nop:oa≠p:=a1L B.out B.obj (by intro z; cases z);have nip:ia≠p:=a1L B.inn B.obj (by intro z; cases z);have hoa0:H oa=none:=by
  cases z:H oa with
  | none=>rfl
  | some o=>rw [e0 _ _ z] at hoa; cases hoa
 have hia0:H ia=none:=by
  cases z:H ia with
  | none=>rfl
  | some o=>rw [e0 _ _ z] at hia; cases hia
 have s1:Same H H1:=λ b o z=>k1 b o (i6 z hp) (e0 _ _ z);have L1:LT Pt H1:=L.same s1;have O0:=Lp.of0 (A:=Arr rows) (c:=R8 goal) (q:=q) hbn;have come:∀ (S:Lp.Bo) (ca:Addr) (rs:List Addr) (H2:Hp) (R:V->Hp->Prop),Bd C H2 p dx ca oa ia rs m q S->LT Pt H2->Same1 Pt H H2->(∀ cv H3,Cv m q S cv->Bd C H3 p dx ca oa ia rs m q S->LT Pt H3->Same1 Pt H H3->R cv H3) →
   a1B C Pt [.ref p] H2 R E0:=λ S ca rs H2 R B2 L2 e2 hR=>by
  refine ⟨p,dx,ca,oa,ia,rs,m,q,S,rfl,B2,by lia,L2,λ H3 e3 L3=>?_⟩;have B3:=B2.lam L2 e3;have e4:Same1 Pt H H3:=λ b o hb z=>e3 b o hb (e2 b o hb z);exact ⟨λ hn=>hR _ _ (.inl ⟨rfl,hn⟩) B3 L3 e4,λ j hj hneg hmin=>hR _ _ (.inr ⟨j,rfl,hj,hneg,hmin⟩) B3 L3 e4⟩
 refine ⟨_,rfl,p,dx,_,rfl,B.obj,rfl,?_⟩;unfold a7G;refine come _ _ _ _ _ B L1 (λ b o _ z=>s1 b o z) λ cv H2 hcv B2 L2 e2=>?_;obtain ⟨kk,hkk⟩:=O0.w.ends hM;refine ⟨λ j σ H3=>∃ (S:Lp.Bo) (ca:Addr) (rs:List Addr) (cv:V) (o5:Option V),σ=[some (.ref ga),some (.ref ra),some (.ref ba),some (.ref p),some cv,o5]/\Lp.Of m q (Arr rows) (R8 bounds) (R8 goal) S/\Lp.Ends m q S j/\Cv m q S cv/\Bd C H3 p dx ca oa ia rs m q S/\LT Pt H3/\Same1 Pt H H3,
  ⟨kk,_,ca,rs,cv,_,rfl,O0,hkk,hcv,B2,L2,e2⟩,?_⟩
 rintro j σ H3 ⟨S,ca,rs,cv,o5,rfl,O,hE,hcv,B3,L3,e3⟩;have sz:=b2B O hM hB;refine ⟨_,rfl,rfl,_,rfl,?_⟩;rcases hcv with ⟨rfl,hn⟩ | ⟨c,rfl,hc,hneg,hmin⟩
 ·refine w8 (λ z=>?_) (λ _=>?_)
  ·exact absurd z (by decide)
  obtain ⟨rm,em,am⟩:=B3.rs_last;refine ⟨_,rfl,p,C,dx,_,_,rfl,B3.obj,T.cl,T.nC,rfl,_,rfl,ca,_,_,_,rfl,rfl,SqL.of B3.cel,am,_,rfl,rm,_,_,_,rfl,rfl,SqL.of (B3.row m rm em),Y9,?_⟩;refine ⟨_,rfl,p,dx,_,rfl,B3.obj,rfl,?_⟩;refine ⟨p,dx,ca,oa,ia,rs,m,q,S,rfl,B3,hm,hq,O.w.ii,λ aa H4 e4 haa h4=>?_⟩;have B4:Bd C H4 p dx ca oa ia rs m q S:=B3.same1 (P:=Pt) λ b o z _=>e4 b o z;refine ⟨_,rfl,p,dx,_,rfl,B4.obj,rfl,?_⟩;refine ⟨p,dx,ca,oa,ia,rs,m,q,S,rfl,B4,hm,hq,O.w.oo,O.w.ob,λ wa H5 e5 hwa h5=>?_⟩;have B5:Bd C H5 p dx ca oa ia rs m q S:=B4.same1 (P:=Pt) λ b o z _=>e5 b o z;refine ⟨_,rfl,p,C,dx,_,_,rfl,B5.obj,T.cl,T.nS,rfl,(by show 4<=sizeLine; decide),λ t ht=>?_⟩;have e6:=(e4.trans e5).trans (Same.new ht (.tup [.int (S.T m q),.ref aa,.ref wa,.int S.d]));refine kT S _ t aa wa O hn sz (λ b o hb z=>e6 b o (e3 b o hb z)) (L3.same e6) upd_same ?_ ?_
  ·rw [i5 (i6 (e5 _ _ h4) ht)]; exact e5 _ _ h4
  ·rw [i5 (i6 h5 ht)]; exact h5
 ·refine w8 (λ _=>?_) (λ z=>absurd rfl z)
  refine ⟨λ σ' H'=>∃ j',j'<j/\∃ (S:Lp.Bo) (ca:Addr) (rs:List Addr) (cv:V) (o5:Option V),σ'=[some (.ref ga),some (.ref ra),some (.ref ba),some (.ref p),some cv,o5]/\Lp.Of m q (Arr rows) (R8 bounds) (R8 goal) S/\Lp.Ends m q S j'/\Cv m q S cv/\Bd C H' p dx ca oa ia rs m q S/\LT Pt H'/\Same1 Pt H H',λ σ' H' z=>z,?_⟩;refine ⟨_,rfl,p,dx,_,rfl,B3.obj,rfl,_,rfl,?_⟩;refine ⟨p,dx,ca,oa,ia,rs,m,q,S,c,rfl,B3,sz,by lia,by lia,λ hnone=>?_,λ r hrm hpos hbet=>?_⟩
  ·refine ⟨_,rfl,rfl,_,rfl,?_⟩
   refine w8 (λ _=>?_) (λ z=>absurd (decide_eq_true rfl) z);exact kN S H3 c O hc hneg hnone e3 L3
  ·have Ch:Lp.Choice m q S r c:=⟨hc,hneg,hmin,hrm,hpos,λ i hi hp'=>(hbet i hi hp').1,λ i hi hp'=>(hbet i hi hp').2⟩
   refine ⟨_,rfl,rfl,_,rfl,?_⟩;refine w8 (λ z=>absurd (of_decide_eq_true z) (by nofun)) (λ _=>?_);refine ⟨_,rfl,p,dx,_,rfl,B3.obj,rfl,_,rfl,_,rfl,?_⟩;refine ⟨p,dx,ca,oa,ia,rs,m,q,S,r,c,rfl,B3,sz,hrm,hc,hm,hq,O.w.pos,λ H4 ca' rs' B4 k4=>?_⟩;have e4:Same1 Pt H H4:=λ b o hb z=>k4 b o (i6 z hp) (i6 z hoa0) (i6 z hia0) (e3 b o hb z);have tk:∀ b o,H3 b=some o->(∀ C dx fs,o≠.ins C dx fs)->(∀ xs,o≠.lst xs)->H4 b=some o:=λ b o z n1 n2=>k4 b o (λ y=>by subst y; rw [B3.obj] at z; exact n1 _ _ _ (Option.some.inj z).symm) (λ y=>by subst y; rw [B3.out] at z; exact n2 _ (Option.some.inj z).symm) (λ y=>by subst y; rw [B3.inn] at z; exact n2 _ (Option.some.inj z).symm) z;have L4:LT Pt H4:=by
    rcases L3 with t | ⟨c',t1,t2⟩
    ·exact .inl (tk _ _ t (λ _ _ _=>nofun) λ _=>nofun)
    ·exact .inr ⟨c',tk _ _ t1 (λ _ _ _=>nofun) λ _=>nofun,tk _ _ t2 (λ _ _ _=>nofun) λ _=>nofun⟩
   refine ⟨_,rfl,p,dx,_,rfl,B4.obj,rfl,?_⟩;refine come _ _ _ _ _ B4 L4 e4 λ cv' H5 hcv' B5 L5 e5=>?_;obtain ⟨j',hj',hE'⟩:=hE.next O.w Ch;exact ⟨j',hj',_,ca',rs',cv',_,rfl,O.piv Ch,hE',hcv',B5,L5,e5⟩
end
section
variable {P:Program} {w:World} {K:W.Frag} {mg:Str->Option Value} {base:Heap} {f g:Addr} {fd gd:FuncData}
def a3z (K:W.Frag):Sp:=λ vs H Q _=>∃ (a:Addr) (ns:List Int) (k:Int),vs=[.ref a,.int k]/\SqL K H a (ns.map V.int)/\0<=k/\∀ c:Int,Q (.int c) H
theorem b2b:r8 ["script","k"] ["script","k"] (i3 a8k):=⟨rfl,rfl,rfl,by decide +kernel,rfl,by decide +kernel,by decide +kernel⟩
theorem b1f {ns:List Int} {k:Int} (h0:0<=k) (h:k<((ns.map V.int).length:Int)):∃ v:Int,M2 (ns.map V.int) k=some (.int v):=by
 have hl:(ns.map V.int).length=ns.length:=List.length_map _;have hk:k.toNat<ns.length:=by lia
 have ek:k=((k.toNat:Nat):Int):=by lia
 have q:M2 (ns.map V.int) ((k.toNat:Nat):Int)=some (.int ns[k.toNat]):=r6 (by rw [List.getElem?_map,List.getElem?_eq_getElem hk]; rfl);rw [<- ek] at q;exact ⟨_,q⟩
theorem b0l {n:Nat} (F:Fun K "_law_cell_at" "_law_cell_at" a8k f fd) (T:w6 mg):FnOk P w K mg base G2 (n+1) f fd ["script","k"] (a3z K):=by
 refine F.ok b2b (λ vs H Q E h=>?_) (λ cdv A outer s H vs Q E hr h=>?_)
 ·obtain ⟨a,ns,k,rfl,_⟩:=h
  rfl
 obtain ⟨a,ns,k,rfl,hS,h0,q⟩:=h;refine ⟨_,i4 (x6 (p7 Q0 (pv 1) (j9 j7 rfl T.len PySem.boot_len (c6 (pv 0) h8)) (m8 _)) (i7 (m6 (i9 j0 (pv 0) (pv 1) (λ _ _=>rfl)))) r9)
  (i7 (m6 c7)),?_⟩
 refine ⟨_,rfl,_,rfl,a,_,rfl,.inl hS,_,_,rfl,rfl,_,rfl,?_⟩;refine w8 (λ c=>?_) (λ c=>?_)
 ·obtain ⟨v,hv⟩:=b1f h0 (of_decide_eq_true c)
  exact ⟨_,rfl,_,rfl,a,_,_,_,rfl,rfl,hS,hv,q v⟩
 ·exact q 0
def a1x (K:W.Frag):Sp:=λ vs H Q _=>∃ (c:Int) (many:Nat) (b:Int),vs=[.int c,.int (many:Int),.int b]/\many<=900/\0<b/\b<1073741824 ∧
 ∀ (r:Addr) (H':Hp) (ds:List Int),Same H H'->H' r=some (.lst (ds.map V.int))->ds.length=many->(∀ d∈ds,0<=d/\d<b)->Q (.ref r) H'
theorem scDraws:r8 ["cell","many","base","found","rest","stirred","k"] ["cell","many","base"] (i3 a4N):=⟨rfl,rfl,rfl,by decide +kernel,rfl,by decide +kernel,by decide +kernel⟩
theorem a7Z {n:Nat} (F:Fun K "_law_draws" "_law_draws" a4N f fd) (T:w6 mg):FnOk P w K mg base G2 (n+1) f fd ["cell","many","base"] (a1x K):=by
 refine F.ok scDraws (λ vs H Q E h=>?_) (λ cdv A outer s H vs Q E hr h=>?_)
 ·obtain ⟨a,ns,k,rfl,_⟩:=h
  rfl
 obtain ⟨c,many,b,rfl,hm,hb0,hb1,q⟩:=h;refine ⟨_,i4 (m9 (i:=3) scDraws.nd rfl (Or.inl rfl) (x8 h8))
  (i4 (m9 (i:=4) scDraws.nd rfl (Or.inl rfl) (j3 W2 (pv 0) (x9 a2K rfl T.int PyProof.Rows.boot_int (c6 (C2 a6B (pv 0) (j3 a0a c7 c7) (m8 _)) h8))))
  (i4 (m9 (i:=5) scDraws.nd rfl (Or.inl rfl) (j3 u9 (pv 0) c7))
  (i4 (P7 PassesOwn.never rfl (O1 rfl T.range (c6 (j3 C4 (pv 1) c7) h8)) (i8 (i:=6) scDraws.nd rfl (Or.inl rfl))
   (i4 (m9 (i:=5) scDraws.nd rfl (Or.inl rfl) (j3 u9 (j3 C4 (j3 C4 (j3 C4 (j3 W2 (pv 5) (pv 5)) (j3 W2 c7 (pv 5))) (pv 6)) c7) c7))
    (i7 (x6 (PW.pt (W5 (p7 V8 (pv 6) c7 (m8 _)) (S4 (p7 V8 (pv 4) c7 (m8 _)))))
     (i4 (Q1 (a1Z PySem.F.plainAttrs_list PySem.F.slot_list_append PySem.F.type_list_append O5 (pv 3) (c6 (j3 u9 (pv 4) (pv 2)) h8))) (i7 (m9 (i:=4) scDraws.nd rfl (Or.inl rfl) (j3 L8 (pv 4) (pv 2)))))
     (i7 (x6 (p7 V8 (pv 6) c7 (m8 _)) (i7 (Q1 (a1Z PySem.F.plainAttrs_list PySem.F.slot_list_append PySem.F.type_list_append O5 (pv 3) (c6 (j3 u9 (j3 L8 (pv 5) c7) (pv 2)) h8)))) r9))))))
  (i7 (m6 (pv 3)))))),?_⟩
 refine ⟨(by show 0<=sizeLine; decide),λ fl hfl=>?_⟩;refine ⟨_,rfl,_,rfl,_,_,rfl,rfl,⟨by decide,by decide,by decide⟩,_,_,rfl,rfl,.inr ⟨_,rfl,_,_,rfl,rfl,.inr ?_,?_⟩⟩
 ·constructor <;> (split <;> decide)
 refine ⟨_,rfl,_,_,rfl,rfl,(by show (0:Int)<2305843009213693951; decide),?_⟩;refine ⟨_,rfl,_,_,rfl,rfl,((many:Int)+3),rfl,by lia,by lia,?_⟩;have e3:((many:Int)+3).toNat=many+3:=by lia
 rw [e3];refine T9 (n:=many+3) (λ i σ H'=>∃ (r st:Int) (ds:List Int) (ks:Option V),σ=[some (.int c),some (.int (many:Int)),some (.int b),some (.ref fl),some (.int r),some (.int st),ks]/\H'=upd H fl (.lst (ds.map V.int))/\ds.length=i - 3/\(∀ d∈ds,0<=d/\d<b)/\0<=st/\st<2305843009213693951)
  ⟨_,_,[],none,rfl,rfl,rfl,λ d hd=>(by cases hd),Int.emod_nonneg _ (by decide),Int.emod_lt_of_pos _ (by decide)⟩ ?_ ?_
 ·rintro i σ H' hi ⟨r,st,ds,ks,rfl,rfl,hl,hd,hs0,hs1⟩
  refine ⟨_,rfl,_,rfl,_,_,rfl,rfl,.inl ⟨by lia,by lia⟩,_,rfl,_,_,rfl,rfl,.inl ⟨by decide,by decide⟩,_,_,rfl,rfl,_,rfl,_,_,rfl,rfl,_,_,rfl,rfl,_,_,rfl,rfl,(by show (0:Int)<2305843009213693951; decide),?_⟩;have hs0':0<=(st*st+48271*st+(0+(i:Int))+1) % 2305843009213693951:=Int.emod_nonneg _ (by decide);have hs1':(st*st+48271*st+(0+(i:Int))+1) % 2305843009213693951<2305843009213693951:=Int.emod_lt_of_pos _ (by decide);refine ⟨_,rfl,_,_,rfl,rfl,_,rfl,?_⟩;have hz:(ds.map V.int).length<sizeLine:=by rw [List.length_map]; exact j8 (by lia)
  have more:∀ d:Int,(ds.map V.int)++[V.int d]=(ds++[d]).map V.int:=λ d=>by rw [List.map_append]; rfl
  have mem:∀ d:Int,0<=d->d<b->∀ d'∈ds++[d],0<=d'/\d'<b:=λ d h0 h1 d' hd'=>by
   rcases List.mem_append.mp hd' with z | z
   ·exact hd d' z
   ·rw [List.mem_singleton.mp z]; exact ⟨h0,h1⟩
  refine w8 (λ c1=>?_) (λ c1=>?_)
  ·have c1':2<0+(i:Int):=of_decide_eq_true c1
   refine ⟨_,rfl,_,_,rfl,rfl,_,rfl,?_⟩;refine w8 (λ c2=>?_) (λ c2=>?_)
   ·refine ⟨_,rfl,.inl ⟨rfl,_,SqL.of upd_same⟩,_,rfl,_,rfl,_,_,rfl,rfl,hb0,fl,_,_,rfl,rfl,upd_same,hz,?_⟩
    refine ⟨_,rfl,_,rfl,_,_,rfl,rfl,⟨hb0,hb1⟩,?_⟩;refine ⟨_,_,ds++[r % b],_,rfl,?_,?_,mem _ (Int.emod_nonneg _ (by lia)) (Int.emod_lt_of_pos _ hb0),hs0',hs1'⟩
    ·rw [a1q,more]
    ·rw [List.length_append,List.length_singleton]; lia
   ·refine ⟨_,rfl,_,_,rfl,rfl,_,rfl,?_⟩
    refine w8 (λ c3=>?_) (λ c3=>absurd c1 c3);refine ⟨_,rfl,.inl ⟨rfl,_,SqL.of upd_same⟩,_,rfl,_,_,rfl,rfl,⟨by decide,by decide⟩,_,rfl,_,_,rfl,rfl,hb0,fl,_,_,rfl,rfl,upd_same,hz,?_⟩;refine ⟨_,_,ds++[(st*st+48271*st+(0+(i:Int))+1) % 2305843009213693951 / 4096 % b],_,rfl,?_,?_,mem _ (Int.emod_nonneg _ (by lia)) (Int.emod_lt_of_pos _ hb0),hs0',hs1'⟩
    ·rw [a1q,more]
    ·rw [List.length_append,List.length_singleton]; lia
  ·have c1':¬ 2<0+(i:Int):=of_decide_eq_false (Bool.eq_false_iff.mpr c1)
   refine a0t ?_;refine ⟨_,rfl,_,_,rfl,rfl,_,rfl,?_⟩;refine w8 (λ c3=>absurd c3 c1) (λ c3=>?_);exact ⟨_,_,ds,_,rfl,rfl,by lia,hd,hs0',hs1'⟩
 ·intro σ H' hM_; refine A4 λ G_ hG_=>?_; obtain ⟨r,st,ds,ks,rfl,rfl,hl,hd,_⟩:=hM_; subst hG_
  exact ⟨_,rfl,q fl _ ds (Same.new hfl _) upd_same (by lia) hd⟩
end
theorem a0q {n:Nat} {k:Int} (h0:0<=k) (h1:k<(n:Int)):ixN n k=some k.toNat:=by
 unfold ixN;rw [if_pos h0,if_pos h1]
theorem a9C {α:Type} {xs:List α} {k:Int} (h0:0<=k) (h1:k<(xs.length:Int)):∃ v,v∈xs/\M2 xs k=some v:=by
 have hk:k.toNat<xs.length:=by lia
 refine ⟨xs[k.toNat],List.getElem_mem hk,?_⟩;unfold M2;rw [a0q h0 h1];exact List.getElem?_eq_getElem hk
theorem O7 {ns:List Int} {k:Int} (h0:0<=k) (h1:k<(ns.length:Int)):∃ v,v∈ns/\M2 (ns.map V.int) k=some (.int v):=by
 obtain ⟨v,hv,e⟩:=a9C (xs:=ns.map V.int) h0 (by rw [List.length_map]; exact h1);obtain ⟨n,hn,rfl⟩:=List.mem_map.mp hv;exact ⟨n,hn,e⟩
theorem map_set {ns:List Int} {j:Nat} {v:Int}:(ns.map V.int).set j (.int v)=(ns.set j v).map V.int:=by rw [List.map_set]
structure HG (far:Int) (kt kg:Nat) (h:j5):Prop where
 lt:h.1.length=kt
 lg:h.2.length=kg
 t:∀ x∈h.1,1<=x/\x<=far
 g:∀ x∈h.2,0<=x/\x<=far
 p:∃ x∈h.2,0<x
section
variable {P:Program} {w:World} {K:W.Frag} {mg:Str->Option Value} {base:Heap} {f g:Addr} {fd gd:FuncData}
def a5f (K:W.Frag):Sp:=λ vs H Q _=>∃ (v:V) (p:Addr) (far:Int) (h:j5) (ds:List Int) (kt kg:Nat),vs=[v,.ref p,.int far]/\HS K H v h/\HG far kt kg h/\1<=kt/\kt<=4/\1<=kg/\kg<=4/\1<=far ∧
 SqL K H p (ds.map V.int)/\10<=ds.length/\(∀ d∈ds,0<=d)/\∀ (r:V) (H':Hp) (h':j5),Same H H'->HS K H' r h'->HG far kt kg h'->Q r H'
theorem scNear:r8 ["house","picks","far","takes","gives","by","at"] ["house","picks","far"] (i3 a8n):=⟨rfl,rfl,rfl,by decide +kernel,rfl,by decide +kernel,by decide +kernel⟩
theorem a9Z:(["take","by"]:List Str).Nodup:=by decide +kernel
theorem a9O:(["give","by"]:List Str).Nodup:=by decide +kernel
theorem b0q {n:Nat} (F:Fun K "_law_near" "_law_near" a8n f fd) (T:w6 mg):FnOk P w K mg base G2 (n+1) f fd ["house","picks","far"] (a5f K):=by
 refine F.ok scNear (λ vs H Q E h=>?_) (λ cdv A outer s H vs Q E hr h=>?_)
 ·obtain ⟨v,p,far,h,ds,kt,kg,rfl,_⟩:=h
  rfl
 obtain ⟨v,pk,far,h,ds,kt,kg,rfl,⟨a,t,gv,rfl,h0,h1,h2⟩,hG,kt1,kt4,kg1,kg4,hfar,hP,hd12,hd0,q⟩:=h;refine ⟨_,i4 (C7 (pv 0) (K2 rfl (j4 (i8 (i:=3) scNear.nd rfl (Or.inl rfl)) (j4 (i8 (i:=4) scNear.nd rfl (Or.inl rfl)) t8))))
  (i4 (m9 (i:=5) scNear.nd rfl (Or.inr rfl) (i9 j0 (x8 (c6 c7 (c6 c7 (c6 c7 (c6 c7 h8))))) (j3 u9 (i9 j0 (pv 1) c7 (λ _ _=>rfl)) c7) (λ _ _=>rfl)))
  (p6 (x6 (p7 V8 (j3 W2 (j9 (a2x rfl) rfl T.max PyProof.Rows.boot_max (c6 (j3 a9T (pv 3) (pv 4)) h8)) (pv 5)) (pv 2) (m8 _)) (i7 (m9 (i:=5) scNear.nd rfl (Or.inr rfl) c7)) r9)
  (i4 (S5 (i:=3) ["take"] [5] scNear.nd rfl rfl rfl (X4 (pv 3)) (λ _ _ _ _=>i8 (i:=0) a9Z rfl (Or.inl rfl)) (λ _ _ _ _=>j3 W2 (pv 0) (pv 1)))
  (i4 (S5 (i:=4) ["give"] [5] scNear.nd rfl rfl rfl (X4 (pv 4)) (λ _ _ _ _=>i8 (i:=0) a9O rfl (Or.inl rfl)) (λ _ _ _ _=>j3 W2 (pv 0) (pv 1)))
  (p6 (x6 (p7 G8 (j3 u9 (j3 L8 (i9 j0 (pv 1) c7 (λ _ _=>rfl)) c7) c7) c7 (m8 _))
   (i4 (m9 (i:=6) scNear.nd rfl (Or.inl rfl) (j3 u9 (i9 j0 (pv 1) c7 (λ _ _=>rfl)) (j9 j7 rfl T.len PySem.boot_len (c6 (pv 3) h8))))
    (i7 (C7 (j9 (Y2 rfl) rfl T.min PyProof.Rows.boot_min (c6 (pv 2) (c6 (j3 C4 (j3 C4 (i9 j0 (pv 3) (pv 6) (λ _ _=>rfl)) (j3 u9 (j3 L8 (i9 j0 (pv 1) c7 (λ _ _=>rfl)) c7) c7)) c7) h8))) (M0 (pv 3) (pv 6) D6)))) r9)
  (p6 (x6 (p7 G8 (j3 u9 (j3 L8 (i9 j0 (pv 1) c7 (λ _ _=>rfl)) c7) c7) c7 (m8 _))
   (i4 (m9 (i:=6) scNear.nd rfl (Or.inl rfl) (j3 u9 (i9 j0 (pv 1) c7 (λ _ _=>rfl)) (j9 j7 rfl T.len PySem.boot_len (c6 (pv 4) h8))))
    (i7 (C7 (j9 (Y2 rfl) rfl T.min PyProof.Rows.boot_min (c6 (pv 2) (c6 (j3 C4 (i9 j0 (pv 4) (pv 6) (λ _ _=>rfl)) c7) h8))) (M0 (pv 4) (pv 6) D6)))) r9)
  (i7 (m6 (w4 (c6 (x9 O8 rfl T.tuple PyProof.Rows.boot_tuple (c6 (pv 3) h8)) (c6 (x9 O8 rfl T.tuple PyProof.Rows.boot_tuple (c6 (pv 4) h8)) h8))))))))))),?_⟩
 obtain ⟨d9,hd9,a9⟩:=O7 (ns:=ds) (k:=9) (by decide) (by lia);obtain ⟨d8,hd8,a8⟩:=O7 (ns:=ds) (k:=8) (by decide) (by lia);have p9:=hd0 d9 hd9;have p8:=hd0 d8 hd8;refine ⟨_,rfl,a,_,rfl,h0,rfl,_,_,rfl,_,_,rfl,rfl,?_⟩;refine ⟨(by show 4<=sizeLine; decide),λ lp hlp=>?_⟩;have s1:=Same.new hlp (.lst [V.int 1,V.int 1,V.int 2,V.int 3]);obtain ⟨bv,hbv,abv⟩:=O7 (ns:=[1,1,2,3]) (k:=d9 % 4) (by lia) (by show d9 % 4<4; lia);have hb:1<=bv/\bv<=3:=by
  simp at hbv;rcases hbv with rfl | rfl | rfl <;> decide
 refine ⟨_,rfl,pk,_,9,_,rfl,rfl,s1.seq hP,a9,_,_,rfl,rfl,(by show (0:Int)<4; decide),lp,_,_,_,rfl,rfl,SqL.of upd_same,abv,?_⟩;have l1:(h.1.map V.int).length=kt:=by rw [List.length_map]; exact hG.lt
 have l2:(h.2.map V.int).length=kg:=by rw [List.length_map]; exact hG.lg
 have hne:h.1++h.2≠[]:=λ z=>by
  have:=congrArg List.length z;rw [List.length_append,hG.lt] at this;simp at this;lia
 refine ⟨λ σ' H'=>∃ b:Int,σ'=[some (.ref a),some (.ref pk),some (.int far),some (.ref t),some (.ref gv),some (.int b),none]/\Same H H'/\(1<=b/\b<=3)/\∀ x∈h.1++h.2,x*b<=far,?_,?_⟩
 ·refine ⟨_,rfl,_,rfl,t,gv,_,_,rfl,rfl,s1.tseq h1,s1.tseq h2,?_,?_,?_,?_⟩
  ·intro z; rw [z] at l1; simp at l1; lia
  ·rw [l1,l2]; exact Nat.le_of_lt (j8 (by lia))
  ·intro z; rw [z] at l2; simp at l2; lia
  ·intro _ pc hpc
   have s2:=Same.new hpc (.tup (h.1.map V.int++h.2.map V.int));refine ⟨pc,h.1++h.2,rfl,.inr (SqT.of (by rw [upd_same,List.map_append])),hne,λ M hM hMx=>?_⟩;refine ⟨_,rfl,_,_,rfl,rfl,.inr ⟨by lia,by lia⟩,_,rfl,_,_,rfl,rfl,_,rfl,?_⟩;refine w8 (λ c=>?_) (λ c=>?_)
   ·refine ⟨1,rfl,s1.trans s2,by decide,λ x hx=>?_⟩
    rcases List.mem_append.mp hx with z | z
    ·have:=hG.t x z; lia
    ·have:=hG.g x z; lia
   ·have c':¬ far<M*bv:=of_decide_eq_false (Bool.eq_false_iff.mpr c)
    refine ⟨bv,rfl,s1.trans s2,hb,λ x hx=>?_⟩;have:=Int.mul_le_mul_of_nonneg_right (hMx x hx) (show 0<=bv by lia);lia
 intro σ' H2 hM_; refine A4 λ G_ hG_=>?_; obtain ⟨b,rfl,e2,hb,hbx⟩:=hM_; subst hG_;have mulok:CMul=CMul:=rfl;refine ⟨_,rfl,t,rfl,⟨_,e2.tseq h1⟩,λ tl htl=>?_⟩;refine W8 (P5 (e2.tseq h1)) htl (by rw [l1]; exact j8 (by lia)) (λ x=>.int (vI x*b)) (λ i x H' N hx e hN=>?_) ?_
 ·obtain ⟨k,rfl⟩:=O6 hx
  exact ⟨Wk.set (by decide),_,rfl,_,rfl,_,_,rfl,rfl,.inr ⟨by lia,by lia⟩,hN⟩
 have e3:=e2.write (o:=.lst ((h.1.map V.int).map λ x=>.int (vI x*b))) (e2.free htl);refine ⟨_,rfl,gv,rfl,⟨_,e3.tseq h2⟩,λ gl hgl=>?_⟩;refine W8 (P5 (e3.tseq h2)) hgl (by rw [l2]; exact j8 (by lia)) (λ x=>.int (vI x*b)) (λ i x H' N hx e hN=>?_) ?_
 ·obtain ⟨k,rfl⟩:=O6 hx
  exact ⟨Wk.set (by decide),_,rfl,_,rfl,_,_,rfl,rfl,.inr ⟨by lia,by lia⟩,hN⟩
 have eA:(h.1.map V.int).map (λ x=>V.int (vI x*b))=(h.1.map (·*b)).map V.int:=by rw [List.map_map,List.map_map]; rfl
 have eB:(h.2.map V.int).map (λ x=>V.int (vI x*b))=(h.2.map (·*b)).map V.int:=by rw [List.map_map,List.map_map]; rfl
 have ftl:H tl=none:=e2.free htl;have fgl:H gl=none:=e3.free hgl;have ne1:tl≠gl:=λ z=>by rw [<- z,upd_same] at hgl; cases hgl
 rw [eA,eB];rw [eA] at e3;have e4:=e3.write (o:=.lst ((h.2.map (·*b)).map V.int)) fgl;have at4:upd (upd H2 tl (.lst ((h.1.map (·*b)).map V.int))) gl (.lst ((h.2.map (·*b)).map V.int)) tl=some (.lst ((h.1.map (·*b)).map V.int)):=by rw [i5 ne1,upd_same]
 have ag4:upd (upd H2 tl (.lst ((h.1.map (·*b)).map V.int))) gl (.lst ((h.2.map (·*b)).map V.int)) gl=some (.lst ((h.2.map (·*b)).map V.int)):=upd_same;generalize upd (upd H2 tl (.lst ((h.1.map (·*b)).map V.int))) gl (.lst ((h.2.map (·*b)).map V.int))=H4 at e4 at4 ag4 ⊢;have tA:∀ x∈h.1.map (·*b),1<=x/\x<=far:=λ x hx=>by
  obtain ⟨y,hy,rfl⟩:=List.mem_map.mp hx;have y1:=(hG.t y hy).1;have y2:=hbx y (List.mem_append_left _ hy);have y3:=Int.mul_le_mul y1 hb.1 (by decide) (by lia);exact ⟨by simpa using y3,y2⟩
 have tB:∀ x∈h.2.map (·*b),0<=x/\x<=far:=λ x hx=>by
  obtain ⟨y,hy,rfl⟩:=List.mem_map.mp hx;exact ⟨Int.mul_nonneg (hG.g y hy).1 (by lia),hbx y (List.mem_append_right _ hy)⟩
 have tP:∃ x∈h.2.map (·*b),0<x:=by
  obtain ⟨y,hy,y0⟩:=hG.p;exact ⟨y*b,List.mem_map.mpr ⟨y,hy,rfl⟩,Int.mul_pos y0 (by lia)⟩
 have lA:(h.1.map (·*b)).length=kt:=by rw [List.length_map]; exact hG.lt
 have lB:(h.2.map (·*b)).length=kg:=by rw [List.length_map]; exact hG.lg
 generalize h.1.map (·*b)=A0 at tA lA at4;generalize h.2.map (·*b)=B0 at tB lB tP ag4;refine ⟨λ σ' H'=>∃ (A1:List Int) (ks:Option V),σ'=[some (.ref a),some (.ref pk),some (.int far),some (.ref tl),some (.ref gl),some (.int b),ks]/\Same H H'/\H' tl=some (.lst (A1.map V.int))/\H' gl=some (.lst (B0.map V.int))/\A1.length=kt/\∀ x∈A1,1<=x/\x<=far,?_,?_⟩
 ·refine ⟨_,rfl,pk,_,9,_,rfl,rfl,e4.seq hP,a9,_,_,rfl,rfl,⟨by decide,by decide⟩,_,_,rfl,rfl,(by show (0:Int)<3; decide),rfl,_,rfl,?_⟩
  refine w8 (λ c=>?_) (λ c=>⟨A0,none,rfl,e4,at4,ag4,lA,tA⟩);have lA':(A0.map V.int).length=kt:=by rw [List.length_map]; exact lA
  refine ⟨_,rfl,pk,_,8,_,rfl,rfl,e4.seq hP,a8,_,rfl,tl,_,rfl,.inl (SqL.of at4),_,_,rfl,rfl,(by show (0:Int)<((A0.map V.int).length:Int); rw [lA']; lia),?_⟩;have r0:0<=d8 % ((A0.map V.int).length:Int):=Int.emod_nonneg _ (by rw [lA']; lia);have r1:d8 % ((A0.map V.int).length:Int)<((A0.map V.int).length:Int):=Int.emod_lt_of_pos _ (by rw [lA']; lia);obtain ⟨x,hx,ax⟩:=O7 (ns:=A0) (k:=d8 % ((A0.map V.int).length:Int)) r0 (by rw [List.length_map] at r1 ⊢; exact r1);have hx1:=tA x hx;refine ⟨_,rfl,_,rfl,_,rfl,tl,_,_,_,rfl,rfl,SqL.of at4,ax,_,rfl,pk,_,9,_,rfl,rfl,e4.seq hP,a9,_,_,rfl,rfl,⟨by decide,by decide⟩,_,_,rfl,rfl,(by show (0:Int)<2; decide),_,_,rfl,rfl,_,_,rfl,rfl,_,_,rfl,?_⟩;refine ⟨_,rfl,_,rfl,tl,_,_,_,rfl,rfl,at4,a0q r0 r1,?_⟩;refine ⟨A0.set (d8 % ((A0.map V.int).length:Int)).toNat _,_,rfl,e4.write ftl,by rw [upd_same,map_set],by rw [i5 (Ne.symm ne1)]; exact ag4,by rw [List.length_set]; exact lA,λ y hy=>?_⟩;rcases List.mem_or_eq_of_mem_set hy with z | z
  ·exact tA y z
  ·rw [z]
   split <;> lia
 intro σ' H5 hM_; refine A4 λ G_ hG_=>?_; obtain ⟨A1,ks,rfl,e5,at5,ag5,lA1,tA1⟩:=hM_; subst hG_;refine ⟨λ σ' H'=>∃ (B1:List Int) (ks:Option V),σ'=[some (.ref a),some (.ref pk),some (.int far),some (.ref tl),some (.ref gl),some (.int b),ks]/\Same H H'/\H' tl=some (.lst (A1.map V.int))/\H' gl=some (.lst (B1.map V.int))/\B1.length=kg/\(∀ x∈B1,0<=x/\x<=far)/\∃ x∈B1,0<x,?_,?_⟩
 ·refine ⟨_,rfl,pk,_,9,_,rfl,rfl,e5.seq hP,a9,_,_,rfl,rfl,⟨by decide,by decide⟩,_,_,rfl,rfl,(by show (0:Int)<3; decide),rfl,_,rfl,?_⟩
  refine w8 (λ c=>?_) (λ c=>⟨B0,ks,rfl,e5,at5,ag5,lB,tB,tP⟩);have lB':(B0.map V.int).length=kg:=by rw [List.length_map]; exact lB
  refine ⟨_,rfl,pk,_,8,_,rfl,rfl,e5.seq hP,a8,_,rfl,gl,_,rfl,.inl (SqL.of ag5),_,_,rfl,rfl,(by show (0:Int)<((B0.map V.int).length:Int); rw [lB']; lia),?_⟩;have r0:0<=d8 % ((B0.map V.int).length:Int):=Int.emod_nonneg _ (by rw [lB']; lia);have r1:d8 % ((B0.map V.int).length:Int)<((B0.map V.int).length:Int):=Int.emod_lt_of_pos _ (by rw [lB']; lia);obtain ⟨x,hx,ax⟩:=O7 (ns:=B0) (k:=d8 % ((B0.map V.int).length:Int)) r0 (by rw [List.length_map] at r1 ⊢; exact r1);have hx1:=tB x hx;refine ⟨_,rfl,_,rfl,_,rfl,gl,_,_,_,rfl,rfl,SqL.of ag5,ax,_,_,rfl,rfl,_,_,rfl,?_⟩;refine ⟨_,rfl,_,rfl,gl,_,_,_,rfl,rfl,ag5,a0q r0 r1,?_⟩;have rn:(d8 % ((B0.map V.int).length:Int)).toNat<B0.length:=by rw [List.length_map] at r1 ⊢; lia
  refine ⟨B0.set (d8 % ((B0.map V.int).length:Int)).toNat _,_,rfl,e5.write fgl,by rw [i5 ne1]; exact at5,by rw [upd_same,map_set],by rw [List.length_set]; exact lB,λ y hy=>?_,_,List.mem_set rn _,?_⟩
  ·rcases List.mem_or_eq_of_mem_set hy with z | z
   ·exact tB y z
   ·rw [z]
    split <;> lia
  ·split <;> lia
 intro σ' H6 hM_; refine A4 λ G_ hG_=>?_; obtain ⟨B1,ks,rfl,e6,at6,ag6,lB1,tB1,tP1⟩:=hM_; subst hG_;refine ⟨_,rfl,tl,_,rfl,.inl ⟨SqL.of at6,λ pt hpt=>?_⟩⟩;have f1:=Same.new hpt (.tup (A1.map V.int));refine ⟨_,rfl,gl,_,rfl,.inl ⟨SqL.of (f1 _ _ ag6),λ pg hpg=>?_⟩⟩;have f2:=Same.new hpg (.tup (B1.map V.int));refine ⟨(by show 2<=sizeLine; decide),λ pr hpr=>?_⟩;have f3:=Same.new hpr (.tup [V.ref pt,V.ref pg]);exact q _ _ (A1,B1) (e6.trans (f1.trans (f2.trans f3))) ⟨pr,pt,pg,rfl,SqT.of upd_same,SqT.of (f3 _ _ (f2 _ _ upd_same)),SqT.of (f3 _ _ upd_same)⟩ ⟨lA1,lB1,tA1,tB1,tP1⟩
end
end Rim
namespace L2
open PySem
def Keep (H H':Hp):Prop:=∀ b o,H b=some o->(∀ xs,o≠.lst xs)->H' b=some o
theorem Keep.upd {H:Hp} {b:Addr} {ys:List V} {o:HO} (h:H b=some (.lst ys)):Keep H (upd H b o):=λ c u q n=>by
 have:c≠b:=λ z=>by rw [z,h] at q; exact n ys (Option.some.inj q).symm
 rw [i5 this]; exact q
theorem Keep.tseq {K:W.Frag} {H H':Hp} {a:Addr} {xs:List V} (e:Keep H H') (h:SqT K H a xs):SqT K H' a xs:=by
 rcases h with (h | ⟨o,h⟩) | h
 ·exact .inl (.inl (e _ _ h (λ _ z=>nomatch z)))
 ·exact .inl (.inr ⟨o,e _ _ h (λ _ z=>nomatch z)⟩)
 ·exact .inr h
end L2
namespace Rim
open PySem L2
theorem HS.keep {K:W.Frag} {H H':Hp} {v:V} {h:j5} (e:Keep H H') (x:HS K H v h):HS K H' v h:=by
 obtain ⟨a,t,g,h0,h1,h2,h3⟩:=x;exact ⟨a,t,g,h0,e.tseq h1,e.tseq h2,e.tseq h3⟩
theorem Bk.keep {K:W.Frag} {H H':Hp} {vs:List V} {hs:List j5} (e:Keep H H') (x:Bk K H vs hs):Bk K H' vs hs:=Paired.imp' (λ _ _ r=>HS.keep e r) x
def a8A (ns:List Int):PyData:=.tuple (ns.map PyData.int)
def a0E (h:j5):PyData:=.tuple [a8A h.1,a8A h.2]
theorem a1T {K:W.Frag} {H:Hp}:∀ ns:List Int,Dps K H (ns.map V.int) (ns.map PyData.int)
 | []=>.nil
 | n::r=>.cons (.int n) (a1T r)
theorem HS.dp {K:W.Frag} {H:Hp} {v:V} {h:j5} (x:HS K H v h):Dp K H v (a0E h):=by
 obtain ⟨a,t,g,rfl,h1,h2,h3⟩:=x;exact .tup h1 (.cons (.tup h2 (a1T _)) (.cons (.tup h3 (a1T _)) .nil))
theorem Bk.dps {K:W.Frag} {H:Hp}:∀ {vs:List V} {hs:List j5},Bk K H vs hs->Dps K H vs (hs.map a0E)
 | _,_,.nil=>.nil
 | _,_,.cons x r=>.cons x.dp (Bk.dps r)
theorem a1Q:∀ ns:List Int,PyData.canLayAll0 (ns.map PyData.int)=true
 | []=>by rw [List.map_nil,PyData.canLayAll0]
 | n::r=>by rw [List.map_cons,PyData.canLayAll0,a1Q r,PyData.canLay0]; rfl
theorem a2F (h:j5):(a0E h).canLay0=true:=by
 unfold a0E a8A;rw [PyData.canLay0,PyData.canLayAll0,PyData.canLay0,a1Q,PyData.canLayAll0,PyData.canLay0,a1Q,PyData.canLayAll0]; rfl
theorem a3P:∀ hs:List j5,PyData.canLayAll0 (hs.map a0E)=true
 | []=>by rw [List.map_nil,PyData.canLayAll0]
 | h::r=>by rw [List.map_cons,PyData.canLayAll0,a2F,a3P r]; rfl
section
variable {P:Program} {w:World} {K:W.Frag} {mg:Str->Option Value} {base:Heap} {f g:Addr} {fd gd:FuncData}
def a5U (K:W.Frag):Sp:=λ vs H Q _=>∃ (a:Addr) (ns:List Int) (at' most far:Int),vs=[.ref a,.int at',.int most,.int far]/\SqL K H a (ns.map V.int)/\0<=at'/\1<=most/\most<=900/\1<=far ∧
 ∀ (r:Addr) (H':Hp) (xs:List V) (hs:List j5) (kt kg:Nat),Same H H'->H' r=some (.lst xs)->Bk K H' xs hs->1<=hs.length->(hs.length:Int)<=most->1<=kt->kt<=4->1<=kg->kg<=4->(∀ h∈hs,HG far kt kg h)->Q (.ref r) H'
theorem scABook:r8 ["script","at","most","far","heads","kinds","many","size","book","k","picks","takes","some","gives","house"] ["script","at","most","far"] (i3 a0N):=⟨rfl,rfl,rfl,by decide +kernel,rfl,by decide +kernel,by decide +kernel⟩
theorem a6r:(["pick","size"]:List Str).Nodup:=by decide +kernel
noncomputable def abT {n:Nat} {fc fw fn:Addr} {dc dw dn:FuncData} {cdv:Value} {A:Around} {outer:List Env} {s:Shared} {H:Hp} {E:XK} (T:w6 mg)
  (Gc:FnOk P w K mg base G2 n fc dc ["script","k"] (a3z K)) (bc:Binds K dc ["script","k"] []) (kc:W.keepIn K (.ref fc)=true) (mc:mg "_law_cell_at"=some (.ref fc))
  (Gw:FnOk P w K mg base G2 n fw dw ["cell","many","base"] (a1x K)) (bw:Binds K dw ["cell","many","base"] []) (kw:W.keepIn K (.ref fw)=true) (mw:mg "_law_draws"=some (.ref fw))
  (Gn:FnOk P w K mg base G2 n fn dn ["house","picks","far"] (a5f K)) (bn:Binds K dn ["house","picks","far"] []) (kn:W.keepIn K (.ref fn)=true) (mn:mg "_law_near"=some (.ref fn))
  (hr:Room n (A.deeper (PyProof.Rows.envOfC "_law_a_book" (i3 a0N) s.heap.objs.size f cdv))) :
  { t:TS // PSs (G9 G2 P w K mg base ["script","at","most","far","heads","kinds","many","size","book","k","picks","takes","some","gives","house"] "_law_a_book" (i3 a0N) f cdv A outer s H E).nox (t9 a0N) t } :=
 ⟨_,i4 (m9 (i:=4) scABook.nd rfl (Or.inl rfl) (j6 Gw hr rfl mw kw bw .nil t6 (c6 (j6 Gc hr rfl mc kc bc .nil t6 (c6 (pv 0) (c6 (pv 1) h8))) (c6 c7 (c6 c7 h8)))))
  (p6 (m9 (i:=5) scABook.nd rfl (Or.inl rfl) (x8 (c6 (j3 C4 c7 (j3 u9 (i9 j0 (pv 4) c7 (λ _ _=>rfl)) (i9 j0 (x8 (c6 c7 (c6 c7 h8))) (j3 u9 (i9 j0 (pv 4) c7 (λ _ _=>rfl)) c7) (λ _ _=>rfl))))
   (c6 (j3 C4 c7 (j3 u9 (i9 j0 (pv 4) c7 (λ _ _=>rfl)) (i9 j0 (x8 (c6 c7 (c6 c7 h8))) (j3 u9 (i9 j0 (pv 4) c7 (λ _ _=>rfl)) c7) (λ _ _=>rfl)))) h8))))
  (p6 (m9 (i:=6) scABook.nd rfl (Or.inl rfl) (j3 C4 c7 (j3 u9 (i9 j0 (pv 4) c7 (λ _ _=>rfl)) (i9 j0 (x8 (c6 (pv 2) (c6 (j9 (Y2 rfl) rfl T.min PyProof.Rows.boot_min (c6 (pv 2) (c6 c7 h8))) h8))) (j3 L8 (j3 u9 (i9 j0 (pv 4) c7 (λ _ _=>rfl)) c7) c7) (λ _ _=>rfl)))))
  (p6 (m9 (i:=7) scABook.nd rfl (Or.inr rfl) (j9 (Y2 rfl) rfl T.min PyProof.Rows.boot_min (c6 (pv 3) (c6 (i9 j0 (x8 (c6 c7 (c6 c7 (c6 c7 (c6 c7 (c6 (j3 a0a c7 c7) h8)))))) (j3 u9 (i9 j0 (pv 4) c7 (λ _ _=>rfl)) c7) (λ _ _=>rfl)) h8))))
  (i4 (m9 (i:=8) scABook.nd rfl (Or.inl rfl) (x8 h8))
  (i4 (P7 PassesOwn.never rfl (O1 rfl T.range (c6 (pv 6) h8)) (i8 (i:=9) scABook.nd rfl (Or.inl rfl))
   (p6 (m9 (i:=10) scABook.nd rfl (Or.inl rfl) (j6 Gw hr rfl mw kw bw .nil t6 (c6 (j3 C4 (j6 Gc hr rfl mc kc bc .nil t6 (c6 (pv 0) (c6 (j3 C4 (pv 1) c7) h8))) (j3 W2 (pv 9) (j3 C4 (i9 j0 (pv 4) c7 (λ _ _=>rfl)) c7))) (c6 c7 (c6 (j3 a0a c7 c7) h8)))))
   (p6 (m9 (i:=11) scABook.nd rfl (Or.inl rfl) (x9 O8 rfl T.tuple PyProof.Rows.boot_tuple (c6 (J9 ["pick"] [7] rfl (A5 (D9 J7 (pv 10) O9 (D2 (i9 j0 (pv 5) c7 (λ _ _=>rfl))))) (λ _ _ _ _=>i8 (i:=0) a6r rfl (Or.inl rfl)) (λ _ _ _ _=>j3 C4 c7 (j3 u9 (pv 0) (pv 1)))) h8)))
   (i4 (m9 (i:=12) scABook.nd rfl (Or.inl rfl) (D9 J7 (pv 10) (D2 c7) (D2 (j3 C4 c7 (i9 j0 (pv 5) c7 (λ _ _=>rfl))))))
   (p6 (S5 (i:=13) ["pick"] [7] scABook.nd rfl rfl rfl (A5 (pv 12)) (λ _ _ _ _=>i8 (i:=0) a6r rfl (Or.inl rfl)) (λ _ _ _ _=>j3 W2 (j3 u9 (pv 0) (j3 C4 (pv 1) c7)) (x9 a2K rfl T.int PyProof.Rows.boot_int (c6 (C2 V8 (j3 u9 (pv 0) c7) c7 (m8 _)) h8))))
   (p6 (x6 (p7 G8 (j9 (a2x rfl) rfl T.max PyProof.Rows.boot_max (c6 (pv 13) h8)) c7 (m8 _)) (i7 (C7 (j3 C4 c7 (j3 u9 (i9 j0 (pv 10) c7 (λ _ _=>rfl)) (pv 7))) (M0 (pv 13) (j3 u9 (i9 j0 (pv 10) c7 (λ _ _=>rfl)) (i9 j0 (pv 5) c7 (λ _ _=>rfl))) D6))) r9)
   (p6 (m9 (i:=14) scABook.nd rfl (Or.inl rfl) (w4 (c6 (pv 11) (c6 (x9 O8 rfl T.tuple PyProof.Rows.boot_tuple (c6 (pv 13) h8)) h8))))
   (p6 (x6 (PW.pt (W5 (p7 (Z8 hr) (pv 8) (x8 h8) (m8 _)) (S4 (p7 G8 (j3 u9 (i9 j0 (pv 10) c7 (λ _ _=>rfl)) c7) c7 (m8 _)))))
    (i7 (m9 (i:=14) scABook.nd rfl (Or.inl rfl) (j6 Gn hr rfl mn kn bn .nil t6 (c6 (i9 j0 (pv 8) (j3 u9 (i9 j0 (pv 10) c7 (λ _ _=>rfl)) (j9 j7 rfl T.len PySem.boot_len (c6 (pv 8) h8))) (λ _ _=>rfl)) (c6 (pv 10) (c6 (pv 3) h8)))))) r9)
   (i7 (Q1 (a1Z PySem.F.plainAttrs_list PySem.F.slot_list_append PySem.F.type_list_append O5 (pv 8) (c6 (pv 14) h8))))))))))))
  (i7 (m6 (pv 8))))))))⟩
end
section
variable {P:Program} {w:World} {K:W.Frag} {mg:Str->Option Value} {base:Heap} {f g:Addr} {fd gd:FuncData}
theorem a8D {n:Nat} {fc fw fn:Addr} {dc dw dn:FuncData} (F:Fun K "_law_a_book" "_law_a_book" a0N f fd) (T:w6 mg)
  (Gc:FnOk P w K mg base G2 n fc dc ["script","k"] (a3z K)) (bc:Binds K dc ["script","k"] []) (kc:W.keepIn K (.ref fc)=true) (mc:mg "_law_cell_at"=some (.ref fc))
  (Gw:FnOk P w K mg base G2 n fw dw ["cell","many","base"] (a1x K)) (bw:Binds K dw ["cell","many","base"] []) (kw:W.keepIn K (.ref fw)=true) (mw:mg "_law_draws"=some (.ref fw))
  (Gn:FnOk P w K mg base G2 n fn dn ["house","picks","far"] (a5f K)) (bn:Binds K dn ["house","picks","far"] []) (kn:W.keepIn K (.ref fn)=true) (mn:mg "_law_near"=some (.ref fn)) :
  FnOk P w K mg base G2 (n+1) f fd ["script","at","most","far"] (a5U K):=by
 refine F.ok scABook (λ vs H Q E h=>?_) (λ cdv A outer s H vs Q E hr h=>?_)
 ·obtain ⟨a,ns,at',most,far,rfl,_⟩:=h
  rfl
 obtain ⟨a,ns,at',most,far,rfl,hS,hat,hm1,hm2,hfar,q⟩:=h;refine ⟨_,(abT T Gc bc kc mc Gw bw kw mw Gn bn kn mn hr).2,?_⟩;refine ⟨_,rfl,_,rfl,a,ns,at',rfl,hS,hat,λ c=>⟨c,8,1000,rfl,by decide,by decide,by decide,λ hl H1 hd e1 hH1 hlen hb=>?_⟩⟩;have hd':∀ k:Int,0<=k->k<8->∃ v,v∈hd/\M2 (hd.map V.int) k=some (.int v):=λ k k0 k1=>O7 k0 (by lia);obtain ⟨x0,m0,a0⟩:=hd' 0 (by decide) (by decide);obtain ⟨x1,m1,a1⟩:=hd' 1 (by decide) (by decide);obtain ⟨x2,m2,a2⟩:=hd' 2 (by decide) (by decide);obtain ⟨x3,m3,a3⟩:=hd' 3 (by decide) (by decide);obtain ⟨x4,m4,a4⟩:=hd' 4 (by decide) (by decide);obtain ⟨x5,m5,a5⟩:=hd' 5 (by decide) (by decide);obtain ⟨x7,m7,a7⟩:=hd' 7 (by decide) (by decide);have b0:=hb x0 m0; have b1:=hb x1 m1; have b2:=hb x2 m2; have b3:=hb x3 m3; have b4:=hb x4 m4; have b5:=hb x5 m5; have b7:=hb x7 m7;refine ⟨λ σ' H'=>∃ (kl:Addr) (kt kg:Nat),σ'=[some (.ref a),some (.int at'),some (.int most),some (.int far),some (.ref hl),some (.ref kl),none,none,none,none,none,none,none,none,none]/\Same H1 H'/\H' kl=some (.lst [.int (kt:Int),.int (kg:Int)])/\1<=kt/\kt<=4/\1<=kg/\kg<=4,?_,?_⟩
 ·have two:∀ y:Int,0<=y->∃ z:Int,(z=4\/z=2)/\M2 [V.int 4,V.int 2] (y % 2)=some (.int z):=λ y hy=>by
   obtain ⟨z,hz,az⟩:=O7 (ns:=[4,2]) (k:=y % 2) (by lia) (by show y % 2<2; lia);exact ⟨z,by simpa using hz,az⟩
  obtain ⟨z1,hz1,az1⟩:=two x2 b2.1;refine ⟨_,rfl,hl,_,0,_,rfl,rfl,SqL.of hH1,a0,(by show 2<=sizeLine; decide),λ l1 hl1=>?_⟩;have s1:=Same.new hl1 (.lst [V.int 4,V.int 2]);refine ⟨_,rfl,hl,_,2,_,rfl,rfl,SqL.of (s1 _ _ hH1),a2,_,_,rfl,rfl,(by show (0:Int)<2; decide),l1,_,_,_,rfl,rfl,SqL.of upd_same,az1,_,_,rfl,rfl,(by show (0:Int)<z1; lia),_,_,rfl,rfl,?_⟩;refine ⟨_,rfl,hl,_,1,_,rfl,rfl,SqL.of (s1 _ _ hH1),a1,(by show 2<=sizeLine; decide),λ l2 hl2=>?_⟩;have s2:=Same.new hl2 (.lst [V.int 4,V.int 2]);refine ⟨_,rfl,hl,_,2,_,rfl,rfl,SqL.of (s2 _ _ (s1 _ _ hH1)),a2,_,_,rfl,rfl,(by show (0:Int)<2; decide),l2,_,_,_,rfl,rfl,SqL.of upd_same,az1,_,_,rfl,rfl,(by show (0:Int)<z1; lia),_,_,rfl,rfl,?_⟩;refine ⟨(by show 2<=sizeLine; decide),λ kl hkl=>?_⟩;have s3:=Same.new hkl (.lst [V.int (1+x0 % z1),V.int (1+x1 % z1)]);have p0:0<=x0 % z1/\x0 % z1<z1:=⟨Int.emod_nonneg _ (by lia),Int.emod_lt_of_pos _ (by lia)⟩;have p1:0<=x1 % z1/\x1 % z1<z1:=⟨Int.emod_nonneg _ (by lia),Int.emod_lt_of_pos _ (by lia)⟩;refine ⟨kl,(1+x0 % z1).toNat,(1+x1 % z1).toNat,rfl,s1.trans (s2.trans s3),?_,by lia,by lia,by lia,by lia⟩;rw [upd_same,Int.toNat_of_nonneg (by lia),Int.toNat_of_nonneg (by lia)]
 intro σ' H2 hM_; refine A4 λ G_ hG_=>?_; obtain ⟨kl,kt,kg,rfl,e2,hkl,kt1,kt4,kg1,kg4⟩:=hM_; subst hG_;have hh2:=e2 _ _ hH1;refine ⟨λ σ' H'=>∃ (many:Nat),σ'=[some (.ref a),some (.int at'),some (.int most),some (.int far),some (.ref hl),some (.ref kl),some (.int (many:Int)),none,none,none,none,none,none,none,none]/\Same H2 H'/\1<=many/\(many:Int)<=most,?_,?_⟩
 ·refine ⟨_,rfl,hl,_,3,_,rfl,rfl,SqL.of hh2,a3,_,rfl,_,rfl,_,_,rfl,(by show 2<=sizeLine; decide),λ l1 hl1=>?_⟩
  have s1:=Same.new hl1 (.lst [V.int most,V.int (if 4<most then 4 else most)]);obtain ⟨z,hz,az⟩:=O7 (ns:=[most,if 4<most then 4 else most]) (k:=x4 % 3 / 2) (by lia) (by show x4 % 3 / 2<2; lia);have hz':1<=z/\z<=most:=by
   simp only [List.mem_cons,List.not_mem_nil,or_false] at hz;rcases hz with rfl | rfl
   ·lia
   ·split <;> lia
  refine ⟨_,rfl,hl,_,4,_,rfl,rfl,SqL.of (s1 _ _ hh2),a4,_,_,rfl,rfl,(by show (0:Int)<3; decide),_,_,rfl,rfl,⟨by decide,by decide⟩,l1,_,_,_,rfl,rfl,SqL.of upd_same,az,_,_,rfl,rfl,(by show (0:Int)<z; lia),_,_,rfl,rfl,?_⟩;have p0:0<=x3 % z/\x3 % z<z:=⟨Int.emod_nonneg _ (by lia),Int.emod_lt_of_pos _ (by lia)⟩;refine ⟨(1+x3 % z).toNat,?_,s1,by lia,by lia⟩;rw [Int.toNat_of_nonneg (by lia)];rfl
 intro σ' H3 hM_; refine A4 λ G_ hG_=>?_; obtain ⟨many,rfl,e3,mn1,mn2⟩:=hM_; subst hG_;have hh3:=e3 _ _ hh2;have hk3:=e3 _ _ hkl;refine ⟨λ σ' H'=>∃ (size:Int),σ'=[some (.ref a),some (.int at'),some (.int most),some (.int far),some (.ref hl),some (.ref kl),some (.int (many:Int)),some (.int size),none,none,none,none,none,none,none]/\Same H3 H'/\1<=size/\size<=far/\size<=1000000000,?_,?_⟩
 ·refine ⟨_,rfl,_,_,rfl,rfl,⟨by decide,by decide,by decide⟩,(by show 5<=sizeLine; decide),λ l1 hl1=>?_⟩
  have s1:=Same.new hl1 (.lst [V.int 4,V.int 9,V.int 50,V.int 1000,V.int (10 ^ (9:Int).toNat)]);obtain ⟨z,hz,az⟩:=O7 (ns:=[4,9,50,1000,10 ^ (9:Int).toNat]) (k:=x5 % 5) (by lia) (by show x5 % 5<5; lia);have hz':1<=z/\z<=1000000000:=by
   have e9:(10:Int) ^ (9:Int).toNat=1000000000:=by decide
   rw [e9] at hz;simp only [List.mem_cons,List.not_mem_nil,or_false] at hz;rcases hz with rfl | rfl | rfl | rfl | rfl <;> decide
  refine ⟨_,rfl,hl,_,5,_,rfl,rfl,SqL.of (s1 _ _ hh3),a5,_,_,rfl,rfl,(by show (0:Int)<5; decide),l1,_,_,_,rfl,rfl,SqL.of upd_same,az,_,_,rfl,?_⟩;refine ⟨_,rfl,s1,?_,?_,?_⟩ <;> (split <;> lia)
 intro σ' H4 hM_; refine A4 λ G_ hG_=>?_; obtain ⟨size,rfl,e4,sz1,szf,sz9⟩:=hM_; subst hG_;have hh4:=e4 _ _ hh3;have hk4:=e4 _ _ hk3;have e14:Same H H4:=e1.trans (e2.trans (e3.trans e4));refine ⟨(by show 0<=sizeLine; decide),λ bl hbl=>?_⟩;refine ⟨_,rfl,(many:Int),rfl,by lia,by lia,?_⟩;rw [Int.toNat_natCast];refine T9 (n:=many) (λ i σ H'=>∃ (xs:List V) (hs:List j5) (o9 o10 o11 o12 o13 o14:Option V),σ=[some (.ref a),some (.int at'),some (.int most),some (.int far),some (.ref hl),some (.ref kl),some (.int (many:Int)),some (.int size),some (.ref bl),o9,o10,o11,o12,o13,o14] ∧
   Same H4 H'/\H' bl=some (.lst xs)/\Bk K H' xs hs/\hs.length=i/\∀ h∈hs,HG far kt kg h)
  ⟨[],[],_,_,_,_,_,_,rfl,Same.new hbl _,upd_same,.nil,rfl,λ h hh=>(by cases hh)⟩ ?_ ?_
 ·rintro i σ H5 hi ⟨xs,hs,o9,o10,o11,o12,o13,o14,rfl,e5,hb5,hB,hlen5,hG⟩
  have hh5:=e5 _ _ hh4;have hk5:=e5 _ _ hk4;have xlen:xs.length=hs.length:=Paired.length hB;have ak0:M2 [V.int (kt:Int),V.int (kg:Int)] 0=some (.int (kt:Int)):=r6 (j:=0) rfl;have ak1:M2 [V.int (kt:Int),V.int (kg:Int)] 1=some (.int (kg:Int)):=r6 (j:=1) rfl;refine ⟨λ σ' H'=>∃ (pl:Addr) (ds:List Int),σ'=[some (.ref a),some (.int at'),some (.int most),some (.int far),some (.ref hl),some (.ref kl),some (.int (many:Int)),some (.int size),some (.ref bl),some (.int (0+(i:Int))),some (.ref pl),o11,o12,o13,o14]/\Same H5 H'/\H' pl=some (.lst (ds.map V.int))/\ds.length=12/\∀ d∈ds,0<=d,?_,?_⟩
  ·refine ⟨_,rfl,_,rfl,_,_,rfl,rfl,a,ns,at'+1,rfl,(e14.trans e5).seq hS,by lia,λ c=>?_⟩
   refine ⟨_,rfl,_,rfl,hl,_,7,_,rfl,rfl,SqL.of hh5,a7,_,_,rfl,rfl,_,_,rfl,rfl,.inl ⟨by lia,by lia⟩,_,_,rfl,rfl,_,_,rfl,rfl,⟨by decide,by decide,by decide⟩,?_⟩;exact ⟨_,12,_,rfl,by decide,by decide,by decide,λ pl H6 ds e6 hp6 l6 d6=>⟨pl,ds,rfl,e6,hp6,l6,λ d hd=>(d6 d hd).1⟩⟩
  intro σ' H6 hM_; refine A4 λ G_ hG_=>?_; obtain ⟨pl,ds,rfl,e6,hp6,l6,d6⟩:=hM_; subst hG_;have hh6:=e6 _ _ hh5;have hk6:=e6 _ _ hk5;have hb6:=e6 _ _ hb5;have pk:∀ k:Int,0<=k->k<12->∃ v,v∈ds/\M2 (ds.map V.int) k=some (.int v):=λ k k0 k1=>O7 k0 (by lia);obtain ⟨y8,n8,c8⟩:=pk 8 (by decide) (by decide);obtain ⟨y9,n9,c9⟩:=pk 9 (by decide) (by decide);obtain ⟨y10,n10,c10⟩:=pk 10 (by decide) (by decide);obtain ⟨y11,n11,c11⟩:=pk 11 (by decide) (by decide);have g8:=d6 _ n8; have g9:=d6 _ n9; have g10:=d6 _ n10; have g11:=d6 _ n11;have dl:(ds.map V.int).length=12:=by rw [List.length_map]; exact l6
  refine ⟨λ σ' H'=>∃ (tp:Addr) (At:List Int),σ'=[some (.ref a),some (.int at'),some (.int most),some (.int far),some (.ref hl),some (.ref kl),some (.int (many:Int)),some (.int size),some (.ref bl),some (.int (0+(i:Int))),some (.ref pl),some (.ref tp),o12,o13,o14]/\Same H6 H'/\H' tp=some (.tup (At.map V.int))/\At.length=kt/\∀ x∈At,1<=x/\x<=far,?_,?_⟩
  ·have ec:E5 (ds.map V.int) none (some (kt:Int))=(ds.take kt).map V.int:=by
    unfold E5;rw [HT.sIx_none,HT.sIx_nat,dl,List.drop_zero,List.map_take]
    congr 1
    lia
   refine ⟨_,rfl,_,rfl,kl,_,0,_,rfl,rfl,SqL.of hk6,ak0,_,rfl,pl,_,rfl,SqL.of hp6,λ cp hcp=>?_⟩;rw [ec];have s1:=Same.new hcp (.lst ((ds.take kt).map V.int));refine ⟨cp,rfl,⟨_,SqL.of upd_same⟩,λ lp hlp=>?_⟩;refine W8 (v6 (SqL.of upd_same)) hlp (by rw [List.length_map,List.length_take]; exact j8 (by lia)) (λ x=>.int (1+vI x % size)) (λ j x H' N hx e hN=>?_) ?_
   ·obtain ⟨k,rfl⟩:=O6 hx
    exact ⟨Wk.set (by decide),_,rfl,_,rfl,_,_,rfl,rfl,(by show (0:Int)<size; lia),_,_,rfl,rfl,hN⟩
   ·have eA:((ds.take kt).map V.int).map (λ x=>V.int (1+vI x % size))=((ds.take kt).map λ d=>1+d % size).map V.int:=by rw [List.map_map,List.map_map]; rfl
    rw [eA];have s2:=Same.new hlp (.lst (((ds.take kt).map λ d=>1+d % size).map V.int));refine ⟨lp,_,rfl,.inl ⟨SqL.of upd_same,λ tp htp=>?_⟩⟩;refine ⟨tp,(ds.take kt).map λ d=>1+d % size,rfl,s1.trans (s2.trans (Same.new htp _)),upd_same,by rw [List.length_map,List.length_take]; lia,λ x hx=>?_⟩;obtain ⟨d,_,rfl⟩:=List.mem_map.mp hx;have p0:0<=d % size/\d % size<size:=⟨Int.emod_nonneg _ (by lia),Int.emod_lt_of_pos _ (by lia)⟩;lia
  intro σ' H7 hM_; refine A4 λ G_ hG_=>?_; obtain ⟨tp,At,rfl,e7,ht7,lAt,tAt⟩:=hM_; subst hG_;have hp7:=e7 _ _ hp6;have hk7:=e7 _ _ hk6;have hb7:=e7 _ _ hb6;have ec:E5 (ds.map V.int) (some 4) (some (4+(kg:Int)))=((ds.drop 4).take kg).map V.int:=by
   unfold E5;have z1:HT.sIx (ds.map V.int).length 0 (some 4)=4:=by
    have:=HT.sIx_nat (ds.map V.int).length 0 4;rw [dl] at this ⊢;exact this
   have z2:HT.sIx (ds.map V.int).length (ds.map V.int).length (some (4+(kg:Int)))=4+kg:=by
    have:=HT.sIx_nat (ds.map V.int).length (ds.map V.int).length (4+kg);rw [dl] at this ⊢;rw [show (4:Int)+(kg:Int)=((4+kg:Nat):Int) by lia,this];lia
   rw [z1,z2,List.map_take,List.map_drop]
   congr 1
   lia
  refine ⟨_,rfl,_,rfl,_,rfl,kl,_,1,_,rfl,rfl,SqL.of hk7,ak1,_,_,rfl,rfl,_,rfl,pl,_,rfl,SqL.of hp7,λ sp hsp=>?_⟩;rw [ec];have s7:=Same.new hsp (.lst (((ds.drop 4).take kg).map V.int));refine ⟨λ σ' H'=>∃ (gp:Addr) (Bs:List Int) (o12:Option V),σ'=[some (.ref a),some (.int at'),some (.int most),some (.int far),some (.ref hl),some (.ref kl),some (.int (many:Int)),some (.int size),some (.ref bl),some (.int (0+(i:Int))),some (.ref pl),some (.ref tp),o12,some (.ref gp),o14]/\Same H7 H'/\H7 gp=none/\H' gp=some (.lst (Bs.map V.int))/\Bs.length=kg/\∀ x∈Bs,0<=x/\x<=far,?_,?_⟩
  ·refine ⟨_,rfl,sp,rfl,⟨_,SqL.of upd_same⟩,λ gp hgp=>?_⟩
   refine W8 (v6 (SqL.of upd_same)) hgp (by rw [List.length_map,List.length_take]; exact j8 (by lia)) (λ x=>.int (vI x % (size+1)*(if decide (0<vI x % 7)=true then 1 else 0))) (λ j x H' N hx e hN=>?_) ?_
   ·obtain ⟨k,rfl⟩:=O6 hx
    refine ⟨Wk.set (by decide),_,rfl,_,rfl,_,_,rfl,rfl,_,_,rfl,rfl,(by show (0:Int)<size+1; lia),_,rfl,_,_,rfl,rfl,(by show (0:Int)<7; decide),_,_,rfl,rfl,.inr ⟨_,rfl,_,_,rfl,rfl,.inr ?_,hN⟩⟩;constructor <;> (split <;> decide)
   ·have eB:(((ds.drop 4).take kg).map V.int).map (λ x=>V.int (vI x % (size+1)*(if decide (0<vI x % 7)=true then 1 else 0)))=(((ds.drop 4).take kg).map λ d=>d % (size+1)*(if decide (0<d % 7)=true then 1 else 0)).map V.int:=by rw [List.map_map,List.map_map]; rfl
    rw [eB];refine ⟨gp,_,_,rfl,s7.trans (Same.new hgp _),s7.free hgp,upd_same,by rw [List.length_map,List.length_take,List.length_drop]; lia,λ x hx=>?_⟩;obtain ⟨d,_,rfl⟩:=List.mem_map.mp hx;have p0:0<=d % (size+1)/\d % (size+1)<size+1:=⟨Int.emod_nonneg _ (by lia),Int.emod_lt_of_pos _ (by lia)⟩
    split <;> lia
  intro σ' H8 hM_; refine A4 λ G_ hG_=>?_; obtain ⟨gp,Bs,o12',rfl,e8,f8,hg8,lBs,tBs⟩:=hM_; subst hG_;have hp8:=e8 _ _ hp7;have hk8:=e8 _ _ hk7;have lB':(Bs.map V.int).length=kg:=by rw [List.length_map]; exact lBs
  refine ⟨λ σ' H'=>∃ (Bs:List Int) (o12:Option V),σ'=[some (.ref a),some (.int at'),some (.int most),some (.int far),some (.ref hl),some (.ref kl),some (.int (many:Int)),some (.int size),some (.ref bl),some (.int (0+(i:Int))),some (.ref pl),some (.ref tp),o12,some (.ref gp),o14]/\Same H7 H'/\H' gp=some (.lst (Bs.map V.int))/\Bs.length=kg/\(∀ x∈Bs,0<=x/\x<=far)/\∃ x∈Bs,0<x,?_,?_⟩
  ·refine ⟨_,rfl,gp,Bs,rfl,.inl (SqL.of hg8),(λ z=>by rw [z] at lBs; simp at lBs; lia),λ M hM hMx=>⟨rfl,_,rfl,?_⟩⟩
   refine w8 (λ c=>?_) (λ c=>?_)
   ·refine ⟨_,rfl,pl,_,9,_,rfl,rfl,SqL.of hp8,c9,_,rfl,_,_,rfl,rfl,(by show (0:Int)<size; lia),_,_,rfl,rfl,?_⟩
    refine ⟨_,rfl,_,rfl,pl,_,8,_,rfl,rfl,SqL.of hp8,c8,_,rfl,kl,_,1,_,rfl,rfl,SqL.of hk8,ak1,_,_,rfl,rfl,(by show (0:Int)<(kg:Int); lia),?_⟩;have r0:0<=y8 % (kg:Int):=Int.emod_nonneg _ (by lia);have r1:y8 % (kg:Int)<((Bs.map V.int).length:Int):=by rw [lB']; exact Int.emod_lt_of_pos _ (by lia)
    have rn:(y8 % (kg:Int)).toNat<Bs.length:=by rw [lB'] at r1; lia
    have p0:0<=y9 % size/\y9 % size<size:=⟨Int.emod_nonneg _ (by lia),Int.emod_lt_of_pos _ (by lia)⟩;refine ⟨gp,_,_,_,rfl,rfl,hg8,a0q r0 r1,?_⟩;refine ⟨Bs.set (y8 % (kg:Int)).toNat _,_,rfl,e8.write f8,by rw [upd_same,map_set],by rw [List.length_set]; exact lBs,λ x hx=>?_,_,List.mem_set rn _,by lia⟩;rcases List.mem_or_eq_of_mem_set hx with z | z
    ·exact tBs x z
    ·lia
   ·have c':¬ M=0:=λ z=>c (decide_eq_true (by rw [z]))
    have:=tBs M hM;exact ⟨Bs,_,rfl,e8,hg8,lBs,tBs,M,hM,by lia⟩
  intro σ' H9 hM_; refine A4 λ G_ hG_=>?_; obtain ⟨Bt,o12'',rfl,e9,hg9,lBt,tBt,tPt⟩:=hM_; subst hG_;refine ⟨λ σ' H'=>∃ (v:V) (h:j5) (o12:Option V),σ'=[some (.ref a),some (.int at'),some (.int most),some (.int far),some (.ref hl),some (.ref kl),some (.int (many:Int)),some (.int size),some (.ref bl),some (.int (0+(i:Int))),some (.ref pl),some (.ref tp),o12,some (.ref gp),some v]/\Same H7 H'/\HS K H' v h/\HG far kt kg h,?_,?_⟩
  ·refine ⟨_,rfl,_,rfl,gp,_,rfl,.inl ⟨SqL.of hg9,λ pg hpg=>?_⟩⟩
   have f1:=Same.new hpg (.tup (Bt.map V.int));refine ⟨(by show 2<=sizeLine; decide),λ pr hpr=>?_⟩;have f2:=Same.new hpr (.tup [V.ref tp,V.ref pg]);exact ⟨_,(At,Bt),_,rfl,e9.trans (f1.trans f2),⟨pr,tp,pg,rfl,SqT.of upd_same,SqT.of (f2 _ _ (f1 _ _ (e9 _ _ ht7))),SqT.of (f2 _ _ upd_same)⟩,⟨lAt,lBt,tAt,tBt,tPt⟩⟩
  intro σ' H10 hM_; refine A4 λ G_ hG_=>?_; obtain ⟨v,h,o12'',rfl,e10,hv,hvG⟩:=hM_; subst hG_;have e57:Same H5 H7:=e6.trans e7;have e510:Same H5 H10:=e57.trans e10;refine ⟨λ σ' H'=>∃ (v:V) (h:j5) (o12:Option V),σ'=[some (.ref a),some (.int at'),some (.int most),some (.int far),some (.ref hl),some (.ref kl),some (.int (many:Int)),some (.int size),some (.ref bl),some (.int (0+(i:Int))),some (.ref pl),some (.ref tp),o12,some (.ref gp),some v]/\Same H5 H'/\HS K H' v h/\HG far kt kg h,?_,?_⟩
  ·refine ⟨_,rfl,(by show 0<=sizeLine; decide),λ ep hep=>?_⟩
   have f1:=Same.new hep (.lst []);have e511:=e510.trans f1;refine ⟨.list (hs.map a0E),.list [],.lst (SqL.of (e511 _ _ hb5)) (Bk.dps (Bk.same e511 hB)),.lst (SqL.of upd_same) .nil,a3P hs,rfl,Nat.le_trans (Nat.min_le_right _ _) (by decide),_,rfl,?_⟩;refine w8 (λ c=>?_) (λ c=>a0t ⟨v,h,_,rfl,e511,hv.same f1,hvG⟩);have hpos:0<hs.length:=by
    cases hs with
    | nil=>exact absurd c (by simp [PyData.eqv,PyData.eqvAll])
    | cons _ _=>simp
   have hp11:upd H10 ep (.lst []) pl=some (.lst (ds.map V.int)):=f1 _ _ (e10 _ _ hp7);have hb11:=e511 _ _ hb5;refine ⟨_,rfl,pl,_,10,_,rfl,rfl,SqL.of hp11,c10,_,_,rfl,rfl,(by show (0:Int)<4; decide),rfl,_,rfl,?_⟩;refine w8 (λ c=>?_) (λ c=>⟨v,h,_,rfl,e511,hv.same f1,hvG⟩);have r0:0<=y11 % (xs.length:Int):=Int.emod_nonneg _ (by lia);have r1:y11 % (xs.length:Int)<(xs.length:Int):=Int.emod_lt_of_pos _ (by lia);have hk:(y11 % (xs.length:Int)).toNat<xs.length:=by lia
   have ax:M2 xs (y11 % (xs.length:Int))=some xs[(y11 % (xs.length:Int)).toNat]:=by
    unfold M2;rw [a0q r0 r1];exact List.getElem?_eq_getElem hk
   obtain ⟨h',hh',hs'⟩:=Paired.at hB (List.getElem?_eq_getElem hk);refine ⟨_,rfl,_,rfl,pl,_,11,_,rfl,rfl,SqL.of hp11,c11,_,rfl,bl,_,rfl,.inl (SqL.of hb11),_,_,rfl,rfl,(by show (0:Int)<(xs.length:Int); lia),bl,_,_,_,rfl,rfl,SqL.of hb11,ax,_,rfl,_,rfl,?_⟩;refine ⟨_,pl,far,h',ds,kt,kg,rfl,hs'.same e511,hG h' (List.mem_of_getElem? hh'),kt1,kt4,kg1,kg4,hfar,SqL.of hp11,(by omega),d6,λ r H12 h'' e12 hs'' hg''=>⟨r,h'',_,rfl,e511.trans e12,hs'',hg''⟩⟩
  intro σ' H11 hM_; refine A4 λ G_ hG_=>?_; obtain ⟨v,h,o12'',rfl,e11,hv,hvG⟩:=hM_; subst hG_;have hb11:=e11 _ _ hb5;refine ⟨_,rfl,.inl ⟨rfl,_,SqL.of hb11⟩,_,rfl,bl,xs,v,rfl,rfl,hb11,j8 (by lia),?_⟩;have kp:Keep H11 (upd H11 bl (.lst (xs++[v]))):=Keep.upd hb11;refine ⟨xs++[v],hs++[h],_,_,_,_,_,_,rfl,(e5.trans e11).write hbl,upd_same,Paired.app (Bk.keep kp (Bk.same e11 hB)) (.cons (HS.keep kp hv) .nil),by rw [List.length_append,hlen5]; rfl,λ h' hm=>?_⟩;rcases List.mem_append.mp hm with z | z
  ·exact hG h' z
  ·rw [List.mem_singleton.mp z]; exact hvG
 ·intro σ H' hM_; refine A4 λ G_ hG_=>?_; obtain ⟨xs,hs,o9,o10,o11,o12,o13,o14,rfl,e5,hb5,hB,hlen5,hG⟩:=hM_; subst hG_
  exact ⟨_,rfl,q bl H' xs hs kt kg (e14.trans e5) hb5 hB (by lia) (by lia) kt1 kt4 kg1 kg4 hG⟩
end
end Rim
namespace Rim
open PySem L2 Fr
def b4J (K:W.Frag):List V->Hp->VK->Prop:=λ vs H Q=>∃ (a:Addr) (ns:List Int),vs=[.ref a]/\SqA K H a (ns.map V.int)/\Q (.int ns.sum) H
theorem a5z (K:W.Frag) {X:Cx} (h:X.K=K) (hc:X.calm=true):N6 X (.builtin "sum") (b4J K):=by subst h; exact a1R hc
theorem X3 (K:W.Frag) {X:Cx} (h:X.K=K):IxR X (b3u K):=by subst h; exact t5
def FrV (K:W.Frag) (H:Hp) (v:V) (f:Q2):Prop:=∃ a,v=.ref a/\SqT K H a [.int f.1,.int f.2]
def FrT (H:Hp) (v:V) (f:Q2):Prop:=∃ a,v=.ref a/\H a=some (.tup [.int f.1,.int f.2])
theorem FrT.v {K:W.Frag} {H:Hp} {v:V} {f:Q2} (h:FrT H v f):FrV K H v f:=by
 obtain ⟨a,e,q⟩:=h;exact ⟨a,e,SqT.of q⟩
theorem FrT.same {H H':Hp} {v:V} {f:Q2} (e:Same H H') (h:FrT H v f):FrT H' v f:=by
 obtain ⟨a,z,q⟩:=h;exact ⟨a,z,e _ _ q⟩
theorem FrV.same {K:W.Frag} {H H':Hp} {v:V} {f:Q2} (e:Same H H') (h:FrV K H v f):FrV K H' v f:=by
 obtain ⟨a,z,q⟩:=h;exact ⟨a,z,e.tseq q⟩
section
variable {P:Program} {w:World} {K:W.Frag} {mg:Str->Option Value} {base:Heap} {f g:Addr} {fd gd:FuncData}
structure X7 (P:Program) (w:World) (K:W.Frag) (mg:Str->Option Value) (base:Heap) (n:Nat) (x:Str) (ps:List Str) (sp:Sp) (fa:Addr) (d:FuncData):Prop where
 ok:FnOk P w K mg base G2 n fa d ps sp
 b:Binds K d ps []
 k:W.keepIn K (.ref fa)=true
 m:mg x=some (.ref fa)
def a8u:Sp:=λ vs H Q _=>∃ a b:Int,vs=[.int a,.int b]/\0<=b/\Q (.int (gI a b)) H
theorem scDiv:r8 ["one","other"] ["one","other"] (i3 b1J):=⟨rfl,rfl,rfl,by decide +kernel,rfl,by decide +kernel,by decide +kernel⟩
theorem scCommon:r8 ["one","other"] ["one","other"] (i3 a3r):=⟨rfl,rfl,rfl,by decide +kernel,rfl,by decide +kernel,by decide +kernel⟩
def b2z:St->Nat:=λ σ=>match σ with | [_,some (.int y)]=>y.toNat | _=>0
theorem b2i (x:Int):(if x<0 then -x else x)=gI x 0:=by
 rw [a6w]
 split <;> lia
theorem b1Q {n:Nat} (F:Fun K "common_divisor" "common_divisor" b1J f fd) (T:w6 mg):FnOk P w K mg base G2 (n+1) f fd ["one","other"] a8u:=by
 refine F.ok scDiv (λ vs H Q E h=>?_) (λ cdv A outer s H vs Q E hr h=>?_)
 ·obtain ⟨a,b,rfl,_⟩:=h
  rfl
 obtain ⟨a,b,rfl,hb,q⟩:=h;refine ⟨_,i4 (a2a PassesOwn.never (p7 a0z (pv 1) c7 (m8 _)) (i7 (a8y (i:=0) (j:=1) rfl scDiv.nd rfl rfl (by decide) rfl rfl (c6 (pv 1) (c6 (j3 u9 (pv 0) (pv 1)) h8)) rfl)))
  (i7 (m6 (j9 a8B rfl T.abs (PyProof.Rows.Boot.abs) (c6 (pv 0) h8)))),?_⟩
 refine a4A (λ σ H'=>∃ x y:Int,σ=[some (.int x),some (.int y)]/\H'=H/\0<=y/\gI x y=gI a b) (λ σ _=>b2z σ) ⟨a,b,rfl,rfl,hb,rfl⟩ ?_ (λ σ H Q Q' hq ⟨v,h1,h2,k,h3,q⟩=>⟨v,h1,h2,k,h3,hq _ _ q⟩);rintro σ H' ⟨x,y,rfl,rfl,hy,hg⟩;refine ⟨_,rfl,rfl,_,rfl,?_⟩;refine w8 (λ c=>?_) (λ c=>?_)
 ·have hy0:0<y:=by
   by_cases z:y=0
   ·subst z; simp at c
   ·lia
  have hm:=Int.emod_nonneg x (show y≠0 by lia);have hl:=Int.emod_lt_of_pos x hy0;refine ⟨_,rfl,_,rfl,_,rfl,_,_,rfl,rfl,hy0,_,_,rfl,⟨y,x % y,rfl,rfl,hm,?_⟩,?_⟩
  ·rw [a6d]; exact hg
  ·show (x % y).toNat<y.toNat
   lia
 ·have hy0:y=0:=by
   by_cases z:y=0
   ·exact z
   ·exact absurd (by simp [z]) c
  subst hy0;refine ⟨_,rfl,_,rfl,?_⟩;rw [b2i,hg];exact q
theorem a7q {n:Nat} (F:Fun K "_law_common" "_law_common" a3r f fd):FnOk P w K mg base G2 (n+1) f fd ["one","other"] (λ vs H Q _=>∃ a b:Int,vs=[.int a,.int b]/\0<=a/\0<=b/\Q (.int (gI a b)) H):=by
 refine F.ok scCommon (λ vs H Q E h=>?_) (λ cdv A outer s H vs Q E hr h=>?_)
 ·obtain ⟨a,b,rfl,_⟩:=h
  rfl
 obtain ⟨a,b,rfl,ha,hb,q⟩:=h;refine ⟨_,i4 (a2a PassesOwn.never (p7 V8 (pv 1) c7 (m8 _)) (i7 (a8y (i:=0) (j:=1) rfl scCommon.nd rfl rfl (by decide) rfl rfl (c6 (pv 1) (c6 (j3 u9 (pv 0) (pv 1)) h8)) rfl)))
  (i7 (m6 (pv 0))),?_⟩
 refine a4A (λ σ H'=>∃ x y:Int,σ=[some (.int x),some (.int y)]/\H'=H/\0<=x/\0<=y/\gI x y=gI a b) (λ σ _=>b2z σ) ⟨a,b,rfl,rfl,ha,hb,rfl⟩ ?_ (λ σ H Q Q' hq ⟨v,h1,i,j,h2,h3,k,h4,q⟩=>⟨v,h1,i,j,h2,h3,k,h4,hq _ _ q⟩);rintro σ H' ⟨x,y,rfl,rfl,hx,hy,hg⟩;refine ⟨_,rfl,_,_,rfl,rfl,_,rfl,?_⟩;refine w8 (λ c=>?_) (λ c=>?_)
 ·have hy0:0<y:=of_decide_eq_true c
  have hm:=Int.emod_nonneg x (show y≠0 by lia);have hl:=Int.emod_lt_of_pos x hy0;refine ⟨_,rfl,_,rfl,_,rfl,_,_,rfl,rfl,hy0,_,_,rfl,⟨y,x % y,rfl,rfl,hy,hm,?_⟩,?_⟩
  ·rw [a6d]; exact hg
  ·show (x % y).toNat<y.toNat
   lia
 ·have hy0:¬ 0<y:=of_decide_eq_false (Bool.eq_false_iff.mpr c)
  have:y=0:=by lia
  subst this;refine ⟨_,rfl,?_⟩;have:x=gI a b:=by rw [<- hg,a6w]; lia
  rw [this]; exact q
end
theorem Big.mono {n m:Nat} {i:Int} (h:Big n i) (hn:n<=m):Big m i:=Nat.lt_of_lt_of_le h (Nat.pow_le_pow_right (by decide) hn)
theorem Big.mul {n m:Nat} {i j:Int} (h:Big n i) (k:Big m j):Big (n+m) (i*j):=by
 unfold Big at *;rw [Int.natAbs_mul,Nat.pow_add];exact Nat.mul_lt_mul_of_lt_of_lt h k
theorem Big.add {n:Nat} {i j:Int} (h:Big n i) (k:Big n j):Big (n+1) (i+j):=by
 unfold Big at *;have:=Int.natAbs_add_le i j;rw [Nat.pow_succ];lia
theorem B9 {i:Int} {n:Nat} (h0:0<=i) (h1:i<2 ^ n):Big n i:=by
 have e:((2 ^ n:Nat):Int)=2 ^ n:=by simp
 unfold Big;lia
section
variable {P:Program} {w:World} {K:W.Frag} {mg:Str->Option Value} {base:Heap} {f g:Addr} {fd gd:FuncData} {n:Nat}
def L7:Sp:=λ vs H Q _=>∃ t b:Int,vs=[.int t,.int b]/\0<b/\b<2 ^ 8000/\∀ (v:V) (H':Hp),Same H H'->FrT H' v (t7 t b)->Q v H'
theorem scLow:r8 ["top","bottom","divisor"] ["top","bottom"] (i3 b1g):=⟨rfl,rfl,rfl,by decide +kernel,rfl,by decide +kernel,by decide +kernel⟩
theorem scLlow:r8 ["top","bottom","many"] ["top","bottom"] (i3 a7J):=⟨rfl,rfl,rfl,by decide +kernel,rfl,by decide +kernel,by decide +kernel⟩
theorem b1R {fa:Addr} {da:FuncData} (F:Fun K "lowest" "lowest" b1g f fd) (T:w6 mg) (C:X7 P w K mg base n "common_divisor" ["one","other"] a8u fa da):FnOk P w K mg base G2 (n+1) f fd ["top","bottom"] L7:=by
 refine F.ok scLow (λ vs H Q E h=>?_) (λ cdv A outer s H vs Q E hr h=>?_)
 ·obtain ⟨a,b,rfl,_⟩:=h
  rfl
 obtain ⟨t,b,rfl,hb,hb2,q⟩:=h;refine ⟨_,i4 (x6 (p7 G8 (pv 1) c7 (m8 _)) a0K r9)
  (i4 (m9 (i:=2) scLow.nd rfl (Or.inl rfl) (j6 C.ok hr rfl C.m C.k C.b .nil t6 (c6 (pv 0) (c6 (pv 1) h8))))
  (i4 (x6 (p7 Q0 (pv 1) c7 (m8 _)) a0K r9)
  (i7 (m6 (w4 (c6 (j3 L0 (pv 0) (pv 2)) (c6 (j3 L0 (pv 1) (pv 2)) h8))))))),?_⟩
 refine ⟨_,rfl,rfl,_,rfl,?_⟩;refine w8 (λ c=>?_) (λ _=>?_)
 ·have:=V.int.inj (of_decide_eq_true c); lia
 refine ⟨_,rfl,_,rfl,t,b,rfl,Int.le_of_lt hb,?_⟩;refine ⟨_,rfl,_,_,rfl,rfl,_,rfl,?_⟩;refine w8 (λ c=>?_) (λ _=>?_)
 ·have:b<0:=of_decide_eq_true c; lia
 have hg:=P8 (a:=t) hb;have hgl:=a6i (a:=t) hb;refine ⟨_,rfl,_,rfl,_,_,rfl,rfl,⟨hg,Int.lt_of_le_of_lt hgl hb2⟩,_,rfl,_,rfl,_,_,rfl,rfl,⟨hg,Int.lt_of_le_of_lt hgl hb2⟩,(by show 2<=sizeLine; decide),λ p hp=>?_⟩;exact q _ _ (Same.new hp _) ⟨p,rfl,upd_same⟩
theorem a9t (t:Int):(if 0 - t>t then 0 - t else t)=(t.natAbs:Int):=by split <;> lia
theorem b1D (t b:Int):gI (t.natAbs:Int) b=gI t b:=by
 rcases Int.natAbs_eq t with h | h
 ·rw [<- h]
 ·have:(t.natAbs:Int) = -t:=by lia
  rw [this,b2k]
def a1N:Sp:=λ vs H Q _=>∃ a b:Int,vs=[.int a,.int b]/\0<=a/\0<=b/\Q (.int (gI a b)) H
theorem a9s {fa:Addr} {da:FuncData} (F:Fun K "_law_low" "_law_low" a7J f fd) (T:w6 mg) (C:X7 P w K mg base n "_law_common" ["one","other"] a1N fa da):FnOk P w K mg base G2 (n+1) f fd ["top","bottom"] L7:=by
 refine F.ok scLlow (λ vs H Q E h=>?_) (λ cdv A outer s H vs Q E hr h=>?_)
 ·obtain ⟨a,b,rfl,_⟩:=h
  rfl
 obtain ⟨t,b,rfl,hb,hb2,q⟩:=h;refine ⟨_,i4 (x6 (p7 Q0 (pv 1) c7 (m8 _)) a0K r9)
  (i4 (m9 (i:=2) scLlow.nd rfl (Or.inl rfl) (j6 C.ok hr rfl C.m C.k C.b .nil t6 (c6 (j9 (a7j rfl) rfl T.max PyProof.Rows.boot_max (c6 (pv 0) (c6 (j3 W7 c7 (pv 0)) h8))) (c6 (pv 1) h8))))
  (i7 (m6 (w4 (c6 (j3 L0 (pv 0) (pv 2)) (c6 (j3 L0 (pv 1) (pv 2)) h8)))))),?_⟩
 refine ⟨_,rfl,_,_,rfl,rfl,_,rfl,?_⟩;refine w8 (λ c=>?_) (λ _=>?_)
 ·have:b<0:=of_decide_eq_true c; lia
 refine ⟨_,rfl,_,rfl,_,_,rfl,rfl,_,_,rfl,?_⟩;rw [a9t];refine ⟨_,rfl,(t.natAbs:Int),b,rfl,Int.natCast_nonneg _,Int.le_of_lt hb,?_⟩;rw [b1D];have hg:=P8 (a:=t) hb;have hgl:=a6i (a:=t) hb;refine ⟨_,rfl,_,rfl,_,_,rfl,rfl,⟨hg,Int.lt_of_le_of_lt hgl hb2⟩,_,rfl,_,rfl,_,_,rfl,rfl,⟨hg,Int.lt_of_le_of_lt hgl hb2⟩,(by show 2<=sizeLine; decide),λ p hp=>?_⟩;exact q _ _ (Same.new hp _) ⟨p,rfl,upd_same⟩
theorem D5 {α:Type} (a b:α):M2 [a,b] 0=some a:=r6 (j:=0) rfl
theorem E8 {α:Type} (a b:α):M2 [a,b] 1=some b:=r6 (j:=1) rfl
def a0e (K:W.Frag):Sp:=λ vs H Q _=>∃ (u v:V) (x y:Q2),vs=[u,v]/\FrV K H u x/\FrV K H v y/\(Big 1000000 x.1/\Big 1000000 x.2/\Big 1000000 y.1/\Big 1000000 y.2)/\Q (.bl (decide (x.1*y.2<y.1*x.2))) H
theorem b1C:r8 ["one","other"] ["one","other"] (i3 a7x):=⟨rfl,rfl,rfl,by decide +kernel,rfl,by decide +kernel,by decide +kernel⟩
theorem a9q (F:Fun K "_law_a_less" "_law_a_less" a7x f fd):FnOk P w K mg base G2 (n+1) f fd ["one","other"] (a0e K):=by
 refine F.ok b1C (λ vs H Q E h=>?_) (λ cdv A outer s H vs Q E hr h=>?_)
 ·obtain ⟨u,v,x,y,rfl,_⟩:=h
  rfl
 obtain ⟨u,v,x,y,rfl,⟨a,rfl,ha⟩,⟨b,rfl,hb⟩,⟨b1,b2,b3,b4⟩,q⟩:=h;refine ⟨_,i7 (m6 (C2 Q0 (j3 y6 (i9 t5 (pv 0) c7 (λ _ _=>rfl)) (i9 t5 (pv 1) c7 (λ _ _=>rfl))) (j3 y6 (i9 t5 (pv 1) c7 (λ _ _=>rfl)) (i9 t5 (pv 0) c7 (λ _ _=>rfl))) (m8 _))),?_⟩;refine ⟨_,rfl,a,_,0,_,rfl,rfl,ha,D5 _ _,_,rfl,b,_,1,_,rfl,rfl,hb,E8 _ _,_,_,rfl,rfl,⟨b1,b4⟩,?_⟩;exact ⟨_,rfl,b,_,0,_,rfl,rfl,hb,D5 _ _,_,rfl,a,_,1,_,rfl,rfl,ha,E8 _ _,_,_,rfl,rfl,⟨b3,b2⟩,_,_,rfl,rfl,q⟩
theorem a4D {K:W.Frag} (t:Value):W.kitOne K t t=some true:=by unfold W.kitOne; rw [if_pos (beq_self_eq_true _)]
end
section
variable {P:Program} {w:World} {K:W.Frag} {mg:Str->Option Value} {base:Heap} {f g:Addr} {fd gd:FuncData} {n:Nat}
def a3O (k:Nat) (m:Int):Prop:=0<=m/\m<(k:Int)
def a2r (K:W.Frag) (CN:Addr):Sp:=λ vs H Q E=>∃ (a:Addr) (xs:List V) (m:Int),vs=[.ref a,.int m]/\SqL K H a xs/\m.natAbs.log2<1920/\(∀ (i:Nat) x,m=(i:Int)->xs[i]?=some x->Q x H)/\(¬ a3O xs.length m->E (.ref CN) none H)
theorem b3g:r8 ["book","number"] ["book","number"] (i3 b1N):=⟨rfl,rfl,rfl,by decide +kernel,rfl,by decide +kernel,by decide +kernel⟩
theorem b1u {CN:Addr} (F:Fun K "house_of" "house_of" b1N f fd) (T:w6 mg) (kN:b1d K CN) (mN:mg "NoHouse"=some (.ref CN)):FnOk P w K mg base (CX1 P w) (n+1) f fd ["book","number"] (a2r K CN):=by
 refine F.ok1 b3g (λ vs H Q E h=>?_) (λ cdv A outer s H vs Q E hr h=>?_)
 ·obtain ⟨a,xs,m,rfl,_⟩:=h
  rfl
 obtain ⟨a,xs,m,rfl,hS,hm,q,hE⟩:=h;refine ⟨_,i4 (x6 (V1 (a7C a2I Q0 c7 (pv 1) (j9 j7 rfl T.len PySem.boot_len (c6 (pv 0) h8)))) (i7 (a8R kN rfl mN hr.hd (c6 (a9p (pv 1) (by decide)) h8))) r9)
  (i7 (m6 (i9 j0 (pv 0) (pv 1) (λ _ _=>rfl)))),?_⟩
 refine ⟨_,rfl,_,_,rfl,rfl,_,rfl,?_⟩;have bad:¬ a3O xs.length m->a7P (a5J (tFs (a4T 1)) a7G) CN E { nx:=λ _ H'=>Q .non H',rt:=Q } (X5 ["book","number"] [.ref a,.int m]) H:=λ hb=>⟨_,rfl,m,rfl,hm,λ x=>⟨(by show 1<=1000; decide),hE hb⟩⟩;refine w8 (λ c=>?_) (λ c=>?_)
 ·have c':0<=m:=of_decide_eq_true c
  refine ⟨_,rfl,a,_,rfl,.inl hS,_,_,rfl,rfl,_,rfl,?_⟩;refine w8 (λ d=>?_) (λ d=>?_)
  ·have d':¬ m<(xs.length:Int):=of_decide_eq_false (by simpa using d)
   exact bad λ z=>d' z.2
  ·have d':m<(xs.length:Int):=of_decide_eq_true (by simpa using d)
   obtain ⟨j,rfl⟩:∃ j:Nat,m=(j:Int):=⟨m.toNat,by lia⟩;have hi:j<xs.length:=by lia
   exact ⟨_,rfl,_,rfl,a,_,_,_,rfl,rfl,hS,r6 (List.getElem?_eq_getElem hi),q j xs[j] rfl (List.getElem?_eq_getElem hi)⟩
 ·have c':¬ 0<=m:=of_decide_eq_false (Bool.eq_false_iff.mpr c)
  exact ⟨_,rfl,a3A (bad λ z=>c' z.1)⟩
end
end Rim
namespace L2
open PySem PySem.Spec PyProof.Rows
structure b0Z (K:W.Frag) (P:Params) (d:Addr):Prop where
 ex:∃ es n,K.lookup d=some ⟨.type "dict",none,.dict es n,#[]⟩/\W.KeysLit P es.toList
def b4Q (K:W.Frag) (P:Params):R2:=λ x y H Q=>∃ d z t,x=.ref d/\y=.str z/\b0Z K P d/\W.nsIn K d z=some (some (.ref t))/\Q (.ref t) H
theorem a7X (K:W.Frag) (P:Params) {X:Cx} (hK:X.K=K) (hP:X.w.params=P):IxR X (b4Q K P):=by
 subst hK;subst hP;intro value slice pins s σ H x y v u Q I rx ry h hs;obtain ⟨d,z,t,rfl,rfl,⟨es,n,hl,hk⟩,e,q⟩:=h
 cases rx;obtain ⟨tk,rfl⟩:=ry;obtain ⟨m,hm⟩:=I.fr;exact W.topItem_K hm I.mod.kin hl hk e ⟨.ref t,H,I.tok _,rfl,q⟩ (by first | exact hs | exact hs _ _)
end L2
namespace L2
open PySem
theorem a5l (K:W.Frag) {X:Cx} {tg l:Expr} {tl:TE} (h:X.K=K) (hl:PE X l tl):PI X tg l (b1P K tl):=by subst h; exact X4 hl
end L2
namespace Rim
open PySem L2 Fr
def Szw (z:Str):Prop:=z="any"\/z="one"\/z="less"\/z="more"
def S2 (z:Str):List Int:=if z="any" then [] else if z="one" then [1,-1] else if z="less" then [-1] else [1]
structure Sg (K:W.Frag) (Pm:Params) (mg:Str->Option Value) (d:Addr):Prop where
 m:mg "SIZE_SIGNS"=some (.ref d)
 k:b0Z K Pm d
 tt:∀ z,Szw z->∃ t,W.nsIn K d z=some (some (.ref t))/\∀ H,SqT K H t ((S2 z).map V.int)
def D4 (z:Str) (h:j5):List Int:=h.1.map (λ x=>-x)++h.2++S2 z
section
variable {P:Program} {w:World} {K:W.Frag} {mg:Str->Option Value} {base:Heap} {f Pt d:Addr} {fd:FuncData} {n:Nat} {C:Addr}
def W4 (K:W.Frag):Sp:=λ vs H Q _=>∃ (ba:Addr) (xs:List V) (hs:List j5) (z:Str) (kt kg:Nat),vs=[.ref ba,.str z]/\Szw z/\SqL K H ba xs/\Bk K H xs hs/\hs.length<=100/\kt<=100/\kg<=100/\(∀ h∈hs,h.1.length=kt/\h.2.length=kg) ∧
 ∀ (r:Addr) (H':Hp) (rs:List Addr),Same H H'->H' r=some (.lst (rs.map V.ref))->rs.length=hs.length->(∀ (i:Nat) a h,rs[i]?=some a->hs[i]?=some h->H' a=some (.lst ((D4 z h).map V.int)))->Q (.ref r) H'
theorem scHr:r8 ["houses","sizes","signs"] ["houses","sizes"] (i3 R6):=⟨rfl,rfl,rfl,by decide +kernel,rfl,by decide +kernel,by decide +kernel⟩
theorem b0U:(["takes","gives","signs"]:List Str).Nodup:=by decide +kernel
theorem b2C:(["take"]:List Str).Nodup:=by decide +kernel
theorem a0r (z:Str):(S2 z).length<=2:=by
 unfold S2
 by_cases h1:z="any"
 ·rw [if_pos h1]; decide
 by_cases h2:z="one"
 ·rw [if_neg h1,if_pos h2]; decide
 by_cases h3:z="less"
 ·rw [if_neg h1,if_neg h2,if_pos h3]; decide
 ·rw [if_neg h1,if_neg h2,if_neg h3]; decide
noncomputable def hrT {cdv:Value} {A:Around} {outer:List Env} {s:Shared} {H:Hp} {E:XK} (N:w6 mg) (G:Sg K w.params mg d) :
  { t:TS // PSs (G9 G2 P w K mg base ["houses","sizes","signs"] "house_rows" (i3 R6) f cdv A outer s H E).nox (t9 R6) t } :=
 ⟨_,i4 (m9 (i:=2) scHr.nd rfl (Or.inr rfl) (x9 C6 rfl N.list PyProof.Rows.boot_list (c6 (i9 (a7X K w.params rfl rfl) (a0o (v:=.ref d) rfl G.m rfl) (pv 1) (λ _ _=>rfl)) h8)))
  (i7 (m6 (J9 ["takes","gives"] [2] rfl (A5 (pv 0))
   (λ _ _ _ _=>E6 K (n:=2) rfl rfl (j4 (i8 (i:=0) b0U rfl (Or.inl rfl)) (j4 (i8 (i:=1) b0U rfl (Or.inl rfl)) t8)))
   (λ _ _ _ _=>j3 G4 (j3 G4 (J9 ["take"] [] rfl (a5l K rfl (pv 0)) (λ _ _ _ _=>i8 (i:=0) b2C rfl (Or.inl rfl)) (λ _ _ _ _=>M3 G7 (pv 0))) (x9 (a5W K rfl) rfl N.list PyProof.Rows.boot_list (c6 (pv 1) h8))) (pv 2)))))⟩
theorem a3D (F:Fun K "house_rows" "house_rows" R6 f fd) (N:w6 mg) (G:Sg K w.params mg d):FnOk P w K mg base G2 (n+1) f fd ["houses","sizes"] (W4 K):=by
 refine F.ok scHr (λ vs H Q E h=>?_) (λ cdv A outer s H vs Q E hr h=>?_)
 ·obtain ⟨ba,xs,hs,z,kt,kg,rfl,_⟩:=h
  rfl
 obtain ⟨ba,xs,hs,z,kt,kg,rfl,hz,hB,hBk,hl,hkt,hkg,hlen,k⟩:=h;refine ⟨_,(hrT N G).2,?_⟩;obtain ⟨t,ht,hT⟩:=G.tt z hz;have xl:xs.length=hs.length:=Paired.length hBk;refine ⟨_,rfl,d,z,t,rfl,rfl,G.k,ht,t,_,rfl,.inr (hT _),λ sl hsl=>?_⟩;have e0:=Same.new hsl (.lst ((S2 z).map V.int));have hS0:upd H sl (.lst ((S2 z).map V.int)) sl=some (.lst ((S2 z).map V.int)):=upd_same;refine ⟨_,rfl,ba,rfl,⟨_,e0.seq hB⟩,λ l hl'=>?_⟩;refine C9 (v6 (e0.seq hB)) hl' (by rw [xl]; exact j8 (by lia)) (λ i y H2=>∃ a h,y=.ref a/\a≠l/\hs[i]?=some h/\H2 a=some (.lst ((D4 z h).map V.int)))
  (λ i y H2 H3 ⟨a,h,h1,h2,h3,h4⟩ e=>⟨a,h,h1,h2,h3,e a _ h2 h4⟩) (λ i x H2 ys N' hx e hl2 hN=>?_) (λ ys H2 e hl2 len pr=>?_)
 ·obtain ⟨h,hh,hHS⟩:=Paired.at hBk hx
  have hH2:=hHS.same (e0.trans e);obtain ⟨a,ta,ga,rfl,p1,p2,p3⟩:=hH2;have lh:=hlen h (List.mem_of_getElem? hh);refine ⟨a,_,rfl,p1,rfl,_,_,rfl,_,_,rfl,rfl,?_,?_⟩
  ·refine ⟨by simp,λ k w ek=>?_⟩
   have:¬ k<2:=λ hk=>by
    unfold blkσ at ek;rw [List.getElem?_append_left (by simpa using hk),List.getElem?_replicate] at ek
    split at ek <;> cases ek
   rw [List.getElem?_set_ne (by lia),List.getElem?_set_ne (by lia)]; exact ek
  refine ⟨_,rfl,ta,rfl,⟨_,p2⟩,λ a1 h1=>?_⟩;refine W8 (P5 p2) h1 (by rw [List.length_map,lh.1]; exact j8 (by lia)) (λ x=>.int (-(vI x))) (λ j x H' N2 hx2 e2 hN2=>?_) ?_
  ·obtain ⟨x',rfl,_⟩:=I0 hx2
   exact ⟨Wk.set (by decide),_,rfl,_,rfl,hN2⟩
  have eg:(h.1.map V.int).map (λ x=>V.int (-(vI x)))=(h.1.map λ x=>-x).map V.int:=by rw [List.map_map,List.map_map]; rfl
  rw [eg];have s1:=Same.new h1 (.lst ((h.1.map λ x=>-x).map V.int));refine ⟨_,rfl,ga,_,rfl,.inr (s1.tseq p3),λ a2 h2=>?_⟩;have s2:=s1.trans (Same.new h2 (.lst (h.2.map V.int)));have n12:a1≠a2:=i6 upd_same h2;have sz:=j8 (show kt+kg+2<=1000 by lia);have sg:=a0r z;refine ⟨a1,a2,_,_,rfl,rfl,(by rw [i5 n12]; exact upd_same),upd_same,?_,λ a3 h3=>?_⟩
  ·rw [List.length_map,List.length_map,List.length_map,lh.1,lh.2]; lia
  have s3:=s2.trans (Same.new h3 (.lst ((h.1.map λ x=>-x).map V.int++h.2.map V.int)));have sl3:=s3 _ _ (e _ _ hS0);refine ⟨_,rfl,a3,sl,_,_,rfl,rfl,upd_same,sl3,?_,λ a4 h4=>?_⟩
  ·rw [List.length_append,List.length_map,List.length_map,List.length_map,List.length_map,lh.1,lh.2]; lia
  refine hN _ _ (s3.trans (Same.new h4 _)) ⟨a4,h,rfl,λ z'=>?_,hh,?_⟩
  ·rw [z',s3 _ _ hl2] at h4; cases h4
  ·rw [upd_same]
   unfold D4;rw [List.map_append,List.map_append]
 ·have hys:ys=(ys.map a4d).map V.ref:=by
   rw [List.map_map];refine List.ext_getElem? λ i=>?_;rw [List.getElem?_map]
   cases qi:ys[i]? with
   | none=>rfl
   | some y =>
    obtain ⟨a,_,rfl,_⟩:=pr i y qi;rfl
  refine k l H2 (ys.map a4d) (e0.trans e) (by rw [hl2]; rw [<- hys]) (by rw [List.length_map,len,xl]) λ i a h hi hh=>?_;rw [List.getElem?_map] at hi
  cases qi:ys[i]? with
  | none=>rw [qi] at hi; cases hi
  | some y =>
   obtain ⟨a',h',rfl,_,h3,h4⟩:=pr i y qi;rw [qi] at hi;have:a'=a:=Option.some.inj hi;subst this;rw [hh] at h3
   cases h3;exact h4
end
theorem a3X (k:Nat):(List.replicate k [V.int 0]).flatten=(List.replicate k (0:Int)).map V.int:=by
 induction k with
 | zero=>rfl
 | succ k ih=>rw [List.replicate_succ,List.flatten_cons,ih,List.replicate_succ,List.map_cons]; rfl
section
variable {P:Program} {w:World} {K:W.Frag} {mg:Str->Option Value} {base:Heap} {f Pt d:Addr} {fd:FuncData} {n:Nat} {C:Addr}
theorem b3i:∀ k,k<20->Lp.bnd (2 ^ 60) (k+1)<2 ^ 4000:=by decide +kernel
theorem b0n {rows:List (List Int)} {i j:Nat} {row:List Int} (h:rows[i]?=some row):Arr rows i j=row.getD j 0:=by
 have e:rows.getD i []=row:=by rw [List.getD_eq_getElem?_getD,h]; rfl
 unfold Arr;rw [e]
theorem a1D {l:List Int} {M:Nat} (h:∀ x∈l,x.natAbs<=M) (j:Nat):(l.getD j 0).natAbs<=M:=by
 rw [List.getD_eq_getElem?_getD]
 cases e:l[j]? with
 | none=>exact Nat.zero_le _
 | some x=>exact h x (List.mem_of_getElem? e)
theorem a3g (z:Str):∀ x∈S2 z,x.natAbs<=2 ^ 60:=by
 unfold S2
 by_cases h1:z="any"
 ·rw [if_pos h1]; decide
 by_cases h2:z="one"
 ·rw [if_neg h1,if_pos h2]; decide
 by_cases h3:z="less"
 ·rw [if_neg h1,if_neg h2,if_pos h3]; decide
 ·rw [if_neg h1,if_neg h2,if_neg h3]; decide
end
section
variable {P:Program} {w:World} {K:W.Frag} {mg:Str->Option Value} {base:Heap} {f Pt d:Addr} {fd:FuncData} {n:Nat} {C:Addr}
end
section
variable {P:Program} {w:World} {K:W.Frag} {mg:Str->Option Value} {base:Heap} {f Pt d:Addr} {fd:FuncData} {n:Nat} {C:Addr}
def a1A (K:W.Frag):Sp:=λ vs H Q _=>∃ (a t:Addr) (xs ys:List Int),vs=[.ref a,.ref t]/\SqL K H a (xs.map V.int)/\SqT K H t (ys.map V.int)/\xs.length<=1000/\(∀ x∈xs,Big 4000 x)/\(∀ y∈ys,Big 4000 y)/\∀ H',Same H H'->Q (.int (List.zipWith (·*·) xs ys).sum) H'
theorem scTp:r8 ["house","sizes","amounts","bottom","takes","gives","behind_gives","for_takes","for_gives"] ["house","sizes","amounts","bottom"] (i3 K1):=⟨rfl,rfl,rfl,by decide +kernel,rfl,by decide +kernel,by decide +kernel⟩
theorem b2W:(["amount","bottom"]:List Str).Nodup:=by decide +kernel
end
end Rim
namespace Lp
section
variable {m q:Nat} {A:Nat->Nat->Int} {b c:Nat->Int} {S:Bo}
end
end Lp
namespace Rim
open PySem L2 Fr
section
variable {P:Program} {w:World} {K:W.Frag} {mg:Str->Option Value} {base:Heap} {f Pt d:Addr} {fd:FuncData} {n:Nat} {C:Addr}
def FrsAt (H:Hp) (ys:List V) (xs:List Int) (D:Int):Prop:=ys.length=xs.length/\∀ (i:Nat) y,ys[i]?=some y->FrT H y (t7 (xs.getD i 0) D)
theorem FrsAt.same {H H':Hp} {ys:List V} {xs:List Int} {D:Int} (e:Same H H') (h:FrsAt H ys xs D):FrsAt H' ys xs D:=⟨h.1,λ i y hy=>(h.2 i y hy).same e⟩
def a0l (K:W.Frag):Sp:=λ vs H Q _=>∃ (hv:V) (h:j5) (z:Str) (aa:Addr) (D:Int) (xs:List Int),vs=[hv,.str z,.ref aa,.int D]/\Szw z/\HS K H hv h/\SqL K H aa (xs.map V.int)/\xs.length=h.1.length+h.2.length+(S2 z).length/\h.1.length<=100/\h.2.length<=100 ∧
 (∀ x∈xs,Big 4000 x)/\0<D/\D<2 ^ 8000 ∧
 ∀ (t fa ga:Addr) (v:V) (H':Hp) (fts gts:List V),Same H H'->H' t=some (.tup [.ref fa,.ref ga,v])->H' fa=some (.lst fts)->FrsAt H' fts (xs.take h.1.length) D->H' ga=some (.lst gts)->FrsAt H' gts ((xs.drop h.1.length).take h.2.length) D →
  FrT H' v (t7 (List.zipWith (·*·) (xs.drop (h.1.length+h.2.length)) (S2 z)).sum D)->Q (.ref t) H'
noncomputable def tpT {cdv:Value} {A:Around} {outer:List Env} {s:Shared} {H:Hp} {E:XK} {f1 f2:Addr} {d1 d2:FuncData} (N:w6 mg) (G:Sg K w.params mg d) (Cl:X7 P w K mg base n "lowest" ["top","bottom"] L7 f1 d1) (Cc:SCal P w K mg base n "come_to" ["amounts","tops"] (a1A K) f2 d2)
  (hr:Room n (A.deeper (PyProof.Rows.envOfC "told_prices" (i3 K1) s.heap.objs.size f cdv))) :
  { t:TS // PSs (G9 G2 P w K mg base ["house","sizes","amounts","bottom","takes","gives","behind_gives","for_takes","for_gives"] "told_prices" (i3 K1) f cdv A outer s H E).nox (t9 K1) t } :=
 ⟨_,i4 (C7 (pv 0) (K2 rfl (j4 (i8 (i:=4) scTp.nd rfl (Or.inl rfl)) (j4 (i8 (i:=5) scTp.nd rfl (Or.inl rfl)) t8))))
  (i4 (m9 (i:=6) scTp.nd rfl (Or.inl rfl) (j3 C4 (j9 j7 rfl N.len PySem.boot_len (c6 (pv 4) h8)) (j9 j7 rfl N.len PySem.boot_len (c6 (pv 5) h8))))
  (p6 (S5 (i:=7) ["amount"] [3] scTp.nd rfl rfl rfl (A5 (D9 J7 (pv 2) O9 (D2 (j9 j7 rfl N.len PySem.boot_len (c6 (pv 4) h8))))) (λ _ _ _ _=>i8 (i:=0) b2W rfl (Or.inl rfl))
   (λ _ _ _ _=>j6 Cl.ok hr rfl Cl.m Cl.k Cl.b .nil t6 (c6 (pv 0) (c6 (pv 1) h8))))
  (p6 (S5 (i:=8) ["amount"] [3] scTp.nd rfl rfl rfl (A5 (D9 J7 (pv 2) (D2 (j9 j7 rfl N.len PySem.boot_len (c6 (pv 4) h8))) (D2 (pv 6)))) (λ _ _ _ _=>i8 (i:=0) b2W rfl (Or.inl rfl))
   (λ _ _ _ _=>j6 Cl.ok hr rfl Cl.m Cl.k Cl.b .nil t6 (c6 (pv 0) (c6 (pv 1) h8))))
  (i7 (m6 (w4 (c6 (pv 7) (c6 (pv 8) (c6 (j6 Cl.ok hr rfl Cl.m Cl.k Cl.b .nil t6
   (c6 (j6 Cc.ok hr rfl Cc.m Cc.k Cc.b .nil t6 (c6 (D9 J7 (pv 2) (D2 (pv 6)) O9) (c6 (i9 (a7X K w.params rfl rfl) (a0o (v:=.ref d) rfl G.m rfl) (pv 1) (λ _ _=>rfl)) h8))) (c6 (pv 3) h8))) h8)))))))))⟩
end
section
variable {P:Program} {w:World} {K:W.Frag} {mg:Str->Option Value} {base:Heap} {f Pt d:Addr} {fd:FuncData} {n:Nat} {C:Addr}
def Z4 (p:Addr) (xs:List Int) (D:Int) (i:Nat) (y:V) (H:Hp):Prop:=∃ a,y=.ref a/\a≠p/\H a=some (.tup [.int (t7 (xs.getD i 0) D).1,.int (t7 (xs.getD i 0) D).2])
theorem Q8 {H:Hp} {p:Addr} {ys:List V} {xs:List Int} {D:Int} (hl:ys.length=(xs.map V.int).length) (h:∀ i y,ys[i]?=some y->Z4 p xs D i y H):FrsAt H ys xs D :=
 ⟨by rw [hl,List.length_map],λ i y hy=>by obtain ⟨a,h1,_,h3⟩:=h i y hy; exact ⟨a,h1,h3⟩⟩
theorem O4 {p:Addr} {xs:List Int} {D:Int}:∀ i y H H',Z4 p xs D i y H->(∀ b o,b≠p->H b=some o->H' b=some o)->Z4 p xs D i y H':=λ i y H H' ⟨a,h1,h2,h3⟩ e=>⟨a,h1,h2,e a _ h2 h3⟩
theorem T5 {H H3:Hp} {p:Addr} {ys:List V} {xs:List Int} {D:Int} {i:Nat} {x:Int} {v:V} (hp:H p=some (.lst ys)) (e:Same H H3) (hx:(xs.map V.int)[i]?=some (.int x)) (h:FrT H3 v (t7 x D)):Z4 p xs D i v H3:=by
 obtain ⟨a,rfl,ha⟩:=h;have hg:xs.getD i 0=x:=by
  rw [List.getElem?_map] at hx;rw [List.getD_eq_getElem?_getD]
  cases q:xs[i]? with
  | none=>rw [q] at hx; cases hx
  | some y=>rw [q] at hx; cases hx; rfl
 refine ⟨a,rfl,λ z=>?_,by rw [hg]; exact ha⟩;rw [z,e _ _ hp] at ha; cases ha
theorem a9M (xs:List V) (a b:Nat) (h:a<=b) (hb:b<=xs.length):E5 xs (some (a:Int)) (some (b:Int))=(xs.drop a).take (b - a):=by
 unfold E5;rw [HT.sIx_nat,HT.sIx_nat,Nat.min_eq_left hb,Nat.min_eq_left (by lia)]
theorem a7c {f1 f2:Addr} {d1 d2:FuncData} (F:Fun K "told_prices" "told_prices" K1 f fd) (N:w6 mg) (G:Sg K w.params mg d) (Cl:X7 P w K mg base n "lowest" ["top","bottom"] L7 f1 d1) (Cc:SCal P w K mg base n "come_to" ["amounts","tops"] (a1A K) f2 d2) :
  FnOk P w K mg base G2 (n+1) f fd ["house","sizes","amounts","bottom"] (a0l K):=by
 refine F.ok scTp (λ vs H Q E h=>?_) (λ cdv A outer s H vs Q E hr h=>?_)
 ·obtain ⟨hv,h,z,aa,D,xs,rfl,_⟩:=h
  rfl
 obtain ⟨hv,h,z,aa,D,xs,rfl,hz,hHS,haa,hlen,k1,k2,hbig,hD,hD2,k⟩:=h;refine ⟨_,(tpT N G Cl Cc hr).2,?_⟩;obtain ⟨ha,ta,ga,rfl,p1,p2,p3⟩:=id hHS;obtain ⟨t,ht,hT⟩:=G.tt z hz;have sg:=a0r z;have lx:(xs.map V.int).length=h.1.length+h.2.length+(S2 z).length:=by rw [List.length_map]; exact hlen
 have l1:(h.1.map V.int).length=h.1.length:=List.length_map _;have l2:(h.2.map V.int).length=h.2.length:=List.length_map _;have s1k:=j8 (show (1000:Nat)<=1000 from Nat.le_refl _);refine ⟨_,rfl,ha,_,rfl,p1,rfl,_,_,rfl,_,_,rfl,rfl,?_⟩;refine ⟨_,rfl,ta,_,rfl,.inr p2,_,rfl,ga,_,rfl,.inr p3,_,_,rfl,rfl,?_⟩;rw [l1,l2];refine ⟨λ σ' H1=>∃ (fa:Addr) (fts:List V),σ'=[some (.ref ha),some (.str z),some (.ref aa),some (.int D),some (.ref ta),some (.ref ga),some (.int ((h.1.length:Int)+(h.2.length:Int))),some (.ref fa),none]/\Same H H1/\H1 fa=some (.lst fts)/\FrsAt H1 fts (xs.take h.1.length) D,?_,?_⟩
 ·refine ⟨_,rfl,_,rfl,ta,_,rfl,.inr p2,_,rfl,aa,_,rfl,haa,λ a1 h1=>?_⟩
  rw [l1,a0U _ _ (by rw [lx]; lia),<- List.map_take];have s1:=Same.new h1 (.lst ((xs.take h.1.length).map V.int));refine ⟨a1,rfl,⟨_,SqL.of upd_same⟩,λ l hl=>?_⟩;refine C9 (v6 (SqL.of upd_same)) hl (by rw [List.length_map,List.length_take]; lia) (Z4 l (xs.take h.1.length) D) O4 (λ i x H2 ys N' hx e hl2 hN=>?_) (λ ys H2 e hl2 len pr=>?_)
  ·obtain ⟨x',rfl,_⟩:=I0 hx
   exact ⟨Wk.set (by decide),_,rfl,_,rfl,x',D,rfl,hD,hD2,λ v H3 e3 hv=>hN _ _ e3 (T5 hl2 e3 hx hv)⟩
  ·exact ⟨l,ys,rfl,s1.trans e,hl2,Q8 len pr⟩
 intro σ1 H1 hM_; refine A4 λ G_ hG_=>?_; obtain ⟨fa,fts,rfl,e1,hfa,hft⟩:=hM_; subst hG_;refine ⟨λ σ' H2=>∃ (ga':Addr) (gts:List V),σ'=[some (.ref ha),some (.str z),some (.ref aa),some (.int D),some (.ref ta),some (.ref ga),some (.int ((h.1.length:Int)+(h.2.length:Int))),some (.ref fa),some (.ref ga')]/\Same H1 H2/\H2 ga'=some (.lst gts)/\FrsAt H2 gts ((xs.drop h.1.length).take h.2.length) D,?_,?_⟩
 ·refine ⟨_,rfl,_,rfl,ta,_,rfl,.inr (e1.tseq p2),_,rfl,_,rfl,_,rfl,aa,_,rfl,e1.seq haa,λ a1 h1=>?_⟩
  have ec:E5 (xs.map V.int) (some (((h.1.map V.int).length:Nat):Int)) (some ((h.1.length:Int)+(h.2.length:Int)))=((xs.drop h.1.length).take h.2.length).map V.int:=by
   have:=a9M (xs.map V.int) h.1.length (h.1.length+h.2.length) (by lia) (by rw [lx]; lia);rw [l1,show ((h.1.length:Int)+(h.2.length:Int))=((h.1.length+h.2.length:Nat):Int) by lia,this,Nat.add_sub_cancel_left,<- List.map_drop,<- List.map_take]
  rw [ec];have s1:=Same.new h1 (.lst (((xs.drop h.1.length).take h.2.length).map V.int));refine ⟨a1,rfl,⟨_,SqL.of upd_same⟩,λ l hl=>?_⟩;refine C9 (v6 (SqL.of upd_same)) hl (by rw [List.length_map,List.length_take]; lia) (Z4 l ((xs.drop h.1.length).take h.2.length) D) O4 (λ i x H2 ys N' hx e hl2 hN=>?_) (λ ys H2 e hl2 len pr=>?_)
  ·obtain ⟨x',rfl,_⟩:=I0 hx
   exact ⟨Wk.set (by decide),_,rfl,_,rfl,x',D,rfl,hD,hD2,λ v H3 e3 hv=>hN _ _ e3 (T5 hl2 e3 hx hv)⟩
  ·exact ⟨l,ys,rfl,s1.trans e,hl2,Q8 len pr⟩
 intro σ2 H2 hM_; refine A4 λ G_ hG_=>?_; obtain ⟨ga',gts,rfl,e2,hga,hgt⟩:=hM_; subst hG_;have e02:=e1.trans e2;refine ⟨_,rfl,_,rfl,_,rfl,_,rfl,_,rfl,aa,_,rfl,e02.seq haa,λ a1 h1=>?_⟩;have ec:E5 (xs.map V.int) (some ((h.1.length:Int)+(h.2.length:Int))) none=(xs.drop (h.1.length+h.2.length)).map V.int:=by
  have:=a1S (xs.map V.int) (h.1.length+h.2.length) (by rw [lx]; lia);rw [show ((h.1.length:Int)+(h.2.length:Int))=((h.1.length+h.2.length:Nat):Int) by lia,this,<- List.map_drop]
 rw [ec];have s1:=Same.new h1 (.lst ((xs.drop (h.1.length+h.2.length)).map V.int));refine ⟨_,rfl,d,z,t,rfl,rfl,G.k,ht,a1,t,xs.drop (h.1.length+h.2.length),S2 z,rfl,SqL.of upd_same,hT _,by rw [List.length_drop]; lia,λ x hx=>hbig x (List.mem_of_mem_drop hx),λ y hy=>?_,λ H3 e3=>?_⟩
 ·have:=a3g z y hy
  exact Nat.lt_of_le_of_lt this (Nat.pow_lt_pow_right (by decide) (by decide))
 refine ⟨_,rfl,_,D,rfl,hD,hD2,λ v H4 e4 hv=>?_⟩;have e24:=(s1.trans e3).trans e4;refine ⟨(by show 3<=sizeLine; decide),λ tt htt=>?_⟩;have e5:=Same.new htt (.tup [.ref fa,.ref ga',v]);have eF:=e24.trans e5;refine k tt fa ga' v _ fts gts (e02.trans eF) upd_same (eF _ _ (e2 _ _ hfa)) ((hft.same e2).same eF) (eF _ _ hga) (hgt.same eF) (hv.same e5)
end
theorem SqT.same1 {K:W.Frag} {P:Addr} {pos:Pos} {qual:Str} {H H':Hp} {a:Addr} {xs:List V} (T:LamTab P pos qual H) (e:Same1 P H H') (h:SqT K H a xs):SqT K H' a xs:=by
 have ne:∀ o,H a=some o->(∀ ps,o≠.tbl ps)->a≠P:=λ o q n z=>by
  subst z;rcases T with t | ⟨c,t,_⟩
  ·rw [q] at t; exact n _ (Option.some.inj t)
  ·rw [q] at t; exact n _ (Option.some.inj t)
 rcases h with (h | ⟨o,h⟩) | h
 ·exact .inl (.inl (e _ _ (ne _ h λ _=>nofun) h))
 ·exact .inl (.inr ⟨o,e _ _ (ne _ h λ _=>nofun) h⟩)
 ·exact .inr h
theorem HS.same1 {K:W.Frag} {Pt:Addr} {H H':Hp} {v:V} {h:j5} (T:LT Pt H) (e:Same1 Pt H H') (x:HS K H v h):HS K H' v h:=by
 obtain ⟨a,t,g,h0,h1,h2,h3⟩:=x;exact ⟨a,t,g,h0,SqT.same1 T e h1,SqT.same1 T e h2,SqT.same1 T e h3⟩
theorem Bk.same1 {K:W.Frag} {Pt:Addr} {H H':Hp} {vs:List V} {hs:List j5} (T:LT Pt H) (e:Same1 Pt H H') (x:Bk K H vs hs):Bk K H' vs hs:=Paired.imp' (λ _ _ r=>HS.same1 T e r) x
theorem E9 {l r:List Int} (j:Nat):(l++r).getD j 0=if j<l.length then l.getD j 0 else r.getD (j - l.length) 0:=by
 rw [List.getD_eq_getElem?_getD,List.getD_eq_getElem?_getD,List.getD_eq_getElem?_getD]
 by_cases h:j<l.length
 ·rw [if_pos h,List.getElem?_append_left h]
 ·rw [if_neg h,List.getElem?_append_right (by lia)]
theorem a8c (k j:Nat):(List.replicate k (0:Int)).getD j 0=0:=by
 rw [List.getD_eq_getElem?_getD,List.getElem?_replicate]
 split <;> rfl
theorem a2n (l:List Int) (j:Nat):(l.map λ x=>-x).getD j 0 = - l.getD j 0:=by
 rw [List.getD_eq_getElem?_getD,List.getD_eq_getElem?_getD,List.getElem?_map]
 cases l[j]? <;> rfl
section
variable {P:Program} {w:World} {K:W.Frag} {mg:Str->Option Value} {base:Heap} {f Pt d CN:Addr} {fd:FuncData} {n:Nat} {C:Addr}
structure a3c (P:Program) (w:World) (K:W.Frag) (mg:Str->Option Value) (base:Heap) (n:Nat) (x:Str) (ps:List Str) (sp:Sp) (fa:Addr) (d:FuncData):Prop where
 ok:FnOk P w K mg base (CX1 P w) n fa d ps sp
 b:Binds K d ps []
 k:W.keepIn K (.ref fa)=true
 m:mg x=some (.ref fa)
abbrev mE (hs:List j5):Nat:=hs.length+1
abbrev qE (z:Str) (h:j5):Nat:=h.1.length+h.2.length+(S2 z).length
structure W6 (K:W.Frag) (H:Hp) (ba:Addr) (xs:List V) (hs:List j5) (far:Int) (kt kg:Nat):Prop where
 l:SqL K H ba xs
 b:Bk K H xs hs
 g:∀ h∈hs,HG far kt kg h
 far:far<=2 ^ 60
 few:hs.length<=16
 t:kt<=20
 k:kg<=20
def a4t (H:Hp) (v:V) (z:Str) (h:j5) (xs:List Int) (D:Int):Prop:=∃ (t fa ga:Addr) (u:V) (fts gts:List V),v=.ref t/\H t=some (.tup [.ref fa,.ref ga,u])/\H fa=some (.lst fts)/\FrsAt H fts (xs.take h.1.length) D/\H ga=some (.lst gts)/\FrsAt H gts ((xs.drop h.1.length).take h.2.length) D ∧
 FrT H u (t7 (List.zipWith (·*·) (xs.drop (h.1.length+h.2.length)) (S2 z)).sum D)
end
end Rim
namespace L2
open PySem
theorem Big.mono {n m:Nat} {i:Int} (h:Big n i) (hn:n<=m):Big m i:=Rim.Big.mono h hn
theorem Big.mul {n m:Nat} {i j:Int} (h:Big n i) (k:Big m j):Big (n+m) (i*j):=Rim.Big.mul h k
theorem Big.add {n:Nat} {i j:Int} (h:Big n i) (k:Big n j):Big (n+1) (i+j):=Rim.Big.add h k
end L2
namespace Fr
theorem V5 {a b:Int} (ha:0<a) (hb:0<b):a<=a*b:=by
 have:=Int.mul_le_mul_of_nonneg_left (show (1:Int)<=b by lia) (Int.le_of_lt ha);rw [Int.mul_one] at this;exact this
def b1a (l:List a1I):Q2:=t7 (raw l).1 (raw l).2
theorem a6I {L T:Int} {l:List a1I} (hL:0<L) (hl:∀ x∈l,0<x.2.2/\x.2.2∣L) (hT:T=(l.map λ x=>x.1*(x.2.1*(L / x.2.2))).sum):t7 T L=b1a l:=by
 have hp:=a6g (l:=l) (r:=(0,1)) (λ x hx=>(hl x hx).1) (by decide);refine R3 hL hp ?_;have:=a5m (L:=L) (l:=l) (T:=0) (r:=(0,1)) hl (by simp);rw [Int.zero_add,<- hT] at this;exact this
theorem a7V {l:List a1I} (hl:∀ x∈l,0<x.2.2):t7 (l.foldl Q4 (0,1)).1 (l.foldl Q4 (0,1)).2=b1a l:=by
 obtain ⟨h1,h2⟩:=a7t (l:=l) (s:=(0,1)) (r:=(0,1)) hl (by decide) rfl;exact R3 h1 (a6g hl (by decide)) h2
theorem a4w {b f D:Int} (hb:0<b) (hf:0<f) (h1:b∣D) (h2:f∣D):b / gI b f*f∣D:=by
 obtain ⟨m,rfl⟩:=Int.eq_ofNat_of_zero_le (Int.le_of_lt hb);obtain ⟨n,rfl⟩:=Int.eq_ofNat_of_zero_le (Int.le_of_lt hf);have e:(m:Int) / gI m n*n=((Nat.lcm m n:Nat):Int):=by
  have e1:Nat.lcm m n=m / Nat.gcd m n*n:=by
   unfold Nat.lcm;rw [Nat.mul_comm m n,Nat.mul_div_assoc n (Nat.gcd_dvd_left m n),Nat.mul_comm]
  rw [e1];unfold gI;rw [Int.natCast_mul,Int.natCast_ediv];rfl
 rw [e,Int.ofNat_dvd_left];exact Nat.lcm_dvd (Int.ofNat_dvd_left.mp h1) (Int.ofNat_dvd_left.mp h2)
theorem a8N {x D:Int} (hD:0<D):(t7 x D).1*(D / (t7 x D).2)=x:=by
 obtain ⟨h1,h2⟩:=M6 (t:=x) hD;have hg:=P8 (a:=x) hD;have hp:=A9 (t:=x) hD;have e:D / (t7 x D).2=gI x D:=by
  have:D=gI x D*(t7 x D).2:=h2;rw [Int.ediv_eq_of_eq_mul_left (Int.ne_of_gt hp) this]
 rw [e,Int.mul_comm];exact h1.symm
theorem a1m {x D:Int} (hD:0<D):(t7 x D).2∣D:=⟨gI x D,by rw [Int.mul_comm]; exact (M6 (t:=x) hD).2⟩
theorem N7 {t b:Int} (hb:0<b):(t7 t b).2<=b:=Int.le_of_dvd hb (a1m hb)
end Fr
namespace Rim
open PySem L2 Fr
theorem L9 {t b:Int} {n:Nat} (hb:0<b) (h:Big n t):Big n (t7 t b).1:=by
 obtain ⟨h1,_⟩:=M6 (t:=t) hb;have hg:=P8 (a:=t) hb;unfold Big at *;have e:t.natAbs=(gI t b).natAbs*(t7 t b).1.natAbs:=by rw [<- Int.natAbs_mul,<- h1]
 have:1<=(gI t b).natAbs:=by lia
 have:=Nat.mul_le_mul_right (t7 t b).1.natAbs this;lia
section
variable {P:Program} {w:World} {K:W.Frag} {mg:Str->Option Value} {base:Heap} {f:Addr} {fd:FuncData} {n:Nat}
def FrsV (K:W.Frag) (H:Hp) (ys:List V) (xs:List Int) (D:Int):Prop:=ys.length=xs.length/\∀ (i:Nat) y,ys[i]?=some y->FrV K H y (t7 (xs.getD i 0) D)
theorem FrsV.same {H H':Hp} {ys:List V} {xs:List Int} {D:Int} (e:Same H H') (h:FrsV K H ys xs D):FrsV K H' ys xs D:=⟨h.1,λ i y hy=>FrV.same e (h.2 i y hy)⟩
theorem FrsAt.v {H:Hp} {ys:List V} {xs:List Int} {D:Int} (h:FrsAt H ys xs D):FrsV K H ys xs D:=⟨h.1,λ i y hy=>(h.2 i y hy).v⟩
def a0V (K:W.Frag):Sp:=λ vs H Q _=>∃ (nl pl:Addr) (ns:List Int) (pvs:List V) (xs:List Int) (D:Int),vs=[.ref nl,.ref pl]/\(SqL K H nl (ns.map V.int)\/SqT K H nl (ns.map V.int))/\SqL K H pl pvs/\FrsV K H pvs xs D/\ns.length=xs.length/\ns.length<=100/\(∀ x∈ns,Big 100 x)/\(∀ x∈xs,Big 20000 x)/\0<D/\D<2 ^ 8000 ∧
 ∀ (v:V) (H':Hp),Same H H'->FrT H' v (t7 (List.zipWith (·*·) ns xs).sum D)->Q v H'
theorem scSum:r8 ["numbers","parts","top","bottom","number","part","many"] ["numbers","parts"] (i3 a7l):=⟨rfl,rfl,rfl,by decide +kernel,rfl,by decide +kernel,by decide +kernel⟩
noncomputable def b4v {cdv:Value} {A:Around} {outer:List Env} {s:Shared} {H:Hp} {E:XK} {fa fb:Addr} {da db:FuncData} (T:w6 mg) (Cc:X7 P w K mg base n "_law_common" ["one","other"] a1N fa da) (Cl:X7 P w K mg base n "_law_low" ["top","bottom"] L7 fb db)
  (hr:Room n (A.deeper (PyProof.Rows.envOfC "_law_sum" (i3 a7l) s.heap.objs.size f cdv))) :
  { t:TS // PSs (G9 G2 P w K mg base ["numbers","parts","top","bottom","number","part","many"] "_law_sum" (i3 a7l) f cdv A outer s H E).nox (t9 a7l) t } :=
 ⟨_,i4 (m9 (i:=2) scSum.nd rfl (Or.inl rfl) c7)
  (i4 (m9 (i:=3) scSum.nd rfl (Or.inl rfl) c7)
  (i4 (P7 PassesOwn.never rfl (a5j λ b=>Z3 b true K rfl rfl T.zip (c6 (pv 0) (c6 (pv 1) h8))) (E6 K (n:=2) rfl rfl (j4 (i8 (i:=4) scSum.nd rfl (Or.inl rfl)) (j4 (i8 (i:=5) scSum.nd rfl (Or.inl rfl)) t8)))
   (i4 (m9 (i:=6) scSum.nd rfl (Or.inl rfl) (j6 Cc.ok hr rfl Cc.m Cc.k Cc.b .nil t6 (c6 (pv 3) (c6 (i9 t5 (pv 5) c7 (λ _ _=>rfl)) h8))))
   (i4 (m9 (i:=2) scSum.nd rfl (Or.inl rfl) (j3 C4 (j3 y6 (pv 2) (j3 L0 (i9 t5 (pv 5) c7 (λ _ _=>rfl)) (pv 6))) (j3 y6 (j3 y6 (pv 4) (i9 t5 (pv 5) c7 (λ _ _=>rfl))) (j3 L0 (pv 3) (pv 6)))))
   (i7 (m9 (i:=3) scSum.nd rfl (Or.inl rfl) (j3 y6 (j3 L0 (pv 3) (pv 6)) (i9 t5 (pv 5) c7 (λ _ _=>rfl))))))))
  (i7 (m6 (j6 Cl.ok hr rfl Cl.m Cl.k Cl.b .nil t6 (c6 (pv 2) (c6 (pv 3) h8)))))))⟩
theorem a6e {D:Int} (hD:0<D):∀ (ns xs:List Int),((List.zip ns (xs.map λ x=>t7 x D)).map λ x=>x.1*(x.2.1*(D / x.2.2)))=List.zipWith (·*·) ns xs
 | [],_=>by simp
 | _::_,[]=>by simp
 | a::r,x::xs=>by
  rw [List.map_cons,List.zip_cons_cons,List.map_cons,a6e hD r xs,List.zipWith_cons_cons,a8N hD]
theorem b1G {fa fb:Addr} {da db:FuncData} (F:Fun K "_law_sum" "_law_sum" a7l f fd) (T:w6 mg) (Cc:X7 P w K mg base n "_law_common" ["one","other"] a1N fa da) (Cl:X7 P w K mg base n "_law_low" ["top","bottom"] L7 fb db) :
  FnOk P w K mg base G2 (n+1) f fd ["numbers","parts"] (a0V K):=by
 refine F.ok scSum (λ vs H Q E h=>?_) (λ cdv A outer s H vs Q E hr h=>?_)
 ·obtain ⟨nl,pl,ns,pvs,xs,D,rfl,_⟩:=h
  rfl
 obtain ⟨nl,pl,ns,pvs,xs,D,rfl,hN,hP,hF,hlen,h100,hbn,hbx,hD,hD2,q⟩:=h;refine ⟨_,(b4v T Cc Cl hr).2,?_⟩;have pl':pvs.length=xs.length:=hF.1;have nl':(ns.map V.int).length=ns.length:=List.length_map _;have hpos:∀ x∈List.zip ns (xs.map λ x=>t7 x D),0<x.2.2/\x.2.2∣D:=λ x hx=>by
  obtain ⟨y,_,e⟩:=List.mem_map.mp (List.of_mem_zip hx).2;rw [<- e];exact ⟨A9 hD,a1m hD⟩
 have fin:∀ (t b:Int) (o4 o5 o6:Option V) (H1:Hp),Same H H1->(t,b)=(List.zip ns (xs.map λ x=>t7 x D)).foldl Q4 (0,1)->0<b->b∣D →
   b2J (b0E L7 [] E0 (a5J (a4T 2) (a5J (a4T 3) a7G))) { nx:=λ _ H'=>Q .non H',rt:=Q } [some (.ref nl),some (.ref pl),some (.int t),some (.int b),o4,o5,o6] H1:=λ t b o4 o5 o6 H1 e1 htb hb hbD=>by
  have hfl:=a7V (l:=List.zip ns (xs.map λ x=>t7 x D)) λ x hx=>(hpos x hx).1;rw [<- htb] at hfl;have hov:=a6I (L:=D) (T:=(List.zipWith (·*·) ns xs).sum) (l:=List.zip ns (xs.map λ x=>t7 x D)) hD hpos (by rw [a6e hD]);refine ⟨_,rfl,_,rfl,t,b,rfl,hb,Int.lt_of_le_of_lt (Int.le_of_dvd hD hbD) hD2,λ v H2 e2 hv=>?_⟩;have hfl':t7 t b=b1a (List.zip ns (xs.map λ x=>t7 x D)):=hfl;rw [hfl',<- hov] at hv;exact q v H2 (e1.trans e2) hv
 have hmin:min (ns.map V.int).length pvs.length=xs.length:=by rw [nl',pl']; lia
 have htk:(List.zip ns (xs.map λ x=>t7 x D)).take xs.length=List.zip ns (xs.map λ x=>t7 x D):=List.take_of_length_le (by rw [List.length_zip,List.length_map]; lia);have B0:Big (30000+8001*0) 0:=B9 (n:=30000) (by decide) (Int.pow_pos (by decide));obtain ⟨b1,hN⟩:∃ b1,SqB b1 K H nl (ns.map V.int):=hN.elim (λ h=>⟨true,h⟩) (λ h=>⟨false,h⟩)
 ·refine ⟨b1,_,rfl,_,rfl,nl,pl,rfl,⟨_,hN⟩,⟨_,hP⟩,?_⟩
  refine a5p (xs:=ns.map V.int) (ys:=pvs) (i1:=4) (i2:=5) (λ i σ H'=>∃ (t b:Int) (o4 o5 o6:Option V),σ=[some (.ref nl),some (.ref pl),some (.int t),some (.int b),o4,o5,o6]/\Same H H'/\(t,b)=((List.zip ns (xs.map λ x=>t7 x D)).take i).foldl Q4 (0,1)/\0<b/\b∣D/\Big (30000+8001*i) t)
   ⟨0,1,_,_,_,rfl,Same.refl _,rfl,by decide,⟨D,(Int.one_mul D).symm⟩,B0⟩ (λ i σ H' ⟨_,_,_,_,_,_,e,_⟩=>⟨e.sqB hN,e.seq hP⟩) ?_ ?_
  ·rintro i x y σ H1 qq hx hy ⟨t,b,o4,o5,o6,rfl,e1,htb,hb,hbD,hbt⟩ hq
   have hfq:(xs.map λ x=>t7 x D)[i]?=some (t7 (xs.getD i 0) D):=by
    have hil:i<xs.length:=by rw [<- pl']; exact (List.getElem?_eq_some_iff.mp hy).1
    rw [List.getElem?_map,List.getElem?_eq_getElem hil,List.getD_eq_getElem?_getD,List.getElem?_eq_getElem hil]; rfl
   have hil:i<xs.length:=by rw [<- pl']; exact (List.getElem?_eq_some_iff.mp hy).1
   obtain ⟨a,rfl,ha⟩:=hF.2 i y hy;obtain ⟨nn,rfl⟩:=O6 hx;have hnn:ns[i]?=some nn:=by
    rw [List.getElem?_map] at hx
    cases hni:ns[i]? with
    | none=>rw [hni] at hx; cases hx
    | some m=>rw [hni] at hx; cases hx; rfl
   generalize hfqe:t7 (xs.getD i 0) D=fq at hfq ha;have hq0:0<fq.2:=by rw [<- hfqe]; exact A9 hD
   have hqd':fq.2∣D:=by rw [<- hfqe]; exact a1m hD
   have hqP:fq.2<=D:=Int.le_of_dvd hD hqd';have hbP:b<=D:=Int.le_of_dvd hD hbD;have hg:=P8 (a:=b) hq0;have hgq:=a6i (a:=b) hq0;have hg8:gI b fq.2<2 ^ 8000:=Int.lt_of_le_of_lt hgq (Int.lt_of_le_of_lt hqP hD2);obtain ⟨d1,d2⟩:=D1 hb hg (F0 b fq.2);obtain ⟨d3,d4⟩:=D1 hq0 hg (C8 b fq.2);have hbd:b / gI b fq.2<=b:=by
    have:=V5 d1 hg;rw [Int.mul_comm,d2] at this;exact this
   have hqd:fq.2 / gI b fq.2<=fq.2:=by
    have:=V5 d3 hg;rw [Int.mul_comm,d4] at this;exact this
   have B1:Big 8000 (fq.2 / gI b fq.2):=B9 (Int.le_of_lt d3) (Int.lt_of_le_of_lt hqd (Int.lt_of_le_of_lt hqP hD2));have B2:Big 8000 (b / gI b fq.2):=B9 (Int.le_of_lt d1) (Int.lt_of_le_of_lt hbd (Int.lt_of_le_of_lt hbP hD2));have B3:Big 8000 fq.2:=B9 (Int.le_of_lt hq0) (Int.lt_of_le_of_lt hqP hD2);have Bn:=hbn nn (List.mem_of_getElem? hnn);have Bp:Big 20000 fq.1:=by rw [<- hfqe]; exact L9 hD (hbx _ (M4 hil))
   have s1:=Same.new hq (.tup [V.int nn,V.ref a]);have ha1:=(e1.trans s1).tseq ha;refine ⟨_,rfl,_,rfl,a,_,1,_,rfl,rfl,ha1,E8 _ _,b,fq.2,rfl,Int.le_of_lt hb,Int.le_of_lt hq0,?_⟩;refine ⟨_,rfl,_,rfl,a,_,1,_,rfl,rfl,ha1,E8 _ _,_,rfl,_,_,rfl,rfl,⟨hg,hg8⟩,_,_,rfl,rfl,⟨hbt.mono (by lia),B1.mono (by decide)⟩,?_⟩;refine ⟨_,rfl,_,rfl,a,_,0,_,rfl,rfl,ha1,D5 _ _,_,_,rfl,rfl,⟨Bn.mono (by decide),Bp.mono (by decide)⟩,_,rfl,_,rfl,_,_,rfl,rfl,⟨hg,hg8⟩,_,_,rfl,rfl,⟨(Bn.mul Bp).mono (by decide),B2.mono (by decide)⟩,_,_,rfl,rfl,?_⟩;refine ⟨_,rfl,_,rfl,_,_,rfl,rfl,⟨hg,hg8⟩,_,rfl,a,_,1,_,rfl,rfl,ha1,E8 _ _,_,_,rfl,rfl,⟨B2.mono (by decide),B3.mono (by decide)⟩,?_⟩;have hzi:(List.zip ns (xs.map λ x=>t7 x D))[i]?=some (nn,fq):=by rw [List.getElem?_zip_eq_some]; exact ⟨hnn,hfq⟩
   refine ⟨_,_,_,_,_,rfl,e1.trans s1,?_,Int.mul_pos d1 hq0,a4w hb hq0 hbD hqd',?_⟩
   ·rw [List.take_succ,hzi,List.foldl_append,<- htb]; rfl
   ·have b1:Big (30000+8001*i+8000) (t*(fq.2 / gI b fq.2)):=hbt.mul B1
    have b2:Big (30000+8001*i+8000) (nn*fq.1*(b / gI b fq.2)):=((Bn.mul Bp).mul B2).mono (by lia);exact (b1.add b2).mono (by lia)
  ·intro σ H1 hM_; refine A4 λ G_ hG_=>?_; obtain ⟨t,b,o4,o5,o6,rfl,e1,htb,hb,hbD,hbt⟩:=hM_; subst hG_
   rw [hmin,htk] at htb;exact fin t b o4 o5 o6 H1 e1 htb hb hbD
end
theorem a5u {a b c:Int} (hc:0<c):a*c<b*c ↔ a<b:=⟨λ h=>Int.lt_of_mul_lt_mul_right h (Int.le_of_lt hc),λ h=>Int.mul_lt_mul_of_pos_right h hc⟩
theorem D7 {a b D E:Int} (hD:0<D) (hE:0<E):(t7 a D).1*(t7 b E).2<(t7 b E).1*(t7 a D).2 ↔ a*E<b*D:=by
 obtain ⟨a1,a2⟩:=M6 (t:=a) hD;obtain ⟨b1,b2⟩:=M6 (t:=b) hE;have ga:=P8 (a:=a) hD;have gb:=P8 (a:=b) hE;have hc:0<gI a D*gI b E:=Int.mul_pos ga gb;rw [<- a5u hc];have e1:(t7 a D).1*(t7 b E).2*(gI a D*gI b E)=a*E:=by
  rw [Int.mul_comm (gI a D)]
  calc (t7 a D).1*(t7 b E).2*(gI b E*gI a D)=(gI a D*(t7 a D).1)*(gI b E*(t7 b E).2):=by ac_rfl
   _=a*E:=by rw [<- a1,<- b2]
 have e2:(t7 b E).1*(t7 a D).2*(gI a D*gI b E)=b*D:=by
  calc (t7 b E).1*(t7 a D).2*(gI a D*gI b E)=(gI b E*(t7 b E).1)*(gI a D*(t7 a D).2):=by ac_rfl
   _=b*D:=by rw [<- b1,<- a2]
 rw [e1,e2]
theorem a0k:t7 1 1=(1,1):=by decide
section
variable {P:Program} {w:World} {K:W.Frag} {mg:Str->Option Value} {base:Heap} {f:Addr} {fd:FuncData} {n:Nat}
def a0b (z:Str) (s D:Int):Prop:=((z="one"\/z="less")->s<=D)/\((z="one"\/z="more")->D<=s)
theorem scLlet:r8 ["book","sizes","mix","size"] ["book","sizes","mix"] (i3 a2M):=⟨rfl,rfl,rfl,by decide +kernel,rfl,by decide +kernel,by decide +kernel⟩
theorem b4A:(["part"]:List Str).Nodup:=by decide +kernel
theorem a4u:∀ ws:List Int,(List.zipWith (·*·) (List.replicate ws.length 1) ws).sum=ws.sum
 | []=>rfl
 | x::r=>by rw [List.length_cons,List.replicate_succ,List.zipWith_cons_cons,List.sum_cons,List.sum_cons,a4u r,Int.one_mul]
theorem a9R (k:Nat):(List.replicate k [V.int 1]).flatten=(List.replicate k (1:Int)).map V.int:=by
 induction k with
 | zero=>rfl
 | succ k ih=>rw [List.replicate_succ,List.flatten_cons,ih,List.replicate_succ,List.map_cons]; rfl
theorem Y6:∀ {ws:List Int} {m:Nat},(∀ x∈ws,Big m x)->ws.length<=200->Big (m+200) ws.sum:=λ {ws m} h hl=>by
 have key:∀ l:List Int,(∀ x∈l,Big m x)->l.sum.natAbs<=l.length*2 ^ m:=λ l=>by
  induction l with
  | nil=>intro _; exact Nat.zero_le _
  | cons x r ih =>
   intro h;have h1:x.natAbs<2 ^ m:=h x List.mem_cons_self;have h2:=ih λ y hy=>h y (List.mem_cons_of_mem _ hy);have h3:=Int.natAbs_add_le x r.sum;rw [List.sum_cons,List.length_cons,Nat.succ_mul];lia
 have h1:=key ws h;have h2:ws.length*2 ^ m<=200*2 ^ m:=Nat.mul_le_mul_right _ hl;have h3:200*2 ^ m<2 ^ (m+200):=by
  rw [Nat.pow_add,Nat.mul_comm];exact Nat.mul_lt_mul_of_pos_left (by decide) (Nat.pow_pos (by decide))
 exact Nat.lt_of_le_of_lt (Nat.le_trans h1 h2) h3
noncomputable def b4h {cdv:Value} {A:Around} {outer:List Env} {s:Shared} {H:Hp} {E:XK} {fa fb:Addr} {da db:FuncData} (T:w6 mg) (Cs:SCal P w K mg base n "_law_sum" ["numbers","parts"] (a0V K) fa da) (Cl:X7 P w K mg base n "_law_a_less" ["one","other"] (a0e K) fb db)
  (hr:Room n (A.deeper (PyProof.Rows.envOfC "_law_let" (i3 a2M) s.heap.objs.size f cdv))) :
  { t:TS // PSs (G9 G2 P w K mg base ["book","sizes","mix","size"] "_law_let" (i3 a2M) f cdv A outer s H E).nox (t9 a2M) t } :=
 ⟨_,p6 (x6 (PW.pt (a1O (p7 a0z (j9 j7 rfl T.len PySem.boot_len (c6 (pv 2) h8)) (j9 j7 rfl T.len PySem.boot_len (c6 (pv 0) h8)) (m8 _))
   (a0f (p7 (Z8 hr) (a3C ["part"] [] rfl (A5 (pv 2)) (λ _ _ _ _=>i8 (i:=0) b4A rfl (Or.inl rfl)) (λ _ _ _ _=>p7 Q0 (i9 (X3 K rfl) (pv 0) c7 (λ _ _=>rfl)) c7 (m8 _)) (λ _ _ _ _=>pv 0)) (x8 h8) (m8 _))))) (i7 (m6 J8)) r9)
  (p6 (m9 (i:=3) scLlet.nd rfl (Or.inl rfl) (j6 Cs.ok hr rfl Cs.m Cs.k Cs.b .nil t6 (c6 (j3 X2 (x8 (c6 c7 h8)) (j9 j7 rfl T.len PySem.boot_len (c6 (pv 2) h8))) (c6 (pv 2) h8))))
  (p6 (x6 (PW.pt (W5 (p7 Y8 (pv 1) (w4 (c6 D3 (c6 D3 h8))) rfl) (S4 (K9 (j6 Cl.ok hr rfl Cl.m Cl.k Cl.b .nil t6 (c6 (w4 (c6 c7 (c6 c7 h8))) (c6 (pv 3) h8))))))) (i7 (m6 J8)) r9)
  (i7 (m6 (b3s (C2 Y8 (pv 1) (w4 (c6 D3 (c6 D3 h8))) rfl) (a5n (b1h (j6 Cl.ok hr rfl Cl.m Cl.k Cl.b .nil t6 (c6 (pv 3) (c6 (w4 (c6 c7 (c6 c7 h8))) h8)))))))))) ⟩
theorem a8H:Big 1000000 (1:Int):=(B9 (n:=1) (i:=1) (by decide) (by decide)).mono (by decide)
end
def col (rows:List (List Int)) (i:Nat):List Int:=rows.map λ r=>r.getD i 0
section
variable {P:Program} {w:World} {K:W.Frag} {mg:Str->Option Value} {base:Heap} {f g:Addr} {fd gd:FuncData} {n:Nat}
def A3 (j:Nat) (h:j5):List Int:=if j=0 then h.1 else h.2
def SideOk (H:Hp) (hs:List j5) (ws:List Int) (D:Int) (j k:Nat) (a:Addr):Prop:=∃ ys,H a=some (.lst ys)/\ys.length=k/\∀ i y,ys[i]?=some y->FrT H y (t7 (List.zipWith (·*·) (col (hs.map (A3 j)) i) ws).sum D)
theorem SideOk.same {H H':Hp} {hs:List j5} {ws:List Int} {D:Int} {j k:Nat} {a:Addr} (e:Same H H') (h:SideOk H hs ws D j k a):SideOk H' hs ws D j k a:=by
 obtain ⟨ys,h1,h2,h3⟩:=h;exact ⟨ys,e _ _ h1,h2,λ i y hy=>(h3 i y hy).same e⟩
def T8 (K:W.Frag):Sp:=λ vs H Q _=>∃ (bl ml:Addr) (xs mxs:List V) (hs:List j5) (ws:List Int) (D:Int) (far:Int) (kt kg:Nat),vs=[.ref bl,.ref ml]/\SqL K H bl xs/\Bk K H xs hs/\1<=hs.length/\SqL K H ml mxs/\FrsV K H mxs ws D/\ws.length<=100/\(∀ x∈ws,Big 20000 x)/\0<D/\D<2 ^ 8000/\ws.length=hs.length ∧
 (∀ h∈hs,HG far kt kg h)/\far<2 ^ 90/\kt<=20/\kg<=20 ∧
 ∀ (r tl gl:Addr) (H':Hp),Same H H'->H' r=some (.lst [.ref tl,.ref gl])->SideOk H' hs ws D 0 kt tl->SideOk H' hs ws D 1 kg gl->Q (.ref r) H'
theorem scAm:r8 ["book","mix","found","side","sums","k"] ["book","mix"] (i3 T6):=⟨rfl,rfl,rfl,by decide +kernel,rfl,by decide +kernel,by decide +kernel⟩
theorem b4p:(["house","k","side"]:List Str).Nodup:=by decide +kernel
noncomputable def amT {cdv:Value} {A:Around} {outer:List Env} {s:Shared} {H:Hp} {E:XK} {fa:Addr} {da:FuncData} (T:w6 mg) (Cs:SCal P w K mg base n "_law_sum" ["numbers","parts"] (a0V K) fa da)
  (hr:Room n (A.deeper (PyProof.Rows.envOfC "_law_amounts" (i3 T6) s.heap.objs.size f cdv))) :
  { t:TS // PSs (G9 G2 P w K mg base ["book","mix","found","side","sums","k"] "_law_amounts" (i3 T6) f cdv A outer s H E).nox (t9 T6) t } :=
 ⟨_,i4 (m9 (i:=2) scAm.nd rfl (Or.inl rfl) (x8 h8))
  (i4 (P7 PassesOwn.never rfl (O1 rfl T.range (c6 c7 h8)) (i8 (i:=3) scAm.nd rfl (Or.inr rfl))
   (i4 (m9 (i:=4) scAm.nd rfl (Or.inl rfl) (x8 h8))
   (p6 (P7 PassesOwn.never rfl (O1 rfl T.range (c6 (j9 j7 rfl T.len PySem.boot_len (c6 (i9 t5 (i9 j0 (pv 0) c7 (λ _ _=>rfl)) (pv 3) (λ _ _=>rfl)) h8)) h8)) (i8 (i:=5) scAm.nd rfl (Or.inr rfl))
    (i7 (Q1 (a1Z PySem.F.plainAttrs_list PySem.F.slot_list_append PySem.F.type_list_append O5 (pv 4) (c6 (j6 Cs.ok hr rfl Cs.m Cs.k Cs.b .nil t6 (c6
     (J9 ["house"] [5,3] rfl (A5 (pv 0)) (λ _ _ _ _=>i8 (i:=0) b4p rfl (Or.inl rfl)) (λ _ _ _ _=>i9 (X3 K rfl) (i9 (X3 K rfl) (pv 0) (pv 2) (λ _ _=>rfl)) (pv 1) (λ _ _=>rfl))) (c6 (pv 1) h8))) h8)))))
   (i7 (Q1 (a1Z PySem.F.plainAttrs_list PySem.F.slot_list_append PySem.F.type_list_append O5 (pv 2) (c6 (pv 4) h8)))))))
  (i7 (m6 (pv 2))))⟩
theorem a5R (t g:Addr) (j:Nat) (hj:j<2):M2 [V.ref t,V.ref g] (0+(j:Int))=some (.ref (if j=0 then t else g)):=by
 rw [Int.zero_add];have:j=0\/j=1:=by lia
 rcases this with rfl | rfl
 ·exact r6 (j:=0) rfl
 ·exact r6 (j:=1) rfl
theorem a4L {fa:Addr} {da:FuncData} (F:Fun K "_law_amounts" "_law_amounts" T6 f fd) (T:w6 mg) (Cs:SCal P w K mg base n "_law_sum" ["numbers","parts"] (a0V K) fa da):FnOk P w K mg base G2 (n+1) f fd ["book","mix"] (T8 K):=by
 refine F.ok scAm (λ vs H Q E h=>?_) (λ cdv A outer s H vs Q E hr h=>?_)
 ·obtain ⟨bl,ml,xs,mxs,hs,ws,D,far,kt,kg,rfl,_⟩:=h
  rfl
 obtain ⟨bl,ml,xs,mxs,hs,ws,D,far,kt,kg,rfl,hS,hB,hn1,hM,hF,h100,hbw,hD,hD2,hlen,hG,hfar,hkt,hkg,q⟩:=h;refine ⟨_,(amT T Cs hr).2,?_⟩;have xl:xs.length=hs.length:=Paired.length hB;have hl100:=h100;have h0v:0<xs.length:=by lia
 obtain ⟨h0,hh0,⟨a0,t0,g0,ha0,hp0,ht0,hg0⟩⟩:=Paired.at hB (List.getElem?_eq_getElem h0v);have g0':=hG h0 (List.mem_of_getElem? hh0);have at0:M2 xs 0=some (.ref a0):=by
  rw [<- ha0];exact r6 (j:=0) (List.getElem?_eq_getElem h0v)
 refine ⟨(by show 0<=sizeLine; decide),λ fl hfl=>?_⟩;refine ⟨2,rfl,by decide,by decide,?_⟩;refine T9 (n:=2) (λ i σ H'=>∃ (ls:List Addr) (o3 o4 o5:Option V),σ=[some (.ref bl),some (.ref ml),some (.ref fl),o3,o4,o5]/\Same H H'/\H' fl=some (.lst (ls.map V.ref))/\ls.length=i/\∀ j a,ls[j]?=some a->a≠fl/\SideOk H' hs ws D j (if j=0 then kt else kg) a)
  ⟨[],_,_,_,rfl,Same.new hfl _,upd_same,rfl,λ j a e=>by simp at e⟩ ?_ ?_
 ·rintro i σ H1 hi ⟨ls,o3,o4,o5,rfl,e1,hfl1,hll,hls⟩
  refine ⟨(by show 0<=sizeLine; decide),λ sl hsl=>?_⟩;have f1:=Same.new hsl (.lst []);have nsf:fl≠sl:=i6 hfl1 hsl;have hk:∀ h∈hs,(A3 i h).length=(if i=0 then kt else kg)/\∀ x∈A3 i h,Big 100 x:=λ h hm=>by
   have g:=hG h hm;unfold A3
   by_cases h0:i=0
   ·rw [if_pos h0,if_pos h0]
    exact ⟨g.lt,λ x hx=>(B9 (n:=90) (by have:=(g.t x hx).1; lia) (Int.lt_of_le_of_lt (g.t x hx).2 hfar)).mono (by decide)⟩
   ·rw [if_neg h0,if_neg h0]
    exact ⟨g.lg,λ x hx=>(B9 (n:=90) (g.g x hx).1 (Int.lt_of_le_of_lt (g.g x hx).2 hfar)).mono (by decide)⟩
  refine ⟨λ σ' H'=>∃ o5,σ'=[some (.ref bl),some (.ref ml),some (.ref fl),some (.int (0+(i:Int))),some (.ref sl),o5]/\Same H1 H'/\SideOk H' hs ws D i (if i=0 then kt else kg) sl,?_,?_⟩
  ·have hside:SqT K (upd H1 sl (.lst [])) (if i=0 then t0 else g0) ((A3 i h0).map V.int):=by
    unfold A3
    by_cases h0:i=0
    ·rw [if_pos h0,if_pos h0]; exact (e1.trans f1).tseq ht0
    ·rw [if_neg h0,if_neg h0]; exact (e1.trans f1).tseq hg0
   have lk:=(hk h0 (List.mem_of_getElem? hh0)).1;refine ⟨_,rfl,bl,_,0,_,rfl,rfl,(e1.trans f1).seq hS,at0,_,rfl,a0,_,_,_,rfl,rfl,(e1.trans f1).tseq hp0,a5R t0 g0 i hi,_,_,rfl,.inr hside,_,rfl,?_,?_,?_⟩
   ·rw [List.length_map,lk]; split <;> lia
   ·rw [List.length_map,lk]; split <;> lia
   rw [List.length_map,lk,Int.toNat_natCast];generalize hkk:(if i=0 then kt else kg)=kk at hk lk ⊢;have hkk4:kk<=20:=by rw [<- hkk]; split <;> lia
   refine T9 (n:=kk) (λ m σ H'=>∃ (ys:List V) (o5:Option V),σ=[some (.ref bl),some (.ref ml),some (.ref fl),some (.int (0+(i:Int))),some (.ref sl),o5]/\Same H1 H'/\H' sl=some (.lst ys)/\ys.length=m/\∀ j y,ys[j]?=some y->FrT H' y (t7 (List.zipWith (·*·) (col (hs.map (A3 i)) j) ws).sum D))
    ⟨[],_,rfl,f1,upd_same,rfl,λ j y e=>by simp at e⟩ ?_ ?_
   ·rintro m σ H2 hm ⟨ys,o5',rfl,e2,hsl2,hyl,hys⟩
    have e02:=e1.trans e2;refine ⟨_,rfl,.inl ⟨rfl,_,SqL.of hsl2⟩,?_⟩;refine ⟨_,rfl,bl,rfl,⟨_,e02.seq hS⟩,λ p hp=>?_⟩;refine C9 (v6 (e02.seq hS)) hp (j8 (by lia)) (λ j y _=>∃ h,hs[j]?=some h/\y=.int ((A3 i h).getD m 0)) (λ _ _ _ _ r _=>r) (λ j x H' zs N hx e hp' hN=>?_) (λ zs H3 e3 hp3 len pr=>?_)
    ·obtain ⟨h,hh,⟨av,t,gv,rfl,q0,q1,q2⟩⟩:=Paired.at hB hx
     have hkh:=hk h (List.mem_of_getElem? hh);have hml:m<(A3 i h).length:=by rw [hkh.1]; exact hm
     have e':=e02.trans e;have sq:SqT K H' (if i=0 then t else gv) ((A3 i h).map V.int):=by
      unfold A3
      by_cases h0:i=0
      ·rw [if_pos h0,if_pos h0]; exact e'.tseq q1
      ·rw [if_neg h0,if_neg h0]; exact e'.tseq q2
     have am:M2 ((A3 i h).map V.int) (0+(m:Int))=some (.int ((A3 i h).getD m 0)):=by
      rw [Int.zero_add];exact r6 (by rw [List.getElem?_map,List.getElem?_eq_getElem hml,List.getD_eq_getElem?_getD,List.getElem?_eq_getElem hml]; rfl)
     exact ⟨Wk.set (by decide),_,rfl,_,rfl,av,_,_,_,rfl,rfl,e'.tseq q0,a5R t gv i hi,_,rfl,_,_,_,_,rfl,rfl,sq,am,hN _ _ (Same.refl _) ⟨h,hh,rfl⟩⟩
    ·have ez:zs=(col (hs.map (A3 i)) m).map V.int:=by
      unfold col;refine List.ext_getElem? λ j=>?_
      by_cases hj:j<zs.length
      ·obtain ⟨h,z1,z2⟩:=pr j _ (List.getElem?_eq_getElem hj)
       rw [List.getElem?_eq_getElem hj,z2,List.getElem?_map,List.getElem?_map,List.getElem?_map,z1]; rfl
      ·rw [List.getElem?_eq_none (by lia),List.getElem?_eq_none (by rw [List.length_map,List.length_map,List.length_map]; lia)]
     rw [ez] at hp3;have lcol:(col (hs.map (A3 i)) m).length=ws.length:=by unfold col; rw [List.length_map,List.length_map]; lia
     refine ⟨_,rfl,p,ml,col (hs.map (A3 i)) m,mxs,ws,D,rfl,.inl (SqL.of hp3),(e02.trans e3).seq hM,hF.same (e02.trans e3),lcol,by rw [lcol]; exact h100,λ x hx=>?_,hbw,hD,hD2,λ v H4 e4 hv=>?_⟩
     ·unfold col at hx
      obtain ⟨r,hr',rfl⟩:=List.mem_map.mp hx;obtain ⟨h,hm',rfl⟩:=List.mem_map.mp hr';have hkh:=hk h hm';have hml:m<(A3 i h).length:=by rw [hkh.1]; exact hm
      rw [List.getD_eq_getElem?_getD,List.getElem?_eq_getElem hml];exact hkh.2 _ (List.getElem_mem hml)
     ·have e34:=e3.trans e4
      refine ⟨sl,ys,v,rfl,rfl,e34 _ _ hsl2,j8 (by lia),?_⟩;have kp:Keep H4 (upd H4 sl (.lst (ys++[v]))):=Keep.upd (e34 _ _ hsl2);have stay:∀ {y:V} {x:Q2},FrT H4 y x->FrT (upd H4 sl (.lst (ys++[v]))) y x:=λ {y x} ⟨b,z1,z2⟩=>⟨b,z1,kp b _ z2 (λ _ w=>nomatch w)⟩;refine ⟨ys++[v],_,rfl,(e2.trans e34).write hsl,upd_same,by rw [List.length_append,hyl]; rfl,λ j y hy=>?_⟩
      by_cases hj:j<ys.length
      ·rw [List.getElem?_append_left hj] at hy
       exact stay ((hys j y hy).same e34)
      ·rw [List.getElem?_append_right (by lia)] at hy
       have hj':j - ys.length=0:=by
        cases q:j - ys.length with
        | zero=>rfl
        | succ k=>rw [q] at hy; simp at hy
       rw [hj'] at hy;have:j=m:=by lia
       subst this;simp at hy;subst hy;exact stay hv
   ·intro σ H2 hM_; refine A4 λ G_ hG_=>?_; obtain ⟨ys,o5',rfl,e2,hsl2,hyl,hys⟩:=hM_; subst hG_
    exact ⟨_,rfl,e2,ys,hsl2,hyl,hys⟩
  intro σ' H2 hM_; refine A4 λ G_ hG_=>?_; obtain ⟨o5',rfl,e2,hso⟩:=hM_; subst hG_;have hfl2:=e2 _ _ hfl1;refine ⟨_,rfl,.inl ⟨rfl,_,SqL.of hfl2⟩,_,rfl,fl,_,_,rfl,rfl,hfl2,by rw [List.length_map]; exact j8 (by lia),?_⟩;have stS:∀ {j k:Nat} {a:Addr},a≠fl->SideOk H2 hs ws D j k a->SideOk (upd H2 fl (.lst (ls.map V.ref++[V.ref sl]))) hs ws D j k a:=λ {j k a} na ⟨ys,z1,z2,z3⟩=>by
   have kp:Keep H2 (upd H2 fl (.lst (ls.map V.ref++[V.ref sl]))):=Keep.upd hfl2;exact ⟨ys,by rw [i5 na]; exact z1,z2,λ i y hy=>by
    obtain ⟨b,w1,w2⟩:=z3 i y hy;exact ⟨b,w1,kp b _ w2 (λ _ w=>nomatch w)⟩⟩
  refine ⟨ls++[sl],_,_,_,rfl,(e1.trans e2).write hfl,by rw [upd_same,List.map_append]; rfl,by rw [List.length_append,hll]; rfl,λ j a ha=>?_⟩
  by_cases hj:j<ls.length
  ·rw [List.getElem?_append_left hj] at ha
   obtain ⟨z1,z2⟩:=hls j a ha;exact ⟨z1,stS z1 (z2.same e2)⟩
  ·rw [List.getElem?_append_right (by lia)] at ha
   have hj':j - ls.length=0:=by
    cases q:j - ls.length with
    | zero=>rfl
    | succ k=>rw [q] at ha; simp at ha
   rw [hj'] at ha;have:j=i:=by lia
   subst this;simp at ha;subst ha;exact ⟨Ne.symm nsf,stS (Ne.symm nsf) hso⟩
 ·intro σ H1 hM_; refine A4 λ G_ hG_=>?_; obtain ⟨ls,o3,o4,o5,rfl,e1,hfl1,hll,hls⟩:=hM_; subst hG_
  match ls,hll with
  | [tl,gl],_ =>
   obtain ⟨_,s1⟩:=hls 0 tl rfl;obtain ⟨_,s2⟩:=hls 1 gl rfl;exact ⟨_,rfl,q fl tl gl H1 e1 hfl1 s1 s2⟩
end
end Rim
namespace L2
open PySem PySem.Spec PyProof.Rows
section
variable {xs ys:List V} {K:W.Frag} {l1 l2:Addr} {σ:St}
end
def b4M (K:W.Frag) (n:Nat) (t:TGs):TG:=λ v σ H Q=>∃ a xs,v=.ref a/\SqL K H a xs/\xs.length=n/\t xs σ H Q
theorem b1A (K:W.Frag) {X:Cx} {es:List Expr} {k:Nat} {t:TGs} {n:Nat} {pos:Pos} (hK:X.K=K) (hc:X.calm=true) (h:PGs X es t)
  (hn:(assignEach es X.env).length=n:=by rfl) (hst:(assignEach es X.env).findIdx? (·.1)=none:=by rfl):PG X (.Tuple es k pos) (b4M K n t):=by
 subst hK;intro pins s σ H v u Q I r hw;obtain ⟨a,xs,e1,hq,hl,hw⟩:=hw;subst e1
 cases r;obtain ⟨its,rv,ht,hz⟩:=I.list hq;rw [assign_Tuple];refine wpAny_bind (wpAny_standAt ?_);unfold unpack;rw [hn,hst];have hsz:its.toArray.size=n:=by simp [<- hl,rv.length]
 rw [<- hsz];refine wpAny_bind (wpAny_holding (W.kun_itemsOf (I.ok.hd hc) ht.isList λ h' hx=>?_));have I1:Inv X pins σ H { s with heap:=h' }:=I.kept (t':=s.toks) λ b o e=>hx b o (Nat.ne_of_lt (Heap.lt_size e)) e;exact h pins _ σ H xs _ Q I1 (by simpa using rv) hw
end L2
namespace Rim
open PySem L2 Fr
section
variable {P:Program} {w:World} {K:W.Frag} {mg:Str->Option Value} {base:Heap} {f:Addr} {fd:FuncData} {n:Nat}
def K6 (hs:List j5) (ws:List Int) (j i:Nat):Int:=(List.zipWith (·*·) (col (hs.map (A3 j)) i) ws).sum
theorem scMd:r8 ["book","number","sizes","mix","takes_by","gives_by","takes","gives","take","own","give"] ["book","number","sizes","mix","takes_by","gives_by"] (i3 T7):=⟨rfl,rfl,rfl,by decide +kernel,rfl,by decide +kernel,by decide +kernel⟩
end
theorem a1W {a b:Nat}:∀ {ns ws:List Int},(∀ x∈ns,Big a x)->(∀ x∈ws,Big b x)->∀ x∈List.zipWith (·*·) ns ws,Big (a+b) x
 | [],_,_,_,x,hx=>by simp at hx
 | _::_,[],_,_,x,hx=>by simp at hx
 | n::ns,w::ws,h1,h2,x,hx=>by
  rw [List.zipWith_cons_cons] at hx;rcases List.mem_cons.mp hx with e | e
  ·rw [e]; exact (h1 n List.mem_cons_self).mul (h2 w List.mem_cons_self)
  ·exact a1W (λ y hy=>h1 y (List.mem_cons_of_mem _ hy)) (λ y hy=>h2 y (List.mem_cons_of_mem _ hy)) x e
theorem M9 {far:Int} {kt kg:Nat} {h:j5} (g:HG far kt kg h) (hf:far<=2 ^ 60) (j:Nat):∀ x∈A3 j h,Big 100 x:=λ x hx=>by
 have:0<=x/\x<=far:=by
  unfold A3 at hx
  by_cases h0:j=0
  ·rw [if_pos h0] at hx; have:=g.t x hx; lia
  ·rw [if_neg h0] at hx; exact g.g x hx
 exact (B9 (n:=61) this.1 (by lia)).mono (by decide)
theorem a7v {l:List Int} {m:Nat} (h:∀ x∈l,Big m x) (j:Nat):Big m (l.getD j 0):=by
 rw [List.getD_eq_getElem?_getD]
 cases e:l[j]? with
 | none=>exact Nat.pow_pos (by decide)
 | some x=>exact h x (List.mem_of_getElem? e)
theorem a4n {hs:List j5} {ws:List Int} {far:Int} {kt kg:Nat} (hG:∀ h∈hs,HG far kt kg h) (hf:far<=2 ^ 60) (hw:∀ x∈ws,Big 20000 x) (hl:hs.length<=16) (j i:Nat):Big 20300 (K6 hs ws j i):=by
 unfold K6;have h1:∀ x∈col (hs.map (A3 j)) i,Big 100 x:=λ x hx=>by
  unfold col at hx;obtain ⟨r,hr,rfl⟩:=List.mem_map.mp hx;obtain ⟨h,hm,rfl⟩:=List.mem_map.mp hr;exact a7v (M9 (hG h hm) hf j) i
 have h2:=Y6 (a1W h1 hw) (by rw [List.length_zipWith]; unfold col; rw [List.length_map,List.length_map]; lia);exact h2.mono (by decide)
section
variable {P:Program} {w:World} {K:W.Frag} {mg:Str->Option Value} {base:Heap} {f:Addr} {fd:FuncData} {n:Nat}
end
def PrA (H:Hp) (t:Addr) (pt pg:List Int) (ps D:Int):Prop:=∃ (fa ga:Addr) (u:V) (fts gts:List V),H t=some (.tup [.ref fa,.ref ga,u])/\H fa=some (.lst fts)/\FrsAt H fts pt D/\H ga=some (.lst gts)/\FrsAt H gts pg D/\FrT H u (t7 ps D)
theorem PrA.same {H H':Hp} {t:Addr} {pt pg:List Int} {ps D:Int} (e:Same H H') (h:PrA H t pt pg ps D):PrA H' t pt pg ps D:=by
 obtain ⟨fa,ga,u,fts,gts,h1,h2,h3,h4,h5,h6⟩:=h;exact ⟨fa,ga,u,fts,gts,e _ _ h1,e _ _ h2,h3.same e,e _ _ h4,h5.same e,h6.same e⟩
theorem a2b {α:Type} (a b c:α):M2 [a,b,c] 0=some a:=r6 (j:=0) rfl
theorem a1H {α:Type} (a b c:α):M2 [a,b,c] 1=some b:=r6 (j:=1) rfl
theorem a2O {α:Type} (a b c:α):M2 [a,b,c] 2=some c:=r6 (j:=2) rfl
theorem FrsAt.snoc {H:Hp} {ys:List V} {xs:List Int} {D x:Int} {y:V} (h:FrsAt H ys xs D) (hy:FrT H y (t7 x D)):FrsAt H (ys++[y]) (xs++[x]) D:=by
 refine ⟨by simp [h.1],λ i u hu=>?_⟩;rw [E9]
 by_cases hi:i<ys.length
 ·rw [List.getElem?_append_left hi] at hu
  rw [if_pos (by rw [<- h.1]; exact hi)];exact h.2 i u hu
 ·rw [List.getElem?_append_right (by lia)] at hu
  have hi0:i - ys.length=0:=by
   cases z:i - ys.length with
   | zero=>rfl
   | succ k=>rw [z] at hu; simp at hu
  rw [hi0] at hu;have:y=u:=by simpa using hu
  subst this;rw [if_neg (by rw [<- h.1]; exact hi),<- h.1,hi0];exact hy
theorem a1u:∀ {xs ys:List Int} {a b:Int},xs.length=ys.length->(List.zipWith (·*·) (xs++[a]) (ys++[b])).sum=(List.zipWith (·*·) xs ys).sum+a*b
 | [],[],a,b,_=>by simp
 | x::xs,y::ys,a,b,h=>by
  rw [List.cons_append,List.cons_append,List.zipWith_cons_cons,List.zipWith_cons_cons,List.sum_cons,List.sum_cons,a1u (by simpa using h),Int.add_assoc]
section
variable {P:Program} {w:World} {K:W.Frag} {mg:Str->Option Value} {base:Heap} {f:Addr} {fd:FuncData} {n:Nat}
structure PrN (pt pg:List Int) (ps D:Int) (kt kg:Nat):Prop where
 lt:pt.length=kt
 lg:pg.length=kg
 bt:∀ x∈pt,0<=x/\Big 5000 x
 bg:∀ x∈pg,0<=x/\Big 5000 x
 bs:Big 5000 ps
 d:0<D
 d2:D<2 ^ 4000
def D0 (h:j5) (pg:List Int) (ps:Int):Int:=(List.zipWith (·*·) h.2 pg).sum+ps
def N8 (h:j5) (pt:List Int):Int:=(List.zipWith (·*·) h.1 pt).sum
theorem scLeft:r8 ["house","prices","got","spent"] ["house","prices"] (i3 a8g):=⟨rfl,rfl,rfl,by decide +kernel,rfl,by decide +kernel,by decide +kernel⟩
theorem a8M {ns xs:List Int} {far:Int} {m k:Nat} (h1:∀ x∈ns,Big 100 x) (h2:∀ x∈xs,Big 5001 x) (hl:ns.length<=200):Big 30000 (List.zipWith (·*·) ns xs).sum:=(Y6 (a1W h1 h2) (by rw [List.length_zipWith]; lia)).mono (by decide)
end
section
variable {P:Program} {w:World} {K:W.Frag} {mg:Str->Option Value} {base:Heap} {f:Addr} {fd:FuncData} {n:Nat}
def U6 (z:Str) (ps:Int):Prop:=((z="any"\/z="less")->ps<=0)/\((z="any"\/z="more")->0<=ps)
theorem b5d:r8 ["book","sizes","prices"] ["book","sizes","prices"] (i3 O3):=⟨rfl,rfl,rfl,by decide +kernel,rfl,by decide +kernel,by decide +kernel⟩
theorem b2F:(["price"]:List Str).Nodup:=by decide +kernel
theorem b2A:(["house","prices"]:List Str).Nodup:=by decide +kernel
end
mutual
theorem a3V:∀ d:PyData,d.canLay0=true->PyData.eqv d d=true
 | .none,_=>by rw [PyData.eqv]
 | .bool b,_=>by rw [PyData.eqv]; simp
 | .int i,_=>by rw [PyData.eqv]; simp
 | .str x,_=>by rw [PyData.eqv]; simp
 | .list xs,h=>by rw [PyData.eqv]; exact X0 xs (by rw [PyData.canLay0] at h; exact h)
 | .tuple xs,h=>by rw [PyData.eqv]; exact X0 xs (by rw [PyData.canLay0] at h; exact h)
 | .dict kvs,h=>by rw [PyData.canLay0] at h; cases h
theorem X0:∀ ds:List PyData,PyData.canLayAll0 ds=true->PyData.eqvAll ds ds=true
 | [],_=>by rw [PyData.eqvAll]
 | d::r,h=>by
  rw [PyData.canLayAll0,Bool.and_eq_true] at h;rw [PyData.eqvAll,a3V d h.1,X0 r h.2]; rfl
end
def dF (x:Q2):PyData:=.tuple [.int x.1,.int x.2]
theorem FrV.dp {K:W.Frag} {H:Hp} {v:V} {x:Q2} (h:FrV K H v x):Dp K H v (dF x):=by
 obtain ⟨a,rfl,q⟩:=h;exact .tup q (.cons (.int _) (.cons (.int _) .nil))
theorem a4x (x:Q2):(dF x).canLay0=true:=by
 unfold dF;rw [PyData.canLay0,PyData.canLayAll0,PyData.canLay0,PyData.canLayAll0,PyData.canLay0,PyData.canLayAll0]; rfl
theorem b2Q (x:Q2):(dF x).depth<=60:=by
 unfold dF;simp [PyData.depth,PyData.depthAll]
theorem J4 {x D:Int} (hD:0<D):(t7 x D).1*D=x*(t7 x D).2:=by
 obtain ⟨h1,h2⟩:=M6 (t:=x) hD;generalize (t7 x D).1=a at *;generalize (t7 x D).2=b at *;generalize gI x D=g at *;rw [h1,h2]
 ac_rfl
theorem a4C {D:Int} (hD:0<D):t7 D D=(1,1):=by
 have:t7 D D=t7 1 1:=R3 hD (by decide) (by lia);rw [this,a0k]
section
variable {P:Program} {w:World} {K:W.Frag} {mg:Str->Option Value} {base:Heap} {f:Addr} {fd:FuncData} {n:Nat}
end
section
variable {P:Program} {w:World} {K:W.Frag} {mg:Str->Option Value} {base:Heap} {f:Addr} {fd:FuncData} {n:Nat}
end
end Rim
namespace Lp
section
variable {m q:Nat} {A:Nat->Nat->Int} {b c:Nat->Int} {S S':Bo}
end
end Lp
namespace Rim
open PySem L2 Fr
abbrev P2 (l x:List Int):Int:=(List.zipWith (·*·) l x).sum
theorem a6n:∀ (l x:List Int),P2 (l.map λ y=>-y) x = - P2 l x
 | [],x=>by simp [P2]
 | a::l,[]=>by simp [P2]
 | a::l,y::x=>by
  have:=a6n l x;unfold P2 at *;rw [List.map_cons,List.zipWith_cons_cons,List.sum_cons,this,List.zipWith_cons_cons,List.sum_cons,Int.neg_mul];lia
theorem a6y:∀ (k:Nat) (x:List Int),P2 (List.replicate k 0) x=0
 | 0,x=>by simp [P2]
 | k+1,[]=>by simp [P2]
 | k+1,y::x=>by
  have:=a6y k x;unfold P2 at *;rw [List.replicate_succ,List.zipWith_cons_cons,List.sum_cons,this]; lia
theorem a3M:∀ (l x:List Int),P2 l x=P2 x l
 | [],x=>by simp [P2]
 | a::l,[]=>by simp [P2]
 | a::l,y::x=>by
  have:=a3M l x;unfold P2 at *;rw [List.zipWith_cons_cons,List.sum_cons,this,List.zipWith_cons_cons,List.sum_cons,Int.mul_comm]
theorem a0O:∀ (n:Nat) (l x:List Int),l.length=n->x.length=n->Lp.sumTo (λ j=>l.getD j 0*x.getD j 0) n=P2 l x
 | 0,l,x,h1,h2=>by
  rw [List.eq_nil_of_length_eq_zero h1]; simp [P2,Lp.sumTo]
 | n+1,l,x,h1,h2=>by
  obtain ⟨l',a,rfl⟩:∃ l' a,l=l'++[a]:=⟨l.dropLast,l.getLast (by intro z; rw [z] at h1; cases h1),(List.dropLast_concat_getLast _).symm⟩;obtain ⟨x',b,rfl⟩:∃ l' a,x=l'++[a]:=⟨x.dropLast,x.getLast (by intro z; rw [z] at h2; cases h2),(List.dropLast_concat_getLast _).symm⟩;have l1:l'.length=n:=by simpa using h1
  have l2:x'.length=n:=by simpa using h2
  show Lp.sumTo _ n+_=_
  have e:Lp.sumTo (λ j=>(l'++[a]).getD j 0*(x'++[b]).getD j 0) n=Lp.sumTo (λ j=>l'.getD j 0*x'.getD j 0) n:=Lp.sum_congr λ j hj=>by
   rw [E9,E9,if_pos (by lia),if_pos (by lia)]
  rw [e,a0O n l' x' l1 l2]
  show _=(List.zipWith (·*·) (l'++[a]) (x'++[b])).sum
  rw [a1u (by lia)]
  show P2 l' x'+(l'++[a]).getD n 0*(x'++[b]).getD n 0=_
  rw [E9,E9,if_neg (by lia),if_neg (by lia),l1,l2,Nat.sub_self]; rfl
theorem a3j {n:Nat} {F:Nat->Int} {j:Nat} (h:j<n):((List.range n).map F).getD j 0=F j:=by
 rw [List.getD_eq_getElem?_getD,List.getElem?_map,List.getElem?_range h]; rfl
theorem a2S {m q:Nat} {A:Nat->Nat->Int} {b c:Nat->Int} {S:Lp.Bo} (O:Lp.Of m q A b c S) (sz:Sz 4000 m q S) {v:Nat} (hv:v<q+m):Big 4000 (Lp.valOut m q S v):=by
 rcases O.w.all v hv with ⟨i,hi,e⟩ | ⟨j,hj,e⟩
 ·have:Lp.valOut m q S v=0:=Lp.sum_zero λ k hk=>if_neg λ z=>O.w.io i k hi hk (e.trans z.symm)
  rw [this]
  show (0:Int).natAbs<2 ^ 4000
  exact Nat.pow_pos (by decide)
 ·have:Lp.valOut m q S v=S.T m j:=by
   unfold Lp.valOut;rw [Lp.sum_one hj λ k hk hn=>if_neg λ z=>hn (O.w.oo k j hk hj (z.trans e.symm)),if_pos e]
  rw [this];exact sz.1 m j (by lia) (by lia)
section
variable {m q:Nat} {rows:List (List Int)} {bnd goal:List Int} {S:Lp.Bo}
theorem a9x (O:Lp.Of m q (Arr rows) (R8 bnd) (R8 goal) S) (hn:∀ j,j<q->¬ S.T m j<0) (hl:rows.length=m) {j:Nat} (hj:j<q):goal.getD j 0*S.d<=P2 (col rows j) (A8 m q S):=by
 have h:=O.dual.1 j hj;have nn:0<=Lp.valOut m q S j:=Lp.Of.valOut_nn (λ j hj=>by have:=hn j hj; lia) j;have e:Lp.sumTo (λ i=>Arr rows i j*Lp.valOut m q S (q+i)) m=P2 (col rows j) (A8 m q S):=by
  rw [<- a0O m (col rows j) (A8 m q S) (by unfold col; rw [List.length_map]; exact hl) (by unfold A8; simp)];refine Lp.sum_congr λ i hi=>?_;unfold A8;rw [a3j hi]
  congr 1
  unfold Arr col;rw [List.getD_eq_getElem?_getD (l:=List.map _ rows),List.getElem?_map,List.getD_eq_getElem?_getD (l:=rows),List.getElem?_eq_getElem (by lia)]; rfl
 rw [e] at h
 show R8 goal j*S.d<=_
 lia
theorem b0r (O:Lp.Of m q (Arr rows) (R8 bnd) (R8 goal) S) (hl:bnd.length=m):P2 bnd (A8 m q S)=S.T m q:=by
 have h:=O.dual.2;have e:Lp.sumTo (λ i=>R8 bnd i*Lp.valOut m q S (q+i)) m=P2 bnd (A8 m q S):=by
  rw [<- a0O m bnd (A8 m q S) hl (by unfold A8; simp)];refine Lp.sum_congr λ i hi=>?_;unfold A8;rw [a3j hi]; rfl
 rw [e] at h;exact h
theorem b1Z (hn:∀ j,j<q->¬ S.T m j<0):∀ x∈A8 m q S,0<=x:=λ x hx=>by
 unfold A8 at hx;obtain ⟨i,_,rfl⟩:=List.mem_map.mp hx;exact Lp.Of.valOut_nn (λ j hj=>by have:=hn j hj; lia) _
end
theorem a2w (a b c:List Int) (j:Nat):(a++b++c).getD j 0=if j<a.length then a.getD j 0 else if j<a.length+b.length then b.getD (j - a.length) 0 else c.getD (j - (a.length+b.length)) 0:=by
 rw [E9,List.length_append]
 by_cases h1:j<a.length
 ·rw [if_pos (by lia),if_pos h1,E9,if_pos h1]
 ·by_cases h2:j<a.length+b.length
  ·rw [if_pos h2,if_neg h1,if_pos h2,E9,if_neg h1]
  ·rw [if_neg h2,if_neg h1,if_neg h2]
abbrev ptA (h:j5) (xs:List Int):List Int:=xs.take h.1.length
abbrev pgA (h:j5) (xs:List Int):List Int:=(xs.drop h.1.length).take h.2.length
abbrev psA (z:Str) (h:j5) (xs:List Int):Int:=P2 (xs.drop (h.1.length+h.2.length)) (S2 z)
theorem a4a {a b:List Int} {x y:Int} (h:a.length=b.length):P2 (a++[x]) (b++[y])=P2 a b+x*y:=a1u h
theorem a2N (s:Int):∀ (hs:List j5) (ws:List Int),hs.length=ws.length->P2 (hs.map λ _=>s) ws=s*ws.sum
 | [],[],_=>by simp [P2]
 | _::hs,w::ws,h=>by
  have:=a2N s hs ws (by simpa using h);unfold P2 at *;rw [List.map_cons,List.zipWith_cons_cons,List.sum_cons,this,List.sum_cons,Int.mul_add]
 | [],_::_,h=>by simp at h
 | _::_,[],h=>by simp at h
section
variable {z:Str} {hs:List j5} {h:j5} {kt kg:Nat} (hk:∀ g∈hs,g.1.length=kt/\g.2.length=kg)
include hk
theorem a6X (ws:List Int) {j:Nat} (hj:j<kt):P2 (col (hs.map (D4 z)) j) ws = - K6 hs ws 0 j:=by
 have e:col (hs.map (D4 z)) j=(col (hs.map (A3 0)) j).map λ y=>-y:=by
  unfold col;rw [List.map_map,List.map_map,List.map_map];refine List.map_congr_left λ g hg=>?_
  show (D4 z g).getD j 0 = - (A3 0 g).getD j 0
  have:=hk g hg;unfold D4;rw [a2w,List.length_map,if_pos (by lia),a2n]; rfl
 rw [e,a6n]; rfl
theorem a7r (ws:List Int) {j:Nat} (hj:j<kg):P2 (col (hs.map (D4 z)) (kt+j)) ws=K6 hs ws 1 j:=by
 have e:col (hs.map (D4 z)) (kt+j)=col (hs.map (A3 1)) j:=by
  unfold col;rw [List.map_map,List.map_map];refine List.map_congr_left λ g hg=>?_
  show (D4 z g).getD (kt+j) 0=(A3 1 g).getD j 0
  have:=hk g hg;unfold D4;rw [a2w,List.length_map,if_neg (by lia),if_pos (by lia),this.1,Nat.add_sub_cancel_left]; rfl
 rw [e]; rfl
theorem a7A {ws:List Int} (hw:hs.length=ws.length) (t:Nat):P2 (col (hs.map (D4 z)) (kt+kg+t)) ws=(S2 z).getD t 0*ws.sum:=by
 have e:col (hs.map (D4 z)) (kt+kg+t)=hs.map λ _=>(S2 z).getD t 0:=by
  unfold col;rw [List.map_map];refine List.map_congr_left λ g hg=>?_
  show (D4 z g).getD (kt+kg+t) 0=_
  have:=hk g hg;unfold D4;rw [a2w,List.length_map,if_neg (by lia),if_neg (by lia),this.1,this.2,Nat.add_sub_cancel_left]
 rw [e,a2N _ _ _ hw]
end
structure b5F (z:Str) (hs:List j5) (h:j5) (S:Lp.Bo) (kt kg:Nat) (ws:List Int):Prop where
 lw:ws.length=hs.length
 nn:∀ x∈ws,0<=x/\Big 20000 x
 size:a0b z ws.sum S.d
 takes:∀ j,j<kt->K6 hs ws 0 j<=h.1.getD j 0*S.T (mE hs) (qE z h)
 gives:∀ j,j<kg->h.2.getD j 0*S.d<=K6 hs ws 1 j
 pos:0<S.T (mE hs) (qE z h)
 le:h∈hs->S.T (mE hs) (qE z h)<=S.d
 fair:∀ g∈hs,D0 g (pgA h (y4 (mE hs) (qE z h) S)) (psA z h (y4 (mE hs) (qE z h) S))<=N8 g (ptA h (y4 (mE hs) (qE z h) S))
 pays:N8 h (ptA h (y4 (mE hs) (qE z h) S))=S.d
 earns:D0 h (pgA h (y4 (mE hs) (qE z h) S)) (psA z h (y4 (mE hs) (qE z h) S))=S.T (mE hs) (qE z h)
 pr:PrN (ptA h (y4 (mE hs) (qE z h) S)) (pgA h (y4 (mE hs) (qE z h) S)) (psA z h (y4 (mE hs) (qE z h) S)) S.d kt kg
 sign:U6 z (psA z h (y4 (mE hs) (qE z h) S))
end Rim
namespace L2
open PySem PySem.Spec PyProof.Rows
theorem a6W {P:Program} {w:World} {K:W.Frag} {mg mb:Str->Option Value} {CX:CXT} {k:Nat} {fa a:Addr} {fd:FuncData} {x:Str} {sp:Sp} {s₁:Shared} {vs:List Value} {ns:List Int} {Ps:List Addr}
  (KX:K.In s₁.heap) (hns:s₁.heap.Ns mainGlobals mg) (hb:s₁.heap.Ns builtinsNs mb) (hbb:∀ x:Str,x≠"__name__"->mb x=bootBuiltins x) (hlim:s₁.heap.NoLimit) (hg:s₁.gens=#[])
  (ha:s₁.heap.get? a=some { cls:=.type "list",data:=.seq vs.toArray }) (hi:IntsAre vs ns) (hl:ns.length<=sizeLine) (hr:Room k callerA)
  (hT:∀ p∈Ps,∃ c,s₁.heap.TableAt c p #[]) (hKP:∀ p∈Ps,K.lookup p=none) (BM:V6 mg s₁.heap)
  (F:∀ base:Heap,K.In base->base.Ns mainGlobals mg->V6 mg base->FnOk P w K mg base CX k fa fd [x] sp) (hbind:∀ (s:Shared) (u:Value),BindsTo s fd ⟨[u],[]⟩ [(x,u)])
  (hsp:∀ H:Hp,(∀ p∈Ps,H p=some (.tbl #[]))->SqL K H a (ns.map V.int)->sp [.ref a] H (λ v _=>v=.bl true) λ _ _ _=>False)
  (hCX:∀ H e s',CX [] H s₁ (λ _ _ _=>False) e s'->False) :
  codeAny (model P w) callerA (.call (.ref fa) ⟨[.ref a],[]⟩) (λ r s'=>r=.ok (.ret (.bool true))/\OldK s₁.heap s'.heap/\s'.os=s₁.os/\AllBare s'.gens) s₁:=by
 have rv:=a2C hi;have lenV:=hi.length;have tabObj:∀ p∈Ps,s₁.heap.get? p=some { cls:=.none,data:=.fields #[] }:=λ p hp=>by
  obtain ⟨c,z⟩:=hT p hp;exact z.2
 have core:∀ H:Hp,(∀ b,H b=none\/(∃ o xs,H b=some (.frz o (.lst xs)))\/(b∈Ps/\H b=some (.tbl #[])))->(∀ p∈Ps,H p=some (.tbl #[]))->SqL K H a (ns.map V.int)->HOk P w H s₁.heap->(∀ b,H b≠none->b=a\/b∈Ps)->(H a≠none->K.lookup a=none) →
   codeAny (model P w) callerA (.call (.ref fa) ⟨[.ref a],[]⟩) (λ r s'=>r=.ok (.ret (.bool true))/\OldK s₁.heap s'.heap/\s'.os=s₁.os/\AllBare s'.gens) s₁:=by
  intro H hO hP hS hok hA hK;have base_of:∀ {b:Addr} {o:Obj},s₁.heap.get? b=some o->H b=none->(a2p s₁.heap H).get? b=some o:=λ e n=>a8F e n;have noA:∀ {b:Addr} {o:Obj} {es:Array DictEntry} {ep:Nat},s₁.heap.get? b=some o->o.data=.dict es ep->H b=none:=λ {b o es ep} e d=>by
   cases q:H b with
   | none=>rfl
   | some u =>
    rcases hA b (by rw [q]; simp) with e' | e'
    ·subst e'
     rw [ha] at e; cases e;have d':Data.seq vs.toArray _=Data.dict es ep:=d
     cases d'
    ·rw [tabObj b e'] at e; cases e
     have d':Data.fields #[]=Data.dict es ep:=d
     cases d'
  have nsK:∀ {b:Addr} {m:Str->Option Value},s₁.heap.Ns b m->(a2p s₁.heap H).Ns b m:=λ {b m} ⟨o,es,ep,e,d,r⟩=>⟨o,es,ep,base_of e (noA e d),d,r⟩;have hKb:K.In (a2p s₁.heap H):=λ b o e=>base_of (KX b o e) (by
   cases q:H b with
   | none=>rfl
   | some u =>
    rcases hA b (by rw [q]; simp) with e' | e'
    ·subst e'
     rw [hK (by rw [q]; simp)] at e; cases e
    ·rw [hKP b e'] at e; cases e)
  have hM:Mod K mg (a2p s₁.heap H):=⟨hKb,nsK hns,⟨mb,nsK hb,hbb⟩,let ⟨mc,h1,h2⟩:=hlim; ⟨mc,nsK h1,h2⟩⟩;have BM':V6 mg (a2p s₁.heap H):=by
   obtain ⟨bm,ob,b1,b2,b3,b4,b5,b6⟩:=BM;refine ⟨bm,ob,b1,b2,base_of b3 ?_,b4,b5,b6⟩
   cases q:H bm with
   | none=>rfl
   | some u =>
    rcases hA bm (by rw [q]; simp) with e' | e'
    ·subst e'
     rw [ha] at b3; cases b3; exact absurd b4 (by intro z; injection z with z; exact absurd z (by decide))
    ·rw [tabObj bm e'] at b3; cases b3; cases b4
  have e0:Env0 P w K mg (a2p s₁.heap H) callerA [] s₁ H:=⟨rfl,hM,λ b o e=>a9u e,Nat.le_of_eq (a6N _ _),trivial,λ b hb=>absurd (show b∈([]:List Addr) from hb) (by simp),hok,.of_eq hg⟩;refine codeAny_mono ((F _ hKb (nsK hns) BM').run callerA [] s₁ H ⟨[.ref a],[]⟩ [.ref a] [.ref a] _ _ hr e0 (hbind s₁ (.ref a)) (.cons rfl .nil) (hsp H hP hS)) λ r s' h=>?_
  cases r with
  | error e=>exact (hCX H e s' h).elim
  | ok fl =>
   cases fl with
   | next=>exact False.elim h
   | brk=>exact False.elim h
   | cont=>exact False.elim h
   | ret u =>
    obtain ⟨v,H',os,bare,un,hok',r',q⟩:=h;have q':v=.bl true:=q;subst q';obtain rfl:u=Value.bool true:=r';refine ⟨rfl,⟨λ b o e=>?_,λ b o e=>un.there b o e (by simp)⟩,os,bare⟩;rcases hO b with q | ⟨ob,xs,z⟩ | ⟨hbP,z⟩
    ·exact .inl (un.keep b o e q (by intro z; exact absurd (show b∈([]:List Addr) from z) (by simp)) (by simp))
    ·have z2:=un.frzs b ob _ z
     obtain ⟨e1,_⟩:=hok b _ z;obtain ⟨e2,_⟩:=hok' b _ z2;rw [e] at e1; cases e1;exact .inl e2
    ·obtain ⟨more,z2⟩:=un.tbls b _ z
     have e2:s'.heap.get? b=some { cls:=.none,data:=.fields (#[]++more) }:=hok' b _ z2;rw [tabObj b hbP] at e; cases e;obtain ⟨c,ht⟩:=hT b hbP;exact .inr (.inl ⟨ht.isCodeTable,rfl,#[],more,rfl,e2⟩)
 have aP:a ∉ Ps:=λ z=>by
  have:=tabObj a z;rw [ha] at this; cases this
 cases hk:K.lookup a with
 | some o =>
  have e:=KX a o hk;rw [ha] at e
  cases e;refine core (λ b=>if b∈Ps then some (.tbl #[]) else none) (λ b=>?_) (λ p hp=>if_pos hp) (.inr ⟨_,vs.toArray,_,hk,rfl,rfl,rfl,by rw [List.size_toArray,lenV]; exact hl,by simpa using rv⟩) (λ b u z=>?_) (λ b z=>?_) λ z=>absurd (if_neg aP) z
  ·by_cases hb:b∈Ps
   ·exact .inr (.inr ⟨hb,if_pos hb⟩)
   ·exact .inl (if_neg hb)
  ·by_cases hb:b∈Ps
   ·have z':=(if_pos hb).symm.trans z
    cases z';exact tabObj b hb
   ·have z':=(if_neg hb).symm.trans z
    cases z'
  ·by_cases hb:b∈Ps
   ·exact .inr hb
   ·exact absurd (if_neg hb) z
 | none =>
  refine core (λ b=>if b=a then some (.frz { cls:=.type "list",data:=.seq vs.toArray } (.lst (ns.map V.int))) else if b∈Ps then some (.tbl #[]) else none) (λ b=>?_) (λ p hp=>?_) (.inl (.inr ⟨{ cls:=.type "list",data:=.seq vs.toArray },if_pos rfl⟩)) (λ b u z=>?_) (λ b z=>?_) λ _=>hk
  ·by_cases hb:b=a
   ·exact .inr (.inl ⟨_,_,if_pos hb⟩)
   ·by_cases hb2:b∈Ps
    ·exact .inr (.inr ⟨hb2,(if_neg hb).trans (if_pos hb2)⟩)
    ·exact .inl ((if_neg hb).trans (if_neg hb2))
  ·have hb:p≠a:=λ z=>aP (z ▸ hp)
   exact (if_neg hb).trans (if_pos hp)
  ·by_cases hb:b=a
   ·have z':=(if_pos hb).symm.trans z
    cases z';subst hb;exact ⟨ha,by rw [List.length_map]; exact hl,vs,_,rv,ha⟩
   ·by_cases hb2:b∈Ps
    ·have z':=((if_neg hb).trans (if_pos hb2)).symm.trans z
     cases z';exact tabObj b hb2
    ·have z':=((if_neg hb).trans (if_neg hb2)).symm.trans z
     cases z'
  ·by_cases hb:b=a
   ·exact .inl hb
   ·by_cases hb2:b∈Ps
    ·exact .inr hb2
    ·exact absurd ((if_neg hb).trans (if_neg hb2)) z
theorem walk_ofT {l:W.OpenLaw} {n k:Nat} {q:Program} {loose:List Str} {XP:(Str->Option Value)->Heap->Prop} {YP:World->Heap->Prop} {d:DefRec} {K:Params->W.Frag} {CX:World->CXT} {sp:World->Sp} {x:Str} {Ts:List (Addr×Addr)}
  (hn:l.most=some n) (hn2:n<=sizeLine) (hdf:d.params.defaults=[]) (hr:Room k callerA)
  (hY:∀ (w:World) (h:Heap),YP w h->(K w.params).In h/\∀ t∈Ts,h.get? t.2=some (W.tabObj #[]))
  (hC:∀ (w:World),∀ t∈Ts,W.codeHdIn (K w.params) t.1 t.2=true/\(K w.params).lookup t.2=none)
  (F:∀ (w:World) (mg:Str->Option Value) (fa:Addr) (h:Heap),(K w.params).In h->h.Ns mainGlobals mg->mg d.name=some (.ref fa) →
   ∃ fd:FuncData,(∀ (s:Shared) (u:Value),BindsTo s fd ⟨[u],[]⟩ [(x,u)]) ∧
    ∀ base:Heap,(K w.params).In base->base.Ns mainGlobals mg->V6 mg base->(∀ t∈Ts,W.CodeHd base t.1 t.2)->FnOk l.prog w (K w.params) mg base (CX w) k fa fd [x] (sp w))
  (hsp:∀ (w:World) (H:Hp) (a:Addr) (ns:List Int),ns.length<=n->(∀ t∈Ts,H t.2=some (.tbl #[]))->SqL (K w.params) H a (ns.map V.int)->sp w [.ref a] H (λ v _=>v=.bl true) λ _ _ _=>False)
  (hCX:∀ (w:World) (H:Hp) (s:Shared) (e:Value) (s':Shared),CX w [] H s (λ _ _ _=>False) e s'->False) :
  W.WalkO q loose XP YP l.row.toRowW d [] (λ f vs=>PySem.call f vs):=by
 refine Att.attach_call hn hdf λ w s₀ s₁ mg mb fa o pm cd doc a vs ns G Y ho hd hcd hmg hobj hints hlen hg=>?_;obtain ⟨KX,hTb⟩:=hY w _ Y;obtain ⟨fd,hb,hF⟩:=F w mg fa _ KX G.T.g hmg;have mem:∀ p∈Ts.map (·.2),∃ t∈Ts,t.2=p:=λ p hp=>by
  obtain ⟨t,h1,h2⟩:=List.mem_map.mp hp;exact ⟨t,h1,h2⟩
 refine a6W (Ps:=Ts.map (·.2)) KX G.T.g G.T.b G.T.builtins G.T.nolimit hg hobj hints (Nat.le_trans hlen hn2) hr (λ p hp=>?_) (λ p hp=>?_) G.T.bmain (λ base kb nb bm=>hF base kb nb bm λ t ht=>W.codeHd_of_K kb (hC w t ht).1) hb (λ H hP hS=>hsp w H a ns hlen (λ t ht=>hP _ (List.mem_map_of_mem ht)) hS) λ H e s'=>hCX w H s₁ e s'
 ·obtain ⟨t,h1,rfl⟩:=mem p hp
  exact ⟨t.1,(W.codeHd_of_K KX (hC w t h1).1).tab (hTb t h1)⟩
 ·obtain ⟨t,h1,rfl⟩:=mem p hp
  exact (hC w t h1).2
end L2
namespace L2
open PySem
theorem a4S {X:Cx} {P:Program} {w:World}:U5 (CX1 P w) X E0:=λ _ _ _ _ _ _ _ ⟨_,_,_,_,_,_,_,h⟩=>h.elim
theorem Same.to1 {P:Addr} {H H':Hp} (e:Same H H'):Same1 P H H':=λ b o _ h=>e b o h
theorem Same1.refl {P:Addr} {H:Hp}:Same1 P H H:=λ _ _ _ h=>h
theorem Same1.trans {P:Addr} {H H1 H2:Hp} (a:Same1 P H H1) (b:Same1 P H1 H2):Same1 P H H2:=λ c o n h=>b c o n (a c o n h)
theorem Same1.get {P:Addr} {pos:Pos} {qual:Str} {H H':Hp} {b:Addr} {o:HO} (T:LamTab P pos qual H) (e:Same1 P H H') (h:H b=some o) (n:∀ ps,o≠.tbl ps):H' b=some o:=e b o (λ z=>by
 subst z;rcases T with t | ⟨c,t,_⟩
 ·rw [h] at t; exact n _ (Option.some.inj t)
 ·rw [h] at t; exact n _ (Option.some.inj t)) h
end L2
namespace Rim
open PySem L2 Fr
theorem a3n {j:Nat} (h:j<=1000):((j:Int)).natAbs.log2<1920:=by
 rw [Int.natAbs_natCast]
 by_cases h0:j=0
 ·subst h0; decide
 ·exact Nat.lt_trans ((Nat.log2_lt h0).mpr (Nat.lt_of_le_of_lt h (show 1000<2 ^ 10 by decide))) (by decide)
section
variable {P:Program} {w:World} {K:W.Frag} {mg:Str->Option Value} {base:Heap} {f Pt d:Addr} {fd:FuncData} {n:Nat} {C:Addr}
end
section
variable {P:Program} {w:World} {K:W.Frag} {mg:Str->Option Value} {base:Heap} {f Pt d:Addr} {fd:FuncData} {n:Nat} {C:Addr}
end
structure b5k (z:Str) (hs:List j5) (h:j5) (S:Lp.Bo) (kt kg:Nat) (ws:List Int):Prop where
 lw:ws.length=hs.length
 nn:∀ x∈ws,0<=x/\Big 20000 x
 size:a0b z ws.sum (S.T (mE hs) (qE z h))
 takes:∀ j,j<kt->K6 hs ws 0 j<=h.1.getD j 0*S.T (mE hs) (qE z h)
 gives:∀ j,j<kg->h.2.getD j 0*S.d<=K6 hs ws 1 j
 pos:0<S.T (mE hs) (qE z h)
 le:S.T (mE hs) (qE z h)<=S.d
 fair:∀ g∈hs,D0 g (pgA h (y4 (mE hs) (qE z h) S)) (psA z h (y4 (mE hs) (qE z h) S))<=N8 g (ptA h (y4 (mE hs) (qE z h) S))
 pays:N8 h (ptA h (y4 (mE hs) (qE z h) S)) - psA z h (y4 (mE hs) (qE z h) S)=S.d
 gvs:P2 h.2 (pgA h (y4 (mE hs) (qE z h) S))=S.T (mE hs) (qE z h)
 pr:PrN (ptA h (y4 (mE hs) (qE z h) S)) (pgA h (y4 (mE hs) (qE z h) S)) (psA z h (y4 (mE hs) (qE z h) S)) (S.T (mE hs) (qE z h)) kt kg
 sign:U6 z (psA z h (y4 (mE hs) (qE z h) S))
section
variable {P:Program} {w:World} {K:W.Frag} {mg:Str->Option Value} {base:Heap} {f Pt d CN:Addr} {fd:FuncData} {n:Nat} {C:Addr}
end
end Rim
namespace Lp
section
variable {m q:Nat} {A:Nat->Nat->Int} {b c:Nat->Int} {S:Bo}
theorem Of.bounded1 (O:Of m q A b c S) {l cc:Nat} (hl:l<m) (hA:∀ j,j<q->A l j=c j) (hc:cc<q) (neg:S.T m cc<0) (no:∀ i,i<m->¬ 0<S.T i cc):False:=by
 have K0:=(O.k _).mp (O.w.ray_ker (c:=cc) (by omega));obtain ⟨rows,goal⟩:=ker0.mp K0;have zc:ray m S cc (q+m+1)=0:=by
  rw [<- O.w.oq];exact O.w.ray_out (by omega) (by omega) (by omega)
 have zg:ray m S cc (q+m) = - S.T m cc:=by
  rw [<- O.w.im];exact O.w.ray_in (by omega) (by omega)
 have nl:0<=ray m S cc (q+l):=by
  rcases O.w.all (q+l) (by omega) with ⟨i,hi,e⟩ | ⟨j,hj,e⟩
  ·rw [<- e,O.w.ray_in (by omega) (by omega)]
   have:=no i hi;omega
  ·rw [<- e]
   by_cases hjc:j=cc
   ·subst hjc
    rw [Wf.ray_c];exact Int.le_of_lt O.w.pos
   ·rw [O.w.ray_out (by omega) (by omega) hjc]; exact Int.le_refl _
 have rl:=rows l hl;rw [zc,Int.mul_zero,Int.add_zero] at rl;have e:sumTo (λ j=>c j*ray m S cc j) q=sumTo (λ j=>A l j*ray m S cc j) q:=sum_congr λ j hj=>by rw [hA j hj]
 rw [zg,e] at goal;omega
end
end Lp
namespace Rim
open PySem L2 Fr
def N4 (z:Str) (g:j5):List Int:=D4 z g++[g.2.sum - g.1.sum]
def N1 (z:Str) (h:j5):List Int:=List.replicate (h.1.length+h.2.length+(S2 z).length) 0++[1]
def P4 (z:Str) (hs:List j5) (h:j5):List (List Int):=hs.map (N4 z)++[(N4 z h).map (λ x=>-x),N1 z h]
def a1j (hs:List j5):List Int:=List.replicate hs.length 0++[0,1]
abbrev mF (hs:List j5):Nat:=hs.length+2
abbrev qF (z:Str) (h:j5):Nat:=h.1.length+h.2.length+(S2 z).length+1
abbrev OfF (z:Str) (hs:List j5) (h:j5) (S:Lp.Bo):Prop:=Lp.Of (mF hs) (qF z h) (Arr (P4 z hs h)) (R8 (a1j hs)) (R8 (N1 z h)) S
def a1M (z:Str) (hs:List j5) (h:j5) (S:Lp.Bo):Prop:=OfF z hs h S/\(∀ j,j<qF z h->¬ S.T (mF hs) j<0)/\Sz 4000 (mF hs) (qF z h) S
theorem b0J:(["takes","gives"]:List Str).Nodup:=by decide +kernel
theorem b0I:(["row","floor"]:List Str).Nodup:=by decide +kernel
theorem b2G:(["one"]:List Str).Nodup:=by decide +kernel
section
variable {P:Program} {w:World} {K:W.Frag} {mg:Str->Option Value} {base:Heap} {f Pt d:Addr} {fd:FuncData} {n:Nat} {C:Addr}
def a3e (K:W.Frag) (Pt:Addr):Sp:=λ vs H Q _=>∃ (ba:Addr) (xs:List V) (hs:List j5) (i:Nat) (h:j5) (z:Str) (far:Int) (kt kg:Nat),vs=[.ref ba,.int i,.str z]/\Szw z/\W6 K H ba xs hs far kt kg/\far<=2 ^ 50/\hs[i]?=some h/\LT Pt H ∧
 ∀ (S:Lp.Bo) (H':Hp) (t aa wa:Addr),a1M z hs h S->Same1 Pt H H'->LT Pt H'->H' t=some (.tup [.int (S.T (mF hs) (qF z h)),.ref aa,.ref wa,.int S.d]) →
  H' aa=some (.lst ((y4 (mF hs) (qF z h) S).map V.int))->H' wa=some (.lst ((A8 (mF hs) (qF z h) S).map V.int))->Q (.ref t) H'
theorem scFl:r8 ["houses","number","sizes","rows","floors","firm","goal"] ["houses","number","sizes"] (i3 a0S):=⟨rfl,rfl,rfl,by decide +kernel,rfl,by decide +kernel,by decide +kernel⟩
noncomputable def flT {cdv:Value} {A:Around} {outer:List Env} {s:Shared} {H:Hp} {E:XK} {f1 f2:Addr} {d1 d2:FuncData} (N:w6 mg) (Cg:SCal P w K mg base n "greatest" ["goal","rows","bounds"] (Z9 K C Pt) f1 d1) (Ch:SCal P w K mg base n "house_rows" ["houses","sizes"] (W4 K) f2 d2)
  (hr:Room n (A.deeper (PyProof.Rows.envOfC "greatest_floor" (i3 a0S) s.heap.objs.size f cdv))) :
  { t:TS // PSs (G9 G2 P w K mg base ["houses","number","sizes","rows","floors","firm","goal"] "greatest_floor" (i3 a0S) f cdv A outer s H E).nox (t9 a0S) t } :=
 ⟨_,i4 (m9 (i:=3) scFl.nd rfl (Or.inl rfl) (j6 Ch.ok hr rfl Ch.m Ch.k Ch.b .nil t6 (c6 (pv 0) (c6 (pv 2) h8))))
  (p6 (S5 (i:=4) ["takes","gives"] [] scFl.nd rfl rfl rfl (A5 (pv 0)) (λ _ _ _ _=>E6 K (n:=2) rfl rfl (j4 (i8 (i:=0) b0J rfl (Or.inl rfl)) (j4 (i8 (i:=1) b0J rfl (Or.inl rfl)) t8)))
   (λ _ _ _ _=>j3 W7 (j9 (a5z K rfl rfl) rfl N.sum PyProof.Rows.boot_sum (c6 (pv 1) h8)) (j9 (a5z K rfl rfl) rfl N.sum PyProof.Rows.boot_sum (c6 (pv 0) h8))))
  (p6 (S5 (i:=3) ["row","floor"] [] scFl.nd rfl rfl rfl (Z3 true true K rfl rfl N.zip (c6 (pv 3) (c6 (pv 4) h8))) (λ _ _ _ _=>E6 K (n:=2) rfl rfl (j4 (i8 (i:=0) b0I rfl (Or.inl rfl)) (j4 (i8 (i:=1) b0I rfl (Or.inl rfl)) t8)))
   (λ _ _ _ _=>j3 G4 (pv 0) (x8 (c6 (pv 1) h8))))
  (p6 (S5 (i:=5) ["one"] [] scFl.nd rfl rfl rfl (A5 (i9 j0 (pv 3) (pv 1) (λ _ _=>rfl))) (λ _ _ _ _=>i8 (i:=0) b2G rfl (Or.inl rfl)) (λ _ _ _ _=>M3 G7 (pv 0)))
  (p6 (m9 (i:=6) scFl.nd rfl (Or.inl rfl) (j3 G4 (j3 X2 (x8 (c6 c7 h8)) (j3 W7 (j9 j7 rfl N.len PySem.boot_len (c6 (pv 5) h8)) c7)) (x8 (c6 c7 h8))))
  (i7 (m6 (j6 Cg.ok hr rfl Cg.m Cg.k Cg.b .nil t6 (c6 (pv 6) (c6 (j3 G4 (pv 3) (x8 (c6 (pv 5) (c6 (pv 6) h8))))
   (c6 (j3 G4 (j3 X2 (x8 (c6 c7 h8)) (j9 j7 rfl N.len PySem.boot_len (c6 (pv 0) h8))) (x8 (c6 c7 (c6 c7 h8)))) h8))))))))))⟩
end
theorem a3m:∀ {l:List Int} {M:Nat},(∀ x∈l,x.natAbs<=M)->l.sum.natAbs<=l.length*M
 | [],_,_=>by simp
 | a::r,M,h=>by
  have h1:=h a (.head _);have h2:=a3m (l:=r) (M:=M) λ x hx=>h x (.tail _ hx);rw [List.sum_cons,List.length_cons,Nat.succ_mul];omega
theorem a4k {z:Str} {g:j5} {far:Int} {kt kg:Nat} (hg:HG far kt kg g) (hf:far<=2 ^ 50) (hkt:kt<=20) (hkg:kg<=20):∀ x∈N4 z g,x.natAbs<=2 ^ 60:=λ x hx=>by
 have ht:∀ x∈g.1,x.natAbs<=2 ^ 50:=λ x hx=>by have:=hg.t x hx; omega
 have hg':∀ x∈g.2,x.natAbs<=2 ^ 50:=λ x hx=>by have:=hg.g x hx; omega
 have p:(2:Nat) ^ 50<=2 ^ 60:=by decide
 unfold N4 D4 at hx;rcases List.mem_append.mp hx with hx | hx
 ·rcases List.mem_append.mp hx with hx | hx
  ·rcases List.mem_append.mp hx with hx | hx
   ·obtain ⟨y,hy,rfl⟩:=List.mem_map.mp hx
    have:=ht y hy;rw [Int.natAbs_neg]; omega
   ·have:=hg' x hx; omega
  ·exact a3g z x hx
 ·rw [List.mem_singleton.mp hx]
  have h1:=a3m ht;have h2:=a3m hg';rw [hg.lt] at h1;rw [hg.lg] at h2;have h3:kt*2 ^ 50<=20*2 ^ 50:=Nat.mul_le_mul_right _ hkt;have h4:kg*2 ^ 50<=20*2 ^ 50:=Nat.mul_le_mul_right _ hkg;have h5:20*2 ^ 50+20*2 ^ 50<=(2:Nat) ^ 60:=by decide
  omega
theorem a4b {z:Str} {g:j5}:(N4 z g).length=g.1.length+g.2.length+(S2 z).length+1:=by unfold N4 D4; simp [Nat.add_assoc]
theorem a5H {z:Str} {hs:List j5} {h:j5} {far:Int} {kt kg:Nat} (hh:HG far kt kg h) (hhs:∀ h∈hs,HG far kt kg h) (hf:far<=2 ^ 50) (hkt:kt<=20) (hkg:kg<=20) (q:Nat) :
  ∀ v,Lp.Fits (2 ^ 60) (mF hs+1) (Lp.Vv (mF hs) q (Arr (P4 z hs h)) (R8 (a1j hs)) (R8 (N1 z h)) v):=by
 have z0:∀ k:Nat,∀ x∈List.replicate k (0:Int),x.natAbs<=2 ^ 60:=λ k x hx=>by rw [(List.mem_replicate.mp hx).2]; decide
 have goal:∀ x∈N1 z h,x.natAbs<=2 ^ 60:=λ x hx=>by
  unfold N1 at hx;rcases List.mem_append.mp hx with hx | hx
  ·exact z0 _ x hx
  ·rw [List.mem_singleton.mp hx]; decide
 have rows:∀ r∈P4 z hs h,∀ x∈r,x.natAbs<=2 ^ 60:=λ r hr x hx=>by
  unfold P4 at hr;rcases List.mem_append.mp hr with hr | hr
  ·obtain ⟨g,hg,rfl⟩:=List.mem_map.mp hr
   exact a4k (hhs g hg) hf hkt hkg x hx
  ·simp only [List.mem_cons,List.not_mem_nil,or_false] at hr
   rcases hr with rfl | rfl
   ·obtain ⟨y,hy,rfl⟩:=List.mem_map.mp hx
    have:=a4k (z:=z) hh hf hkt hkg y hy;rw [Int.natAbs_neg]; exact this
   ·exact goal x hx
 have bnds:∀ x∈a1j hs,x.natAbs<=2 ^ 60:=λ x hx=>by
  unfold a1j at hx;rcases List.mem_append.mp hx with hx | hx
  ·exact z0 _ x hx
  ·simp only [List.mem_cons,List.not_mem_nil,or_false] at hx
   rcases hx with rfl | rfl <;> decide
 intro v i _;unfold Lp.Vv
 split
 ·split
  ·unfold Arr
   refine a1D (λ x hx=>?_) v;rw [List.getD_eq_getElem?_getD] at hx
   cases e:(P4 z hs h)[i]? with
   | none=>rw [e] at hx; cases hx
   | some r=>rw [e] at hx; exact rows r (List.mem_of_getElem? e) x hx
  ·split
   ·rw [Int.natAbs_neg]; exact a1D goal v
   ·exact Nat.zero_le _
 ·split
  ·split <;> decide
  ·split
   ·exact a1D bnds i
   ·exact Nat.zero_le _
theorem a4I {z:Str} {hs:List j5} {h:j5} (j:Nat):Arr (P4 z hs h) (hs.length+1) j=R8 (N1 z h) j:=by
 have:(P4 z hs h)[hs.length+1]?=some (N1 z h):=by
  unfold P4;rw [List.getElem?_append_right (by simp),List.length_map,Nat.add_sub_cancel_left]; rfl
 rw [b0n this]; rfl
section
variable {P:Program} {w:World} {K:W.Frag} {mg:Str->Option Value} {base:Heap} {f Pt d:Addr} {fd:FuncData} {n:Nat} {C:Addr}
theorem a8i {H':Hp} {rs:List Addr} {hs:List j5} {z:Str} (hl:rs.length=hs.length) (h:∀ (i:Nat) a g,rs[i]?=some a->hs[i]?=some g->H' a=some (.lst ((N4 z g).map V.int))):RowsL K H' (rs.map V.ref) (hs.map (N4 z)):=by
 induction hs generalizing rs with
 | nil =>
  cases rs with
  | nil=>exact .nil
  | cons a r=>simp at hl
 | cons g hs ih =>
  cases rs with
  | nil=>simp at hl
  | cons a r=>exact .cons ⟨a,rfl,SqL.of (h 0 a g rfl rfl)⟩ (ih (by simpa using hl) λ i b g' h1 h2=>h (i+1) b g' (by simpa using h1) (by simpa using h2))
theorem a8z {f1 f2:Addr} {d1 d2:FuncData} (F:Fun K "greatest_floor" "greatest_floor" a0S f fd) (N:w6 mg) (Cg:SCal P w K mg base n "greatest" ["goal","rows","bounds"] (Z9 K C Pt) f1 d1) (Ch:SCal P w K mg base n "house_rows" ["houses","sizes"] (W4 K) f2 d2) :
  FnOk P w K mg base G2 (n+1) f fd ["houses","number","sizes"] (a3e K Pt):=by
 refine F.ok scFl (λ vs H Q E h=>?_) (λ cdv A outer s H vs Q E hr h=>?_)
 ·obtain ⟨ba,xs,hs,i,h,z,far,kt,kg,rfl,_⟩:=h
  rfl
 obtain ⟨ba,xs,hs,i,h,z,far,kt,kg,rfl,hz,B,hf,hh,L,k⟩:=h;refine ⟨_,(flT N Cg Ch hr).2,?_⟩;have xl:xs.length=hs.length:=Paired.length B.b;have few:=B.few;have k20:=B.t;have k21:=B.k;have sg:=a0r z;have gh:=B.g h (List.mem_of_getElem? hh);have hil:i<hs.length:=(List.getElem?_eq_some_iff.mp hh).1;have s1k:=j8 (show (1000:Nat)<=1000 from Nat.le_refl _);have lrow:∀ g∈hs,(N4 z g).length=kt+kg+(S2 z).length+1:=λ g hg=>by rw [a4b,(B.g g hg).lt,(B.g g hg).lg]
 refine ⟨_,rfl,_,rfl,ba,xs,hs,z,kt,kg,rfl,hz,B.l,B.b,by omega,by omega,by omega,λ g hg=>⟨(B.g g hg).lt,(B.g g hg).lg⟩,λ r H1 rs e1 hr1 lr hrs=>?_⟩;refine ⟨λ σ' H2=>∃ fl:Addr,σ'=[some (.ref ba),some (.int i),some (.str z),some (.ref r),some (.ref fl),none,none]/\Same H1 H2/\H2 fl=some (.lst ((hs.map λ g=>g.2.sum - g.1.sum).map V.int)),?_,?_⟩
 ·refine ⟨_,rfl,ba,rfl,⟨_,e1.seq B.l⟩,λ l hl=>?_⟩
  refine C9 (v6 (e1.seq B.l)) hl (by omega) (λ j y _=>∃ g,hs[j]?=some g/\y=.int (g.2.sum - g.1.sum)) (λ _ _ _ _ r _=>r) (λ j x H2 ys N' hx e hl2 hN=>?_) (λ ys H2 e hl2 len pr=>?_)
  ·obtain ⟨g,hg,⟨a,ta,ga,rfl,p1,p2,p3⟩⟩:=Paired.at B.b hx
   have e':=e1.trans e;refine ⟨a,_,rfl,e'.tseq p1,rfl,_,_,rfl,_,_,rfl,rfl,?_,?_⟩
   ·refine ⟨by simp,λ k w ek=>?_⟩
    have:¬ k<2:=λ hk=>by
     unfold blkσ at ek;rw [List.getElem?_append_left (by simpa using hk),List.getElem?_replicate] at ek
     split at ek <;> cases ek
    rw [List.getElem?_set_ne (by omega),List.getElem?_set_ne (by omega)]; exact ek
   exact ⟨_,rfl,ga,_,rfl,.inr (e'.tseq p3),_,rfl,ta,_,rfl,.inr (e'.tseq p2),_,_,rfl,rfl,hN _ _ (Same.refl _) ⟨g,hg,rfl⟩⟩
  ·refine ⟨l,rfl,e,?_⟩
   rw [hl2]
   congr 2
   refine List.ext_getElem? λ j=>?_
   by_cases hj:j<ys.length
   ·obtain ⟨g,g1,g2⟩:=pr j _ (List.getElem?_eq_getElem hj)
    rw [List.getElem?_eq_getElem hj,g2,List.getElem?_map,List.getElem?_map,g1]; rfl
   ·rw [List.getElem?_eq_none (by omega),List.getElem?_eq_none (by rw [List.length_map,List.length_map]; omega)]
 rintro σ1 H2 ⟨fl,rfl,e2,hfl⟩;refine ⟨λ σ' H3=>∃ (ra:Addr) (rs':List Addr),σ'=[some (.ref ba),some (.int i),some (.str z),some (.ref ra),some (.ref fl),none,none]/\Same H2 H3/\H3 ra=some (.lst (rs'.map V.ref))/\rs'.length=hs.length/\∀ (j:Nat) a g,rs'[j]?=some a->hs[j]?=some g->H3 a=some (.lst ((N4 z g).map V.int)),?_,?_⟩
 ·refine ⟨_,rfl,_,rfl,r,fl,rfl,⟨_,SqL.of (e2 _ _ hr1)⟩,⟨_,SqL.of hfl⟩,λ l hl=>?_⟩
  refine a2Y (b1:=true) (b2:=true) (SqL.of (e2 _ _ hr1)) (SqL.of hfl) hl (by rw [List.length_map,lr]; omega) (λ j y H3=>∃ a g,y=.ref a/\a≠l/\hs[j]?=some g/\H3 a=some (.lst ((N4 z g).map V.int)))
   (λ j y H3 H4 ⟨a,g,h1,h2,h3,h4⟩ e=>⟨a,g,h1,h2,h3,e a _ h2 h4⟩) (λ j x y H3 zs N' hx hy e hl2 hN=>?_) (λ zs H3 e hl2 len pr=>?_)
  ·obtain ⟨ra,hra,rfl⟩:∃ ra,rs[j]?=some ra/\x=.ref ra:=by
    rw [List.getElem?_map] at hx
    cases q1:rs[j]? with
    | none=>rw [q1] at hx; cases hx
    | some v=>rw [q1] at hx; cases hx; exact ⟨v,rfl,rfl⟩
   have hjl:j<hs.length:=by rw [<- lr]; exact (List.getElem?_eq_some_iff.mp hra).1
   have hg:hs[j]?=some hs[j]:=List.getElem?_eq_getElem hjl;have hrow:=hrs j ra _ hra hg;have hyv:y=.int (hs[j].2.sum - hs[j].1.sum):=by
    rw [List.getElem?_map,List.getElem?_map,hg] at hy;exact (Option.some.inj hy).symm
   subst hyv;generalize hs[j]=g at *;have gg:=B.g g (List.mem_of_getElem? hg);refine ⟨_,rfl,_,rfl,(by show 1<=sizeLine; decide),λ a1 h1=>?_⟩;have n1:ra≠a1:=i6 (e _ _ (e2 _ _ hrow)) h1;refine ⟨ra,a1,_,_,rfl,rfl,(by rw [i5 n1]; exact e _ _ (e2 _ _ hrow)),upd_same,?_,λ a2 h2=>?_⟩
   ·rw [List.length_map]
    unfold D4;simp [gg.lt,gg.lg];omega
   have s2:=(Same.new h1 (.lst [V.int (g.2.sum - g.1.sum)])).trans (Same.new h2 (.lst ((D4 z g).map V.int++[V.int (g.2.sum - g.1.sum)])));refine hN _ _ s2 ⟨a2,g,rfl,λ zz=>?_,hg,?_⟩
   ·rw [zz,(Same.new h1 (.lst [V.int (g.2.sum - g.1.sum)])) _ _ hl2] at h2; cases h2
   ·rw [upd_same]
    unfold N4;rw [List.map_append]; rfl
  ·have hzs:zs=(zs.map a4d).map V.ref:=by
    rw [List.map_map];refine List.ext_getElem? λ j=>?_;rw [List.getElem?_map]
    cases qj:zs[j]? with
    | none=>rfl
    | some y =>
     obtain ⟨a,_,rfl,_⟩:=pr j y qj;rfl
   refine ⟨l,zs.map a4d,rfl,e,by rw [hl2]; rw [<- hzs],by rw [List.length_map,len,List.length_map,List.length_map,List.length_map,lr,Nat.min_self],λ j a g hj hg=>?_⟩;rw [List.getElem?_map] at hj
   cases qj:zs[j]? with
   | none=>rw [qj] at hj; cases hj
   | some y =>
    obtain ⟨a',g',rfl,_,h3,h4⟩:=pr j y qj;rw [qj] at hj;have:a'=a:=Option.some.inj hj;subst this;rw [hg] at h3
    cases h3;exact h4
 rintro σ2 H3 ⟨ra,rs',rfl,e3,hra,lr',hrs'⟩;have hi':i<rs'.length:=by omega
 have hri:rs'[i]?=some rs'[i]:=List.getElem?_eq_getElem hi';generalize rs'[i]=ri at hri;have hrow:=hrs' i ri h hri hh;refine ⟨λ σ' H4=>∃ fa:Addr,σ'=[some (.ref ba),some (.int i),some (.str z),some (.ref ra),some (.ref fl),some (.ref fa),none]/\Same H3 H4/\H4 fa=some (.lst (((N4 z h).map λ x=>-x).map V.int)),?_,?_⟩
 ·refine ⟨_,rfl,_,rfl,ra,_,_,.ref ri,rfl,rfl,SqL.of hra,r6 (by rw [List.getElem?_map,hri]; rfl),ri,rfl,⟨_,SqL.of hrow⟩,λ l hl=>?_⟩
  refine W8 (v6 (SqL.of hrow)) hl (by rw [List.length_map,lrow h (List.mem_of_getElem? hh)]; omega) (λ x=>.int (-(vI x))) (λ j x H' N2 hx2 e2 hN2=>?_) ?_
  ·obtain ⟨x',rfl,_⟩:=I0 hx2
   exact ⟨Wk.set (by decide),_,rfl,_,rfl,hN2⟩
  have eg:((N4 z h).map V.int).map (λ x=>V.int (-(vI x)))=((N4 z h).map λ x=>-x).map V.int:=by rw [List.map_map,List.map_map]; rfl
  rw [eg];exact ⟨l,rfl,Same.new hl _,upd_same⟩
 rintro σ3 H4 ⟨fa,rfl,e4,hfa⟩;have lfa:(((N4 z h).map λ x=>-x).map V.int).length=kt+kg+(S2 z).length+1:=by rw [List.length_map,List.length_map,lrow h (List.mem_of_getElem? hh)]
 refine ⟨λ σ' H5=>∃ ga:Addr,σ'=[some (.ref ba),some (.int i),some (.str z),some (.ref ra),some (.ref fl),some (.ref fa),some (.ref ga)]/\Same H4 H5/\H5 ga=some (.lst ((N1 z h).map V.int)),?_,?_⟩
 ·refine ⟨(by show 1<=sizeLine; decide),λ a1 h1=>?_⟩
  have s1:=Same.new h1 (.lst [.int 0]);have ek:((kt+kg+(S2 z).length+1:Nat):Int) - 1=((h.1.length+h.2.length+(S2 z).length:Nat):Int):=by rw [gh.lt,gh.lg]; omega
  refine ⟨_,rfl,fa,_,rfl,.inl (SqL.of (s1 _ _ hfa)),_,_,rfl,rfl,a1,_,_,rfl,rfl,upd_same,by rw [lfa,ek]; omega,by rw [lfa,ek,gh.lt,gh.lg]; omega,by rw [lfa,ek,Int.toNat_natCast,gh.lt,gh.lg]; simp; omega,λ a2 h2=>?_⟩;rw [lfa,ek,Int.toNat_natCast,a3X];have s2:=s1.trans (Same.new h2 (.lst ((List.replicate (h.1.length+h.2.length+(S2 z).length) (0:Int)).map V.int)));refine ⟨(by show 1<=sizeLine; decide),λ a3 h3=>?_⟩;have s3:=s2.trans (Same.new h3 (.lst [.int 1]));have n23:a2≠a3:=i6 upd_same h3;refine ⟨a2,a3,_,_,rfl,rfl,(by rw [i5 n23]; exact upd_same),upd_same,?_,λ a4 h4=>?_⟩
  ·rw [List.length_map,List.length_replicate,gh.lt,gh.lg]; simp; omega
  refine ⟨a4,rfl,s3.trans (Same.new h4 _),?_⟩;rw [upd_same];unfold N1;rw [List.map_append]; rfl
 rintro σ4 H5 ⟨ga,rfl,e5,hga⟩;have e35:=e4.trans e5;refine ⟨_,rfl,_,rfl,_,rfl,_,rfl,(by show 2<=sizeLine; decide),λ a1 h1=>?_⟩;have s1:=Same.new h1 (.lst [V.ref fa,V.ref ga]);have nr1:ra≠a1:=i6 (e35 _ _ hra) h1;refine ⟨ra,a1,_,_,rfl,rfl,(by rw [i5 nr1]; exact e35 _ _ hra),upd_same,?_,λ a2 h2=>?_⟩
 ·rw [List.length_map,lr']; simp; omega
 have s2:=s1.trans (Same.new h2 (.lst (rs'.map V.ref++[V.ref fa,V.ref ga])));refine ⟨(by show 1<=sizeLine; decide),λ a3 h3=>?_⟩;have s3:=s2.trans (Same.new h3 (.lst [.int 0]));have e05:=e1.trans (e2.trans (e3.trans e35));refine ⟨_,rfl,ba,_,rfl,.inl ((e05.trans s3).seq B.l),a3,_,_,rfl,rfl,upd_same,by omega,by rw [xl]; omega,by rw [xl,Int.toNat_natCast]; simp; omega,λ a4 h4=>?_⟩;rw [xl,Int.toNat_natCast,a3X];have s4:=s3.trans (Same.new h4 (.lst ((List.replicate hs.length (0:Int)).map V.int)));refine ⟨(by show 2<=sizeLine; decide),λ a5 h5=>?_⟩;have s5:=s4.trans (Same.new h5 (.lst [.int 0,.int 1]));have n45:a4≠a5:=i6 upd_same h5;refine ⟨a4,a5,_,_,rfl,rfl,(by rw [i5 n45]; exact upd_same),upd_same,?_,λ a6 h6=>?_⟩
 ·rw [List.length_map,List.length_replicate]; simp; omega
 have s6:=s5.trans (Same.new h6 (.lst ((List.replicate hs.length (0:Int)).map V.int++[.int 0,.int 1])));have eb:(List.replicate hs.length (0:Int)).map V.int++[.int 0,.int 1]=(a1j hs).map V.int:=by unfold a1j; rw [List.map_append]; rfl
 have hA:=e05.trans s6;have g2:=(((Same.new h3 (.lst [.int 0])).trans (Same.new h4 (.lst ((List.replicate hs.length (0:Int)).map V.int)))).trans (Same.new h5 (.lst [.int 0,.int 1]))).trans (Same.new h6 (.lst ((List.replicate hs.length (0:Int)).map V.int++[.int 0,.int 1])));refine ⟨ga,a2,a6,N1 z h,rs'.map V.ref++[V.ref fa,V.ref ga],P4 z hs h,a1j hs,mF hs,qF z h,2 ^ 60,rfl,SqL.of (s6 _ _ hga),SqL.of (g2 _ _ upd_same),?_,?_,?_,?_,?_,?_,by show hs.length+2<900; omega,by show h.1.length+h.2.length+(S2 z).length+1<900; rw [gh.lt,gh.lg]; omega,?_,a5H gh B.g hf k20 k21 _,b3i _ (by show hs.length+2<20; omega),L.same hA,
  λ S H' t' aa wa O hn sz e' L' q1 q2 q3=>k S H' t' aa wa ⟨O,hn,sz⟩ (λ b o hb q'=>e' b o hb (hA b o q')) L' q1 q2 q3,λ S H' c O hc hneg hno e' L'=>(O.bounded1 (l:=hs.length+1) (by show hs.length+1<hs.length+2; omega) (λ j _=>a4I j) hc hneg hno).elim⟩
 ·unfold P4
  refine Paired.app ((a8i (K:=K) lr' hrs').same (e35.trans s6)) (.cons ⟨fa,rfl,SqL.of (s6 _ _ (e5 _ _ hfa))⟩ (.cons ⟨ga,rfl,SqL.of (s6 _ _ hga)⟩ .nil))
 ·rw [<- eb]; exact SqL.of upd_same
 ·unfold P4; simp
 ·unfold a1j; simp
 ·unfold N1; simp
 ·intro r' hr'
  unfold P4 at hr';rcases List.mem_append.mp hr' with hr' | hr'
  ·obtain ⟨g,hg,rfl⟩:=List.mem_map.mp hr'
   rw [lrow g hg]
   show _=h.1.length+h.2.length+(S2 z).length+1
   rw [gh.lt,gh.lg]
  ·simp only [List.mem_cons,List.not_mem_nil,or_false] at hr'
   rcases hr' with rfl | rfl
   ·rw [List.length_map,a4b]
   ·unfold N1; simp
 ·intro j hj
  unfold R8 a1j;rw [List.getD_eq_getElem?_getD]
  by_cases h':j<hs.length
  ·rw [List.getElem?_append_left (by simpa using h'),List.getElem?_replicate,if_pos h']; exact Int.le_refl _
  ·rw [List.getElem?_append_right (by simp; omega),List.length_replicate]
   have hj':j<hs.length+2:=hj;have:j - hs.length=0\/j - hs.length=1:=by omega
   rcases this with q' | q' <;> rw [q'] <;> decide
end
structure b5f (z:Str) (hs:List j5) (h:j5) (pt pg:List Int) (ps:Int):Prop where
 lt:pt.length=h.1.length
 lg:pg.length=h.2.length
 tp:∀ x∈pt,0<x
 gp:∀ x∈pg,0<x
 sign:U6 z ps
 fair:∀ g∈hs,D0 g pg ps<=N8 g pt
 firm:D0 h pg ps=N8 h pt
section
variable {z:Str} {hs:List j5} {h:j5} {S:Lp.Bo} {kt kg i:Nat}
end
end Rim
namespace L2
open PySem
section
variable {fr:List Nat} {tc:TT} {σ:St} {H1:Hp} {p:Addr} {D:Hp->Prop} {P:Addr} {pos:Pos} {qual:Str} {n:Nat}
end
end L2
namespace Rim
open PySem L2 Fr
open Classical in
section
variable {P:Program} {w:World} {K:W.Frag} {mg:Str->Option Value} {base:Heap} {f Pt d:Addr} {fd:FuncData} {n:Nat} {C:Addr}
end
end Rim
namespace Rim
open PySem L2 Fr
structure Mx (z:Str) (hs:List j5) (ws:List Int) (D:Int):Prop where
 lw:ws.length=hs.length
 nn:∀ x∈ws,0<=x
 d:0<D
 size:a0b z ws.sum D
structure Px (z:Str) (hs:List j5) (kt kg:Nat) (pt pg:List Int) (ps:Int):Prop where
 lt:pt.length=kt
 lg:pg.length=kg
 tn:∀ x∈pt,0<=x
 gn:∀ x∈pg,0<=x
 sign:U6 z ps
 fair:∀ g∈hs,D0 g pg ps<=N8 g pt
theorem a2g (a b:Int) (l x:List Int):P2 (a::l) (b::x)=a*b+P2 l x:=rfl
section
variable {z:Str} {hs:List j5} {h:j5} {kt kg:Nat} {ws pt pg:List Int} {D ps:Int}
theorem a9j (j i:Nat):K6 hs ws j i=P2 (hs.map λ g=>(A3 j g).getD i 0) ws:=by
 unfold K6 col;rw [List.map_map]; rfl
structure Shr (z:Str) (hs:List j5) (h:j5) (kt kg:Nat) (A B:Int) (ws:List Int) (D:Int):Prop where
 m:Mx z hs ws D
 t:∀ j,j<kt->K6 hs ws 0 j*B<=h.1.getD j 0*A*D
 g:∀ j,j<kg->h.2.getD j 0*D<=K6 hs ws 1 j
structure Gro (z:Str) (hs:List j5) (h:j5) (kt kg:Nat) (A B:Int) (ws:List Int) (D:Int):Prop where
 m:Mx z hs ws D
 t:∀ j,j<kt->K6 hs ws 0 j<=h.1.getD j 0*D
 g:∀ j,j<kg->h.2.getD j 0*A*D<=K6 hs ws 1 j*B
def a9W (z:Str) (hs:List j5) (h:j5) (kt kg:Nat) (A B:Int):Prop:=0<B/\(∃ ws D,Shr z hs h kt kg A B ws D)/\∃ pt pg ps,Px z hs kt kg pt pg ps/\0<N8 h pt/\D0 h pg ps*B=A*N8 h pt
def b1z (z:Str) (hs:List j5) (h:j5) (kt kg:Nat) (A B:Int):Prop:=0<B/\(∃ ws D,Gro z hs h kt kg A B ws D)/\∃ pt pg ps,Px z hs kt kg pt pg ps/\0<P2 h.2 pg/\A*P2 h.2 pg=(N8 h pt - ps)*B
end
section
variable {z:Str} {hs:List j5} {h:j5} {kt kg i:Nat}
end
theorem a1f:∀ {l p:List Int} (m:List Int),l.length=p.length->(∀ x∈l,1<=x)->(∀ x∈p,0<=x)->P2 l p<=0->P2 m p=0
 | [],[],m,_,_,_,_=>by rw [a3M]; simp [P2]
 | a::l,b::p,m,hl,h1,h2,h=>by
  rw [a2g] at h;have nn:0<=P2 l p:=by
   have:∀ (l p:List Int),(∀ x∈l,1<=x)->(∀ x∈p,0<=x)->0<=P2 l p:=λ l=>by
    induction l with
    | nil=>intro p _ _; simp [P2]
    | cons a r ih =>
     intro p h1 h2
     cases p with
     | nil=>simp [P2]
     | cons b p =>
      rw [a2g];have:=ih p (λ x hx=>h1 x (.tail _ hx)) λ x hx=>h2 x (.tail _ hx);have:=Int.mul_nonneg (show 0<=a by have:=h1 a (.head _); omega) (h2 b (.head _));omega
   exact this _ _ (λ x hx=>h1 x (.tail _ hx)) λ x hx=>h2 x (.tail _ hx)
  have hb:=h2 b (.head _);have ha:=h1 a (.head _);have hab:=Int.mul_le_mul_of_nonneg_right ha hb;have b0:b=0:=by omega
  subst b0
  cases m with
  | nil=>simp [P2]
  | cons c m =>
   rw [a2g,a1f m (by simpa using hl) (λ x hx=>h1 x (.tail _ hx)) (λ x hx=>h2 x (.tail _ hx)) (by omega)];omega
 | [],_::_,_,h,_,_,_=>by simp at h
 | _::_,[],_,h,_,_,_=>by simp at h
section
variable {z:Str} {hs hs':List j5} {h:j5} {kt kg:Nat} {far:Int}
end
structure ShU (z:Str) (hs:List j5) (h:j5) (kt kg:Nat) (A B:Int):Prop where
 s:a9W z hs h kt kg A B
 a:Big 20000 A
 p:0<A
 b:0<B
 c:B<2 ^ 8000
section
variable {P:Program} {w:World} {K:W.Frag} {mg:Str->Option Value} {base:Heap} {f Pt d CN CB:Addr} {fd:FuncData} {n:Nat} {C:Addr}
end
structure GrU (z:Str) (hs:List j5) (h:j5) (kt kg:Nat) (A B:Int):Prop where
 s:b1z z hs h kt kg A B
 a:Big 20000 A
 p:0<A
 b:0<B
 c:B<2 ^ 8000
section
variable {P:Program} {w:World} {K:W.Frag} {mg:Str->Option Value} {base:Heap} {f Pt d CN CB:Addr} {fd:FuncData} {n:Nat} {C:Addr}
end
structure b3d (z:Str) (hs:List j5) (h:j5) (kt kg:Nat) (ws:List Int) (v:Int):Prop where
 m:Mx z hs ws v
 t:∀ j,j<kt->K6 hs ws 0 j<=h.1.getD j 0*v
 g:∀ j,j<kg->h.2.getD j 0*v<=K6 hs ws 1 j
 s:h.2.sum*v - h.1.sum*v<P2 (hs.map λ g=>g.2.sum - g.1.sum) ws
theorem a4R {m q:Nat} {S:Lp.Bo}:A8 (m+2) q S=(A8 (m+2) q S).take m++[(A8 (m+2) q S).getD m 0,(A8 (m+2) q S).getD (m+1) 0]:=by
 have l:(A8 (m+2) q S).length=m+2:=by unfold A8; simp
 refine List.ext_getElem? λ i=>?_
 by_cases h:i<m
 ·rw [List.getElem?_append_left (by rw [List.length_take]; omega),List.getElem?_take_of_lt h]
 ·rw [List.getElem?_append_right (by rw [List.length_take]; omega),List.length_take,Nat.min_eq_left (by omega)]
  by_cases h1:i=m
  ·subst h1
   rw [Nat.sub_self,List.getD_eq_getElem?_getD,List.getElem?_eq_getElem (by omega)]; rfl
  ·by_cases h2:i=m+1
   ·subst h2
    rw [show m+1 - m=1 by omega,List.getD_eq_getElem?_getD (i:=m+1),List.getElem?_eq_getElem (by omega)]; rfl
   ·rw [List.getElem?_eq_none (by omega),List.getElem?_eq_none (by simp; omega)]
section
variable {z:Str} {hs:List j5} {h:j5} {kt kg i:Nat} {S:Lp.Bo} {far:Int}
theorem b2g {z:Str} (hk:∀ g∈hs,g.1.length=kt/\g.2.length=kg) {j:Nat} (hj:j<kt+kg+(S2 z).length):col (hs.map (N4 z)) j=col (hs.map (D4 z)) j:=by
 unfold col;rw [List.map_map,List.map_map];refine List.map_congr_left λ g hg=>?_
 show (N4 z g).getD j 0=(D4 z g).getD j 0
 unfold N4;rw [E9,if_pos];have:=hk g hg;unfold D4;simp;omega
theorem a2E {g:j5} (h1:g.1.length=kt) (h2:g.2.length=kg):(N4 z g).getD (kt+kg+(S2 z).length) 0=g.2.sum - g.1.sum:=by
 have l:(D4 z g).length=kt+kg+(S2 z).length:=by unfold D4; simp [h1,h2]; omega
 unfold N4;rw [E9,if_neg (by omega),l,Nat.sub_self]; rfl
theorem a6h {a b:List Int} {x y p q:Int} (h:a.length=b.length):P2 (a++[x,y]) (b++[p,q])=P2 a b+x*p+y*q:=by
 have:P2 (a++[x,y]) (b++[p,q])=P2 ((a++[x])++[y]) ((b++[p])++[q]):=by simp
 rw [this,a4a (by simp [h]),a4a h]
theorem a0n (hz:Szw z) (B:a1M z hs h S) (hG:∀ g∈hs,HG far kt kg g) (hh:hs[i]?=some h) (kt1:1<=kt) (h0:¬ 0<S.T (mF hs) (qF z h)) :
  b3d z hs h kt kg ((A8 (mF hs) (qF z h) S).take hs.length) ((A8 (mF hs) (qF z h) S).getD hs.length 0):=by
 obtain ⟨O,hn,sz⟩:=B;have hk:∀ g∈hs,g.1.length=kt/\g.2.length=kg:=λ g hg=>⟨(hG g hg).lt,(hG g hg).lg⟩;have gh:=hG h (List.mem_of_getElem? hh);have hm:mF hs=hs.length+2:=rfl;have hsp:=a4R (m:=hs.length) (q:=qF z h) (S:=S);have nn:=b1Z (m:=mF hs) (q:=qF z h) hn;have pos:=O.w.pos;have lr:(P4 z hs h).length=mF hs:=by unfold P4; simp
 have lb:(a1j hs).length=mF hs:=by unfold a1j; simp
 have lw:(A8 (mF hs) (qF z h) S).length=mF hs:=by unfold A8; simp
 have hq:qF z h=kt+kg+(S2 z).length+1:=by show h.1.length+h.2.length+_+1=_; rw [gh.lt,gh.lg]
 change A8 (mF hs) (qF z h) S=_ at hsp
 have bd:=b0r O lb;have cd:=λ j hj=>a9x O hn lr (j:=j) hj;generalize hW:A8 (mF hs) (qF z h) S=W at *;generalize hws:W.take hs.length=ws at *;generalize hv:W.getD hs.length 0=v at *;generalize hu:W.getD (hs.length+1) 0=u at *;have lws:ws.length=hs.length:=by rw [<- hws,List.length_take,lw]; omega
 have wnn:∀ x∈ws,0<=x:=λ x hx=>nn x (by rw [hsp]; exact List.mem_append_left _ hx);have vnn:0<=v:=nn v (by rw [hsp]; exact List.mem_append_right _ (.head _));have unn:0<=u:=nn u (by rw [hsp]; exact List.mem_append_right _ (.tail _ (.head _)));have u0:u=0:=by
  rw [hsp] at bd;unfold a1j at bd;rw [a6h (by rw [List.length_replicate]; exact lws.symm),a6y] at bd;omega
 have colA:∀ j,P2 (col (P4 z hs h) j) W=P2 (col (hs.map (N4 z)) j) ws - (N4 z h).getD j 0*v:=λ j=>by
  rw [hsp];have:col (P4 z hs h) j=col (hs.map (N4 z)) j++[-(N4 z h).getD j 0,(N1 z h).getD j 0]:=by
   unfold P4 col;rw [List.map_append]
   congr 1
   show [((N4 z h).map λ x=>-x).getD j 0,(N1 z h).getD j 0]=_
   rw [a2n]
  rw [this,a6h (by unfold col; rw [List.length_map,List.length_map,lws]),u0,Int.neg_mul];omega
 have rowj:∀ j,j<kt+kg+(S2 z).length->(N4 z h).getD j 0=(D4 z h).getD j 0:=λ j hj=>by
  unfold N4;rw [E9,if_pos];unfold D4;simp [gh.lt,gh.lg];omega
 have gj:∀ j,j<kt+kg+(S2 z).length->(N1 z h).getD j 0=0:=λ j hj=>by
  unfold N1;rw [E9,List.length_replicate,if_pos (by rw [gh.lt,gh.lg]; omega),a8c]
 have tk:∀ j,j<kt->K6 hs ws 0 j<=h.1.getD j 0*v:=λ j hj=>by
  have:=cd j (by omega);rw [colA,b2g hk (by omega),a6X hk ws hj,rowj j (by omega)] at this;have e:(R8 (N1 z h)) j=0:=gj j (by omega);have e2:(D4 z h).getD j 0 = - h.1.getD j 0:=by
   unfold D4;rw [a2w,List.length_map,if_pos (by rw [gh.lt]; omega),a2n]
  rw [e2,Int.neg_mul] at this;rw [gj j (by omega)] at this;omega
 have gv:∀ j,j<kg->h.2.getD j 0*v<=K6 hs ws 1 j:=λ j hj=>by
  have:=cd (kt+j) (by omega);rw [colA,b2g hk (by omega),a7r hk ws hj,rowj _ (by omega)] at this;have e2:(D4 z h).getD (kt+j) 0=h.2.getD j 0:=by
   unfold D4;rw [a2w,List.length_map,if_neg (by rw [gh.lt]; omega),if_pos (by rw [gh.lt,gh.lg]; omega),gh.lt,Nat.add_sub_cancel_left]
  rw [e2,gj _ (by omega)] at this;omega
 have szc:∀ t,t<(S2 z).length->(S2 z).getD t 0*v<=(S2 z).getD t 0*ws.sum:=λ t ht=>by
  have:=cd (kt+kg+t) (by omega);rw [colA,b2g hk (by omega),a7A hk lws.symm t,rowj _ (by omega)] at this;have e2:(D4 z h).getD (kt+kg+t) 0=(S2 z).getD t 0:=by
   unfold D4;rw [a2w,List.length_map,if_neg (by rw [gh.lt]; omega),if_neg (by rw [gh.lt,gh.lg]; omega),gh.lt,gh.lg,Nat.add_sub_cancel_left]
  rw [e2,gj _ (by omega)] at this;omega
 have fl:h.2.sum*v - h.1.sum*v+S.d<=P2 (hs.map λ g=>g.2.sum - g.1.sum) ws:=by
  have:=cd (kt+kg+(S2 z).length) (by omega);have e1:col (hs.map (N4 z)) (kt+kg+(S2 z).length)=hs.map λ g=>g.2.sum - g.1.sum:=by
   unfold col;rw [List.map_map];exact List.map_congr_left λ g hg=>a2E (hk g hg).1 (hk g hg).2
  have e3:(N1 z h).getD (kt+kg+(S2 z).length) 0=1:=by
   unfold N1;rw [E9,List.length_replicate,gh.lt,gh.lg,if_neg (by omega),Nat.sub_self]; rfl
  rw [colA,e1,a2E gh.lt gh.lg,e3,Int.sub_mul] at this;omega
 have vp:0<v:=by
  rcases Int.lt_or_le 0 v with c | c
  ·exact c
  ·have v0:v=0:=by omega
   subst v0;have t0:=tk 0 (by omega);rw [Int.mul_zero,a9j] at t0;have:∀ f:List Int,P2 f ws=0:=λ f=>a1f f (l:=hs.map λ g=>(A3 0 g).getD 0 0) (p:=ws) (by rw [List.length_map,lws]) (λ x hx=>by
    obtain ⟨g,hg,rfl⟩:=List.mem_map.mp hx;have hl:0<g.1.length:=by rw [(hk g hg).1]; omega
    show 1<=g.1.getD 0 0
    rw [List.getD_eq_getElem?_getD,List.getElem?_eq_getElem hl];exact ((hG g hg).t _ (List.getElem_mem hl)).1) wnn t0
   rw [this] at fl;omega
 have size:a0b z ws.sum v:=by
  rcases hz with rfl | rfl | rfl | rfl
  ·exact ⟨λ h=>absurd h (by decide),λ h=>absurd h (by decide)⟩
  ·have s0:(1:Int)*v<=1*ws.sum:=szc 0 (by decide)
   have s1:(-1:Int)*v <= -1*ws.sum:=szc 1 (by decide);exact ⟨λ _=>by omega,λ _=>by omega⟩
  ·have s1:(-1:Int)*v <= -1*ws.sum:=szc 0 (by decide)
   exact ⟨λ _=>by omega,λ h=>absurd h (by decide)⟩
  ·have s0:(1:Int)*v<=1*ws.sum:=szc 0 (by decide)
   exact ⟨λ h=>absurd h (by decide),λ _=>by omega⟩
 exact ⟨⟨lws,wnn,vp,size⟩,tk,gv,by omega⟩
end
section
variable {z:Str} {hs:List j5} {h:j5} {kt kg i:Nat} {far:Int}
end
theorem b2a:∀ k,k<20->Lp.bnd (2 ^ 60) (k+1)<2 ^ 3990:=by decide +kernel
theorem a9B {α:Type} {xs:List α} {n:Nat} {v:α} (hl:xs.length=n+2) (h:xs[n]?=some v):M2 xs (-2)=some v:=by
 have e:ixN xs.length (-2)=some n:=by
  unfold ixN;rw [hl,if_neg (by decide),if_pos (by omega)]
  congr 1
  omega
 unfold M2; rw [e]; exact h
theorem a5X (n m:Nat) (m0:1<=m):HT.sIx n n (some (-(m:Int)))=n - m:=by
 show (if (-(m:Int))<0 then ((-(m:Int))+(n:Int)).toNat else min (-(m:Int)).toNat n)=n - m
 rw [if_pos (by omega)]; omega
theorem a9K (xs:List V) (k m:Nat) (m0:1<=m) (h:k+m<=xs.length):E5 xs (some (k:Int)) (some (-(m:Int)))=(xs.take (xs.length - m)).drop k:=by
 unfold E5;rw [HT.sIx_nat,Nat.min_eq_left (by omega),a5X _ _ m0,List.drop_take]
theorem a7R (xs:List V) (m:Nat) (m0:1<=m):E5 xs none (some (-(m:Int)))=xs.take (xs.length - m):=by
 unfold E5;rw [HT.sIx_none,List.drop_zero,a5X _ _ m0,Nat.sub_zero]
abbrev rzA (z:Str) (hs:List j5) (h:j5) (S:Lp.Bo):List Int:=(((y4 (mF hs) (qF z h) S).take (qE z h)).take (h.1.length+h.2.length)).map (·+S.T (mF hs) (qF z h))++((y4 (mF hs) (qF z h) S).take (qE z h)).drop (h.1.length+h.2.length)
section
variable {P:Program} {w:World} {K:W.Frag} {mg:Str->Option Value} {base:Heap} {f Pt CN:Addr} {fd:FuncData} {n:Nat}
def a5P (K:W.Frag) (CN Pt:Addr):Sp:=λ vs H Q E=>∃ (ba:Addr) (xs:List V) (hs:List j5) (number:Int) (z:Str) (far:Int) (kt kg:Nat),vs=[.ref ba,.int number,.str z]/\Szw z/\W6 K H ba xs hs far kt kg/\far<=2 ^ 50/\1<=kt/\number.natAbs.log2<1920/\LT Pt H ∧
 (∀ (i:Nat) (h:j5) (S:Lp.Bo) (H':Hp) (t:Addr) (v:V),number=(i:Int)->hs[i]?=some h->a1M z hs h S->0<S.T (mF hs) (qF z h)->Same1 Pt H H'->LT Pt H'->H' t=some (.tup [.str "rim",v])->a4t H' v z h (rzA z hs h S) S.d->Q (.ref t) H') ∧
 (∀ (i:Nat) (h:j5) (S:Lp.Bo) (H':Hp) (t ml:Addr) (mts:List V),number=(i:Int)->hs[i]?=some h->a1M z hs h S->¬ 0<S.T (mF hs) (qF z h)->Same1 Pt H H'->LT Pt H'->H' t=some (.tup [.str "beaten",.ref ml])->H' ml=some (.lst mts)->H ml=none →
  FrsAt H' mts ((A8 (mF hs) (qF z h) S).take hs.length) ((A8 (mF hs) (qF z h) S).getD hs.length 0)->Q (.ref t) H')/\(¬ a3O xs.length number->E (.ref CN) none H)
theorem scOr:r8 ["book","number","sizes","takes","gives","floor","amounts","weights","bottom","kinds","raised"] ["book","number","sizes"] (i3 T4):=⟨rfl,rfl,rfl,by decide +kernel,rfl,by decide +kernel,by decide +kernel⟩
theorem b3E:(["amount","floor"]:List Str).Nodup:=by decide +kernel
theorem b3v:(["weight","weights"]:List Str).Nodup:=by decide +kernel
noncomputable def orT {cdv:Value} {A:Around} {outer:List Env} {s:Shared} {H:Hp} {E:XK} {f1 f2 f3 f4:Addr} {d1 d2 d3 d4:FuncData} (T:w6 mg) (Ch:a3c P w K mg base n "house_of" ["book","number"] (a2r K CN) f1 d1) (Cf:SCal P w K mg base n "greatest_floor" ["houses","number","sizes"] (a3e K Pt) f2 d2)
  (Cl:X7 P w K mg base n "lowest" ["top","bottom"] L7 f3 d3) (Cp:SCal P w K mg base n "told_prices" ["house","sizes","amounts","bottom"] (a0l K) f4 d4) (hr:Room n (A.deeper (PyProof.Rows.envOfC "on_rim" (i3 T4) s.heap.objs.size f cdv))) :
  { t:TS // PSs (G9 (CX1 P w) P w K mg base ["book","number","sizes","takes","gives","floor","amounts","weights","bottom","kinds","raised"] "on_rim" (i3 T4) f cdv A outer s H E) (t9 T4) t } :=
 ⟨_,i4 (C7 (j6 Ch.ok hr rfl Ch.m Ch.k Ch.b .nil a6k (c6 (pv 0) (c6 (pv 1) h8))) (K2 rfl (j4 (i8 (i:=3) scOr.nd rfl (Or.inl rfl)) (j4 (i8 (i:=4) scOr.nd rfl (Or.inl rfl)) t8))))
  (PSs.nox (i4 (C7 (j6 Cf.ok hr rfl Cf.m Cf.k Cf.b .nil t6 (c6 (pv 0) (c6 (pv 1) (c6 (pv 2) h8)))) (K2 rfl (j4 (i8 (i:=5) scOr.nd rfl (Or.inr rfl)) (j4 (i8 (i:=6) scOr.nd rfl (Or.inl rfl)) (j4 (i8 (i:=7) scOr.nd rfl (Or.inr rfl)) (j4 (i8 (i:=8) scOr.nd rfl (Or.inl rfl)) t8))))))
  (i4 (x6 (p7 V8 (pv 5) c7 (m8 _))
   (i4 (m9 (i:=9) scOr.nd rfl (Or.inl rfl) (j3 C4 (j9 j7 rfl T.len PySem.boot_len (c6 (pv 3) h8)) (j9 j7 rfl T.len PySem.boot_len (c6 (pv 4) h8))))
   (i4 (S5 (i:=10) ["amount"] [5] scOr.nd rfl rfl rfl (A5 (D9 J7 (pv 6) O9 (D2 (pv 9)))) (λ _ _ _ _=>i8 (i:=0) b3E rfl (Or.inl rfl)) (λ _ _ _ _=>j3 C4 (pv 0) (pv 1)))
   (i7 (m6 (w4 (c6 D3 (c6 (j6 Cp.ok hr rfl Cp.m Cp.k Cp.b .nil t6 (c6 (i9 j0 (pv 0) (pv 1) (λ _ _=>rfl)) (c6 (pv 2) (c6 (j3 G4 (pv 10) (D9 J7 (pv 6) (D2 (pv 9)) (D2 (M3 G7 c7)))) (c6 (pv 8) h8))))) h8))))))) r9)
  (i7 (m6 (w4 (c6 D3 (c6 (J9 ["weight"] [7] rfl (A5 (D9 J7 (pv 7) O9 (D2 (M3 G7 c7)))) (λ _ _ _ _=>i8 (i:=0) b3v rfl (Or.inl rfl))
   (λ _ _ _ _=>j6 Cl.ok hr rfl Cl.m Cl.k Cl.b .nil t6 (c6 (pv 0) (c6 (i9 (a3s K rfl) (pv 1) (M3 G7 c7) (λ _ _=>rfl)) h8)))) h8))))))))⟩
theorem a8o {f1 f2 f3 f4:Addr} {d1 d2 d3 d4:FuncData} (F:Fun K "on_rim" "on_rim" T4 f fd) (T:w6 mg) (Ch:a3c P w K mg base n "house_of" ["book","number"] (a2r K CN) f1 d1) (Cf:SCal P w K mg base n "greatest_floor" ["houses","number","sizes"] (a3e K Pt) f2 d2)
  (Cl:X7 P w K mg base n "lowest" ["top","bottom"] L7 f3 d3) (Cp:SCal P w K mg base n "told_prices" ["house","sizes","amounts","bottom"] (a0l K) f4 d4):FnOk P w K mg base (CX1 P w) (n+1) f fd ["book","number","sizes"] (a5P K CN Pt):=by
 refine F.ok1 scOr (λ vs H Q E h=>?_) (λ cdv A outer s H vs Q E hr h=>?_)
 ·obtain ⟨ba,xs,hs,number,z,far,kt,kg,rfl,_⟩:=h
  rfl
 obtain ⟨ba,xs,hs,number,z,far,kt,kg,rfl,hz,B,hf,kt1,lm,L,kR,kB,kE⟩:=h;refine ⟨_,(orT T Ch Cf Cl Cp hr).2,?_⟩;refine ⟨_,rfl,_,rfl,ba,xs,number,rfl,B.l,lm,λ i hv hi hx=>?_,kE⟩;subst hi;obtain ⟨h,hh,hH⟩:=Paired.at B.b hx;have gh:=B.g h (List.mem_of_getElem? hh);obtain ⟨ha,ta,ga,rfl,p1,p2,p3⟩:=id hH;refine ⟨ha,_,rfl,p1,rfl,_,_,rfl,_,_,rfl,rfl,?_⟩;refine ⟨_,rfl,_,rfl,_,rfl,ba,xs,hs,i,h,z,far,kt,kg,rfl,hz,B,hf,hh,L,λ S H1 t aa wa Bf e1 L1 ht haa hwa=>?_⟩;refine ⟨t,_,rfl,SqT.of ht,rfl,_,_,rfl,_,_,rfl,_,_,rfl,_,_,rfl,rfl,?_⟩;refine ⟨_,rfl,_,_,rfl,rfl,_,rfl,?_⟩;have hM:=a5H (z:=z) (hs:=hs) gh B.g hf B.t B.k (qF z h);have O:=Bf.1;have few:=B.few;have k20:=B.t;have k21:=B.k;have lt:=gh.lt;have lg:=gh.lg;have sg:=a0r z;have small:=j8 (show (1000:Nat)<=1000 from Nat.le_refl _);have hb:=b2a (hs.length+2) (by omega);have sz9:Sz 3990 (mF hs) (qF z h) S:=⟨λ i j hi hj=>Nat.lt_of_le_of_lt (O.w.bndT hM hi hj) hb,Nat.lt_of_le_of_lt (O.w.bndd hM) hb⟩;have dpos:=O.w.pos;have d8:S.d<2 ^ 8000:=by
  have h1:S.d.natAbs<2 ^ 4000:=Bf.2.2.2;have h2:(2:Nat) ^ 4000<=2 ^ 8000:=Nat.pow_le_pow_right (by decide) (by decide);have h3:S.d=(S.d.natAbs:Int):=by omega
  rw [h3]
  exact_mod_cast Nat.lt_of_lt_of_le h1 h2
 have la:(y4 (mF hs) (qF z h) S).length=qE z h+1:=by unfold y4; simp
 have lw:(A8 (mF hs) (qF z h) S).length=hs.length+2:=by unfold A8; simp
 have qe:qE z h=h.1.length+h.2.length+(S2 z).length:=rfl;have p21:=SqT.same1 L e1 p2;have p31:=SqT.same1 L e1 p3;refine w8 (λ c=>?_) (λ c=>?_)
 ·have c':0<S.T (mF hs) (qF z h):=of_decide_eq_true c
  refine ⟨_,rfl,ta,_,rfl,.inr p21,_,rfl,ga,_,rfl,.inr p31,_,_,rfl,rfl,?_⟩;rw [List.length_map,List.length_map];refine ⟨_,rfl,_,rfl,_,rfl,aa,_,rfl,SqL.of haa,λ a1 h1=>?_⟩;rw [show ((h.1.length:Int)+(h.2.length:Int))=((h.1.length+h.2.length:Nat):Int) by omega,a0U _ _ (by rw [List.length_map,la]; omega),<- List.map_take];have s1:=Same.new h1 (.lst (((y4 (mF hs) (qF z h) S).take (h.1.length+h.2.length)).map V.int));refine ⟨a1,rfl,⟨_,SqL.of upd_same⟩,λ rl hrl=>?_⟩;refine W8 (v6 (SqL.of upd_same)) hrl (by rw [List.length_map,List.length_take]; omega) (λ x=>.int (vI x+S.T (mF hs) (qF z h))) (λ j x H2 N hx e hN=>?_) ?_
  ·obtain ⟨k,rfl⟩:=O6 hx
   exact ⟨Wk.set (by decide),_,rfl,_,rfl,_,_,rfl,rfl,hN⟩
  have eA:(((y4 (mF hs) (qF z h) S).take (h.1.length+h.2.length)).map V.int).map (λ x=>V.int (vI x+S.T (mF hs) (qF z h)))=(((y4 (mF hs) (qF z h) S).take (h.1.length+h.2.length)).map (·+S.T (mF hs) (qF z h))).map V.int:=by rw [List.map_map,List.map_map]; rfl
  rw [eA];have s2:=Same.new hrl (.lst ((((y4 (mF hs) (qF z h) S).take (h.1.length+h.2.length)).map (·+S.T (mF hs) (qF z h))).map V.int));have s12:=s1.trans s2;have e12:=e1.trans s12.to1;refine ⟨_,rfl,_,rfl,ba,_,_,_,rfl,rfl,SqL.same1 L e12 B.l,r6 hx,_,rfl,_,rfl,_,rfl,_,rfl,_,rfl,_,rfl,_,rfl,aa,_,rfl,SqL.of (s12 _ _ haa),λ a2 h2=>?_⟩;have ec:E5 ((y4 (mF hs) (qF z h) S).map V.int) (some ((h.1.length+h.2.length:Nat):Int)) (some (-1))=(((y4 (mF hs) (qF z h) S).take (qE z h)).drop (h.1.length+h.2.length)).map V.int:=by
   have:=a9K ((y4 (mF hs) (qF z h) S).map V.int) (h.1.length+h.2.length) 1 (by decide) (by rw [List.length_map,la]; omega);rw [List.length_map,la,Nat.add_sub_cancel,<- List.map_take,<- List.map_drop] at this;exact this
  rw [show ((h.1.length:Int)+(h.2.length:Int))=((h.1.length+h.2.length:Nat):Int) by omega,ec];have s3:=Same.new h2 (.lst ((((y4 (mF hs) (qF z h) S).take (qE z h)).drop (h.1.length+h.2.length)).map V.int));refine ⟨rl,a2,_,_,rfl,rfl,s3 _ _ upd_same,upd_same,by simp [la]; omega,λ al hal=>?_⟩;have s4:=Same.new hal (.lst ((((y4 (mF hs) (qF z h) S).take (h.1.length+h.2.length)).map (·+S.T (mF hs) (qF z h))).map V.int++(((y4 (mF hs) (qF z h) S).take (qE z h)).drop (h.1.length+h.2.length)).map V.int));have s14:=s12.trans (s3.trans s4);have e14:=e1.trans s14.to1;have et:((y4 (mF hs) (qF z h) S).take (h.1.length+h.2.length))=((y4 (mF hs) (qF z h) S).take (qE z h)).take (h.1.length+h.2.length):=by rw [List.take_take,Nat.min_eq_left (by omega)]
  have eL:(((y4 (mF hs) (qF z h) S).take (h.1.length+h.2.length)).map (·+S.T (mF hs) (qF z h))).map V.int++(((y4 (mF hs) (qF z h) S).take (qE z h)).drop (h.1.length+h.2.length)).map V.int=(rzA z hs h S).map V.int:=by rw [et,<- List.map_append]
  have av:∀ x∈y4 (mF hs) (qF z h) S,Big 3990 x:=λ x hx=>by
   unfold y4 at hx;obtain ⟨v,hv',rfl⟩:=List.mem_map.mp hx;have hv:=List.mem_range.mp hv';rcases O.w.all v (by omega) with ⟨i,hi,e⟩ | ⟨j,hj,e⟩
   ·have:Lp.valIn (mF hs) S (qF z h) v=S.T i (qF z h):=by
     unfold Lp.valIn;rw [Lp.sum_one hi λ k hk hn=>if_neg λ z=>hn (O.w.ii k i hk hi (z.trans e.symm)),if_pos e]
    rw [this];exact sz9.1 i (qF z h) (by omega) (by omega)
   ·have:Lp.valIn (mF hs) S (qF z h) v=0:=Lp.sum_zero λ k hk=>if_neg λ z=>O.w.io k j hk hj (z.trans e.symm)
    rw [this]
    show (0:Int).natAbs<2 ^ 3990
    exact Nat.pow_pos (by decide)
  refine ⟨_,rfl,?_⟩;refine ⟨_,h,z,al,S.d,rzA z hs h S,rfl,hz,(hH.same1 L e14),SqL.of (by rw [upd_same,eL]),by first | (simp [la]; done) | (simp [la]; omega),by omega,by omega,λ x hx=>?_,dpos,d8,λ pt fa ga' v H5 fts gts e5 q1 q2 q3 q4 q5 q6=>?_⟩
  ·rcases List.mem_append.mp hx with hx | hx
   ·obtain ⟨y,hy,rfl⟩:=List.mem_map.mp hx
    have b1:y.natAbs<2 ^ 3990:=av y (List.mem_of_mem_take (List.mem_of_mem_take hy));have b2:(S.T (mF hs) (qF z h)).natAbs<2 ^ 3990:=sz9.1 _ _ (by omega) (by omega)
    show (y+S.T (mF hs) (qF z h)).natAbs<2 ^ 4000
    have b3:(2:Nat) ^ 3990+2 ^ 3990<=2 ^ 4000:=by decide +kernel
    have b4:=Int.natAbs_add_le y (S.T (mF hs) (qF z h));exact Nat.lt_of_le_of_lt b4 (Nat.lt_of_lt_of_le (Nat.add_lt_add b1 b2) b3)
   ·exact (av x (List.mem_of_mem_take (List.mem_of_mem_drop hx))).mono (by decide)
  refine ⟨(by show 2<=sizeLine; decide),λ tt htt=>?_⟩;have s6:=Same.new htt (.tup [V.str "rim",V.ref pt]);have eF:=e14.trans (e5.trans s6).to1;refine kR i h S _ tt (.ref pt) rfl hh Bf c' eF (((L1.same s14).same e5).same s6) upd_same ⟨pt,fa,ga',v,fts,gts,rfl,s6 _ _ q1,s6 _ _ q2,q3.same s6,s6 _ _ q4,q5.same s6,q6.same s6⟩
 ·have c':¬ 0<S.T (mF hs) (qF z h):=of_decide_eq_false (Bool.eq_false_iff.mpr c)
  have bt:=a0n hz Bf B.g hh kt1 c';refine ⟨_,rfl,_,rfl,_,rfl,wa,_,rfl,SqL.of hwa,λ a1 h1=>?_⟩;have ec:E5 ((A8 (mF hs) (qF z h) S).map V.int) none (some (-2))=((A8 (mF hs) (qF z h) S).take hs.length).map V.int:=by
   have:=a7R ((A8 (mF hs) (qF z h) S).map V.int) 2 (by decide);rw [List.length_map,lw,Nat.add_sub_cancel,<- List.map_take] at this;exact this
  rw [ec];have s1:=Same.new h1 (.lst (((A8 (mF hs) (qF z h) S).take hs.length).map V.int));have vb:(A8 (mF hs) (qF z h) S).getD hs.length 0<2 ^ 8000:=by
   have hl:hs.length<(A8 (mF hs) (qF z h) S).length:=by omega
   have:Big 4000 ((A8 (mF hs) (qF z h) S).getD hs.length 0):=by
    unfold A8;rw [a3j (by show hs.length<hs.length+2; omega)];exact a2S O Bf.2.2 (by show qF z h+hs.length<qF z h+(hs.length+2); omega)
   have h1:((A8 (mF hs) (qF z h) S).getD hs.length 0).natAbs<2 ^ 4000:=this;have h2:(2:Nat) ^ 4000<=2 ^ 8000:=Nat.pow_le_pow_right (by decide) (by decide);have h3:(A8 (mF hs) (qF z h) S).getD hs.length 0=(((A8 (mF hs) (qF z h) S).getD hs.length 0).natAbs:Int):=by have:=bt.m.d; omega
   rw [h3]
   exact_mod_cast Nat.lt_of_lt_of_le h1 h2
  refine ⟨a1,rfl,⟨_,SqL.of upd_same⟩,λ l hl=>?_⟩;refine C9 (v6 (SqL.of upd_same)) hl (by rw [List.length_map,List.length_take]; omega) (Z4 l ((A8 (mF hs) (qF z h) S).take hs.length) ((A8 (mF hs) (qF z h) S).getD hs.length 0)) O4 (λ j x H2 ys N' hx e hl2 hN=>?_) (λ ys H2 e hl2 len pr=>?_)
  ·obtain ⟨x',rfl,_⟩:=I0 hx
   have at2:M2 ((A8 (mF hs) (qF z h) S).map V.int) (-2)=some (.int ((A8 (mF hs) (qF z h) S).getD hs.length 0)):=a9B (n:=hs.length) (by rw [List.length_map,lw]) (by rw [List.getElem?_map,List.getD_eq_getElem?_getD,List.getElem?_eq_getElem (by omega)]; rfl);exact ⟨Wk.set (by decide),_,rfl,_,rfl,_,rfl,wa,_,_,_,rfl,rfl,SqL.of (e _ _ (s1 _ _ hwa)),at2,x',_,rfl,bt.m.d,vb,λ v H3 e3 hv=>hN _ _ e3 (T5 hl2 e3 hx hv)⟩
  have fr:=Q8 len pr;refine ⟨(by show 2<=sizeLine; decide),λ tt htt=>?_⟩;have s6:=Same.new htt (.tup [V.str "beaten",V.ref l]);have hml:H l=none:=by
   cases q:H l with
   | none=>rfl
   | some o =>
    exfalso
    by_cases hlp:l=Pt
    ·rw [hlp] at hl
     rcases L1 with w' | ⟨_,w',_⟩
     ·rw [s1 _ _ w'] at hl; cases hl
     ·rw [s1 _ _ w'] at hl; cases hl
    ·rw [s1 _ _ (e1 _ _ hlp q)] at hl; cases hl
  exact kB i h S _ tt l ys rfl hh Bf c' (e1.trans (s1.trans (e.trans s6)).to1) ((L1.same (s1.trans e)).same s6) upd_same (s6 _ _ hl2) hml (fr.same s6)
end
theorem a5l (K:W.Frag) {X:Cx} {tg l:Expr} {tl:TE} (h:X.K=K) (hl:PE X l tl):PI X tg l (b1P K tl):=by subst h; exact X4 hl
section
variable {z:Str} {hs:List j5} {h:j5} {kt kg:Nat} {ws:List Int} {v:Int}
end
section
variable {z:Str} {hs:List j5} {h:j5} {S:Lp.Bo} {kt kg i:Nat} {far:Int}
theorem a6U (hz:Szw z) (B:a1M z hs h S) (hG:∀ g∈hs,HG far kt kg g) (hh:hs[i]?=some h) (kt1:1<=kt) (h0:¬ 0<S.T (mF hs) (qF z h)):b3d z hs h kt kg ((A8 (mF hs) (qF z h) S).take hs.length) ((A8 (mF hs) (qF z h) S).getD hs.length 0)/\(∀ x∈(A8 (mF hs) (qF z h) S).take hs.length,Big 20000 x)/\(A8 (mF hs) (qF z h) S).getD hs.length 0<2 ^ 8000:=by
 have bt:=a0n hz B hG hh kt1 h0;have O:=B.1;have lw:(A8 (mF hs) (qF z h) S).length=hs.length+2:=by unfold A8; simp
 refine ⟨bt,λ x hx=>?_,?_⟩
 ·have hx':=List.mem_of_mem_take hx
  unfold A8 at hx';obtain ⟨k,hk',rfl⟩:=List.mem_map.mp hx';have:=List.mem_range.mp hk';exact (a2S O B.2.2 (by omega)).mono (by decide)
 ·have hl:hs.length<(A8 (mF hs) (qF z h) S).length:=by omega
  have:Big 4000 ((A8 (mF hs) (qF z h) S).getD hs.length 0):=by
   unfold A8;rw [a3j (by show hs.length<hs.length+2; omega)];exact a2S O B.2.2 (by show qF z h+hs.length<qF z h+(hs.length+2); omega)
  have h1:((A8 (mF hs) (qF z h) S).getD hs.length 0).natAbs<2 ^ 4000:=this;have h2:(2:Nat) ^ 4000<=2 ^ 8000:=Nat.pow_le_pow_right (by decide) (by decide);have h3:(A8 (mF hs) (qF z h) S).getD hs.length 0=(((A8 (mF hs) (qF z h) S).getD hs.length 0).natAbs:Int):=by have:=bt.m.d; omega
  rw [h3]
  exact_mod_cast Nat.lt_of_lt_of_le h1 h2
end
theorem a4K {K:W.Frag} {H:Hp}:∀ {ys:List V} {ds:List PyData},ys.length=ds.length->(∀ (i:Nat) y d,ys[i]?=some y->ds[i]?=some d->Dp K H y d)->Dps K H ys ds
 | [],[],_,_=>.nil
 | y::ys,d::ds,hl,h=>.cons (h 0 y d rfl rfl) (a4K (by simpa using hl) λ i y' d' h1 h2=>h (i+1) y' d' h1 h2)
 | [],_::_,hl,_=>by simp at hl
 | _::_,[],hl,_=>by simp at hl
theorem V2 {α:Type} (f:α->Q2):∀ l:List α,PyData.canLayAll0 (l.map λ x=>dF (f x))=true
 | []=>by rw [List.map_nil,PyData.canLayAll0]
 | x::l=>by rw [List.map_cons,PyData.canLayAll0,a4x,V2 f l]; rfl
theorem a2f {α:Type} (f:α->Q2):∀ l:List α,PyData.depthAll (l.map λ x=>dF (f x))<=10
 | []=>by rw [List.map_nil]; simp [PyData.depthAll]
 | x::l=>by
  rw [List.map_cons,PyData.depthAll];refine Nat.max_le.mpr ⟨?_,a2f f l⟩;unfold dF; simp [PyData.depth,PyData.depthAll]
abbrev a1G (hs:List j5) (ws:List Int) (D:Int) (j k:Nat):PyData:=.list ((List.range k).map λ i=>dF (t7 (K6 hs ws j i) D))
abbrev a4V (l:List Int):PyData:=.list (l.map λ x=>dF (x,1))
theorem SideOk.dp {K:W.Frag} {H:Hp} {hs:List j5} {ws:List Int} {D:Int} {j k:Nat} {a:Addr} (h:SideOk H hs ws D j k a):Dp K H (.ref a) (a1G hs ws D j k):=by
 obtain ⟨ys,h1,h2,h3⟩:=h;refine .lst (SqL.of h1) (a4K (by simp [h2]) λ i y d hy hd=>?_);have hi:i<k:=by rw [<- h2]; exact (List.getElem?_eq_some_iff.mp hy).1
 rw [List.getElem?_map,List.getElem?_range hi] at hd
 cases hd;exact FrV.dp (h3 i y hy).v
theorem Y5 (x:Int):t7 x 1=(x,1):=by
 refine V0 (Y3 (by decide)) ⟨by show (0:Int)<1; decide,by simp⟩ ?_;have:=J4 (x:=x) (D:=1) (by decide);rw [Int.mul_one] at this
 show (t7 x 1).1*1=x*(t7 x 1).2
 omega
theorem FrsAt.own {K:W.Frag} {H:Hp} {l:List Int} {ys:List V} {a:Addr} (h1:H a=some (.lst ys)) (h:FrsAt H ys l 1):Dp K H (.ref a) (a4V l):=by
 refine .lst (SqL.of h1) (a4K (by simp [h.1]) λ i y d hy hd=>?_);have hi:i<l.length:=by rw [<- h.1]; exact (List.getElem?_eq_some_iff.mp hy).1
 rw [List.getElem?_map,List.getElem?_eq_getElem hi] at hd
 cases hd;have:=h.2 i y hy;rw [List.getD_eq_getElem?_getD,List.getElem?_eq_getElem hi] at this;exact FrV.dp (by rw [<- Y5]; exact this.v)
def a9d (p:Addr) (h:j5) (i:Nat) (y:V) (H:Hp):Prop:=∃ (l:Addr) (ys:List V),y=.ref l/\l≠p/\H l=some (.lst ys)/\FrsAt H ys (A3 i h) 1/\∀ y∈ys,y≠.ref p
theorem a5b {p:Addr} {h:j5}:∀ i y H H',a9d p h i y H->(∀ b o,b≠p->H b=some o->H' b=some o)->a9d p h i y H':=λ i y H H' ⟨l,ys,h1,h2,h3,h4,h5⟩ e=>⟨l,ys,h1,h2,e l _ h2 h3,⟨h4.1,λ k u hu=>by
 obtain ⟨b,rfl,hb⟩:=h4.2 k u hu;exact ⟨b,rfl,e b _ (λ w=>h5 _ (List.mem_of_getElem? hu) (by rw [w])) hb⟩⟩,h5⟩
section
variable {P:Program} {w:World} {K:W.Frag} {mg:Str->Option Value} {base:Heap} {f:Addr} {fd:FuncData} {n:Nat}
theorem b3I:r8 ["book","number","sizes","prices"] ["book","number","sizes","prices"] (i3 J6):=⟨rfl,rfl,rfl,by decide +kernel,rfl,by decide +kernel,by decide +kernel⟩
theorem b3A:(["price"]:List Str).Nodup:=by decide +kernel
theorem scBts:r8 ["book","number","sizes","mix","own"] ["book","number","sizes","mix"] (i3 K4):=⟨rfl,rfl,rfl,by decide +kernel,rfl,by decide +kernel,by decide +kernel⟩
theorem b1H:(["side"]:List Str).Nodup:=by decide +kernel
theorem b1Y:(["one"]:List Str).Nodup:=by decide +kernel
end
end Rim
namespace L2
open PySem PySem.Spec PyProof.Rows
section
variable {prog:Program} {w:World} {A:Around} {E:Value->Shared->Prop} {s:Shared}
end
section
variable {b:Bool} {xs:List V} {K:W.Frag} {l:Addr} {fr:List Nat} {te:TE} {σ:St} {H1:Hp} {p:Addr} {D:Hp->Prop}
end
section
variable {b:Bool} {xs:List V} {K:W.Frag} {l:Addr} {fr:List Nat} {tc:TT} {te:TE} {σ:St} {H1:Hp} {p:Addr} {D:Hp->Prop}
end
end L2
namespace L2
open PySem
theorem a7I (K:W.Frag) {X:Cx} (h:X.K=K):SlR X (b2K K):=by subst h; exact J7
theorem a9f (xs:List V) (k:Nat) (h:k<=xs.length) (h1:1<=xs.length):E5 xs (some (k:Int)) (some (-1))=(xs.drop k).take (xs.length - 1 - k):=by
 have e:HT.sIx xs.length xs.length (some (-1))=xs.length - 1:=by
  show (if (-1:Int)<0 then ((-1:Int)+(xs.length:Int)).toNat else min (-1:Int).toNat xs.length)=_
  rw [if_pos (by decide)]; omega
 unfold E5;rw [e,HT.sIx_nat,Nat.min_eq_left h]
end L2
namespace Rim
open PySem L2 Fr
def N0 (D L x:Int):Int:=(t7 x D).1*(L / (t7 x D).2)
theorem U4 {D L x:Int} (hD:0<D) (h:(t7 x D).2∣L):N0 D L x*D=x*L:=by
 unfold N0;obtain ⟨c,hc⟩:=h;have h0:(t7 x D).2≠0:=by have:=A9 (t:=x) hD; omega
 have e:L / (t7 x D).2=c:=by rw [hc]; exact Int.mul_ediv_cancel_left c h0
 rw [e,Int.mul_right_comm,J4 hD,hc,Int.mul_assoc]
theorem a1K {D L x:Int} {n:Nat} (hD:0<D) (hL:0<L) (hLD:L<=D) (h:(t7 x D).2∣L) (hx:Big n x):Big n (N0 D L x):=by
 have e:=U4 (x:=x) hD h;have e1:(N0 D L x).natAbs*D.natAbs=x.natAbs*L.natAbs:=by rw [<- Int.natAbs_mul,<- Int.natAbs_mul,e]
 have e2:x.natAbs*L.natAbs<=x.natAbs*D.natAbs:=Nat.mul_le_mul_left _ (by omega);rw [<- e1] at e2;have e3:=Nat.le_of_mul_le_mul_right e2 (by omega);unfold Big at *;omega
theorem a1o {D L:Int} (hD:0<D):∀ (ns xs:List Int),(∀ x∈xs,(t7 x D).2∣L)->(List.zipWith (·*·) ns (xs.map (N0 D L))).sum*D=(List.zipWith (·*·) ns xs).sum*L
 | [],_,_=>by simp
 | _::_,[],_=>by simp
 | a::ns,x::xs,h=>by
  rw [List.map_cons,List.zipWith_cons_cons,List.zipWith_cons_cons,List.sum_cons,List.sum_cons,Int.add_mul,Int.add_mul,a1o hD ns xs λ y hy=>h y (List.mem_cons_of_mem _ hy),Int.mul_assoc,U4 hD (h x List.mem_cons_self),Int.mul_assoc]
section
variable {P:Program} {w:World} {K:W.Frag} {mg:Str->Option Value} {base:Heap} {f:Addr} {fd:FuncData} {n:Nat}
theorem S1 {n:Nat} {fr:List Nat} {σ:St} {i j:Nat} {v u:V} (hi:i<n) (hj:j<n):Wk (blkσ n fr σ) (((blkσ n fr σ).set i (some v)).set j (some u)):=by
 refine ⟨by simp,λ k w e=>?_⟩;have:¬ k<n:=λ hk=>by
  unfold blkσ at e;rw [List.getElem?_append_left (by simpa using hk),List.getElem?_replicate] at e
  split at e <;> cases e
 rw [List.getElem?_set_ne (by omega),List.getElem?_set_ne (by omega)]; exact e
def Z0 (K:W.Frag):Sp:=λ vs H Q _=>∃ (a:Addr) (ys:List V) (xs:List Int) (D:Int),vs=[.ref a]/\SqL K H a ys/\FrsV K H ys xs D/\xs.length<=100/\(∀ x∈xs,Big 20000 x)/\0<D/\D<2 ^ 8000 ∧
 ∀ (r tl:Addr) (H':Hp) (L:Int),Same H H'->H' r=some (.tup [.ref tl,.int L])->H' tl=some (.lst ((xs.map (N0 D L)).map V.int))->0<L->L∣D->(∀ x∈xs,(t7 x D).2∣L)->Q (.ref r) H'
theorem scOver:r8 ["ones","shared","top","bottom"] ["ones"] (i3 N3):=⟨rfl,rfl,rfl,by decide +kernel,rfl,by decide +kernel,by decide +kernel⟩
theorem a7N:(["top","bottom","shared"]:List Str).Nodup:=by decide +kernel
theorem a9D {fa:Addr} {da:FuncData} (F:Fun K "over_one_bottom" "over_one_bottom" N3 f fd) (C:X7 P w K mg base n "common_divisor" ["one","other"] a8u fa da):FnOk P w K mg base G2 (n+1) f fd ["ones"] (Z0 K):=by
 refine F.ok scOver (λ vs H Q E h=>?_) (λ cdv A outer s H vs Q E hr h=>?_)
 ·obtain ⟨a,ys,xs,D,rfl,_⟩:=h
  rfl
 obtain ⟨a,ys,xs,D,rfl,hS,hF,hl100,hbig,hD,hD8,q⟩:=h;refine ⟨_,i4 (m9 (i:=1) scOver.nd rfl (Or.inr rfl) c7)
  (i4 (P7 PassesOwn.never rfl (A5 (pv 0)) (K2 rfl (j4 (i8 (i:=2) scOver.nd rfl (Or.inl rfl)) (j4 (i8 (i:=3) scOver.nd rfl (Or.inl rfl)) t8)))
   (i7 (m9 (i:=1) scOver.nd rfl (Or.inr rfl) (j3 y6 (j3 L0 (pv 1) (j6 C.ok hr rfl C.m C.k C.b .nil t6 (c6 (pv 1) (c6 (pv 3) h8)))) (pv 3)))))
  (i7 (m6 (w4 (c6 (J9 ["top","bottom"] [1] rfl (A5 (pv 0)) (λ _ _ _ _=>E6 K (n:=2) rfl rfl (j4 (i8 (i:=0) a7N rfl (Or.inl rfl)) (j4 (i8 (i:=1) a7N rfl (Or.inl rfl)) t8))) (λ _ _ _ _=>j3 y6 (pv 0) (j3 L0 (pv 2) (pv 1)))) (c6 (pv 1) h8)))))),?_⟩
 have xl:ys.length=xs.length:=hF.1;have b8:∀ {x:Int},0<x->x<=D->Big 1000000 x:=λ h1 h2=>(B9 (n:=8000) (Int.le_of_lt h1) (Int.lt_of_le_of_lt h2 hD8)).mono (by decide);refine ⟨_,rfl,a,rfl,⟨_,hS⟩,?_⟩;refine a4z (xs:=ys) (λ i σ H'=>∃ (L:Int) (o2 o3:Option V),σ=[some (.ref a),some (.int L),o2,o3]/\H'=H/\0<L/\L∣D/\∀ j x,j<i->xs[j]?=some x->(t7 x D).2∣L)
  ⟨1,_,_,rfl,rfl,by decide,⟨D,(Int.one_mul D).symm⟩,λ j x hj=>absurd hj (Nat.not_lt_zero _)⟩ (λ i σ H' _ ⟨_,_,_,_,e,_⟩=>by rw [e]; exact hS) ?_ ?_
 ·rintro i y σ H' hy ⟨L,o2,o3,rfl,rfl,hL,hLD,hdv⟩
  have hil:i<xs.length:=by rw [<- xl]; exact (List.getElem?_eq_some_iff.mp hy).1
  have hxi:xs[i]?=some (xs.getD i 0):=by rw [List.getD_eq_getElem?_getD,List.getElem?_eq_getElem hil]; rfl
  obtain ⟨b,rfl,hb⟩:=hF.2 i y hy;generalize xs.getD i 0=x at *;have hq:=A9 (t:=x) hD;have hqd:=a1m (x:=x) hD;generalize hfe:t7 x D=fq at *;have hqD:=Int.le_of_dvd hD hqd;have hg:=P8 (a:=L) hq;have hgq:=a6i (a:=L) hq;obtain ⟨d1,d2⟩:=D1 hL hg (F0 L fq.2);have hLd:L / gI L fq.2<=L:=by
   have:=V5 d1 hg;rw [Int.mul_comm,d2] at this;exact this
  refine ⟨b,_,rfl,hb,rfl,_,_,rfl,_,_,rfl,rfl,?_⟩;refine ⟨_,rfl,_,rfl,_,rfl,L,fq.2,rfl,Int.le_of_lt hq,_,_,rfl,rfl,⟨hg,Int.lt_of_le_of_lt hgq (Int.lt_of_le_of_lt hqD hD8)⟩,_,rfl,_,_,rfl,rfl,⟨b8 d1 (Int.le_trans hLd (Int.le_of_dvd hD hLD)),b8 hq hqD⟩,?_⟩;refine ⟨_,_,_,rfl,rfl,Int.mul_pos d1 hq,a4w hL hq hLD hqd,λ j y hj hy'=>?_⟩
  by_cases hji:j<i
  ·have h1:=hdv j y hji hy'
   have e:L / gI L fq.2*fq.2=L*(fq.2 / gI L fq.2):=by
    obtain ⟨_,d4⟩:=D1 hq hg (C8 L fq.2)
    calc L / gI L fq.2*fq.2=L / gI L fq.2*(gI L fq.2*(fq.2 / gI L fq.2)):=by rw [d4]
     _=(gI L fq.2*(L / gI L fq.2))*(fq.2 / gI L fq.2):=by ac_rfl
     _=L*(fq.2 / gI L fq.2):=by rw [d2]
   show (t7 y D).2∣L / gI L fq.2*fq.2
   rw [e];exact Int.dvd_mul_of_dvd_left h1
  ·have:j=i:=by omega
   subst this;rw [hxi] at hy'
   cases hy';rw [hfe];exact Int.dvd_mul_of_dvd_right (Int.dvd_refl _)
 ·rintro σ H' ⟨L,o2,o3,rfl,rfl,hL,hLD,hdv⟩
  have hdiv:∀ x∈xs,(t7 x D).2∣L:=λ y hy=>by
   obtain ⟨j,hj,rfl⟩:=List.getElem_of_mem hy;exact hdv j _ (by omega) (List.getElem?_eq_getElem hj)
  have hLe:=Int.le_of_dvd hD hLD;refine ⟨_,rfl,a,rfl,⟨_,hS⟩,λ p hp=>?_⟩;refine C9 (v6 hS) hp (j8 (by omega)) (λ i y _=>∃ x,xs[i]?=some x/\y=.int (N0 D L x)) (λ _ _ _ _ r _=>r) (λ i y H2 zs N hy e hp' hN=>?_) (λ zs H2 e hp' len pr=>?_)
  ·have hil:i<xs.length:=by rw [<- xl]; exact (List.getElem?_eq_some_iff.mp hy).1
   have hxi:xs[i]?=some (xs.getD i 0):=by rw [List.getD_eq_getElem?_getD,List.getElem?_eq_getElem hil]; rfl
   obtain ⟨b,rfl,hb⟩:=hF.2 i y hy;have hbx:=hbig _ (List.mem_of_getElem? hxi);have hdx:=hdiv _ (List.mem_of_getElem? hxi);generalize xs.getD i 0=x at *;have hq:=A9 (t:=x) hD;have hqD:=N7 (t:=x) hD;obtain ⟨d1,d2⟩:=D1 hL hq hdx;have hLd:L / (t7 x D).2<=L:=by
    have:=V5 d1 hq;rw [Int.mul_comm,d2] at this;exact this
   refine ⟨b,_,rfl,e.tseq hb,rfl,_,_,rfl,_,_,rfl,rfl,S1 (by decide) (by decide),?_⟩;refine ⟨_,rfl,_,rfl,_,rfl,_,_,rfl,rfl,⟨hq,Int.lt_of_le_of_lt hqD hD8⟩,_,_,rfl,rfl,⟨(L9 hD hbx).mono (by decide),b8 d1 (Int.le_trans hLd hLe)⟩,?_⟩;exact hN _ _ (Same.refl _) ⟨x,hxi,rfl⟩
  ·have ey:zs=(xs.map (N0 D L)).map V.int:=by
    refine List.ext_getElem? λ i=>?_
    by_cases hi:i<zs.length
    ·obtain ⟨x,z1,z2⟩:=pr i _ (List.getElem?_eq_getElem hi)
     rw [List.getElem?_eq_getElem hi,z2,List.getElem?_map,List.getElem?_map,z1]; rfl
    ·rw [List.getElem?_eq_none (by omega),List.getElem?_eq_none (by rw [List.length_map,List.length_map]; omega)]
   rw [ey] at hp';refine ⟨_,rfl,(by show 2<=sizeLine; decide),λ r hr2=>?_⟩;have f2:=Same.new hr2 (.tup [V.ref p,V.int L]);exact q r p _ L (e.trans f2) upd_same (f2 _ _ hp') hL hLD hdiv
def a0u (K:W.Frag):Sp:=λ vs H Q _=>∃ (b1 b2:Bool) (a t:Addr) (xs ys:List Int),vs=[.ref a,.ref t]/\SqB b1 K H a (xs.map V.int)/\SqB b2 K H t (ys.map V.int)/\xs.length<=1000/\(∀ x∈xs,Big 100000 x)/\(∀ y∈ys,Big 100000 y)/\∀ H',Same H H'->Q (.int (List.zipWith (·*·) xs ys).sum) H'
theorem b3b:r8 ["amounts","tops"] ["amounts","tops"] (i3 a3d):=⟨rfl,rfl,rfl,by decide +kernel,rfl,by decide +kernel,by decide +kernel⟩
theorem b0A:(["amount","top"]:List Str).Nodup:=by decide +kernel
theorem a8s (F:Fun K "come_to" "come_to" a3d f fd) (N:w6 mg):FnOk P w K mg base G2 (n+1) f fd ["amounts","tops"] (a0u K):=by
 refine F.ok b3b (λ vs H Q E h=>?_) (λ cdv A outer s H vs Q E hr h=>?_)
 ·obtain ⟨b1,b2,a,t,xs,ys,rfl,_⟩:=h
  rfl
 obtain ⟨b1,b2,a,t,xs,ys,rfl,ha,ht,hl,hx,hy,k⟩:=h;refine ⟨_,i7 (m6 (j9 (a1R rfl) rfl N.sum PyProof.Rows.boot_sum (c6 (J9 ["amount","top"] [] rfl (a5j λ b1=>a5j λ b2=>Z3 b1 b2 K rfl rfl N.zip (c6 (pv 0) (c6 (pv 1) h8)))
  (λ _ _ _ _=>E6 K (n:=2) rfl rfl (j4 (i8 (i:=0) b0A rfl (Or.inl rfl)) (j4 (i8 (i:=1) b0A rfl (Or.inl rfl)) t8))) (λ _ _ _ _=>j3 y6 (pv 0) (pv 1))) h8))),?_⟩
 refine ⟨b1,b2,_,rfl,_,rfl,a,t,rfl,⟨_,ha⟩,⟨_,ht⟩,λ l hl'=>?_⟩;refine b0F ha ht hl' (by rw [List.length_map]; exact j8 hl) (λ u v=>.int (vI u*vI v)) (λ i u v H' N' hu hv e hN=>?_) (λ H' e hH=>?_)
 ·obtain ⟨x,rfl,hxm⟩:=I0 hu
  obtain ⟨y,rfl,hym⟩:=I0 hv;exact ⟨_,rfl,_,rfl,_,_,rfl,rfl,⟨(hx _ hxm).mono (by decide),(hy _ hym).mono (by decide)⟩,hN⟩
 ·rw [a3p _ (·*·) (λ _ _=>rfl)] at hH
  exact ⟨l,_,rfl,.inl (SqL.of hH),k H' e⟩
structure b1X (pt pg:List Int) (ps D L:Int):Prop where
 l:0<L
 d:L∣D
 t:∀ x∈pt,(t7 x D).2∣L
 g:∀ x∈pg,(t7 x D).2∣L
 s:(t7 ps D).2∣L
def a4e (K:W.Frag):Sp:=λ vs H Q _=>∃ (ba t:Addr) (xs:List V) (hs:List j5) (pt pg:List Int) (ps D far:Int) (kt kg:Nat),vs=[.ref ba,.ref t]/\SqL K H ba xs/\Bk K H xs hs/\hs.length<=100/\(∀ h∈hs,HG far kt kg h)/\far<=2 ^ 60/\kt<=20/\kg<=20/\PrA H t pt pg ps D/\PrN pt pg ps D kt kg ∧
 ∀ (r pl gl:Addr) (L:Int) (H':Hp),Same H H'->b1X pt pg ps D L->H' r=some (.tup [.ref pl,.ref gl,.int (N0 D L ps),.int L])->H' pl=some (.lst ((hs.map λ h=>(List.zipWith (·*·) h.1 (pt.map (N0 D L))).sum).map V.int)) →
  H' gl=some (.lst ((hs.map λ h=>(List.zipWith (·*·) h.2 (pg.map (N0 D L))).sum).map V.int))->Q (.ref r) H'
theorem scWo':r8 ["book","prices","for_takes","for_gives","for_size","tops","bottom","many","paid","given"] ["book","prices"] (i3 T3):=⟨rfl,rfl,rfl,by decide +kernel,rfl,by decide +kernel,by decide +kernel⟩
theorem a5Q:(["takes","gives","tops","many"]:List Str).Nodup:=by decide +kernel
noncomputable def b4g {cdv:Value} {A:Around} {outer:List Env} {s:Shared} {H:Hp} {E:XK} {fa fb:Addr} {da db:FuncData} (T:w6 mg) (Co:SCal P w K mg base n "over_one_bottom" ["ones"] (Z0 K) fa da) (Cc:SCal P w K mg base n "come_to" ["amounts","tops"] (a0u K) fb db)
  (hr:Room n (A.deeper (PyProof.Rows.envOfC "worths" (i3 T3) s.heap.objs.size f cdv))) :
  { t:TS // PSs (G9 G2 P w K mg base ["book","prices","for_takes","for_gives","for_size","tops","bottom","many","paid","given"] "worths" (i3 T3) f cdv A outer s H E).nox (t9 T3) t } :=
 ⟨_,i4 (C7 (pv 1) (K2 rfl (j4 (i8 (i:=2) scWo'.nd rfl (Or.inl rfl)) (j4 (i8 (i:=3) scWo'.nd rfl (Or.inl rfl)) (j4 (i8 (i:=4) scWo'.nd rfl (Or.inl rfl)) t8)))))
  (i4 (C7 (j6 Co.ok hr rfl Co.m Co.k Co.b .nil t6 (c6 (j3 G4 (j3 G4 (pv 2) (pv 3)) (x8 (c6 (pv 4) h8))) h8)) (K2 rfl (j4 (i8 (i:=5) scWo'.nd rfl (Or.inr rfl)) (j4 (i8 (i:=6) scWo'.nd rfl (Or.inl rfl)) t8))))
  (p6 (m9 (i:=7) scWo'.nd rfl (Or.inr rfl) (j9 j7 rfl T.len PySem.boot_len (c6 (pv 2) h8)))
  (p6 (S5 (i:=8) ["takes","gives"] [5,7] scWo'.nd rfl rfl rfl (A5 (pv 0)) (λ _ _ _ _=>E6 K (n:=2) rfl rfl (j4 (i8 (i:=0) a5Q rfl (Or.inl rfl)) (j4 (i8 (i:=1) a5Q rfl (Or.inl rfl)) t8)))
   (λ _ _ _ _=>j6 Cc.ok hr rfl Cc.m Cc.k Cc.b .nil t6 (c6 (pv 0) (c6 (D9 (a7I K rfl) (pv 2) O9 (D2 (pv 3))) h8))))
  (p6 (S5 (i:=9) ["takes","gives"] [5,7] scWo'.nd rfl rfl rfl (A5 (pv 0)) (λ _ _ _ _=>E6 K (n:=2) rfl rfl (j4 (i8 (i:=0) a5Q rfl (Or.inl rfl)) (j4 (i8 (i:=1) a5Q rfl (Or.inl rfl)) t8)))
   (λ _ _ _ _=>j6 Cc.ok hr rfl Cc.m Cc.k Cc.b .nil t6 (c6 (pv 1) (c6 (D9 (a7I K rfl) (pv 2) (D2 (pv 3)) (D2 (M3 G7 c7))) h8))))
  (i7 (m6 (w4 (c6 (pv 8) (c6 (pv 9) (c6 (i9 j0 (pv 5) (M3 G7 c7) (λ _ _=>rfl)) (c6 (pv 6) h8)))))))))))⟩
end
section
variable {P:Program} {w:World} {K:W.Frag} {mg:Str->Option Value} {base:Heap} {f:Addr} {fd:FuncData} {n:Nat}
theorem FrsAt.cat {H:Hp} {ys zs:List V} {xs ws:List Int} {D:Int} (a:FrsAt H ys xs D) (b:FrsAt H zs ws D):FrsAt H (ys++zs) (xs++ws) D:=by
 refine ⟨by simp [a.1,b.1],λ i y hy=>?_⟩;rw [E9]
 by_cases hi:i<ys.length
 ·rw [List.getElem?_append_left hi] at hy
  rw [if_pos (by rw [<- a.1]; exact hi)];exact a.2 i y hy
 ·rw [List.getElem?_append_right (by omega)] at hy
  rw [if_neg (by rw [<- a.1]; exact hi),<- a.1];exact b.2 _ y hy
theorem a6Q {fa fb:Addr} {da db:FuncData} (F:Fun K "worths" "worths" T3 f fd) (T:w6 mg) (Co:SCal P w K mg base n "over_one_bottom" ["ones"] (Z0 K) fa da) (Cc:SCal P w K mg base n "come_to" ["amounts","tops"] (a0u K) fb db) :
  FnOk P w K mg base G2 (n+1) f fd ["book","prices"] (a4e K):=by
 refine F.ok scWo' (λ vs H Q E h=>?_) (λ cdv A outer s H vs Q E hr h=>?_)
 ·obtain ⟨ba,t,xs,hs,pt,pg,ps,D,far,kt,kg,rfl,_⟩:=h
  rfl
 obtain ⟨ba,t,xs,hs,pt,pg,ps,D,far,kt,kg,rfl,hS,hB,few,hG,hfar,hkt,hkg,⟨fa',ga',u,fts,gts,h1,h2,h3,h4,h5,h6⟩,hN,q⟩:=h;refine ⟨_,(b4g T Co Cc hr).2,?_⟩;have xl:xs.length=hs.length:=Paired.length hB;have s1k:=j8 (show (1000:Nat)<=1000 from Nat.le_refl _);have D8:D<2 ^ 8000:=Int.lt_trans hN.d2 (by exact_mod_cast Nat.pow_lt_pow_right (show 1<2 by decide) (show 4000<8000 by decide));have lft:fts.length=kt:=by rw [h3.1,hN.lt]
 have lgt:gts.length=kg:=by rw [h5.1,hN.lg]
 refine ⟨_,rfl,t,_,rfl,SqT.of h1,rfl,_,_,rfl,_,_,rfl,_,_,rfl,rfl,?_⟩;refine ⟨_,rfl,_,rfl,fa',ga',fts,gts,rfl,rfl,h2,h4,by omega,λ p1 k1=>?_⟩;have s1:=Same.new k1 (.lst (fts++gts));refine ⟨_,rfl,(by show 1<=sizeLine; decide),λ p2 k2=>?_⟩;have s2:=Same.new k2 (.lst [u]);refine ⟨p1,p2,_,_,rfl,rfl,s2 _ _ upd_same,upd_same,by simp; omega,λ p3 k3=>?_⟩;have s3:=Same.new k3 (.lst ((fts++gts)++[u]));have s123:=s1.trans (s2.trans s3);have hF:FrsAt H ((fts++gts)++[u]) ((pt++pg)++[ps]) D:=(h3.cat h5).snoc h6;refine ⟨p3,_,(pt++pg)++[ps],D,rfl,SqL.of upd_same,(hF.same s123).v,by simp [hN.lt,hN.lg]; omega,λ x hx=>?_,hN.d,D8,λ r tl H1 L e1 hr1 htl hL hLD hdiv=>?_⟩
 ·rcases List.mem_append.mp hx with hx | hx
  ·rcases List.mem_append.mp hx with hx | hx
   ·exact (hN.bt x hx).2.mono (by decide)
   ·exact (hN.bg x hx).2.mono (by decide)
  ·rw [List.mem_singleton.mp hx]; exact hN.bs.mono (by decide)
 have e01:=s123.trans e1;have OB:b1X pt pg ps D L:=⟨hL,hLD,λ x hx=>hdiv x (List.mem_append_left _ (List.mem_append_left _ hx)),λ x hx=>hdiv x (List.mem_append_left _ (List.mem_append_right _ hx)),hdiv ps (List.mem_append_right _ (List.mem_singleton.mpr rfl))⟩;have hLe:=Int.le_of_dvd hN.d hLD;have etl:((((pt++pg)++[ps]).map (N0 D L)).map V.int)=((pt.map (N0 D L)).map V.int++(pg.map (N0 D L)).map V.int)++[V.int (N0 D L ps)]:=by simp
 rw [etl] at htl;refine ⟨r,_,rfl,SqT.of hr1,rfl,_,_,rfl,_,_,rfl,rfl,?_⟩;generalize hpt':(pt.map (N0 D L))=pt' at *;generalize hpg':(pg.map (N0 D L))=pg' at *;have lp':pt'.length=kt:=by rw [<- hpt',List.length_map,hN.lt]
 have lg':pg'.length=kg:=by rw [<- hpg',List.length_map,hN.lg]
 have bpt:∀ x∈pt',Big 100000 x:=λ x hx=>by
  rw [<- hpt'] at hx;obtain ⟨y,hy,rfl⟩:=List.mem_map.mp hx;exact (a1K hN.d hL hLe (OB.t y hy) (hN.bt y hy).2).mono (by decide)
 have bpg:∀ x∈pg',Big 100000 x:=λ x hx=>by
  rw [<- hpg'] at hx;obtain ⟨y,hy,rfl⟩:=List.mem_map.mp hx;exact (a1K hN.d hL hLe (OB.g y hy) (hN.bg y hy).2).mono (by decide)
 generalize hps':N0 D L ps=ps' at *;refine ⟨λ σ' H'=>σ'=[some (.ref ba),some (.ref t),some (.ref fa'),some (.ref ga'),some u,some (.ref tl),some (.int L),some (.int (kt:Int)),none,none]/\H1=H',?_,?_⟩
 ·refine ⟨_,rfl,fa',_,rfl,.inl (SqL.of (e01 _ _ h2)),?_⟩
  rw [lft];exact ⟨rfl,rfl⟩
 rintro _ _ ⟨rfl,rfl⟩;have hS1:=e01.seq hS;have hB1:=Bk.same e01 hB;have cT:∀ a:List V,E5 (((pt'.map V.int++pg'.map V.int)++[V.int ps'])) none (some (kt:Int))=pt'.map V.int:=λ _=>by
  rw [a0U _ kt (by simp; omega),List.append_assoc,List.take_left' (by simp [lp'])]
 have cG:E5 (((pt'.map V.int++pg'.map V.int)++[V.int ps'])) (some (kt:Int)) (some (-1))=pg'.map V.int:=by
  rw [a9f _ kt (by simp; omega) (by simp; omega),List.append_assoc,List.drop_left' (by simp [lp'])];rw [List.take_left' (by simp; omega)]
 refine ⟨λ σ' H'=>∃ pl:Addr,σ'=[some (.ref ba),some (.ref t),some (.ref fa'),some (.ref ga'),some u,some (.ref tl),some (.int L),some (.int (kt:Int)),some (.ref pl),none]/\Same H1 H'/\H' pl=some (.lst ((hs.map λ h=>(List.zipWith (·*·) h.1 pt').sum).map V.int)),?_,?_⟩
 ·refine ⟨_,rfl,ba,rfl,⟨_,hS1⟩,λ p hp=>?_⟩
  refine C9 (v6 hS1) hp (j8 (by omega)) (λ i y _=>∃ h,hs[i]?=some h/\y=.int (List.zipWith (·*·) h.1 pt').sum) (λ _ _ _ _ r _=>r) (λ i y H2 zs N hy e hp' hNN=>?_) (λ zs H2 e hp' len pr=>?_)
  ·obtain ⟨h,hh,⟨a,ta,gb,rfl,q0,q1,q2⟩⟩:=Paired.at hB1 hy
   have gh:=hG h (List.mem_of_getElem? hh);refine ⟨a,_,rfl,e.tseq q0,rfl,_,_,rfl,_,_,rfl,rfl,S1 (by decide) (by decide),?_⟩;refine ⟨_,rfl,_,rfl,_,rfl,_,rfl,tl,_,rfl,SqL.of (e _ _ htl),λ p4 k4=>?_⟩;rw [cT []];refine ⟨false,true,ta,p4,h.1,pt',rfl,((e.trans (Same.new k4 _)).tseq q1:SqT K _ _ _),SqL.of upd_same,by rw [gh.lt]; omega,λ x hx=>(M9 gh hfar 0 x hx).mono (by decide),bpt,λ H3 e3=>?_⟩;exact hNN _ _ ((Same.new k4 _).trans e3) ⟨h,hh,rfl⟩
  ·have ez:zs=(hs.map λ h=>(List.zipWith (·*·) h.1 pt').sum).map V.int:=by
    refine List.ext_getElem? λ i=>?_
    by_cases hi:i<zs.length
    ·obtain ⟨x,z1,z2⟩:=pr i _ (List.getElem?_eq_getElem hi)
     rw [List.getElem?_eq_getElem hi,z2,List.getElem?_map,List.getElem?_map,z1]; rfl
    ·rw [List.getElem?_eq_none (by omega),List.getElem?_eq_none (by rw [List.length_map,List.length_map]; omega)]
   rw [ez] at hp';exact ⟨p,rfl,e,hp'⟩
 intro σ2 H2 hM_; refine A4 λ G_ hG_=>?_; obtain ⟨pl,rfl,e2,hpl⟩:=hM_; subst hG_;have hS2:=e2.seq hS1;have hB2:=Bk.same e2 hB1;have htl2:=e2 _ _ htl;refine ⟨λ σ' H'=>∃ gl:Addr,σ'=[some (.ref ba),some (.ref t),some (.ref fa'),some (.ref ga'),some u,some (.ref tl),some (.int L),some (.int (kt:Int)),some (.ref pl),some (.ref gl)]/\Same H2 H'/\H' gl=some (.lst ((hs.map λ h=>(List.zipWith (·*·) h.2 pg').sum).map V.int)),?_,?_⟩
 ·refine ⟨_,rfl,ba,rfl,⟨_,hS2⟩,λ p hp=>?_⟩
  refine C9 (v6 hS2) hp (j8 (by omega)) (λ i y _=>∃ h,hs[i]?=some h/\y=.int (List.zipWith (·*·) h.2 pg').sum) (λ _ _ _ _ r _=>r) (λ i y H3 zs N hy e hp' hNN=>?_) (λ zs H3 e hp' len pr=>?_)
  ·obtain ⟨h,hh,⟨a,ta,gb,rfl,q0,q1,q2⟩⟩:=Paired.at hB2 hy
   have gh:=hG h (List.mem_of_getElem? hh);refine ⟨a,_,rfl,e.tseq q0,rfl,_,_,rfl,_,_,rfl,rfl,S1 (by decide) (by decide),?_⟩;refine ⟨_,rfl,_,rfl,_,rfl,_,rfl,_,rfl,_,rfl,tl,_,rfl,SqL.of (e _ _ htl2),λ p4 k4=>?_⟩;rw [cG];refine ⟨false,true,gb,p4,h.2,pg',rfl,((e.trans (Same.new k4 _)).tseq q2:SqT K _ _ _),SqL.of upd_same,by rw [gh.lg]; omega,λ x hx=>(M9 gh hfar 1 x hx).mono (by decide),bpg,λ H3 e3=>?_⟩;exact hNN _ _ ((Same.new k4 _).trans e3) ⟨h,hh,rfl⟩
  ·have ez:zs=(hs.map λ h=>(List.zipWith (·*·) h.2 pg').sum).map V.int:=by
    refine List.ext_getElem? λ i=>?_
    by_cases hi:i<zs.length
    ·obtain ⟨x,z1,z2⟩:=pr i _ (List.getElem?_eq_getElem hi)
     rw [List.getElem?_eq_getElem hi,z2,List.getElem?_map,List.getElem?_map,z1]; rfl
    ·rw [List.getElem?_eq_none (by omega),List.getElem?_eq_none (by rw [List.length_map,List.length_map]; omega)]
   rw [ez] at hp';exact ⟨p,rfl,e,hp'⟩
 intro σ3 H3 hM_; refine A4 λ G_ hG_=>?_; obtain ⟨gl,rfl,e3,hgl⟩:=hM_; subst hG_;have htl3:=e3 _ _ htl2;refine ⟨_,rfl,_,rfl,_,rfl,_,rfl,tl,_,-1,_,rfl,rfl,SqL.of htl3,a7T _ _,_,rfl,(by show 4<=sizeLine; decide),λ r' hr'=>?_⟩;have s4:=Same.new hr' (.tup [V.ref pl,V.ref gl,V.int ps',V.int L]);subst hpt' hpg' hps';exact q r' pl gl L _ (e01.trans (e2.trans (e3.trans s4))) OB upd_same (s4 _ _ (e3 _ _ hpl)) (s4 _ _ hgl)
end
section
variable {P:Program} {w:World} {K:W.Frag} {mg:Str->Option Value} {base:Heap} {f:Addr} {fd:FuncData} {n:Nat}
theorem b1y (x y:Q2):PyData.eqv (dF x) (dF y)=decide (x=y):=by
 unfold dF;rw [PyData.eqv,PyData.eqvAll,PyData.eqvAll,PyData.eqvAll,PyData.eqv,PyData.eqv,Bool.and_true];obtain ⟨a,b⟩:=x;obtain ⟨c,d⟩:=y
 by_cases h1:a=c
 ·by_cases h2:b=d
  ·subst h1 h2; simp
  ·simp [h1,h2]
 ·simp [h1]
def a1l (x y:Q2):Int:=if x.1*y.2<y.1*x.2 then -1 else if x.1*y.2>y.1*x.2 then 1 else 0
def a4J (K:W.Frag):Sp:=λ vs H Q _=>∃ (u v:V) (x y:Q2),vs=[u,v]/\FrV K H u x/\FrV K H v y/\(Big 1000000 x.1/\Big 1000000 x.2/\Big 1000000 y.1/\Big 1000000 y.2)/\Q (.int (a1l x y)) H
theorem scCmp:r8 ["one","other","left","right"] ["one","other"] (i3 a0g):=⟨rfl,rfl,rfl,by decide +kernel,rfl,by decide +kernel,by decide +kernel⟩
theorem b0u (F:Fun K "compared" "compared" a0g f fd):FnOk P w K mg base G2 (n+1) f fd ["one","other"] (a4J K):=by
 refine F.ok scCmp (λ vs H Q E h=>?_) (λ cdv A outer s H vs Q E hr h=>?_)
 ·obtain ⟨u,v,x,y,rfl,_⟩:=h
  rfl
 obtain ⟨u,v,x,y,rfl,⟨a,rfl,ha⟩,⟨b,rfl,hb⟩,⟨b1,b2,b3,b4⟩,q⟩:=h;refine ⟨_,i4 (m9 (i:=2) scCmp.nd rfl (Or.inl rfl) (j3 y6 (i9 t5 (pv 0) c7 (λ _ _=>rfl)) (i9 t5 (pv 1) c7 (λ _ _=>rfl))))
  (i4 (m9 (i:=3) scCmp.nd rfl (Or.inl rfl) (j3 y6 (i9 t5 (pv 1) c7 (λ _ _=>rfl)) (i9 t5 (pv 0) c7 (λ _ _=>rfl))))
  (i4 (x6 (p7 Q0 (pv 2) (pv 3) (m8 _)) (i7 (m6 (M3 G7 c7))) r9)
  (i4 (x6 (p7 V8 (pv 2) (pv 3) (m8 _)) (i7 (m6 c7)) r9)
  (i7 (m6 c7))))),?_⟩
 refine ⟨_,rfl,a,_,0,_,rfl,rfl,ha,D5 _ _,_,rfl,b,_,1,_,rfl,rfl,hb,E8 _ _,_,_,rfl,rfl,⟨b1,b4⟩,?_⟩;refine ⟨_,rfl,b,_,0,_,rfl,rfl,hb,D5 _ _,_,rfl,a,_,1,_,rfl,rfl,ha,E8 _ _,_,_,rfl,rfl,⟨b3,b2⟩,?_⟩;unfold a1l at q;refine ⟨_,rfl,_,rfl,_,_,rfl,rfl,_,rfl,?_⟩;refine w8 (λ c=>?_) (λ c=>?_)
 ·rw [if_pos (of_decide_eq_true c)] at q
  exact ⟨_,rfl,q⟩
 have c':=of_decide_eq_false (Bool.eq_false_iff.mpr c);rw [if_neg c'] at q;refine ⟨_,rfl,_,rfl,_,_,rfl,rfl,_,rfl,?_⟩;refine w8 (λ d=>?_) (λ d=>?_)
 ·rw [if_pos (of_decide_eq_true d)] at q
  exact q
 ·rw [if_neg (of_decide_eq_false (Bool.eq_false_iff.mpr d))] at q
  exact q
def ltQ (x y:Q2):Bool:=decide (x.1*y.2<y.1*x.2)
structure b5a (l:List (Option Q2)) (o:Option Q2):Prop where
 n:o=none->∀ y,some y ∉ l
 m:∀ b,o=some b->some b∈l/\∀ y,some y∈l->ltQ b y=false
end
section
variable {P:Program} {w:World} {K:W.Frag} {mg:Str->Option Value} {base:Heap} {f g:Addr} {fd gd:FuncData} {n:Nat}
def Sml (x:Q2):Prop:=Big 1000000 x.1/\Big 1000000 x.2
end
structure AOk (a:Q2):Prop where
 t0:0<=a.1
 t1:a.1<=1000000000
 b1:a.2<=1000000000
 c:a3R a
theorem a8E {ns:List Int} {i:Nat} {x:V} (h:(ns.map V.int)[i]?=some x):∃ k,x=.int k/\ns[i]?=some k:=by
 rw [List.getElem?_map] at h
 cases e:ns[i]? with
 | none=>rw [e] at h; cases h
 | some k=>rw [e] at h; cases h; exact ⟨k,rfl,rfl⟩
section
variable {P:Program} {w:World} {K:W.Frag} {mg:Str->Option Value} {base:Heap} {f g:Addr} {fd gd:FuncData} {n:Nat}
structure b4e (K:W.Frag) (mg:Str->Option Value) (o:Addr):Prop where
 m:mg "NOUGHT"=some (.ref o)
 s:∀ H,SqT K H o [.int 0,.int 1]
end
section
variable {P:Program} {w:World} {K:W.Frag} {mg:Str->Option Value} {base:Heap} {f g:Addr} {fd gd:FuncData} {n:Nat}
end
end Rim
namespace L2
open PySem
section
variable {b1 b2:Bool} {xs ys:List V} {K:W.Frag} {l1 l2:Addr} {fr:List Nat} {te:TE} {σ:St} {H1:Hp} {p:Addr} {D:Hp->Prop}
theorem a4G (h1:SqB b1 K H1 l1 xs) (h2:SqB b2 K H1 l2 ys) (hp:H1 p=none) (hz:xs.length<sizeLine) (F:Nat->V)
  (step:∀ (i:Nat) x y H (N:VK),xs[i]?=some x->ys[i]?=some y->Same H1 H->N (F i) H->te (((blkσ 2 fr σ).set 0 (some x)).set 1 (some y)) H N)
  (hd:∀ H,Same H1 H->H p=some (.lst ((List.range (min xs.length ys.length)).map F))->D H):lcW 2 fr (a4X K 2 (X6 (P9 0) (X6 (P9 1) a6J))) te σ (Itg b1 b2 K l1 l2) H1 p D:=by
 refine a2Y h1 h2 hp hz (λ i v _=>v=F i) (λ _ _ _ _ r _=>r) (λ i x y H zs N hx hy e _ hN=>step i x y H N hx hy e (hN _ _ (Same.refl _) rfl)) λ zs H e hH hl hr=>hd H e ?_;rw [hH]
 congr 2
 refine List.ext_getElem? λ i=>?_
 by_cases hi:i<min xs.length ys.length
 ·rw [List.getElem?_eq_getElem (by lia),List.getElem?_map,List.getElem?_range hi,hr i _ (List.getElem?_eq_getElem (by lia))]; rfl
 ·rw [List.getElem?_eq_none (by lia),List.getElem?_eq_none (by rw [List.length_map,List.length_range]; lia)]
end
end L2
namespace Rim
open PySem L2 Fr
abbrev Rows (K:W.Frag) (H:Hp):List V->List (List Int)->Prop:=PySem.Paired λ v row=>∃ a,v=.ref a/\SqT K H a (row.map V.int)
theorem b1W (ns ts:List Int) (h:ns.length=ts.length):(List.range ns.length).map (λ j=>ns.getD j 0*ts.getD j 0)=List.zipWith (·*·) ns ts:=by
 refine List.ext_getElem? λ i=>?_
 by_cases hi:i<ns.length
 ·rw [List.getElem?_map,List.getElem?_range hi,List.getElem?_zipWith,List.getElem?_eq_getElem hi,List.getElem?_eq_getElem (by lia),Option.map_some,List.getD_eq_getElem?_getD,List.getD_eq_getElem?_getD,List.getElem?_eq_getElem hi,List.getElem?_eq_getElem (by lia)]; rfl
 ·rw [List.getElem?_eq_none (by rw [List.length_map,List.length_range]; lia),List.getElem?_eq_none (by rw [List.length_zipWith]; lia)]
section
variable {P:Program} {w:World} {K:W.Frag} {mg:Str->Option Value} {base:Heap} {f g:Addr} {fd gd:FuncData} {n:Nat}
def a5k (K:W.Frag):Sp:=λ vs H Q _=>∃ (rl tl:Addr) (L:Int) (rvs:List V) (rows:List (List Int)) (tops:List Int) (k:Nat),vs=[.ref rl,.ref tl,.int L]/\SqL K H rl rvs/\Rows K H rvs rows/\SqL K H tl (tops.map V.int) ∧
 rows.length=tops.length/\1<=rows.length/\rows.length<=100/\k<=100/\(∀ r∈rows,r.length=k/\∀ x∈r,Big 100 x)/\(∀ t∈tops,Big 60000 t)/\0<L/\L<2 ^ 8000 ∧
 ∀ (r:Addr) (H':Hp) (ys:List V),Same H H'->H' r=some (.lst ys)->ys.length=k->(∀ i y,ys[i]?=some y->FrT H' y (t7 (List.zipWith (·*·) (col rows i) tops).sum L))->Q (.ref r) H'
theorem scCome:r8 ["rows","tops","bottom","sums"] ["rows","tops","bottom"] (i3 E7):=⟨rfl,rfl,rfl,by decide +kernel,rfl,by decide +kernel,by decide +kernel⟩
theorem b4I:(["kind","rows","tops"]:List Str).Nodup:=by decide +kernel
theorem b3G:(["row","top","kind"]:List Str).Nodup:=by decide +kernel
theorem b4i:(["amount","bottom"]:List Str).Nodup:=by decide +kernel
noncomputable def b3F {cdv:Value} {A:Around} {outer:List Env} {s:Shared} {H:Hp} {E:XK} {fb:Addr} {db:FuncData} (T:w6 mg) (Cl:X7 P w K mg base n "lowest" ["top","bottom"] L7 fb db)
  (hr:Room n (A.deeper (PyProof.Rows.envOfC "come_together" (i3 E7) s.heap.objs.size f cdv))) :
  { t:TS // PSs (G9 G2 P w K mg base ["rows","tops","bottom","sums"] "come_together" (i3 E7) f cdv A outer s H E).nox (t9 E7) t } :=
 ⟨_,p6 (S5 (i:=3) ["kind"] [0,1] scCome.nd rfl rfl rfl (O1 rfl T.range (c6 (j9 j7 rfl T.len PySem.boot_len (c6 (i9 j0 (pv 0) c7 (λ _ _=>rfl)) h8)) h8)) (λ _ _ _ _=>i8 (i:=0) b4I rfl (Or.inr rfl))
   (λ _ _ _ _=>j9 (a5z K rfl rfl) rfl T.sum PyProof.Rows.boot_sum (c6 (J9 ["row","top"] [0] rfl (Z3 true true K rfl rfl T.zip (c6 (pv 1) (c6 (pv 2) h8)))
    (λ _ _ _ _=>E6 K (n:=2) rfl rfl (j4 (i8 (i:=0) b3G rfl (Or.inl rfl)) (j4 (i8 (i:=1) b3G rfl (Or.inl rfl)) t8))) (λ _ _ _ _=>j3 y6 (i9 (X3 K rfl) (pv 0) (pv 2) (λ _ _=>rfl)) (pv 1))) h8)))
  (i7 (m6 (J9 ["amount"] [2] rfl (A5 (pv 3)) (λ _ _ _ _=>i8 (i:=0) b4i rfl (Or.inl rfl)) (λ _ _ _ _=>j6 Cl.ok hr rfl Cl.m Cl.k Cl.b .nil t6 (c6 (pv 0) (c6 (pv 1) h8))))))⟩
theorem a9Y {fb:Addr} {db:FuncData} (F:Fun K "come_together" "come_together" E7 f fd) (T:w6 mg) (Cl:X7 P w K mg base n "lowest" ["top","bottom"] L7 fb db):FnOk P w K mg base G2 (n+1) f fd ["rows","tops","bottom"] (a5k K):=by
 refine F.ok scCome (λ vs H Q E h=>?_) (λ cdv A outer s H vs Q E hr h=>?_)
 ·obtain ⟨rl,tl,L,rvs,rows,tops,k,rfl,_⟩:=h
  rfl
 obtain ⟨rl,tl,L,rvs,rows,tops,k,rfl,hR,hRw,hT,hlen,h1,h100,hk,hrow,htop,hL,hL2,q⟩:=h;have rl':rvs.length=rows.length:=Paired.length hRw;have tl':(tops.map V.int).length=tops.length:=List.length_map _;refine ⟨_,(b3F T Cl hr).2,?_⟩;have h0v:0<rvs.length:=by lia
 obtain ⟨row0,hrow0,⟨a0,ha0,hS0⟩⟩:=Paired.at hRw (List.getElem?_eq_getElem h0v);have hr0:=hrow row0 (List.mem_of_getElem? hrow0);have at0:M2 rvs 0=some (.ref a0):=by
  rw [<- ha0];exact r6 (j:=0) (List.getElem?_eq_getElem h0v)
 have l0:(row0.map V.int).length=k:=by rw [List.length_map]; exact hr0.1
 refine ⟨λ σ' H'=>∃ sl:Addr,σ'=[some (.ref rl),some (.ref tl),some (.int L),some (.ref sl)]/\Same H H'/\H' sl=some (.lst (((List.range k).map λ i=>(List.zipWith (·*·) (col rows i) tops).sum).map V.int)),?_,?_⟩
 ·refine ⟨_,rfl,rl,_,0,_,rfl,rfl,hR,at0,a0,_,rfl,.inr hS0,_,rfl,by lia,by lia,λ p hp=>?_⟩
  refine C9 (xs:=(List.range k).map λ (i:Nat)=>V.int (0+(i:Int))) (by rw [l0,Int.toNat_natCast]; exact a2h) hp (by rw [List.length_map,List.length_range]; exact j8 (by lia))
   (λ i y _=>y=.int (List.zipWith (·*·) (col rows i) tops).sum) (λ _ _ _ _ r _=>r) (λ i x H' ys N hx e hp' hN=>?_) (λ ys H' e hp' len pr=>?_)
  ·rw [List.getElem?_map] at hx
   cases hri:(List.range k)[i]? with
   | none=>rw [hri] at hx; cases hx
   | some i' =>
    obtain ⟨hik,hi'⟩:=List.getElem?_eq_some_iff.mp hri;rw [List.getElem_range] at hi';subst hi';rw [List.length_range] at hik;rw [hri] at hx
    cases hx;refine ⟨Wk.set (by decide),?_⟩;refine ⟨_,rfl,_,rfl,rl,tl,rfl,⟨_,e.seq hR⟩,⟨_,e.seq hT⟩,λ p2 hp2=>?_⟩;refine a4G (b1:=true) (b2:=true) (e.seq hR:SqL K _ _ _) (e.seq hT:SqL K _ _ _) hp2 (j8 (by lia)) (λ j=>.int ((col rows i).getD j 0*tops.getD j 0)) (λ j u v H2 N2 hu hv e2 hN2=>?_) (λ H2 e2 hp2'=>?_)
    ·obtain ⟨row,hrowj,⟨b,rfl,hb⟩⟩:=Paired.at hRw hu
     have hrm:=hrow row (List.mem_of_getElem? hrowj);rw [List.getElem?_map] at hv
     cases htj:tops[j]? with
     | none=>rw [htj] at hv; cases hv
     | some t =>
      rw [htj] at hv; cases hv;have hki:i<row.length:=by rw [hrm.1]; exact hik
      have ar:M2 (row.map V.int) (0+(i:Int))=some (.int row[i]):=by
       rw [Int.zero_add];exact r6 (by rw [List.getElem?_map,List.getElem?_eq_getElem hki]; rfl)
      have ec:(col rows i).getD j 0=row[i]:=by
       unfold col;rw [List.getD_eq_getElem?_getD,List.getElem?_map,hrowj,Option.map_some,Option.getD_some,List.getD_eq_getElem?_getD,List.getElem?_eq_getElem hki]; rfl
      have et:tops.getD j 0=t:=by rw [List.getD_eq_getElem?_getD,htj]; rfl
      rw [ec,et] at hN2;refine ⟨_,rfl,_,rfl,b,_,_,_,rfl,rfl,(e.trans e2).tseq hb,ar,_,rfl,_,_,rfl,rfl,⟨(hrm.2 _ (List.getElem_mem hki)).mono (by decide),(htop t (List.mem_of_getElem? htj)).mono (by decide)⟩,hN2⟩
    ·have em:(List.range (min rvs.length (tops.map V.int).length)).map (λ j=>V.int ((col rows i).getD j 0*tops.getD j 0))=(List.zipWith (·*·) (col rows i) tops).map V.int:=by
      have hcl:(col rows i).length=rows.length:=List.length_map _;rw [<- b1W (col rows i) tops (by rw [hcl]; exact hlen),List.map_map,show min rvs.length (tops.map V.int).length=(col rows i).length by rw [hcl,tl',rl']; lia]; rfl
     rw [em] at hp2';exact ⟨p2,_,rfl,.inl (SqL.of hp2'),hN _ _ e2 rfl⟩
  ·have ey:ys=((List.range k).map λ i=>(List.zipWith (·*·) (col rows i) tops).sum).map V.int:=by
    rw [List.length_map,List.length_range] at len;refine List.ext_getElem? λ i=>?_
    by_cases hi:i<ys.length
    ·have z2:=pr i _ (List.getElem?_eq_getElem hi)
     rw [List.getElem?_eq_getElem hi,z2,List.getElem?_map,List.getElem?_map,List.getElem?_range (by lia)]; rfl
    ·rw [List.getElem?_eq_none (by lia),List.getElem?_eq_none (by rw [List.length_map,List.length_map,List.length_range]; lia)]
   rw [ey] at hp';exact ⟨p,rfl,e,hp'⟩
 intro σ' H1 hM_; refine A4 λ G_ hG_=>?_; obtain ⟨sl,rfl,e1,hsl⟩:=hM_; subst hG_;have ls:(((List.range k).map λ i=>(List.zipWith (·*·) (col rows i) tops).sum).map V.int).length=k:=by rw [List.length_map,List.length_map,List.length_range]
 refine ⟨_,rfl,sl,rfl,⟨_,SqL.of hsl⟩,λ p hp=>?_⟩;refine C9 (v6 (SqL.of hsl)) hp (by rw [ls]; exact j8 (by lia)) (λ i y H'=>∃ b,y=.ref b/\H' b=some (.tup [.int (t7 (List.zipWith (·*·) (col rows i) tops).sum L).1,.int (t7 (List.zipWith (·*·) (col rows i) tops).sum L).2])/\b≠p)
  (λ i y H' H'' ⟨b,z1,z2,z3⟩ st=>⟨b,z1,st b _ z3 z2,z3⟩) (λ i x H' ys N hx e hp' hN=>?_) (λ ys H' e hp' len pr=>?_)
 ·rw [List.getElem?_map,List.getElem?_map] at hx
  cases hri:(List.range k)[i]? with
  | none=>rw [hri] at hx; cases hx
  | some i' =>
   obtain ⟨hik,hi'⟩:=List.getElem?_eq_some_iff.mp hri;rw [List.getElem_range] at hi';subst hi';rw [hri] at hx
   cases hx;refine ⟨Wk.set (by decide),_,rfl,_,rfl,_,L,rfl,hL,hL2,λ v H2 e2 ⟨b,hv,hb⟩=>hN v H2 e2 ⟨b,hv,hb,?_⟩⟩;intro z;rw [z,e2 _ _ hp'] at hb
   cases hb
 ·exact q p H' ys (e1.trans e) hp' (by rw [len,ls]) λ i y hy=>by
   obtain ⟨b,z1,z2,_⟩:=pr i y hy;exact ⟨b,z1,z2⟩
theorem a5C {D L:Int} (hD:0<D):∀ (xs:List Int),(∀ x∈xs,(t7 x D).2∣L)->(xs.map (N0 D L)).sum*D=xs.sum*L
 | [],_=>by simp
 | x::xs,h=>by
  rw [List.map_cons,List.sum_cons,List.sum_cons,Int.add_mul,Int.add_mul,a5C hD xs λ y hy=>h y (List.mem_cons_of_mem _ hy),U4 hD (h x List.mem_cons_self)]
def a4r (K:W.Frag):Sp:=λ vs H Q _=>∃ (a:Addr) (ys:List V) (xs:List Int) (D:Int),vs=[.ref a]/\SqL K H a ys/\FrsV K H ys xs D/\xs.length<=100/\(∀ x∈xs,Big 20000 x)/\0<D/\D<2 ^ 8000 ∧
 ∀ (v:V) (H':Hp),Same H H'->FrT H' v (t7 xs.sum D)->Q v H'
theorem scTotal:r8 ["ones","tops","bottom"] ["ones"] (i3 a2T):=⟨rfl,rfl,rfl,by decide +kernel,rfl,by decide +kernel,by decide +kernel⟩
theorem a7o {fa fb:Addr} {da db:FuncData} (F:Fun K "total" "total" a2T f fd) (T:w6 mg) (C:SCal P w K mg base n "over_one_bottom" ["ones"] (Z0 K) fa da) (Cl:X7 P w K mg base n "lowest" ["top","bottom"] L7 fb db):FnOk P w K mg base G2 (n+1) f fd ["ones"] (a4r K):=by
 refine F.ok scTotal (λ vs H Q E h=>?_) (λ cdv A outer s H vs Q E hr h=>?_)
 ·obtain ⟨a,ys,xs,D,rfl,_⟩:=h
  rfl
 obtain ⟨a,ys,xs,D,rfl,hS,hF,hl100,hbig,hD,hD8,q⟩:=h;refine ⟨_,i4 (C7 (j6 C.ok hr rfl C.m C.k C.b .nil t6 (c6 (pv 0) h8)) (K2 rfl (j4 (i8 (i:=1) scTotal.nd rfl (Or.inl rfl)) (j4 (i8 (i:=2) scTotal.nd rfl (Or.inl rfl)) t8))))
  (i7 (m6 (j6 Cl.ok hr rfl Cl.m Cl.k Cl.b .nil t6 (c6 (j9 (a1R rfl) rfl T.sum PyProof.Rows.boot_sum (c6 (pv 1) h8)) (c6 (pv 2) h8))))),?_⟩
 refine ⟨_,rfl,a,ys,xs,D,rfl,hS,hF,hl100,hbig,hD,hD8,λ r tl H1 L e1 hr1 htl hL hLD hdv=>?_⟩;refine ⟨r,_,rfl,SqT.of hr1,rfl,_,_,rfl,_,_,rfl,rfl,?_⟩;refine ⟨_,rfl,tl,_,rfl,.inl (SqL.of htl),_,rfl,_,_,rfl,hL,Int.lt_of_le_of_lt (Int.le_of_dvd hD hLD) hD8,λ v H2 e2 hv=>q v H2 (e1.trans e2) ?_⟩;rw [R3 hL hD (a5C hD xs hdv)] at hv;exact hv
def a0p (K:W.Frag):Sp:=λ vs H Q _=>∃ (bl ml:Addr) (xs mxs:List V) (hs:List j5) (ws:List Int) (D far:Int) (kt kg:Nat),vs=[.ref bl,.ref ml]/\SqL K H bl xs/\Bk K H xs hs/\1<=hs.length/\hs.length<=100/\SqL K H ml mxs/\FrsV K H mxs ws D/\(∀ x∈ws,Big 20000 x)/\0<D/\D<2 ^ 8000/\ws.length=hs.length ∧
 (∀ h∈hs,HG far kt kg h)/\far<=2 ^ 60/\kt<=20/\kg<=20 ∧
 ∀ (r tl gl:Addr) (H':Hp),Same H H'->H' r=some (.tup [.ref tl,.ref gl])->SideOk H' hs ws D 0 kt tl->SideOk H' hs ws D 1 kg gl->Q (.ref r) H'
theorem scMx:r8 ["book","mix","tops","bottom","taken","given"] ["book","mix"] (i3 Y1):=⟨rfl,rfl,rfl,by decide +kernel,rfl,by decide +kernel,by decide +kernel⟩
theorem a9i:(["takes","gives"]:List Str).Nodup:=by decide +kernel
noncomputable def b4N {cdv:Value} {A:Around} {outer:List Env} {s:Shared} {H:Hp} {E:XK} {fa fb:Addr} {da db:FuncData} (Co:SCal P w K mg base n "over_one_bottom" ["ones"] (Z0 K) fa da) (Cc:X7 P w K mg base n "come_together" ["rows","tops","bottom"] (a5k K) fb db)
  (hr:Room n (A.deeper (PyProof.Rows.envOfC "mixed" (i3 Y1) s.heap.objs.size f cdv))) :
  { t:TS // PSs (G9 G2 P w K mg base ["book","mix","tops","bottom","taken","given"] "mixed" (i3 Y1) f cdv A outer s H E).nox (t9 Y1) t } :=
 ⟨_,i4 (C7 (j6 Co.ok hr rfl Co.m Co.k Co.b .nil t6 (c6 (pv 1) h8)) (K2 rfl (j4 (i8 (i:=2) scMx.nd rfl (Or.inl rfl)) (j4 (i8 (i:=3) scMx.nd rfl (Or.inl rfl)) t8))))
  (i4 (m9 (i:=4) scMx.nd rfl (Or.inl rfl) (j6 Cc.ok hr rfl Cc.m Cc.k Cc.b .nil t6 (c6 (J9 ["takes","gives"] [] rfl (A5 (pv 0)) (λ _ _ _ _=>E6 K (n:=2) rfl rfl (j4 (i8 (i:=0) a9i rfl (Or.inl rfl)) (j4 (i8 (i:=1) a9i rfl (Or.inl rfl)) t8))) (λ _ _ _ _=>pv 0)) (c6 (pv 2) (c6 (pv 3) h8)))))
  (i4 (m9 (i:=5) scMx.nd rfl (Or.inl rfl) (j6 Cc.ok hr rfl Cc.m Cc.k Cc.b .nil t6 (c6 (J9 ["takes","gives"] [] rfl (A5 (pv 0)) (λ _ _ _ _=>E6 K (n:=2) rfl rfl (j4 (i8 (i:=0) a9i rfl (Or.inl rfl)) (j4 (i8 (i:=1) a9i rfl (Or.inl rfl)) t8))) (λ _ _ _ _=>pv 1)) (c6 (pv 2) (c6 (pv 3) h8)))))
  (i7 (m6 (w4 (c6 (pv 4) (c6 (pv 5) h8)))))))⟩
theorem a3E {H:Hp} {j:Nat}:∀ (zs:List V) (gs:List j5),zs.length=gs.length->(∀ (i:Nat) (z:V),zs[i]?=some z->∃ h a,gs[i]?=some h/\z=.ref a/\SqT K H a ((A3 j h).map V.int))->Rows K H zs (gs.map (A3 j))
 | [],[],_,_=>.nil
 | [],_::_,h,_=>by simp at h
 | _::_,[],h,_=>by simp at h
 | z::zs,g::gs,hl,h=>by
  obtain ⟨h',a,h1,h2,h3⟩:=h 0 z rfl
  cases h1;exact .cons ⟨a,h2,h3⟩ (a3E zs gs (by simpa using hl) λ i z hz=>h (i+1) z hz)
theorem a6O {fa fb:Addr} {da db:FuncData} (F:Fun K "mixed" "mixed" Y1 f fd) (Co:SCal P w K mg base n "over_one_bottom" ["ones"] (Z0 K) fa da) (Cc:X7 P w K mg base n "come_together" ["rows","tops","bottom"] (a5k K) fb db):FnOk P w K mg base G2 (n+1) f fd ["book","mix"] (a0p K):=by
 refine F.ok scMx (λ vs H Q E h=>?_) (λ cdv A outer s H vs Q E hr h=>?_)
 ·obtain ⟨bl,ml,xs,mxs,hs,ws,D,far,kt,kg,rfl,_⟩:=h
  rfl
 obtain ⟨bl,ml,xs,mxs,hs,ws,D,far,kt,kg,rfl,hS,hB,hn1,hn,hM,hF,hbw,hD,hD8,hlen,hG,hfar,hkt,hkg,q⟩:=h;refine ⟨_,(b4N Co Cc hr).2,?_⟩;have xl:xs.length=hs.length:=Paired.length hB;refine ⟨_,rfl,ml,mxs,ws,D,rfl,hM,hF,by lia,hbw,hD,hD8,λ r tl H1 L e1 hr1 htl hL hLD hdv=>?_⟩;refine ⟨r,_,rfl,SqT.of hr1,rfl,_,_,rfl,_,_,rfl,rfl,?_⟩;have hLe:=Int.le_of_dvd hD hLD;have low_of:∀ (ns:List Int),t7 (List.zipWith (·*·) ns (ws.map (N0 D L))).sum L=t7 (List.zipWith (·*·) ns ws).sum D:=λ ns=>R3 hL hD (a1o hD ns ws hdv);have tb:∀ t∈ws.map (N0 D L),Big 60000 t:=λ t ht=>by
  obtain ⟨x,hx,rfl⟩:=List.mem_map.mp ht;exact (a1K hD hL hLe (hdv x hx) (hbw x hx)).mono (by decide)
 have side:∀ (j:Nat) (k:Nat),(∀ h∈hs,(A3 j h).length=k/\∀ x∈A3 j h,Big 100 x)->∀ r∈hs.map (A3 j),r.length=k/\∀ x∈r,Big 100 x:=λ j k hk r hr=>by
  obtain ⟨h,hh,rfl⟩:=List.mem_map.mp hr;exact hk h hh
 have k0:∀ h∈hs,(A3 0 h).length=kt/\∀ x∈A3 0 h,Big 100 x:=λ h hh=>⟨(hG h hh).lt,M9 (hG h hh) hfar 0⟩;have k1:∀ h∈hs,(A3 1 h).length=kg/\∀ x∈A3 1 h,Big 100 x:=λ h hh=>⟨(hG h hh).lg,M9 (hG h hh) hfar 1⟩;refine ⟨_,rfl,bl,rfl,⟨_,e1.seq hS⟩,λ p hp=>?_⟩;refine C9 (v6 (e1.seq hS)) hp (j8 (by lia)) (λ i y _=>∃ h a g b,hs[i]?=some h/\xs[i]?=some (.ref b)/\SqT K H1 b [.ref a,.ref g]/\y=.ref a/\SqT K H1 a (h.1.map V.int)) (λ _ _ _ _ r _=>r) (λ i y H2 zs N hy e hp' hNN=>?_) (λ zs H2 e hp' len pr=>?_)
 ·obtain ⟨h,hh,⟨b,ta,ga,rfl,p1,p2,p3⟩⟩:=Paired.at (Bk.same e1 hB) hy
  exact ⟨b,_,rfl,e.tseq p1,rfl,_,_,rfl,_,_,rfl,rfl,S1 (by decide) (by decide),_,rfl,hNN _ _ (Same.refl _) ⟨h,ta,ga,b,hh,hy,p1,rfl,p2⟩⟩
 have e02:=e1.trans e;have R0:Rows K H2 zs (hs.map (A3 0)):=a3E zs hs (by lia) λ i z hz=>by
  obtain ⟨h,a,g,b,h1,_,_,h2,h3⟩:=pr i z hz;exact ⟨h,a,h1,h2,e.tseq h3⟩
 refine ⟨_,rfl,_,rfl,p,tl,L,zs,hs.map (A3 0),ws.map (N0 D L),kt,rfl,SqL.of hp',R0,SqL.of (e _ _ htl),by rw [List.length_map,List.length_map]; lia,by rw [List.length_map]; exact hn1,by rw [List.length_map]; exact hn,by lia,side 0 kt k0,tb,hL,Int.lt_of_le_of_lt hLe hD8,λ t1 H3 ys3 e3 ht1 hl3 hy3=>?_⟩;have e13:=e.trans e3;refine ⟨_,rfl,bl,rfl,⟨_,(e1.trans e13).seq hS⟩,λ p' hp2=>?_⟩;refine C9 (v6 ((e1.trans e13).seq hS)) hp2 (j8 (by lia)) (λ i y _=>∃ h a,hs[i]?=some h/\y=.ref a/\SqT K H1 a (h.2.map V.int)) (λ _ _ _ _ r _=>r) (λ i y H4 zs4 N hy e4 hp' hNN=>?_) (λ zs4 H4 e4 hp4 len4 pr4=>?_)
 ·obtain ⟨h,hh,⟨b,ta,ga,rfl,p1,p2,p3⟩⟩:=Paired.at (Bk.same e1 hB) hy
  exact ⟨b,_,rfl,(e13.trans e4).tseq p1,rfl,_,_,rfl,_,_,rfl,rfl,S1 (by decide) (by decide),_,rfl,hNN _ _ (Same.refl _) ⟨h,ga,hh,rfl,p3⟩⟩
 have e14:=e13.trans e4;have R1:Rows K H4 zs4 (hs.map (A3 1)):=a3E zs4 hs (by lia) λ i z hz=>by
  obtain ⟨h,a,h1,h2,h3⟩:=pr4 i z hz;exact ⟨h,a,h1,h2,e14.tseq h3⟩
 refine ⟨_,rfl,_,rfl,p',tl,L,zs4,hs.map (A3 1),ws.map (N0 D L),kg,rfl,SqL.of hp4,R1,SqL.of (e14 _ _ htl),by rw [List.length_map,List.length_map]; lia,by rw [List.length_map]; exact hn1,by rw [List.length_map]; exact hn,by lia,side 1 kg k1,tb,hL,Int.lt_of_le_of_lt hLe hD8,λ t2 H5 ys5 e5 ht2 hl5 hy5=>?_⟩;refine ⟨_,rfl,_,rfl,(by show 2<=sizeLine; decide),λ t3 ht3=>?_⟩;have s6:=Same.new ht3 (.tup [V.ref t1,V.ref t2]);have e36:=e4.trans (e5.trans s6);refine q t3 t1 t2 _ (e1.trans (e13.trans e36)) upd_same ⟨ys3,e36 _ _ ht1,hl3,λ i y hy=>?_⟩ ⟨ys5,s6 _ _ ht2,hl5,λ i y hy=>?_⟩
 ·rw [<- low_of]; exact (hy3 i y hy).same e36
 ·rw [<- low_of]; exact (hy5 i y hy).same s6
end
section
variable {P:Program} {w:World} {K:W.Frag} {mg:Str->Option Value} {base:Heap} {f:Addr} {fd:FuncData} {n:Nat} {CN:Addr}
structure One (K:W.Frag) (mg:Str->Option Value) (o:Addr):Prop where
 m:mg "ONE"=some (.ref o)
 s:∀ H,SqT K H o [.int 1,.int 1]
def b1i (z:Str) (x:Q2):Prop:=((z="one"\/z="less")->x.1<=x.2)/\((z="one"\/z="more")->x.2<=x.1)
def a7W (K:W.Frag):Sp:=λ vs H Q _=>∃ (z:Str) (v:V) (x:Q2),vs=[.str z,v]/\Szw z/\FrV K H v x/\Big 1000000 x.1/\Big 1000000 x.2/\∀ b:Bool,(b=true ↔ b1i z x)->Q (.bl b) H
theorem scLet:r8 ["sizes","size","against_one"] ["sizes","size"] (i3 S6):=⟨rfl,rfl,rfl,by decide +kernel,rfl,by decide +kernel,by decide +kernel⟩
theorem a7y (x:Q2):(a1l x (1,1)=0 ↔ x.1=x.2)/\(a1l x (1,1)<=0 ↔ x.1<=x.2)/\(0<=a1l x (1,1) ↔ x.2<=x.1):=by
 unfold a1l;simp only [Int.mul_one,Int.one_mul]
 by_cases h1:x.1<x.2
 ·rw [if_pos h1]; lia
 ·rw [if_neg h1]
  by_cases h2:x.1>x.2
  ·rw [if_pos h2]; lia
  ·rw [if_neg h2]; lia
theorem a5D:Big 1000000 1:=(B9 (n:=10) (show (0:Int)<=1 by decide) (by decide)).mono (by decide)
theorem a9m {fa o:Addr} {da:FuncData} (F:Fun K "is_size_let" "is_size_let" S6 f fd) (O:One K mg o) (Cc:SCal P w K mg base n "compared" ["one","other"] (a4J K) fa da):FnOk P w K mg base G2 (n+1) f fd ["sizes","size"] (a7W K):=by
 refine F.ok scLet (λ vs H Q E h=>?_) (λ cdv A outer s H vs Q E hr h=>?_)
 ·obtain ⟨z,v,x,rfl,_⟩:=h
  rfl
 obtain ⟨z,v,x,rfl,hz,hx,b1,b2,q⟩:=h;refine ⟨_,i4 (m9 (i:=2) scLet.nd rfl (Or.inl rfl) (j6 Cc.ok hr rfl Cc.m Cc.k Cc.b .nil t6 (c6 (pv 1) (c6 (a0o (v:=.ref o) rfl O.m rfl) h8))))
  (i4 (x6 (p7 G8 (pv 0) D3 (m8 _)) (i7 (m6 (C2 G8 (pv 2) c7 (m8 _)))) r9)
  (i4 (x6 (p7 G8 (pv 0) D3 (m8 _)) (i7 (m6 (C2 a2I (pv 2) c7 (m8 _)))) r9)
  (i4 (x6 (p7 G8 (pv 0) D3 (m8 _)) (i7 (m6 (C2 a6B (pv 2) c7 (m8 _)))) r9)
  (i7 (m6 (C2 G8 (pv 0) D3 (m8 _))))))),?_⟩
 refine ⟨_,rfl,v,.ref o,x,(1,1),rfl,hx,⟨o,rfl,O.s H⟩,⟨b1,b2,a5D,a5D⟩,?_⟩;obtain ⟨c1,c2,c3⟩:=a7y x;generalize a1l x (1,1)=c at *;refine ⟨_,rfl,rfl,_,rfl,?_⟩;rcases hz with rfl | rfl | rfl | rfl
 ·refine w8 (λ c=>absurd c (by decide +kernel)) (λ _=>?_)
  refine ⟨_,rfl,rfl,_,rfl,w8 (λ c=>absurd c (by decide +kernel)) (λ _=>?_)⟩;refine ⟨_,rfl,rfl,_,rfl,w8 (λ c=>absurd c (by decide +kernel)) (λ _=>?_)⟩;refine ⟨_,rfl,rfl,q _ ⟨λ _=>⟨λ h=>?_,λ h=>?_⟩,λ _=>by decide +kernel⟩⟩
  ·rcases h with h | h <;> exact absurd h (by decide +kernel)
  ·rcases h with h | h <;> exact absurd h (by decide +kernel)
 ·refine w8 (λ _=>?_) (λ c=>absurd (by decide +kernel) c)
  refine ⟨_,rfl,rfl,q _ ?_⟩;rw [decide_eq_true_iff];constructor
  ·intro h
   have:c=0:=V.int.inj h;have:=c1.mp this;exact ⟨λ _=>by lia,λ _=>by lia⟩
  ·intro h
   have h1:=h.1 (.inl rfl);have h2:=h.2 (.inl rfl);rw [c1.mpr (by lia)]
 ·refine w8 (λ c=>absurd c (by decide +kernel)) (λ _=>?_)
  refine ⟨_,rfl,rfl,_,rfl,w8 (λ _=>?_) (λ c=>absurd (by decide +kernel) c)⟩;refine ⟨_,rfl,_,_,rfl,rfl,q _ ?_⟩;rw [decide_eq_true_iff];constructor
  ·intro h
   exact ⟨λ _=>c2.mp h,λ z=>by rcases z with z | z <;> exact absurd z (by decide +kernel)⟩
  ·intro h
   exact c2.mpr (h.1 (.inr rfl))
 ·refine w8 (λ c=>absurd c (by decide +kernel)) (λ _=>?_)
  refine ⟨_,rfl,rfl,_,rfl,w8 (λ c=>absurd c (by decide +kernel)) (λ _=>?_)⟩;refine ⟨_,rfl,rfl,_,rfl,w8 (λ _=>?_) (λ c=>absurd (by decide +kernel) c)⟩;refine ⟨_,rfl,_,_,rfl,rfl,q _ ?_⟩;rw [decide_eq_true_iff];constructor
  ·intro h
   exact ⟨λ z=>by rcases z with z | z <;> exact absurd z (by decide +kernel),λ _=>c3.mp h⟩
  ·intro h
   exact c3.mpr (h.2 (.inr rfl))
def a9N (z:Str) (m:Nat) (ws:List Int) (D:Int):Prop:=ws.length=m/\(∀ x∈ws,0<=x)/\a0b z ws.sum D
theorem a7H {z:Str} {s D:Int} (hD:0<D):b1i z (t7 s D) ↔ a0b z s D:=by
 have p:=A9 (t:=s) hD;have l1:=D7 (a:=s) (b:=1) (D:=D) (E:=1) hD (by decide);have l2:=D7 (a:=1) (b:=s) (D:=1) (E:=D) (by decide) hD;rw [show t7 1 1=(1,1) by decide] at l1 l2;simp only [Int.mul_one,Int.one_mul] at l1 l2;unfold b1i a0b;constructor
 ·rintro ⟨h1,h2⟩
  exact ⟨λ z=>by have:=h1 z; lia,λ z=>by have:=h2 z; lia⟩
 ·rintro ⟨h1,h2⟩
  exact ⟨λ z=>by have:=h1 z; lia,λ z=>by have:=h2 z; lia⟩
theorem U2 {x D:Int} (hD:0<D):(t7 x D).1<0 ↔ x<0:=by
 have l1:=D7 (a:=x) (b:=0) (D:=D) (E:=1) hD (by decide);rw [show t7 0 1=(0,1) by decide] at l1;simp only [Int.mul_one,Int.zero_mul] at l1;exact l1
def a2j (K:W.Frag):Sp:=λ vs H Q _=>∃ (ba ml:Addr) (xs mxs:List V) (ws:List Int) (D:Int) (z:Str),vs=[.ref ba,.str z,.ref ml]/\Szw z/\SqL K H ba xs/\SqL K H ml mxs/\FrsV K H mxs ws D/\ws.length<=100/\(∀ x∈ws,Big 20000 x)/\0<D/\D<2 ^ 8000 ∧
 ∀ (b:Bool) (H':Hp),Same H H'->(b=true ↔ a9N z xs.length ws D)->Q (.bl b) H'
theorem b3h:r8 ["book","sizes","mix"] ["book","sizes","mix"] (i3 a2e):=⟨rfl,rfl,rfl,by decide +kernel,rfl,by decide +kernel,by decide +kernel⟩
theorem b0H:(["top","bottom"]:List Str).Nodup:=by decide +kernel
theorem a6Y {fa fb:Addr} {da db:FuncData} (F:Fun K "is_mix" "is_mix" a2e f fd) (T:w6 mg) (Cl:SCal P w K mg base n "is_size_let" ["sizes","size"] (a7W K) fa da) (Ct:SCal P w K mg base n "total" ["ones"] (a4r K) fb db):FnOk P w K mg base G2 (n+1) f fd ["book","sizes","mix"] (a2j K):=by
 refine F.ok b3h (λ vs H Q E h=>?_) (λ cdv A outer s H vs Q E hr h=>?_)
 ·obtain ⟨ba,ml,xs,mxs,ws,D,z,rfl,_⟩:=h
  rfl
 obtain ⟨ba,ml,xs,mxs,ws,D,z,rfl,hz,hS,hM,hF,h100,hbw,hD,hD8,q⟩:=h;refine ⟨_,i4 (x6 (p7 a0z (j9 j7 rfl T.len PySem.boot_len (c6 (pv 2) h8)) (j9 j7 rfl T.len PySem.boot_len (c6 (pv 0) h8)) (m8 _)) (i7 (m6 J8)) r9)
  (i4 (x6 (K9 (j9 (a1F rfl) rfl T.any PyProof.Rows.boot_any (c6 (J9 ["top","bottom"] [] rfl (A5 (pv 2)) (λ _ _ _ _=>E6 K (n:=2) rfl rfl (j4 (i8 (i:=0) b0H rfl (Or.inl rfl)) (j4 (i8 (i:=1) b0H rfl (Or.inl rfl)) t8))) (λ _ _ _ _=>C2 Q0 (pv 0) c7 (m8 _))) h8))) (i7 (m6 J8)) r9)
  (i7 (m6 (j6 Cl.ok hr rfl Cl.m Cl.k Cl.b .nil t6 (c6 (pv 1) (c6 (j6 Ct.ok hr rfl Ct.m Ct.k Ct.b .nil t6 (c6 (pv 2) h8)) h8)))))),?_⟩
 have ml':mxs.length=ws.length:=hF.1;refine ⟨_,rfl,ml,_,rfl,.inl hM,_,rfl,ba,_,rfl,.inl hS,rfl,_,rfl,w8 (λ c=>?_) (λ c=>?_)⟩
 ·refine q false H (Same.refl _) ⟨λ z=>absurd z (by decide),λ z=>?_⟩
  have:mxs.length=xs.length:=by have:=z.1; lia
  rw [this] at c;simp at c
 have hlen:ws.length=xs.length:=by
  have:V.int (mxs.length:Int)=V.int (xs.length:Int):=by simpa using c
  have:=V.int.inj this;lia
 refine ⟨_,rfl,ml,rfl,⟨_,hM⟩,λ p hp=>?_⟩;refine C9 (v6 hM) hp (j8 (by lia)) (λ i y _=>y=.bl (decide (ws.getD i 0<0))) (λ _ _ _ _ r _=>r) (λ i y H2 zs N hy e hp' hNN=>?_) (λ zs H2 e hp' len pr=>?_)
 ·obtain ⟨b,rfl,hb⟩:=hF.2 i y hy
  refine ⟨b,_,rfl,e.tseq hb,rfl,_,_,rfl,_,_,rfl,rfl,S1 (by decide) (by decide),?_⟩;refine ⟨_,rfl,_,_,rfl,rfl,hNN _ _ (Same.refl _) ?_⟩;exact congrArg V.bl (decide_eq_decide.mpr (U2 hD))
 have ez:zs=((ws.map λ x=>decide (x<0))).map V.bl:=by
  refine List.ext_getElem? λ i=>?_
  by_cases hi:i<zs.length
  ·rw [List.getElem?_eq_getElem hi,pr i _ (List.getElem?_eq_getElem hi),List.getElem?_map,List.getElem?_map,List.getD_eq_getElem?_getD,List.getElem?_eq_getElem (by lia)]; rfl
  ·rw [List.getElem?_eq_none (by lia),List.getElem?_eq_none (by rw [List.length_map,List.length_map]; lia)]
 rw [ez] at hp';refine ⟨p,_,rfl,.inl (SqL.of hp'),_,rfl,w8 (λ c=>?_) (λ c=>?_)⟩
 ·refine q false H2 e ⟨λ z=>absurd z (by decide),λ z=>?_⟩
  obtain ⟨x,hx,hx'⟩:=List.any_eq_true.mp c;obtain ⟨y,hy,rfl⟩:=List.mem_map.mp hx;have:=z.2.1 y hy;have:y<0:=by simpa using hx'
  lia
 have nn:∀ x∈ws,0<=x:=λ x hx=>by
  by_cases h0:0<=x
  ·exact h0
  ·exact absurd (List.any_eq_true.mpr ⟨true,List.mem_map.mpr ⟨x,hx,decide_eq_true (by lia)⟩,rfl⟩) c
 refine ⟨_,rfl,_,rfl,ml,mxs,ws,D,rfl,e.seq hM,hF.same e,h100,hbw,hD,hD8,λ v H3 e3 hv=>?_⟩;have sb:Big 20200 ws.sum:=Y6 hbw (by lia);refine ⟨z,v,t7 ws.sum D,rfl,hz,hv.v,(L9 hD sb).mono (by decide),(B9 (n:=8000) (Int.le_of_lt (A9 hD)) (Int.lt_of_le_of_lt (N7 hD) hD8)).mono (by decide),λ b hb=>q b H3 (e.trans e3) ?_⟩;rw [hb,a7H hD];exact ⟨λ z=>⟨hlen,nn,z⟩,λ z=>z.2.2⟩
def a3k (K:W.Frag):Sp:=λ vs H Q _=>∃ (t:Addr) (u:V) (xs:List Int) (x:Q2),vs=[.ref t,u]/\SqT K H t (xs.map V.int)/\FrV K H u x/\xs.length<=100/\(∀ y∈xs,Big 100 y)/\Big 40000 x.1/\0<x.2/\x.2<2 ^ 8000 ∧
 ∀ (r:Addr) (ys:List V) (H':Hp),Same H H'->H' r=some (.lst ys)->ys.length=xs.length->(∀ (i:Nat) y,ys[i]?=some y->FrT H' y (t7 (xs.getD i 0*x.1) x.2))->Q (.ref r) H'
theorem b3Z:r8 ["amounts","fraction"] ["amounts","fraction"] (i3 a3b):=⟨rfl,rfl,rfl,by decide +kernel,rfl,by decide +kernel,by decide +kernel⟩
theorem b4l:(["amount","fraction"]:List Str).Nodup:=by decide +kernel
theorem a7z {fa:Addr} {da:FuncData} (F:Fun K "times" "times" a3b f fd) (Cl:X7 P w K mg base n "lowest" ["top","bottom"] L7 fa da):FnOk P w K mg base G2 (n+1) f fd ["amounts","fraction"] (a3k K):=by
 refine F.ok b3Z (λ vs H Q E h=>?_) (λ cdv A outer s H vs Q E hr h=>?_)
 ·obtain ⟨t,u,xs,x,rfl,_⟩:=h
  rfl
 obtain ⟨t,u,xs,x,rfl,hT,⟨b,rfl,hb⟩,h100,hbx,b1,p2,c2,q⟩:=h;refine ⟨_,i7 (m6 (J9 ["amount"] [1] rfl (X4 (pv 0)) (λ _ _ _ _=>i8 (i:=0) b4l rfl (Or.inl rfl)) (λ _ _ _ _=>j6 Cl.ok hr rfl Cl.m Cl.k Cl.b .nil t6 (c6 (j3 y6 (pv 0) (i9 (X3 K rfl) (pv 1) c7 (λ _ _=>rfl))) (c6 (i9 (X3 K rfl) (pv 1) c7 (λ _ _=>rfl)) h8))))),?_⟩;refine ⟨_,rfl,t,rfl,⟨_,hT⟩,λ p hp=>?_⟩;refine C9 (P5 hT) hp (by rw [List.length_map]; exact j8 (by lia)) (λ i y H'=>y≠.ref p/\FrT H' y (t7 (xs.getD i 0*x.1) x.2)) (λ i y Ha Hb ⟨h1,h2⟩ st=>⟨h1,?_⟩) (λ i y H2 zs N hy e hp' hNN=>?_) (λ zs H2 e hp' len pr=>?_)
 ·obtain ⟨a,rfl,ha⟩:=h2
  exact ⟨a,rfl,st a _ (λ z=>h1 (by rw [z])) ha⟩
 ·have hi:i<xs.length:=by have:=(List.getElem?_eq_some_iff.mp hy).1; simpa using this
  rw [List.getElem?_map,List.getElem?_eq_getElem hi] at hy
  cases hy;have eg:xs.getD i 0=xs[i]:=by rw [List.getD_eq_getElem?_getD,List.getElem?_eq_getElem hi]; rfl
  refine ⟨Wk.set (by decide),_,rfl,_,rfl,b,_,0,_,rfl,rfl,e.tseq hb,D5 _ _,_,_,rfl,rfl,⟨(hbx _ (List.getElem_mem hi)).mono (by decide),b1.mono (by decide)⟩,_,rfl,b,_,1,_,rfl,rfl,e.tseq hb,E8 _ _,_,_,rfl,p2,c2,λ v H3 e3 hv=>hNN v H3 e3 ⟨λ z=>?_,?_⟩⟩
  ·obtain ⟨a,ha1,ha2⟩:=hv
   rw [z] at ha1; cases ha1;rw [e3 _ _ hp'] at ha2; cases ha2
  ·rw [eg]; exact hv
 ·exact q p zs H2 e hp' (by simpa using len) λ i y hy=>(pr i y hy).2
def a2d (K:W.Frag):Sp:=λ vs H Q _=>∃ (a1 a2:Addr) (ys zs:List V) (F G:Nat->Q2),vs=[.ref a1,.ref a2]/\SqL K H a1 ys/\SqL K H a2 zs/\ys.length=zs.length/\ys.length<=100/\(∀ (i:Nat) y,ys[i]?=some y->FrV K H y (F i)/\Sml (F i))/\(∀ (i:Nat) y,zs[i]?=some y->FrV K H y (G i)/\Sml (G i)) ∧
 ∀ (b:Bool) (H':Hp),Same H H'->(b=true ↔ ∀ i,i<ys.length->¬ (G i).1*(F i).2<(F i).1*(G i).2)->Q (.bl b) H'
theorem b5b:r8 ["ones","others"] ["ones","others"] (i3 S8):=⟨rfl,rfl,rfl,by decide +kernel,rfl,by decide +kernel,by decide +kernel⟩
theorem b3x:(["one","other"]:List Str).Nodup:=by decide +kernel
theorem a6a (x y:Q2):a1l x y<=0 ↔ ¬ y.1*x.2<x.1*y.2:=by
 unfold a1l
 by_cases h1:x.1*y.2<y.1*x.2
 ·rw [if_pos h1]; lia
 ·rw [if_neg h1]
  by_cases h2:x.1*y.2>y.1*x.2
  ·rw [if_pos h2]; lia
  ·rw [if_neg h2]; lia
theorem a7m {fa:Addr} {da:FuncData} (F:Fun K "are_no_more" "are_no_more" S8 f fd) (T:w6 mg) (Cc:SCal P w K mg base n "compared" ["one","other"] (a4J K) fa da):FnOk P w K mg base G2 (n+1) f fd ["ones","others"] (a2d K):=by
 refine F.ok b5b (λ vs H Q E h=>?_) (λ cdv A outer s H vs Q E hr h=>?_)
 ·obtain ⟨a1,a2,ys,zs,F,G,rfl,_⟩:=h
  rfl
 obtain ⟨a1,a2,ys,zs,Ff,Gf,rfl,h1,h2,hl,h100,hF,hG,q⟩:=h;refine ⟨_,i7 (m6 (j9 (a4c rfl) rfl T.all PyProof.Rows.boot_all (c6 (J9 ["one","other"] [] rfl (Z3 true true K rfl rfl T.zip (c6 (pv 0) (c6 (pv 1) h8)))
  (λ _ _ _ _=>E6 K (n:=2) rfl rfl (j4 (i8 (i:=0) b3x rfl (Or.inl rfl)) (j4 (i8 (i:=1) b3x rfl (Or.inl rfl)) t8)))
  (λ _ _ _ _=>C2 a2I (j6 Cc.ok hr rfl Cc.m Cc.k Cc.b .nil t6 (c6 (pv 0) (c6 (pv 1) h8))) c7 (m8 _))) h8))),?_⟩
 refine ⟨_,rfl,_,rfl,a1,a2,rfl,⟨_,h1⟩,⟨_,h2⟩,λ p hp=>?_⟩;refine a4G (b1:=true) (b2:=true) h1 h2 hp (j8 (by lia)) (λ i=>.bl (decide (a1l (Ff i) (Gf i)<=0))) (λ i x y H' N hx hy e hN=>?_) (λ H' e hp'=>?_)
 ·obtain ⟨f1,m1⟩:=hF i x hx
  obtain ⟨f2,m2⟩:=hG i y hy;exact ⟨_,rfl,_,rfl,x,y,Ff i,Gf i,rfl,f1.same e,f2.same e,⟨m1.1,m1.2,m2.1,m2.2⟩,_,_,rfl,rfl,hN⟩
 ·have em:(List.range (min ys.length zs.length)).map (λ i=>V.bl (decide (a1l (Ff i) (Gf i)<=0)))=((List.range ys.length).map λ i=>decide (a1l (Ff i) (Gf i)<=0)).map V.bl:=by
   rw [List.map_map,show min ys.length zs.length=ys.length by lia]; rfl
  rw [em] at hp';refine ⟨p,_,rfl,.inl (SqL.of hp'),q _ H' e ?_⟩;rw [List.all_eq_true];constructor
  ·intro h i hi
   exact (a6a _ _).mp (of_decide_eq_true (h _ (List.mem_map.mpr ⟨i,List.mem_range.mpr hi,rfl⟩)))
  ·intro h b hb
   obtain ⟨i,hi,rfl⟩:=List.mem_map.mp hb;exact decide_eq_true ((a6a _ _).mpr (h i (List.mem_range.mp hi)))
structure a3Y (z:Str) (hs:List j5) (h:j5) (kt kg:Nat) (ws:List Int) (D:Int) (x y:Q2):Prop where
 m:a9N z hs.length ws D
 t:∀ j,j<kt->K6 hs ws 0 j*x.2<=h.1.getD j 0*x.1*D
 g:∀ j,j<kg->h.2.getD j 0*y.1*D<=K6 hs ws 1 j*y.2
structure FB (x:Q2):Prop where
 a:Big 40000 x.1
 p:0<x.2
 b:x.2<2 ^ 8000
theorem a9b:FB (1,1):=⟨(B9 (n:=10) (show (0:Int)<=1 by decide) (by decide)).mono (by decide),by decide,Int.lt_of_lt_of_le (show (1:Int)<2 ^ 10 by decide) (by exact_mod_cast Nat.pow_le_pow_right (show 0<2 by decide) (show 10<=8000 by decide))⟩
def a7M (K:W.Frag) (CN:Addr):Sp:=λ vs H Q E=>∃ (ba ml:Addr) (u v:V) (xs mxs:List V) (hs:List j5) (ws:List Int) (D far:Int) (kt kg:Nat) (number:Int) (z:Str) (x y:Q2),vs=[.ref ba,.int number,.str z,u,v,.ref ml]/\Szw z/\W6 K H ba xs hs far kt kg/\1<=hs.length/\number.natAbs.log2<1920/\FrV K H u x/\FB x/\FrV K H v y/\FB y/\SqL K H ml mxs/\FrsV K H mxs ws D/\ws.length<=100/\(∀ x∈ws,Big 20000 x)/\0<D/\D<2 ^ 8000 ∧
 (∀ (i:Nat) (h:j5) (b:Bool) (H':Hp),number=(i:Int)->hs[i]?=some h->Same H H'->(b=true ↔ a3Y z hs h kt kg ws D x y)->Q (.bl b) H')/\(¬ a3O xs.length number->E (.ref CN) none H)
theorem scDo:r8 ["book","number","sizes","shrunk","grown","mix","takes","gives","taken","given"] ["book","number","sizes","shrunk","grown","mix"] (i3 G6):=⟨rfl,rfl,rfl,by decide +kernel,rfl,by decide +kernel,by decide +kernel⟩
noncomputable def doT {cdv:Value} {A:Around} {outer:List Env} {s:Shared} {H:Hp} {E:XK} {f1 f2 f3 f4 f5:Addr} {d1 d2 d3 d4 d5:FuncData} (Ch:a3c P w K mg base n "house_of" ["book","number"] (a2r K CN) f1 d1) (Ci:SCal P w K mg base n "is_mix" ["book","sizes","mix"] (a2j K) f2 d2) (Cm:SCal P w K mg base n "mixed" ["book","mix"] (a0p K) f3 d3) (Cn:SCal P w K mg base n "are_no_more" ["ones","others"] (a2d K) f4 d4) (Ct:SCal P w K mg base n "times" ["amounts","fraction"] (a3k K) f5 d5)
  (hr:Room n (A.deeper (PyProof.Rows.envOfC "does_as_much" (i3 G6) s.heap.objs.size f cdv))) :
  { t:TS // PSs (G9 (CX1 P w) P w K mg base ["book","number","sizes","shrunk","grown","mix","takes","gives","taken","given"] "does_as_much" (i3 G6) f cdv A outer s H E) (t9 G6) t } :=
 ⟨_,i4 (C7 (j6 Ch.ok hr rfl Ch.m Ch.k Ch.b .nil a6k (c6 (pv 0) (c6 (pv 1) h8))) (K2 rfl (j4 (i8 (i:=6) scDo.nd rfl (Or.inl rfl)) (j4 (i8 (i:=7) scDo.nd rfl (Or.inl rfl)) t8))))
  (PSs.nox (i4 (x6 (V1 (K9 (j6 Ci.ok hr rfl Ci.m Ci.k Ci.b .nil t6 (c6 (pv 0) (c6 (pv 2) (c6 (pv 5) h8)))))) (i7 (m6 J8)) r9)
  (i4 (C7 (j6 Cm.ok hr rfl Cm.m Cm.k Cm.b .nil t6 (c6 (pv 0) (c6 (pv 5) h8))) (K2 rfl (j4 (i8 (i:=8) scDo.nd rfl (Or.inl rfl)) (j4 (i8 (i:=9) scDo.nd rfl (Or.inl rfl)) t8))))
  (i7 (m6 (a9e (j6 Cn.ok hr rfl Cn.m Cn.k Cn.b .nil t6 (c6 (pv 8) (c6 (j6 Ct.ok hr rfl Ct.m Ct.k Ct.b .nil t6 (c6 (pv 6) (c6 (pv 3) h8))) h8))) (a5n (j6 Cn.ok hr rfl Cn.m Cn.k Cn.b .nil t6 (c6 (j6 Ct.ok hr rfl Ct.m Ct.k Ct.b .nil t6 (c6 (pv 7) (c6 (pv 4) h8))) (c6 (pv 9) h8))))))))))⟩
theorem a2y {hs:List j5} {ws:List Int} {far:Int} {kt kg:Nat} (hG:∀ h∈hs,HG far kt kg h) (hf:far<=2 ^ 60) (hl:hs.length<=100) (hw:∀ x∈ws,Big 20000 x) (j i:Nat):Big 20400 (K6 hs ws j i):=by
 unfold K6 col;refine (Y6 (a1W (a:=100) (b:=20000) (λ x hx=>?_) hw) (by rw [List.length_zipWith,List.length_map,List.length_map]; lia)).mono (by decide);obtain ⟨r,hr,rfl⟩:=List.mem_map.mp hx;obtain ⟨h,hh,rfl⟩:=List.mem_map.mp hr
 by_cases hi:i<(A3 j h).length
 ·rw [List.getD_eq_getElem?_getD,List.getElem?_eq_getElem hi]
  exact M9 (hG h hh) hf j _ (List.getElem_mem hi)
 ·rw [List.getD_eq_getElem?_getD,List.getElem?_eq_none (by lia)]
  exact (B9 (n:=100) (show (0:Int)<=0 by decide) (by decide))
theorem a1y {t b:Int} (hb:0<b) (hb8:b<2 ^ 8000) (ht:Big 60000 t):Sml (t7 t b):=⟨(L9 hb ht).mono (by decide),(B9 (n:=8000) (Int.le_of_lt (A9 hb)) (Int.lt_of_le_of_lt (N7 hb) hb8)).mono (by decide)⟩
theorem a9U {f1 f2 f3 f4 f5:Addr} {d1 d2 d3 d4 d5:FuncData} (F:Fun K "does_as_much" "does_as_much" G6 f fd) (Ch:a3c P w K mg base n "house_of" ["book","number"] (a2r K CN) f1 d1) (Ci:SCal P w K mg base n "is_mix" ["book","sizes","mix"] (a2j K) f2 d2) (Cm:SCal P w K mg base n "mixed" ["book","mix"] (a0p K) f3 d3) (Cn:SCal P w K mg base n "are_no_more" ["ones","others"] (a2d K) f4 d4) (Ct:SCal P w K mg base n "times" ["amounts","fraction"] (a3k K) f5 d5) :
  FnOk P w K mg base (CX1 P w) (n+1) f fd ["book","number","sizes","shrunk","grown","mix"] (a7M K CN):=by
 refine F.ok1 scDo (λ vs H Q E h=>?_) (λ cdv A outer s H vs Q E hr h=>?_)
 ·obtain ⟨ba,ml,u,v,xs,mxs,hs,ws,D,far,kt,kg,number,z,x,y,rfl,_⟩:=h
  rfl
 obtain ⟨ba,ml,u,v,xs,mxs,hs,ws,D,far,kt,kg,number,z,x,y,rfl,hz,B,hn1,lm,hu,fx,hv,fy,hM,hF,w100,hbw,hD,hD8,q,qE⟩:=h;refine ⟨_,(doT Ch Ci Cm Cn Ct hr).2,?_⟩;have xl:xs.length=hs.length:=Paired.length B.b;have few:=B.few;refine ⟨_,rfl,_,rfl,ba,xs,number,rfl,B.l,lm,λ i hv' hi hx=>?_,qE⟩;obtain ⟨h,hh,⟨av,ta,ga,rfl,p1,p2,p3⟩⟩:=Paired.at B.b hx;have gh:=B.g h (List.mem_of_getElem? hh);refine ⟨av,_,rfl,p1,rfl,_,_,rfl,_,_,rfl,rfl,?_⟩;refine ⟨_,rfl,_,rfl,_,rfl,ba,ml,xs,mxs,ws,D,z,rfl,hz,B.l,hM,hF,w100,hbw,hD,hD8,λ b1 H1 e1 hb1=>⟨_,rfl,w8 (λ c=>?_) (λ c=>?_)⟩⟩
 ·have c':b1=false:=by cases b1 with
   | false=>rfl
   | true=>cases c
  refine q i h false H1 hi hh e1 ⟨λ z=>absurd z (by decide),λ z=>?_⟩;rw [c'] at hb1;have:=z.m;rw [<- xl] at this;exact absurd (hb1.mpr this) (by decide)
 have c':b1=true:=by cases b1 with
  | true=>rfl
  | false=>exact absurd rfl c
 have mp:=hb1.mp c';have wl:ws.length=hs.length:=by have:=mp.1; lia
 rw [xl] at mp;refine ⟨_,rfl,_,rfl,ba,ml,xs,mxs,hs,ws,D,far,kt,kg,rfl,e1.seq B.l,Bk.same e1 B.b,hn1,by lia,e1.seq hM,hF.same e1,hbw,hD,hD8,wl,B.g,B.far,B.t,B.k,λ r tl gl H2 e2 hr2 hS0 hS1=>?_⟩;refine ⟨r,_,rfl,SqT.of hr2,rfl,_,_,rfl,_,_,rfl,rfl,?_⟩;obtain ⟨ys0,ht0,l0,f0⟩:=hS0;obtain ⟨ys1,ht1,l1',f1'⟩:=hS1;have e02:=e1.trans e2;refine ⟨_,rfl,_,rfl,_,rfl,ta,u,h.1,x,rfl,e02.tseq p2,FrV.same e02 hu,by rw [gh.lt]; have:=B.t; lia,M9 gh B.far 0,fx.a,fx.p,fx.b,λ r3 ys3 H3 e3 hr3 l3 f3=>?_⟩;have lt:=gh.lt;have lg:=gh.lg;have bt:=B.t;have bk:=B.k;refine ⟨tl,r3,ys0,ys3,λ j=>t7 (K6 hs ws 0 j) D,λ j=>t7 (h.1.getD j 0*x.1) x.2,rfl,SqL.of (e3 _ _ ht0),SqL.of hr3,by lia,by lia,λ j y' hy=>⟨((f0 j y' hy).same e3).v,a1y hD hD8 ((a2y B.g B.far (by lia) hbw 0 j).mono (by decide))⟩,λ j y' hy=>⟨(f3 j y' hy).v,a1y fx.p fx.b ?_⟩,λ b2 H4 e4 hb2=>⟨_,rfl,w8 (λ c2=>?_) (λ c2=>?_)⟩⟩
 ·have hj:j<h.1.length:=by have:=(List.getElem?_eq_some_iff.mp hy).1; lia
  have:Big 100 (h.1.getD j 0):=by
   rw [List.getD_eq_getElem?_getD,List.getElem?_eq_getElem hj]; exact M9 gh B.far 0 _ (List.getElem_mem hj)
  exact (Big.mul this fx.a).mono (by decide)
 ·have tk:∀ j,j<kt->K6 hs ws 0 j*x.2<=h.1.getD j 0*x.1*D:=λ j hj=>by
   have:=hb2.mp c2 j (by lia);rw [D7 fx.p hD] at this;lia
  have e04:=e02.trans (e3.trans e4);refine ⟨_,rfl,_,rfl,ga,v,h.2,y,rfl,e04.tseq p3,FrV.same e04 hv,by lia,M9 gh B.far 1,fy.a,fy.p,fy.b,λ r5 ys5 H5 e5 hr5 l5 f5=>?_⟩;have e25:=e3.trans (e4.trans e5);refine ⟨_,rfl,r5,gl,ys5,ys1,λ j=>t7 (h.2.getD j 0*y.1) y.2,λ j=>t7 (K6 hs ws 1 j) D,rfl,SqL.of hr5,SqL.of (e25 _ _ ht1),by lia,by lia,λ j y' hy=>⟨(f5 j y' hy).v,a1y fy.p fy.b ?_⟩,λ j y' hy=>⟨((f1' j y' hy).same e25).v,a1y hD hD8 ((a2y B.g B.far (by lia) hbw 1 j).mono (by decide))⟩,λ b3 H6 e6 hb3=>?_⟩
  ·have hj:j<h.2.length:=by have:=(List.getElem?_eq_some_iff.mp hy).1; lia
   have:Big 100 (h.2.getD j 0):=by
    rw [List.getD_eq_getElem?_getD,List.getElem?_eq_getElem hj]; exact M9 gh B.far 1 _ (List.getElem_mem hj)
   exact (Big.mul this fy.a).mono (by decide)
  refine q i h b3 H6 hi hh (e04.trans (e5.trans e6)) ?_;rw [hb3];constructor
  ·intro hh'
   refine ⟨mp,tk,λ j hj=>?_⟩;have:=hh' j (by lia);rw [D7 hD fy.p] at this;lia
  ·intro hd j hj
   rw [D7 hD fy.p];have:=hd.g j (by lia);lia
 ·refine q i h false H4 hi hh (e02.trans (e3.trans e4)) ⟨λ z=>absurd z (by decide),λ hd=>?_⟩
  refine absurd (hb2.mpr λ j hj=>?_) c2;rw [D7 fx.p hD];have:=hd.t j (by lia);lia
end
section
variable {P:Program} {w:World} {K:W.Frag} {mg:Str->Option Value} {base:Heap} {f:Addr} {fd:FuncData} {n:Nat} {CN:Addr}
theorem a8w {z:Str} {x D:Int} (hD:0<D):U6 z (t7 x D).1 ↔ U6 z x:=by
 have a:=U2 (x:=x) hD;have b:0<(t7 x D).1 ↔ 0<x:=by
  have l1:=D7 (a:=0) (b:=x) (D:=1) (E:=D) (by decide) hD;rw [show t7 0 1=(0,1) by decide] at l1;simp only [Int.mul_one,Int.zero_mul] at l1;exact l1
 unfold U6;constructor
 ·rintro ⟨h1,h2⟩
  exact ⟨λ z=>by have:=h1 z; lia,λ z=>by have:=h2 z; lia⟩
 ·rintro ⟨h1,h2⟩
  exact ⟨λ z=>by have:=h1 z; lia,λ z=>by have:=h2 z; lia⟩
structure PrB (pt pg:List Int) (ps D:Int):Prop where
 lt:pt.length<=100
 lg:pg.length<=100
 bt:∀ x∈pt,Big 5000 x
 bg:∀ x∈pg,Big 5000 x
 bs:Big 5000 ps
 d:0<D
 d2:D<2 ^ 4000
structure ArP (z:Str) (kt kg:Nat) (pt pg:List Int) (ps:Int):Prop where
 lt:pt.length=kt
 lg:pg.length=kg
 nt:∀ x∈pt,0<=x
 ng:∀ x∈pg,0<=x
 s:U6 z ps
theorem ArP.toN {z:Str} {kt kg:Nat} {pt pg:List Int} {ps D:Int} (a:ArP z kt kg pt pg ps) (b:PrB pt pg ps D):PrN pt pg ps D kt kg:=⟨a.lt,a.lg,λ x hx=>⟨a.nt x hx,b.bt x hx⟩,λ x hx=>⟨a.ng x hx,b.bg x hx⟩,b.bs,b.d,b.d2⟩
def a6q (K:W.Frag):Sp:=λ vs H Q _=>∃ (z:Str) (u:V) (x:Q2),vs=[.str z,u]/\Szw z/\FrV K H u x/\∀ b:Bool,(b=true ↔ U6 z x.1)->Q (.bl b) H
theorem b4C:r8 ["sizes","for_size"] ["sizes","for_size"] (i3 M8):=⟨rfl,rfl,rfl,by decide +kernel,rfl,by decide +kernel,by decide +kernel⟩
theorem a8v (F:Fun K "is_for_size_let" "is_for_size_let" M8 f fd):FnOk P w K mg base G2 (n+1) f fd ["sizes","for_size"] (a6q K):=by
 refine F.ok b4C (λ vs H Q E h=>?_) (λ cdv A outer s H vs Q E hr h=>?_)
 ·obtain ⟨z,u,x,rfl,_⟩:=h
  rfl
 obtain ⟨z,u,x,rfl,hz,⟨a,rfl,ha⟩,q⟩:=h;refine ⟨_,i4 (x6 (p7 G8 (pv 0) D3 (m8 _)) (i7 (m6 (C2 G8 (i9 t5 (pv 1) c7 (λ _ _=>rfl)) c7 (m8 _)))) r9)
  (i4 (x6 (p7 G8 (pv 0) D3 (m8 _)) (i7 (m6 (C2 a2I (i9 t5 (pv 1) c7 (λ _ _=>rfl)) c7 (m8 _)))) r9)
  (i4 (x6 (p7 G8 (pv 0) D3 (m8 _)) (i7 (m6 (C2 a6B (i9 t5 (pv 1) c7 (λ _ _=>rfl)) c7 (m8 _)))) r9)
  (i7 (m6 (C2 G8 (pv 0) D3 (m8 _)))))),?_⟩
 have no:∀ {a b c:Str},(a=b\/a=c)->a≠b->a≠c->False:=λ h n1 n2=>h.elim n1 n2;rcases hz with rfl | rfl | rfl | rfl
 ·refine ⟨_,rfl,rfl,_,rfl,w8 (λ _=>⟨_,rfl,a,_,0,_,rfl,rfl,ha,D5 _ _,rfl,q _ ?_⟩) (λ c=>absurd (by decide +kernel) c)⟩
  rw [decide_eq_true_iff];constructor
  ·intro h
   have:x.1=0:=V.int.inj h;exact ⟨λ _=>by lia,λ _=>by lia⟩
  ·intro h
   rw [show x.1=0 by have:=h.1 (.inl rfl); have:=h.2 (.inl rfl); lia]
 ·refine ⟨_,rfl,rfl,_,rfl,w8 (λ c=>absurd c (by decide +kernel)) (λ _=>?_)⟩
  refine ⟨_,rfl,rfl,_,rfl,w8 (λ c=>absurd c (by decide +kernel)) (λ _=>?_)⟩;refine ⟨_,rfl,rfl,_,rfl,w8 (λ c=>absurd c (by decide +kernel)) (λ _=>?_)⟩;exact ⟨_,rfl,rfl,q _ ⟨λ _=>⟨λ h=>(no h (by decide) (by decide)).elim,λ h=>(no h (by decide) (by decide)).elim⟩,λ _=>by decide +kernel⟩⟩
 ·refine ⟨_,rfl,rfl,_,rfl,w8 (λ c=>absurd c (by decide +kernel)) (λ _=>?_)⟩
  refine ⟨_,rfl,rfl,_,rfl,w8 (λ _=>⟨_,rfl,a,_,0,_,rfl,rfl,ha,D5 _ _,_,_,rfl,rfl,q _ ?_⟩) (λ c=>absurd (by decide +kernel) c)⟩;rw [decide_eq_true_iff];exact ⟨λ h=>⟨λ _=>h,λ h=>(no h (by decide) (by decide)).elim⟩,λ h=>h.1 (.inr rfl)⟩
 ·refine ⟨_,rfl,rfl,_,rfl,w8 (λ c=>absurd c (by decide +kernel)) (λ _=>?_)⟩
  refine ⟨_,rfl,rfl,_,rfl,w8 (λ c=>absurd c (by decide +kernel)) (λ _=>?_)⟩;refine ⟨_,rfl,rfl,_,rfl,w8 (λ _=>⟨_,rfl,a,_,0,_,rfl,rfl,ha,D5 _ _,_,_,rfl,rfl,q _ ?_⟩) (λ c=>absurd (by decide +kernel) c)⟩;rw [decide_eq_true_iff];exact ⟨λ h=>⟨λ h=>(no h (by decide) (by decide)).elim,λ _=>h⟩,λ h=>h.2 (.inr rfl)⟩
def a8l (K:W.Frag):Sp:=λ vs H Q _=>∃ (ba t:Addr) (xs:List V) (hs:List j5) (pt pg:List Int) (ps D far:Int) (kt kg:Nat) (z:Str),vs=[.ref ba,.str z,.ref t]/\Szw z/\W6 K H ba xs hs far kt kg/\1<=hs.length/\PrA H t pt pg ps D/\PrB pt pg ps D ∧
 ∀ (b:Bool) (H':Hp),Same H H'->(b=true ↔ ArP z kt kg pt pg ps)->Q (.bl b) H'
theorem scAPw:r8 ["book","sizes","prices","for_takes","for_gives","for_size","takes","gives"] ["book","sizes","prices"] (i3 U8):=⟨rfl,rfl,rfl,by decide +kernel,rfl,by decide +kernel,by decide +kernel⟩
theorem a6s:(["top","bottom"]:List Str).Nodup:=by decide +kernel
theorem a9G {fa:Addr} {da:FuncData} (F:Fun K "are_prices" "are_prices" U8 f fd) (T:w6 mg) (Cl:SCal P w K mg base n "is_for_size_let" ["sizes","for_size"] (a6q K) fa da):FnOk P w K mg base G2 (n+1) f fd ["book","sizes","prices"] (a8l K):=by
 refine F.ok scAPw (λ vs H Q E h=>?_) (λ cdv A outer s H vs Q E hr h=>?_)
 ·obtain ⟨ba,t,xs,hs,pt,pg,ps,D,far,kt,kg,z,rfl,_⟩:=h
  rfl
 obtain ⟨ba,t,xs,hs,pt,pg,ps,D,far,kt,kg,z,rfl,hz,B,hn1,⟨fl,gl,u,fts,gts,h1,h2,h3,h4,h5,h6⟩,hN,q⟩:=h;refine ⟨_,i4 (C7 (pv 2) (K2 rfl (j4 (i8 (i:=3) scAPw.nd rfl (Or.inl rfl)) (j4 (i8 (i:=4) scAPw.nd rfl (Or.inl rfl)) (j4 (i8 (i:=5) scAPw.nd rfl (Or.inl rfl)) t8)))))
  (i4 (C7 (i9 j0 (pv 0) c7 (λ _ _=>rfl)) (K2 rfl (j4 (i8 (i:=6) scAPw.nd rfl (Or.inl rfl)) (j4 (i8 (i:=7) scAPw.nd rfl (Or.inl rfl)) t8))))
  (i4 (x6 (PW.pt (a1O (p7 a0z (j9 j7 rfl T.len PySem.boot_len (c6 (pv 3) h8)) (j9 j7 rfl T.len PySem.boot_len (c6 (pv 6) h8)) (m8 _)) (a0f (p7 a0z (j9 j7 rfl T.len PySem.boot_len (c6 (pv 4) h8)) (j9 j7 rfl T.len PySem.boot_len (c6 (pv 7) h8)) (m8 _))))) (i7 (m6 J8)) r9)
  (i4 (x6 (K9 (j9 (a1F rfl) rfl T.any PyProof.Rows.boot_any (c6 (J9 ["top","bottom"] [] rfl (A5 (j3 G4 (pv 3) (pv 4))) (λ _ _ _ _=>E6 K (n:=2) rfl rfl (j4 (i8 (i:=0) a6s rfl (Or.inl rfl)) (j4 (i8 (i:=1) a6s rfl (Or.inl rfl)) t8))) (λ _ _ _ _=>C2 Q0 (pv 0) c7 (m8 _))) h8))) (i7 (m6 J8)) r9)
  (i7 (m6 (j6 Cl.ok hr rfl Cl.m Cl.k Cl.b .nil t6 (c6 (pv 1) (c6 (pv 5) h8)))))))),?_⟩
 have xl:xs.length=hs.length:=Paired.length B.b;have small:=j8 (show (1000:Nat)<=1000 from Nat.le_refl _);have lft:=h3.1;have lgt:=h5.1;have b1:=hN.lt;have b2:=hN.lg;obtain ⟨v0,hv0⟩:∃ v,xs[0]?=some v:=⟨_,List.getElem?_eq_getElem (by lia)⟩;obtain ⟨h0,hh0,⟨a0,t0,g0,rfl,p1,p2,p3⟩⟩:=Paired.at B.b hv0;have gg:=B.g h0 (List.mem_of_getElem? hh0);have lt0:(h0.1.map V.int).length=kt:=by rw [List.length_map]; exact gg.lt
 have lg0:(h0.2.map V.int).length=kg:=by rw [List.length_map]; exact gg.lg
 refine ⟨_,rfl,t,_,rfl,SqT.of h1,rfl,_,_,rfl,_,_,rfl,_,_,rfl,rfl,?_⟩;refine ⟨_,rfl,ba,_,0,_,rfl,rfl,B.l,r6 (j:=0) hv0,a0,_,rfl,p1,rfl,_,_,rfl,_,_,rfl,rfl,?_⟩;refine ⟨_,rfl,fl,_,rfl,.inl (SqL.of h2),_,rfl,t0,_,rfl,.inr p2,rfl,_,rfl,w8 (λ c=>a3A (q _ _ (Same.refl _) ⟨λ z=>absurd z (by decide),λ z=>?_⟩)) (λ c=>?_)⟩
 ·rw [lft,lt0,z.lt] at c
  simp at c
 have et:pt.length=kt:=by
  have:V.int (fts.length:Int)=V.int ((h0.1.map V.int).length:Int):=by simpa using c
  have:=V.int.inj this;lia
 refine ⟨_,rfl,gl,_,rfl,.inl (SqL.of h4),_,rfl,g0,_,rfl,.inr p3,rfl,_,rfl,w8 (λ c=>q _ _ (Same.refl _) ⟨λ z=>absurd z (by decide),λ z=>?_⟩) (λ c=>?_)⟩
 ·rw [lgt,lg0,z.lg] at c
  simp at c
 have eg:pg.length=kg:=by
  have:V.int (gts.length:Int)=V.int ((h0.2.map V.int).length:Int):=by simpa using c
  have:=V.int.inj this;lia
 refine ⟨_,rfl,_,rfl,fl,gl,fts,gts,rfl,rfl,h2,h4,by lia,λ p hp=>?_⟩;have s1:=Same.new hp (.lst (fts++gts));refine ⟨p,rfl,⟨_,SqL.of upd_same⟩,λ p2' hp2=>?_⟩;have hF:=(h3.cat h5).same s1;have ll:(fts++gts).length=(pt++pg).length:=hF.1;refine C9 (v6 (SqL.of upd_same)) hp2 (by simp; lia) (λ i y _=>y=.bl (decide ((pt++pg).getD i 0<0))) (λ _ _ _ _ r _=>r) (λ i y H2 zs N hy e hp' hNN=>?_) (λ zs H2 e hp' len pr=>?_)
 ·obtain ⟨b,rfl,hb⟩:=hF.2 i y hy
  refine ⟨b,_,rfl,SqT.of (e _ _ hb),rfl,_,_,rfl,_,_,rfl,rfl,S1 (by decide) (by decide),?_⟩;exact ⟨_,rfl,_,_,rfl,rfl,hNN _ _ (Same.refl _) (congrArg V.bl (decide_eq_decide.mpr (U2 hN.d)))⟩
 have ez:zs=(((pt++pg).map λ x=>decide (x<0))).map V.bl:=by
  refine List.ext_getElem? λ i=>?_
  by_cases hi:i<zs.length
  ·rw [List.getElem?_eq_getElem hi,pr i _ (List.getElem?_eq_getElem hi),List.getElem?_map,List.getElem?_map,List.getD_eq_getElem?_getD,List.getElem?_eq_getElem (by lia)]; rfl
  ·rw [List.getElem?_eq_none (by lia),List.getElem?_eq_none (by rw [List.length_map,List.length_map]; lia)]
 rw [ez] at hp';have e02:=s1.trans e;refine ⟨p2',_,rfl,.inl (SqL.of hp'),_,rfl,w8 (λ c=>q _ _ e02 ⟨λ z=>absurd z (by decide),λ z=>?_⟩) (λ c=>?_)⟩
 ·obtain ⟨x,hx,hx'⟩:=List.any_eq_true.mp c
  obtain ⟨y,hy,rfl⟩:=List.mem_map.mp hx;have hy0:y<0:=by simpa using hx'
  rcases List.mem_append.mp hy with hy | hy
  ·have:=z.nt y hy; lia
  ·have:=z.ng y hy; lia
 have nn:∀ x∈pt++pg,0<=x:=λ x hx=>by
  by_cases h0:0<=x
  ·exact h0
  ·exact absurd (List.any_eq_true.mpr ⟨true,List.mem_map.mpr ⟨x,hx,decide_eq_true (by lia)⟩,rfl⟩) c
 refine ⟨_,rfl,_,rfl,z,u,t7 ps D,rfl,hz,(h6.same e02).v,λ b hb=>q b _ e02 ?_⟩;rw [hb,a8w hN.d];exact ⟨λ z=>⟨et,eg,λ x hx=>nn x (List.mem_append_left _ hx),λ x hx=>nn x (List.mem_append_right _ hx),z⟩,λ z=>z.s⟩
def a2s (K:W.Frag):Sp:=λ vs H Q _=>∃ (pl gl:Addr) (ps gs:List Int) (S:Int),vs=[.ref pl,.ref gl,.int S]/\SqL K H pl (ps.map V.int)/\SqL K H gl (gs.map V.int)/\gs.length=ps.length/\ps.length<=100/\∀ (b:Bool) (H':Hp),Same H H'->(b=true ↔ ∀ i,i<ps.length->gs.getD i 0+S<=ps.getD i 0)->Q (.bl b) H'
theorem b4W:r8 ["paid","given","size"] ["paid","given","size"] (i3 J1):=⟨rfl,rfl,rfl,by decide +kernel,rfl,by decide +kernel,by decide +kernel⟩
theorem b2P:(["pays","gives","size"]:List Str).Nodup:=by decide +kernel
theorem a5g (F:Fun K "does_no_house_better" "does_no_house_better" J1 f fd) (T:w6 mg):FnOk P w K mg base G2 (n+1) f fd ["paid","given","size"] (a2s K):=by
 refine F.ok b4W (λ vs H Q E h=>?_) (λ cdv A outer s H vs Q E hr h=>?_)
 ·obtain ⟨pl,gl,ps,gs,S,rfl,_⟩:=h
  rfl
 obtain ⟨pl,gl,ps,gs,S,rfl,h1,h2,hl,h100,q⟩:=h;refine ⟨_,i7 (m6 (j9 (a4c rfl) rfl T.all PyProof.Rows.boot_all (c6 (J9 ["pays","gives"] [2] rfl (Z3 true true K rfl rfl T.zip (c6 (pv 0) (c6 (pv 1) h8)))
  (λ _ _ _ _=>E6 K (n:=2) rfl rfl (j4 (i8 (i:=0) b2P rfl (Or.inl rfl)) (j4 (i8 (i:=1) b2P rfl (Or.inl rfl)) t8)))
  (λ _ _ _ _=>C2 a2I (j3 C4 (pv 1) (pv 2)) (pv 0) (m8 _))) h8))),?_⟩
 refine ⟨_,rfl,_,rfl,pl,gl,rfl,⟨_,h1⟩,⟨_,h2⟩,λ p hp=>?_⟩;refine a4G (b1:=true) (b2:=true) h1 h2 hp (by rw [List.length_map]; exact j8 (by lia)) (λ i=>.bl (decide (gs.getD i 0+S<=ps.getD i 0))) (λ i x y H' N hx hy e hN=>?_) (λ H' e hp'=>?_)
 ·obtain ⟨k,rfl,hk⟩:=a8E hx
  obtain ⟨j,rfl,hj⟩:=a8E hy;rw [show gs.getD i 0=j by rw [List.getD_eq_getElem?_getD,hj]; rfl,show ps.getD i 0=k by rw [List.getD_eq_getElem?_getD,hk]; rfl] at hN;exact ⟨_,rfl,_,rfl,_,_,rfl,rfl,_,rfl,_,_,rfl,rfl,hN⟩
 ·have em:(List.range (min (ps.map V.int).length (gs.map V.int).length)).map (λ i=>V.bl (decide (gs.getD i 0+S<=ps.getD i 0)))=((List.range ps.length).map λ i=>decide (gs.getD i 0+S<=ps.getD i 0)).map V.bl:=by
   rw [List.map_map,show min (ps.map V.int).length (gs.map V.int).length=ps.length by rw [List.length_map,List.length_map]; lia]; rfl
  rw [em] at hp';refine ⟨p,_,rfl,.inl (SqL.of hp'),q _ _ e ?_⟩;rw [List.all_eq_true];constructor
  ·intro h i hi
   exact of_decide_eq_true (h _ (List.mem_map.mpr ⟨i,List.mem_range.mpr hi,rfl⟩))
  ·intro h b hb
   obtain ⟨i,hi,rfl⟩:=List.mem_map.mp hb;exact decide_eq_true (h i (List.mem_range.mp hi))
end
section
variable {P:Program} {w:World} {K:W.Frag} {mg:Str->Option Value} {base:Heap} {f:Addr} {fd:FuncData} {n:Nat}
theorem a3l {H:Hp}:∀ {ys:List V},(∀ y∈ys,∃ d,Dp K H y d/\d.canLay0=true)->∃ ds,Dps K H ys ds/\PyData.canLayAll0 ds=true/\ds.isEmpty=ys.isEmpty
 | [],_=>⟨[],.nil,by rw [PyData.canLayAll0],rfl⟩
 | y::r,h=>by
  obtain ⟨d,h1,h2⟩:=h y (.head _);obtain ⟨ds,h3,h4,_⟩:=a3l (ys:=r) λ y hy=>h y (.tail _ hy);exact ⟨d::ds,.cons h1 h3,by rw [PyData.canLayAll0,h2,h4]; rfl,rfl⟩
theorem a3T (ds:List PyData):PyData.eqv (.list ds) (.list [])=ds.isEmpty:=by
 cases ds with
 | nil=>rw [PyData.eqv,PyData.eqvAll]; rfl
 | cons d r=>rw [PyData.eqv,PyData.eqvAll]; rfl
theorem a8O {H:Hp} {p ep:Addr} {ys:List V} {Q:V->Hp->Prop} (h1:SqL K H p ys) (h2:SqL K H ep []) (hd:∀ y∈ys,∃ d,Dp K H y d/\d.canLay0=true) (q:Q (.bl (!ys.isEmpty)) H):b3q K (.ref p) (.ref ep) H Q:=by
 obtain ⟨ds,h3,h4,h5⟩:=a3l hd;refine ⟨.list ds,.list [],.lst h1 h3,.lst h2 .nil,by rw [PyData.canLay0]; exact h4,rfl,Nat.le_trans (Nat.min_le_right _ _) (by decide),?_⟩;rw [a3T,h5]; exact q
theorem b2M {H:Hp} {p ep:Addr} {ys:List V} {Q:V->Hp->Prop} (h1:SqL K H p ys) (h2:SqL K H ep []) (hd:∀ y∈ys,∃ d,Dp K H y d/\d.canLay0=true) (q:Q (.bl ys.isEmpty) H):b3r K (.ref p) (.ref ep) H Q:=by
 obtain ⟨ds,h3,h4,h5⟩:=a3l hd;refine ⟨.list ds,.list [],.lst h1 h3,.lst h2 .nil,by rw [PyData.canLay0]; exact h4,rfl,Nat.le_trans (Nat.min_le_right _ _) (by decide),?_⟩;rw [a3T,h5]; exact q
theorem FrsV.data {H:Hp} {ys:List V} {xs:List Int} {D:Int} (h:FrsV K H ys xs D) {y:V} (hy:y∈ys):∃ d,Dp K H y d/\d.canLay0=true:=by
 obtain ⟨i,hi⟩:=List.getElem?_of_mem hy;exact ⟨_,(h.2 i y hi).dp,a4x _⟩
def a5x (K:W.Frag):Sp:=λ vs H Q _=>∃ (ba ml:Addr) (xs mvs:List V) (ws:List Int) (D:Int) (z:Str),vs=[.ref ba,.str z,.ref ml]/\Szw z/\SqL K H ba xs/\SqL K H ml mvs/\FrsV K H mvs ws D/\ws.length<=100/\(∀ x∈ws,Big 20000 x)/\0<D/\D<2 ^ 8000 ∧
 ∀ (b:Bool) (H':Hp),Same H H'->(b=true ↔ a9N z xs.length ws D)->Q (.bl b) H'
theorem a8q {z:Str} (hz:Szw z):inV (.str z) [.str "one",.str "less"]=true ↔ z="one"\/z="less":=by
 rcases hz with rfl | rfl | rfl | rfl <;> decide +kernel
theorem a8e {z:Str} (hz:Szw z):inV (.str z) [.str "any",.str "less"]=true ↔ ¬ (z="one"\/z="more"):=by
 rcases hz with rfl | rfl | rfl | rfl <;> decide +kernel
theorem b0k {fa fb:Addr} {da db:FuncData} (F:Fun K "_law_let" "_law_let" a2M f fd) (T:w6 mg) (Cs:SCal P w K mg base n "_law_sum" ["numbers","parts"] (a0V K) fa da) (Cl:X7 P w K mg base n "_law_a_less" ["one","other"] (a0e K) fb db) :
  FnOk P w K mg base G2 (n+1) f fd ["book","sizes","mix"] (a5x K):=by
 refine F.ok scLlet (λ vs H Q E h=>?_) (λ cdv A outer s H vs Q E hr h=>?_)
 ·obtain ⟨ba,ml,xs,mvs,ws,D,z,rfl,_⟩:=h
  rfl
 obtain ⟨ba,ml,xs,mvs,ws,D,z,rfl,hz,hS,hM,hF,h100,hw,hD,hD2,q⟩:=h;refine ⟨_,(b4h T Cs Cl hr).2,?_⟩;have ml':mvs.length=ws.length:=hF.1;refine ⟨λ σ' H'=>σ'=[some (.ref ba),some (.str z),some (.ref ml),none]/\Same H H'/\ws.length=xs.length/\∀ x∈ws,0<=x,?_,?_⟩
 ·refine ⟨_,rfl,ml,_,rfl,.inl hM,_,rfl,ba,_,rfl,.inl hS,rfl,_,rfl,?_⟩
  refine w8 (λ c=>?_) (λ c=>?_)
  ·refine a3A (q _ _ (Same.refl _) ⟨λ z=>absurd z (by decide),λ z=>?_⟩)
   have:(mvs.length:Int)=(xs.length:Int):=by have:=z.1; lia
   rw [this] at c;simp at c
  have hlx:ws.length=xs.length:=by
   have:V.int (mvs.length:Int)=V.int (xs.length:Int):=by simpa using c
   have:=V.int.inj this;omega
  refine ⟨_,rfl,ml,rfl,⟨_,hM⟩,λ p hp=>?_⟩;refine Y0 (v6 hM) hp (j8 (by lia)) (λ i=>decide (ws.getD i 0<0)) (λ i x H' ys N' hx e hp' hN=>?_) (λ ys H5 e5 hp5 hn5 hs5 hmem=>?_)
  ·obtain ⟨b,rfl,hb⟩:=hF.2 i x hx
   refine ⟨_,rfl,b,_,0,_,rfl,rfl,e.tseq hb,D5 _ _,_,_,rfl,rfl,_,rfl,?_⟩;rw [decide_eq_decide.mpr (U2 (x:=ws.getD i 0) hD)]; exact hN _ (Same.refl _)
  ·refine ⟨(by show 0<=sizeLine; decide),λ ep hep=>?_⟩
   have npe:p≠ep:=i6 hp5 hep;have e6:=e5.trans (Same.new hep (.lst []));refine a8O (SqL.of (by rw [i5 npe]; exact hp5)) (SqL.of upd_same) (λ y hy=>(hF.same e6).data (hmem y hy)) ⟨_,rfl,w8 (λ c=>?_) (λ c=>⟨rfl,e6,hlx,λ x hx=>?_⟩)⟩
   ·refine q _ _ e6 ⟨λ z=>absurd z (by decide),λ z=>?_⟩
    have hn:ys=[]:=hn5 λ i hi=>decide_eq_false (λ hneg=>absurd (z.2.1 _ (M4 (show i<ws.length by omega))) (by omega));rw [hn] at c
    cases c
   ·by_cases h0:0<=x
    ·exact h0
    ·exfalso
     obtain ⟨i,hi⟩:=List.getElem?_of_mem hx;have hi':=(List.getElem?_eq_some_iff.mp hi).1;have:=hs5 ⟨i,by omega,decide_eq_true (by rw [List.getD_eq_getElem?_getD,hi]; show x<0; omega)⟩
     cases ys with
     | nil=>exact this rfl
     | cons y r=>exact c rfl
 intro σ1 H1 hM_; refine A4 λ G_ hG_=>?_; obtain ⟨rfl,e1,hlx,nn⟩:=hM_; subst hG_;refine ⟨λ σ' H'=>∃ v:V,σ'=[some (.ref ba),some (.str z),some (.ref ml),some v]/\Same H H'/\FrT H' v (t7 ws.sum D),?_,?_⟩
 ·refine ⟨(by show 1<=sizeLine; decide),λ l1 hl1=>?_⟩
  have f1:=Same.new hl1 (.lst [V.int 1]);refine ⟨_,rfl,ml,_,rfl,.inl ((e1.trans f1).seq hM),l1,_,[V.int 1],rfl,rfl,upd_same,by lia,by lia,(by show 1*((mvs.length:Int)).toNat<=sizeLine; exact Nat.le_of_lt (j8 (by lia))),λ p2 hp2=>?_⟩;rw [a9R,show ((mvs.length:Int)).toNat=ws.length by lia];have f2:=Same.new hp2 (.lst ((List.replicate ws.length (1:Int)).map V.int));have e3:=e1.trans (f1.trans f2);refine ⟨_,rfl,p2,ml,List.replicate ws.length 1,mvs,ws,D,rfl,.inl (SqL.of upd_same),e3.seq hM,hF.same e3,List.length_replicate,by rw [List.length_replicate]; exact h100,λ x hx=>?_,hw,hD,hD2,λ v H4 e4 hv=>?_⟩
  ·rw [(List.mem_replicate.mp hx).2]; exact B9 (n:=100) (by decide) (by decide)
  rw [a4u] at hv;exact ⟨v,rfl,e3.trans e4,hv⟩
 intro σ2 H2 hM_; refine A4 λ G_ hG_=>?_; obtain ⟨v,rfl,e2,hv⟩:=hM_; subst hG_;have b2:Big 1000000 (t7 ws.sum D).2:=(B9 (n:=8000) (Int.le_of_lt (A9 hD)) (Int.lt_of_le_of_lt (N7 hD) hD2)).mono (by decide);have b1:Big 1000000 (t7 ws.sum D).1:=(L9 hD (Y6 (m:=20000) hw (by lia))).mono (by decide);have l1:=D7 (a:=1) (b:=ws.sum) (D:=1) (E:=D) (by decide) hD;have l2:=D7 (a:=ws.sum) (b:=1) (D:=D) (E:=1) hD (by decide);rw [a0k] at l1 l2;simp only [Int.one_mul,Int.mul_one] at l1 l2;refine ⟨λ σ' H'=>σ'=[some (.ref ba),some (.str z),some (.ref ml),some v]/\Same H H'/\FrT H' v (t7 ws.sum D)/\((z="one"\/z="less")->ws.sum<=D),?_,?_⟩
 ·refine ⟨_,rfl,(by show 2<=sizeLine; decide),λ tp htp=>?_⟩
  have f5:=Same.new htp (.tup [V.str "one",V.str "less"]);refine ⟨tp,_,rfl,.inr (SqT.of upd_same),rfl,rfl,_,rfl,?_⟩;refine w8 (λ c=>?_) (λ c=>?_)
  ·have hz1:=(a8q hz).mp (by simpa using c)
   refine ⟨(by show 2<=sizeLine; decide),λ up hup=>?_⟩;have f7:=Same.new hup (.tup [V.int 1,V.int 1]);refine ⟨_,rfl,_,v,(1,1),t7 ws.sum D,rfl,⟨up,rfl,SqT.of upd_same⟩,(hv.same (f5.trans f7)).v,⟨a8H,a8H,b1,b2⟩,_,rfl,?_⟩;refine w8 (λ c=>q _ _ (e2.trans (f5.trans f7)) ⟨λ z=>absurd z (by decide),λ z=>?_⟩) (λ c=>⟨rfl,e2.trans (f5.trans f7),hv.same (f5.trans f7),λ _=>?_⟩)
   ·have h1:=of_decide_eq_true c
    simp only [Int.one_mul,Int.mul_one] at h1;have:=l1.mp h1;have:=z.2.2.1 hz1;omega
   ·have h1:=λ h=>c (decide_eq_true h)
    simp only [Int.one_mul,Int.mul_one] at h1;have:¬ D<ws.sum:=λ h=>h1 (l1.mpr h);omega
  ·refine a0t ⟨rfl,e2.trans f5,hv.same f5,λ hz1=>?_⟩
   exact absurd ((a8q hz).mpr hz1) (by simpa using c)
 intro σ3 H3 hM_; refine A4 λ G_ hG_=>?_; obtain ⟨rfl,e3,hv3,le1⟩:=hM_; subst hG_;refine ⟨_,rfl,(by show 2<=sizeLine; decide),λ tq htq=>?_⟩;have f6:=Same.new htq (.tup [V.str "any",V.str "less"]);refine ⟨tq,_,rfl,.inr (SqT.of upd_same),rfl,rfl,_,rfl,?_⟩;refine w8 (λ c=>?_) (λ c=>?_)
 ·have hz1:=(a8e hz).mp (by simpa using c)
  exact q _ _ (e3.trans f6) ⟨λ _=>⟨hlx,nn,le1,λ h=>absurd h hz1⟩,λ _=>rfl⟩
 ·have hz2:z="one"\/z="more":=Classical.byContradiction λ h=>absurd ((a8e hz).mpr h) (by simpa using c)
  refine ⟨_,rfl,(by show 2<=sizeLine; decide),λ up hup=>?_⟩;have f7:=Same.new hup (.tup [V.int 1,V.int 1]);refine ⟨v,_,t7 ws.sum D,(1,1),rfl,(hv3.same (f6.trans f7)).v,⟨up,rfl,SqT.of upd_same⟩,⟨b1,b2,a8H,a8H⟩,_,rfl,?_⟩;refine q _ _ (e3.trans (f6.trans f7)) ?_;simp only [Int.one_mul,Int.mul_one,Bool.not_eq_true',decide_eq_false_iff_not];rw [l2];exact ⟨λ h=>⟨hlx,nn,le1,λ _=>by omega⟩,λ h=>by have:=h.2.2.2 hz2; omega⟩
end
section
variable {P:Program} {w:World} {K:W.Frag} {mg:Str->Option Value} {base:Heap} {f:Addr} {fd:FuncData} {n:Nat}
def a5a (K:W.Frag):Sp:=λ vs H Q _=>∃ (ba ml:Addr) (tv gv:V) (xs mvs:List V) (hs:List j5) (ws:List Int) (D A B A' B':Int) (z:Str) (far:Int) (kt kg i:Nat) (h:j5),vs=[.ref ba,.int i,.str z,.ref ml,tv,gv]/\Szw z/\SqL K H ba xs/\Bk K H xs hs/\SqL K H ml mvs/\FrsV K H mvs ws D ∧
 ws.length<=100/\hs.length<=16/\(∀ x∈ws,Big 20000 x)/\0<D/\D<2 ^ 8000/\(∀ h∈hs,HG far kt kg h)/\far<=2 ^ 60/\kt<=20/\kg<=20/\hs[i]?=some h/\FrV K H tv (t7 A B)/\0<B/\B<2 ^ 8000/\Big 20000 A/\FrV K H gv (t7 A' B')/\0<B'/\B'<2 ^ 8000/\Big 20000 A' ∧
 ∀ (b:Bool) (H':Hp),Same H H'->(b=true ↔ a3Y z hs h kt kg ws D (t7 A B) (t7 A' B'))->Q (.bl b) H'
noncomputable def mdX {cdv:Value} {A:Around} {outer:List Env} {s:Shared} {H:Hp} {E:XK} {fa fb fc fe:Addr} {da db dc de:FuncData} (T:w6 mg) (Ct:SCal P w K mg base n "_law_let" ["book","sizes","mix"] (a5x K) fa da) (Ca:SCal P w K mg base n "_law_amounts" ["book","mix"] (T8 K) fb db)
  (Cl:X7 P w K mg base n "_law_a_less" ["one","other"] (a0e K) fc dc) (Co:X7 P w K mg base n "_law_low" ["top","bottom"] L7 fe de) (hr:Room n (A.deeper (PyProof.Rows.envOfC "_law_mix_does" (i3 T7) s.heap.objs.size f cdv))) :
  { t:TS // PSs (G9 G2 P w K mg base ["book","number","sizes","mix","takes_by","gives_by","takes","gives","take","own","give"] "_law_mix_does" (i3 T7) f cdv A outer s H E).nox (t9 T7) t } :=
 ⟨_,p6 (x6 (V1 (K9 (j6 Ct.ok hr rfl Ct.m Ct.k Ct.b .nil t6 (c6 (pv 0) (c6 (pv 2) (c6 (pv 3) h8)))))) (i7 (m6 J8)) r9)
  (p6 (C7 (j6 Ca.ok hr rfl Ca.m Ca.k Ca.b .nil t6 (c6 (pv 0) (c6 (pv 3) h8))) (b1A K rfl rfl (j4 (i8 (i:=6) scMd.nd rfl (Or.inl rfl)) (j4 (i8 (i:=7) scMd.nd rfl (Or.inl rfl)) t8))))
  (p6 (P7 PassesOwn.never rfl (Z3 true false K rfl rfl T.zip (c6 (pv 6) (c6 (i9 t5 (i9 j0 (pv 0) (pv 1) (λ _ _=>rfl)) c7 (λ _ _=>rfl)) h8))) (E6 K (n:=2) rfl rfl (j4 (i8 (i:=8) scMd.nd rfl (Or.inl rfl)) (j4 (i8 (i:=9) scMd.nd rfl (Or.inl rfl)) t8)))
   (i7 (x6 (K9 (j6 Cl.ok hr rfl Cl.m Cl.k Cl.b .nil t6 (c6 (j6 Co.ok hr rfl Co.m Co.k Co.b .nil t6 (c6 (j3 y6 (pv 9) (i9 t5 (pv 4) c7 (λ _ _=>rfl))) (c6 (i9 t5 (pv 4) c7 (λ _ _=>rfl)) h8))) (c6 (pv 8) h8)))) (i7 (m6 J8)) r9)))
  (p6 (P7 PassesOwn.never rfl (Z3 true false K rfl rfl T.zip (c6 (pv 7) (c6 (i9 t5 (i9 j0 (pv 0) (pv 1) (λ _ _=>rfl)) c7 (λ _ _=>rfl)) h8))) (E6 K (n:=2) rfl rfl (j4 (i8 (i:=10) scMd.nd rfl (Or.inl rfl)) (j4 (i8 (i:=9) scMd.nd rfl (Or.inl rfl)) t8)))
   (i7 (x6 (K9 (j6 Cl.ok hr rfl Cl.m Cl.k Cl.b .nil t6 (c6 (pv 10) (c6 (j6 Co.ok hr rfl Co.m Co.k Co.b .nil t6 (c6 (j3 y6 (pv 9) (i9 t5 (pv 5) c7 (λ _ _=>rfl))) (c6 (i9 t5 (pv 5) c7 (λ _ _=>rfl)) h8))) h8)))) (i7 (m6 J8)) r9)))
  (i7 (m6 J8)))))⟩
theorem a3L {fa fb fc fe:Addr} {da db dc de:FuncData} (F:Fun K "_law_mix_does" "_law_mix_does" T7 f fd) (T:w6 mg) (Ct:SCal P w K mg base n "_law_let" ["book","sizes","mix"] (a5x K) fa da) (Ca:SCal P w K mg base n "_law_amounts" ["book","mix"] (T8 K) fb db)
  (Cl:X7 P w K mg base n "_law_a_less" ["one","other"] (a0e K) fc dc) (Co:X7 P w K mg base n "_law_low" ["top","bottom"] L7 fe de):FnOk P w K mg base G2 (n+1) f fd ["book","number","sizes","mix","takes_by","gives_by"] (a5a K):=by
 refine F.ok scMd (λ vs H Q E h=>?_) (λ cdv A outer s H vs Q E hr h=>?_)
 ·obtain ⟨ba,ml,tv,gv,xs,mvs,hs,ws,D,A,B,A',B',z,far,kt,kg,i,h,rfl,_⟩:=h
  rfl
 obtain ⟨ba,ml,tv,gv,xs,mvs,hs,ws,D,A1,B1,A2,B2,z,far,kt,kg,i,h,rfl,hz,hS,hBk,hM,hF,l100,h16,hwB,hD,hD2,hG,hfar,hkt,hkg,hh,htv,hB,hB2,hA,hgv,gB,gB2,gA,q⟩:=h;refine ⟨_,(mdX T Ct Ca Cl Co hr).2,?_⟩;have xl:xs.length=hs.length:=Paired.length hBk;have hil:i<hs.length:=(List.getElem?_eq_some_iff.mp hh).1;have gh:=hG h (List.mem_of_getElem? hh);obtain ⟨a1,t1,g1,ha1,p1,p2,p3⟩:∃ a t g,xs[i]?=some (V.ref a)/\SqT K H a [.ref t,.ref g]/\SqT K H t (h.1.map V.int)/\SqT K H g (h.2.map V.int):=by
  have hx:xs[i]?=some xs[i]:=List.getElem?_eq_getElem (by lia);obtain ⟨h',hh',⟨a,t,g,e0,e1,e2,e3⟩⟩:=Paired.at hBk hx;rw [hh] at hh'
  cases hh';exact ⟨a,t,g,by rw [hx,e0],e1,e2,e3⟩
 obtain ⟨ta,rfl,hta⟩:=htv;obtain ⟨ga,rfl,hga⟩:=hgv;refine ⟨λ σ' H'=>σ'=[some (.ref ba),some (.int i),some (.str z),some (.ref ml),some (.ref ta),some (.ref ga),none,none,none,none,none]/\Same H H'/\a9N z hs.length ws D,?_,?_⟩
 ·refine ⟨_,rfl,_,rfl,_,rfl,ba,ml,xs,mvs,ws,D,z,rfl,hz,hS,hM,hF,l100,hwB,hD,hD2,λ b H' e hb=>?_⟩
  rw [xl] at hb
  cases b with
  | true=>exact ⟨_,rfl,a0t ⟨rfl,e,hb.mp rfl⟩⟩
  | false=>exact ⟨_,rfl,a3A (q _ _ e ⟨λ z=>absurd z (by decide),λ z=>absurd (hb.mpr z.m) (by decide)⟩)⟩
 intro σ1 H1 hM_; refine A4 λ G_ hG_=>?_; obtain ⟨rfl,e1,mp⟩:=hM_; subst hG_;have hlw:ws.length=hs.length:=mp.1;refine ⟨λ σ' H'=>∃ (tl gl:Addr),σ'=[some (.ref ba),some (.int i),some (.str z),some (.ref ml),some (.ref ta),some (.ref ga),some (.ref tl),some (.ref gl),none,none,none]/\Same H H'/\SideOk H' hs ws D 0 kt tl/\SideOk H' hs ws D 1 kg gl,?_,?_⟩
 ·refine ⟨_,rfl,_,rfl,ba,ml,xs,mvs,hs,ws,D,far,kt,kg,rfl,e1.seq hS,hBk.same e1,by lia,e1.seq hM,hF.same e1,by lia,hwB,hD,hD2,hlw,hG,Int.lt_of_le_of_lt hfar (by decide),hkt,hkg,λ r tl gl H2 e2 hr2 s1 s2=>?_⟩
  exact ⟨r,_,rfl,SqL.of hr2,rfl,_,_,rfl,_,_,rfl,rfl,tl,gl,rfl,e1.trans e2,s1,s2⟩
 intro σ2 H2 hM_; refine A4 λ G_ hG_=>?_; obtain ⟨tl,gl,rfl,e2,sT,sG⟩:=hM_; subst hG_;have bD:Big 1000000 D:=(B9 (n:=8000) (Int.le_of_lt hD) hD2).mono (by decide);have lowB:∀ {x E:Int},0<E->E<2 ^ 8000->Big 30000 x->Big 1000000 (t7 x E).1/\Big 1000000 (t7 x E).2:=λ {x E} h1 h2 h3 =>
  ⟨(L9 h1 h3).mono (by decide),(B9 (n:=8000) (Int.le_of_lt (A9 h1)) (Int.lt_of_le_of_lt (N7 h1) h2)).mono (by decide)⟩
 refine ⟨λ σ' H'=>∃ o8 o9:Option V,σ'=[some (.ref ba),some (.int i),some (.str z),some (.ref ml),some (.ref ta),some (.ref ga),some (.ref tl),some (.ref gl),o8,o9,none]/\Same H2 H'/\∀ j,j<kt->K6 hs ws 0 j*(t7 A1 B1).2<=h.1.getD j 0*(t7 A1 B1).1*D,?_,?_⟩
 ·obtain ⟨ys,y1,y2,y3⟩:=sT
  refine ⟨_,rfl,_,rfl,_,rfl,ba,_,_,_,rfl,rfl,e2.seq hS,r6 ha1,a1,_,0,_,rfl,rfl,e2.tseq p1,D5 _ _,tl,t1,rfl,⟨_,SqL.of y1⟩,⟨_,e2.tseq p2⟩,?_⟩;refine a5p (xs:=ys) (ys:=h.1.map V.int) (i1:=8) (i2:=9) (λ j σ H'=>∃ o8 o9:Option V,σ=[some (.ref ba),some (.int i),some (.str z),some (.ref ml),some (.ref ta),some (.ref ga),some (.ref tl),some (.ref gl),o8,o9,none]/\Same H2 H'/\∀ j',j'<j->K6 hs ws 0 j'*(t7 A1 B1).2<=h.1.getD j' 0*(t7 A1 B1).1*D)
   ⟨_,_,rfl,Same.refl _,λ j' h=>absurd h (Nat.not_lt_zero _)⟩ (λ j σ H' ⟨_,_,_,e,_⟩=>⟨SqL.of (e _ _ y1),e.tseq (e2.tseq p2)⟩) ?_ ?_
  ·rintro j x y σ H3 qq hx hy ⟨o8,o9,rfl,e3,bef⟩ hqq
   obtain ⟨yy,rfl,hym⟩:=I0 hy;have hjt:j<h.1.length:=by have:=(List.getElem?_eq_some_iff.mp hy).1; simpa using this
   have hyj:h.1.getD j 0=yy:=by
    rw [List.getElem?_map] at hy;rw [List.getD_eq_getElem?_getD]
    cases q1:h.1[j]? with
    | none=>rw [q1] at hy; cases hy
    | some v=>rw [q1] at hy; cases hy; rfl
   have s3:=Same.new hqq (.tup [x,.int yy]);have e23:=e3.trans s3;have hxf:=(y3 j x hx).same e23;have hta3:=(e2.trans e23).tseq hta;have byy:Big 100 yy:=M9 gh hfar 0 yy hym;have bA':Big 20000 (t7 A1 B1).1:=L9 hB hA;refine ⟨_,rfl,_,rfl,ta,_,0,_,rfl,rfl,hta3,D5 _ _,_,_,rfl,rfl,⟨byy.mono (by decide),bA'.mono (by decide)⟩,_,rfl,ta,_,1,_,rfl,rfl,hta3,E8 _ _,yy*(t7 A1 B1).1,(t7 A1 B1).2,rfl,A9 hB,Int.lt_of_le_of_lt (N7 hB) hB2,λ v H4 e4 hv=>?_⟩;have hxf4:=hxf.same e4;obtain ⟨b1,b2⟩:=lowB (x:=yy*(t7 A1 B1).1) (E:=(t7 A1 B1).2) (A9 hB) (Int.lt_of_le_of_lt (N7 hB) hB2) ((byy.mul bA').mono (by decide));obtain ⟨b3,b4⟩:=lowB (x:=K6 hs ws 0 j) hD hD2 ((a4n hG hfar hwB h16 0 j).mono (by decide));refine ⟨_,rfl,v,x,_,_,rfl,hv.v,hxf4.v,⟨b1,b2,b3,b4⟩,_,rfl,?_⟩;refine w8 (λ c=>?_) (λ c=>?_)
   ·refine q _ _ (e2.trans (e23.trans e4)) ⟨λ z=>absurd z (by decide),λ z=>?_⟩
    have h1:=(D7 (A9 hB) hD).mp (of_decide_eq_true c);have h0:=z.t j (by rw [<- gh.lt]; exact hjt);rw [hyj] at h0;exact absurd (show K6 hs ws 0 j*(t7 A1 B1).2<=yy*(t7 A1 B1).1*D from h0) (Int.not_le.mpr h1)
   ·refine ⟨_,_,rfl,e23.trans e4,λ j' hj'=>?_⟩
    by_cases h0:j'<j
    ·exact bef j' h0
    ·have hjj:j'=j:=by omega
     subst hjj;rw [hyj];exact Int.not_lt.mp λ h1=>c (decide_eq_true ((D7 (A9 hB) hD).mpr h1))
  ·intro σ H3 hM_; refine A4 λ G_ hG_=>?_; obtain ⟨o8,o9,rfl,e3,all⟩:=hM_; subst hG_
   refine ⟨o8,o9,rfl,e3,λ j hj=>all j ?_⟩;have:=gh.lt;rw [List.length_map];omega
 intro σ3 H3 hM_; refine A4 λ G_ hG_=>?_; obtain ⟨o8,o9,rfl,e3,allT⟩:=hM_; subst hG_;have e03:=e2.trans e3;refine ⟨λ σ' H'=>Same H3 H'/\∀ j,j<kg->h.2.getD j 0*(t7 A2 B2).1*D<=K6 hs ws 1 j*(t7 A2 B2).2,?_,?_⟩
 ·obtain ⟨ys,y1,y2,y3⟩:=sG.same e3
  refine ⟨_,rfl,_,rfl,_,rfl,ba,_,_,_,rfl,rfl,e03.seq hS,r6 ha1,a1,_,1,_,rfl,rfl,e03.tseq p1,E8 _ _,gl,g1,rfl,⟨_,SqL.of y1⟩,⟨_,e03.tseq p3⟩,?_⟩;refine a5p (xs:=ys) (ys:=h.2.map V.int) (i1:=10) (i2:=9) (λ j σ H'=>∃ o8 o9 o10:Option V,σ=[some (.ref ba),some (.int i),some (.str z),some (.ref ml),some (.ref ta),some (.ref ga),some (.ref tl),some (.ref gl),o8,o9,o10]/\Same H3 H'/\∀ j',j'<j->h.2.getD j' 0*(t7 A2 B2).1*D<=K6 hs ws 1 j'*(t7 A2 B2).2)
   ⟨_,_,_,rfl,Same.refl _,λ j' h=>absurd h (Nat.not_lt_zero _)⟩ (λ j σ H' ⟨_,_,_,_,e,_⟩=>⟨SqL.of (e _ _ y1),e.tseq (e03.tseq p3)⟩) ?_ ?_
  ·rintro j x y σ H4 qq hx hy ⟨o8',o9',o10',rfl,e4,bef⟩ hqq
   obtain ⟨yy,rfl,hym⟩:=I0 hy;have hjt:j<h.2.length:=by have:=(List.getElem?_eq_some_iff.mp hy).1; simpa using this
   have hyj:h.2.getD j 0=yy:=by
    rw [List.getElem?_map] at hy;rw [List.getD_eq_getElem?_getD]
    cases q1:h.2[j]? with
    | none=>rw [q1] at hy; cases hy
    | some v=>rw [q1] at hy; cases hy; rfl
   have s4:=Same.new hqq (.tup [x,.int yy]);have e34:=e4.trans s4;have hxf:=(y3 j x hx).same e34;have hga4:=(e03.trans e34).tseq hga;have byy:Big 100 yy:=M9 gh hfar 1 yy hym;have bA':Big 20000 (t7 A2 B2).1:=L9 gB gA;refine ⟨_,rfl,_,rfl,_,rfl,ga,_,0,_,rfl,rfl,hga4,D5 _ _,_,_,rfl,rfl,⟨byy.mono (by decide),bA'.mono (by decide)⟩,_,rfl,ga,_,1,_,rfl,rfl,hga4,E8 _ _,yy*(t7 A2 B2).1,(t7 A2 B2).2,rfl,A9 gB,Int.lt_of_le_of_lt (N7 gB) gB2,λ v H5 e5 hv=>?_⟩;have hxf5:=hxf.same e5;obtain ⟨b1,b2⟩:=lowB (x:=yy*(t7 A2 B2).1) (E:=(t7 A2 B2).2) (A9 gB) (Int.lt_of_le_of_lt (N7 gB) gB2) ((byy.mul bA').mono (by decide));obtain ⟨b3,b4⟩:=lowB (x:=K6 hs ws 1 j) hD hD2 ((a4n hG hfar hwB h16 1 j).mono (by decide));refine ⟨x,v,_,_,rfl,hxf5.v,hv.v,⟨b3,b4,b1,b2⟩,_,rfl,?_⟩;refine w8 (λ c=>?_) (λ c=>?_)
   ·refine q _ _ (e03.trans (e34.trans e5)) ⟨λ z=>absurd z (by decide),λ z=>?_⟩
    have h1:=(D7 hD (A9 gB)).mp (of_decide_eq_true c);have h0:=z.g j (by rw [<- gh.lg]; exact hjt);rw [hyj] at h0;exact absurd (show yy*(t7 A2 B2).1*D<=K6 hs ws 1 j*(t7 A2 B2).2 from h0) (Int.not_le.mpr h1)
   ·refine ⟨_,_,_,rfl,e34.trans e5,λ j' hj'=>?_⟩
    by_cases h0:j'<j
    ·exact bef j' h0
    ·have hjj:j'=j:=by omega
     subst hjj;rw [hyj];exact Int.not_lt.mp λ h1=>c (decide_eq_true ((D7 hD (A9 gB)).mpr h1))
  ·intro σ H4 hM_; refine A4 λ G_ hG_=>?_; obtain ⟨o8',o9',o10',rfl,e4,all⟩:=hM_; subst hG_
   refine ⟨e4,λ j hj=>all j ?_⟩;have:=gh.lg;rw [List.length_map];omega
 intro σ4 H4 ⟨e4,allG⟩;exact q _ H4 (e03.trans e4) ⟨λ _=>⟨mp,allT,allG⟩,λ _=>rfl⟩
end
section
variable {P:Program} {w:World} {K:W.Frag} {mg:Str->Option Value} {base:Heap} {f:Addr} {fd:FuncData} {n:Nat}
def a0D (K:W.Frag):Sp:=λ vs H Q _=>∃ (hv:V) (t:Addr) (h:j5) (pt pg:List Int) (ps D far:Int) (kt kg:Nat),vs=[hv,.ref t]/\HS K H hv h/\HG far kt kg h/\far<=2 ^ 60/\kt<=20/\kg<=20/\PrA H t pt pg ps D/\PrB pt pg ps D/\pt.length=kt/\pg.length=kg ∧
 ∀ (v:V) (H':Hp),Same H H'->FrT H' v (t7 (D0 h pg ps - N8 h pt) D)->Big 1000000 (t7 (D0 h pg ps - N8 h pt) D).1->Big 1000000 (t7 (D0 h pg ps - N8 h pt) D).2->Q v H'
theorem a8G {fa fb:Addr} {da db:FuncData} (F:Fun K "_law_left" "_law_left" a8g f fd) (T:w6 mg) (Cs:SCal P w K mg base n "_law_sum" ["numbers","parts"] (a0V K) fa da) (Co:X7 P w K mg base n "_law_low" ["top","bottom"] L7 fb db) :
  FnOk P w K mg base G2 (n+1) f fd ["house","prices"] (a0D K):=by
 refine F.ok scLeft (λ vs H Q E h=>?_) (λ cdv A outer s H vs Q E hr h=>?_)
 ·obtain ⟨hv,t,h,pt,pg,ps,D,far,kt,kg,rfl,_⟩:=h
  rfl
 obtain ⟨hv,t,h,pt,pg,ps,D,far,kt,kg,rfl,hHS,gh,hfar,hkt,hkg,hPr,hN,nlt,nlg,q⟩:=h;refine ⟨_,i4 (m9 (i:=2) scLeft.nd rfl (Or.inl rfl) (j6 Cs.ok hr rfl Cs.m Cs.k Cs.b .nil t6 (c6 (j3 G4 (x9 C6 rfl T.list PyProof.Rows.boot_list (c6 (i9 t5 (pv 0) c7 (λ _ _=>rfl)) h8)) (x8 (c6 c7 h8)))
   (c6 (j3 G4 (i9 t5 (pv 1) c7 (λ _ _=>rfl)) (x8 (c6 (i9 t5 (pv 1) c7 (λ _ _=>rfl)) h8))) h8))))
  (i4 (m9 (i:=3) scLeft.nd rfl (Or.inl rfl) (j6 Cs.ok hr rfl Cs.m Cs.k Cs.b .nil t6 (c6 (i9 t5 (pv 0) c7 (λ _ _=>rfl)) (c6 (i9 t5 (pv 1) c7 (λ _ _=>rfl)) h8))))
  (i7 (m6 (j6 Co.ok hr rfl Co.m Co.k Co.b .nil t6 (c6 (j3 W7 (j3 y6 (i9 t5 (pv 2) c7 (λ _ _=>rfl)) (i9 t5 (pv 3) c7 (λ _ _=>rfl))) (j3 y6 (i9 t5 (pv 3) c7 (λ _ _=>rfl)) (i9 t5 (pv 2) c7 (λ _ _=>rfl))))
   (c6 (j3 y6 (i9 t5 (pv 2) c7 (λ _ _=>rfl)) (i9 t5 (pv 3) c7 (λ _ _=>rfl))) h8)))))),?_⟩
 obtain ⟨a,ta,ga,rfl,p1,p2,p3⟩:=id hHS;obtain ⟨fl,gl,u,fts,gts,h1,h2,h3,h4,h5,h6⟩:=id hPr;have D8:D<2 ^ 8000:=Int.lt_trans hN.d2 (by exact_mod_cast Nat.pow_lt_pow_right (show 1<2 by decide) (show 4000<8000 by decide));have s1k:=j8 (show (1000:Nat)<=1000 from Nat.le_refl _);have l2:(h.2.map V.int).length=kg:=by rw [List.length_map]; exact gh.lg
 have lgt:gts.length=kg:=by rw [h5.1,nlg]
 refine ⟨_,rfl,a,_,1,_,rfl,rfl,p1,E8 _ _,ga,_,rfl,.inr p3,λ a1 k1=>?_⟩;have s1:=Same.new k1 (.lst (h.2.map V.int));refine ⟨(by show 1<=sizeLine; decide),λ a2 k2=>?_⟩;have s2:=s1.trans (Same.new k2 (.lst [.int 1]));have n12:a1≠a2:=i6 upd_same k2;refine ⟨a1,a2,_,_,rfl,rfl,(by rw [i5 n12]; exact upd_same),upd_same,by rw [l2]; simp; lia,λ a3 k3=>?_⟩;have s3:=s2.trans (Same.new k3 (.lst (h.2.map V.int++[.int 1])));refine ⟨_,rfl,t,_,1,_,rfl,rfl,SqT.of (s3 _ _ h1),a1H _ _ _,_,rfl,t,_,2,_,rfl,rfl,SqT.of (s3 _ _ h1),a2O _ _ _,(by show 1<=sizeLine; decide),λ a4 k4=>?_⟩;have s4:=s3.trans (Same.new k4 (.lst [u]));refine ⟨gl,a4,_,_,rfl,rfl,s4 _ _ h4,upd_same,by rw [lgt]; simp; lia,λ a5 k5=>?_⟩;have s5:=s4.trans (Same.new k5 (.lst (gts++[u])));have c3:(upd (upd (upd (upd (upd H a1 (.lst (h.2.map V.int))) a2 (.lst [.int 1])) a3 (.lst (h.2.map V.int++[.int 1]))) a4 (.lst [u])) a5 (.lst (gts++[u]))) a3=some (.lst ((h.2++[1]).map V.int)):=by
  rw [((Same.new k4 (.lst [u])).trans (Same.new k5 (.lst (gts++[u])))) a3 _ upd_same,List.map_append]; rfl
 have bh2:∀ x∈h.2++[1],Big 100 x:=λ x hx=>by
  rcases List.mem_append.mp hx with hx | hx
  ·exact M9 gh hfar 1 x hx
  ·rw [List.mem_singleton.mp hx]; exact B9 (n:=100) (by decide) (by decide)
 have bpg:∀ x∈pg++[ps],Big 5001 x:=λ x hx=>by
  rcases List.mem_append.mp hx with hx | hx
  ·exact (hN.bg x hx).mono (by decide)
  ·rw [List.mem_singleton.mp hx]; exact hN.bs.mono (by decide)
 refine ⟨a3,a5,h.2++[1],gts++[u],pg++[ps],D,rfl,.inl (SqL.of c3),SqL.of upd_same,((h5.snoc h6).same s5).v,by simp [gh.lg,nlg],by simp [gh.lg]; lia,bh2,λ x hx=>(bpg x hx).mono (by decide),hN.d,D8,λ v1 H1 e1 hv1=>?_⟩;have eG:(List.zipWith (·*·) (h.2++[1]) (pg++[ps])).sum=D0 h pg ps:=by
  rw [a1u (by rw [gh.lg,nlg]),Int.one_mul]; rfl
 have bG:Big 30000 (D0 h pg ps):=by rw [<- eG]; exact a8M (far:=0) (m:=0) (k:=0) bh2 bpg (by simp [gh.lg]; lia)
 rw [eG] at hv1;have e01:=s5.trans e1;refine ⟨_,rfl,a,_,0,_,rfl,rfl,e01.tseq p1,D5 _ _,_,rfl,t,_,0,_,rfl,rfl,SqT.of (e01 _ _ h1),a2b _ _ _,?_⟩;have bh1:∀ x∈h.1,Big 100 x:=M9 gh hfar 0;refine ⟨ta,fl,h.1,fts,pt,D,rfl,.inr (e01.tseq p2),SqL.of (e01 _ _ h2),(h3.same e01).v,by rw [gh.lt,nlt],by rw [gh.lt]; lia,bh1,λ x hx=>(hN.bt x hx).mono (by decide),hN.d,D8,λ v2 H2 e2 hv2=>?_⟩;have bP:Big 30000 (N8 h pt):=a8M (far:=0) (m:=0) (k:=0) bh1 (λ x hx=>(hN.bt x hx).mono (by decide)) (by rw [gh.lt]; lia);have hv1':=hv1.same e2;obtain ⟨w1,rfl,q1⟩:=hv1';obtain ⟨w2,rfl,q2⟩:=hv2;have up:∀ {x},Big 30000 x->Big 1000000 x:=λ h=>h.mono (by decide);have bD:∀ x:Int,Big 8000 (t7 x D).2:=λ x=>B9 (Int.le_of_lt (A9 hN.d)) (Int.lt_of_le_of_lt (N7 hN.d) D8);have g1:=L9 hN.d bG;have g2:=L9 hN.d bP;refine ⟨_,rfl,w1,_,0,_,rfl,rfl,SqT.of q1,D5 _ _,_,rfl,w2,_,1,_,rfl,rfl,SqT.of q2,E8 _ _,_,_,rfl,rfl,⟨up g1,(bD _).mono (by decide)⟩,_,rfl,w2,_,0,_,rfl,rfl,SqT.of q2,D5 _ _,_,rfl,w1,_,1,_,rfl,rfl,SqT.of q1,E8 _ _,_,_,rfl,rfl,⟨up g2,(bD _).mono (by decide)⟩,_,_,rfl,rfl,?_⟩;refine ⟨_,rfl,w1,_,1,_,rfl,rfl,SqT.of q1,E8 _ _,_,rfl,w2,_,1,_,rfl,rfl,SqT.of q2,E8 _ _,_,_,rfl,rfl,⟨(bD _).mono (by decide),(bD _).mono (by decide)⟩,?_⟩;have hb1:=A9 (t:=D0 h pg ps) hN.d;have hb2:=A9 (t:=N8 h pt) hN.d;have hBB:(t7 (D0 h pg ps) D).2*(t7 (N8 h pt) D).2<2 ^ 8000:=by
  have x1:=N7 (t:=D0 h pg ps) hN.d;have x2:=N7 (t:=N8 h pt) hN.d;have x3:(t7 (D0 h pg ps) D).2*(t7 (N8 h pt) D).2<=D*D:=Int.mul_le_mul x1 x2 (Int.le_of_lt hb2) (Int.le_of_lt hN.d);have x4:D*D<2 ^ 4000*2 ^ 4000:=Int.mul_lt_mul hN.d2 (Int.le_of_lt hN.d2) hN.d (Int.le_of_lt (Int.pow_pos (by decide)));rw [<- Int.pow_add] at x4;exact Int.lt_of_le_of_lt x3 x4
 refine ⟨_,_,rfl,Int.mul_pos hb1 hb2,hBB,λ v H3 e3 hv=>?_⟩;have bT:Big 40000 ((t7 (D0 h pg ps) D).1*(t7 (N8 h pt) D).2 - (t7 (N8 h pt) D).1*(t7 (D0 h pg ps) D).2):=by
  have y1:=(g1.mul (bD (N8 h pt)));have y2:=(g2.mul (bD (D0 h pg ps)));have y3:Big 38000 (-((t7 (N8 h pt) D).1*(t7 (D0 h pg ps) D).2)):=by unfold Big; rw [Int.natAbs_neg]; exact y2
  have:=(Big.add (n:=38000) y1 y3).mono (show 38001<=40000 by decide);rw [Int.sub_eq_add_neg]; exact this
 have eL:t7 ((t7 (D0 h pg ps) D).1*(t7 (N8 h pt) D).2 - (t7 (N8 h pt) D).1*(t7 (D0 h pg ps) D).2) ((t7 (D0 h pg ps) D).2*(t7 (N8 h pt) D).2)=t7 (D0 h pg ps - N8 h pt) D:=by
  refine R3 (Int.mul_pos hb1 hb2) hN.d ?_;have c1:(t7 (D0 h pg ps) D).1*D=D0 h pg ps*(t7 (D0 h pg ps) D).2:=J4 hN.d;have c2:(t7 (N8 h pt) D).1*D=N8 h pt*(t7 (N8 h pt) D).2:=J4 hN.d;generalize (t7 (D0 h pg ps) D).1=a1 at *;generalize (t7 (D0 h pg ps) D).2=a2 at *;generalize (t7 (N8 h pt) D).1=p1 at *;generalize (t7 (N8 h pt) D).2=p2 at *
  calc (a1*p2 - p1*a2)*D=(a1*D)*p2 - (p1*D)*a2:=by rw [Int.sub_mul]; congr 1 <;> ac_rfl
   _=D0 h pg ps*a2*p2 - N8 h pt*p2*a2:=by rw [c1,c2]
   _=(D0 h pg ps - N8 h pt)*(a2*p2):=by rw [Int.sub_mul]; congr 1 <;> ac_rfl
 have w1:Big 1000000 (t7 ((t7 (D0 h pg ps) D).1*(t7 (N8 h pt) D).2 - (t7 (N8 h pt) D).1*(t7 (D0 h pg ps) D).2) ((t7 (D0 h pg ps) D).2*(t7 (N8 h pt) D).2)).1:=(L9 (Int.mul_pos hb1 hb2) bT).mono (by decide);have w2:Big 1000000 (t7 ((t7 (D0 h pg ps) D).1*(t7 (N8 h pt) D).2 - (t7 (N8 h pt) D).1*(t7 (D0 h pg ps) D).2) ((t7 (D0 h pg ps) D).2*(t7 (N8 h pt) D).2)).2:=(B9 (n:=8000) (Int.le_of_lt (A9 (Int.mul_pos hb1 hb2))) (Int.lt_of_le_of_lt (N7 (Int.mul_pos hb1 hb2)) hBB)).mono (by decide);rw [eL] at w1 w2;refine q v H3 (e01.trans (e2.trans e3)) ?_ w1 w2;rw [<- eL]; exact hv
def a7u (K:W.Frag):Sp:=λ vs H Q _=>∃ (ba t:Addr) (xs:List V) (hs:List j5) (pt pg:List Int) (ps D far:Int) (kt kg:Nat) (z:Str),vs=[.ref ba,.str z,.ref t]/\Szw z/\SqL K H ba xs/\Bk K H xs hs/\1<=hs.length/\hs.length<=16/\(∀ h∈hs,HG far kt kg h)/\far<=2 ^ 60/\kt<=20/\kg<=20 ∧
 PrA H t pt pg ps D/\PrB pt pg ps D/\∀ (b:Bool) (H':Hp),Same H H'->(b=true ↔ ArP z kt kg pt pg ps/\∀ h∈hs,D0 h pg ps<=N8 h pt)->Q (.bl b) H'
theorem a0m {x D:Int} (hD:0<D):0<(t7 x D).1 ↔ 0<x:=by
 have l1:=D7 (a:=0) (b:=x) (D:=1) (E:=D) (by decide) hD;rw [show t7 0 1=(0,1) by decide] at l1;simp only [Int.mul_one,Int.zero_mul] at l1;exact l1
theorem a0W {z:Str} (hz:Szw z):inV (.str z) [.str "any",.str "less"]=true ↔ z="any"\/z="less":=by
 rcases hz with rfl | rfl | rfl | rfl <;> decide +kernel
theorem a1c {z:Str} (hz:Szw z):inV (.str z) [.str "any",.str "more"]=true ↔ z="any"\/z="more":=by
 rcases hz with rfl | rfl | rfl | rfl <;> decide +kernel
noncomputable def apX {cdv:Value} {A:Around} {outer:List Env} {s:Shared} {H:Hp} {E:XK} {fa fb:Addr} {da db:FuncData} (T:w6 mg) (Cf:SCal P w K mg base n "_law_left" ["house","prices"] (a0D K) fa da) (Cl:X7 P w K mg base n "_law_a_less" ["one","other"] (a0e K) fb db)
  (hr:Room n (A.deeper (PyProof.Rows.envOfC "_law_are_prices" (i3 O3) s.heap.objs.size f cdv))) :
  { t:TS // PSs (G9 G2 P w K mg base ["book","sizes","prices"] "_law_are_prices" (i3 O3) f cdv A outer s H E).nox (t9 O3) t } :=
 ⟨_,p6 (x6 (PW.pt (a1O (p7 a0z (j9 j7 rfl T.len PySem.boot_len (c6 (i9 t5 (pv 2) c7 (λ _ _=>rfl)) h8)) (j9 j7 rfl T.len PySem.boot_len (c6 (i9 t5 (i9 j0 (pv 0) c7 (λ _ _=>rfl)) c7 (λ _ _=>rfl)) h8)) (m8 _))
   (a0f (p7 a0z (j9 j7 rfl T.len PySem.boot_len (c6 (i9 t5 (pv 2) c7 (λ _ _=>rfl)) h8)) (j9 j7 rfl T.len PySem.boot_len (c6 (i9 t5 (i9 j0 (pv 0) c7 (λ _ _=>rfl)) c7 (λ _ _=>rfl)) h8)) (m8 _))))) (i7 (m6 J8)) r9)
  (p6 (x6 (p7 (Z8 hr) (a3C ["price"] [] rfl (A5 (j3 G4 (i9 t5 (pv 2) c7 (λ _ _=>rfl)) (i9 t5 (pv 2) c7 (λ _ _=>rfl)))) (λ _ _ _ _=>i8 (i:=0) b2F rfl (Or.inl rfl)) (λ _ _ _ _=>p7 Q0 (i9 (X3 K rfl) (pv 0) c7 (λ _ _=>rfl)) c7 (m8 _)) (λ _ _ _ _=>pv 0)) (x8 h8) (m8 _)) (i7 (m6 J8)) r9)
  (p6 (x6 (PW.pt (W5 (p7 Y8 (pv 1) (w4 (c6 D3 (c6 D3 h8))) rfl) (S4 (p7 V8 (i9 t5 (i9 t5 (pv 2) c7 (λ _ _=>rfl)) c7 (λ _ _=>rfl)) c7 (m8 _))))) (i7 (m6 J8)) r9)
  (p6 (x6 (PW.pt (W5 (p7 Y8 (pv 1) (w4 (c6 D3 (c6 D3 h8))) rfl) (S4 (p7 Q0 (i9 t5 (i9 t5 (pv 2) c7 (λ _ _=>rfl)) c7 (λ _ _=>rfl)) c7 (m8 _))))) (i7 (m6 J8)) r9)
  (i7 (m6 (C2 (a8t hr) (a3C ["house"] [2] rfl (A5 (pv 0)) (λ _ _ _ _=>i8 (i:=0) b2A rfl (Or.inl rfl))
   (λ _ _ _ _=>K9 (j6 Cl.ok hr rfl Cl.m Cl.k Cl.b .nil t6 (c6 (w4 (c6 c7 (c6 c7 h8))) (c6 (j6 Cf.ok hr rfl Cf.m Cf.k Cf.b .nil t6 (c6 (pv 0) (c6 (pv 1) h8))) h8)))) (λ _ _ _ _=>pv 0)) (x8 h8) (m8 _)))))))⟩
theorem b0c {fa fb:Addr} {da db:FuncData} (F:Fun K "_law_are_prices" "_law_are_prices" O3 f fd) (T:w6 mg) (Cf:SCal P w K mg base n "_law_left" ["house","prices"] (a0D K) fa da) (Cl:X7 P w K mg base n "_law_a_less" ["one","other"] (a0e K) fb db) :
  FnOk P w K mg base G2 (n+1) f fd ["book","sizes","prices"] (a7u K):=by
 refine F.ok b5d (λ vs H Q E h=>?_) (λ cdv A outer s H vs Q E hr h=>?_)
 ·obtain ⟨ba,t,xs,hs,pt,pg,ps,D,far,kt,kg,z,rfl,_⟩:=h
  rfl
 obtain ⟨ba,t,xs,hs,pt,pg,ps,D,far,kt,kg,z,rfl,hz,hS,hBk,h1',h16,hG,hfar,hkt,hkg,hPr,hN,q⟩:=h;refine ⟨_,(apX T Cf Cl hr).2,?_⟩;have xl:xs.length=hs.length:=Paired.length hBk;obtain ⟨fl,gl,u,fts,gts,h1,h2,h3,h4,h5,h6⟩:=id hPr;have lft:=h3.1;have lgt:=h5.1;have b1:=hN.lt;have b2:=hN.lg;have s1k:=j8 (show (1000:Nat)<=1000 from Nat.le_refl _);have h0v:0<xs.length:=by lia
 obtain ⟨h0,hh0,⟨a0,t0,g0,ha0,hp0,ht0,hg0⟩⟩:=Paired.at hBk (List.getElem?_eq_getElem h0v);have g0':=hG h0 (List.mem_of_getElem? hh0);have at0:M2 xs 0=some (.ref a0):=by
  rw [<- ha0];exact r6 (j:=0) (List.getElem?_eq_getElem h0v)
 have lt0:(h0.1.map V.int).length=kt:=by rw [List.length_map]; exact g0'.lt
 have lg0:(h0.2.map V.int).length=kg:=by rw [List.length_map]; exact g0'.lg
 refine ⟨λ σ' H'=>σ'=[some (.ref ba),some (.str z),some (.ref t)]/\H'=H/\pt.length=kt/\pg.length=kg,?_,?_⟩
 ·refine ⟨_,rfl,t,_,0,_,rfl,rfl,SqT.of h1,a2b _ _ _,fl,_,rfl,.inl (SqL.of h2),_,rfl,ba,_,0,_,rfl,rfl,hS,at0,a0,_,0,_,rfl,rfl,hp0,D5 _ _,t0,_,rfl,.inr ht0,rfl,_,rfl,?_⟩
  refine w8 (λ c=>a3A (q _ _ (Same.refl _) ⟨λ z=>absurd z (by decide),λ z=>?_⟩)) (λ c=>?_)
  ·rw [lft,lt0,z.1.lt] at c
   simp at c
  have et:pt.length=kt:=by
   have:V.int (fts.length:Int)=V.int ((h0.1.map V.int).length:Int):=by simpa using c
   have:=V.int.inj this;omega
  refine ⟨_,rfl,t,_,1,_,rfl,rfl,SqT.of h1,a1H _ _ _,gl,_,rfl,.inl (SqL.of h4),_,rfl,ba,_,0,_,rfl,rfl,hS,at0,a0,_,1,_,rfl,rfl,hp0,E8 _ _,g0,_,rfl,.inr hg0,rfl,_,rfl,?_⟩;refine w8 (λ c=>q _ _ (Same.refl _) ⟨λ z=>absurd z (by decide),λ z=>?_⟩) (λ c=>⟨rfl,rfl,et,?_⟩)
  ·rw [lgt,lg0,z.1.lg] at c
   simp at c
  have:V.int (gts.length:Int)=V.int ((h0.2.map V.int).length:Int):=by simpa using c
  have:=V.int.inj this;omega
 intro σ1 H1 hM_; refine A4 λ G_ hG_=>?_; obtain ⟨rfl,rfl,et,eg⟩:=hM_; subst hG_;have hFF:=h3.cat h5;refine ⟨λ σ' H'=>σ'=[some (.ref ba),some (.str z),some (.ref t)]/\Same H1 H'/\∀ x∈pt++pg,0<=x,?_,?_⟩
 ·refine ⟨_,rfl,t,_,0,_,rfl,rfl,SqT.of h1,a2b _ _ _,_,rfl,t,_,1,_,rfl,rfl,SqT.of h1,a1H _ _ _,fl,gl,_,_,rfl,rfl,h2,h4,by lia,λ a1 k1=>?_⟩
  have s1:=Same.new k1 (.lst (fts++gts));have ll:(fts++gts).length=(pt++pg).length:=hFF.1;refine ⟨a1,rfl,⟨_,SqL.of upd_same⟩,λ p hp=>?_⟩;refine Y0 (v6 (SqL.of upd_same)) hp (by rw [List.length_append]; lia) (λ i=>decide ((pt++pg).getD i 0<0)) (λ i x H' ys N' hx e hp' hN'=>?_) (λ ys H5 e5 hp5 hn5 hs5 hmem=>?_)
  ·obtain ⟨b,rfl,hb⟩:=(hFF.2 i x hx).same (s1.trans e)
   refine ⟨_,rfl,b,_,0,_,rfl,rfl,SqT.of hb,D5 _ _,_,_,rfl,rfl,_,rfl,?_⟩;rw [decide_eq_decide.mpr (U2 (x:=(pt++pg).getD i 0) hN.d)]; exact hN' _ (Same.refl _)
  ·refine ⟨(by show 0<=sizeLine; decide),λ ep hep=>?_⟩
   have npe:p≠ep:=i6 hp5 hep;have e6:=s1.trans (e5.trans (Same.new hep (.lst [])));refine a8O (SqL.of (by rw [i5 npe]; exact hp5)) (SqL.of upd_same) (λ y hy=>(hFF.same e6).v.data (hmem y hy)) ⟨_,rfl,w8 (λ c=>?_) (λ c=>⟨rfl,e6,λ x hx=>?_⟩)⟩
   ·refine q _ _ e6 ⟨λ z=>absurd z (by decide),λ z=>?_⟩
    have hn:ys=[]:=hn5 λ i hi=>decide_eq_false (λ hneg=>by
     rcases List.mem_append.mp (M4 (show i<(pt++pg).length by omega)) with hm | hm
     ·exact absurd (z.1.nt _ hm) (by omega)
     ·exact absurd (z.1.ng _ hm) (by omega))
    rw [hn] at c
    cases c
   ·by_cases h0:0<=x
    ·exact h0
    ·exfalso
     obtain ⟨i,hi⟩:=List.getElem?_of_mem hx;have hi':=(List.getElem?_eq_some_iff.mp hi).1;have:=hs5 ⟨i,by omega,decide_eq_true (by rw [List.getD_eq_getElem?_getD,hi]; show x<0; omega)⟩
     cases ys with
     | nil=>exact this rfl
     | cons y r=>exact c rfl
 intro σ2 H2 hM_; refine A4 λ G_ hG_=>?_; obtain ⟨rfl,e2,nn⟩:=hM_; subst hG_;obtain ⟨ua,rfl,hu⟩:=h6;have sgp:0<(t7 ps D).1 ↔ 0<ps:=a0m hN.d;have sgn':=U2 (x:=ps) hN.d;refine ⟨λ σ' H'=>σ'=[some (.ref ba),some (.str z),some (.ref t)]/\Same H1 H'/\((z="any"\/z="less")->ps<=0),?_,?_⟩
 ·refine ⟨_,rfl,(by show 2<=sizeLine; decide),λ tp htp=>?_⟩
  have f5:=Same.new htp (.tup [V.str "any",V.str "less"]);have e5:=e2.trans f5;refine ⟨tp,_,rfl,.inr (SqT.of upd_same),rfl,rfl,_,rfl,?_⟩;refine w8 (λ c=>?_) (λ c=>a0t ⟨rfl,e5,λ h=>absurd ((a0W hz).mpr h) (by simpa using c)⟩);have hz1:=(a0W hz).mp (by simpa using c);refine ⟨_,rfl,t,_,2,_,rfl,rfl,SqT.of (e5 _ _ h1),a2O _ _ _,ua,_,0,_,rfl,rfl,SqT.of (e5 _ _ hu),D5 _ _,_,_,rfl,rfl,_,rfl,?_⟩;refine w8 (λ c2=>q _ _ e5 ⟨λ z=>absurd z (by decide),λ z=>?_⟩) (λ c2=>⟨rfl,e5,λ _=>?_⟩)
  ·have:=sgp.mp (of_decide_eq_true c2)
   have:=z.1.s.1 hz1;omega
  ·have:¬ 0<(t7 ps D).1:=λ h=>c2 (decide_eq_true h)
   omega
 intro σ3 H3 hM_; refine A4 λ G_ hG_=>?_; obtain ⟨rfl,e3,sg1⟩:=hM_; subst hG_;refine ⟨λ σ' H'=>σ'=[some (.ref ba),some (.str z),some (.ref t)]/\Same H1 H'/\((z="any"\/z="more")->0<=ps),?_,?_⟩
 ·refine ⟨_,rfl,(by show 2<=sizeLine; decide),λ tp htp=>?_⟩
  have f5:=Same.new htp (.tup [V.str "any",V.str "more"]);have e5:=e3.trans f5;refine ⟨tp,_,rfl,.inr (SqT.of upd_same),rfl,rfl,_,rfl,?_⟩;refine w8 (λ c=>?_) (λ c=>a0t ⟨rfl,e5,λ h=>absurd ((a1c hz).mpr h) (by simpa using c)⟩);have hz1:=(a1c hz).mp (by simpa using c);refine ⟨_,rfl,t,_,2,_,rfl,rfl,SqT.of (e5 _ _ h1),a2O _ _ _,ua,_,0,_,rfl,rfl,SqT.of (e5 _ _ hu),D5 _ _,_,_,rfl,rfl,_,rfl,?_⟩;refine w8 (λ c2=>q _ _ e5 ⟨λ z=>absurd z (by decide),λ z=>?_⟩) (λ c2=>⟨rfl,e5,λ _=>?_⟩)
  ·have:=sgn'.mp (of_decide_eq_true c2)
   have:=z.1.s.2 hz1;omega
  ·have:¬ (t7 ps D).1<0:=λ h=>c2 (decide_eq_true h)
   omega
 intro σ4 H4 hM_; refine A4 λ G_ hG_=>?_; obtain ⟨rfl,e4,sg2⟩:=hM_; subst hG_;have ar:ArP z kt kg pt pg ps:=⟨et,eg,λ x hx=>nn x (List.mem_append_left _ hx),λ x hx=>nn x (List.mem_append_right _ hx),sg1,sg2⟩;refine ⟨_,rfl,ba,rfl,⟨_,e4.seq hS⟩,λ p hp=>?_⟩;refine Y0 (v6 (e4.seq hS)) hp (by lia) (λ i=>decide (N8 (hs.getD i ([],[])) pt<D0 (hs.getD i ([],[])) pg ps)) (λ i x H' ys N' hx e hp' hN'=>?_) (λ ys H5 e5 hp5 hn5 hs5 hmem=>?_)
 ·obtain ⟨h,hh,hHS⟩:=Paired.at hBk hx
  have e':=e4.trans e;have hm:=List.mem_of_getElem? hh;have hD0:hs.getD i ([],[])=h:=by rw [List.getD_eq_getElem?_getD,hh]; rfl
  refine ⟨(by show 2<=sizeLine; decide),λ zp hzp=>?_⟩;have f7:=Same.new hzp (.tup [V.int 0,V.int 1]);have e7:=e'.trans f7;refine ⟨_,rfl,_,rfl,x,t,h,pt,pg,ps,D,far,kt,kg,rfl,hHS.same e7,hG h hm,hfar,hkt,hkg,PrA.same e7 hPr,hN,et,eg,λ v H8 e8 hv hb1 hb2=>?_⟩;refine ⟨.ref zp,v,(0,1),_,rfl,⟨zp,rfl,SqT.of (e8 _ _ upd_same)⟩,hv.v,⟨by unfold Big; exact Nat.pow_pos (by decide),a8H,hb1,hb2⟩,_,rfl,?_⟩;have nl:decide ((0:Int)*(t7 (D0 h pg ps - N8 h pt) D).2<(t7 (D0 h pg ps - N8 h pt) D).1*1)=decide (N8 (hs.getD i ([],[])) pt<D0 (hs.getD i ([],[])) pg ps):=by
   rw [hD0];refine decide_eq_decide.mpr ?_;rw [Int.zero_mul,Int.mul_one,a0m hN.d];omega
  show N' (decide ((0:Int)*(t7 (D0 h pg ps - N8 h pt) D).2<(t7 (D0 h pg ps - N8 h pt) D).1*1)) H8
  rw [nl];exact hN' H8 (f7.trans e8)
 ·refine ⟨(by show 0<=sizeLine; decide),λ ep hep=>?_⟩
  have npe:p≠ep:=i6 hp5 hep;have e6:=e4.trans (e5.trans (Same.new hep (.lst [])));refine b2M (SqL.of (by rw [i5 npe]; exact hp5)) (SqL.of upd_same) (λ y hy=>?_) (q _ _ e6 ⟨λ c=>⟨ar,λ h hh=>?_⟩,λ z=>?_⟩)
  ·obtain ⟨j,hj⟩:=List.getElem?_of_mem (hmem y hy)
   obtain ⟨h,_,hHS⟩:=Paired.at hBk hj;exact ⟨_,HS.dp (hHS.same e6),a2F h⟩
  ·by_cases h0:D0 h pg ps<=N8 h pt
   ·exact h0
   ·exfalso
    obtain ⟨i,hi⟩:=List.getElem?_of_mem hh;have hi':=(List.getElem?_eq_some_iff.mp hi).1;have:=hs5 ⟨i,by omega,decide_eq_true (by rw [List.getD_eq_getElem?_getD,hi]; show N8 h pt<D0 h pg ps; omega)⟩
    cases ys with
    | nil=>exact this rfl
    | cons y r=>cases c
  ·have hn:ys=[]:=hn5 λ i hi=>decide_eq_false (λ hlt=>by
    have hh:hs[i]?=some (hs[i]'(by omega)):=List.getElem?_eq_getElem (by omega);have:=z.2 _ (List.mem_of_getElem? hh);rw [List.getD_eq_getElem?_getD,hh] at hlt;exact absurd this (Int.not_le.mpr hlt))
   rw [hn]; rfl
end
theorem a5T {t D:Int} (hD:0<D):t7 t D=(0,1) ↔ t=0:=by
 constructor
 ·intro h
  have c:(t7 t D).1*D=t*(t7 t D).2:=J4 hD;rw [h] at c;simp only [Int.zero_mul,Int.mul_one] at c;exact c.symm
 ·rintro rfl
  exact (R3 (t':=0) (b':=1) hD (by decide) (by omega)).trans (by decide)
structure b1T (z:Str) (hs:List j5) (h:j5) (kt kg:Nat) (pt pg:List Int) (ps:Int):Prop where
 a:ArP z kt kg pt pg ps
 p:∀ x∈pt++pg,0<x
 f:∀ g∈hs,D0 g pg ps<=N8 g pt
 e:D0 h pg ps=N8 h pt
def b1E (hs:List j5) (h:j5) (kt kg:Nat) (ws:List Int) (D:Int):Prop:=PyData.eqvAll [a1G hs ws D 0 kt,a1G hs ws D 1 kg] [a4V h.1,a4V h.2]=false
section
variable {P:Program} {w:World} {K:W.Frag} {mg:Str->Option Value} {base:Heap} {f:Addr} {fd:FuncData} {n:Nat}
def a8W (K:W.Frag):Sp:=λ vs H Q _=>∃ (ba t:Addr) (xs:List V) (hs:List j5) (pt pg:List Int) (ps D far:Int) (kt kg i:Nat) (z:Str) (h:j5),vs=[.ref ba,.int i,.str z,.ref t]/\Szw z/\SqL K H ba xs/\Bk K H xs hs/\hs.length<=16/\(∀ h∈hs,HG far kt kg h)/\far<=2 ^ 60/\kt<=20/\kg<=20 ∧
 PrA H t pt pg ps D/\PrB pt pg ps D/\hs[i]?=some h/\∀ (b:Bool) (H':Hp),Same H H'->(b=true ↔ b1T z hs h kt kg pt pg ps)->Q (.bl b) H'
noncomputable def b4R {cdv:Value} {A:Around} {outer:List Env} {s:Shared} {H:Hp} {E:XK} {fa fb:Addr} {da db:FuncData} (T:w6 mg) (Ca:SCal P w K mg base n "_law_are_prices" ["book","sizes","prices"] (a7u K) fa da) (Cf:SCal P w K mg base n "_law_left" ["house","prices"] (a0D K) fb db)
  (hr:Room n (A.deeper (PyProof.Rows.envOfC "_law_stands" (i3 J6) s.heap.objs.size f cdv))) :
  { t:TS // PSs (G9 G2 P w K mg base ["book","number","sizes","prices"] "_law_stands" (i3 J6) f cdv A outer s H E).nox (t9 J6) t } :=
 ⟨_,i4 (x6 (V1 (K9 (j6 Ca.ok hr rfl Ca.m Ca.k Ca.b .nil t6 (c6 (pv 0) (c6 (pv 2) (c6 (pv 3) h8)))))) (i7 (m6 J8)) r9)
  (p6 (x6 (p7 (Z8 hr) (a3C ["price"] [] rfl (A5 (j3 G4 (i9 t5 (pv 3) c7 (λ _ _=>rfl)) (i9 t5 (pv 3) c7 (λ _ _=>rfl)))) (λ _ _ _ _=>i8 (i:=0) b3A rfl (Or.inl rfl)) (λ _ _ _ _=>p7 a2I (i9 (X3 K rfl) (pv 0) c7 (λ _ _=>rfl)) c7 (m8 _)) (λ _ _ _ _=>pv 0)) (x8 h8) (m8 _)) (i7 (m6 J8)) r9)
  (i7 (m6 (C2 (a8t hr) (j6 Cf.ok hr rfl Cf.m Cf.k Cf.b .nil t6 (c6 (i9 j0 (pv 0) (pv 1) (λ _ _=>rfl)) (c6 (pv 3) h8))) (w4 (c6 c7 (c6 c7 h8))) (m8 _)))))⟩
def b0R (K:W.Frag):Sp:=λ vs H Q _=>∃ (ba ml:Addr) (xs mvs:List V) (hs:List j5) (ws:List Int) (D:Int) (z:Str) (far:Int) (kt kg i:Nat) (h:j5),vs=[.ref ba,.int i,.str z,.ref ml]/\Szw z/\SqL K H ba xs/\Bk K H xs hs/\SqL K H ml mvs/\FrsV K H mvs ws D/\ws.length<=100/\hs.length<=16/\(∀ x∈ws,Big 20000 x)/\0<D/\D<2 ^ 8000/\(∀ h∈hs,HG far kt kg h)/\far<=2 ^ 60/\kt<=20/\kg<=20/\hs[i]?=some h ∧
 ∀ (b:Bool) (H':Hp),Same H H'->(b=true ↔ a3Y z hs h kt kg ws D (1,1) (1,1)/\b1E hs h kt kg ws D)->Q (.bl b) H'
noncomputable def b4a {cdv:Value} {A:Around} {outer:List Env} {s:Shared} {H:Hp} {E:XK} {fa fb:Addr} {da db:FuncData} (T:w6 mg) (Cm:SCal P w K mg base n "_law_mix_does" ["book","number","sizes","mix","takes_by","gives_by"] (a5a K) fa da) (Ca:SCal P w K mg base n "_law_amounts" ["book","mix"] (T8 K) fb db)
  (hr:Room n (A.deeper (PyProof.Rows.envOfC "_law_beats" (i3 K4) s.heap.objs.size f cdv))) :
  { t:TS // PSs (G9 G2 P w K mg base ["book","number","sizes","mix","own"] "_law_beats" (i3 K4) f cdv A outer s H E).nox (t9 K4) t } :=
 ⟨_,i4 (x6 (V1 (K9 (j6 Cm.ok hr rfl Cm.m Cm.k Cm.b .nil t6 (c6 (pv 0) (c6 (pv 1) (c6 (pv 2) (c6 (pv 3) (c6 (w4 (c6 c7 (c6 c7 h8))) (c6 (w4 (c6 c7 (c6 c7 h8))) h8))))))))) (i7 (m6 J8)) r9)
  (p6 (S5 (i:=4) ["side"] [] scBts.nd rfl rfl rfl (X4 (i9 j0 (pv 0) (pv 1) (λ _ _=>rfl))) (λ _ _ _ _=>i8 (i:=0) b1H rfl (Or.inl rfl)) (λ _ _ _ _=>J9 ["one"] [] rfl (a5l K rfl (pv 0)) (λ _ _ _ _=>i8 (i:=0) b1Y rfl (Or.inl rfl)) (λ _ _ _ _=>w4 (c6 (pv 0) (c6 c7 h8)))))
  (i7 (m6 (C2 (Z8 hr) (j6 Ca.ok hr rfl Ca.m Ca.k Ca.b .nil t6 (c6 (pv 0) (c6 (pv 3) h8))) (pv 4) (m8 _)))))⟩
theorem a4M {fa fb:Addr} {da db:FuncData} (F:Fun K "_law_stands" "_law_stands" J6 f fd) (T:w6 mg) (Ca:SCal P w K mg base n "_law_are_prices" ["book","sizes","prices"] (a7u K) fa da) (Cf:SCal P w K mg base n "_law_left" ["house","prices"] (a0D K) fb db) :
  FnOk P w K mg base G2 (n+1) f fd ["book","number","sizes","prices"] (a8W K):=by
 refine F.ok b3I (λ vs H Q E h=>?_) (λ cdv A outer s H vs Q E hr h=>?_)
 ·obtain ⟨ba,t,xs,hs,pt,pg,ps,D,far,kt,kg,i,z,h,rfl,_⟩:=h
  rfl
 obtain ⟨ba,t,xs,hs,pt,pg,ps,D,far,kt,kg,i,z,h,rfl,hz,hS,hB,few,hG,hfar,k1,k2,hP,hN,hh,q⟩:=h;refine ⟨_,(b4R T Ca Cf hr).2,?_⟩;have ne:1<=hs.length:=by have:=(List.getElem?_eq_some_iff.mp hh).1; omega
 have xl:xs.length=hs.length:=Paired.length hB;obtain ⟨xv,hxv⟩:∃ xv,xs[i]?=some xv:=⟨_,List.getElem?_eq_getElem (by have:=(List.getElem?_eq_some_iff.mp hh).1; omega)⟩;have gh:=hG h (List.mem_of_getElem? hh);have hHS:HS K H xv h:=by
  obtain ⟨h',hh',r⟩:=Paired.at hB hxv;rw [hh] at hh'; cases hh'; exact r
 have s1k:=j8 (show (1000:Nat)<=1000 from Nat.le_refl _);refine ⟨_,rfl,_,rfl,_,rfl,ba,t,xs,hs,pt,pg,ps,D,far,kt,kg,z,rfl,hz,hS,hB,ne,few,hG,hfar,k1,k2,hP,hN,λ b H1 e1 hb=>?_⟩
 cases b with
 | false=>exact ⟨_,rfl,a3A (q _ _ e1 ⟨λ z=>absurd z (by decide),λ z=>absurd (hb.mpr ⟨z.a,z.f⟩) (by decide)⟩)⟩
 | true =>
 obtain ⟨ar,fair⟩:=hb.mp rfl;refine ⟨_,rfl,a0t ?_⟩;obtain ⟨fl,gl,u,fts,gts,h1,h2,h3,h4,h5,h6⟩:=id (hP.same e1);have b1:=hN.lt;have b2:=hN.lg;have lft:=h3.1;have lgt:=h5.1;have hFF:=h3.cat h5;have ll:(fts++gts).length=(pt++pg).length:=hFF.1;refine ⟨λ σ' H'=>σ'=[some (.ref ba),some (.int i),some (.str z),some (.ref t)]/\Same H1 H'/\∀ x∈pt++pg,0<x,?_,?_⟩
 ·refine ⟨_,rfl,t,_,0,_,rfl,rfl,SqT.of h1,a2b _ _ _,_,rfl,t,_,1,_,rfl,rfl,SqT.of h1,a1H _ _ _,fl,gl,_,_,rfl,rfl,h2,h4,by lia,λ a1 k1=>?_⟩
  have s1:=Same.new k1 (.lst (fts++gts));refine ⟨a1,rfl,⟨_,SqL.of upd_same⟩,λ p hp=>?_⟩;refine Y0 (v6 (SqL.of upd_same)) hp (by rw [List.length_append]; lia) (λ i=>decide ((pt++pg).getD i 0<=0)) (λ i x H' ys N' hx e hp' hN'=>?_) (λ ys H5 e5 hp5 hn5 hs5 hmem=>?_)
  ·obtain ⟨b,rfl,hb⟩:=(hFF.2 i x hx).same (s1.trans e)
   refine ⟨_,rfl,b,_,0,_,rfl,rfl,SqT.of hb,D5 _ _,_,_,rfl,rfl,_,rfl,?_⟩;rw [show decide ((t7 ((pt++pg).getD i 0) D).1<=0)=decide ((pt++pg).getD i 0<=0) from decide_eq_decide.mpr (by have:=a0m (x:=(pt++pg).getD i 0) hN.d; omega)];exact hN' _ (Same.refl _)
  ·refine ⟨(by show 0<=sizeLine; decide),λ ep hep=>?_⟩
   have npe:p≠ep:=i6 hp5 hep;have e6:=s1.trans (e5.trans (Same.new hep (.lst [])));refine a8O (SqL.of (by rw [i5 npe]; exact hp5)) (SqL.of upd_same) (λ y hy=>(hFF.same e6).v.data (hmem y hy)) ⟨_,rfl,w8 (λ c=>?_) (λ c=>⟨rfl,e6,λ x hx=>?_⟩)⟩
   ·refine q _ _ (e1.trans e6) ⟨λ z=>absurd z (by decide),λ z=>?_⟩
    have hn:ys=[]:=hn5 λ i hi=>decide_eq_false (λ hneg=>absurd (z.p _ (M4 (show i<(pt++pg).length by omega))) (by omega));rw [hn] at c
    cases c
   ·by_cases h0:0<x
    ·exact h0
    ·exfalso
     obtain ⟨i,hi⟩:=List.getElem?_of_mem hx;have hi':=(List.getElem?_eq_some_iff.mp hi).1;have:=hs5 ⟨i,by omega,decide_eq_true (by rw [List.getD_eq_getElem?_getD,hi]; show x<=0; omega)⟩
     cases ys with
     | nil=>exact this rfl
     | cons y r=>exact c rfl
 intro σ2 H2 hM_; refine A4 λ G_ hG_=>?_; obtain ⟨rfl,e2,pos⟩:=hM_; subst hG_;have e12:=e1.trans e2;refine ⟨_,rfl,_,rfl,ba,xs,_,_,rfl,rfl,e12.seq hS,r6 hxv,_,rfl,xv,t,h,pt,pg,ps,D,far,kt,kg,rfl,hHS.same e12,gh,hfar,‹kt<=20›,‹kg<=20›,hP.same e12,hN,ar.lt,ar.lg,λ v H3 e3 hv _ _=>?_⟩;refine ⟨(by show 2<=sizeLine; decide),λ tq htq=>?_⟩;have s4:=Same.new htq (.tup [V.int 0,V.int 1]);refine ⟨dF (t7 (D0 h pg ps - N8 h pt) D),dF (0,1),FrV.dp (hv.same s4).v,FrV.dp ⟨tq,rfl,SqT.of upd_same⟩,a4x _,a4x _,Nat.le_trans (Nat.min_le_left _ _) (b2Q _),?_⟩;rw [b1y];refine q _ _ (e12.trans (e3.trans s4)) ?_;rw [decide_eq_true_iff,a5T hN.d];exact ⟨λ z=>⟨ar,pos,fair,by omega⟩,λ z=>by have:=z.e; omega⟩
theorem a7g {fa fb:Addr} {da db:FuncData} (F:Fun K "_law_beats" "_law_beats" K4 f fd) (T:w6 mg) (Cm:SCal P w K mg base n "_law_mix_does" ["book","number","sizes","mix","takes_by","gives_by"] (a5a K) fa da) (Ca:SCal P w K mg base n "_law_amounts" ["book","mix"] (T8 K) fb db) :
  FnOk P w K mg base G2 (n+1) f fd ["book","number","sizes","mix"] (b0R K):=by
 refine F.ok scBts (λ vs H Q E h=>?_) (λ cdv A outer s H vs Q E hr h=>?_)
 ·obtain ⟨ba,ml,xs,mvs,hs,ws,D,z,far,kt,kg,i,h,rfl,_⟩:=h
  rfl
 obtain ⟨ba,ml,xs,mvs,hs,ws,D,z,far,kt,kg,i,h,rfl,hz,hS,hB,hM,hF,w100,few,big,hD,d8,hG,hfar,k1,k2,hh,q⟩:=h;refine ⟨_,(b4a T Cm Ca hr).2,?_⟩;have ne:1<=hs.length:=by have:=(List.getElem?_eq_some_iff.mp hh).1; omega
 have xl:xs.length=hs.length:=Paired.length hB;obtain ⟨xv,hxv⟩:∃ xv,xs[i]?=some xv:=⟨_,List.getElem?_eq_getElem (by have:=(List.getElem?_eq_some_iff.mp hh).1; omega)⟩;have gh:=hG h (List.mem_of_getElem? hh);have hHS:HS K H xv h:=by
  obtain ⟨h',hh',r⟩:=Paired.at hB hxv;rw [hh] at hh'; cases hh'; exact r
 have b1:Big 20000 1:=(B9 (n:=1) (i:=1) (by decide) (by decide)).mono (by decide);refine ⟨_,rfl,_,rfl,_,rfl,_,rfl,(by show 2<=sizeLine; decide),λ t1 ht1=>?_⟩;have s1:=Same.new ht1 (.tup [V.int 1,V.int 1]);refine ⟨(by show 2<=sizeLine; decide),λ t2 ht2=>?_⟩;have s2':=Same.new ht2 (.tup [V.int 1,V.int 1]);have s2:=s1.trans s2';refine ⟨ba,ml,.ref t1,.ref t2,xs,mvs,hs,ws,D,1,1,1,1,z,far,kt,kg,i,h,rfl,hz,s2.seq hS,Bk.same s2 hB,s2.seq hM,hF.same s2,w100,few,big,hD,d8,hG,hfar,k1,k2,hh,by rw [a0k]; exact ⟨t1,rfl,SqT.of (s2' _ _ upd_same)⟩,by decide,by decide +kernel,b1,by rw [a0k]; exact ⟨t2,rfl,SqT.of upd_same⟩,by decide,by decide +kernel,b1,λ b H3 e3 hb=>?_⟩;rw [a0k] at hb
 cases b with
 | false=>exact ⟨_,rfl,a3A (q _ _ (s2.trans e3) ⟨λ z=>absurd z (by decide),λ z=>absurd (hb.mpr z.1) (by decide)⟩)⟩
 | true =>
 have dp:=hb.mp rfl;have lw:ws.length=hs.length:=dp.m.1;refine ⟨_,rfl,a0t ?_⟩;have e03:=s2.trans e3;obtain ⟨ha,ta,ga,rfl,p1,p2,p3⟩:=id (hHS.same e03);refine ⟨λ σ' H'=>∃ o la lb:Addr,∃ ysa ysb:List V,σ'=[some (.ref ba),some (.int i),some (.str z),some (.ref ml),some (.ref o)]/\Same H3 H'/\H' o=some (.lst [.ref la,.ref lb])/\H' la=some (.lst ysa)/\H' lb=some (.lst ysb)/\FrsAt H' ysa h.1 1/\FrsAt H' ysb h.2 1,?_,?_⟩
 ·refine ⟨_,rfl,_,rfl,ba,xs,_,_,rfl,rfl,e03.seq hS,r6 hxv,ha,rfl,⟨_,p1⟩,λ o ho=>?_⟩
  refine C9 (P5 p1) ho (by show 2<sizeLine; decide) (a9d o h) a5b (λ j x H4 zs N hx e4 ho4 hN=>?_) (λ zs H4 e4 ho4 len pr=>?_)
  ·obtain ⟨sa,rfl,psa⟩:∃ sa,x=.ref sa/\SqT K H4 sa ((A3 j h).map V.int):=by
    match j,hx with
    | 0,hx=>cases hx; exact ⟨ta,rfl,e4.tseq p2⟩
    | 1,hx=>cases hx; exact ⟨ga,rfl,e4.tseq p3⟩
    | j+2,hx=>cases hx
   have sl:((A3 j h).map V.int).length<sizeLine:=by
    rw [List.length_map];refine Nat.lt_of_le_of_lt (show (A3 j h).length<=20 from ?_) (by decide);unfold A3; split
    ·rw [gh.lt]; exact k1
    ·rw [gh.lg]; exact k2
   refine ⟨Wk.set (by decide),_,rfl,sa,rfl,⟨_,psa⟩,λ p' hp'=>?_⟩;refine C9 (P5 psa) hp' sl (Z4 p' (A3 j h) 1) O4 (λ k x H5 ys N' hx' e5 hl5 hN'=>?_) (λ ys H5 e5 hl5 len pr=>?_)
   ·obtain ⟨x',rfl,_⟩:=I0 hx'
    refine ⟨Wk.set (by decide),_,rfl,(by show 2<=sizeLine; decide),λ tp htp=>?_⟩;exact hN' _ _ (Same.new htp _) (T5 hl5 (Same.new htp _) hx' ⟨tp,rfl,by rw [Y5]; exact upd_same⟩)
   ·have fr:=Q8 len pr
    refine hN _ _ e5 ⟨p',ys,rfl,(i6 ho4 hp').symm,hl5,fr,λ y hy w=>?_⟩;obtain ⟨k,hk⟩:=List.getElem?_of_mem hy;obtain ⟨b,rfl,hb⟩:=fr.2 k y hk
    cases w;rw [e5 _ _ ho4] at hb
    cases hb
  ·obtain ⟨z0,z1,rfl⟩:∃ z0 z1,zs=[z0,z1]:=by
    match zs,len with
    | [z0,z1],_=>exact ⟨z0,z1,rfl⟩
   obtain ⟨la,ysa,rfl,_,hla,fa',_⟩:=pr 0 _ rfl;obtain ⟨lb,ysb,rfl,_,hlb,fb',_⟩:=pr 1 _ rfl;exact ⟨o,la,lb,ysa,ysb,rfl,e4,ho4,hla,hlb,fa',fb'⟩
 intro σ4 H4 hM_; refine A4 λ G_ hG_=>?_; obtain ⟨o,la,lb,ysa,ysb,rfl,e4,ho,hla,hlb,fa',fb'⟩:=hM_; subst hG_;have e04:=e03.trans e4;refine ⟨_,rfl,_,rfl,ba,ml,xs,mvs,hs,ws,D,far,kt,kg,rfl,e04.seq hS,Bk.same e04 hB,ne,e04.seq hM,hF.same e04,by omega,big,hD,d8,lw,hG,by omega,k1,k2,λ r tl gl H5 e5 hr5 st sg=>?_⟩;have dA:Dp K H5 (.ref r) (.list [a1G hs ws D 0 kt,a1G hs ws D 1 kg]):=.lst (SqL.of hr5) (.cons st.dp (.cons sg.dp .nil));have dB:Dp K H5 (.ref o) (.list [a4V h.1,a4V h.2]):=.lst (SqL.of (e5 _ _ ho)) (.cons (FrsAt.own (e5 _ _ hla) (fa'.same e5)) (.cons (FrsAt.own (e5 _ _ hlb) (fb'.same e5)) .nil));refine ⟨_,rfl,_,_,dA,dB,?_,?_,?_,?_⟩
 ·rw [PyData.canLay0,PyData.canLayAll0,PyData.canLayAll0,PyData.canLayAll0,PyData.canLay0,PyData.canLay0,V2,V2]; rfl
 ·rw [PyData.canLay0,PyData.canLayAll0,PyData.canLayAll0,PyData.canLayAll0,PyData.canLay0,PyData.canLay0,V2 (λ x=>(x,1)),V2 (λ x=>(x,1))]; rfl
 ·refine Nat.le_trans (Nat.min_le_right _ _) ?_
  have a1:=a2f (λ x:Int=>(x,1)) h.1;have a2:=a2f (λ x:Int=>(x,1)) h.2;rw [PyData.depth,PyData.depthAll,PyData.depthAll,PyData.depthAll,PyData.depth,PyData.depth];omega
 ·refine q _ _ (e04.trans e5) ?_
  rw [PyData.eqv,Bool.not_eq_true'];exact ⟨λ z=>⟨dp,z⟩,λ z=>z.2⟩
end
section
variable {P:Program} {w:World} {K:W.Frag} {mg:Str->Option Value} {base:Heap} {f:Addr} {fd:FuncData} {n:Nat} {CN:Addr}
structure WoE (pl gl:List Int) (s L:Int):Prop where
 p:∀ x∈pl,Big 6000 x
 g:∀ x∈gl,Big 6000 x
 s:Big 6000 s
 l:Big 6000 L
structure OverL (hs:List j5) (pt pg:List Int) (ps D L:Int) (pe ge:List Int) (S:Int):Prop where
 lp:pe.length=hs.length
 lg:ge.length=hs.length
 p:∀ (i:Nat) h,hs[i]?=some h->pe.getD i 0*D=N8 h pt*L
 g:∀ (i:Nat) h,hs[i]?=some h->ge.getD i 0*D=(List.zipWith (·*·) h.2 pg).sum*L
 s:S*D=ps*L
theorem a8I {hs:List j5} {pt pg:List Int} {ps D L:Int} (hD:0<D) (O:b1X pt pg ps D L):OverL hs pt pg ps D L (hs.map λ h=>(List.zipWith (·*·) h.1 (pt.map (N0 D L))).sum) (hs.map λ h=>(List.zipWith (·*·) h.2 (pg.map (N0 D L))).sum) (N0 D L ps):=by
 refine ⟨List.length_map _,List.length_map _,λ i h hh=>?_,λ i h hh=>?_,U4 hD O.s⟩
 ·rw [List.getD_eq_getElem?_getD,List.getElem?_map,hh]
  exact a1o hD h.1 pt O.t
 ·rw [List.getD_eq_getElem?_getD,List.getElem?_map,hh]
  exact a1o hD h.2 pg O.g
theorem a6z {a b c:Int} (hc:0<c):a*c<=b*c ↔ a<=b:=⟨λ h=>Int.le_of_mul_le_mul_right h hc,λ h=>Int.mul_le_mul_of_nonneg_right h (Int.le_of_lt hc)⟩
theorem a5Y {a b c:Int} (hc:0<c):a*c=b*c ↔ a=b:=⟨λ h=>Int.eq_of_mul_eq_mul_right (by lia) h,λ h=>by rw [h]⟩
section
variable {hs:List j5} {pt pg pe ge:List Int} {ps D L S:Int}
theorem OverL.fair (o:OverL hs pt pg ps D L pe ge S) (hD:0<D) (hL:0<L) {i:Nat} {h:j5} (hh:hs[i]?=some h):ge.getD i 0+S<=pe.getD i 0 ↔ D0 h pg ps<=N8 h pt:=by
 rw [<- a6z hD,Int.add_mul,o.g i h hh,o.s,o.p i h hh,<- Int.add_mul,a6z hL];exact Iff.rfl
theorem OverL.fairs (o:OverL hs pt pg ps D L pe ge S) (hD:0<D) (hL:0<L):(∀ i,i<pe.length->ge.getD i 0+S<=pe.getD i 0) ↔ ∀ g∈hs,D0 g pg ps<=N8 g pt:=by
 have lp:=o.lp;constructor
 ·intro h g hg
  obtain ⟨i,hi⟩:=List.getElem?_of_mem hg;exact (o.fair hD hL hi).mp (h i (by have:=(List.getElem?_eq_some_iff.mp hi).1; lia))
 ·intro h i hi
  have hh:hs[i]?=some hs[i]:=List.getElem?_eq_getElem (by lia);exact (o.fair hD hL hh).mpr (h _ (List.mem_of_getElem? hh))
end
structure PsP (gr:Bool) (z:Str) (hs:List j5) (h:j5) (kt kg:Nat) (pt pg:List Int) (ps D:Int) (x:Q2):Prop where
 a:ArP z kt kg pt pg ps
 f:∀ g∈hs,D0 g pg ps<=N8 g pt
 s:gr=false->N8 h pt=D/\t7 (D0 h pg ps) D=x
 g:gr=true->(List.zipWith (·*·) h.2 pg).sum=D/\t7 (N8 h pt - ps) D=x
theorem P6 {l:List Int} {i:Nat} (h:i<l.length):(l.map V.int)[i]?=some (V.int (l.getD i 0)):=by
 rw [List.getElem?_map,List.getD_eq_getElem?_getD,List.getElem?_eq_getElem h]; rfl
end
section
variable {P:Program} {w:World} {K:W.Frag} {mg:Str->Option Value} {base:Heap} {f:Addr} {fd:FuncData} {n:Nat} {CN:Addr}
def b0y (K:W.Frag) (CN:Addr):Sp:=λ vs H Q E=>∃ (ba ml:Addr) (xs mxs:List V) (hs:List j5) (ws:List Int) (D far:Int) (kt kg:Nat) (number:Int) (z:Str),vs=[.ref ba,.int number,.str z,.ref ml]/\Szw z/\W6 K H ba xs hs far kt kg/\1<=hs.length/\number.natAbs.log2<1920/\SqL K H ml mxs/\FrsV K H mxs ws D/\ws.length<=100/\(∀ x∈ws,Big 20000 x)/\0<D/\D<2 ^ 8000 ∧
 (∀ (i:Nat) (h:j5) (b:Bool) (H':Hp),number=(i:Int)->hs[i]?=some h->Same H H'->(b=true ↔ a3Y z hs h kt kg ws D (1,1) (1,1)/\b1E hs h kt kg ws D)->Q (.bl b) H')/\(¬ a3O xs.length number->E (.ref CN) none H)
theorem scBeE:r8 ["book","number","sizes","mix","takes","gives"] ["book","number","sizes","mix"] (i3 a3f):=⟨rfl,rfl,rfl,by decide +kernel,rfl,by decide +kernel,by decide +kernel⟩
theorem b1B:(["take"]:List Str).Nodup:=by decide +kernel
theorem b1r:(["give"]:List Str).Nodup:=by decide +kernel
theorem a7w {o f1 f2:Addr} {d1 d2:FuncData} (F:Fun K "beats" "beats" a3f f fd) (O:One K mg o) (Cd:a3c P w K mg base n "does_as_much" ["book","number","sizes","shrunk","grown","mix"] (a7M K CN) f1 d1) (Cm:SCal P w K mg base n "mixed" ["book","mix"] (a0p K) f2 d2) :
  FnOk P w K mg base (CX1 P w) (n+1) f fd ["book","number","sizes","mix"] (b0y K CN):=by
 refine F.ok1 scBeE (λ vs H Q E h=>?_) (λ cdv A outer s H vs Q E hr h=>?_)
 ·obtain ⟨ba,ml,xs,mxs,hs,ws,D,far,kt,kg,number,z,rfl,_⟩:=h
  rfl
 obtain ⟨ba,ml,xs,mxs,hs,ws,D,far,kt,kg,number,z,rfl,hz,B,hn1,lm,hM,hF,w100,hbw,hD,hD8,q,qE⟩:=h;refine ⟨_,i4 (x6 (V1 (K9 (j6 Cd.ok hr rfl Cd.m Cd.k Cd.b .nil a6k (c6 (pv 0) (c6 (pv 1) (c6 (pv 2) (c6 (a0o (v:=.ref o) rfl O.m rfl) (c6 (a0o (v:=.ref o) rfl O.m rfl) (c6 (pv 3) h8))))))))) (i7 (m6 J8)) r9)
  (PSs.nox (i4 (C7 (i9 j0 (pv 0) (pv 1) (λ _ _=>rfl)) (K2 rfl (j4 (i8 (i:=4) scBeE.nd rfl (Or.inl rfl)) (j4 (i8 (i:=5) scBeE.nd rfl (Or.inl rfl)) t8))))
  (i7 (m6 (C2 (Z8 hr) (j6 Cm.ok hr rfl Cm.m Cm.k Cm.b .nil t6 (c6 (pv 0) (c6 (pv 3) h8))) (w4 (c6 (J9 ["take"] [] rfl (X4 (pv 4)) (λ _ _ _ _=>i8 (i:=0) b1B rfl (Or.inl rfl)) (λ _ _ _ _=>w4 (c6 (pv 0) (c6 c7 h8)))) (c6 (J9 ["give"] [] rfl (X4 (pv 5)) (λ _ _ _ _=>i8 (i:=0) b1r rfl (Or.inl rfl)) (λ _ _ _ _=>w4 (c6 (pv 0) (c6 c7 h8)))) h8))) (m8 _)))))),?_⟩
 have xl:xs.length=hs.length:=Paired.length B.b;have few:=B.few;have bt:=B.t;have bk:=B.k;refine ⟨_,rfl,_,rfl,_,rfl,_,rfl,ba,ml,.ref o,.ref o,xs,mxs,hs,ws,D,far,kt,kg,number,z,(1,1),(1,1),rfl,hz,B,hn1,lm,⟨o,rfl,O.s H⟩,a9b,⟨o,rfl,O.s H⟩,a9b,hM,hF,w100,hbw,hD,hD8,λ i h b1 H1 hi hh e1 hb1=>⟨_,rfl,?_⟩,qE⟩;subst hi;have hil:=(List.getElem?_eq_some_iff.mp hh).1;refine w8 (λ c=>?_) (λ c=>?_)
 ·cases b1 with
  | true=>cases c
  | false=>exact q i h _ _ rfl hh e1 ⟨λ z=>absurd z (by decide),λ z=>absurd (hb1.mpr z.1) (by decide)⟩
 have dp:=hb1.mp (by cases b1 with
  | true=>rfl
  | false=>exact absurd rfl c)
 have wl:ws.length=hs.length:=dp.m.1;obtain ⟨xv,hxv⟩:∃ xv,xs[i]?=some xv:=⟨_,List.getElem?_eq_getElem (by lia)⟩;have gh:=B.g h (List.mem_of_getElem? hh);obtain ⟨h',hh',⟨ha,ta,ga,rfl,p1,p2,p3⟩⟩:=Paired.at B.b hxv;rw [hh] at hh'; cases hh';refine ⟨_,rfl,_,rfl,ba,_,_,_,rfl,rfl,e1.seq B.l,r6 hxv,ha,_,rfl,e1.tseq p1,rfl,_,_,rfl,_,_,rfl,rfl,?_⟩;refine ⟨_,rfl,_,rfl,ba,ml,xs,mxs,hs,ws,D,far,kt,kg,rfl,e1.seq B.l,Bk.same e1 B.b,hn1,by lia,e1.seq hM,hF.same e1,hbw,hD,hD8,wl,B.g,B.far,B.t,B.k,λ r tl gl H2 e2 hr2 st sg=>?_⟩;have e02:=e1.trans e2;refine ⟨_,rfl,ta,rfl,⟨_,e02.tseq p2⟩,λ pa hpa=>?_⟩;refine C9 (P5 (e02.tseq p2)) hpa (by rw [List.length_map]; exact j8 (by have:=gh.lt; lia)) (Z4 pa h.1 1) O4 (λ k x H5 ys N' hx' e5 hl5 hN'=>?_) (λ ysa H5 e5 hla len pr=>?_)
 ·obtain ⟨x',rfl,_⟩:=I0 hx'
  refine ⟨Wk.set (by decide),_,rfl,(by show 2<=sizeLine; decide),λ tp htp=>?_⟩;exact hN' _ _ (Same.new htp _) (T5 hl5 (Same.new htp _) hx' ⟨tp,rfl,by rw [Y5]; exact upd_same⟩)
 have fra:=Q8 len pr;have e05:=e02.trans e5;refine ⟨_,rfl,ga,rfl,⟨_,e05.tseq p3⟩,λ pb hpb=>?_⟩;refine C9 (P5 (e05.tseq p3)) hpb (by rw [List.length_map]; exact j8 (by have:=gh.lg; lia)) (Z4 pb h.2 1) O4 (λ k x H6 ys N' hx' e6 hl6 hN'=>?_) (λ ysb H6 e6 hlb len pr=>?_)
 ·obtain ⟨x',rfl,_⟩:=I0 hx'
  refine ⟨Wk.set (by decide),_,rfl,(by show 2<=sizeLine; decide),λ tp htp=>?_⟩;exact hN' _ _ (Same.new htp _) (T5 hl6 (Same.new htp _) hx' ⟨tp,rfl,by rw [Y5]; exact upd_same⟩)
 have frb:=Q8 len pr;refine ⟨(by show 2<=sizeLine; decide),λ tp htp=>?_⟩;have s7:=Same.new htp (.tup [V.ref pa,V.ref pb]);have e27:=e5.trans (e6.trans s7);have dA:Dp K (upd H6 tp (.tup [V.ref pa,V.ref pb])) (.ref r) (.tuple [a1G hs ws D 0 kt,a1G hs ws D 1 kg]):=Dp.same e27 (.tup (SqT.of hr2) (.cons st.dp (.cons sg.dp .nil)));have dB:Dp K (upd H6 tp (.tup [V.ref pa,V.ref pb])) (.ref tp) (.tuple [a4V h.1,a4V h.2]):=.tup (SqT.of upd_same) (.cons (FrsAt.own ((e6.trans s7) _ _ hla) (fra.same (e6.trans s7))) (.cons (FrsAt.own (s7 _ _ hlb) (frb.same s7)) .nil));refine ⟨_,_,dA,dB,?_,?_,?_,?_⟩
 ·rw [PyData.canLay0,PyData.canLayAll0,PyData.canLayAll0,PyData.canLayAll0,PyData.canLay0,PyData.canLay0,V2,V2]; rfl
 ·rw [PyData.canLay0,PyData.canLayAll0,PyData.canLayAll0,PyData.canLayAll0,PyData.canLay0,PyData.canLay0,V2 (λ x=>(x,1)),V2 (λ x=>(x,1))]; rfl
 ·refine Nat.le_trans (Nat.min_le_right _ _) ?_
  have a1:=a2f (λ x:Int=>(x,1)) h.1;have a2:=a2f (λ x:Int=>(x,1)) h.2;rw [PyData.depth,PyData.depthAll,PyData.depthAll,PyData.depthAll,PyData.depth,PyData.depth];lia
 ·refine q i h _ _ rfl hh (e05.trans (e6.trans s7)) ?_
  rw [PyData.eqv,Bool.not_eq_true'];exact ⟨λ z=>⟨dp,z⟩,λ z=>z.2⟩
def b0M (K:W.Frag) (CN:Addr):Sp:=λ vs H Q E=>∃ (ba t:Addr) (xs:List V) (hs:List j5) (pt pg:List Int) (ps D far:Int) (kt kg:Nat) (number:Int) (z:Str),vs=[.ref ba,.int number,.str z,.ref t]/\Szw z/\W6 K H ba xs hs far kt kg/\1<=hs.length/\number.natAbs.log2<1920/\PrA H t pt pg ps D/\PrB pt pg ps D ∧
 (∀ (i:Nat) (h:j5) (b:Bool) (H':Hp),number=(i:Int)->hs[i]?=some h->Same H H'->(b=true ↔ b1T z hs h kt kg pt pg ps)->Q (.bl b) H')/\(¬ a3O xs.length number->E (.ref CN) none H)
theorem scPrE:r8 ["book","number","sizes","prices","paid","given","size","bottom"] ["book","number","sizes","prices"] (i3 V4):=⟨rfl,rfl,rfl,by decide +kernel,rfl,by decide +kernel,by decide +kernel⟩
theorem a7Y {f1 f2 f3 f4:Addr} {d1 d2 d3 d4:FuncData} (F:Fun K "prices_rim" "prices_rim" V4 f fd) (T:w6 mg) (Ch:a3c P w K mg base n "house_of" ["book","number"] (a2r K CN) f1 d1) (Ca:SCal P w K mg base n "are_prices" ["book","sizes","prices"] (a8l K) f2 d2) (Cw:SCal P w K mg base n "worths" ["book","prices"] (a4e K) f3 d3) (Cd:SCal P w K mg base n "does_no_house_better" ["paid","given","size"] (a2s K) f4 d4) :
  FnOk P w K mg base (CX1 P w) (n+1) f fd ["book","number","sizes","prices"] (b0M K CN):=by
 refine F.ok1 scPrE (λ vs H Q E h=>?_) (λ cdv A outer s H vs Q E hr h=>?_)
 ·obtain ⟨ba,t,xs,hs,pt,pg,ps,D,far,kt,kg,number,z,rfl,_⟩:=h
  rfl
 obtain ⟨ba,t,xs,hs,pt,pg,ps,D,far,kt,kg,number,z,rfl,hz,B,hn1,lm,hP,hN0,q,qE⟩:=h;refine ⟨_,i4 (Q1 (j6 Ch.ok hr rfl Ch.m Ch.k Ch.b .nil a6k (c6 (pv 0) (c6 (pv 1) h8))))
  (PSs.nox (i4 (x6 (PW.pt (a1O (V1 (K9 (j6 Ca.ok hr rfl Ca.m Ca.k Ca.b .nil t6 (c6 (pv 0) (c6 (pv 2) (c6 (pv 3) h8)))))) (a0f (K9 (j9 (a1F rfl) rfl T.any PyProof.Rows.boot_any (c6 (J9 ["top","bottom"] [] rfl (A5 (j3 G4 (i9 t5 (pv 3) c7 (λ _ _=>rfl)) (i9 t5 (pv 3) c7 (λ _ _=>rfl)))) (λ _ _ _ _=>E6 K (n:=2) rfl rfl (j4 (i8 (i:=0) a6s rfl (Or.inl rfl)) (j4 (i8 (i:=1) a6s rfl (Or.inl rfl)) t8))) (λ _ _ _ _=>C2 G8 (pv 0) c7 (m8 _))) h8)))))) (i7 (m6 J8)) r9)
  (i4 (C7 (j6 Cw.ok hr rfl Cw.m Cw.k Cw.b .nil t6 (c6 (pv 0) (c6 (pv 3) h8))) (K2 rfl (j4 (i8 (i:=4) scPrE.nd rfl (Or.inl rfl)) (j4 (i8 (i:=5) scPrE.nd rfl (Or.inl rfl)) (j4 (i8 (i:=6) scPrE.nd rfl (Or.inl rfl)) (j4 (i8 (i:=7) scPrE.nd rfl (Or.inl rfl)) t8))))))
  (i7 (m6 (a9e (j6 Cd.ok hr rfl Cd.m Cd.k Cd.b .nil t6 (c6 (pv 4) (c6 (pv 5) (c6 (pv 6) h8)))) (a5n (C2 G8 (j3 C4 (i9 j0 (pv 5) (pv 1) (λ _ _=>rfl)) (pv 6)) (i9 j0 (pv 4) (pv 1) (λ _ _=>rfl)) (m8 _))))))))),?_⟩
 have xl:xs.length=hs.length:=Paired.length B.b;have few:=B.few;have small:=j8 (show (1000:Nat)<=1000 from Nat.le_refl _);refine ⟨_,rfl,_,rfl,ba,xs,number,rfl,B.l,lm,λ i hv' hi hx=>?_,qE⟩;subst hi;have hil:=(List.getElem?_eq_some_iff.mp hx).1;have hh:hs[i]?=some hs[i]:=List.getElem?_eq_getElem (by lia);generalize hs[i]=h at hh;refine ⟨_,rfl,_,rfl,_,rfl,ba,t,xs,hs,pt,pg,ps,D,far,kt,kg,z,rfl,hz,B,hn1,hP,hN0,λ b1 H1 e1 hb1=>⟨_,rfl,w8 (λ c=>a3A ?_) (λ c=>?_)⟩⟩
 ·cases b1 with
  | true=>cases c
  | false=>exact q i h _ _ rfl hh e1 ⟨λ z=>absurd z (by decide),λ z=>absurd (hb1.mpr z.a) (by decide)⟩
 have ar:=hb1.mp (by cases b1 with
  | true=>rfl
  | false=>exact absurd rfl c)
 have hN:=ar.toN hN0;obtain ⟨fl,gl0,u,fts,gts,h1,h2,h3,h4,h5,h6⟩:=id (hP.same e1);have lft:fts.length=kt:=by rw [h3.1,hN.lt]
 have lgt:gts.length=kg:=by rw [h5.1,hN.lg]
 have bt:=B.t;have bk:=B.k;refine ⟨_,rfl,t,_,0,_,rfl,rfl,SqT.of h1,a2b _ _ _,_,rfl,t,_,1,_,rfl,rfl,SqT.of h1,a1H _ _ _,fl,gl0,fts,gts,rfl,rfl,h2,h4,by lia,λ p hp=>?_⟩;have s1:=Same.new hp (.lst (fts++gts));refine ⟨p,rfl,⟨_,SqL.of upd_same⟩,λ p2' hp2=>?_⟩;have hF:=(h3.cat h5).same s1;have ll:(fts++gts).length=(pt++pg).length:=hF.1;refine C9 (v6 (SqL.of upd_same)) hp2 (by simp; lia) (λ i y _=>y=.bl (decide ((pt++pg).getD i 0=0))) (λ _ _ _ _ r _=>r) (λ i y H2 zs N hy e hp' hNN=>?_) (λ zs H2 e hp' len pr=>?_)
 ·obtain ⟨b,rfl,hb⟩:=hF.2 i y hy
  refine ⟨b,_,rfl,SqT.of (e _ _ hb),rfl,_,_,rfl,_,_,rfl,rfl,S1 (by decide) (by decide),?_⟩;refine ⟨_,rfl,rfl,hNN _ _ (Same.refl _) (congrArg V.bl (decide_eq_decide.mpr ?_))⟩;have a1:=a0m (x:=(pt++pg).getD i 0) hN.d;have a2:=U2 (x:=(pt++pg).getD i 0) hN.d;constructor
  ·intro h
   have:=V.int.inj h;lia
  ·intro h
   exact congrArg V.int (by lia)
 have ez:zs=(((pt++pg).map λ x=>decide (x=0))).map V.bl:=by
  refine List.ext_getElem? λ i=>?_
  by_cases hi:i<zs.length
  ·rw [List.getElem?_eq_getElem hi,pr i _ (List.getElem?_eq_getElem hi),List.getElem?_map,List.getElem?_map,List.getD_eq_getElem?_getD,List.getElem?_eq_getElem (by lia)]; rfl
  ·rw [List.getElem?_eq_none (by lia),List.getElem?_eq_none (by rw [List.length_map,List.length_map]; lia)]
 rw [ez] at hp';have e02:=e1.trans (s1.trans e);refine ⟨p2',_,rfl,.inl (SqL.of hp'),_,rfl,w8 (λ c=>?_) (λ c=>?_)⟩
 ·refine q i h _ _ rfl hh e02 ⟨λ z=>absurd z (by decide),λ z=>?_⟩
  obtain ⟨x,hx,hx'⟩:=List.any_eq_true.mp c;obtain ⟨y,hy,rfl⟩:=List.mem_map.mp hx;have hy0:y=0:=by simpa using hx'
  have:=z.p y hy;lia
 have pos:∀ x∈pt++pg,0<x:=λ x hx=>by
  have n0:0<=x:=by
   rcases List.mem_append.mp hx with hx | hx
   ·exact ar.nt x hx
   ·exact ar.ng x hx
  by_cases h0:x=0
  ·exact absurd (List.any_eq_true.mpr ⟨true,List.mem_map.mpr ⟨x,hx,decide_eq_true h0⟩,rfl⟩) c
  ·lia
 refine ⟨_,rfl,_,rfl,ba,t,xs,hs,pt,pg,ps,D,far,kt,kg,rfl,e02.seq B.l,Bk.same e02 B.b,by lia,B.g,B.far,B.t,B.k,hP.same e02,hN,λ r pl gl L H3 e3 OB hr2 hpl hgl=>?_⟩;have e03:=e02.trans e3;have OL:=a8I (hs:=hs) hN.d OB;generalize (hs.map λ h=>(List.zipWith (·*·) h.1 (pt.map (N0 D L))).sum)=pe at *;generalize (hs.map λ h=>(List.zipWith (·*·) h.2 (pg.map (N0 D L))).sum)=ge at *;generalize N0 D L ps=S at *;have pll:=OL.lp;have gll:=OL.lg;have ap:=P6 (l:=pe) (i:=i) (by lia);have ag:=P6 (l:=ge) (i:=i) (by lia);refine ⟨r,_,rfl,SqT.of hr2,rfl,_,_,rfl,_,_,rfl,_,_,rfl,_,_,rfl,rfl,?_⟩;refine ⟨_,rfl,_,rfl,_,rfl,pl,gl,pe,ge,S,rfl,SqL.of hpl,SqL.of hgl,by lia,by lia,λ b2 H4 e4 hb2=>⟨_,rfl,w8 (λ c=>?_) (λ c=>?_)⟩⟩
 ·have fair:=(OL.fairs hN.d OB.l).mp (hb2.mp c)
  refine ⟨_,rfl,_,rfl,gl,_,_,_,rfl,rfl,SqL.of (e4 _ _ hgl),r6 ag,_,rfl,_,_,rfl,rfl,_,rfl,_,rfl,pl,_,_,_,rfl,rfl,SqL.of (e4 _ _ hpl),r6 ap,rfl,q i h _ _ rfl hh (e03.trans e4) ?_⟩;have key:ge.getD i 0+S=pe.getD i 0 ↔ D0 h pg ps=N8 h pt:=by
   rw [<- a5Y hN.d,Int.add_mul,OL.g i h hh,OL.s,OL.p i h hh,<- Int.add_mul,a5Y OB.l];exact Iff.rfl
  rw [decide_eq_true_iff];exact ⟨λ e=>⟨ar,pos,fair,key.mp (V.int.inj e)⟩,λ z=>congrArg V.int (key.mpr z.e)⟩
 ·cases b2 with
  | true=>exact absurd rfl c
  | false=>exact q i h _ _ rfl hh (e03.trans e4) ⟨λ z=>absurd z (by decide),λ z=>absurd (hb2.mpr ((OL.fairs hN.d OB.l).mpr z.f)) (by decide)⟩
end
end Rim
namespace L2
open PySem PySem.Spec PyProof.Rows
section
variable {X:Cx}
def b0s:V->List V->Hp->VK->Prop:=λ x vs H Q=>∃ (l:Addr) (xs:List V) (k:Nat) (y:V),x=.ref l/\vs=[.int (k:Int),y]/\H l=some (.lst xs)/\k<=xs.length/\xs.length<sizeLine/\Q .non (upd H l (.lst (xs.take k++[y]++xs.drop k)))
theorem a7e:MtM X "list.insert" b0s:=by
 intro pins s σ H x vs v us Q I rx rv h;obtain ⟨l,xs,k,y,rfl,rfl,hH,hk,hz,q⟩:=h
 cases rx;obtain ⟨u1,u2,rfl,ru1,ru2⟩:∃ u1 u2,us=[u1,u2]/\RelV (.int (k:Int)) u1/\RelV y u2:=by
  cases rv with
  | cons r1 t1 =>
   cases t1 with
   | cons r2 t2 =>
    cases t2 with
    | nil=>exact ⟨_,_,rfl,r1,r2⟩
 obtain ⟨t,rfl⟩:=ru1;obtain ⟨z,its,n,r,hl,e⟩:=I.lstM hH;have hsl:sizeLine=16777216:=sizeLine_eq;have fit:Builtin.List.listFitsIndex (k:Int)=true:=fitsIndex_both (Int.le_trans (show -(2 ^ 63:Int)<=0 by decide) (Int.natCast_nonneg k)) (Int.lt_of_lt_of_le (show (k:Int)<16777216 by rw [hsl] at hz; omega) (by decide));have h1:¬ (!Builtin.List.listFitsIndex (k:Int))=true:=by rw [fit]; exact Bool.false_ne_true
 have h2:its.toArray.size<=sizeLine:=by rw [List.size_toArray]; omega
 clear rv fit
 generalize hi:(k:Int)=i at *;refine call_meets F.slot_list_insert ⟨_,e,rfl⟩ F.entry_list_insert (F.args_list_insert_3 _ _ _) (AutoSeq1.list_insert_list_int_val_1 l its.toArray n i t u2 h1 h2) ⟨e,?_⟩;refine ⟨.non,_,I.lset (its':=its.take k++[u2]++its.drop k) hH e ?_ (((r.take k).append (.cons ru2 .nil)).append (r.drop k)) ?_,rfl,q⟩
 ·have ek:(if i<0 then (i+(its.toArray.size:Int)).toNat else min i.toNat its.toArray.size)=k:=by
   rw [if_neg (by omega),<- hi,Int.toNat_natCast,List.size_toArray]; omega
  show (its.toArray.extract 0 (if i<0 then (i+(its.toArray.size:Int)).toNat else min i.toNat its.toArray.size)).push u2++its.toArray.extract (if i<0 then (i+(its.toArray.size:Int)).toNat else min i.toNat its.toArray.size)=_
  rw [ek];simp;rw [List.take_of_length_le (by rw [List.length_drop]; omega)]
 ·rw [List.length_append,List.length_append,List.length_take,List.length_drop]
  simp only [List.length_cons,List.length_nil];omega
end
end L2
namespace Rim
open PySem L2 Fr
section
variable {P:Program} {w:World} {K:W.Frag} {mg:Str->Option Value} {base:Heap} {f:Addr} {fd:FuncData} {n:Nat}
def a4Y:Int:=10 ^ 130
def bF:Int:=63*10 ^ 130
theorem a2c:0<bF:=by decide +kernel
theorem a5y:Big 440 bF:=by unfold Big; decide +kernel
def Fq (H:Hp) (N:Nat) (D:Int) (v:V):Prop:=∃ x,FrT H v (t7 x D)/\Big N x
theorem Fq.same {H H':Hp} {N:Nat} {D:Int} {v:V} (e:Same H H') (h:Fq H N D v):Fq H' N D v:=by
 obtain ⟨x,h1,h2⟩:=h;exact ⟨x,h1.same e,h2⟩
theorem b1U {x D c:Int} (hD:0<D) (hc:0<c):t7 x D=t7 (x*c) (D*c):=R3 hD (Int.mul_pos hD hc) (by ac_rfl)
theorem a9k {x D b0 b1 c:Int} (hD:0<D) (h1:0<b1) (hc:0<c):t7 ((t7 x D).1*b1+b0*(t7 x D).2) ((t7 x D).2*b1)=t7 ((x*b1+b0*D)*c) (D*(b1*c)):=by
 have e:=J4 (x:=x) hD;have p:=A9 (t:=x) hD;refine R3 (Int.mul_pos p h1) (Int.mul_pos hD (Int.mul_pos h1 hc)) ?_;generalize (t7 x D).1=x1 at *;generalize (t7 x D).2=x2 at *
 calc (x1*b1+b0*x2)*(D*(b1*c))=(x1*D*b1+b0*x2*D)*(b1*c):=by rw [<- Int.mul_assoc,Int.add_mul]; congr 1; rw [show x1*b1*D=x1*D*b1 by ac_rfl]
  _=(x*x2*b1+b0*x2*D)*(b1*c):=by rw [e]
  _=(x*b1+b0*D)*c*(x2*b1):=by rw [Int.add_mul,Int.add_mul,Int.add_mul]; congr 1 <;> ac_rfl
structure By (b0 b1 c:Int):Prop where
 z:Big 1 b0
 p:0<b1
 q:0<c
 e:b1*c=bF
 b:Big 440 b1
 d:Big 440 c
theorem b3C {b0:Int} (h:Big 1 b0):By b0 7 (9*a4Y):=⟨h,by decide,by decide +kernel,by decide +kernel,by unfold Big; decide +kernel,by unfold Big; decide +kernel⟩
theorem a7B {b0:Int} (h:Big 1 b0):By b0 a4Y 63:=⟨h,by decide +kernel,by decide,by decide +kernel,by unfold Big; decide +kernel,by unfold Big; decide +kernel⟩
theorem b4Z {b0:Int} (h:Big 1 b0):By b0 1 bF:=⟨h,by decide,by decide +kernel,by decide +kernel,by unfold Big; decide +kernel,by unfold Big; decide +kernel⟩
def a4Z (K:W.Frag):Sp:=λ vs H Q _=>∃ (u:V) (pl:Addr) (ns:List Int) (x D:Int),vs=[u,.ref pl]/\SqL K H pl (ns.map V.int)/\5<=ns.length/\FrT H u (t7 x D)/\Big 2000 x/\0<D/\D<2 ^ 2000/\∀ (v:V) (H':Hp),Same H H'->Fq H' 3000 (D*bF) v->Q v H'
theorem scBen:r8 ["part","picks","far","by"] ["part","picks"] (i3 M5):=⟨rfl,rfl,rfl,by decide +kernel,rfl,by decide +kernel,by decide +kernel⟩
theorem b3w {α:Type} {k:Nat} (a b c d e:α) (hk:k<5):M2 [a,b,c,d,e] (k:Int)=some a/\k=0\/M2 [a,b,c,d,e] (k:Int)=some b/\k=1\/M2 [a,b,c,d,e] (k:Int)=some c/\k=2\/M2 [a,b,c,d,e] (k:Int)=some d/\k=3\/M2 [a,b,c,d,e] (k:Int)=some e/\k=4:=by
 match k,hk with
 | 0,_=>exact .inl ⟨r6 (j:=0) rfl,rfl⟩
 | 1,_=>exact .inr (.inl ⟨r6 (j:=1) rfl,rfl⟩)
 | 2,_=>exact .inr (.inr (.inl ⟨r6 (j:=2) rfl,rfl⟩))
 | 3,_=>exact .inr (.inr (.inr (.inl ⟨r6 (j:=3) rfl,rfl⟩)))
 | 4,_=>exact .inr (.inr (.inr (.inr ⟨r6 (j:=4) rfl,rfl⟩)))
theorem b2N {α:Type} {k:Nat} (a b c:α) (hk:k<3):M2 [a,b,c] (k:Int)=some a\/M2 [a,b,c] (k:Int)=some b\/M2 [a,b,c] (k:Int)=some c:=by
 match k,hk with
 | 0,_=>exact .inl (r6 (j:=0) rfl)
 | 1,_=>exact .inr (.inl (r6 (j:=1) rfl))
 | 2,_=>exact .inr (.inr (r6 (j:=2) rfl))
noncomputable def b4d {cdv:Value} {A:Around} {outer:List Env} {s:Shared} {H:Hp} {E:XK} {fa:Addr} {da:FuncData} (Co:X7 P w K mg base n "_law_low" ["top","bottom"] L7 fa da)
  (hr:Room n (A.deeper (PyProof.Rows.envOfC "_law_bent" (i3 M5) s.heap.objs.size f cdv))) :
  { t:TS // PSs (G9 G2 P w K mg base ["part","picks","far","by"] "_law_bent" (i3 M5) f cdv A outer s H E).nox (t9 M5) t } :=
 ⟨_,p6 (m9 (i:=2) scBen.nd rfl (Or.inl rfl) (j3 y6 (j3 y6 (j3 a0a c7 c7) (j3 a0a c7 c7)) (j3 a0a c7 c7)))
  (p6 (m9 (i:=3) scBen.nd rfl (Or.inl rfl) (i9 j0 (x8 (c6 (w4 (c6 c7 (c6 c7 h8))) (c6 (w4 (c6 (M3 G7 c7) (c6 c7 h8))) (c6 (w4 (c6 c7 (c6 (pv 2) h8))) (c6 (w4 (c6 (M3 G7 c7) (c6 (pv 2) h8))) (c6 (w4 (c6 c7 (c6 c7 h8))) h8)))))) (j3 u9 (i9 j0 (pv 1) c7 (λ _ _=>rfl)) c7) (λ _ _=>rfl)))
  (i4 (x6 (p7 G8 (j3 u9 (j3 L8 (i9 j0 (pv 1) c7 (λ _ _=>rfl)) c7) c7) c7 (m8 _)) (i7 (m6 (i9 j0 (x8 (c6 (w4 (c6 c7 (c6 c7 h8))) (c6 (w4 (c6 (M3 G7 c7) (c6 c7 h8))) (c6 (w4 (c6 c7 (c6 c7 h8))) h8)))) (j3 u9 (j3 L8 (i9 j0 (pv 1) c7 (λ _ _=>rfl)) c7) c7) (λ _ _=>rfl)))) r9)
  (i7 (m6 (j6 Co.ok hr rfl Co.m Co.k Co.b .nil t6 (c6 (j3 C4 (j3 y6 (i9 t5 (pv 0) c7 (λ _ _=>rfl)) (i9 t5 (pv 3) c7 (λ _ _=>rfl))) (j3 y6 (i9 t5 (pv 3) c7 (λ _ _=>rfl)) (i9 t5 (pv 0) c7 (λ _ _=>rfl)))) (c6 (j3 y6 (i9 t5 (pv 0) c7 (λ _ _=>rfl)) (i9 t5 (pv 3) c7 (λ _ _=>rfl))) h8)))))))⟩
theorem a9F {fa:Addr} {da:FuncData} (F:Fun K "_law_bent" "_law_bent" M5 f fd) (Co:X7 P w K mg base n "_law_low" ["top","bottom"] L7 fa da):FnOk P w K mg base G2 (n+1) f fd ["part","picks"] (a4Z K):=by
 refine F.ok scBen (λ vs H Q E h=>?_) (λ cdv A outer s H vs Q E hr h=>?_)
 ·obtain ⟨u,pl,ns,x,D,rfl,_⟩:=h
  rfl
 obtain ⟨u,pl,ns,x,D,rfl,hP,h5,hu,bx,hD,hD2,q⟩:=h;refine ⟨_,(b4d Co hr).2,?_⟩;have a4:M2 (ns.map V.int) 4=some (V.int (ns.getD 4 0)):=r6 (j:=4) (P6 (by omega));generalize ns.getD 4 0=p4 at a4;have DF:=Int.mul_pos hD a2c;have bD:Big 2000 D:=B9 (Int.le_of_lt hD) hD2;refine ⟨λ σ' H'=>σ'=[some u,some (.ref pl),some (.int a4Y),none]/\H'=H,?_,?_⟩
 ·refine ⟨_,_,rfl,rfl,⟨by decide,by decide,by decide⟩,_,_,rfl,rfl,⟨by decide,by decide,by decide⟩,_,_,rfl,rfl,⟨by unfold Big; decide +kernel,by unfold Big; decide +kernel⟩,?_⟩
  refine ⟨_,_,rfl,rfl,⟨by decide,by decide,by decide⟩,_,_,rfl,rfl,⟨by unfold Big; decide +kernel,by unfold Big; decide +kernel⟩,?_⟩;refine ⟨?_,rfl⟩
  show [some u,some (V.ref pl),some (V.int _),none]=_
  rw [show ((10:Int) ^ (50:Int).toNat*10 ^ (50:Int).toNat*10 ^ (30:Int).toNat)=a4Y by decide +kernel]
 intro σ1 H1 hM_; refine A4 λ G_ hG_=>?_; obtain ⟨rfl,rfl⟩:=hM_; subst hG_;refine ⟨λ σ' H'=>∃ (ta:Addr) (b0 b1 c:Int),σ'=[some u,some (.ref pl),some (.int a4Y),some (.ref ta)]/\Same H1 H'/\H' ta=some (.tup [.int b0,.int b1])/\By b0 b1 c,?_,?_⟩
 ·refine ⟨(by show 2<=sizeLine; decide),λ t0 k0=>?_⟩
  have s0:=Same.new k0 (.tup [V.int 1,V.int 7]);refine ⟨_,rfl,(by show 2<=sizeLine; decide),λ t1 k1=>?_⟩;have s1:=Same.new k1 (.tup [V.int (-1),V.int 7]);refine ⟨_,rfl,(by show 2<=sizeLine; decide),λ t2 k2=>?_⟩;have s2:=Same.new k2 (.tup [V.int 1,V.int a4Y]);refine ⟨_,rfl,_,rfl,(by show 2<=sizeLine; decide),λ t3 k3=>?_⟩;have s3:=Same.new k3 (.tup [V.int (-1),V.int a4Y]);refine ⟨(by show 2<=sizeLine; decide),λ t4 k4=>?_⟩;have s4:=Same.new k4 (.tup [V.int 1,V.int 1]);refine ⟨(by show 5<=sizeLine; decide),λ l kl=>?_⟩;have sl:=Same.new kl (.lst [V.ref t0,V.ref t1,V.ref t2,V.ref t3,V.ref t4]);have eA:=s0.trans (s1.trans (s2.trans (s3.trans (s4.trans sl))));have pk:p4 % 5=((p4 % 5).toNat:Int):=by omega
  have pl5:(p4 % 5).toNat<5:=by omega
  refine ⟨_,rfl,pl,_,4,_,rfl,rfl,eA.seq hP,a4,_,_,rfl,rfl,(by show (0:Int)<5; decide),?_⟩;dsimp only;rw [pk];rcases b3w (V.ref t0) (V.ref t1) (V.ref t2) (V.ref t3) (V.ref t4) pl5 with ⟨e,_⟩ | ⟨e,_⟩ | ⟨e,_⟩ | ⟨e,_⟩ | ⟨e,_⟩
  ·exact ⟨l,_,_,_,rfl,rfl,SqL.of upd_same,e,t0,_,_,_,rfl,eA,(s1.trans (s2.trans (s3.trans (s4.trans sl)))) _ _ upd_same,b3C (by unfold Big; decide)⟩
  ·exact ⟨l,_,_,_,rfl,rfl,SqL.of upd_same,e,t1,_,_,_,rfl,eA,(s2.trans (s3.trans (s4.trans sl))) _ _ upd_same,b3C (by unfold Big; decide)⟩
  ·exact ⟨l,_,_,_,rfl,rfl,SqL.of upd_same,e,t2,_,_,_,rfl,eA,(s3.trans (s4.trans sl)) _ _ upd_same,a7B (by unfold Big; decide)⟩
  ·exact ⟨l,_,_,_,rfl,rfl,SqL.of upd_same,e,t3,_,_,_,rfl,eA,(s4.trans sl) _ _ upd_same,a7B (by unfold Big; decide)⟩
  ·exact ⟨l,_,_,_,rfl,rfl,SqL.of upd_same,e,t4,_,_,_,rfl,eA,sl _ _ upd_same,b4Z (by unfold Big; decide)⟩
 intro σ2 H2 hM_; refine A4 λ G_ hG_=>?_; obtain ⟨ta,b0,b1,c,rfl,e2,hta,Y⟩:=hM_; subst hG_;refine ⟨_,rfl,pl,_,4,_,rfl,rfl,e2.seq hP,a4,_,_,rfl,rfl,⟨by decide,by decide⟩,_,_,rfl,rfl,(by show (0:Int)<5; decide),rfl,_,rfl,w8 (λ _=>?_) (λ _=>?_)⟩
 ·refine ⟨(by show 2<=sizeLine; decide),λ t0 k0=>?_⟩
  have s0:=Same.new k0 (.tup [V.int 0,V.int 1]);refine ⟨_,rfl,(by show 2<=sizeLine; decide),λ t1 k1=>?_⟩;have s1:=Same.new k1 (.tup [V.int (-1),V.int 9]);refine ⟨(by show 2<=sizeLine; decide),λ t2 k2=>?_⟩;have s2:=Same.new k2 (.tup [V.int 1,V.int 1]);refine ⟨(by show 3<=sizeLine; decide),λ l kl=>?_⟩;have sl:=Same.new kl (.lst [V.ref t0,V.ref t1,V.ref t2]);have eA:=e2.trans (s0.trans (s1.trans (s2.trans sl)));have pk:p4 / 25 % 3=((p4 / 25 % 3).toNat:Int):=by omega
  have pl3:(p4 / 25 % 3).toNat<3:=by omega
  refine ⟨_,rfl,pl,_,4,_,rfl,rfl,eA.seq hP,a4,_,_,rfl,rfl,⟨by decide,by decide⟩,_,_,rfl,rfl,(by show (0:Int)<3; decide),?_⟩;dsimp only;rw [pk];rcases b2N (V.ref t0) (V.ref t1) (V.ref t2) pl3 with e | e | e
  ·refine ⟨l,_,_,_,rfl,rfl,SqL.of upd_same,e,q _ _ eA ⟨0,⟨t0,rfl,?_⟩,by unfold Big; decide +kernel⟩⟩
   rw [show t7 0 (D*bF)=(0,1) from (R3 (t':=0) (b':=1) DF (by decide) (by omega)).trans (by decide)];exact (s1.trans (s2.trans sl)) _ _ upd_same
  ·refine ⟨l,_,_,_,rfl,rfl,SqL.of upd_same,e,q _ _ eA ⟨D * -(7*10 ^ 130),⟨t1,rfl,?_⟩,(bD.mul (m:=440) (by unfold Big; decide +kernel)).mono (by decide)⟩⟩
   rw [show t7 (D * -(7*10 ^ 130)) (D*bF)=(-1,9) from (R3 (t':=-1) (b':=9) DF (by decide) (by rw [Int.mul_assoc,show (-(7*10 ^ 130):Int)*9=bF * -1 by decide +kernel,<- Int.mul_assoc,Int.mul_comm]))|>.trans (by decide)];exact (s2.trans sl) _ _ upd_same
  ·refine ⟨l,_,_,_,rfl,rfl,SqL.of upd_same,e,q _ _ eA ⟨D*bF,⟨t2,rfl,?_⟩,(bD.mul a5y).mono (by decide)⟩⟩
   rw [a4C DF];exact sl _ _ upd_same
 obtain ⟨ua,rfl,hua⟩:=hu.same e2;have lp:=A9 (t:=x) hD;have l2:Big 2000 (t7 x D).2:=B9 (Int.le_of_lt lp) (Int.lt_of_le_of_lt (N7 hD) hD2);have l1:=L9 hD bx;have T1:=SqT.of (K:=K) hua;have T2:=SqT.of (K:=K) hta;refine ⟨_,rfl,ua,_,0,_,rfl,rfl,T1,D5 _ _,_,rfl,ta,_,1,_,rfl,rfl,T2,E8 _ _,_,_,rfl,rfl,⟨l1.mono (by decide),Y.b.mono (by decide)⟩,?_⟩;refine ⟨_,rfl,ta,_,0,_,rfl,rfl,T2,D5 _ _,_,rfl,ua,_,1,_,rfl,rfl,T1,E8 _ _,_,_,rfl,rfl,⟨Y.z.mono (by decide),l2.mono (by decide)⟩,_,_,rfl,rfl,?_⟩;refine ⟨_,rfl,ua,_,1,_,rfl,rfl,T1,E8 _ _,_,rfl,ta,_,1,_,rfl,rfl,T2,E8 _ _,_,_,rfl,rfl,⟨l2.mono (by decide),Y.b.mono (by decide)⟩,?_⟩;have pb:=Int.mul_pos lp Y.p;refine ⟨_,_,rfl,pb,?_,λ v H3 e3 hv=>q v H3 (e2.trans e3) ⟨(x*b1+b0*D)*c,?_,?_⟩⟩
 ·have h0:((t7 x D).2*b1).natAbs<2 ^ 8000:=((l2.mul Y.b).mono (show 2440<=8000 by decide))
  have h3:(t7 x D).2*b1=(((t7 x D).2*b1).natAbs:Int):=by omega
  rw [h3]
  exact_mod_cast h0
 ·rw [<- Y.e,<- a9k hD Y.p Y.q]; exact hv
 ·exact ((Big.add (n:=2440) ((bx.mul Y.b).mono (by decide)) ((Y.z.mul bD).mono (by decide))).mul Y.d).mono (by decide)
def Fqs (H:Hp) (N:Nat) (D:Int) (vs:List V):Prop:=∀ y∈vs,Fq H N D y
theorem Fqs.same {H H':Hp} {N:Nat} {D:Int} {vs:List V} (e:Same H H') (h:Fqs H N D vs):Fqs H' N D vs:=λ y hy=>(h y hy).same e
theorem Fq.upd {H:Hp} {N:Nat} {D:Int} {v:V} {a:Addr} {us us':List V} (h:Fq H N D v) (ha:H a=some (.lst us)):Fq (upd H a (.lst us')) N D v:=by
 obtain ⟨x,⟨b,rfl,hb⟩,h2⟩:=h;refine ⟨x,⟨b,rfl,?_⟩,h2⟩;rw [i5 (λ z=>by rw [z,ha] at hb; cases hb)];exact hb
theorem Fq.up {H:Hp} {D:Int} {v:V} (hD:0<D) (h:Fq H 2000 D v):Fq H 3000 (D*bF) v:=by
 obtain ⟨x,h1,h2⟩:=h;exact ⟨x*bF,by rw [<- b1U hD a2c]; exact h1,(h2.mul a5y).mono (by decide)⟩
theorem P3 {H0 H:Hp} {a:Addr} {o:HO} (h:H0 a=none) (e:Same H0 H):Same H0 (upd H a o):=λ b u q=>by
 rw [i5 (i6 q h)]; exact e _ _ q
theorem a2Q {H:Hp} {N:Nat} {D:Int}:∀ {vs:List V},Fqs H N D vs->∃ xs,FrsAt H vs xs D/\xs.length=vs.length/\∀ x∈xs,Big N x
 | [],_=>⟨[],⟨rfl,λ i y h=>by cases i <;> cases h⟩,rfl,λ x h=>by cases h⟩
 | v::r,h=>by
  obtain ⟨x,h1,h2⟩:=h v (.head _);obtain ⟨xs,h3,h4,h5⟩:=a2Q (vs:=r) λ y hy=>h y (.tail _ hy);refine ⟨x::xs,⟨by simp [h4],λ i y hy=>?_⟩,by simp [h4],λ y hy=>?_⟩
  ·cases i with
   | zero=>cases hy; exact h1
   | succ i=>exact h3.2 i y hy
  ·rcases List.mem_cons.mp hy with rfl | hy
   ·exact h2
   ·exact h5 y hy
theorem a0j {a b:Nat} (h:a<=b):(2:Int) ^ a<=2 ^ b:=by exact_mod_cast Nat.pow_le_pow_right (show 0<2 by decide) h
end
theorem a8a:∀ k,k<20->Lp.bnd (2 ^ 60) (k+1)<2 ^ 1400:=by decide +kernel
theorem a4y {m q:Nat} {A:Nat->Nat->Int} {b c:Nat->Int} {S:Lp.Bo} (O:Lp.Of m q A b c S) (hM:∀ v,Lp.Fits (2 ^ 60) (m+1) (Lp.Vv m q A b c v)) (hm:m<20):Sz 1400 m q S :=
 ⟨λ i j hi hj=>Nat.lt_of_le_of_lt (O.w.bndT hM hi hj) (a8a m hm),Nat.lt_of_le_of_lt (O.w.bndd hM) (a8a m hm)⟩
section
variable {m q:Nat} {A:Nat->Nat->Int} {b c:Nat->Int} {S:Lp.Bo}
theorem a2z (O:Lp.Of m q A b c S) (sz:Sz 1400 m q S) {x:Int} (hx:x∈A8 m q S):Big 1400 x:=by
 unfold A8 at hx;obtain ⟨k,hk,rfl⟩:=List.mem_map.mp hx;have hk:=List.mem_range.mp hk;rcases O.w.all (q+k) (by omega) with ⟨i,hi,e⟩ | ⟨j,hj,e⟩
 ·have:Lp.valOut m q S (q+k)=0:=Lp.sum_zero λ k' hk'=>if_neg λ z=>O.w.io i k' hi hk' (e.trans z.symm)
  rw [this]
  show (0:Int).natAbs<2 ^ 1400
  exact Nat.pow_pos (by decide)
 ·have:Lp.valOut m q S (q+k)=S.T m j:=by
   unfold Lp.valOut;rw [Lp.sum_one hj λ k' hk' hn=>if_neg λ z=>hn (O.w.oo k' j hk' hj (z.trans e.symm)),if_pos e]
  rw [this];exact sz.1 m j (by omega) (by omega)
theorem a5o (O:Lp.Of m q A b c S) (sz:Sz 1400 m q S) {x:Int} (hx:x∈y4 m q S):Big 1400 x:=by
 unfold y4 at hx;obtain ⟨v,hv,rfl⟩:=List.mem_map.mp hx;have hv:=List.mem_range.mp hv;rcases O.w.all v (by omega) with ⟨i,hi,e⟩ | ⟨j,hj,e⟩
 ·have:Lp.valIn m S q v=S.T i q:=by
   unfold Lp.valIn;rw [Lp.sum_one hi λ k hk hn=>if_neg λ z=>hn (O.w.ii k i hk hi (z.trans e.symm)),if_pos e]
  rw [this];exact sz.1 i q (by omega) (by omega)
 ·have:Lp.valIn m S q v=0:=Lp.sum_zero λ k hk=>if_neg λ z=>O.w.io k j hk hj (z.trans e.symm)
  rw [this]
  show (0:Int).natAbs<2 ^ 1400
  exact Nat.pow_pos (by decide)
end
theorem a3y {H:Hp} {vs:List V} {xs:List Int} {D:Int} {N:Nat} (h:FrsAt H vs xs D) (hb:∀ x∈xs,Big N x):Fqs H N D vs:=λ y hy=>by
 obtain ⟨i,hi⟩:=List.getElem?_of_mem hy;have hl:=(List.getElem?_eq_some_iff.mp hi).1;exact ⟨_,h.2 i y hi,hb _ (M4 (show i<xs.length by rw [<- h.1]; exact hl))⟩
theorem a3F {K:W.Frag} {H:Hp} {xs:List Int} {D:Int} {vs:List V} (h:FrsAt H vs xs D):∃ ds,Dps K H vs ds/\PyData.canLayAll0 ds=true/\PyData.depthAll ds<=3:=by
 have:∀ (vs:List V),(∀ y∈vs,∃ x,FrT H y x)->∃ ds,Dps K H vs ds/\PyData.canLayAll0 ds=true/\PyData.depthAll ds<=3:=λ vs=>by
  induction vs with
  | nil=>intro _; exact ⟨[],.nil,by rw [PyData.canLayAll0],by rw [PyData.depthAll]; omega⟩
  | cons y r ih =>
   intro h;obtain ⟨x,hx⟩:=h y (.head _);obtain ⟨ds,d1,d2,d3⟩:=ih λ y hy=>h y (.tail _ hy);refine ⟨dF x::ds,.cons (FrV.dp hx.v) d1,by rw [PyData.canLayAll0,a4x,d2]; rfl,?_⟩;rw [PyData.depthAll];have:(dF x).depth<=3:=by unfold dF; simp [PyData.depth,PyData.depthAll]
   omega
 exact this vs λ y hy=>by
  obtain ⟨i,hi⟩:=List.getElem?_of_mem hy;exact ⟨_,h.2 i y hi⟩
section
variable {P:Program} {w:World} {K:W.Frag} {mg:Str->Option Value} {base:Heap} {f:Addr} {fd:FuncData} {n:Nat}
def b0T (K:W.Frag):Sp:=λ vs H Q _=>∃ (l pl:Addr) (us:List V) (ns:List Int) (D:Int),vs=[.ref l,.ref pl]/\H l=some (.lst us)/\SqL K H pl (ns.map V.int)/\5<=ns.length/\Fqs H 2000 D us/\1<=us.length/\us.length<=50/\0<D/\D<2 ^ 2000/\∀ (r:Addr) (ws:List V) (H':Hp),Same H H'->H' r=some (.lst ws)->Fqs H' 3000 (D*bF) ws->ws.length<=60->Q (.ref r) H'
theorem scSpo:r8 ["some","picks","k","form"] ["some","picks"] (i3 J5):=⟨rfl,rfl,rfl,by decide +kernel,rfl,by decide +kernel,by decide +kernel⟩
noncomputable def b3V {cdv:Value} {A:Around} {outer:List Env} {s:Shared} {H:Hp} {E:XK} {fa:Addr} {da:FuncData} (T:w6 mg) (Cb:SCal P w K mg base n "_law_bent" ["part","picks"] (a4Z K) fa da)
  (hr:Room n (A.deeper (PyProof.Rows.envOfC "_law_spoilt" (i3 J5) s.heap.objs.size f cdv))) :
  { t:TS // PSs (G9 G2 P w K mg base ["some","picks","k","form"] "_law_spoilt" (i3 J5) f cdv A outer s H E).nox (t9 J5) t } :=
 ⟨_,i4 (m9 (i:=0) scSpo.nd rfl (Or.inl rfl) (x9 C6 rfl T.list PyProof.Rows.boot_list (c6 (pv 0) h8)))
  (p6 (m9 (i:=2) scSpo.nd rfl (Or.inl rfl) (j3 u9 (i9 j0 (pv 1) c7 (λ _ _=>rfl)) (j9 j7 rfl T.len PySem.boot_len (c6 (pv 0) h8))))
  (i4 (m9 (i:=3) scSpo.nd rfl (Or.inl rfl) (j3 u9 (i9 j0 (pv 1) c7 (λ _ _=>rfl)) c7))
  (p6 (x6 (p7 Q0 (pv 3) c7 (m8 _)) (i7 (C7 (j6 Cb.ok hr rfl Cb.m Cb.k Cb.b .nil t6 (c6 (i9 j0 (pv 0) (pv 2) (λ _ _=>rfl)) (c6 (pv 1) h8))) (M0 (pv 0) (pv 2) D6))) r9)
  (p6 (x6 (p7 G8 (pv 3) c7 (m8 _)) (i7 (m9 (i:=0) scSpo.nd rfl (Or.inl rfl) (j3 G4 (D9 J7 (pv 0) O9 (D2 (pv 2))) (D9 J7 (pv 0) (D2 (j3 C4 (pv 2) c7)) O9)))) r9)
  (p6 (x6 (p7 G8 (pv 3) c7 (m8 _)) (i7 (Q1 (a1Z PySem.F.plainAttrs_list PySem.F.slot_list_insert PySem.F.type_list_insert a7e (pv 0) (c6 (pv 2) (c6 (w4 (c6 c7 (c6 c7 h8))) h8))))) r9)
  (i7 (m6 (pv 0))))))))⟩
theorem b2c {fa:Addr} {da:FuncData} (F:Fun K "_law_spoilt" "_law_spoilt" J5 f fd) (T:w6 mg) (Cb:SCal P w K mg base n "_law_bent" ["part","picks"] (a4Z K) fa da):FnOk P w K mg base G2 (n+1) f fd ["some","picks"] (b0T K):=by
 refine F.ok scSpo (λ vs H Q E h=>?_) (λ cdv A outer s H vs Q E hr h=>?_)
 ·obtain ⟨l,pl,us,ns,D,rfl,_⟩:=h
  rfl
 obtain ⟨l,pl,us,ns,D,rfl,hl,hP,h5,hu,u1,u50,hD,hD2,q⟩:=h;refine ⟨_,(b3V T Cb hr).2,?_⟩;refine ⟨_,rfl,l,_,rfl,.inl (SqL.of hl),λ r hr0=>?_⟩;have s1:=Same.new hr0 (.lst us);have P1:=s1.seq hP;have hr1:=upd_same (H:=H) (a:=r) (o:=.lst us);have at1:M2 (ns.map V.int) 1=some (V.int (ns.getD 1 0)):=r6 (j:=1) (P6 (by lia));have at3:M2 (ns.map V.int) 3=some (V.int (ns.getD 3 0)):=r6 (j:=3) (P6 (by lia));generalize ns.getD 1 0=p1 at at1;generalize ns.getD 3 0=p3 at at3;have hu1:=hu.same s1;generalize upd H r (.lst us)=H1 at *;refine ⟨λ σ' H'=>∃ k:Nat,k<us.length/\σ'=[some (.ref r),some (.ref pl),some (.int (k:Int)),none]/\H1=H',?_,?_⟩
 ·refine ⟨_,rfl,pl,_,3,_,rfl,rfl,P1,at3,_,rfl,r,_,rfl,.inl (SqL.of hr1),_,_,rfl,rfl,(by show (0:Int)<(us.length:Int); lia),?_⟩
  refine ⟨(p3 % (us.length:Int)).toNat,?_,?_,rfl⟩
  ·have:=Int.emod_lt_of_pos p3 (show (0:Int)<(us.length:Int) by lia)
   have:=Int.emod_nonneg p3 (show (us.length:Int)≠0 by lia);lia
  ·have:=Int.emod_nonneg p3 (show (us.length:Int)≠0 by lia)
   rw [show (((p3 % (us.length:Int)).toNat:Nat):Int)=p3 % (us.length:Int) by lia];rfl
 intro σ2 H2 hM_; refine A4 λ G_ hG_=>?_; obtain ⟨k,hk,rfl,rfl⟩:=hM_; subst hG_;refine ⟨_,rfl,pl,_,1,_,rfl,rfl,P1,at1,_,_,rfl,rfl,(by show (0:Int)<6; decide),?_⟩;dsimp only;generalize p1 % 6=form;have DF:=Int.mul_pos hD a2c;refine ⟨λ σ' H'=>σ'=[some (.ref r),some (.ref pl),some (.int (k:Int)),some (.int form)]/\Same H H'/\∃ ws,H' r=some (.lst ws)/\ws.length=us.length/\Fqs H' 3000 (D*bF) ws,?_,?_⟩
 ·refine ⟨_,rfl,_,_,rfl,rfl,_,rfl,w8 (λ _=>?_) (λ _=>⟨rfl,s1,us,hr1,rfl,λ y hy=>(hu1 y hy).up hD⟩)⟩
  obtain ⟨x,hx1,hx2⟩:=hu1 _ (List.getElem_mem hk);have gk:M2 us (k:Int)=some us[k]:=r6 (List.getElem?_eq_getElem hk);refine ⟨_,rfl,_,rfl,r,_,_,_,rfl,rfl,SqL.of hr1,gk,_,rfl,_,pl,ns,x,D,rfl,P1,h5,hx1,hx2,hD,hD2,λ v2 H3 e3 hv2=>?_⟩;have hr3:=e3 _ _ hr1;refine ⟨_,rfl,_,rfl,r,us,_,k,rfl,rfl,hr3,?_,rfl,P3 hr0 (s1.trans e3),_,upd_same,List.length_set,λ y hy=>?_⟩
  ·unfold ixN
   rw [if_pos (by lia),if_pos (by lia),Int.toNat_natCast]
  ·rcases List.mem_or_eq_of_mem_set hy with h | rfl
   ·exact (((hu1 y h).up hD).same e3).upd hr3
   ·exact hv2.upd hr3
 intro σ3 H3 hM_; refine A4 λ G_ hG_=>?_; obtain ⟨rfl,e3,vs3,hv3,l3,q3⟩:=hM_; subst hG_;have s1k:=j8 (show (1000:Nat)<=1000 from Nat.le_refl _);have old:∀ {a:Addr} {H':Hp},Same H H'->H' a=none->H a=none:=λ {a H'} e hn=>by
  cases z:H a with
  | none=>rfl
  | some o=>rw [e _ _ z] at hn; cases hn
 refine ⟨λ σ' H'=>∃ r',σ'=[some (.ref r'),some (.ref pl),some (.int (k:Int)),some (.int form)]/\Same H H'/\H r'=none/\∃ ws,H' r'=some (.lst ws)/\ws.length<=59/\Fqs H' 3000 (D*bF) ws/\(form=3->k<ws.length),?_,?_⟩
 ·refine ⟨_,rfl,rfl,_,rfl,w8 (λ c4=>?_) (λ _=>⟨r,rfl,e3,hr0,vs3,hv3,by lia,q3,λ _=>by lia⟩)⟩
  have f4:V.int form=V.int 2:=by simpa using c4
  have f4':=V.int.inj f4;refine ⟨_,rfl,_,rfl,_,rfl,r,_,rfl,SqL.of hv3,λ a1 k1=>?_⟩;have s1:=Same.new k1 (.lst (E5 vs3 none (some (k:Int))));refine ⟨_,rfl,_,rfl,_,_,rfl,rfl,_,rfl,r,_,rfl,SqL.of (s1 _ _ hv3),λ a2 k2=>?_⟩;have s2:=Same.new k2 (.lst (E5 vs3 (some ((k:Int)+1)) none));have l1:=R9 vs3 none (some (k:Int));have l2:=R9 vs3 (some ((k:Int)+1)) none;refine ⟨a1,a2,_,_,rfl,rfl,s2 _ _ upd_same,upd_same,by lia,λ a3 k3=>?_⟩;have s3:=Same.new k3 (.lst (E5 vs3 none (some (k:Int))++E5 vs3 (some ((k:Int)+1)) none));have eA:=s1.trans (s2.trans s3);have a30:=old (e3.trans (s1.trans s2)) k3;have mc:∀ {xs:List V} {lo hi:Option Int} {v:V},v∈E5 xs lo hi->v∈xs:=λ h=>List.mem_of_mem_drop (List.mem_of_mem_take h);have hl':E5 vs3 none (some (k:Int))=vs3.take k:=a0U vs3 k (by lia);have hr2:E5 vs3 (some ((k:Int)+1)) none=vs3.drop (k+1):=a1S vs3 (k+1) (by lia);refine ⟨a3,rfl,e3.trans eA,a30,_,upd_same,?_,λ y hy=>?_,λ f5=>absurd f5 (by lia)⟩
  ·rw [hl',hr2,List.length_append,List.length_take,List.length_drop]; lia
  ·rcases List.mem_append.mp hy with h | h
   ·exact (q3 y (mc h)).same eA
   ·exact (q3 y (mc h)).same eA
 intro σ4 H4 hM_; refine A4 λ G_ hG_=>?_; obtain ⟨r4,rfl,e4,hr4,vs4,hv4,l4,q4,kb⟩:=hM_; subst hG_;refine ⟨λ σ' H'=>σ'=[some (.ref r4),some (.ref pl),some (.int (k:Int)),some (.int form)]/\Same H H'/\∃ ws,H' r4=some (.lst ws)/\ws.length<=60/\Fqs H' 3000 (D*bF) ws,?_,?_⟩
 ·refine ⟨_,rfl,rfl,_,rfl,w8 (λ c5=>?_) (λ _=>⟨rfl,e4,vs4,hv4,by lia,q4⟩)⟩
  have f5:V.int form=V.int 3:=by simpa using c5
  have hk4:=kb (V.int.inj f5);refine ⟨_,rfl,.inl ⟨rfl,_,SqL.of hv4⟩,_,rfl,(by show 2<=sizeLine; decide),λ tp htp=>?_⟩;have s5:=Same.new htp (.tup [V.int 0,V.int 1]);refine ⟨r4,vs4,k,_,rfl,rfl,s5 _ _ hv4,by lia,by lia,rfl,P3 hr4 (e4.trans s5),_,upd_same,?_,λ y hy=>?_⟩
  ·rw [List.length_append,List.length_append,List.length_take,List.length_drop,List.length_cons,List.length_nil]; lia
  ·refine Fq.upd ?_ (s5 _ _ hv4)
   rcases List.mem_append.mp hy with h | h
   ·rcases List.mem_append.mp h with h | h
    ·exact (q4 y (List.mem_of_mem_take h)).same s5
    ·rw [List.mem_singleton.mp h]
     refine ⟨0,⟨tp,rfl,?_⟩,by unfold Big; decide +kernel⟩;rw [show t7 0 (D*bF)=(0,1) from (a5T DF).mpr rfl];exact upd_same
   ·exact (q4 y (List.mem_of_mem_drop h)).same s5
 intro σ5 H5 hM_; refine A4 λ G_ hG_=>?_; obtain ⟨rfl,e5,vs5,hv5,l5,q5⟩:=hM_; subst hG_;exact ⟨_,rfl,q r4 vs5 _ e5 hv5 q5 l5⟩
end
section
variable {P:Program} {w:World} {K:W.Frag} {mg:Str->Option Value} {base:Heap} {f:Addr} {fd:FuncData} {n:Nat}
def a9g (H:Hp) (v:V):Prop:=∃ (ml:Addr) (us:List V) (D:Int),v=.ref ml/\H ml=some (.lst us)/\Fqs H 2000 D us/\1<=us.length/\us.length<=50/\0<D/\D<2 ^ 2000
def b0S (K:W.Frag):Sp:=λ vs H Q _=>∃ (ba t pl:Addr) (xs:List V) (i:Nat) (wd:Str) (v:V) (ns:List Int),vs=[.ref ba,.int (i:Int),.ref t,.ref pl]/\SqL K H ba xs/\i<xs.length/\xs.length<=16/\H t=some (.tup [.str wd,v])/\(wd="beaten"->a9g H v)/\SqL K H pl (ns.map V.int)/\5<=ns.length/\∀ (r:V) (H':Hp),Same H H'->a9g H' r->Q r H'
theorem scAmx:r8 ["book","number","found","picks","mix","other"] ["book","number","found","picks"] (i3 K8):=⟨rfl,rfl,rfl,by decide +kernel,rfl,by decide +kernel,by decide +kernel⟩
noncomputable def b4T {cdv:Value} {A:Around} {outer:List Env} {s:Shared} {H:Hp} {E:XK} {fa:Addr} {da:FuncData} (T:w6 mg) (Co:X7 P w K mg base n "_law_low" ["top","bottom"] L7 fa da)
  (hr:Room n (A.deeper (PyProof.Rows.envOfC "_law_a_mix" (i3 K8) s.heap.objs.size f cdv))) :
  { t:TS // PSs (G9 G2 P w K mg base ["book","number","found","picks","mix","other"] "_law_a_mix" (i3 K8) f cdv A outer s H E).nox (t9 K8) t } :=
 ⟨_,p6 (x6 (PW.pt (W5 (p7 G8 (i9 t5 (pv 2) c7 (λ _ _=>rfl)) D3 (m8 _)) (S4 (p7 V8 (j3 u9 (i9 j0 (pv 3) c7 (λ _ _=>rfl)) c7) c7 (m8 _))))) (i7 (m6 (x9 C6 rfl T.list PyProof.Rows.boot_list (c6 (i9 t5 (pv 2) c7 (λ _ _=>rfl)) h8)))) r9)
  (i4 (m9 (i:=4) scAmx.nd rfl (Or.inl rfl) (j3 X2 (x8 (c6 (w4 (c6 c7 (c6 c7 h8))) h8)) (j9 j7 rfl T.len PySem.boot_len (c6 (pv 0) h8))))
  (p6 (C7 (w4 (c6 c7 (c6 c7 h8))) (M0 (pv 4) (pv 1) D6))
  (p6 (x6 (PW.pt (W5 (p7 G8 (j3 u9 (i9 j0 (pv 3) c7 (λ _ _=>rfl)) c7) c7 (m8 _)) (S4 (p7 V8 (j9 j7 rfl T.len PySem.boot_len (c6 (pv 0) h8)) c7 (m8 _)))))
   (i4 (m9 (i:=5) scAmx.nd rfl (Or.inl rfl) (j3 u9 (j3 C4 (j3 C4 (pv 1) c7) (j3 u9 (j3 L8 (i9 j0 (pv 3) c7 (λ _ _=>rfl)) c7) (j3 W7 (j9 j7 rfl T.len PySem.boot_len (c6 (pv 0) h8)) c7))) (j9 j7 rfl T.len PySem.boot_len (c6 (pv 0) h8))))
   (i4 (C7 (w4 (c6 (j3 u9 (j3 L8 (i9 j0 (pv 3) c7 (λ _ _=>rfl)) c7) c7) (c6 c7 h8))) (M0 (pv 4) (pv 1) D6))
   (i4 (C7 (j6 Co.ok hr rfl Co.m Co.k Co.b .nil t6 (c6 (i9 t5 (i9 j0 (pv 4) (pv 1) (λ _ _=>rfl)) c7 (λ _ _=>rfl)) (c6 c7 h8))) (M0 (pv 4) (pv 1) D6))
   (i7 (C7 (j6 Co.ok hr rfl Co.m Co.k Co.b .nil t6 (c6 (j3 W7 c7 (j3 L8 (j3 y6 (i9 t5 (i9 j0 (pv 4) (pv 1) (λ _ _=>rfl)) c7 (λ _ _=>rfl)) c7) (i9 t5 (i9 j0 (pv 4) (pv 1) (λ _ _=>rfl)) c7 (λ _ _=>rfl)))) (c6 c7 h8))) (M0 (pv 4) (pv 5) D6)))))) r9)
  (i7 (m6 (pv 4))))))⟩
theorem b4U {H:Hp} {us:List V} (r:Addr) (h:H r=some (.lst us)) (q:Fqs H 2000 2 us) (h1:1<=us.length) (h2:us.length<=50):a9g H (.ref r):=⟨r,us,2,rfl,h,q,h1,h2,by decide,Int.lt_of_lt_of_le (show (2:Int)<2 ^ 10 by decide) (a0j (by decide))⟩
theorem a3G {H:Hp} {us:List V} {i:Nat} {v:V} {D:Int} (q:Fqs H 2000 D us) (hv:Fq H 2000 D v):Fqs H 2000 D (us.set i v):=λ y hy=>by
 rcases List.mem_or_eq_of_mem_set hy with h | rfl
 ·exact q y h
 ·exact hv
theorem Fqs.upd {H:Hp} {N:Nat} {D:Int} {vs:List V} {a:Addr} {us us':List V} (h:Fqs H N D vs) (ha:H a=some (.lst us)):Fqs (upd H a (.lst us')) N D vs:=λ y hy=>(h y hy).upd ha
theorem b1O {fa:Addr} {da:FuncData} (F:Fun K "_law_a_mix" "_law_a_mix" K8 f fd) (T:w6 mg) (Co:X7 P w K mg base n "_law_low" ["top","bottom"] L7 fa da):FnOk P w K mg base G2 (n+1) f fd ["book","number","found","picks"] (b0S K):=by
 refine F.ok scAmx (λ vs H Q E h=>?_) (λ cdv A outer s H vs Q E hr h=>?_)
 ·obtain ⟨ba,t,pl,xs,i,wd,v,ns,rfl,_⟩:=h
  rfl
 obtain ⟨ba,t,pl,xs,i,wd,v,ns,rfl,hB,hi,h16,ht,hbe,hP,h5,q⟩:=h;refine ⟨_,(b4T T Co hr).2,?_⟩;have at0:M2 (ns.map V.int) 0=some (V.int (ns.getD 0 0)):=r6 (j:=0) (P6 (by lia));have at2:M2 (ns.map V.int) 2=some (V.int (ns.getD 2 0)):=r6 (j:=2) (P6 (by lia));generalize ns.getD 0 0=p0 at at0;generalize ns.getD 2 0=p2 at at2;refine ⟨λ σ' H'=>σ'=[some (.ref ba),some (.int (i:Int)),some (.ref t),some (.ref pl),none,none]/\H'=H,?_,?_⟩
 ·refine ⟨_,rfl,t,_,0,_,rfl,rfl,SqT.of ht,D5 _ _,rfl,_,rfl,w8 (λ c=>?_) (λ _=>a0t ⟨rfl,rfl⟩)⟩
  have cw:V.str wd=V.str "beaten":=by simpa using c
  obtain ⟨ml,us,D,rfl,hml,hq,u1,u2,d1,d2⟩:=hbe (V.str.inj cw);refine ⟨_,rfl,pl,_,0,_,rfl,rfl,hP,at0,_,_,rfl,rfl,(by show (0:Int)<3; decide),_,_,rfl,rfl,_,rfl,w8 (λ _=>?_) (λ _=>⟨rfl,rfl⟩)⟩;refine ⟨_,rfl,t,_,1,_,rfl,rfl,SqT.of ht,E8 _ _,ml,_,rfl,.inl (SqL.of hml),λ r hr'=>?_⟩;have s1:=Same.new hr' (.lst us);exact q _ _ s1 ⟨r,us,D,rfl,upd_same,hq.same s1,u1,u2,d1,d2⟩
 intro σ1 H1 hM_; refine A4 λ G_ hG_=>?_; obtain ⟨rfl,rfl⟩:=hM_; subst hG_;have s1k:=j8 (show (1000:Nat)<=1000 from Nat.le_refl _);refine ⟨(by show 2<=sizeLine; decide),λ t0 k0=>?_⟩;have s0:=Same.new k0 (.tup [V.int 0,V.int 1]);refine ⟨(by show 1<=sizeLine; decide),λ l0 kl0=>?_⟩;have s1:=Same.new kl0 (.lst [V.ref t0]);have e1:=s0.trans s1;refine ⟨_,rfl,ba,_,rfl,.inl (e1.seq hB),l0,_,[V.ref t0],rfl,rfl,upd_same,by lia,by lia,(by show 1*((xs.length:Int)).toNat<=sizeLine; lia),λ r kr=>?_⟩;have lu:(List.replicate ((xs.length:Int)).toNat [V.ref t0]).flatten.length=xs.length:=by rw [a2W]; simp
 have mu:∀ y∈(List.replicate ((xs.length:Int)).toNat [V.ref t0]).flatten,y=V.ref t0:=λ y hy=>by
  obtain ⟨l,hl,hy'⟩:=List.mem_flatten.mp hy;rw [(List.mem_replicate.mp hl).2] at hy';exact List.mem_singleton.mp hy'
 generalize (List.replicate ((xs.length:Int)).toNat [V.ref t0]).flatten=us0 at *;have s2:=Same.new kr (.lst us0);have e2:=e1.trans s2;have hrN:H1 r=none:=by
  cases z:H1 r with
  | none=>rfl
  | some o=>rw [e1 _ _ z] at kr; cases kr
 have f0:Fqs (upd (upd (upd H1 t0 (.tup [V.int 0,V.int 1])) l0 (.lst [V.ref t0])) r (.lst us0)) 2000 2 us0:=λ y hy=>by
  rw [mu y hy];refine ⟨0,⟨t0,rfl,?_⟩,by unfold Big; decide +kernel⟩;rw [show t7 0 2=(0,1) by decide];exact (s1.trans s2) _ _ upd_same
 have hr2:=upd_same (H:=upd (upd H1 t0 (.tup [V.int 0,V.int 1])) l0 (.lst [V.ref t0])) (a:=r) (o:=.lst us0);generalize upd (upd (upd H1 t0 (.tup [V.int 0,V.int 1])) l0 (.lst [V.ref t0])) r (.lst us0)=H2 at *;refine ⟨λ σ' H'=>∃ us,σ'=[some (.ref ba),some (.int (i:Int)),some (.ref t),some (.ref pl),some (.ref r),none]/\Same H1 H'/\H' r=some (.lst us)/\us.length=xs.length/\Fqs H' 2000 2 us,?_,?_⟩
 ·refine ⟨(by show 2<=sizeLine; decide),λ t1 k1=>?_⟩
  have s3:=Same.new k1 (.tup [V.int 1,V.int 1]);refine ⟨_,rfl,_,rfl,r,us0,_,i,rfl,rfl,s3 _ _ hr2,V3 (by lia),us0.set i (.ref t1),rfl,P3 hrN (e2.trans s3),upd_same,by rw [List.length_set]; exact lu,Fqs.upd (a3G (f0.same s3) ⟨2,⟨t1,rfl,?_⟩,by unfold Big; decide +kernel⟩) (s3 _ _ hr2)⟩;rw [show t7 2 2=(1,1) by decide];exact upd_same
 intro σ3 H3 hM_; refine A4 λ G_ hG_=>?_; obtain ⟨us,rfl,e3,hr3,l3,q3⟩:=hM_; subst hG_;refine ⟨λ σ' H'=>∃ us o5,σ'=[some (.ref ba),some (.int (i:Int)),some (.ref t),some (.ref pl),some (.ref r),o5]/\Same H1 H'/\H' r=some (.lst us)/\us.length=xs.length/\Fqs H' 2000 2 us,?_,?_⟩
 ·refine ⟨_,rfl,pl,_,2,_,rfl,rfl,e3.seq hP,at2,_,_,rfl,rfl,(by show (0:Int)<3; decide),rfl,_,rfl,w8 (λ _=>?_) (λ _=>a0t ⟨us,_,rfl,e3,hr3,l3,q3⟩)⟩
  refine ⟨_,rfl,ba,_,rfl,.inl (e3.seq hB),_,_,rfl,rfl,_,rfl,w8 (λ c=>?_) (λ _=>⟨us,_,rfl,e3,hr3,l3,q3⟩)⟩;have c1:(1:Int)<(xs.length:Int):=of_decide_eq_true c;have BB:=e3.seq hB;have PP:=e3.seq hP;refine ⟨_,rfl,_,_,rfl,rfl,_,rfl,pl,_,2,_,rfl,rfl,PP,at2,_,_,rfl,rfl,⟨by decide,by decide⟩,_,rfl,ba,_,rfl,.inl BB,_,_,rfl,rfl,_,_,rfl,rfl,(by show (0:Int)<(xs.length:Int) - 1; lia),_,_,rfl,rfl,_,rfl,ba,_,rfl,.inl BB,_,_,rfl,rfl,(by show (0:Int)<(xs.length:Int); lia),?_⟩;dsimp only;have om0:=Int.emod_nonneg ((i:Int)+1+p2 / 3 % ((xs.length:Int) - 1)) (show (xs.length:Int)≠0 by lia);have om1:=Int.emod_lt_of_pos ((i:Int)+1+p2 / 3 % ((xs.length:Int) - 1)) (show (0:Int)<(xs.length:Int) by lia);generalize ((i:Int)+1+p2 / 3 % ((xs.length:Int) - 1)) % (xs.length:Int)=ot at om0 om1;obtain ⟨o,rfl⟩:∃ o:Nat,ot=(o:Int):=⟨ot.toNat,by lia⟩;have ho:o<us.length:=by lia
  have hi':i<us.length:=by lia
  have p01:p2 / 99 % 2=0\/p2 / 99 % 2=1:=by lia
  refine ⟨_,rfl,pl,_,2,_,rfl,rfl,PP,at2,_,_,rfl,rfl,⟨by decide,by decide⟩,_,_,rfl,rfl,(by show (0:Int)<2; decide),(by show 2<=sizeLine; decide),λ t2 k2=>?_⟩;dsimp only;generalize p2 / 99 % 2=p at p01;have s4:=Same.new k2 (.tup [V.int p,V.int 2]);have t2r:t2≠r:=Ne.symm (i6 hr3 k2);refine ⟨_,rfl,_,rfl,r,us,_,i,rfl,rfl,s4 _ _ hr3,V3 hi',?_⟩;have e4:Same H1 (upd (upd H3 t2 (.tup [V.int p,V.int 2])) r (.lst (us.set i (.ref t2)))):=P3 hrN (e3.trans s4);have ht2:(upd (upd H3 t2 (.tup [V.int p,V.int 2])) r (.lst (us.set i (.ref t2)))) t2=some (.tup [V.int p,V.int 2]):=by rw [i5 t2r]; exact upd_same
  have q4:Fqs (upd (upd H3 t2 (.tup [V.int p,V.int 2])) r (.lst (us.set i (.ref t2)))) 2000 2 us:=(q3.same s4).upd (s4 _ _ hr3);have hr4:=upd_same (H:=upd H3 t2 (.tup [V.int p,V.int 2])) (a:=r) (o:=.lst (us.set i (.ref t2)));generalize upd (upd H3 t2 (.tup [V.int p,V.int 2])) r (.lst (us.set i (.ref t2)))=H4 at *;have g4:M2 (us.set i (V.ref t2)) (i:Int)=some (V.ref t2):=r6 (List.getElem?_set_self hi');refine ⟨_,rfl,_,rfl,r,_,_,_,rfl,rfl,SqL.of hr4,g4,t2,_,0,_,rfl,rfl,SqT.of ht2,D5 _ _,p,2,rfl,by decide,Int.lt_of_lt_of_le (show (2:Int)<2 ^ 10 by decide) (a0j (by decide)),λ v5 H5 e5 hv5=>?_⟩;refine ⟨_,rfl,_,rfl,r,us.set i (.ref t2),_,i,rfl,rfl,e5 _ _ hr4,V3 (by rw [List.length_set]; exact hi'),?_⟩;rw [List.set_set];have hr5:=e5 _ _ hr4;have e5':Same H1 (upd H5 r (.lst (us.set i v5))):=P3 hrN (e4.trans e5);have bp:Big 2000 p:=by rcases p01 with rfl | rfl <;> (unfold Big; decide +kernel)
  have f5:Fq (upd H5 r (.lst (us.set i v5))) 2000 2 v5:=Fq.upd ⟨p,hv5,bp⟩ hr5;have q5:Fqs (upd H5 r (.lst (us.set i v5))) 2000 2 (us.set i v5):=a3G ((q4.same e5).upd hr5) f5;obtain ⟨a5,rfl,ha5⟩:=hv5;have a5r:a5≠r:=λ z=>by rw [z,hr5] at ha5; cases ha5
  have ha5':(upd H5 r (.lst (us.set i (.ref a5)))) a5=some (.tup [V.int (t7 p 2).1,V.int (t7 p 2).2]):=by rw [i5 a5r]; exact ha5
  have hr6:=upd_same (H:=H5) (a:=r) (o:=.lst (us.set i (.ref a5)));generalize upd H5 r (.lst (us.set i (.ref a5)))=H6 at *;have g6:M2 (us.set i (V.ref a5)) (i:Int)=some (V.ref a5):=r6 (List.getElem?_set_self hi');have lp:(t7 p 2=(0,1)\/t7 p 2=(1,2)):=by rcases p01 with rfl | rfl <;> decide
  have xb:Big 2000 (2 - (t7 p 2).1*2 / (t7 p 2).2):=by rcases lp with h | h <;> (rw [h]; unfold Big; decide +kernel)
  have c1':b0z (t7 p 2).1 2:=by rcases lp with h | h <;> (rw [h]; exact ⟨by unfold Big; exact Nat.lt_of_lt_of_le (by decide:_<2 ^ 10) (Nat.pow_le_pow_right (by decide) (by decide)),by unfold Big; exact Nat.lt_of_lt_of_le (by decide:_<2 ^ 10) (Nat.pow_le_pow_right (by decide) (by decide))⟩)
  have c2':∀ a:Int,b2T a (t7 p 2).2:=λ a=>by rcases lp with h | h <;> (rw [h]; exact ⟨by decide,by decide⟩)
  refine ⟨_,rfl,_,rfl,r,_,_,_,rfl,rfl,SqL.of hr6,g6,a5,_,0,_,rfl,rfl,SqT.of ha5',D5 _ _,_,_,rfl,rfl,c1',_,rfl,_,rfl,r,_,_,_,rfl,rfl,SqL.of hr6,g6,a5,_,1,_,rfl,rfl,SqT.of ha5',E8 _ _,_,_,rfl,rfl,c2' _,_,_,rfl,rfl,?_⟩;refine ⟨_,2,rfl,by decide,Int.lt_of_lt_of_le (show (2:Int)<2 ^ 10 by decide) (a0j (by decide)),λ v7 H7 e7 hv7=>?_⟩;have hr7:=e7 _ _ hr6;exact ⟨_,rfl,_,rfl,r,_,_,o,rfl,rfl,hr7,V3 (by rw [List.length_set]; exact ho),(us.set i (.ref a5)).set o v7,_,rfl,P3 hrN (e5'.trans e7),upd_same,by rw [List.length_set,List.length_set]; exact l3,a3G ((q5.same e7).upd hr7) (Fq.upd ⟨_,hv7,xb⟩ hr7)⟩
 intro σ4 H4 hM_; refine A4 λ G_ hG_=>?_; obtain ⟨us4,o5,rfl,e4,hr4,l4,q4⟩:=hM_; subst hG_;exact ⟨_,rfl,q _ _ e4 (b4U r hr4 q4 (by lia) (by lia))⟩
end
section
variable {P:Program} {w:World} {K:W.Frag} {mg:Str->Option Value} {base:Heap} {f:Addr} {fd:FuncData} {n:Nat} {CN Pt:Addr}
theorem scLaw:r8 ["script","book","cell","picks","number","some","sizes","found","mix","prices","both","handed","told","other"] ["script"] (i3 a1k):=⟨rfl,rfl,rfl,by decide +kernel,rfl,by decide +kernel,by decide +kernel⟩
structure Calls (P:Program) (w:World) (K:W.Frag) (mg:Str->Option Value) (base:Heap) (n:Nat) (CN Pt:Addr) (a1 a2 a3 a4 a5 a6 a7 a8 a9 a10:Addr) (d1 d2 d3 d4 d5 d6 d7 d8 d9 d10:FuncData):Prop where
 ab:X7 P w K mg base n "_law_a_book" ["script","at","most","far"] (a5U K) a1 d1
 ce:X7 P w K mg base n "_law_cell_at" ["script","k"] (a3z K) a2 d2
 dw:X7 P w K mg base n "_law_draws" ["cell","many","base"] (a1x K) a3 d3
 rm:a3c P w K mg base n "on_rim" ["book","number","sizes"] (a5P K CN Pt) a4 d4
 am:SCal P w K mg base n "_law_a_mix" ["book","number","found","picks"] (b0S K) a5 d5
 sp:SCal P w K mg base n "_law_spoilt" ["some","picks"] (b0T K) a6 d6
 bt:a3c P w K mg base n "beats" ["book","number","sizes","mix"] (b0y K CN) a7 d7
 lb:SCal P w K mg base n "_law_beats" ["book","number","sizes","mix"] (b0R K) a8 d8
 pr:a3c P w K mg base n "prices_rim" ["book","number","sizes","prices"] (b0M K CN) a9 d9
 st:SCal P w K mg base n "_law_stands" ["book","number","sizes","prices"] (a8W K) a10 d10
noncomputable def b4c {cdv:Value} {A:Around} {outer:List Env} {s:Shared} {H:Hp} {E:XK} {a1 a2 a3 a4 a5 a6 a7 a8 a9 a10:Addr} {d1 d2 d3 d4 d5 d6 d7 d8 d9 d10:FuncData} (T:w6 mg) (C:Calls P w K mg base n CN Pt a1 a2 a3 a4 a5 a6 a7 a8 a9 a10 d1 d2 d3 d4 d5 d6 d7 d8 d9 d10)
  (hr:Room n (A.deeper (PyProof.Rows.envOfC "law" (i3 a1k) s.heap.objs.size f cdv))) :
  { t:TS // PSs (G9 G2 P w K mg base ["script","book","cell","picks","number","some","sizes","found","mix","prices","both","handed","told","other"] "law" (i3 a1k) f cdv A outer s H E).nox (t9 a1k) t } :=
 ⟨_,p6 (m9 (i:=1) scLaw.nd rfl (Or.inl rfl) (j6 C.ab.ok hr rfl C.ab.m C.ab.k C.ab.b .nil t6 (c6 (pv 0) (c6 c7 (c6 c7
    (c6 (i9 j0 (x8 (c6 (j3 a0a c7 c7) (c6 c7 h8))) (j3 u9 (i9 j0 (j6 C.dw.ok hr rfl C.dw.m C.dw.k C.dw.b .nil t6 (c6 (j6 C.ce.ok hr rfl C.ce.m C.ce.k C.ce.b .nil t6 (c6 (pv 0) (c6 c7 h8))) (c6 c7 (c6 c7 h8)))) c7 (λ _ _=>rfl)) c7) (λ _ _=>rfl)) h8))))))
  (i4 (P7 PassesOwn.never rfl (A5 (j3 G4 (x8 (c6 (j6 C.ce.ok hr rfl C.ce.m C.ce.k C.ce.b .nil t6 (c6 (pv 0) (c6 c7 h8))) h8)) (D9 J7 (pv 0) (D2 c7) (D2 c7)))) (i8 (i:=2) scLaw.nd rfl (Or.inl rfl))
   (p6 (m9 (i:=3) scLaw.nd rfl (Or.inl rfl) (j6 C.dw.ok hr rfl C.dw.m C.dw.k C.dw.b .nil t6 (c6 (pv 2) (c6 c7 (c6 c7 h8)))))
   (i4 (m9 (i:=4) scLaw.nd rfl (Or.inl rfl) (j3 u9 (i9 j0 (pv 3) c7 (λ _ _=>rfl)) (j9 j7 rfl T.len PySem.boot_len (c6 (pv 1) h8))))
   (i4 (m9 (i:=5) scLaw.nd rfl (Or.inl rfl) (x8 (c6 D3 (c6 D3 (c6 D3 (c6 D3 h8))))))
   (p6 (m9 (i:=6) scLaw.nd rfl (Or.inl rfl) (i9 j0 (pv 5) (j3 u9 (i9 j0 (pv 3) c7 (λ _ _=>rfl)) c7) (λ _ _=>rfl)))
   (p6 (m9 (i:=7) scLaw.nd rfl (Or.inl rfl) (j6 C.rm.ok hr rfl C.rm.m C.rm.k C.rm.b .nil a4S (c6 (pv 1) (c6 (pv 4) (c6 (pv 6) h8)))))
   (p6 (m9 (i:=8) scLaw.nd rfl (Or.inl rfl) (j6 C.sp.ok hr rfl C.sp.m C.sp.k C.sp.b .nil t6 (c6 (j6 C.am.ok hr rfl C.am.m C.am.k C.am.b .nil t6 (c6 (pv 1) (c6 (pv 4) (c6 (pv 7) (c6 (pv 3) h8))))) (c6 (pv 3) h8))))
   (p6 (m9 (i:=9) scLaw.nd rfl (Or.inl rfl) (w4 (c6 (j3 X2 (x8 (c6 (w4 (c6 c7 (c6 c7 h8))) h8)) (j9 j7 rfl T.len PySem.boot_len (c6 (i9 t5 (i9 j0 (pv 1) c7 (λ _ _=>rfl)) c7 (λ _ _=>rfl)) h8))) (c6 (j3 X2 (x8 (c6 (w4 (c6 c7 (c6 c7 h8))) h8)) (j9 j7 rfl T.len PySem.boot_len (c6 (i9 t5 (i9 j0 (pv 1) c7 (λ _ _=>rfl)) c7 (λ _ _=>rfl)) h8))) (c6 (w4 (c6 c7 (c6 c7 h8))) h8)))))
   (p6 (x6 (p7 G8 (i9 t5 (pv 7) c7 (λ _ _=>rfl)) D3 (m8 _)) (i7 (m9 (i:=9) scLaw.nd rfl (Or.inl rfl) (i9 t5 (pv 7) c7 (λ _ _=>rfl)))) r9)
   (p6 (m9 (i:=10) scLaw.nd rfl (Or.inl rfl) (x8 (c6 (x9 C6 rfl T.list PyProof.Rows.boot_list (c6 (i9 t5 (pv 9) c7 (λ _ _=>rfl)) h8)) (c6 (x9 C6 rfl T.list PyProof.Rows.boot_list (c6 (i9 t5 (pv 9) c7 (λ _ _=>rfl)) h8)) h8))))
   (p6 (C7 (j6 C.sp.ok hr rfl C.sp.m C.sp.k C.sp.b .nil t6 (c6 (i9 j0 (pv 10) (j3 u9 (i9 j0 (pv 3) c7 (λ _ _=>rfl)) c7) (λ _ _=>rfl)) (c6 (pv 3) h8))) (M0 (pv 10) (j3 u9 (i9 j0 (pv 3) c7 (λ _ _=>rfl)) c7) D6))
   (p6 (x6 (p7 G8 (j3 u9 (i9 j0 (pv 3) c7 (λ _ _=>rfl)) c7) c7 (m8 _)) (i7 (m9 (i:=4) scLaw.nd rfl (Or.inl rfl) (j3 u9 (j3 C4 (pv 4) c7) (j9 j7 rfl T.len PySem.boot_len (c6 (pv 1) h8))))) r9)
   (p6 (x6 (p7 G8 (j3 u9 (i9 j0 (pv 3) c7 (λ _ _=>rfl)) c7) c7 (m8 _)) (i7 (m9 (i:=6) scLaw.nd rfl (Or.inl rfl) (i9 j0 (pv 5) (j3 u9 (j3 L8 (i9 j0 (pv 3) c7 (λ _ _=>rfl)) c7) c7) (λ _ _=>rfl)))) r9)
   (p6 (m9 (i:=9) scLaw.nd rfl (Or.inl rfl) (w4 (c6 (i9 j0 (pv 10) c7 (λ _ _=>rfl)) (c6 (i9 j0 (pv 10) c7 (λ _ _=>rfl)) (c6 (i9 t5 (pv 9) c7 (λ _ _=>rfl)) h8)))))
   (p6 (m9 (i:=11) scLaw.nd rfl (Or.inl rfl) (x8 (c6 (x9 C6 rfl T.list PyProof.Rows.boot_list (c6 (pv 8) h8)) (c6 (x9 C6 rfl T.list PyProof.Rows.boot_list (c6 (i9 j0 (pv 10) c7 (λ _ _=>rfl)) h8)) (c6 (x9 C6 rfl T.list PyProof.Rows.boot_list (c6 (i9 j0 (pv 10) c7 (λ _ _=>rfl)) h8)) h8)))))
   (p6 (m9 (i:=12) scLaw.nd rfl (Or.inl rfl) (j6 C.bt.ok hr rfl C.bt.m C.bt.k C.bt.b .nil a4S (c6 (pv 1) (c6 (pv 4) (c6 (pv 6) (c6 (i9 j0 (pv 11) c7 (λ _ _=>rfl)) h8))))))
   (p6 (x6 (PW.pt (a1O (V1 (K9 (j9 a1b rfl T.isi PyProof.Rows.boot_isinstance (c6 (pv 12) (c6 (a6j (v:=.ty "bool") rfl T.bool PyProof.Rows.boot_bool rfl) h8))))) (a0f (p7 a0z (pv 12) (j6 C.lb.ok hr rfl C.lb.m C.lb.k C.lb.b .nil t6 (c6 (pv 1) (c6 (pv 4) (c6 (pv 6) (c6 (pv 8) h8))))) (m8 _))))) (i7 (m6 J8)) r9)
   (p6 (m9 (i:=13) scLaw.nd rfl (Or.inl rfl) (w4 (c6 (i9 j0 (pv 11) c7 (λ _ _=>rfl)) (c6 (i9 j0 (pv 11) c7 (λ _ _=>rfl)) (c6 (i9 t5 (pv 9) c7 (λ _ _=>rfl)) h8)))))
   (p6 (m9 (i:=12) scLaw.nd rfl (Or.inl rfl) (j6 C.pr.ok hr rfl C.pr.m C.pr.k C.pr.b .nil a4S (c6 (x9 C6 rfl T.list PyProof.Rows.boot_list (c6 (pv 1) h8)) (c6 (pv 4) (c6 (pv 6) (c6 (pv 13) h8))))))
   (p6 (x6 (PW.pt (a1O (V1 (K9 (j9 a1b rfl T.isi PyProof.Rows.boot_isinstance (c6 (pv 12) (c6 (a6j (v:=.ty "bool") rfl T.bool PyProof.Rows.boot_bool rfl) h8))))) (a0f (p7 a0z (pv 12) (j6 C.st.ok hr rfl C.st.m C.st.k C.st.b .nil t6 (c6 (pv 1) (c6 (pv 4) (c6 (pv 6) (c6 (pv 9) h8))))) (m8 _))))) (i7 (m6 J8)) r9)
   (i7 (x6 (p7 (Z8 hr) (pv 11) (x8 (c6 (pv 8) (c6 (i9 j0 (pv 10) c7 (λ _ _=>rfl)) (c6 (i9 j0 (pv 10) c7 (λ _ _=>rfl)) h8)))) (m8 _)) (i7 (m6 J8)) r9))))))))))))))))))))))
  (i7 (m6 J8)))⟩
end
section
variable {P:Program} {w:World} {K:W.Frag} {mg:Str->Option Value} {base:Heap} {f d:Addr} {fd:FuncData} {n:Nat} {CN Pt:Addr}
theorem SCal.ct {fa:Addr} {da:FuncData} (C:SCal P w K mg base n "come_to" ["amounts","tops"] (a0u K) fa da):SCal P w K mg base n "come_to" ["amounts","tops"] (a1A K) fa da :=
 ⟨C.ok.imp λ vs H Q E h=>by
  obtain ⟨a,t,xs,ys,rfl,ha,ht,hl,hx,hy,k⟩:=h;exact ⟨true,false,a,t,xs,ys,rfl,ha,ht,hl,λ x hx'=>(hx x hx').mono (by decide),λ y hy'=>(hy y hy').mono (by decide),k⟩,C.b,C.k,C.m⟩
theorem a5c {f1 f2:Addr} {d1 d2:FuncData} (F:Fun K "told_prices" "told_prices" K1 f fd) (N:w6 mg) (G:Sg K w.params mg d) (Cl:X7 P w K mg base n "lowest" ["top","bottom"] L7 f1 d1) (Cc:SCal P w K mg base n "come_to" ["amounts","tops"] (a0u K) f2 d2):FnOk P w K mg base G2 (n+1) f fd ["house","sizes","amounts","bottom"] (a0l K):=a7c F N G Cl Cc.ct
end
def PrcF (H:Hp) (v:V) (N lo hi:Nat) (D:Int):Prop:=∃ (p fa ga:Addr) (u:V) (fts gts:List V),v=.ref p/\H p=some (.tup [.ref fa,.ref ga,u])/\H fa=some (.lst fts)/\H ga=some (.lst gts)/\Fqs H N D fts/\Fqs H N D gts/\Fq H N D u/\lo<=fts.length/\fts.length<=hi/\lo<=gts.length/\gts.length<=hi
theorem PrcF.same {H H':Hp} {v:V} {N lo hi:Nat} {D:Int} (h:PrcF H v N lo hi D) (e:Same H H'):PrcF H' v N lo hi D:=by
 obtain ⟨p,fa,ga,u,fts,gts,h1,h2,h3,h4,h5,h6,h7,r⟩:=h;exact ⟨p,fa,ga,u,fts,gts,h1,e _ _ h2,e _ _ h3,e _ _ h4,h5.same e,h6.same e,h7.same e,r⟩
theorem d20 {x:Int} (hx:0<x) (hb:Big 1400 x):x<2 ^ 2000:=by
 have h0:x.natAbs<2 ^ 2000:=hb.mono (by decide);have h3:x=(x.natAbs:Int):=by lia
 rw [h3]
 exact_mod_cast h0
theorem a9y {z:Str} {hs:List j5} {h:j5} {S:Lp.Bo} {far:Int} {kt kg i:Nat} (hz:Szw z) (B:a1M z hs h S) (hG:∀ g∈hs,HG far kt kg g) (hh:hs[i]?=some h) (kt1:1<=kt) (kt4:kt<=20) (kg4:kg<=20) (hf:far<=2 ^ 50) (h16:hs.length<=16) (h0:¬ 0<S.T (mF hs) (qF z h)) {H:Hp} {ml:Addr} {mts:List V} (hml:H ml=some (.lst mts)) (hm:FrsAt H mts ((A8 (mF hs) (qF z h) S).take hs.length) ((A8 (mF hs) (qF z h) S).getD hs.length 0)):a9g H (.ref ml):=by
 obtain ⟨bt,_,_⟩:=a6U hz B hG hh kt1 h0;have gh:=hG h (List.mem_of_getElem? hh);have sz:=a4y B.1 (a5H gh hG hf kt4 kg4 _) (by show hs.length+2<20; lia);have lw:(A8 (mF hs) (qF z h) S).length=hs.length+2:=by unfold A8; simp
 have hi:=(List.getElem?_eq_some_iff.mp hh).1;have lm:mts.length=hs.length:=by rw [hm.1,List.length_take,lw]; lia
 have bD:Big 1400 ((A8 (mF hs) (qF z h) S).getD hs.length 0):=a2z B.1 sz (M4 (by lia));exact ⟨ml,mts,_,rfl,hml,a3y hm λ x hx=>(a2z B.1 sz (List.mem_of_mem_take hx)).mono (by decide),by lia,by lia,bt.m.d,d20 bt.m.d bD⟩
theorem a9w {z:Str} {hs:List j5} {h:j5} {S:Lp.Bo} {far:Int} {kt kg i:Nat} (B:a1M z hs h S) (hG:∀ g∈hs,HG far kt kg g) (hh:hs[i]?=some h) (kt1:1<=kt) (kt4:kt<=4) (kg1:1<=kg) (kg4:kg<=4) (hf:far<=2 ^ 50) (h16:hs.length<=16) {H:Hp} {v:V} (p:a4t H v z h (rzA z hs h S) S.d):PrcF H v 2000 1 50 S.d/\0<S.d/\S.d<2 ^ 2000:=by
 have gh:=hG h (List.mem_of_getElem? hh);have sz:=a4y B.1 (a5H gh hG hf (by lia) (by lia) _) (by show hs.length+2<20; lia);have am:∀ x∈y4 (mF hs) (qF z h) S,Big 1400 x:=λ x hx=>a5o B.1 sz hx;have sT:=sz.1 (mF hs) (qF z h) (by lia) (by lia);have rz:∀ x∈rzA z hs h S,Big 1500 x:=λ x hx=>by
  rcases List.mem_append.mp hx with hx | hx
  ·obtain ⟨y,hy,rfl⟩:=List.mem_map.mp hx
   exact (Big.add (am y (List.mem_of_mem_take (List.mem_of_mem_take hy))) sT).mono (by decide)
  ·exact (am x (List.mem_of_mem_take (List.mem_of_mem_drop hx))).mono (by decide)
 have la:(y4 (mF hs) (qF z h) S).length=qE z h+1:=by unfold y4; simp
 have qe:qE z h=h.1.length+h.2.length+(S2 z).length:=rfl;have lr:(rzA z hs h S).length=qE z h:=by
  show (((((y4 (mF hs) (qF z h) S).take (qE z h)).take (h.1.length+h.2.length)).map _)++_).length=_
  rw [List.length_append,List.length_map,List.length_take,List.length_drop,List.length_take,la]; lia
 obtain ⟨t,fa,ga,u,fts,gts,rfl,q1,q2,q3,q4,q5,q6⟩:=p;generalize rzA z hs h S=rs at *;have lt:=gh.lt;have lg:=gh.lg;have sg:=a0r z;have lf:fts.length=kt:=by rw [q3.1,List.length_take,lr]; lia
 have lgg:gts.length=kg:=by rw [q5.1,List.length_take,List.length_drop,lr]; lia
 have sgb:∀ y∈S2 z,Big 100 y:=λ y hy=>Nat.lt_of_le_of_lt (a3g z y hy) (Nat.pow_lt_pow_right (by decide) (by decide));refine ⟨⟨t,fa,ga,u,fts,gts,rfl,q1,q2,q4,a3y q3 λ x hx=>(rz x (List.mem_of_mem_take hx)).mono (by decide),a3y q5 λ x hx=>(rz x (List.mem_of_mem_drop (List.mem_of_mem_take hx))).mono (by decide),⟨_,q6,?_⟩,by lia,by lia,by lia,by lia⟩,B.1.w.pos,d20 B.1.w.pos sz.2⟩;exact (Y6 (a1W (λ x hx=>rz x (List.mem_of_mem_drop hx)) sgb) (by rw [List.length_zipWith]; lia)).mono (by decide)
theorem a6m {m:Nat} {x y:V} (h:y∈(List.replicate m [x]).flatten):y=x:=by
 obtain ⟨l,hl,hy⟩:=List.mem_flatten.mp h;rw [(List.mem_replicate.mp hl).2] at hy;exact List.mem_singleton.mp hy
theorem b0Y {k:Nat} (hk:k<4):∃ z:Str,M2 [V.str "any",V.str "one",V.str "less",V.str "more"] (k:Int)=some (.str z)/\Szw z:=by
 match k,hk with
 | 0,_=>exact ⟨_,r6 (j:=0) rfl,.inl rfl⟩
 | 1,_=>exact ⟨_,r6 (j:=1) rfl,.inr (.inl rfl)⟩
 | 2,_=>exact ⟨_,r6 (j:=2) rfl,.inr (.inr (.inl rfl))⟩
 | 3,_=>exact ⟨_,r6 (j:=3) rfl,.inr (.inr (.inr rfl))⟩
theorem a0M {x m:Int} (h:0<m):∃ k:Nat,x % m=(k:Int)/\(k:Int)<m:=⟨(x % m).toNat,by have:=Int.emod_nonneg x (show m≠0 by lia); lia,by have:=Int.emod_nonneg x (show m≠0 by lia); have:=Int.emod_lt_of_pos x h; lia⟩
section
variable {P:Program} {w:World} {K:W.Frag} {mg:Str->Option Value} {base:Heap} {f:Addr} {fd:FuncData} {n:Nat} {CN Pt:Addr}
def a5B (K:W.Frag) (Pt:Addr):Sp:=λ vs H Q _=>∃ (a:Addr) (ns:List Int),vs=[.ref a]/\SqL K H a (ns.map V.int)/\ns.length<=63/\LT Pt H/\∀ H',Q (.bl true) H'
theorem b1q {a1 a2 a3 a4 a5 a6 a7 a8 a9 a10:Addr} {d1 d2 d3 d4 d5 d6 d7 d8 d9 d10:FuncData} (F:Fun K "law" "law" a1k f fd) (T:w6 mg) (C:Calls P w K mg base n CN Pt a1 a2 a3 a4 a5 a6 a7 a8 a9 a10 d1 d2 d3 d4 d5 d6 d7 d8 d9 d10) :
  FnOk P w K mg base G2 (n+1) f fd ["script"] (a5B K Pt):=by
 refine F.ok scLaw (λ vs H Q E h=>?_) (λ cdv A outer s H vs Q E hr h=>?_)
 ·obtain ⟨a,ns,rfl,_⟩:=h
  rfl
 obtain ⟨a,ns,rfl,hS,h63,L,q⟩:=h;refine ⟨_,(b4c T C hr).2,?_⟩;refine ⟨λ σ' H1=>∃ (bl:Addr) (xs:List V) (hs:List j5) (kt kg:Nat) (far:Int),σ'=[some (.ref a),some (.ref bl),none,none,none,none,none,none,none,none,none,none,none,none]/\Same H H1/\H1 bl=some (.lst xs)/\Bk K H1 xs hs/\1<=hs.length/\hs.length<=16/\1<=kt/\kt<=4/\1<=kg/\kg<=4/\far<=2 ^ 50/\∀ h∈hs,HG far kt kg h,?_,?_⟩
 ·refine ⟨_,rfl,_,_,rfl,rfl,⟨by decide,by decide,by decide⟩,(by show 2<=sizeLine; decide),λ l hl=>?_⟩
  have s1:=Same.new hl (.lst [V.int (10 ^ (9:Int).toNat),V.int 1000]);refine ⟨_,rfl,a,ns,2,rfl,s1.seq hS,by decide,λ c=>?_⟩;refine ⟨c,1,4,rfl,by decide,by decide,by decide,λ r H2 ds e2 hr2 ld bd=>?_⟩;obtain ⟨d0,rfl⟩:∃ d0,ds=[d0]:=by
   match ds,ld with
   | [d0],_=>exact ⟨d0,rfl⟩
  refine ⟨r,_,0,_,rfl,rfl,SqL.of hr2,r6 (j:=0) rfl,_,_,rfl,rfl,(by show (0:Int)<2; decide),?_⟩;obtain ⟨k,hk,hk2⟩:=a0M (x:=d0) (m:=2) (by decide);dsimp only;rw [hk];have e02:=s1.trans e2;have hk':k=0\/k=1:=by lia
  rcases hk' with rfl | rfl
  ·refine ⟨l,_,_,_,rfl,rfl,SqL.of (e2 _ _ upd_same),r6 (j:=0) rfl,a,ns,0,8,_,rfl,e02.seq hS,by decide,by decide,by decide,by decide,λ bl H1 xs hs kt kg e1 hbl hB hn1 hn16 kt1 kt4 kg1 kg4 hG=>?_⟩
   exact ⟨bl,xs,hs,kt,kg,_,rfl,e02.trans e1,hbl,hB,hn1,by lia,kt1,kt4,kg1,kg4,by decide,hG⟩
  ·refine ⟨l,_,_,_,rfl,rfl,SqL.of (e2 _ _ upd_same),r6 (j:=1) rfl,a,ns,0,8,_,rfl,e02.seq hS,by decide,by decide,by decide,by decide,λ bl H1 xs hs kt kg e1 hbl hB hn1 hn16 kt1 kt4 kg1 kg4 hG=>?_⟩
   exact ⟨bl,xs,hs,kt,kg,_,rfl,e02.trans e1,hbl,hB,hn1,by lia,kt1,kt4,kg1,kg4,by decide,hG⟩
 intro σ1 H1 hM_; refine A4 λ G_ hG_=>?_; obtain ⟨bl,xs,hs,kt,kg,far,rfl,e1,hbl,hB,hn1,hn16,kt1,kt4,kg1,kg4,hfar,hG⟩:=hM_; subst hG_;have L1:=L.same e1;have xlen:xs.length=hs.length:=Paired.length hB;refine ⟨_,rfl,a,ns,3,rfl,e1.seq hS,by decide,λ c0=>?_⟩;refine ⟨(by show 1<=sizeLine; decide),λ l0 hl0=>?_⟩;have f0:=Same.new hl0 (.lst [V.int c0]);refine ⟨_,rfl,_,rfl,_,rfl,a,_,rfl,f0.seq (e1.seq hS),λ l1 hl1=>?_⟩;have lc:=R9 (ns.map V.int) (some 4) (some 13);rw [List.length_map] at lc;have mc:∀ v∈E5 (ns.map V.int) (some 4) (some 13),∃ c,v=.int c:=λ v hv=>by
  obtain ⟨c,_,rfl⟩:=List.mem_map.mp (show v∈ns.map V.int from List.mem_of_mem_drop (List.mem_of_mem_take hv));exact ⟨c,rfl⟩
 generalize E5 (ns.map V.int) (some 4) (some 13)=cs at *;have f1:=Same.new hl1 (.lst cs);have s1k:=j8 (show (1000:Nat)<=1000 from Nat.le_refl _);refine ⟨l0,l1,_,_,rfl,rfl,f1 _ _ upd_same,upd_same,by show 1+cs.length<=sizeLine; lia,λ l2 hl2=>?_⟩;have f2:=Same.new hl2 (.lst ([V.int c0]++cs));refine ⟨l2,rfl,⟨_,SqL.of upd_same⟩,?_⟩;have e2:Same H1 _:=f0.trans (f1.trans f2);have itn:∀ (i:Nat) (x:V),([V.int c0]++cs)[i]?=some x->∃ c,x=.int c:=λ i x hx=>by
  rcases List.mem_append.mp (List.mem_of_getElem? hx) with z | z
  ·exact ⟨c0,List.mem_singleton.mp z⟩
  ·exact mc x z
 have hl2':=upd_same (H:=upd (upd H1 l0 (.lst [V.int c0])) l1 (.lst cs)) (a:=l2) (o:=.lst ([V.int c0]++cs));generalize [V.int c0]++cs=cl at *;have L2':=L1.same e2;have hbl2:=e2 _ _ hbl;have B2:=Bk.same e2 hB;generalize upd (upd (upd H1 l0 (.lst [V.int c0])) l1 (.lst cs)) l2 (.lst cl)=G at *;have get:∀ {H':Hp} {b:Addr} {vs:List V},G b=some (.lst vs)->Same1 Pt G H'->H' b=some (.lst vs):=λ h e=>e.get L2' h nofun;refine a4z (xs:=cl) (λ i σ H'=>∃ o2 o3 o4 o5 o6 o7 o8 o9 o10 o11 o12 o13,σ=[some (.ref a),some (.ref bl),o2,o3,o4,o5,o6,o7,o8,o9,o10,o11,o12,o13]/\Same1 Pt G H'/\LT Pt H')
  ⟨_,_,_,_,_,_,_,_,_,_,_,_,rfl,Same1.refl,L2'⟩ (λ i σ H' _ ⟨_,_,_,_,_,_,_,_,_,_,_,_,_,h2,_⟩=>SqL.of (get hl2' h2)) ?_ ?_
 rotate_left
 ·intro σ H3 hM_; refine A4 λ G_ hG_=>?_; obtain ⟨o2,o3,o4,o5,o6,o7,o8,o9,o10,o11,o12,o13,rfl,e3,L3⟩:=hM_; subst hG_
  exact q _
 rintro i x σ H3 hx ⟨o2,o3,o4,o5,o6,o7,o8,o9,o10,o11,o12,o13,rfl,e3,L3⟩;obtain ⟨c,rfl⟩:=itn i x hx;have hbl3:=get hbl2 e3;have B3:Bk K H3 xs hs:=Bk.same1 L2' e3 B2;refine ⟨λ σ' H'=>∃ (pk:Addr) (ds:List Int),σ'=[some (.ref a),some (.ref bl),some (.int c),some (.ref pk),o4,o5,o6,o7,o8,o9,o10,o11,o12,o13]/\Same H3 H'/\H' pk=some (.lst (ds.map V.int))/\ds.length=8,?_,?_⟩
 ·exact ⟨_,rfl,c,8,1000,rfl,by decide,by decide,by decide,λ pk H4 ds e4 hpk ld bd=>⟨pk,ds,rfl,e4,hpk,ld⟩⟩
 intro σ4 H4 hM_; refine A4 λ G_ hG_=>?_; obtain ⟨pk,ds,rfl,e4,hpk,ld⟩:=hM_; subst hG_;have atp:∀ {j:Nat},j<8->M2 (ds.map V.int) (j:Int)=some (V.int (ds.getD j 0)):=λ {j} hj=>r6 (P6 (by lia));have hbl4:=e4 _ _ hbl3;refine ⟨_,rfl,pk,_,5,_,rfl,rfl,SqL.of hpk,atp (j:=5) (by decide),_,rfl,bl,_,rfl,.inl (SqL.of hbl4),_,_,rfl,rfl,(by show (0:Int)<(xs.length:Int); lia),?_⟩;obtain ⟨i0,hi0,hi0'⟩:=a0M (x:=ds.getD 5 0) (m:=(xs.length:Int)) (by lia);dsimp only;rw [hi0];refine ⟨(by show 4<=sizeLine; decide),λ sl hsl=>?_⟩;have s5:=Same.new hsl (.lst [V.str "any",V.str "one",V.str "less",V.str "more"]);have hsl5:=upd_same (H:=H4) (a:=sl) (o:=.lst [V.str "any",V.str "one",V.str "less",V.str "more"]);have e5:=e4.trans s5;refine ⟨λ σ' H'=>∃ z:Str,Szw z/\σ'=[some (.ref a),some (.ref bl),some (.int c),some (.ref pk),some (.int (i0:Int)),some (.ref sl),some (.str z),o7,o8,o9,o10,o11,o12,o13]/\H'=upd H4 sl (.lst [V.str "any",V.str "one",V.str "less",V.str "more"]),?_,?_⟩
 ·obtain ⟨k6,hk6,hk6'⟩:=a0M (x:=ds.getD 6 0) (m:=4) (by decide)
  obtain ⟨z,hz1,hz⟩:=b0Y (k:=k6) (by lia);refine ⟨_,rfl,_,rfl,pk,_,6,_,rfl,rfl,SqL.of (s5 _ _ hpk),atp (j:=6) (by decide),_,_,rfl,rfl,(by show (0:Int)<4; decide),?_⟩;dsimp only;rw [hk6];exact ⟨sl,_,_,_,rfl,rfl,SqL.of hsl5,hz1,z,hz,rfl,rfl⟩
 intro σ5 H5 hM_; refine A4 λ G_ hG_=>?_; obtain ⟨z,hz,rfl,hH5⟩:=hM_; subst hG_;rw [<- hH5] at hsl5 s5 e5
 clear hH5
 have L5:=L3.same e5;have hbl5:=e5 _ _ hbl3;have B5:=Bk.same e5 B3;have hpk5:=s5 _ _ hpk;have hil:i0<hs.length:=by lia
 obtain ⟨h0,hh0⟩:∃ h,hs[i0]?=some h:=⟨_,List.getElem?_eq_getElem hil⟩;have BI:W6 K H5 bl xs hs far kt kg:=⟨SqL.of hbl5,B5,hG,by lia,hn16,by lia,by lia⟩;have gd:a3O xs.length (i0:Int):=⟨by lia,by lia⟩;refine ⟨λ σ' H'=>∃ (t:Addr) (wd:Str) (v:V),σ'=[some (.ref a),some (.ref bl),some (.int c),some (.ref pk),some (.int (i0:Int)),some (.ref sl),some (.str z),some (.ref t),o8,o9,o10,o11,o12,o13]/\Same1 Pt H5 H'/\LT Pt H'/\H' t=some (.tup [.str wd,v])/\(wd="beaten"->a9g H' v)/\(wd="rim"->∃ D,PrcF H' v 2000 1 50 D/\0<D/\D<2 ^ 2000),?_,?_⟩
 ·refine ⟨_,rfl,_,rfl,_,rfl,bl,xs,hs,(i0:Int),z,far,kt,kg,rfl,hz,BI,hfar,kt1,a3n (by lia),L5,λ i' h S H6 t v hi' hh BS hp e6 L6 ht hpr=>?_,λ i' h S H6 t ml mts hi' hh BS hp e6 L6 ht hml hmlN hmts=>?_,λ bad=>absurd gd bad⟩
  ·exact ⟨t,_,v,rfl,e6,L6,ht,λ e=>absurd e (by decide),λ _=>⟨S.d,a9w BS hG hh kt1 kt4 kg1 kg4 hfar hn16 hpr⟩⟩
  ·exact ⟨t,_,_,rfl,e6,L6,ht,λ _=>a9y hz BS hG hh kt1 (by lia) (by lia) hfar hn16 hp hml hmts,λ e=>absurd e (by decide)⟩
 intro σ6 H6 hM_; refine A4 λ G_ hG_=>?_; obtain ⟨t,wd,v,rfl,e6,L6,ht,hbe,hri⟩:=hM_; subst hG_;have get6:∀ {b:Addr} {vs:List V},H5 b=some (.lst vs)->H6 b=some (.lst vs):=λ h=>e6.get L5 h nofun;have hbl6:=get6 hbl5;have hpk6:=get6 hpk5;have hsl6:=get6 hsl5;have B6:Bk K H6 xs hs:=Bk.same1 L5 e6 B5;have e36:Same1 Pt G H6:=e3.trans (e5.to1.trans e6);refine ⟨λ σ' H'=>∃ (ml:Addr) (ms:List V) (D:Int),σ'=[some (.ref a),some (.ref bl),some (.int c),some (.ref pk),some (.int (i0:Int)),some (.ref sl),some (.str z),some (.ref t),some (.ref ml),o9,o10,o11,o12,o13]/\Same H6 H'/\H' ml=some (.lst ms)/\ms.length<=60/\Fqs H' 3000 (D*bF) ms/\0<D/\D<2 ^ 2000,?_,?_⟩
 ·refine ⟨_,rfl,_,rfl,_,rfl,_,rfl,bl,t,pk,xs,i0,wd,v,ds,rfl,SqL.of hbl6,by lia,by lia,ht,hbe,SqL.of hpk6,by lia,λ r H' e' hr'=>?_⟩
  obtain ⟨r',us,D,rfl,h1,h2,h3,h4,h5,h6⟩:=hr';refine ⟨_,rfl,r',pk,us,ds,D,rfl,h1,SqL.of (e' _ _ hpk6),by lia,h2,h3,h4,h5,h6,λ r2 ws H2 e2 g1 g2 g3=>?_⟩;exact ⟨r2,ws,D,rfl,e'.trans e2,g1,g3,g2,h5,h6⟩
 intro σ7 H7 hM_; refine A4 λ G_ hG_=>?_; obtain ⟨ml,ms,Dm,rfl,e7,hml,lms,qms,dm1,dm2⟩:=hM_; subst hG_;have hbl7:=e7 _ _ hbl6;obtain ⟨xv0,hxv0⟩:∃ xv,xs[0]?=some xv:=⟨_,List.getElem?_eq_getElem (by lia)⟩;obtain ⟨g0,hg0,⟨a0,t0,ga0,rfl,r1,r2,r3⟩⟩:=Paired.at (Bk.same e7 B6) hxv0;have gg0:=hG g0 (List.mem_of_getElem? hg0);have s1k:=j8 (show (1000:Nat)<=1000 from Nat.le_refl _);have at00:M2 xs 0=some (V.ref a0):=r6 (j:=0) hxv0;have lt0:(g0.1.map V.int).length=kt:=by rw [List.length_map]; exact gg0.lt
 have lg0:(g0.2.map V.int).length=kg:=by rw [List.length_map]; exact gg0.lg
 refine ⟨λ σ' H'=>∃ v9:V,σ'=[some (.ref a),some (.ref bl),some (.int c),some (.ref pk),some (.int (i0:Int)),some (.ref sl),some (.str z),some (.ref t),some (.ref ml),some v9,o10,o11,o12,o13]/\Same H7 H'/\PrcF H' v9 2000 1 50 9,?_,?_⟩
 ·refine ⟨(by show 2<=sizeLine; decide),λ u0 k0=>?_⟩
  have s0:=Same.new k0 (.tup [V.int 1,V.int 1]);refine ⟨(by show 1<=sizeLine; decide),λ l0 kl0=>?_⟩;have s1:=Same.new kl0 (.lst [V.ref u0]);have f1:=s0.trans s1;refine ⟨_,rfl,bl,_,0,_,rfl,rfl,SqL.of (f1 _ _ hbl7),at00,a0,_,0,_,rfl,rfl,f1.tseq r1,D5 _ _,t0,_,rfl,.inr (f1.tseq r2),l0,_,[V.ref u0],rfl,rfl,upd_same,by lia,by lia,(by show 1*(((g0.1.map V.int).length:Int)).toNat<=sizeLine; lia),λ r kr=>?_⟩;have s2:=Same.new kr (.lst (List.replicate (((g0.1.map V.int).length:Int)).toNat [V.ref u0]).flatten);have f2:=f1.trans s2;refine ⟨(by show 2<=sizeLine; decide),λ u1 k1=>?_⟩;have s3:=Same.new k1 (.tup [V.int 1,V.int 9]);refine ⟨(by show 1<=sizeLine; decide),λ l1 kl1=>?_⟩;have s4:=Same.new kl1 (.lst [V.ref u1]);have f4:=f2.trans (s3.trans s4);refine ⟨_,rfl,bl,_,0,_,rfl,rfl,SqL.of (f4 _ _ hbl7),at00,a0,_,1,_,rfl,rfl,f4.tseq r1,E8 _ _,ga0,_,rfl,.inr (f4.tseq r3),l1,_,[V.ref u1],rfl,rfl,upd_same,by lia,by lia,(by show 1*(((g0.2.map V.int).length:Int)).toNat<=sizeLine; lia),λ r' kr'=>?_⟩;have s5':=Same.new kr' (.lst (List.replicate (((g0.2.map V.int).length:Int)).toNat [V.ref u1]).flatten);refine ⟨(by show 2<=sizeLine; decide),λ u2 k2=>?_⟩;have s6:=Same.new k2 (.tup [V.int 0,V.int 1]);refine ⟨(by show 3<=sizeLine; decide),λ tp ktp=>?_⟩;have s7:=Same.new ktp (.tup [V.ref r,V.ref r',V.ref u2]);have f7:=f4.trans (s5'.trans (s6.trans s7));refine ⟨_,rfl,f7,tp,r,r',_,_,_,rfl,upd_same,(s3.trans (s4.trans (s5'.trans (s6.trans s7)))) _ _ upd_same,(s6.trans s7) _ _ upd_same,λ y hy=>?_,λ y hy=>?_,⟨0,⟨u2,rfl,?_⟩,by unfold Big; decide +kernel⟩,?_,?_,?_,?_⟩
  ·rw [a6m hy]
   refine ⟨9,⟨u0,rfl,?_⟩,by unfold Big; decide +kernel⟩;rw [show t7 9 9=(1,1) by decide];exact (s1.trans (s2.trans (s3.trans (s4.trans (s5'.trans (s6.trans s7)))))) _ _ upd_same
  ·rw [a6m hy]
   refine ⟨1,⟨u1,rfl,?_⟩,by unfold Big; decide +kernel⟩;rw [show t7 1 9=(1,9) by decide];exact (s4.trans (s5'.trans (s6.trans s7))) _ _ upd_same
  ·rw [show t7 0 9=(0,1) by decide]
   exact s7 _ _ upd_same
  all_goals (have z1:=gg0.lt; have z2:=gg0.lg; rw [a2W]; simp; lia)
 intro σ8 H8 hM_; refine A4 λ G_ hG_=>?_; obtain ⟨v8,rfl,e8,pf8⟩:=hM_; subst hG_;have e68:=e7.trans e8;refine ⟨λ σ' H'=>∃ (v9:V) (D:Int),σ'=[some (.ref a),some (.ref bl),some (.int c),some (.ref pk),some (.int (i0:Int)),some (.ref sl),some (.str z),some (.ref t),some (.ref ml),some v9,o10,o11,o12,o13]/\H'=H8/\PrcF H8 v9 2000 1 50 D/\0<D/\D<2 ^ 2000,?_,?_⟩
 ·refine ⟨_,rfl,t,_,0,_,rfl,rfl,SqT.of (e68 _ _ ht),D5 _ _,rfl,_,rfl,w8 (λ cc=>?_) (λ _=>⟨v8,9,rfl,rfl,pf8,by decide,Int.lt_of_lt_of_le (show (9:Int)<2 ^ 10 by decide) (a0j (by decide))⟩)⟩
  have cw:V.str wd=V.str "rim":=by simpa using cc
  obtain ⟨D,p1,p2,p3⟩:=hri (V.str.inj cw);exact ⟨_,rfl,t,_,1,_,rfl,rfl,SqT.of (e68 _ _ ht),E8 _ _,v,D,rfl,rfl,p1.same e68,p2,p3⟩
 intro σ9 H9 hM_; refine A4 λ G_ hG_=>?_; obtain ⟨v9,D,rfl,rfl,⟨p,fa,ga,u,fts,gts,rfl,hp,hfa,hga,qf,qg,qu,f1,f2,g1,g2⟩,hD,hD2⟩:=hM_; subst hG_;refine ⟨λ σ' H'=>∃ bo b0 b1:Addr,σ'=[some (.ref a),some (.ref bl),some (.int c),some (.ref pk),some (.int (i0:Int)),some (.ref sl),some (.str z),some (.ref t),some (.ref ml),some (.ref p),some (.ref bo),o11,o12,o13]/\Same H9 H'/\H9 bo=none/\H' bo=some (.lst [.ref b0,.ref b1])/\H' b0=some (.lst fts)/\H' b1=some (.lst gts),?_,?_⟩
 ·refine ⟨_,rfl,p,_,0,_,rfl,rfl,SqT.of hp,a2b _ _ _,fa,_,rfl,.inl (SqL.of hfa),λ b0 k0=>?_⟩
  have s0:=Same.new k0 (.lst fts);refine ⟨_,rfl,p,_,1,_,rfl,rfl,SqT.of (s0 _ _ hp),a1H _ _ _,ga,_,rfl,.inl (SqL.of (s0 _ _ hga)),λ b1 k1=>?_⟩;have s1:=Same.new k1 (.lst gts);refine ⟨(by show 2<=sizeLine; decide),λ bo kbo=>?_⟩;have s2:=Same.new kbo (.lst [V.ref b0,V.ref b1]);refine ⟨bo,b0,b1,rfl,s0.trans (s1.trans s2),?_,upd_same,(s1.trans s2) _ _ upd_same,s2 _ _ upd_same⟩
  cases zz:H9 bo with
  | none=>rfl
  | some o=>rw [(s0.trans s1) _ _ zz] at kbo; cases kbo
 intro σ10 H10 hM_; refine A4 λ G_ hG_=>?_; obtain ⟨bo,b0,b1,rfl,e10,hboN,hbo,hb0,hb1⟩:=hM_; subst hG_;have e610:=e68.trans e10;have hpk10:=e610 _ _ hpk6;have hbl10:=e610 _ _ hbl6;have hsl10:=e610 _ _ hsl6;have B10:=Bk.same e610 B6;have qf10:=qf.same e10;have qg10:=qg.same e10;have DF:=Int.mul_pos hD a2c;have up:∀ {H':Hp} {us:List V},Fqs H' 2000 D us->Fqs H' 3000 (D*bF) us:=λ h y hy=>(h y hy).up hD;refine ⟨λ σ' H'=>∃ (c0 c1:Addr) (us0 us1:List V),σ'=[some (.ref a),some (.ref bl),some (.int c),some (.ref pk),some (.int (i0:Int)),some (.ref sl),some (.str z),some (.ref t),some (.ref ml),some (.ref p),some (.ref bo),o11,o12,o13]/\Same H9 H'/\H' bo=some (.lst [.ref c0,.ref c1])/\H' c0=some (.lst us0)/\H' c1=some (.lst us1)/\us0.length<=60/\us1.length<=60/\Fqs H' 3000 (D*bF) us0/\Fqs H' 3000 (D*bF) us1,?_,?_⟩
 ·obtain ⟨k2,hk2,hk2'⟩:=a0M (x:=ds.getD 2 0) (m:=2) (by decide)
  have hk:k2=0\/k2=1:=by lia
  refine ⟨_,rfl,_,rfl,pk,_,2,_,rfl,rfl,SqL.of hpk10,atp (j:=2) (by decide),_,_,rfl,rfl,(by show (0:Int)<2; decide),?_⟩;dsimp only;rw [hk2];rcases hk with rfl | rfl
  ·refine ⟨bo,_,_,_,rfl,rfl,SqL.of hbo,D5 _ _,_,rfl,b0,pk,fts,ds,D,rfl,hb0,SqL.of hpk10,by lia,qf10,f1,f2,hD,hD2,λ r ws H' e' hr' qr lr=>?_⟩
   refine ⟨_,rfl,_,rfl,pk,_,2,_,rfl,rfl,SqL.of (e' _ _ hpk10),atp (j:=2) (by decide),_,_,rfl,rfl,(by show (0:Int)<2; decide),?_⟩;dsimp only;rw [hk2];have hbo':=e' _ _ hbo;have nr:r≠bo:=λ zz=>by
    rw [zz,hbo'] at hr'
    cases hr';obtain ⟨x,⟨y,hy,hyt⟩,_⟩:=qr _ (.head _)
    cases hy;rw [e' _ _ hb0] at hyt
    cases hyt
   have nb:b1≠bo:=λ zz=>by
    rw [zz,hbo] at hb1
    cases hb1;obtain ⟨x,⟨y,hy,hyt⟩,_⟩:=qg10 _ (.head _)
    cases hy;rw [hb0] at hyt
    cases hyt
   refine ⟨bo,_,_,0,rfl,rfl,hbo',rfl,r,b1,ws,gts,rfl,P3 hboN (e10.trans e'),upd_same,by rw [i5 nr]; exact hr',by rw [i5 nb]; exact e' _ _ hb1,lr,by lia,qr.upd hbo',(up (qg10.same e')).upd hbo'⟩
  ·refine ⟨bo,_,_,_,rfl,rfl,SqL.of hbo,E8 _ _,_,rfl,b1,pk,gts,ds,D,rfl,hb1,SqL.of hpk10,by lia,qg10,g1,g2,hD,hD2,λ r ws H' e' hr' qr lr=>?_⟩
   refine ⟨_,rfl,_,rfl,pk,_,2,_,rfl,rfl,SqL.of (e' _ _ hpk10),atp (j:=2) (by decide),_,_,rfl,rfl,(by show (0:Int)<2; decide),?_⟩;dsimp only;rw [hk2];have hbo':=e' _ _ hbo;have nr:r≠bo:=λ zz=>by
    rw [zz,hbo'] at hr'
    cases hr';obtain ⟨x,⟨y,hy,hyt⟩,_⟩:=qr _ (.head _)
    cases hy;rw [e' _ _ hb0] at hyt
    cases hyt
   have nb:b0≠bo:=λ zz=>by
    rw [zz,hbo] at hb0
    cases hb0;obtain ⟨x,⟨y,hy,hyt⟩,_⟩:=qf10 _ (.tail _ (.head _))
    cases hy;rw [hb1] at hyt
    cases hyt
   refine ⟨bo,_,_,1,rfl,rfl,hbo',rfl,b0,r,fts,ws,rfl,P3 hboN (e10.trans e'),upd_same,by rw [i5 nb]; exact e' _ _ hb0,by rw [i5 nr]; exact hr',by lia,lr,(up (qf10.same e')).upd hbo',qr.upd hbo'⟩
 intro σ11 H11 hM_; refine A4 λ G_ hG_=>?_; obtain ⟨c0,c1,us0,us1,rfl,e11,hbo11,hc0,hc1,l0',l1',q0,q1⟩:=hM_; subst hG_
 clear hbo hb0 hb1 hpk10 hbl10 hsl10 B10 qf10 qg10 e610
 have e6B:=e68.trans e11;have hpkB:=e6B _ _ hpk6;have hblB:=e6B _ _ hbl6;have hslB:=e6B _ _ hsl6;have BB:=Bk.same e6B B6;have quB:Fq H11 3000 (D*bF) u:=(qu.same e11).up hD;have hpB:=e11 _ _ hp;have e7B:=e8.trans e11;have hmlB:=e7B _ _ hml;have qmB:=qms.same e7B;have LB:=L6.same e6B;obtain ⟨ws,w1,w2,w3⟩:=a2Q qmB;obtain ⟨pt,t1,t2,t3⟩:=a2Q q0;obtain ⟨pg,x1,x2,x3⟩:=a2Q q1;obtain ⟨ps,y1,y2⟩:=quB;have dF4:∀ {x:Int},0<x->x<2 ^ 2000->0<x*bF/\x*bF<2 ^ 4000:=λ {x} h1 h2=>by
  have b:=(B9 (Int.le_of_lt h1) h2).mul a5y;have h0:(x*bF).natAbs<2 ^ 4000:=b.mono (show 2440<=4000 by decide);have p:=Int.mul_pos h1 a2c;refine ⟨p,?_⟩;have h3:x*bF=((x*bF).natAbs:Int):=by lia
  rw [h3]
  exact_mod_cast h0
 have pb:PrB pt pg ps (D*bF):=⟨by lia,by lia,λ x hx=>(t3 x hx).mono (by decide),λ x hx=>(x3 x hx).mono (by decide),y2.mono (by decide),(dF4 hD hD2).1,(dF4 hD hD2).2⟩;have mD:=(dF4 dm1 dm2).1;have mD8:Dm*bF<2 ^ 8000:=Int.lt_of_lt_of_le (dF4 dm1 dm2).2 (a0j (by decide));have bw:∀ x∈ws,Big 20000 x:=λ x hx=>(w3 x hx).mono (by decide);generalize D*bF=E1 at *;generalize Dm*bF=E2 at *;refine ⟨λ σ' H'=>∃ i1:Nat,i1<hs.length/\σ'=[some (.ref a),some (.ref bl),some (.int c),some (.ref pk),some (.int (i1:Int)),some (.ref sl),some (.str z),some (.ref t),some (.ref ml),some (.ref p),some (.ref bo),o11,o12,o13]/\H'=H11,?_,?_⟩
 ·refine ⟨_,rfl,pk,_,7,_,rfl,rfl,SqL.of hpkB,atp (j:=7) (by decide),_,_,rfl,rfl,(by show (0:Int)<4; decide),rfl,_,rfl,w8 (λ _=>?_) (λ _=>⟨i0,hil,rfl,rfl⟩)⟩
  obtain ⟨i1,hi1,hi1'⟩:=a0M (x:=(i0:Int)+1) (m:=(xs.length:Int)) (by lia);refine ⟨_,rfl,_,_,rfl,rfl,_,rfl,bl,_,rfl,.inl (SqL.of hblB),_,_,rfl,rfl,(by show (0:Int)<(xs.length:Int); lia),i1,by lia,?_,rfl⟩;rw [<- hi1];rfl
 intro σ12 H12 hM_; refine A4 λ G_ hG_=>?_; obtain ⟨i1,hi1,rfl,rfl⟩:=hM_; subst hG_;obtain ⟨h,hh⟩:∃ h,hs[i1]?=some h:=⟨_,List.getElem?_eq_getElem hi1⟩;have gd1:a3O xs.length (i1:Int):=⟨by lia,by lia⟩;refine ⟨λ σ' H'=>∃ y:Str,Szw y/\σ'=[some (.ref a),some (.ref bl),some (.int c),some (.ref pk),some (.int (i1:Int)),some (.ref sl),some (.str y),some (.ref t),some (.ref ml),some (.ref p),some (.ref bo),o11,o12,o13]/\H'=H12,?_,?_⟩
 ·refine ⟨_,rfl,pk,_,7,_,rfl,rfl,SqL.of hpkB,atp (j:=7) (by decide),_,_,rfl,rfl,(by show (0:Int)<4; decide),rfl,_,rfl,w8 (λ _=>?_) (λ _=>⟨z,hz,rfl,rfl⟩)⟩
  obtain ⟨k7,hk7,hk7'⟩:=a0M (x:=ds.getD 7 0 / 4) (m:=4) (by decide);obtain ⟨y,hy1,hy⟩:=b0Y (k:=k7) (by lia);refine ⟨_,rfl,_,rfl,pk,_,7,_,rfl,rfl,SqL.of hpkB,atp (j:=7) (by decide),_,_,rfl,rfl,⟨by decide,by decide⟩,_,_,rfl,rfl,(by show (0:Int)<4; decide),?_⟩;dsimp only;rw [hk7];exact ⟨sl,_,_,_,rfl,rfl,SqL.of hslB,hy1,y,hy,rfl,rfl⟩
 intro σ13 H13 hM_; refine A4 λ G_ hG_=>?_; obtain ⟨y,hy,rfl,rfl⟩:=hM_; subst hG_;refine ⟨λ σ' H'=>∃ pn:Addr,σ'=[some (.ref a),some (.ref bl),some (.int c),some (.ref pk),some (.int (i1:Int)),some (.ref sl),some (.str y),some (.ref t),some (.ref ml),some (.ref pn),some (.ref bo),o11,o12,o13]/\Same H13 H'/\H' pn=some (.tup [.ref c0,.ref c1,u]),?_,?_⟩
 ·refine ⟨_,rfl,bo,_,0,_,rfl,rfl,SqL.of hbo11,D5 _ _,_,rfl,bo,_,1,_,rfl,rfl,SqL.of hbo11,E8 _ _,_,rfl,p,_,2,_,rfl,rfl,SqT.of hpB,a2O _ _ _,(by show 3<=sizeLine; decide),λ pn kpn=>?_⟩
  exact ⟨pn,rfl,Same.new kpn _,upd_same⟩
 intro σ14 H14 hM_; refine A4 λ G_ hG_=>?_; obtain ⟨pn,rfl,e14,hpn⟩:=hM_; subst hG_;refine ⟨λ σ' H'=>∃ hd h0 h1 h2:Addr,σ'=[some (.ref a),some (.ref bl),some (.int c),some (.ref pk),some (.int (i1:Int)),some (.ref sl),some (.str y),some (.ref t),some (.ref ml),some (.ref pn),some (.ref bo),some (.ref hd),o12,o13]/\Same H14 H'/\H' hd=some (.lst [.ref h0,.ref h1,.ref h2])/\H' h0=some (.lst ms)/\H' h1=some (.lst us0)/\H' h2=some (.lst us1),?_,?_⟩
 ·refine ⟨_,rfl,ml,_,rfl,.inl (SqL.of (e14 _ _ hmlB)),λ h0 k0=>?_⟩
  have s0:=Same.new k0 (.lst ms);have f0:=e14.trans s0;refine ⟨_,rfl,bo,_,0,_,rfl,rfl,SqL.of (f0 _ _ hbo11),D5 _ _,c0,_,rfl,.inl (SqL.of (f0 _ _ hc0)),λ h1 k1=>?_⟩;have s1:=Same.new k1 (.lst us0);have f1:=f0.trans s1;refine ⟨_,rfl,bo,_,1,_,rfl,rfl,SqL.of (f1 _ _ hbo11),E8 _ _,c1,_,rfl,.inl (SqL.of (f1 _ _ hc1)),λ h2 k2=>?_⟩;have s2:=Same.new k2 (.lst us1);refine ⟨(by show 3<=sizeLine; decide),λ hd khd=>?_⟩;have s3:=Same.new khd (.lst [V.ref h0,V.ref h1,V.ref h2]);exact ⟨hd,h0,h1,h2,rfl,s0.trans (s1.trans (s2.trans s3)),upd_same,(s1.trans (s2.trans s3)) _ _ upd_same,(s2.trans s3) _ _ upd_same,s3 _ _ upd_same⟩
 intro σ15 H15 hM_; refine A4 λ G_ hG_=>?_; obtain ⟨hd,g0',g1',g2',rfl,e15,hhd,hg0',hg1',hg2'⟩:=hM_; subst hG_;have e1315:=e14.trans e15;have BI15:W6 K H15 bl xs hs far kt kg:=⟨SqL.of (e1315 _ _ hblB),Bk.same e1315 BB,hG,by lia,hn16,by lia,by lia⟩;refine ⟨λ σ' H'=>∃ b:Bool,σ'=[some (.ref a),some (.ref bl),some (.int c),some (.ref pk),some (.int (i1:Int)),some (.ref sl),some (.str y),some (.ref t),some (.ref ml),some (.ref pn),some (.ref bo),some (.ref hd),some (.bl b),o13]/\Same H15 H'/\(b=true ↔ a3Y y hs h kt kg ws E2 (1,1) (1,1)/\b1E hs h kt kg ws E2),?_,?_⟩
 ·refine ⟨_,rfl,_,rfl,_,rfl,_,rfl,hd,_,0,_,rfl,rfl,SqL.of hhd,a2b _ _ _,bl,g0',xs,ms,hs,ws,E2,far,kt,kg,_,y,rfl,hy,BI15,hn1,a3n (by lia),SqL.of hg0',(w1.same e1315).v,by lia,bw,mD,mD8,λ i' h' b H' hi' hh' e' hb=>?_,λ bad=>absurd gd1 bad⟩
  rw [show i'=i1 by lia,hh] at hh'; cases hh';exact ⟨b,rfl,e',hb⟩
 intro σ16 H16 hM_; refine A4 λ G_ hG_=>?_; obtain ⟨b,rfl,e16,hb⟩:=hM_; subst hG_;have e1316:=e1315.trans e16;refine ⟨λ σ' H'=>σ'=[some (.ref a),some (.ref bl),some (.int c),some (.ref pk),some (.int (i1:Int)),some (.ref sl),some (.str y),some (.ref t),some (.ref ml),some (.ref pn),some (.ref bo),some (.ref hd),some (.bl b),o13]/\Same H16 H',?_,?_⟩
 ·refine ⟨_,rfl,_,_,"bool",true,rfl,.bl _,a4D _,_,rfl,a0t ?_⟩
  refine ⟨_,rfl,_,rfl,_,rfl,_,rfl,_,rfl,bl,ml,xs,ms,hs,ws,E2,y,far,kt,kg,i1,h,rfl,hy,SqL.of (e1316 _ _ hblB),Bk.same e1316 BB,SqL.of (e1316 _ _ hmlB),(w1.same e1316).v,by lia,hn16,bw,mD,mD8,hG,by lia,by lia,by lia,hh,λ b' H' e' hb'=>?_⟩;have x1:b'=b:=Bool.eq_iff_iff.mpr (hb'.trans hb.symm);subst x1;refine ⟨rfl,_,rfl,?_⟩;exact b0X rfl ⟨rfl,e'⟩
 intro σ17 H17 hM_; refine A4 λ G_ hG_=>?_; obtain ⟨rfl,e17⟩:=hM_; subst hG_;have e1317:=e1316.trans e17;have e1517:=e16.trans e17;refine ⟨λ σ' H'=>∃ ot:Addr,σ'=[some (.ref a),some (.ref bl),some (.int c),some (.ref pk),some (.int (i1:Int)),some (.ref sl),some (.str y),some (.ref t),some (.ref ml),some (.ref pn),some (.ref bo),some (.ref hd),some (.bl b),some (.ref ot)]/\Same H17 H'/\PrA H' ot pt pg ps E1,?_,?_⟩
 ·refine ⟨_,rfl,hd,_,1,_,rfl,rfl,SqL.of (e1517 _ _ hhd),a1H _ _ _,_,rfl,hd,_,2,_,rfl,rfl,SqL.of (e1517 _ _ hhd),a2O _ _ _,_,rfl,pn,_,2,_,rfl,rfl,SqT.of ((e15.trans e1517) _ _ hpn),a2O _ _ _,(by show 3<=sizeLine; decide),λ ot kot=>?_⟩
  have s1:=Same.new kot (.tup [V.ref g1',V.ref g2',u]);have eA:=e1317.trans s1;exact ⟨ot,rfl,s1,g1',g2',u,us0,us1,upd_same,(e1517.trans s1) _ _ hg1',t1.same eA,(e1517.trans s1) _ _ hg2',x1.same eA,y1.same eA⟩
 intro σ18 H18 hM_; refine A4 λ G_ hG_=>?_; obtain ⟨ot,rfl,e18,PO⟩:=hM_; subst hG_;have e1318:=e1317.trans e18;refine ⟨λ σ' H'=>∃ b:Bool,σ'=[some (.ref a),some (.ref bl),some (.int c),some (.ref pk),some (.int (i1:Int)),some (.ref sl),some (.str y),some (.ref t),some (.ref ml),some (.ref pn),some (.ref bo),some (.ref hd),some (.bl b),some (.ref ot)]/\Same H18 H'/\(b=true ↔ b1T y hs h kt kg pt pg ps),?_,?_⟩
 ·refine ⟨_,rfl,bl,_,rfl,.inl (SqL.of (e1318 _ _ hblB)),λ nb knb=>?_⟩
  have s1:=Same.new knb (.lst xs);refine ⟨_,rfl,_,rfl,_,rfl,nb,ot,xs,hs,pt,pg,ps,E1,far,kt,kg,_,y,rfl,hy,⟨SqL.of upd_same,Bk.same (e1318.trans s1) BB,hG,by lia,hn16,by lia,by lia⟩,hn1,a3n (by lia),PO.same s1,pb,λ i' h' b H' hi' hh' e' hb=>?_,λ bad=>absurd gd1 bad⟩;rw [show i'=i1 by lia,hh] at hh'; cases hh';exact ⟨b,rfl,s1.trans e',hb⟩
 intro σ19 H19 hM_; refine A4 λ G_ hG_=>?_; obtain ⟨b2,rfl,e19,hb2⟩:=hM_; subst hG_;have e1319:=e1318.trans e19;refine ⟨λ σ' H'=>σ'=[some (.ref a),some (.ref bl),some (.int c),some (.ref pk),some (.int (i1:Int)),some (.ref sl),some (.str y),some (.ref t),some (.ref ml),some (.ref pn),some (.ref bo),some (.ref hd),some (.bl b2),some (.ref ot)]/\Same H19 H',?_,?_⟩
 ·refine ⟨_,rfl,_,_,"bool",true,rfl,.bl _,a4D _,_,rfl,a0t ?_⟩
  refine ⟨_,rfl,_,rfl,_,rfl,_,rfl,_,rfl,bl,pn,xs,hs,pt,pg,ps,E1,far,kt,kg,i1,y,h,rfl,hy,SqL.of (e1319 _ _ hblB),Bk.same e1319 BB,hn16,hG,by lia,by lia,by lia,⟨c0,c1,u,us0,us1,((e15.trans e1517).trans (e18.trans e19)) _ _ hpn,e1319 _ _ hc0,t1.same e1319,e1319 _ _ hc1,x1.same e1319,y1.same e1319⟩,pb,hh,λ b' H' e' hb'=>?_⟩;have x1:b'=b2:=Bool.eq_iff_iff.mpr (hb'.trans hb2.symm);subst x1;refine ⟨rfl,_,rfl,?_⟩;exact b0X rfl ⟨rfl,e'⟩
 intro σ20 H20 hM_; refine A4 λ G_ hG_=>?_; obtain ⟨rfl,e20⟩:=hM_; subst hG_;have e1320:=e1319.trans e20;have e1520:=(e1517.trans (e18.trans e19)).trans e20;have hbo20:=SqL.of (K:=K) (e1320 _ _ hbo11);refine ⟨_,rfl,_,rfl,_,rfl,bo,_,0,_,rfl,rfl,hbo20,D5 _ _,_,rfl,bo,_,1,_,rfl,rfl,hbo20,E8 _ _,(by show 3<=sizeLine; decide),λ nl knl=>?_⟩;have s21:=Same.new knl (.lst [V.ref ml,V.ref c0,V.ref c1]);have eL:=e1320.trans s21;have eg:=e1520.trans s21;obtain ⟨m1,m2,m3,m4⟩:=a3F (K:=K) (w1.same eL);obtain ⟨n1,n2,n3,n4⟩:=a3F (K:=K) (t1.same eL);obtain ⟨k1,k2,k3,k4⟩:=a3F (K:=K) (x1.same eL);have lay:PyData.canLay0 (.list [.list m1,.list n1,.list k1])=true:=by
  rw [PyData.canLay0,PyData.canLayAll0,PyData.canLayAll0,PyData.canLayAll0,PyData.canLayAll0,PyData.canLay0,PyData.canLay0,PyData.canLay0,m3,n3,k3]; rfl
 refine ⟨.list [.list m1,.list n1,.list k1],.list [.list m1,.list n1,.list k1],.lst (SqL.of (eg _ _ hhd)) (.cons (.lst (SqL.of (eg _ _ hg0')) m2) (.cons (.lst (SqL.of (eg _ _ hg1')) n2) (.cons (.lst (SqL.of (eg _ _ hg2')) k2) .nil))),.lst (SqL.of upd_same) (.cons (.lst (SqL.of (eL _ _ hmlB)) m2) (.cons (.lst (SqL.of (eL _ _ hc0)) n2) (.cons (.lst (SqL.of (eL _ _ hc1)) k2) .nil))),lay,lay,?_,_,rfl,?_⟩
 ·refine Nat.le_trans (Nat.min_le_left _ _) ?_
  rw [PyData.depth,PyData.depthAll,PyData.depthAll,PyData.depthAll,PyData.depthAll,PyData.depth,PyData.depth,PyData.depth];lia
 rw [a3V _ lay];refine a0t ?_;have eZ:Same H6 _:=e6B.trans eL;exact ⟨_,_,_,_,_,_,_,_,_,_,_,_,rfl,e36.trans eZ.to1,L6.same eZ⟩
end
end Rim
namespace L2
open PySem PySem.W
theorem b1k {K:Frag} {C:Addr} {B:List Value} {nid:String} (q:excIn K C B nid=true):∃ nm qn N bs bm hdct sn sub ab col dd k0 k1 k2 k3 k5,K.lookup C=some (excClassObj nm qn C N bs bm hdct sn sub ab col dd k0 k1 k2 k3 k5 nid)/\nsOkIn K N=true/\nsIn K N "__init__"=some none/\tailIn K B bm=true:=by
 unfold excIn at q
 split at q
 ·rename_i e1 e2 e3 lk
  split at q
  ·rename_i C' bm w0 w1 w2 w3 nn w5 em es
   simp only [Bool.and_eq_true,beq_iff_eq,Bool.not_eq_true'] at q;obtain ⟨⟨⟨⟨⟨u1,u2⟩,u3⟩,u4⟩,u5⟩,u6⟩:=q
   cases u1
   cases u2;obtain ⟨n1,n2,n3,n4,n5,n6,n7,n8,n9,n10,n11⟩:=e2;obtain ⟨ls⟩:=e3
   replace em:n3=_:=em
   replace u3:n11=false:=u3
   replace es:ls=_:=es
   subst em u3 es;exact ⟨n1,n5,n4,n2,bm,n6,n7,n8,n9,n10,e1,w0,w1,w2,w3,w5,lk,u5,u6,u4⟩
  ·cases q
 ·cases q
def FunI (K:Frag) (x qual:Str) (st:Stmt) (f:Addr) (cd:Value):Prop:=∃ oc od kV dc pm an ct sl,K.lookup f=some ⟨oc,od,.func (fnOf x qual (K7 st) (t9 st) (i3 st) .none kV dc pm an cd ct),sl⟩/\codeIn K cd qual=true/\keepIn K (.ref f)=true
theorem fun_in {K:Frag} {x qual:Str} {st:Stmt} {f:Addr} {cd oc kV dc pm ct:Value} {od an:Option Addr} {sl:Array (Option Value)} (l:K.lookup f=some ⟨oc,od,.func (fnOf x qual (K7 st) (t9 st) (i3 st) .none kV dc pm an cd ct),sl⟩) (c:codeIn K cd qual=true) (k:keepIn K (.ref f)=true):FunI K x qual st f cd:=⟨_,_,_,_,_,_,_,_,l,c,k⟩
theorem FunI.fn {K:Frag} {x qual:Str} {st:Stmt} {f:Addr} {cd:Value} (h:FunI K x qual st f cd):∃ fd,Fun K x qual st f fd/\fd.code=cd/\keepIn K (.ref f)=true:=by
 obtain ⟨_,_,_,_,_,_,_,_,l,c,k⟩:=h;exact ⟨_,a8K l c k,rfl,k⟩
theorem Fun.b1 {K:Frag} {x qual:Str} {st:Stmt} {f:Addr} {fd:FuncData} {p0:Str} (F:Fun K x qual st f fd) (h:∀ (kV doc pm:Value) (an:Option Addr) (cdv ct v0:Value),bindArgs (fnOf x qual (K7 st) (t9 st) (i3 st) .none kV doc pm an cdv ct) ⟨[v0],[]⟩=pure [(p0,v0)]):Binds K fd [p0] [] :=
 F.binds λ a b c d e g us hl=>match us,hl with | [v0],_=>h a b c d e g v0
theorem Fun.b2 {K:Frag} {x qual:Str} {st:Stmt} {f:Addr} {fd:FuncData} {p0 p1:Str} (F:Fun K x qual st f fd) (h:∀ (kV doc pm:Value) (an:Option Addr) (cdv ct v0 v1:Value),bindArgs (fnOf x qual (K7 st) (t9 st) (i3 st) .none kV doc pm an cdv ct) ⟨[v0,v1],[]⟩=pure [(p0,v0),(p1,v1)]):Binds K fd [p0,p1] [] :=
 F.binds λ a b c d e g us hl=>match us,hl with | [v0,v1],_=>h a b c d e g v0 v1
theorem Fun.b3 {K:Frag} {x qual:Str} {st:Stmt} {f:Addr} {fd:FuncData} {p0 p1 p2:Str} (F:Fun K x qual st f fd) (h:∀ (kV doc pm:Value) (an:Option Addr) (cdv ct v0 v1 v2:Value),bindArgs (fnOf x qual (K7 st) (t9 st) (i3 st) .none kV doc pm an cdv ct) ⟨[v0,v1,v2],[]⟩=pure [(p0,v0),(p1,v1),(p2,v2)]):Binds K fd [p0,p1,p2] [] :=
 F.binds λ a b c d e g us hl=>match us,hl with | [v0,v1,v2],_=>h a b c d e g v0 v1 v2
theorem Fun.b4 {K:Frag} {x qual:Str} {st:Stmt} {f:Addr} {fd:FuncData} {p0 p1 p2 p3:Str} (F:Fun K x qual st f fd) (h:∀ (kV doc pm:Value) (an:Option Addr) (cdv ct v0 v1 v2 v3:Value),bindArgs (fnOf x qual (K7 st) (t9 st) (i3 st) .none kV doc pm an cdv ct) ⟨[v0,v1,v2,v3],[]⟩=pure [(p0,v0),(p1,v1),(p2,v2),(p3,v3)]):Binds K fd [p0,p1,p2,p3] [] :=
 F.binds λ a b c d e g us hl=>match us,hl with | [v0,v1,v2,v3],_=>h a b c d e g v0 v1 v2 v3
theorem Fun.b6 {K:Frag} {x qual:Str} {st:Stmt} {f:Addr} {fd:FuncData} {p0 p1 p2 p3 p4 p5:Str} (F:Fun K x qual st f fd) (h:∀ (kV doc pm:Value) (an:Option Addr) (cdv ct v0 v1 v2 v3 v4 v5:Value),bindArgs (fnOf x qual (K7 st) (t9 st) (i3 st) .none kV doc pm an cdv ct) ⟨[v0,v1,v2,v3,v4,v5],[]⟩=pure [(p0,v0),(p1,v1),(p2,v2),(p3,v3),(p4,v4),(p5,v5)]):Binds K fd [p0,p1,p2,p3,p4,p5] [] :=
 F.binds λ a b c d e g us hl=>match us,hl with | [v0,v1,v2,v3,v4,v5],_=>h a b c d e g v0 v1 v2 v3 v4 v5
end L2
namespace Rim
open PySem L2 Fr
theorem all_mk {l:W.OpenLaw} {w:World} {K:W.Frag} {h:Heap} {mg:Str->Option Value} {fa:Addr} {Ct Pt:Addr} (X:K.In h) (G:h.Ns mainGlobals mg) (hfa:mg "law"=some (.ref fa))
    {f1 f2 f3 f4 f5 f6 f7 f8 f9 f10 f11 f12 f13 f14 f15 f16 f17 f18 f19 f20 f21 f22 f23 f24 f25 f26 f27 f28 f29 f30 f31 f32 f33 f34 f35 f36 f37 f38 f39 f40 f41 f42 f43 f44 f45 f46 f47 f48 f49 f50 f51 f52 CB dS tS0 tS1 tS2 tS3 cE_NoHouse:Addr} {cd1 cd2 cd3 cd4 cd5 cd6 cd8 cd9 cd10 cd11 cd12 cd13 cd14 cd15 cd16 cd17 cd18 cd19 cd20 cd21 cd22 cd23 cd24 cd25 cd26 cd27 cd28 cd29 cd30 cd31 cd32 cd33 cd34 cd35 cd36 cd37 cd38 cd39 cd40 cd41 cd42 cd43 cd44 cd45 cd46 cd47 cd48 cd49 cd50 cd51 ocL kVL dcL pmL cdL ctL:Value} {odL anL:Option Addr} {slL:Array (Option Value)} {odS0 odS1 odS2 odS3:Option Addr} {slS0 slS1 slS2 slS3:Array (Option Value)} {eS:Array DictEntry} {nS nS0 nS1 nS2 nS3:Nat} {tkA tkB tkC tkD:Tok} {oC_ONE:Addr} {odC_ONE:Option Addr} {slC_ONE:Array (Option Value)} {nC_ONE:Nat} {tkC0_ONE tkC1_ONE:Tok}
    (aB:W.nsIn K mainGlobals "Board"=some (some (.ref CB)))
    (a1:W.nsIn K mainGlobals "_law_cell_at"=some (some (.ref f1)))
    (l1:FunI K "_law_cell_at" "_law_cell_at" a8k f1 cd1)
    (a2:W.nsIn K mainGlobals "_law_draws"=some (some (.ref f2)))
    (l2:FunI K "_law_draws" "_law_draws" a4N f2 cd2)
    (a3:W.nsIn K mainGlobals "_law_near"=some (some (.ref f3)))
    (l3:FunI K "_law_near" "_law_near" a8n f3 cd3)
    (a4:W.nsIn K mainGlobals "_law_a_book"=some (some (.ref f4)))
    (l4:FunI K "_law_a_book" "_law_a_book" a0N f4 cd4)
    (a5:W.nsIn K mainGlobals "house_of"=some (some (.ref f5)))
    (l5:FunI K "house_of" "house_of" b1N f5 cd5)
    (a6:W.findIn K (.ref CB) "__init__"=some (some (.ref f6)))
    (l6:FunI K "__init__" "Board.__init__" a4i f6 cd6)
    (n6:W.isFn K (.ref f6)=true)
    (a7:W.findIn K (.ref CB) "coming"=some (some (.ref f7)))
    (l7:FunI K "coming" "Board.coming" a3v f7 (.ref Ct))
    (n7:W.isFn K (.ref f7)=true)
    (a8:W.findIn K (.ref CB) "is_ahead"=some (some (.ref f8)))
    (l8:FunI K "is_ahead" "Board.is_ahead" a5w f8 cd8)
    (n8:W.isFn K (.ref f8)=true)
    (a9:W.findIn K (.ref CB) "going"=some (some (.ref f9)))
    (l9:FunI K "going" "Board.going" a5s f9 cd9)
    (n9:W.isFn K (.ref f9)=true)
    (a10:W.nsIn K mainGlobals "swept"=some (some (.ref f10)))
    (l10:FunI K "swept" "swept" a4E f10 cd10)
    (a11:W.findIn K (.ref CB) "exchange"=some (some (.ref f11)))
    (l11:FunI K "exchange" "Board.exchange" Q7 f11 cd11)
    (n11:W.isFn K (.ref f11)=true)
    (a12:W.findIn K (.ref CB) "amounts"=some (some (.ref f12)))
    (l12:FunI K "amounts" "Board.amounts" a9c f12 cd12)
    (n12:W.isFn K (.ref f12)=true)
    (a13:W.findIn K (.ref CB) "weights"=some (some (.ref f13)))
    (l13:FunI K "weights" "Board.weights" b2e f13 cd13)
    (n13:W.isFn K (.ref f13)=true)
    (a14:W.nsIn K mainGlobals "greatest"=some (some (.ref f14)))
    (l14:FunI K "greatest" "greatest" O2 f14 cd14)
    (a15:W.nsIn K mainGlobals "house_rows"=some (some (.ref f15)))
    (l15:FunI K "house_rows" "house_rows" R6 f15 cd15)
    (a16:W.nsIn K mainGlobals "greatest_floor"=some (some (.ref f16)))
    (l16:FunI K "greatest_floor" "greatest_floor" a0S f16 cd16)
    (a17:W.nsIn K mainGlobals "common_divisor"=some (some (.ref f17)))
    (l17:FunI K "common_divisor" "common_divisor" b1J f17 cd17)
    (a18:W.nsIn K mainGlobals "lowest"=some (some (.ref f18)))
    (l18:FunI K "lowest" "lowest" b1g f18 cd18)
    (a19:W.nsIn K mainGlobals "come_to"=some (some (.ref f19)))
    (l19:FunI K "come_to" "come_to" a3d f19 cd19)
    (a20:W.nsIn K mainGlobals "told_prices"=some (some (.ref f20)))
    (l20:FunI K "told_prices" "told_prices" K1 f20 cd20)
    (a21:W.nsIn K mainGlobals "on_rim"=some (some (.ref f21)))
    (l21:FunI K "on_rim" "on_rim" T4 f21 cd21)
    (a22:W.nsIn K mainGlobals "_law_common"=some (some (.ref f22)))
    (l22:FunI K "_law_common" "_law_common" a3r f22 cd22)
    (a23:W.nsIn K mainGlobals "_law_low"=some (some (.ref f23)))
    (l23:FunI K "_law_low" "_law_low" a7J f23 cd23)
    (a24:W.nsIn K mainGlobals "_law_a_mix"=some (some (.ref f24)))
    (l24:FunI K "_law_a_mix" "_law_a_mix" K8 f24 cd24)
    (a25:W.nsIn K mainGlobals "_law_bent"=some (some (.ref f25)))
    (l25:FunI K "_law_bent" "_law_bent" M5 f25 cd25)
    (a26:W.nsIn K mainGlobals "_law_spoilt"=some (some (.ref f26)))
    (l26:FunI K "_law_spoilt" "_law_spoilt" J5 f26 cd26)
    (a27:W.nsIn K mainGlobals "compared"=some (some (.ref f27)))
    (l27:FunI K "compared" "compared" a0g f27 cd27)
    (a28:W.nsIn K mainGlobals "is_size_let"=some (some (.ref f28)))
    (l28:FunI K "is_size_let" "is_size_let" S6 f28 cd28)
    (a29:W.nsIn K mainGlobals "over_one_bottom"=some (some (.ref f29)))
    (l29:FunI K "over_one_bottom" "over_one_bottom" N3 f29 cd29)
    (a30:W.nsIn K mainGlobals "total"=some (some (.ref f30)))
    (l30:FunI K "total" "total" a2T f30 cd30)
    (a31:W.nsIn K mainGlobals "is_mix"=some (some (.ref f31)))
    (l31:FunI K "is_mix" "is_mix" a2e f31 cd31)
    (a32:W.nsIn K mainGlobals "come_together"=some (some (.ref f32)))
    (l32:FunI K "come_together" "come_together" E7 f32 cd32)
    (a33:W.nsIn K mainGlobals "mixed"=some (some (.ref f33)))
    (l33:FunI K "mixed" "mixed" Y1 f33 cd33)
    (a34:W.nsIn K mainGlobals "are_no_more"=some (some (.ref f34)))
    (l34:FunI K "are_no_more" "are_no_more" S8 f34 cd34)
    (a35:W.nsIn K mainGlobals "times"=some (some (.ref f35)))
    (l35:FunI K "times" "times" a3b f35 cd35)
    (a36:W.nsIn K mainGlobals "does_as_much"=some (some (.ref f36)))
    (l36:FunI K "does_as_much" "does_as_much" G6 f36 cd36)
    (a37:W.nsIn K mainGlobals "beats"=some (some (.ref f37)))
    (l37:FunI K "beats" "beats" a3f f37 cd37)
    (a38:W.nsIn K mainGlobals "_law_sum"=some (some (.ref f38)))
    (l38:FunI K "_law_sum" "_law_sum" a7l f38 cd38)
    (a39:W.nsIn K mainGlobals "_law_a_less"=some (some (.ref f39)))
    (l39:FunI K "_law_a_less" "_law_a_less" a7x f39 cd39)
    (a40:W.nsIn K mainGlobals "_law_let"=some (some (.ref f40)))
    (l40:FunI K "_law_let" "_law_let" a2M f40 cd40)
    (a41:W.nsIn K mainGlobals "_law_amounts"=some (some (.ref f41)))
    (l41:FunI K "_law_amounts" "_law_amounts" T6 f41 cd41)
    (a42:W.nsIn K mainGlobals "_law_mix_does"=some (some (.ref f42)))
    (l42:FunI K "_law_mix_does" "_law_mix_does" T7 f42 cd42)
    (a43:W.nsIn K mainGlobals "_law_beats"=some (some (.ref f43)))
    (l43:FunI K "_law_beats" "_law_beats" K4 f43 cd43)
    (a44:W.nsIn K mainGlobals "is_for_size_let"=some (some (.ref f44)))
    (l44:FunI K "is_for_size_let" "is_for_size_let" M8 f44 cd44)
    (a45:W.nsIn K mainGlobals "are_prices"=some (some (.ref f45)))
    (l45:FunI K "are_prices" "are_prices" U8 f45 cd45)
    (a46:W.nsIn K mainGlobals "worths"=some (some (.ref f46)))
    (l46:FunI K "worths" "worths" T3 f46 cd46)
    (a47:W.nsIn K mainGlobals "does_no_house_better"=some (some (.ref f47)))
    (l47:FunI K "does_no_house_better" "does_no_house_better" J1 f47 cd47)
    (a48:W.nsIn K mainGlobals "prices_rim"=some (some (.ref f48)))
    (l48:FunI K "prices_rim" "prices_rim" V4 f48 cd48)
    (a49:W.nsIn K mainGlobals "_law_left"=some (some (.ref f49)))
    (l49:FunI K "_law_left" "_law_left" a8g f49 cd49)
    (a50:W.nsIn K mainGlobals "_law_are_prices"=some (some (.ref f50)))
    (l50:FunI K "_law_are_prices" "_law_are_prices" O3 f50 cd50)
    (a51:W.nsIn K mainGlobals "_law_stands"=some (some (.ref f51)))
    (l51:FunI K "_law_stands" "_law_stands" J6 f51 cd51)
    (a52:W.nsIn K mainGlobals "law"=some (some (.ref f52)))
    (l52:K.lookup f52=some ⟨ocL,odL,.func (W.fnOf "law" "law" (K7 a1k) (t9 a1k) (i3 a1k) .none kVL dcL pmL anL cdL ctL),slL⟩)
    (c52:W.codeIn K cdL "law"=true)
    (k52:W.keepIn K (.ref f52)=true)
    (z1:W.nsIn K mainGlobals "len"=some none)
    (z2:W.nsIn K mainGlobals "all"=some none)
    (z3:W.nsIn K mainGlobals "any"=some none)
    (z4:W.nsIn K mainGlobals "max"=some none)
    (z5:W.nsIn K mainGlobals "min"=some none)
    (z6:W.nsIn K mainGlobals "sum"=some none)
    (z7:W.nsIn K mainGlobals "tuple"=some none)
    (z8:W.nsIn K mainGlobals "list"=some none)
    (z9:W.nsIn K mainGlobals "int"=some none)
    (z10:W.nsIn K mainGlobals "bool"=some none)
    (z11:W.nsIn K mainGlobals "range"=some none)
    (z12:W.nsIn K mainGlobals "isinstance"=some none)
    (z13:W.nsIn K mainGlobals "abs"=some none)
    (z14:W.nsIn K mainGlobals "zip"=some none)
    (z15:W.nsIn K mainGlobals "enumerate"=some none)
    (z16:W.nsIn K mainGlobals "ValueError"=some none)
    (z17:W.nsIn K mainGlobals "sorted"=some none)
    (bp:W.plainGet K CB Str.empty=true)
    (bh:W.hasDictIn K CB=true)
    (bo:W.plainOver K CB=true)
    (bs:W.findIn K (.ref CB) "__setattr__"=some (some (.builtin "object.__setattr__")))
    (b_many:W.findIn K (.ref CB) "many"=some none)
    (b_scale:W.findIn K (.ref CB) "scale"=some none)
    (b_cells:W.findIn K (.ref CB) "cells"=some none)
    (b_outs:W.findIn K (.ref CB) "outs"=some none)
    (b_ins:W.findIn K (.ref CB) "ins"=some none)
    (bm:W.makesIn K CB=true)
    (bk:W.keepIn K (.ref CB)=true)
    (s1:W.nsIn K mainGlobals "SIZE_SIGNS"=some (some (.ref dS)))
    (s3:K.lookup dS=some ⟨.type "dict",none,.dict eS nS,#[]⟩)
    (s4:W.KeysLit w.params eS.toList)
    (sa0:W.nsIn K dS "any"=some (some (.ref tS0)))
    (sb0:K.lookup tS0=some ⟨.type "tuple",odS0,.seq #[] nS0,slS0⟩)
    (sa1:W.nsIn K dS "one"=some (some (.ref tS1)))
    (sb1:K.lookup tS1=some ⟨.type "tuple",odS1,.seq #[.int 1 tkA,.int (-1) tkB] nS1,slS1⟩)
    (sa2:W.nsIn K dS "less"=some (some (.ref tS2)))
    (sb2:K.lookup tS2=some ⟨.type "tuple",odS2,.seq #[.int (-1) tkC] nS2,slS2⟩)
    (sa3:W.nsIn K dS "more"=some (some (.ref tS3)))
    (sb3:K.lookup tS3=some ⟨.type "tuple",odS3,.seq #[.int 1 tkD] nS3,slS3⟩)
    (xmNoHouse:W.nsIn K mainGlobals "NoHouse"=some (some (.ref cE_NoHouse)))
    (xoNoHouse:W.excIn K cE_NoHouse [.type "ValueError",.type "Exception",.type "BaseException",.type "object"] "ValueError.__new__"=true)
    (xgaNoHouse:W.findIn K (.ref cE_NoHouse) "__getattribute__"=some (some (.builtin "BaseException.__getattribute__")))
    (xgnNoHouse:W.findIn K (.ref cE_NoHouse) "__getattr__"=some none)
    (xcaNoHouse:W.findIn K (.ref cE_NoHouse) "__class__"=some (some (.builtin "object.__class__")))
    (xmoNoHouse:W.mroIn K cE_NoHouse (.type "object")=some true)
    (xmbNoHouse:W.mroIn K cE_NoHouse (.type "BaseException")=some true)
    (cmONE:W.nsIn K mainGlobals "ONE"=some (some (.ref oC_ONE)))
    (clONE:K.lookup oC_ONE=some ⟨.type "tuple",odC_ONE,.seq #[.int 1 tkC0_ONE,.int 1 tkC1_ONE] nC_ONE,slC_ONE⟩)
   :∃ fd:FuncData,(∀ (s:Shared) (v:Value),BindsTo s fd ⟨[v],[]⟩ [("script",v)])/\∀ base:Heap,K.In base->base.Ns mainGlobals mg->V6 mg base->(∀ t∈[(Ct,Pt)],W.CodeHd base t.1 t.2)->FnOk l.prog w K mg base G2 8 fa fd ["script"] (a5B K Pt):=by
  have e:=hfa.symm.trans (W.mg_of X G a52)
  cases e;obtain ⟨_,F1,hc1,k1⟩:=l1.fn;obtain ⟨_,F2,hc2,k2⟩:=l2.fn;obtain ⟨_,F3,hc3,k3⟩:=l3.fn;obtain ⟨_,F4,hc4,k4⟩:=l4.fn;obtain ⟨_,F5,hc5,k5⟩:=l5.fn;obtain ⟨_,F6,hc6,k6⟩:=l6.fn;obtain ⟨_,F7,hc7,k7⟩:=l7.fn;obtain ⟨_,F8,hc8,k8⟩:=l8.fn;obtain ⟨_,F9,hc9,k9⟩:=l9.fn;obtain ⟨_,F10,hc10,k10⟩:=l10.fn;obtain ⟨_,F11,hc11,k11⟩:=l11.fn;obtain ⟨_,F12,hc12,k12⟩:=l12.fn;obtain ⟨_,F13,hc13,k13⟩:=l13.fn;obtain ⟨_,F14,hc14,k14⟩:=l14.fn;obtain ⟨_,F15,hc15,k15⟩:=l15.fn;obtain ⟨_,F16,hc16,k16⟩:=l16.fn;obtain ⟨_,F17,hc17,k17⟩:=l17.fn;obtain ⟨_,F18,hc18,k18⟩:=l18.fn;obtain ⟨_,F19,hc19,k19⟩:=l19.fn;obtain ⟨_,F20,hc20,k20⟩:=l20.fn;obtain ⟨_,F21,hc21,k21⟩:=l21.fn;obtain ⟨_,F22,hc22,k22⟩:=l22.fn;obtain ⟨_,F23,hc23,k23⟩:=l23.fn;obtain ⟨_,F24,hc24,k24⟩:=l24.fn;obtain ⟨_,F25,hc25,k25⟩:=l25.fn;obtain ⟨_,F26,hc26,k26⟩:=l26.fn;obtain ⟨_,F27,hc27,k27⟩:=l27.fn;obtain ⟨_,F28,hc28,k28⟩:=l28.fn;obtain ⟨_,F29,hc29,k29⟩:=l29.fn;obtain ⟨_,F30,hc30,k30⟩:=l30.fn;obtain ⟨_,F31,hc31,k31⟩:=l31.fn;obtain ⟨_,F32,hc32,k32⟩:=l32.fn;obtain ⟨_,F33,hc33,k33⟩:=l33.fn;obtain ⟨_,F34,hc34,k34⟩:=l34.fn;obtain ⟨_,F35,hc35,k35⟩:=l35.fn;obtain ⟨_,F36,hc36,k36⟩:=l36.fn;obtain ⟨_,F37,hc37,k37⟩:=l37.fn;obtain ⟨_,F38,hc38,k38⟩:=l38.fn;obtain ⟨_,F39,hc39,k39⟩:=l39.fn;obtain ⟨_,F40,hc40,k40⟩:=l40.fn;obtain ⟨_,F41,hc41,k41⟩:=l41.fn;obtain ⟨_,F42,hc42,k42⟩:=l42.fn;obtain ⟨_,F43,hc43,k43⟩:=l43.fn;obtain ⟨_,F44,hc44,k44⟩:=l44.fn;obtain ⟨_,F45,hc45,k45⟩:=l45.fn;obtain ⟨_,F46,hc46,k46⟩:=l46.fn;obtain ⟨_,F47,hc47,k47⟩:=l47.fn;obtain ⟨_,F48,hc48,k48⟩:=l48.fn;obtain ⟨_,F49,hc49,k49⟩:=l49.fn;obtain ⟨_,F50,hc50,k50⟩:=l50.fn;obtain ⟨_,F51,hc51,k51⟩:=l51.fn;have F52:=a8K (st:=a1k) l52 c52 k52;have b1:Binds K _ ["script","k"] []:=F1.b2 λ _ _ _ _ _ _ _ _=>rfl;have b2:Binds K _ ["cell","many","base"] []:=F2.b3 λ _ _ _ _ _ _ _ _ _=>rfl;have b3:Binds K _ ["house","picks","far"] []:=F3.b3 λ _ _ _ _ _ _ _ _ _=>rfl;have b4:Binds K _ ["script","at","most","far"] []:=F4.b4 λ _ _ _ _ _ _ _ _ _ _=>rfl;have b5:Binds K _ ["book","number"] []:=F5.b2 λ _ _ _ _ _ _ _ _=>rfl;have b6:Binds K _ ["self","goal","rows","bounds"] []:=F6.b4 λ _ _ _ _ _ _ _ _ _ _=>rfl;have b7:Binds K _ ["self"] []:=F7.b1 λ _ _ _ _ _ _ _=>rfl;have b8:Binds K _ ["self","row","other","column"] []:=F8.b4 λ _ _ _ _ _ _ _ _ _ _=>rfl;have b9:Binds K _ ["self","column"] []:=F9.b2 λ _ _ _ _ _ _ _ _=>rfl;have b10:Binds K _ ["cells","lead","column","scale"] []:=F10.b4 λ _ _ _ _ _ _ _ _ _ _=>rfl;have b11:Binds K _ ["self","row","column"] []:=F11.b3 λ _ _ _ _ _ _ _ _ _=>rfl;have b12:Binds K _ ["self"] []:=F12.b1 λ _ _ _ _ _ _ _=>rfl;have b13:Binds K _ ["self"] []:=F13.b1 λ _ _ _ _ _ _ _=>rfl;have b14:Binds K _ ["goal","rows","bounds"] []:=F14.b3 λ _ _ _ _ _ _ _ _ _=>rfl;have b15:Binds K _ ["houses","sizes"] []:=F15.b2 λ _ _ _ _ _ _ _ _=>rfl;have b16:Binds K _ ["houses","number","sizes"] []:=F16.b3 λ _ _ _ _ _ _ _ _ _=>rfl;have b17:Binds K _ ["one","other"] []:=F17.b2 λ _ _ _ _ _ _ _ _=>rfl;have b18:Binds K _ ["top","bottom"] []:=F18.b2 λ _ _ _ _ _ _ _ _=>rfl;have b19:Binds K _ ["amounts","tops"] []:=F19.b2 λ _ _ _ _ _ _ _ _=>rfl;have b20:Binds K _ ["house","sizes","amounts","bottom"] []:=F20.b4 λ _ _ _ _ _ _ _ _ _ _=>rfl;have b21:Binds K _ ["book","number","sizes"] []:=F21.b3 λ _ _ _ _ _ _ _ _ _=>rfl;have b22:Binds K _ ["one","other"] []:=F22.b2 λ _ _ _ _ _ _ _ _=>rfl;have b23:Binds K _ ["top","bottom"] []:=F23.b2 λ _ _ _ _ _ _ _ _=>rfl;have b24:Binds K _ ["book","number","found","picks"] []:=F24.b4 λ _ _ _ _ _ _ _ _ _ _=>rfl;have b25:Binds K _ ["part","picks"] []:=F25.b2 λ _ _ _ _ _ _ _ _=>rfl;have b26:Binds K _ ["some","picks"] []:=F26.b2 λ _ _ _ _ _ _ _ _=>rfl;have b27:Binds K _ ["one","other"] []:=F27.b2 λ _ _ _ _ _ _ _ _=>rfl;have b28:Binds K _ ["sizes","size"] []:=F28.b2 λ _ _ _ _ _ _ _ _=>rfl;have b29:Binds K _ ["ones"] []:=F29.b1 λ _ _ _ _ _ _ _=>rfl;have b30:Binds K _ ["ones"] []:=F30.b1 λ _ _ _ _ _ _ _=>rfl;have b31:Binds K _ ["book","sizes","mix"] []:=F31.b3 λ _ _ _ _ _ _ _ _ _=>rfl;have b32:Binds K _ ["rows","tops","bottom"] []:=F32.b3 λ _ _ _ _ _ _ _ _ _=>rfl;have b33:Binds K _ ["book","mix"] []:=F33.b2 λ _ _ _ _ _ _ _ _=>rfl;have b34:Binds K _ ["ones","others"] []:=F34.b2 λ _ _ _ _ _ _ _ _=>rfl;have b35:Binds K _ ["amounts","fraction"] []:=F35.b2 λ _ _ _ _ _ _ _ _=>rfl;have b36:Binds K _ ["book","number","sizes","shrunk","grown","mix"] []:=F36.b6 λ _ _ _ _ _ _ _ _ _ _ _ _=>rfl;have b37:Binds K _ ["book","number","sizes","mix"] []:=F37.b4 λ _ _ _ _ _ _ _ _ _ _=>rfl;have b38:Binds K _ ["numbers","parts"] []:=F38.b2 λ _ _ _ _ _ _ _ _=>rfl;have b39:Binds K _ ["one","other"] []:=F39.b2 λ _ _ _ _ _ _ _ _=>rfl;have b40:Binds K _ ["book","sizes","mix"] []:=F40.b3 λ _ _ _ _ _ _ _ _ _=>rfl;have b41:Binds K _ ["book","mix"] []:=F41.b2 λ _ _ _ _ _ _ _ _=>rfl;have b42:Binds K _ ["book","number","sizes","mix","takes_by","gives_by"] []:=F42.b6 λ _ _ _ _ _ _ _ _ _ _ _ _=>rfl;have b43:Binds K _ ["book","number","sizes","mix"] []:=F43.b4 λ _ _ _ _ _ _ _ _ _ _=>rfl;have b44:Binds K _ ["sizes","for_size"] []:=F44.b2 λ _ _ _ _ _ _ _ _=>rfl;have b45:Binds K _ ["book","sizes","prices"] []:=F45.b3 λ _ _ _ _ _ _ _ _ _=>rfl;have b46:Binds K _ ["book","prices"] []:=F46.b2 λ _ _ _ _ _ _ _ _=>rfl;have b47:Binds K _ ["paid","given","size"] []:=F47.b3 λ _ _ _ _ _ _ _ _ _=>rfl;have b48:Binds K _ ["book","number","sizes","prices"] []:=F48.b4 λ _ _ _ _ _ _ _ _ _ _=>rfl;have b49:Binds K _ ["house","prices"] []:=F49.b2 λ _ _ _ _ _ _ _ _=>rfl;have b50:Binds K _ ["book","sizes","prices"] []:=F50.b3 λ _ _ _ _ _ _ _ _ _=>rfl;have b51:Binds K _ ["book","number","sizes","prices"] []:=F51.b4 λ _ _ _ _ _ _ _ _ _ _=>rfl;have T:w6 mg:=⟨W.mg_none_of X G z1,W.mg_none_of X G z2,W.mg_none_of X G z3,W.mg_none_of X G z4,W.mg_none_of X G z5,W.mg_none_of X G z6,W.mg_none_of X G z7,W.mg_none_of X G z8,W.mg_none_of X G z9,W.mg_none_of X G z10,W.mg_none_of X G z11,W.mg_none_of X G z12,W.mg_none_of X G z13,W.mg_none_of X G z14,W.mg_none_of X G z15,W.mg_none_of X G z16,W.mg_none_of X G z17⟩;have TBd:TB K CB:=⟨⟨bp,bh,bo,bs⟩,b_many,b_scale,b_cells,b_outs,b_ins⟩;have SG:Sg K w.params mg dS:=⟨W.mg_of X G s1,⟨_,_,s3,s4⟩,λ z hz=>by
    rcases hz with rfl | rfl | rfl | rfl
    . exact ⟨_,sa0,λ H=>.inr ⟨_,_,_,sb0,rfl,rfl,(by show 0<=sizeLine; decide),.nil⟩⟩
    . exact ⟨_,sa1,λ H=>.inr ⟨_,_,_,sb1,rfl,rfl,(by show 2<=sizeLine; decide),.cons ⟨_,rfl⟩ (.cons ⟨_,rfl⟩ .nil)⟩⟩
    . exact ⟨_,sa2,λ H=>.inr ⟨_,_,_,sb2,rfl,rfl,(by show 1<=sizeLine; decide),.cons ⟨_,rfl⟩ .nil⟩⟩
    . exact ⟨_,sa3,λ H=>.inr ⟨_,_,_,sb3,rfl,rfl,(by show 1<=sizeLine; decide),.cons ⟨_,rfl⟩ .nil⟩⟩
    ⟩
  have C_ONE:One K mg oC_ONE:=⟨W.mg_of X G cmONE,λ H=>.inr ⟨_,_,_,clONE,rfl,rfl,(by show 2<=sizeLine; decide),.cons ⟨_,rfl⟩ (.cons ⟨_,rfl⟩ .nil)⟩⟩;have k_NoHouse:b1d K cE_NoHouse:=⟨b1k xoNoHouse,xgaNoHouse,xgnNoHouse,xcaNoHouse,xmoNoHouse,xmbNoHouse⟩;have m_NoHouse:=W.mg_of X G xmNoHouse;refine ⟨W.fnOf "law" "law" (K7 a1k) (t9 a1k) (i3 a1k) .none kVL dcL pmL anL cdL ctL,λ s v=>.of_eq rfl,λ base _ _ BM hCH=>?_⟩;have g1:=λ n:Nat=>b0l (mg:=mg) (P:=l.prog) (w:=w) (base:=base) (n:=n) F1 T;have g2:=λ n:Nat=>a7Z (mg:=mg) (P:=l.prog) (w:=w) (base:=base) (n:=n) F2 T;have g3:=λ n:Nat=>b0q (mg:=mg) (P:=l.prog) (w:=w) (base:=base) (n:=n) F3 T;have g4:=λ n:Nat=>a8D (mg:=mg) (P:=l.prog) (w:=w) (base:=base) F4 T (g1 (n+0)) b1 k1 (W.mg_of X G a1) (g2 (n+0)) b2 k2 (W.mg_of X G a2) (g3 (n+0)) b3 k3 (W.mg_of X G a3);have g5:=λ n:Nat=>b1u (mg:=mg) (P:=l.prog) (w:=w) (base:=base) (n:=n) F5 T k_NoHouse m_NoHouse;have g6:=λ n:Nat=>b0d (mg:=mg) (P:=l.prog) (w:=w) (base:=base) (n:=n) F6 T TBd;have g7:=λ n:Nat=>a7s (mg:=mg) (P:=l.prog) (w:=w) (base:=base) (n:=n) F7 hc7 (hCH _ (.head _)) BM T TBd;have g8:=λ n:Nat=>a8V (mg:=mg) (P:=l.prog) (w:=w) (base:=base) (n:=n) F8 TBd;have g9:=λ n:Nat=>a8j (mg:=mg) (P:=l.prog) (w:=w) (base:=base) F9 T TBd ⟨g8 (n+0),b8,⟨a8,n8,k8⟩⟩;have g10:=λ n:Nat=>a7Q (mg:=mg) (P:=l.prog) (w:=w) (base:=base) (n:=n) F10 T;have g11:=λ n:Nat=>a4m (mg:=mg) (P:=l.prog) (w:=w) (base:=base) F11 TBd ⟨g10 (n+0),b10,k10,(W.mg_of X G a10)⟩;have g12:=λ n:Nat=>a9V (mg:=mg) (P:=l.prog) (w:=w) (base:=base) (n:=n) F12 T TBd;have g13:=λ n:Nat=>b1t (mg:=mg) (P:=l.prog) (w:=w) (base:=base) (n:=n) F13 T TBd;have g14:=λ n:Nat=>a4p (mg:=mg) (P:=l.prog) (w:=w) (base:=base) F14 TBd ⟨⟨bm,a6,n6,bk⟩,g6 (n+2),b6,W.mg_of X G aB,⟨g7 (n+0),b7,⟨a7,n7,k7⟩⟩,⟨g9 (n+1),b9,⟨a9,n9,k9⟩⟩,⟨g11 (n+1),b11,⟨a11,n11,k11⟩⟩,⟨g12 (n+2),b12,⟨a12,n12,k12⟩⟩,⟨g13 (n+2),b13,⟨a13,n13,k13⟩⟩⟩;have g15:=λ n:Nat=>a3D (mg:=mg) (P:=l.prog) (w:=w) (base:=base) (n:=n) F15 T SG;have g16:=λ n:Nat=>a8z (mg:=mg) (P:=l.prog) (w:=w) (base:=base) F16 T ⟨g14 (n+0),b14,k14,(W.mg_of X G a14)⟩ ⟨g15 (n+4),b15,k15,(W.mg_of X G a15)⟩;have g17:=λ n:Nat=>b1Q (mg:=mg) (P:=l.prog) (w:=w) (base:=base) (n:=n) F17 T;have g18:=λ n:Nat=>b1R (mg:=mg) (P:=l.prog) (w:=w) (base:=base) F18 T ⟨g17 (n+0),b17,k17,(W.mg_of X G a17)⟩;have g19:=λ n:Nat=>a8s (mg:=mg) (P:=l.prog) (w:=w) (base:=base) (n:=n) F19 T;have g20:=λ n:Nat=>a5c (mg:=mg) (P:=l.prog) (w:=w) (base:=base) F20 T SG ⟨g18 (n+0),b18,k18,(W.mg_of X G a18)⟩ ⟨g19 (n+1),b19,k19,(W.mg_of X G a19)⟩;have g21:=λ n:Nat=>a8o (mg:=mg) (P:=l.prog) (w:=w) (base:=base) F21 T ⟨g5 (n+5),b5,k5,(W.mg_of X G a5)⟩ ⟨g16 (n+0),b16,k16,(W.mg_of X G a16)⟩ ⟨g18 (n+4),b18,k18,(W.mg_of X G a18)⟩ ⟨g20 (n+3),b20,k20,(W.mg_of X G a20)⟩;have g22:=λ n:Nat=>a7q (mg:=mg) (P:=l.prog) (w:=w) (base:=base) (n:=n) F22;have g23:=λ n:Nat=>a9s (mg:=mg) (P:=l.prog) (w:=w) (base:=base) F23 T ⟨g22 (n+0),b22,k22,(W.mg_of X G a22)⟩;have g24:=λ n:Nat=>b1O (mg:=mg) (P:=l.prog) (w:=w) (base:=base) F24 T ⟨g23 (n+0),b23,k23,(W.mg_of X G a23)⟩;have g25:=λ n:Nat=>a9F (mg:=mg) (P:=l.prog) (w:=w) (base:=base) F25 ⟨g23 (n+0),b23,k23,(W.mg_of X G a23)⟩;have g26:=λ n:Nat=>b2c (mg:=mg) (P:=l.prog) (w:=w) (base:=base) F26 T ⟨g25 (n+0),b25,k25,(W.mg_of X G a25)⟩;have g27:=λ n:Nat=>b0u (mg:=mg) (P:=l.prog) (w:=w) (base:=base) (n:=n) F27;have g28:=λ n:Nat=>a9m (mg:=mg) (P:=l.prog) (w:=w) (base:=base) F28 C_ONE ⟨g27 (n+0),b27,k27,(W.mg_of X G a27)⟩;have g29:=λ n:Nat=>a9D (mg:=mg) (P:=l.prog) (w:=w) (base:=base) F29 ⟨g17 (n+0),b17,k17,(W.mg_of X G a17)⟩;have g30:=λ n:Nat=>a7o (mg:=mg) (P:=l.prog) (w:=w) (base:=base) F30 T ⟨g29 (n+0),b29,k29,(W.mg_of X G a29)⟩ ⟨g18 (n+0),b18,k18,(W.mg_of X G a18)⟩;have g31:=λ n:Nat=>a6Y (mg:=mg) (P:=l.prog) (w:=w) (base:=base) F31 T ⟨g28 (n+1),b28,k28,(W.mg_of X G a28)⟩ ⟨g30 (n+0),b30,k30,(W.mg_of X G a30)⟩;have g32:=λ n:Nat=>a9Y (mg:=mg) (P:=l.prog) (w:=w) (base:=base) F32 T ⟨g18 (n+0),b18,k18,(W.mg_of X G a18)⟩;have g33:=λ n:Nat=>a6O (mg:=mg) (P:=l.prog) (w:=w) (base:=base) F33 ⟨g29 (n+1),b29,k29,(W.mg_of X G a29)⟩ ⟨g32 (n+0),b32,k32,(W.mg_of X G a32)⟩;have g34:=λ n:Nat=>a7m (mg:=mg) (P:=l.prog) (w:=w) (base:=base) F34 T ⟨g27 (n+0),b27,k27,(W.mg_of X G a27)⟩;have g35:=λ n:Nat=>a7z (mg:=mg) (P:=l.prog) (w:=w) (base:=base) F35 ⟨g18 (n+0),b18,k18,(W.mg_of X G a18)⟩;have g36:=λ n:Nat=>a9U (mg:=mg) (P:=l.prog) (w:=w) (base:=base) F36 ⟨g5 (n+3),b5,k5,(W.mg_of X G a5)⟩ ⟨g31 (n+0),b31,k31,(W.mg_of X G a31)⟩ ⟨g33 (n+0),b33,k33,(W.mg_of X G a33)⟩ ⟨g34 (n+2),b34,k34,(W.mg_of X G a34)⟩ ⟨g35 (n+1),b35,k35,(W.mg_of X G a35)⟩;have g37:=λ n:Nat=>a7w (mg:=mg) (P:=l.prog) (w:=w) (base:=base) F37 C_ONE ⟨g36 (n+0),b36,k36,(W.mg_of X G a36)⟩ ⟨g33 (n+1),b33,k33,(W.mg_of X G a33)⟩;have g38:=λ n:Nat=>b1G (mg:=mg) (P:=l.prog) (w:=w) (base:=base) F38 T ⟨g22 (n+1),b22,k22,(W.mg_of X G a22)⟩ ⟨g23 (n+0),b23,k23,(W.mg_of X G a23)⟩;have g39:=λ n:Nat=>a9q (mg:=mg) (P:=l.prog) (w:=w) (base:=base) (n:=n) F39;have g40:=λ n:Nat=>b0k (mg:=mg) (P:=l.prog) (w:=w) (base:=base) F40 T ⟨g38 (n+0),b38,k38,(W.mg_of X G a38)⟩ ⟨g39 (n+2),b39,k39,(W.mg_of X G a39)⟩;have g41:=λ n:Nat=>a4L (mg:=mg) (P:=l.prog) (w:=w) (base:=base) F41 T ⟨g38 (n+0),b38,k38,(W.mg_of X G a38)⟩;have g42:=λ n:Nat=>a3L (mg:=mg) (P:=l.prog) (w:=w) (base:=base) F42 T ⟨g40 (n+0),b40,k40,(W.mg_of X G a40)⟩ ⟨g41 (n+0),b41,k41,(W.mg_of X G a41)⟩ ⟨g39 (n+3),b39,k39,(W.mg_of X G a39)⟩ ⟨g23 (n+2),b23,k23,(W.mg_of X G a23)⟩;have g43:=λ n:Nat=>a7g (mg:=mg) (P:=l.prog) (w:=w) (base:=base) F43 T ⟨g42 (n+0),b42,k42,(W.mg_of X G a42)⟩ ⟨g41 (n+1),b41,k41,(W.mg_of X G a41)⟩;have g44:=λ n:Nat=>a8v (mg:=mg) (P:=l.prog) (w:=w) (base:=base) (n:=n) F44;have g45:=λ n:Nat=>a9G (mg:=mg) (P:=l.prog) (w:=w) (base:=base) F45 T ⟨g44 (n+0),b44,k44,(W.mg_of X G a44)⟩;have g46:=λ n:Nat=>a6Q (mg:=mg) (P:=l.prog) (w:=w) (base:=base) F46 T ⟨g29 (n+0),b29,k29,(W.mg_of X G a29)⟩ ⟨g19 (n+1),b19,k19,(W.mg_of X G a19)⟩;have g47:=λ n:Nat=>a5g (mg:=mg) (P:=l.prog) (w:=w) (base:=base) (n:=n) F47 T;have g48:=λ n:Nat=>a7Y (mg:=mg) (P:=l.prog) (w:=w) (base:=base) F48 T ⟨g5 (n+2),b5,k5,(W.mg_of X G a5)⟩ ⟨g45 (n+1),b45,k45,(W.mg_of X G a45)⟩ ⟨g46 (n+0),b46,k46,(W.mg_of X G a46)⟩ ⟨g47 (n+2),b47,k47,(W.mg_of X G a47)⟩;have g49:=λ n:Nat=>a8G (mg:=mg) (P:=l.prog) (w:=w) (base:=base) F49 T ⟨g38 (n+0),b38,k38,(W.mg_of X G a38)⟩ ⟨g23 (n+1),b23,k23,(W.mg_of X G a23)⟩;have g50:=λ n:Nat=>b0c (mg:=mg) (P:=l.prog) (w:=w) (base:=base) F50 T ⟨g49 (n+0),b49,k49,(W.mg_of X G a49)⟩ ⟨g39 (n+3),b39,k39,(W.mg_of X G a39)⟩;have g51:=λ n:Nat=>a4M (mg:=mg) (P:=l.prog) (w:=w) (base:=base) F51 T ⟨g50 (n+0),b50,k50,(W.mg_of X G a50)⟩ ⟨g49 (n+1),b49,k49,(W.mg_of X G a49)⟩;exact b1q F52 T ⟨⟨g4 5,b4,k4,(W.mg_of X G a4)⟩,⟨g1 6,b1,k1,(W.mg_of X G a1)⟩,⟨g2 6,b2,k2,(W.mg_of X G a2)⟩,⟨g21 0,b21,k21,(W.mg_of X G a21)⟩,⟨g24 4,b24,k24,(W.mg_of X G a24)⟩,⟨g26 3,b26,k26,(W.mg_of X G a26)⟩,⟨g37 1,b37,k37,(W.mg_of X G a37)⟩,⟨g43 1,b43,k43,(W.mg_of X G a43)⟩,⟨g48 3,b48,k48,(W.mg_of X G a48)⟩,⟨g51 1,b51,k51,(W.mg_of X G a51)⟩⟩
end Rim
def PySem.W.Fast.tw5099644061480547007:Nat:=0
def PySem.W.Fast.tw6367529287762090111:Nat:=0
def PySem.W.Fast.tw17013320396621160444:Nat:=0
def PySem.W.Fast.tw18022329109968042684:Nat:=0
def PySem.W.Fast.tw6505153219019389943:Nat:=0
def PySem.W.Fast.tw1358702937974350155:Nat:=0
def PySem.W.Fast.tw17004869225270576037:Nat:=0
def PySem.W.Fast.tw5739157920446825893:Nat:=0
def PySem.W.Fast.tw6156728305764171584:Nat:=0
def PySem.W.Fast.tw13684913800790922285:Nat:=0
def PySem.W.Fast.tw4063568271436030020:Nat:=0
def PySem.W.Fast.tw3366725706961465731:Nat:=0
def PySem.W.Fast.tw8084234711943595186:Nat:=0
def PySem.W.Fast.tw12935926444659425907:Nat:=0
def PySem.W.Fast.tw1753965801249995169:Nat:=0
def PySem.W.Fast.tw12631096083364283417:Nat:=0
def PySem.W.Fast.tw14901613536791368333:Nat:=0
def PySem.W.Fast.tw9815309658760357361:Nat:=0
def PySem.W.Fast.tw16802612257445748901:Nat:=0
def PySem.W.Fast.tw7724763846342838357:Nat:=0
def PySem.W.Fast.tw15691582151701364637:Nat:=0
def PySem.W.Fast.tw816632022180272993:Nat:=0
def PySem.W.Fast.tw9826240277756935116:Nat:=0
def PySem.W.Fast.tw10000948779753087949:Nat:=0
def PySem.W.Fast.tw659651330721341173:Nat:=0
def PySem.W.Fast.tw7174365718103444827:Nat:=0
def PySem.W.Fast.tw4497807085423415277:Nat:=0
def PySem.W.Fast.tw12786541255168735335:Nat:=0
def PySem.W.Fast.tw5516054316439300693:Nat:=0
def PySem.W.Fast.tw9840679064542559652:Nat:=0
def PySem.W.Fast.tw6318375489001115542:Nat:=0
def PySem.W.Fast.tw12833650062817327542:Nat:=0
def PySem.W.Fast.tw8098177771175412892:Nat:=0
def PySem.W.Fast.tw11160278490551488234:Nat:=0
def PySem.W.Fast.tw15757901387484787632:Nat:=0
def PySem.W.Fast.tw465539449121886029:Nat:=0
def PySem.W.Fast.tw17503271268781250556:Nat:=0
def PySem.W.Fast.tw9730237240425841013:Nat:=0
def PySem.W.Fast.tw16064010329119120780:Nat:=0
def PySem.W.Fast.tw3259804702496700278:Nat:=0
def PySem.W.Fast.tw5740552521072189187:Nat:=0
def PySem.W.Fast.tw16340733828364407747:Nat:=0
def PySem.W.Fast.tw3639393235559399567:Nat:=0
def PySem.W.Fast.tw3469988027934353523:Nat:=0
def PySem.W.Fast.tw12664720155385193662:Nat:=0
def PySem.W.Fast.tw15684613071595279380:Nat:=0
def PySem.W.Fast.tw13070794770526157462:Nat:=0
def PySem.W.Fast.tw5902059099195741490:Nat:=0
def PySem.W.Fast.tw11979187370537392170:Nat:=0
def PySem.W.Fast.tw3362189593108555094:Nat:=0
def PySem.W.Fast.tw16814617358671999196:Nat:=0
def PySem.W.Fast.tw9643942560929563613:Nat:=0
def PySem.W.Fast.tw7520003162643723700:Nat:=0
def PySem.W.Fast.tw15285912137631525794:Nat:=0
def PySem.W.Fast.tw3217147880819866588:Nat:=0
def PySem.W.Fast.tw10377590057127849500:Nat:=0
def PySem.W.Fast.tw13621905006471977499:Nat:=0
def PySem.W.Fast.tw2135890224798958144:Nat:=0
def PySem.W.Fast.tw14800984424491454393:Nat:=0
def PySem.W.Fast.tw7175182053089284934:Nat:=0
def PySem.W.Fast.tw17373228028667684034:Nat:=0
def PySem.W.Fast.tw17124642154771233950:Nat:=0
def PySem.W.Fast.tw15558411277731486246:Nat:=0
def PySem.W.Fast.tw13912294658125473025:Nat:=0
def PySem.W.Fast.tw4421884714670265036:Nat:=0
def PySem.W.Fast.tw16181308548589225581:Nat:=0
def PySem.W.Fast.tw7897898045268890154:Nat:=0
def PySem.W.Fast.tw3139245982199996062:Nat:=0
def PySem.W.Fast.tw16163346893666347195:Nat:=0
def PySem.W.Fast.tw14703489421848039322:Nat:=0
def PySem.W.Fast.tw11026044825712032810:Nat:=0
def PySem.W.Fast.tw10953877046309477105:Nat:=0
def PySem.W.Fast.tw5420650800874015688:Nat:=0
def PySem.W.Fast.tw14132736152297887375:Nat:=0
def PySem.W.Fast.tw11094773477202174973:Nat:=0
def PySem.W.Fast.tw511895746203751741:Nat:=0
def PySem.W.Fast.tw8946752050516495489:Nat:=0
def PySem.W.Fast.tw17883011310969094111:Nat:=0
def PySem.W.Fast.tw16123613468160761156:Nat:=0
def PySem.W.Fast.tw13061470942890642423:Nat:=0
def PySem.W.Fast.tw10106381724585946663:Nat:=0
def PySem.W.Fast.tw18173832823886970490:Nat:=0
def PySem.W.Fast.tw8946140337845378251:Nat:=0
def PySem.W.Fast.tw7655804872354278977:Nat:=0
def PySem.W.Fast.tw9635986485075409668:Nat:=0
def PySem.W.Fast.tw16187182499113537884:Nat:=0
def PySem.W.Fast.tw766956220763302316:Nat:=0
def PySem.W.Fast.tw13253543803033714048:Nat:=0
def PySem.W.Fast.tw7070043962844954593:Nat:=0
def PySem.W.Fast.tw13843094406895490870:Nat:=0
def PySem.W.Fast.tw2091187353398737494:Nat:=0
def PySem.W.Fast.tw16822633037410859527:Nat:=0
def PySem.W.Fast.tw8692170008008986902:Nat:=0
def PySem.W.Fast.tw5077944882915148566:Nat:=0
def PySem.W.Fast.tw1741201963495782385:Nat:=0
def PySem.W.Fast.tw3222816658502249267:Nat:=0
def PySem.W.Fast.tw7381327262913624299:Nat:=0
def PySem.W.Fast.tw10677980949358262952:Nat:=0
def PySem.W.Fast.tw773663938634435675:Nat:=0
def PySem.W.Fast.tw3796869620848105192:Nat:=0
def PySem.W.Fast.tw11734290054531283587:Nat:=0
def PySem.W.Fast.tw11229164981601302674:Nat:=0
def PySem.W.Fast.tw16984881658918275591:Nat:=0
def PySem.W.Fast.tw3520574841179394899:Nat:=0
def PySem.W.Fast.tw7336019898113667553:Nat:=0
def PySem.W.Fast.tw11000795159401580138:Nat:=0
def PySem.W.Fast.tw16751287760563853097:Nat:=0
def PySem.W.Fast.tw17729581401104972024:Nat:=0
def PySem.W.Fast.tw8843001717983921534:Nat:=0
def PySem.W.Fast.tw1617294425862709237:Nat:=0
def PySem.W.Fast.tw6173854945403253446:Nat:=0
def PySem.W.Fast.tw12921254676584710131:Nat:=0
def PySem.W.Fast.tw9305220238910137483:Nat:=0
def PySem.W.Fast.tw4796952400891075562:Nat:=0
def PySem.W.Fast.tw8046832359205281684:Nat:=0
def PySem.W.Fast.tw13102871635380060024:Nat:=0
def PySem.W.Fast.tw3768149296144080654:Nat:=0
def PySem.W.Fast.tw11523199475297680800:Nat:=0
def PySem.W.Fast.tw15898588392338825020:Nat:=0
def PySem.W.Fast.tw12316393079241453551:Nat:=0
def PySem.W.Fast.tw11807487103737301486:Nat:=0
def PySem.W.Fast.tw7910172412997843604:Nat:=0
def PySem.W.Fast.tw4818207746836177392:Nat:=0
def PySem.W.Fast.tw11528055407166915489:Nat:=0
def PySem.W.Fast.tw15686857566687382605:Nat:=0
def PySem.W.Fast.tw14824295561785555734:Nat:=0
def PySem.W.Fast.tw17455049405737564286:Nat:=0
def PySem.W.Fast.tw134817049265235647:Nat:=0
def PySem.W.Fast.tw4756761543665367644:Nat:=0
def PySem.W.Fast.tw393995819353034640:Nat:=0
def PySem.W.Fast.tw17498509700946934254:Nat:=0
def PySem.W.Fast.tw11054363900680985223:Nat:=0
def PySem.W.Fast.tw10162168764128312078:Nat:=0
def PySem.W.Fast.tw2214313282932443082:Nat:=0
def PySem.W.Fast.tw10960354810963512407:Nat:=0
def PySem.W.Fast.tw11926124437227306971:Nat:=0
def PySem.W.Fast.tw3774605698600937185:Nat:=0
def PySem.W.Fast.tw12951281734653803629:Nat:=0
def PySem.W.Fast.tw1037019602557803021:Nat:=0
def PySem.W.Fast.tw4642518477947135952:Nat:=0
def PySem.W.Fast.tw3120657337195004560:Nat:=0
def PySem.W.Fast.tw845475971273000532:Nat:=0
def PySem.W.Fast.tw7045912699964852032:Nat:=0
def PySem.W.Fast.tw12863766346364483468:Nat:=0
def PySem.W.Fast.tw1338830592561568667:Nat:=0
def PySem.W.Fast.tw6518592096733963760:Nat:=0
def PySem.W.Fast.tw14742673356020056077:Nat:=0
def PySem.W.Fast.tw920591383814958070:Nat:=0
def PySem.W.Fast.tw11235729748402082217:Nat:=0
def PySem.W.Fast.tw5384507985745221730:Nat:=0
def PySem.W.Fast.tw1793154322586766095:Nat:=0
def PySem.W.Fast.tw17787888382494327968:Nat:=0
def PySem.W.Fast.tw16869141353533719868:Nat:=0
def PySem.W.Fast.tw4060047547927996359:Nat:=0
def PySem.W.Fast.tw11389596553336584932:Nat:=0
def PySem.W.Fast.tw4904058847259171604:Nat:=0
def PySem.W.Fast.tw15520690443215983101:Nat:=0
def PySem.W.Fast.tw14329767639705092595:Nat:=0
def PySem.W.Fast.tw8935603480338104180:Nat:=0
def PySem.W.Fast.tw13245631445022657563:Nat:=0
def PySem.W.Fast.tw7360783875654232887:Nat:=0
def PySem.W.Fast.tw17788971244003903877:Nat:=0
def PySem.W.Fast.tw13446496038584483672:Nat:=0
def PySem.W.Fast.tw6998099666252638815:Nat:=0
def PySem.W.Fast.tw9640681535698663992:Nat:=0
def PySem.W.Fast.tw12950279747541526123:Nat:=0
def PySem.W.Fast.tw16620255632065257601:Nat:=0
def PySem.W.Fast.tw12440539255203815136:Nat:=0
def PySem.W.Fast.tw7066552289355840222:Nat:=0
def PySem.W.Fast.tw13913782068329970442:Nat:=0
def PySem.W.Fast.tw2381740956006860031:Nat:=0
def PySem.W.Fast.tw1586323272600567277:Nat:=0
def PySem.W.Fast.tw13937543578410711155:Nat:=0
def PySem.W.Fast.tw5092140427854464472:Nat:=0
def PySem.W.Fast.tw11701242526970389339:Nat:=0
def PySem.W.Fast.tw211639225079624215:Nat:=0
def PySem.W.Fast.tw16770274984440554177:Nat:=0
def PySem.W.Fast.tw14924730102579746814:Nat:=0
def PySem.W.Fast.tw2267704688013388638:Nat:=0
def PySem.W.Fast.tw1949034229516359405:Nat:=0
def PySem.W.Fast.tw3726966906383533839:Nat:=0
def PySem.W.Fast.tw5656548637431528156:Nat:=0
def PySem.W.Fast.tw259162002957935406:Nat:=0
def PySem.W.Fast.tw7931396858948793004:Nat:=0
def PySem.W.Fast.tw12943800207458786229:Nat:=0
def PySem.W.Fast.tw13385278369973155820:Nat:=0
def PySem.W.Fast.tw6351811141506193220:Nat:=0
def PySem.W.Fast.tw8848967762369000603:Nat:=0
def PySem.W.Fast.tw4341132189651476031:Nat:=0
def PySem.W.Fast.tw899617036635547101:Nat:=0
def PySem.W.Fast.tw2280039301120852812:Nat:=0
def PySem.W.Fast.tw7753554666016180937:Nat:=0
def PySem.W.Fast.tw7059179257319369123:Nat:=0
def PySem.W.Fast.tw11591695063661825040:Nat:=0
def PySem.W.Fast.tw16647677225363871999:Nat:=0
def PySem.W.Fast.tw16067976592157681580:Nat:=0
def PySem.W.Fast.tw9377057453010353986:Nat:=0
def PySem.W.Fast.tw12090143237576269353:Nat:=0
def PySem.W.Fast.tw1792327592327916994:Nat:=0
def PySem.W.Fast.tw3198941499281993713:Nat:=0
def PySem.W.Fast.tw4303260740854914355:Nat:=0
def PySem.W.Fast.tw5889008408409060451:Nat:=0
def PySem.W.Fast.tw18250016781116871211:Nat:=0
def PySem.W.Fast.tw10153831250668786445:Nat:=0
def PySem.W.Fast.tw1709256936046351067:Nat:=0
def PySem.W.Fast.tw9215477085228286411:Nat:=0
def PySem.W.Fast.tw2043365855859679103:Nat:=0
def PySem.W.Fast.tw5526659840860953607:Nat:=0
def PySem.W.Fast.tw15603356769703915816:Nat:=0
def PySem.W.Fast.tw11968097220834239364:Nat:=0
def PySem.W.Fast.tw6124118960635937466:Nat:=0
def PySem.W.Fast.tw11384318813665552634:Nat:=0
def PySem.W.Fast.tw7269508303983990890:Nat:=0
def PySem.W.Fast.tw13160842698427279090:Nat:=0
def PySem.W.Fast.tw16373305255411803713:Nat:=0
def PySem.W.Fast.tw14333938070117849709:Nat:=0
def PySem.W.Fast.tw10081554025379937577:Nat:=0
def PySem.W.Fast.tw13268430450808790676:Nat:=0
def PySem.W.Fast.tw7733703905085258117:Nat:=0
def PySem.W.Fast.tw12455112848789728673:Nat:=0
def PySem.W.Fast.tw6462293151966076365:Nat:=0
def PySem.W.Fast.tw15403197351413843670:Nat:=0
def PySem.W.Fast.tw16756244537293678586:Nat:=0
def PySem.W.Fast.tw11527991229916338220:Nat:=0
def PySem.W.Fast.tw17624142961684492254:Nat:=0
def PySem.W.Fast.tw7629741571692964728:Nat:=0
def PySem.W.Fast.tw3521415478239704833:Nat:=0
def PySem.W.Fast.tw1086887681943856448:Nat:=0
namespace Rim
open PySem L2 Fr
theorem walk {l:W.OpenLaw} {q:Program} {loose:List Str} {XP:(Str->Option Value)->Heap->Prop} {YP:World->Heap->Prop} {d:DefRec} {K:Params->W.Frag} {Ct Pt:Addr} (hn:l.most=some 63) (hdf:d.params.defaults=[])
  (hY:∀ (w:World) (h:Heap),YP w h->(K w.params).In h/\∀ t∈[(Ct,Pt)],h.get? t.2=some (W.tabObj #[]))
  (hC:∀ (w:World),∀ t∈[(Ct,Pt)],W.codeHdIn (K w.params) t.1 t.2=true/\(K w.params).lookup t.2=none)
  (F:∀ (w:World) (mg:Str->Option Value) (fa:Addr) (h:Heap),(K w.params).In h->h.Ns mainGlobals mg->mg d.name=some (.ref fa) →
   ∃ fd:FuncData,(∀ (s:Shared) (u:Value),BindsTo s fd ⟨[u],[]⟩ [("script",u)])/\∀ base:Heap,(K w.params).In base->base.Ns mainGlobals mg->V6 mg base->(∀ t∈[(Ct,Pt)],W.CodeHd base t.1 t.2)->FnOk l.prog w (K w.params) mg base G2 8 fa fd ["script"] (a5B (K w.params) Pt)) :
  W.WalkO q loose XP YP l.row.toRowW d [] (λ f vs=>PySem.call f vs) :=
 L2.walk_ofT (n:=63) (k:=8) (x:="script") (Ts:=[(Ct,Pt)]) (CX:=λ _=>G2) (sp:=λ w=>a5B (K w.params) Pt) hn (by decide) hdf ⟨rfl,by decide,by decide⟩ hY hC F (λ _ _ a ns hl hT hS=>⟨a,ns,rfl,hS,hl,.inl (hT _ (.head _)),λ _=>rfl⟩) λ _ _ _ _ _ z=>z
end Rim
open PySem PySem.W PyProof.Rows
set_option maxRecDepth 100000 in
set_option maxHeartbeats 0 in
theorem PySem.Challenge.cw_rimhouse_k07_papers_of_rims_holds : PySem.Challenge.rw_rimhouse_k07_papers_of_rims.Holds := by
  w_on; o_law; km_head; (case hw=>w_witness2)
  k_fill
  refine' Rim.walk (l:=PySem.Challenge.rw_rimhouse_k07_papers_of_rims) (Ct:=_) (Pt:=121) rfl rfl ?Y ?C ?F
  case Y=>exact λ w h Y=>⟨W.km_in_of Y,λ t ht=>by rw [List.mem_singleton.mp ht]; exact W.km_tabs_of Y _ (.head _)⟩
  case F =>
    intro w mg fa h KX G hmg;refine' Rim.all_mk KX G hmg ?aB ?a1 ?l1 ?a2 ?l2 ?a3 ?l3 ?a4 ?l4 ?a5 ?l5 ?a6 ?l6 ?n6 ?a7 ?l7 ?n7 ?a8 ?l8 ?n8 ?a9 ?l9 ?n9 ?a10 ?l10 ?a11 ?l11 ?n11 ?a12 ?l12 ?n12 ?a13 ?l13 ?n13 ?a14 ?l14 ?a15 ?l15 ?a16 ?l16 ?a17 ?l17 ?a18 ?l18 ?a19 ?l19 ?a20 ?l20 ?a21 ?l21 ?a22 ?l22 ?a23 ?l23 ?a24 ?l24 ?a25 ?l25 ?a26 ?l26 ?a27 ?l27 ?a28 ?l28 ?a29 ?l29 ?a30 ?l30 ?a31 ?l31 ?a32 ?l32 ?a33 ?l33 ?a34 ?l34 ?a35 ?l35 ?a36 ?l36 ?a37 ?l37 ?a38 ?l38 ?a39 ?l39 ?a40 ?l40 ?a41 ?l41 ?a42 ?l42 ?a43 ?l43 ?a44 ?l44 ?a45 ?l45 ?a46 ?l46 ?a47 ?l47 ?a48 ?l48 ?a49 ?l49 ?a50 ?l50 ?a51 ?l51 ?a52 ?l52 ?c52 ?k52 ?z1 ?z2 ?z3 ?z4 ?z5 ?z6 ?z7 ?z8 ?z9 ?z10 ?z11 ?z12 ?z13 ?z14 ?z15 ?z16 ?z17 ?bp ?bh ?bo ?bs ?b_many ?b_scale ?b_cells ?b_outs ?b_ins ?bm ?bk ?s1 ?s3 ?s4 ?sa0 ?sb0 ?sa1 ?sb1 ?sa2 ?sb2 ?sa3 ?sb3 ?xmNoHouse ?xoNoHouse ?xgaNoHouse ?xgnNoHouse ?xcaNoHouse ?xmoNoHouse ?xmbNoHouse ?cmONE ?clONE
    (case aB=>k_is)
    (case a1=>k_is)
    (case l1=>(refine' L2.fun_in ?l ?c ?k; (case l=>k_is); (case c=>k_is); (case k=>k_is)))
    (case a2=>k_is)
    (case l2=>(refine' L2.fun_in ?l ?c ?k; (case l=>k_is); (case c=>k_is); (case k=>k_is)))
    (case a3=>k_is)
    (case l3=>(refine' L2.fun_in ?l ?c ?k; (case l=>k_is); (case c=>k_is); (case k=>k_is)))
    (case a4=>k_is)
    (case l4=>(refine' L2.fun_in ?l ?c ?k; (case l=>k_is); (case c=>k_is); (case k=>k_is)))
    (case a5=>k_is)
    (case l5=>(refine' L2.fun_in ?l ?c ?k; (case l=>k_is); (case c=>k_is); (case k=>k_is)))
    (case a6=>k_is)
    (case l6=>(refine' L2.fun_in ?l ?c ?k; (case l=>k_is); (case c=>k_is); (case k=>k_is)))
    (case n6=>k_is)
    (case a7=>k_is)
    (case l7=>(refine' L2.fun_in ?l ?c ?k; (case l=>k_is); (case c=>k_is); (case k=>k_is)))
    (case n7=>k_is)
    (case a8=>k_is)
    (case l8=>(refine' L2.fun_in ?l ?c ?k; (case l=>k_is); (case c=>k_is); (case k=>k_is)))
    (case n8=>k_is)
    (case a9=>k_is)
    (case l9=>(refine' L2.fun_in ?l ?c ?k; (case l=>k_is); (case c=>k_is); (case k=>k_is)))
    (case n9=>k_is)
    (case a10=>k_is)
    (case l10=>(refine' L2.fun_in ?l ?c ?k; (case l=>k_is); (case c=>k_is); (case k=>k_is)))
    (case a11=>k_is)
    (case l11=>(refine' L2.fun_in ?l ?c ?k; (case l=>k_is); (case c=>k_is); (case k=>k_is)))
    (case n11=>k_is)
    (case a12=>k_is)
    (case l12=>(refine' L2.fun_in ?l ?c ?k; (case l=>k_is); (case c=>k_is); (case k=>k_is)))
    (case n12=>k_is)
    (case a13=>k_is)
    (case l13=>(refine' L2.fun_in ?l ?c ?k; (case l=>k_is); (case c=>k_is); (case k=>k_is)))
    (case n13=>k_is)
    (case a14=>k_is)
    (case l14=>(refine' L2.fun_in ?l ?c ?k; (case l=>k_is); (case c=>k_is); (case k=>k_is)))
    (case a15=>k_is)
    (case l15=>(refine' L2.fun_in ?l ?c ?k; (case l=>k_is); (case c=>k_is); (case k=>k_is)))
    (case a16=>k_is)
    (case l16=>(refine' L2.fun_in ?l ?c ?k; (case l=>k_is); (case c=>k_is); (case k=>k_is)))
    (case a17=>k_is)
    (case l17=>(refine' L2.fun_in ?l ?c ?k; (case l=>k_is); (case c=>k_is); (case k=>k_is)))
    (case a18=>k_is)
    (case l18=>(refine' L2.fun_in ?l ?c ?k; (case l=>k_is); (case c=>k_is); (case k=>k_is)))
    (case a19=>k_is)
    (case l19=>(refine' L2.fun_in ?l ?c ?k; (case l=>k_is); (case c=>k_is); (case k=>k_is)))
    (case a20=>k_is)
    (case l20=>(refine' L2.fun_in ?l ?c ?k; (case l=>k_is); (case c=>k_is); (case k=>k_is)))
    (case a21=>k_is)
    (case l21=>(refine' L2.fun_in ?l ?c ?k; (case l=>k_is); (case c=>k_is); (case k=>k_is)))
    (case a22=>k_is)
    (case l22=>(refine' L2.fun_in ?l ?c ?k; (case l=>k_is); (case c=>k_is); (case k=>k_is)))
    (case a23=>k_is)
    (case l23=>(refine' L2.fun_in ?l ?c ?k; (case l=>k_is); (case c=>k_is); (case k=>k_is)))
    (case a24=>k_is)
    (case l24=>(refine' L2.fun_in ?l ?c ?k; (case l=>k_is); (case c=>k_is); (case k=>k_is)))
    (case a25=>k_is)
    (case l25=>(refine' L2.fun_in ?l ?c ?k; (case l=>k_is); (case c=>k_is); (case k=>k_is)))
    (case a26=>k_is)
    (case l26=>(refine' L2.fun_in ?l ?c ?k; (case l=>k_is); (case c=>k_is); (case k=>k_is)))
    (case a27=>k_is)
    (case l27=>(refine' L2.fun_in ?l ?c ?k; (case l=>k_is); (case c=>k_is); (case k=>k_is)))
    (case a28=>k_is)
    (case l28=>(refine' L2.fun_in ?l ?c ?k; (case l=>k_is); (case c=>k_is); (case k=>k_is)))
    (case a29=>k_is)
    (case l29=>(refine' L2.fun_in ?l ?c ?k; (case l=>k_is); (case c=>k_is); (case k=>k_is)))
    (case a30=>k_is)
    (case l30=>(refine' L2.fun_in ?l ?c ?k; (case l=>k_is); (case c=>k_is); (case k=>k_is)))
    (case a31=>k_is)
    (case l31=>(refine' L2.fun_in ?l ?c ?k; (case l=>k_is); (case c=>k_is); (case k=>k_is)))
    (case a32=>k_is)
    (case l32=>(refine' L2.fun_in ?l ?c ?k; (case l=>k_is); (case c=>k_is); (case k=>k_is)))
    (case a33=>k_is)
    (case l33=>(refine' L2.fun_in ?l ?c ?k; (case l=>k_is); (case c=>k_is); (case k=>k_is)))
    (case a34=>k_is)
    (case l34=>(refine' L2.fun_in ?l ?c ?k; (case l=>k_is); (case c=>k_is); (case k=>k_is)))
    (case a35=>k_is)
    (case l35=>(refine' L2.fun_in ?l ?c ?k; (case l=>k_is); (case c=>k_is); (case k=>k_is)))
    (case a36=>k_is)
    (case l36=>(refine' L2.fun_in ?l ?c ?k; (case l=>k_is); (case c=>k_is); (case k=>k_is)))
    (case a37=>k_is)
    (case l37=>(refine' L2.fun_in ?l ?c ?k; (case l=>k_is); (case c=>k_is); (case k=>k_is)))
    (case a38=>k_is)
    (case l38=>(refine' L2.fun_in ?l ?c ?k; (case l=>k_is); (case c=>k_is); (case k=>k_is)))
    (case a39=>k_is)
    (case l39=>(refine' L2.fun_in ?l ?c ?k; (case l=>k_is); (case c=>k_is); (case k=>k_is)))
    (case a40=>k_is)
    (case l40=>(refine' L2.fun_in ?l ?c ?k; (case l=>k_is); (case c=>k_is); (case k=>k_is)))
    (case a41=>k_is)
    (case l41=>(refine' L2.fun_in ?l ?c ?k; (case l=>k_is); (case c=>k_is); (case k=>k_is)))
    (case a42=>k_is)
    (case l42=>(refine' L2.fun_in ?l ?c ?k; (case l=>k_is); (case c=>k_is); (case k=>k_is)))
    (case a43=>k_is)
    (case l43=>(refine' L2.fun_in ?l ?c ?k; (case l=>k_is); (case c=>k_is); (case k=>k_is)))
    (case a44=>k_is)
    (case l44=>(refine' L2.fun_in ?l ?c ?k; (case l=>k_is); (case c=>k_is); (case k=>k_is)))
    (case a45=>k_is)
    (case l45=>(refine' L2.fun_in ?l ?c ?k; (case l=>k_is); (case c=>k_is); (case k=>k_is)))
    (case a46=>k_is)
    (case l46=>(refine' L2.fun_in ?l ?c ?k; (case l=>k_is); (case c=>k_is); (case k=>k_is)))
    (case a47=>k_is)
    (case l47=>(refine' L2.fun_in ?l ?c ?k; (case l=>k_is); (case c=>k_is); (case k=>k_is)))
    (case a48=>k_is)
    (case l48=>(refine' L2.fun_in ?l ?c ?k; (case l=>k_is); (case c=>k_is); (case k=>k_is)))
    (case a49=>k_is)
    (case l49=>(refine' L2.fun_in ?l ?c ?k; (case l=>k_is); (case c=>k_is); (case k=>k_is)))
    (case a50=>k_is)
    (case l50=>(refine' L2.fun_in ?l ?c ?k; (case l=>k_is); (case c=>k_is); (case k=>k_is)))
    (case a51=>k_is)
    (case l51=>(refine' L2.fun_in ?l ?c ?k; (case l=>k_is); (case c=>k_is); (case k=>k_is)))
    (case a52=>k_is)
    (case l52=>k_is)
    (case c52=>k_is)
    (case k52=>k_is)
    (case z1=>k_is)
    (case z2=>k_is)
    (case z3=>k_is)
    (case z4=>k_is)
    (case z5=>k_is)
    (case z6=>k_is)
    (case z7=>k_is)
    (case z8=>k_is)
    (case z9=>k_is)
    (case z10=>k_is)
    (case z11=>k_is)
    (case z12=>k_is)
    (case z13=>k_is)
    (case z14=>k_is)
    (case z15=>k_is)
    (case z16=>k_is)
    (case z17=>k_is)
    (case bp=>k_is)
    (case bh=>k_is)
    (case bo=>k_is)
    (case bs=>k_is)
    (case b_many=>k_is)
    (case b_scale=>k_is)
    (case b_cells=>k_is)
    (case b_outs=>k_is)
    (case b_ins=>k_is)
    (case bm=>k_is)
    (case bk=>k_is)
    (case s1=>k_is)
    (case s3=>k_is)
    (case s4=>k_keys)
    (case sa0=>k_is)
    (case sb0=>k_is)
    (case sa1=>k_is)
    (case sb1=>k_is)
    (case sa2=>k_is)
    (case sb2=>k_is)
    (case sa3=>k_is)
    (case sb3=>k_is)
    (case xmNoHouse=>k_is)
    (case xoNoHouse=>k_exc)
    (case xgaNoHouse=>k_is)
    (case xgnNoHouse=>k_is)
    (case xcaNoHouse=>k_is)
    (case xmoNoHouse=>k_is)
    (case xmbNoHouse=>k_is)
    (case cmONE=>k_is)
    (case clONE=>k_is)
  case C=>exact λ w t ht=>by rw [List.mem_singleton.mp ht]; exact ⟨by kernel_rfl,by kernel_rfl⟩
