import PyProof.Rows.All
import Wide.All
import OpenK.AllK
import Wide.FinOn
import Lean
import PyProof.EqAt
import PyProof.EqKinds
import PyProof.TupleCall
import PyProof.NeData
import PyProof.ZipIter
import PyProof.EnumMake
import PyProof.EnumFor
import KE.KMinKey
import KE.KUnpack
import KE.KNestM
import PyProof.AssignAttr
import KE.KLam
import PySem.Challenge.RW_rimhouse_k32_whole_two_kept
set_option Elab.async false
set_option linter.all false
set_option maxRecDepth 100000
namespace L2
open PySem PySem.Spec PyProof.Rows
abbrev Key:=Sum Int Str
def a9W:Key->Value->Bool
  | .inl k,v=>Value.isInt k v
  | .inr x,v=>Value.isStrOf x v
def b3A (w:World):Key->Int
  | .inl k=>hashInt k
  | .inr x=>hashStr w x
theorem w8:∀ {k:Key} {v:Value},a9W k v = true->(∃ i t,k = Sum.inl i/\v = Value.int i t) \/ (∃ x t,k = Sum.inr x/\v = Value.str x t)
  | .inl i,v,h=>by
    obtain ⟨t,e⟩:=Value.isInt_shape (k:=i) (v:=v) h
    exact .inl ⟨i,t,rfl,e⟩
  | .inr x,v,h=>by
    obtain ⟨t,e⟩:=Value.isStrOf_shape (x:=x) (v:=v) h
    exact .inr ⟨x,t,rfl,e⟩
theorem b1n (a b:Int):decide ((Sum.inl a:Key) = Sum.inl b) = (a == b):=by
  by_cases e:a = b
  . subst e; simp
  . have h:¬ (Sum.inl a:Key) = Sum.inl b:=fun q=>e (Sum.inl.inj q)
    rw [decide_eq_false h]
    exact (beq_eq_false_iff_ne.mpr e).symm
theorem b0X (a b:Str):decide ((Sum.inr a:Key) = Sum.inr b) = decide (a = b):=by
  by_cases e:a = b
  . subst e; simp
  . have h:¬ (Sum.inr a:Key) = Sum.inr b:=fun q=>e (Sum.inr.inj q)
    rw [decide_eq_false h,decide_eq_false e]
theorem b0e (a:Int) (b:Str):decide ((Sum.inl a:Key) = Sum.inr b) = false:=decide_eq_false (fun q=>nomatch q)
theorem b0n (a:Str) (b:Int):decide ((Sum.inr a:Key) = Sum.inl b) = false:=decide_eq_false (fun q=>nomatch q)
def a2I (prog:Program) (w:World):PySem.KeyKind prog w Key where
  is:=a9W
  hash:=b3A w
  inj:=fun v a b ha hb=>by
    rcases w8 ha with ⟨i,t,rfl,rfl⟩ | ⟨x,t,rfl,rfl⟩
    . rcases w8 hb with ⟨j,u,rfl,e⟩ | ⟨y,u,rfl,e⟩
      . injection e with e1 _; rw [e1]
      . exact nomatch e
    . rcases w8 hb with ⟨j,u,rfl,e⟩ | ⟨y,u,rfl,e⟩
      . exact nomatch e
      . injection e with e1 _; rw [e1]
  byValue:=fun k v h=>by
    rcases w8 h with ⟨i,t,rfl,rfl⟩ | ⟨x,t,rfl,rfl⟩ <;> rfl
  pyHash:=fun hv h=>by
    rcases w8 hv with ⟨i,t,rfl,rfl⟩ | ⟨x,t,rfl,rfl⟩
    . exact wpAny_pyHash_int h
    . exact wpAny_pyHash_str h
  eqBool:=fun hu hv h=>by
    rcases w8 hu with ⟨i,t,rfl,rfl⟩ | ⟨x,t,rfl,rfl⟩
    . rcases w8 hv with ⟨j,u,rfl,rfl⟩ | ⟨y,u,rfl,rfl⟩
      . rw [b1n] at h; exact wpAny_eqBool_int h
      . rw [b0e] at h; exact SeqAt.EqAt.int_str i t y u _ _ _ _ h
    . rcases w8 hv with ⟨j,u,rfl,rfl⟩ | ⟨y,u,rfl,rfl⟩
      . rw [b0n] at h; exact SeqAt.EqAt.str_int x t j u _ _ _ _ h
      . rw [b0X] at h; exact wpAny_eqBool_str h
  «strs»:=fun k x t v h=>by
    rcases w8 h with ⟨i,u,rfl,e⟩ | ⟨y,u,rfl,e⟩
    . exact nomatch e
    . injection e with e1 _
      subst e1
      cases v <;> rfl
end L2
namespace L2
open PySem PySem.Spec PyProof.Rows
inductive V where
  | non | bl (b:Bool) | int (i:Int) | str (x:Str) | byt (b:Array UInt8) | flt (b:UInt64) | ref (a:Addr) | ty (n:String)
  deriving DecidableEq
def RelV:V->Value->Prop
  | .non,u=>u = Value.none
  | .bl b,u=>u = Value.bool b
  | .int i,u=>∃ t,u = Value.int i t
  | .str x,u=>∃ t,u = Value.str x t
  | .byt b,u=>∃ t,u = Value.bytes b t
  | .flt b,u=>∃ t,u = Value.float b t
  | .ref a,u=>u = Value.ref a
  | .ty n,u=>u = Value.type n
abbrev Vals:List V->List Value->Prop:=Paired RelV
theorem Vals.length {xs:List V} {us:List Value} (r:Vals xs us):xs.length = us.length:=Paired.length r
theorem Vals.get:∀ {xs:List V} {us:List Value} {i:Nat} {x:V},Vals xs us->xs[i]? = some x->∃ u,us[i]? = some u/\RelV x u
  | _,_,_,_,.nil,e=>by simp at e
  | _,_,0,_,.cons r _,e=>by simp at e; subst e; exact ⟨_,rfl,r⟩
  | _,_,i + 1,x,.cons _ t,e=>by
    obtain ⟨u,h1,h2⟩:=Vals.get (i:=i) (x:=x) t (by simpa using e)
    exact ⟨u,by simpa using h1,h2⟩
theorem Vals.set {x:V} {u:Value} (r:RelV x u):∀ {xs:List V} {us:List Value} (i:Nat),Vals xs us->Vals (xs.set i x) (us.set i u)
  | _,_,_,.nil=>.nil
  | _,_,0,.cons _ t=>.cons r t
  | _,_,i + 1,.cons q t=>.cons q (Vals.set r i t)
theorem Vals.append:∀ {xs ys:List V} {us ws:List Value},Vals xs us->Vals ys ws->Vals (xs ++ ys) (us ++ ws)
  | _,_,_,_,.nil,s=>s
  | _,_,_,_,.cons r t,s=>.cons r (Vals.append t s)
theorem Vals.take:∀ {xs:List V} {us:List Value} (n:Nat),Vals xs us->Vals (xs.take n) (us.take n)
  | _,_,0,_=>.nil
  | _,_,_ + 1,.nil=>.nil
  | _,_,n + 1,.cons r t=>.cons r (Vals.take n t)
theorem Vals.drop:∀ {xs:List V} {us:List Value} (n:Nat),Vals xs us->Vals (xs.drop n) (us.drop n)
  | _,_,0,r=>r
  | _,_,_ + 1,.nil=>.nil
  | _,_,n + 1,.cons _ t=>Vals.drop n t
theorem Vals.none_of:∀ {xs:List V} {us:List Value} {i:Nat},Vals xs us->xs[i]? = none->us[i]? = none:=fun {xs us i} r e=>by
  have h1:=r.length
  have h2:xs.length <= i:=List.getElem?_eq_none_iff.mp e
  exact List.getElem?_eq_none_iff.mpr (by omega)
def RelO:Option V->Option Value->Prop
  | some v,some u=>RelV v u
  | none,none=>True
  | _,_=>False
def KV {κ:Type}:List (κ × V)->List (κ × Value)->Prop:=Paired fun (p:κ × V) (q:κ × Value)=>p.1 = q.1/\RelV p.2 q.2
def kV:Key->V
  | .inl i=>.int i
  | .inr x=>.str x
inductive HO where
    | lst (xs:List V)
    | tup (xs:List V)
    | dK (kvs:List (Key × V)) | dT (kvs:List (List Key × V))
    | set (S:Int->Bool) (n:Nat)
    | ins (C dx:Addr) (fs:List (Str × V))
    | own (x:Addr)
    | xd (fs:List (Str × V))
    | met (f x:Addr)
    | rng (lo hi:Int)
    | frz (o:Obj) (u:HO)
    | tbl (ps:Array Value)
    | ext (φ:Heap->Prop)
abbrev Hp:=Addr->Option HO
def m5 (H:Hp) (a:Addr) (o:HO):Hp:=fun b=>if b = a then some o else H b
theorem upd_same {H:Hp} {a:Addr} {o:HO}:m5 H a o a = some o:=by unfold m5; rw [if_pos rfl]
theorem c9 {H:Hp} {a b:Addr} {o:HO} (h:b ≠ a):m5 H a o b = H b:=by unfold m5; rw [if_neg h]
theorem L6 {H:Hp} {a:Addr} {o u:HO}:m5 (m5 H a o) a u = m5 H a u:=by
  funext b; unfold m5; split <;> rfl
theorem w6 {H:Hp} {a b:Addr} {o u:HO} (h:H a = some o) (h':H b = some u) (d:o ≠ u):a ≠ b:=by
  intro e; subst e; rw [h] at h'; exact d (Option.some.inj h')
theorem d7 {H:Hp} {a b:Addr} {o:HO} (h:H a = some o) (h':H b = none):a ≠ b:=by
  intro e; subst e; rw [h] at h'; cases h'
section
variable (P:Program) (w:World)
def ObjOk (H:Hp) (h:Heap) (a:Addr):HO->Prop
  | .lst xs=>xs.length <= sizeLine/\∃ (its:List Value) (n:Nat),Vals xs its/\h.get? a = some { cls:=.type "list",data:=.seq its.toArray n }
  | .tup xs=>xs.length <= sizeLine/\∃ its:List Value,Vals xs its/\IsTup h a its.toArray
  | .dK kvs=>kvs.length <= sizeLine/\(a == sysModules) = false/\∃ vs,KV kvs vs/\h.DictOf (a2I P w) a vs
  | .dT kvs=>kvs.length <= sizeLine/\(a == sysModules) = false/\∃ xs:List (List Key × Addr × Value),
      Paired (fun (p:List Key × V) (q:List Key × Addr × Value)=>p.1 = q.1/\H q.2.1 = some (.tup (p.1.map kV))/\RelV p.2 q.2.2) kvs xs ∧
      ∃ o es ep,h.get? a = some o/\o.ExactDict/\o.data = .dict es ep/\es.toList = xs.map (entryOfKey (tupleKind (a2I P w)))/\(xs.map (·.1)).Nodup
  | .set S n=>h.SetOf (intKind P w) a S n
  | .ins C dx fs=>H dx = some (.own a)/\fs.length <= 1000/\dx ≠ a/\h.get? a = some (W.instObj C dx) ∧
      ∃ mA,h.Ns1 dx mA/\(∀ f,RelO (fs.lookup f) (mA f))/\PySem.Within mA (fs.map (·.1))
  | .own _=>∃ o,h.get? a = some o
  | .xd fs=>∃ mA,h.Ns1 a mA/\∀ f,RelO (fs.lookup f) (mA f)
  | .rng lo hi=>∃ t u v,h.get? a = some { cls:=.type "range",data:=.fields #[.int lo t,.int hi u,.int 1 v] }
  | .frz o u=>h.get? a = some o/\ObjOk H h a u
  | .tbl ps=>h.get? a = some { cls:=.none,data:=.fields ps }
  | .met f x=>h.get? a = some (W.methodObj (.ref f) (.ref x))
  | .ext φ=>φ h/\(∃ o,h.get? a = some o)/\∀ h1 h2:Heap,φ h1->(∀ o,h1.get? a = some o->h2.get? a = some o)->φ h2
def HOk (H:Hp) (h:Heap):Prop:=∀ a o,H a = some o->ObjOk P w H h a o
end
section
variable {P:Program} {w:World} {H H':Hp} {h h':Heap} {a:Addr} {o:HO}
theorem ObjOk.lt (x:ObjOk P w H h a o):a < h.objs.size:=by
  cases o with
  | lst xs=>obtain ⟨_,_,_,_,e⟩:=x; exact Heap.lt_size e
  | tup xs=>obtain ⟨_,_,_,p⟩:=x; exact p.lt
  | dK kvs=>obtain ⟨_,_,_,_,o,_,_,e,_⟩:=x; exact Heap.lt_size e
  | dT kvs=>obtain ⟨_,_,_,_,o,_,_,e,_⟩:=x; exact Heap.lt_size e
  | set S n=>obtain ⟨o,_,_,_,e,_⟩:=x; exact Heap.lt_size e
  | ins C dx fs=>obtain ⟨_,_,_,e,_⟩:=x; exact Heap.lt_size e
  | own y=>obtain ⟨_,e⟩:=x; exact Heap.lt_size e
  | xd fs=>obtain ⟨_,⟨_,_,_,e,_⟩,_⟩:=x; exact Heap.lt_size e
  | rng lo hi=>obtain ⟨_,_,_,e⟩:=x; exact Heap.lt_size e
  | frz ob u=>obtain ⟨e,_⟩:=x; exact Heap.lt_size e
  | tbl ps=>exact Heap.lt_size (show h.get? a = some _ from x)
  | met f y=>exact Heap.lt_size (show h.get? a = some _ from x)
  | ext φ=>obtain ⟨_,⟨_,e⟩,_⟩:=x; exact Heap.lt_size e
theorem Paired.mapP {α β:Type} {F G:α->β->Prop}:∀ {l₁:List α} {l₂:List β},Paired F l₁ l₂->(∀ a b,F a b->G a b)->Paired G l₁ l₂
  | _,_,.nil,_=>.nil
  | _,_,.cons r t,f=>.cons (f _ _ r) (Paired.mapP t f)
theorem Paired.imp' {α β:Type} {F G:α->β->Prop} (f:∀ a b,F a b->G a b) {l₁:List α} {l₂:List β} (r:Paired F l₁ l₂):Paired G l₁ l₂:=Paired.mapP r f
theorem ObjOk.stay (x:ObjOk P w H h a o) (k:∀ b u,(b = a \/ H b = some (.own a))->h.get? b = some u->h'.get? b = some u)
    (ho:∀ b,H b = some (.own a)->H' b = some (.own a)) (ht:∀ b xs,H b = some (.tup xs)->H' b = some (.tup xs)):ObjOk P w H' h' a o:=by
  induction o with
  | lst xs=>obtain ⟨z,its,n,r,e⟩:=x; exact ⟨z,its,n,r,k _ _ (.inl rfl) e⟩
  | tup xs=>obtain ⟨z,its,r,ob,e,c⟩:=x; exact ⟨z,its,r,ob,k _ _ (.inl rfl) e,c⟩
  | dK kvs=>obtain ⟨z,y,vs,r,ob,es,ep,e,c⟩:=x; exact ⟨z,y,vs,r,ob,es,ep,k _ _ (.inl rfl) e,c⟩
  | dT kvs =>
    obtain ⟨z,y,xs,r,ob,es,ep,e,c⟩:=x
    exact ⟨z,y,xs,Paired.mapP r fun p q z=>⟨z.1,ht _ _ z.2.1,z.2.2⟩,ob,es,ep,k _ _ (.inl rfl) e,c⟩
  | set S n=>obtain ⟨ob,es,ep,t,e,c⟩:=x; exact ⟨ob,es,ep,t,k _ _ (.inl rfl) e,c⟩
  | ins C dx fs =>
    obtain ⟨d,z,ne,e,mA,⟨od,es,ep,e2,c⟩,r⟩:=x
    exact ⟨ho _ d,z,ne,k _ _ (.inl rfl) e,mA,⟨od,es,ep,k _ _ (.inr d) e2,c⟩,r⟩
  | own y=>obtain ⟨ob,e⟩:=x; exact ⟨ob,k _ _ (.inl rfl) e⟩
  | xd fs=>obtain ⟨mA,⟨od,es,ep,e,c⟩,r⟩:=x; exact ⟨mA,⟨od,es,ep,k _ _ (.inl rfl) e,c⟩,r⟩
  | rng lo hi=>obtain ⟨t,u,v,e⟩:=x; exact ⟨t,u,v,k _ _ (.inl rfl) e⟩
  | frz ob u ih=>obtain ⟨e,q⟩:=x; exact ⟨k _ _ (.inl rfl) e,ih q⟩
  | tbl ps =>
    have e:h.get? a = some { cls:=.none,data:=.fields ps }:=x
    show h'.get? a = some { cls:=.none,data:=.fields ps }
    exact k a _ (.inl rfl) e
  | met f y =>
    have e:h.get? a = some (W.methodObj (.ref f) (.ref y)):=x
    show h'.get? a = some (W.methodObj (.ref f) (.ref y))
    exact k a _ (.inl rfl) e
  | ext φ=>obtain ⟨p,⟨o,e⟩,st⟩:=x; exact ⟨st _ _ p fun o q=>k _ _ (.inl rfl) q,⟨o,k _ _ (.inl rfl) e⟩,st⟩
theorem HOk.lt (x:HOk P w H h) (e:H a = some o):a < h.objs.size:=(x a o e).lt
theorem HOk.fresh (x:HOk P w H h) (e:h.objs.size <= a):H a = none:=by
  cases q:H a with
  | none=>rfl
  | some u=>exact absurd (Nat.lt_of_lt_of_le (x.lt q) e) (Nat.lt_irrefl _)
theorem HOk.kept (x:HOk P w H h) (k:∀ b u,h.get? b = some u->h'.get? b = some u):HOk P w H h':=fun a o e =>
  (x a o e).stay (fun b u _ q=>k b u q) (fun _ q=>q) fun _ _ q=>q
theorem HOk.laid (x:HOk P w H h) (k:∀ b u,h.get? b = some u->h'.get? b = some u) (hp:h.objs.size <= a) (new:ObjOk P w (m5 H a o) h' a o):HOk P w (m5 H a o) h':=fun b u e=>by
  have hn:=x.fresh hp
  by_cases hb:b = a
  . subst hb; rw [upd_same] at e; cases e; exact new
  . rw [c9 hb] at e
    exact (x b u e).stay (fun c v _ q=>k c v q) (fun c q=>by rw [c9 (d7 q hn)]; exact q) fun c xs q=>by rw [c9 (d7 q hn)]; exact q
end
def Rd (H:Hp) (a:Addr) (u:HO):Prop:=H a = some u \/ ∃ o,H a = some (.frz o u)
theorem Rd.ok {P:Program} {w:World} {H:Hp} {h:Heap} {a:Addr} {u:HO} (r:Rd H a u) (x:HOk P w H h):ObjOk P w H h a u:=by
  rcases r with r | ⟨o,r⟩
  . exact x a u r
  . obtain ⟨_,q⟩:=x a _ r
    exact q
def Mut:Option HO->Prop
  | some (.lst _)=>True
  | some (.dK _)=>True
  | some (.dT _)=>True
  | some (.set _ _)=>True
  | some (.ins _ _ _)=>True
  | some (.ext _)=>True
  | _=>False
section
variable {P:Program} {w:World} {H:Hp} {h h':Heap} {x e:Addr} {o':HO}
theorem HOk.write (ok:HOk P w H h) (mu:Mut (H x)) (he:e = x \/ H e = some (.own x)) (k:∀ b u,b ≠ e->h.get? b = some u->h'.get? b = some u) (heo:∃ u,h'.get? e = some u)
    (new:ObjOk P w (m5 H x o') h' x o'):HOk P w (m5 H x o') h':=fun b u q=>by
  have nown:∀ c y,H c = some (.own y)->c ≠ x:=fun c y r z=>by subst z; rw [r] at mu; exact mu
  have ntup:∀ c xs,H c = some (.tup xs)->c ≠ x:=fun c xs r z=>by subst z; rw [r] at mu; exact mu
  by_cases hb:b = x
  . subst hb; rw [upd_same] at q; cases q; exact new
  . rw [c9 hb] at q
    by_cases hbe:b = e
    . have q':H b = some (.own x):=by
        rcases he with z | z
        . exact absurd (hbe.trans z) hb
        . rw [hbe]; exact z
      rw [q] at q'; cases q'
      obtain ⟨v,hv⟩:=heo
      exact ⟨v,by rw [hbe]; exact hv⟩
    . refine (ok b u q).stay (fun c v hc r=>k c v ?_ r) (fun c r=>by rw [c9 (nown c b r)]; exact r) fun c xs r=>by rw [c9 (ntup c xs r)]; exact r
      rcases hc with rfl | hc
      . exact hbe
      . rintro rfl
        rcases he with z | z
        . exact nown c b hc z
        . rw [hc] at z; cases z; exact hb rfl
end
structure Un (fs ex:List Addr) (H H':Hp) (h h':Heap):Prop where
  keep:∀ b o,h.get? b = some o->H b = none->b ∉ fs->b ∉ ex->h'.get? b = some o
  slot:∀ b o,h.get? b = some o->H b = none->b ∈ fs->b ∉ ex->∃ sl,h'.get? b = some { o with slots:=sl }
  free:∀ b o,h.get? b = some o->H b = none->b ∉ ex->H' b = none
  there:∀ b o,h.get? b = some o->b ∉ ex->∃ o',h'.get? b = some o'
  tups:∀ b xs,H b = some (.tup xs)->H' b = some (.tup xs)
  frzs:∀ b o u,H b = some (.frz o u)->H' b = some (.frz o u)
  tbls:∀ b ps,H b = some (.tbl ps)->∃ more,H' b = some (.tbl (ps ++ more))
section
variable {fs fs' ex ex':List Addr} {H H1 H2:Hp} {h h1 h2 h':Heap} {a x e:Addr} {o:HO}
theorem Un.any (u:Un fs ex H H1 h h1) {b:Addr} {ob:Obj} (q:h.get? b = some ob) (n:H b = none) (hx:b ∉ ex):∃ sl,h1.get? b = some { ob with slots:=sl }:=by
  by_cases hb:b ∈ fs
  . exact u.slot b ob q n hb hx
  . exact ⟨ob.slots,u.keep b ob q n hb hx⟩
theorem Un.kept (k:∀ b u,h.get? b = some u->h'.get? b = some u):Un fs ex H H h h' :=
  ⟨fun b ob q _ _ _=>k b ob q,fun b ob q _ _ _=>⟨ob.slots,k b ob q⟩,fun _ _ _ n _=>n,fun b ob q _=>⟨ob,k b ob q⟩,fun _ _ q=>q,fun _ _ _ q=>q,fun _ ps q=>⟨#[],by rw [q]; simp⟩⟩
theorem Un.refl:Un fs ex H H h h:=Un.kept fun _ _ q=>q
theorem Un.laid (k:∀ b u,h.get? b = some u->h'.get? b = some u) (hp:h.objs.size <= a) (hn:H a = none):Un fs ex H (m5 H a o) h h' where
  keep:=fun b u q _ _ _=>k b u q
  slot:=fun b u q _ _ _=>⟨u.slots,k b u q⟩
  free:=fun b u q n _=>by rw [c9 (Nat.ne_of_lt (Nat.lt_of_lt_of_le (Heap.lt_size q) hp))]; exact n
  there:=fun b u q _=>⟨u,k b u q⟩
  tups:=fun b xs q=>by rw [c9 (d7 q hn)]; exact q
  frzs:=fun b u xs q=>by rw [c9 (d7 q hn)]; exact q
  tbls:=fun b ps q=>⟨#[],by rw [c9 (d7 q hn),q]; simp⟩
theorem Un.write (mu:Mut (H x)) (he:e = x \/ H e = some (.own x)) (k:∀ b u,b ≠ e->h.get? b = some u->h'.get? b = some u) (heo:∃ u,h'.get? e = some u):Un fs ex H (m5 H x o) h h':=by
  have hx:∀ b,H b = none->b ≠ x:=fun b n z=>by subst z; rw [n] at mu; exact mu
  have hb:∀ b,H b = none->b ≠ e:=fun b n z=>by
    subst z
    rcases he with r | r
    . exact hx b n r
    . rw [n] at r; cases r
  have hm:∀ b u,H b = some u->¬ Mut (some u)->b ≠ x:=fun b u q nm z=>by subst z; rw [q] at mu; exact nm mu
  refine ⟨fun b u q n _ _=>k b u (hb b n) q,fun b u q n _ _=>⟨u.slots,k b u (hb b n) q⟩,fun b u q n _=>by rw [c9 (hx b n)]; exact n,fun b u q _=>?_,
    fun b xs q=>by rw [c9 (hm b _ q fun z=>z)]; exact q,fun b u xs q=>by rw [c9 (hm b _ q fun z=>z)]; exact q,fun b ps q=>⟨#[],by rw [c9 (hm b _ q fun z=>z),q]; simp⟩⟩
  by_cases hbe:b = e
  . subst hbe; exact heo
  . exact ⟨u,k b u hbe q⟩
end
def trk (h:Heap) (H:Hp):List Addr:=(List.range h.objs.size).filter fun a=>(H a).isSome
def a1G (h:Heap) (H:Hp):Heap:=W.hideAll h (trk h H)
theorem a6n (h:Heap) (H:Hp):(a1G h H).objs.size = h.objs.size:=W.hideAll_size _ _
theorem a6z {h:Heap} {H:Hp} {b:Addr} {o:Obj} (e:h.get? b = some o) (n:H b = none):(a1G h H).get? b = some o :=
  W.hideAll_get _ e fun hm=>by
    have q:(H b).isSome = true:=(List.mem_filter.mp hm).2
    rw [n] at q; simp at q
theorem a9B {h:Heap} {H:Hp} {b:Addr} {o:Obj} (e:(a1G h H).get? b = some o):h.get? b = some o/\H b = none:=by
  have e':h.get? b = some o:=W.of_hideAll (trk h H) e
  refine ⟨e',?_⟩
  cases q:H b with
  | none=>rfl
  | some x =>
    have hm:b ∈ trk h H:=List.mem_filter.mpr ⟨List.mem_range.mpr (Heap.lt_size e'),by simp [q]⟩
    have z:(a1G h H).get? b = none:=W.hideAll_none (trk h H) hm
    rw [z] at e; cases e
def a8W (g h:Heap) (L:Addr):List (Addr × Obj):=(List.range h.objs.size).filterMap fun a=>if a = L \/ (g.get? a).isSome = true then none else (h.get? a).map fun o=>(a,o)
def rest (g h:Heap) (L d:Addr):List (Addr × Obj):=(a8W g h L).filter fun p=>decide (p.1 ≠ d)
end L2
namespace L2
open PySem PySem.Spec PyProof.Rows
structure Mod (K:W.Frag) (mg:Str->Option Value) (base:Heap):Prop where
  kin:K.In base
  glob:base.Ns mainGlobals mg
  blt:∃ mb,base.Ns builtinsNs mb/\∀ x:Str,x ≠ "__name__"->mb x = bootBuiltins x
  nolimit:base.NoLimit
structure Cx where
  prog:Program
  w:World
  K:W.Frag
  mg:Str->Option Value
  base:Heap
  A:Around
  N:List Str
  s₀:Shared
  H₀:Hp
  env:Env
  outer:List Env
  stack:List Env
  ex:List Addr
  fn:Str->Bool
  calm:Bool
  pn:List (Addr × Obj)
  xe:Value->Shared->Prop
def frs (l:List Env):List Addr:=l.filterMap (·.frame)
abbrev Cx.fs (X:Cx):List Addr:=frs X.outer
def Vis (sc:Scope) (x:Str):Prop:=sc.names.lookup x = some .local \/ sc.names.lookup x = some .cell \/ sc.names.lookup x = some .free
def Loc (sc:Scope) (x:Str):Prop:=sc.names.lookup x = some .local \/ sc.names.lookup x = some .cell
def b3l (env:Env) (h:Heap) (m:Str->Option Value) (x:Str) (u:Value):Prop :=
  (env.kindOf x = some .local/\m x = some u) \/ ((env.kindOf x = some .cell \/ env.kindOf x = some .free)/\∃ c,env.cells.lookup x = some c/\h.IsCell c (some u))
structure Cx.Ok (X:Cx):Prop where
  mod:Mod X.K X.mg X.base
  kind:X.env.scope.kind = .function
  glob:X.env.globals = mainGlobals
  blt:X.env.builtins = builtinsNs
  above:X.s₀.heap.objs.size <= X.env.locals
  inj:∀ x y c,X.env.cells.lookup x = some c->X.env.cells.lookup y = some c->x = y
  has:∀ x,(X.env.kindOf x = some .cell \/ X.env.kindOf x = some .free)->∃ c,X.env.cells.lookup x = some c
  cab:∀ x c,X.fn x = true->X.env.cells.lookup x = some c->X.s₀.heap.objs.size <= c
  hd:X.calm = true->X.A.handled = none
  frames:X.A.frames = some X.stack
  stk:X.stack = X.outer \/ (X.stack = X.env :: X.outer/\X.env.frame = some X.env.locals)
  exf:∀ b ∈ X.ex,b ≠ X.env.locals/\∀ x c,X.env.cells.lookup x = some c->c ≠ b
  bs:∀ b o,X.base.get? b = some o->X.s₀.heap.get? b = some o/\X.H₀ b = none
  bsz:X.base.objs.size <= X.s₀.heap.objs.size
  noex:∀ b o,X.base.get? b = some o->b ∉ X.ex
  exfs:∀ b ∈ X.ex,b ∉ X.fs
  funs:X.s₀.heap.FunFrames X.base X.outer
  frf:∀ b ∈ X.fs,X.H₀ b = none
structure Inv (X:Cx) (pins:List (Addr × Obj)) (σ:List (Option V)) (H:Hp) (s:Shared):Prop where
  ok:X.Ok
  os:s.os = X.s₀.os
  bare:AllBare s.gens
  base:Un X.fs X.ex X.H₀ H X.s₀.heap s.heap
  loc:∃ m,s.heap.Ns X.env.locals m/\∀ (i:Nat) (x:Str) (v:V),X.N[i]? = some x->σ[i]? = some (some v)->Vis X.env.scope x->∃ u,RelV v u/\b3l X.env s.heap m x u
  cell:∀ x c,X.env.cells.lookup x = some c->∃ v,s.heap.IsCell c v
  free:H X.env.locals = none
  freeC:∀ x c,X.env.cells.lookup x = some c->H c = none
  pin:∀ p ∈ X.pn ++ pins,s.heap.get? p.1 = some p.2/\H p.1 = none/\p.1 ≠ X.env.locals/\p.1 ∉ X.fs/\∀ v,p.2.data ≠ .cell v
  hok:HOk X.prog X.w H s.heap
  len:σ.length = X.N.length
section
variable {X:Cx} {pins:List (Addr × Obj)} {σ:List (Option V)} {H H':Hp} {s:Shared} {h':Heap}
theorem Cx.Ok.nofr (ok:X.Ok) {b:Addr} {o:Obj} (e:X.base.get? b = some o):b ∉ X.fs:=fun hb=>by
  have:=(ok.funs.mem hb).1
  rw [e] at this; cases this
theorem Inv.bs (I:Inv X pins σ H s):∀ b o,X.base.get? b = some o->s.heap.get? b = some o/\H b = none:=fun b o e =>
  ⟨I.base.keep b o (I.ok.bs b o e).1 (I.ok.bs b o e).2 (I.ok.nofr e) (I.ok.noex b o e),I.base.free b o (I.ok.bs b o e).1 (I.ok.bs b o e).2 (I.ok.noex b o e)⟩
theorem Inv.bk (I:Inv X pins σ H s):∀ b o,X.base.get? b = some o->s.heap.get? b = some o:=fun b o e=>(I.bs b o e).1
theorem Inv.mod (I:Inv X pins σ H s):Mod X.K X.mg X.base:=I.ok.mod
theorem Inv.kIn (I:Inv X pins σ H s):X.K.In s.heap:=I.ok.mod.kin.keeps I.bk
theorem Inv.nolimit (I:Inv X pins σ H s):s.heap.NoLimit:=I.ok.mod.nolimit.keeps I.bk
theorem Inv.fr (I:Inv X pins σ H s):∃ m,Fr X.base X.env.locals s.heap m :=
  let ⟨m,hn,_⟩:=I.loc
  ⟨m,hn,I.bk,Nat.le_trans I.ok.bsz I.ok.above⟩
theorem Inv.lt (I:Inv X pins σ H s):X.env.locals < s.heap.objs.size:=let ⟨_,hn,_⟩:=I.loc; hn.lt
theorem Inv.sz (I:Inv X pins σ H s):X.s₀.heap.objs.size <= s.heap.objs.size:=Nat.le_trans I.ok.above (Nat.le_of_lt I.lt)
theorem Inv.nofs (I:Inv X pins σ H s) {a:Addr} (h:s.heap.objs.size <= a):a ∉ X.fs:=fun hb=>by
  obtain ⟨_,o,ho,_⟩:=I.ok.funs.mem hb
  exact absurd (Nat.lt_of_lt_of_le (Heap.lt_size ho) (Nat.le_trans I.sz h)) (Nat.lt_irrefl _)
theorem Inv.cne (I:Inv X pins σ H s):∀ x c,X.env.cells.lookup x = some c->c ≠ X.env.locals:=fun x c e z=>by
  obtain ⟨v,o,ho,hd⟩:=I.cell x c e
  obtain ⟨m,⟨o',es,ep,ho',hd',_⟩,_⟩:=I.loc
  rw [z,ho'] at ho; cases ho; rw [hd'] at hd; cases hd
theorem Inv.funs (I:Inv X pins σ H s):s.heap.FunFrames X.base X.outer:=by
  have all:∀ (l:List Env),(∀ b ∈ frs l,b ∈ X.fs)->X.s₀.heap.FunFrames X.base l->s.heap.FunFrames X.base l:=by
    intro l
    induction l with
    | nil=>intro _ _; trivial
    | cons env r ih =>
      intro hs hl
      obtain ⟨hk,⟨L,o,hf,hn,ho,hd⟩,hr⟩:=hl
      have hL:L ∈ X.fs:=hs L (by unfold frs; rw [List.filterMap_cons,hf]; exact List.mem_cons_self)
      obtain ⟨sl,e⟩:=I.base.slot L o ho (I.ok.frf L hL) hL fun z=>I.ok.exfs L z hL
      exact ⟨hk,⟨L,_,hf,hn,e,hd⟩,ih (fun b hb=>hs b (by unfold frs; rw [List.filterMap_cons,hf]; exact List.mem_cons_of_mem _ hb)) hr⟩
  exact all X.outer (fun _ hb=>hb) I.ok.funs
theorem Inv.stack (I:Inv X pins σ H s):s.heap.FunFrames X.base X.stack:=by
  rcases I.ok.stk with e | ⟨e,hf⟩
  . rw [e]; exact I.funs
  . rw [e]
    obtain ⟨m,hn,_⟩:=I.loc
    refine .cons (by rw [I.ok.kind]; decide) hf hn ?_ I.funs
    exact Heap.get?_none_of_le (Nat.le_trans I.ok.bsz I.ok.above)
theorem Inv.stkSub (I:Inv X pins σ H s):∀ b ∈ frs X.stack,b ∈ X.env.locals :: X.fs:=fun b hb=>by
  rcases I.ok.stk with e | ⟨e,hf⟩
  . rw [e] at hb; exact List.mem_cons_of_mem _ hb
  . rw [e] at hb
    unfold frs at hb
    rw [List.filterMap_cons,hf] at hb
    exact hb
theorem Inv.stkFree (I:Inv X pins σ H s):∀ b ∈ frs X.stack,H b = none:=fun b hb=>by
  rcases List.mem_cons.mp (I.stkSub b hb) with e | hb
  . rw [e]; exact I.free
  . obtain ⟨_,o,ho,_⟩:=I.ok.funs.mem hb
    exact I.base.free b o ho (I.ok.frf b hb) fun z=>I.ok.exfs b z hb
theorem Inv.step {g':Array GenState} {t':Nat} {d':Drawn} {ch:List Addr} (I:Inv X pins σ H s)
    (hch:∀ b ∈ ch,(b ∈ X.ex \/ X.s₀.heap.objs.size <= b)/\b ≠ X.env.locals/\(∀ x c,X.env.cells.lookup x = some c->c ≠ b)/\∀ p ∈ X.pn ++ pins,p.1 ≠ b)
    (keep:∀ b o,b ≠ X.env.locals->b ∉ X.fs->b ∉ ch->s.heap.get? b = some o->H b = none->h'.get? b = some o)
    (slot:∀ b o,b ≠ X.env.locals->b ∈ X.fs->b ∉ ch->s.heap.get? b = some o->H b = none->∃ sl,h'.get? b = some { o with slots:=sl }) (free:∀ b o,b ∉ ch->s.heap.get? b = some o->H b = none->H' b = none)
    (there:∀ b o,b ∉ ch->s.heap.get? b = some o->∃ o',h'.get? b = some o')
    (tups:∀ b xs,H b = some (.tup xs)->H' b = some (.tup xs)) (frzs:∀ b o u,H b = some (.frz o u)->H' b = some (.frz o u)) (tbls:∀ b ps,H b = some (.tbl ps)->∃ more,H' b = some (.tbl (ps ++ more)))
    (ns:∀ m,s.heap.Ns X.env.locals m->h'.Ns X.env.locals m) (hok:HOk X.prog X.w H' h') (hg:AllBare g') :
    Inv X pins σ H' { s with heap:=h',gens:=g',drawn:=d',toks:=t' }:=by
  have neL:∀ b o,X.s₀.heap.get? b = some o->b ≠ X.env.locals:=fun b o e=>Nat.ne_of_lt (Nat.lt_of_lt_of_le (Heap.lt_size e) I.ok.above)
  have neC:∀ b o,X.s₀.heap.get? b = some o->b ∉ X.ex->b ∉ ch:=fun b o e hx hb=>by
    rcases (hch b hb).1 with z | z
    . exact hx z
    . exact absurd (Nat.lt_of_lt_of_le (Heap.lt_size e) z) (Nat.lt_irrefl _)
  have cellK:∀ x c,X.env.cells.lookup x = some c->∀ v,s.heap.IsCell c v->h'.IsCell c v:=fun x c e v ⟨o,ho,hd⟩=>by
    have nch:c ∉ ch:=fun z=>(hch c z).2.2.1 x c e rfl
    by_cases hc:c ∈ X.fs
    . obtain ⟨sl,q⟩:=slot c o (I.cne x c e) hc nch ho (I.freeC x c e)
      exact ⟨_,q,hd⟩
    . exact ⟨o,keep c o (I.cne x c e) hc nch ho (I.freeC x c e),hd⟩
  refine ⟨I.ok,I.os,hg,⟨fun b o e n hb hx=>?_,fun b o e n hb hx=>?_,fun b o e n hx=>?_,fun b o e hx=>?_,fun b xs e=>tups b xs (I.base.tups b xs e),fun b o xs e=>frzs b o xs (I.base.frzs b o xs e),fun b ps e=>?_⟩,?_,fun x c e=>?_,?_,fun x c e=>?_,fun p hp=>?_,hok,I.len⟩
  . exact keep b o (neL b o e) hb (neC b o e hx) (I.base.keep b o e n hb hx) (I.base.free b o e n hx)
  . obtain ⟨sl,e1⟩:=I.base.slot b o e n hb hx
    obtain ⟨sl',e2⟩:=slot b _ (neL b o e) hb (neC b o e hx) e1 (I.base.free b o e n hx)
    exact ⟨sl',e2⟩
  . obtain ⟨o',e1⟩:=I.base.there b o e hx
    exact free b o' (neC b o e hx) e1 (I.base.free b o e n hx)
  . obtain ⟨o',e1⟩:=I.base.there b o e hx
    exact there b o' (neC b o e hx) e1
  . obtain ⟨m1,e1⟩:=I.base.tbls b ps e
    obtain ⟨m2,e2⟩:=tbls b _ e1
    exact ⟨m1 ++ m2,by rw [e2,Array.append_assoc]⟩
  . obtain ⟨m,hn,hl⟩:=I.loc
    refine ⟨m,ns m hn,fun i x v e1 e2 e3=>?_⟩
    obtain ⟨u,r,l⟩:=hl i x v e1 e2 e3
    refine ⟨u,r,?_⟩
    rcases l with l | ⟨k,c,e,z⟩
    . exact .inl l
    . exact .inr ⟨k,c,e,cellK x c e _ z⟩
  . obtain ⟨v,z⟩:=I.cell x c e
    exact ⟨v,cellK x c e v z⟩
  . obtain ⟨m,⟨o,_,_,ho,_⟩,_⟩:=I.loc
    exact free _ o (fun z=>(hch _ z).2.1 rfl) ho I.free
  . obtain ⟨v,o,ho,hd⟩:=I.cell x c e
    exact free c o (fun z=>(hch c z).2.2.1 x c e rfl) ho (I.freeC x c e)
  . obtain ⟨e,n,ne,nf,d⟩:=I.pin p hp
    have nch:p.1 ∉ ch:=fun z=>(hch p.1 z).2.2.2 p hp rfl
    exact ⟨keep p.1 p.2 ne nf nch e n,free p.1 p.2 nch e n,ne,nf,d⟩
theorem Inv.un {t':Nat} (I:Inv X pins σ H s) (u:Un X.fs [] H H' s.heap h') (hok:HOk X.prog X.w H' h'):Inv X pins σ H' { s with heap:=h',toks:=t' }:=by
  obtain ⟨m,⟨o,es,ep,ho,r⟩,_⟩:=id I.loc
  obtain ⟨sl,hL⟩:=u.any ho I.free (by simp)
  exact I.step (g':=s.gens) (d':=s.drawn) (ch:=[]) (fun _ z=>nomatch z) (fun b o _ hb _ e n=>u.keep b o e n hb (by simp)) (fun b o _ hb _ e n=>u.slot b o e n hb (by simp)) (fun b o _ e n=>u.free b o e n (by simp)) (fun b o _ e=>u.there b o e (by simp)) u.tups u.frzs u.tbls (fun m' hm=>by
    obtain ⟨o',es',ep',ho',r'⟩:=hm
    rw [ho] at ho'; cases ho'
    exact ⟨_,es',ep',hL,r'⟩) hok I.bare
theorem Inv.call {g':Array GenState} {t':Nat} {d':Drawn} {ch:List Addr} (I:Inv X pins σ H s) (u:Un (frs X.stack) ch H H' s.heap h') (hok:HOk X.prog X.w H' h') (hg:AllBare g')
    (hch:∀ b ∈ ch,(b ∈ X.ex \/ X.s₀.heap.objs.size <= b)/\b ≠ X.env.locals/\(∀ x c,X.env.cells.lookup x = some c->c ≠ b)/\∀ p ∈ X.pn ++ pins,p.1 ≠ b) :
    Inv X pins σ H' { s with heap:=h',gens:=g',drawn:=d',toks:=t' }:=by
  obtain ⟨m,⟨o,es,ep,ho,r⟩,_⟩:=id I.loc
  obtain ⟨sl,hL⟩:=u.any ho I.free fun z=>(hch _ z).2.1 rfl
  exact I.step (ch:=ch) hch (fun b o hL hb hc e n=>u.keep b o e n (fun z=>(List.mem_cons.mp (I.stkSub b z)).elim hL hb) hc) (fun b o _ _ hc e n=>u.any e n hc) (fun b o hc e n=>u.free b o e n hc) (fun b o hc e=>u.there b o e hc) u.tups u.frzs u.tbls (fun m' hm=>by
    obtain ⟨o',es',ep',ho',r'⟩:=hm
    rw [ho] at ho'; cases ho'
    exact ⟨_,es',ep',hL,r'⟩) hok hg
theorem Inv.turned {t':Nat} {it:Addr} (I:Inv X pins σ H s) (k:∀ b o,b ≠ it->s.heap.get? b = some o->h'.get? b = some o) (hn:H it = none) (hL:it ≠ X.env.locals)
    (h1:it ∈ X.ex \/ X.s₀.heap.objs.size <= it) (h2:∀ x c,X.env.cells.lookup x = some c->c ≠ it) (h3:∀ p ∈ X.pn ++ pins,p.1 ≠ it):Inv X pins σ H { s with heap:=h',toks:=t' }:=by
  have nit:∀ b u,H b = some u->b ≠ it:=fun b u e z=>by rw [z,hn] at e; cases e
  refine I.step (g':=s.gens) (d':=s.drawn) (ch:=[it]) (fun b hb=>?_) (fun b o _ _ hc e _=>k b o (fun z=>hc (by simp [z])) e) (fun b o _ _ hc e _=>⟨o.slots,k b o (fun z=>hc (by simp [z])) e⟩) (fun _ _ _ _ n=>n)
    (fun b o hc e=>⟨o,k b o (fun z=>hc (by simp [z])) e⟩) (fun _ _ e=>e) (fun _ _ _ e=>e) (fun b ps e=>⟨#[],by rw [e]; simp⟩) (fun m hm=>?_) (fun b u e=>?_) I.bare
  . have e:b = it:=by simpa using hb
    subst e
    exact ⟨h1,hL,h2,h3⟩
  . obtain ⟨o,es,ep,ho,r⟩:=hm
    exact ⟨o,es,ep,k _ o (Ne.symm hL) ho,r⟩
  . refine (I.hok b u e).stay (fun c v hc q=>k c v ?_ q) (fun _ q=>q) fun _ _ q=>q
    rcases hc with z | z
    . rw [z]; exact nit b u e
    . exact nit c _ z
theorem Inv.tok (I:Inv X pins σ H s) (t:Nat):Inv X pins σ H { s with toks:=t }:=I.un (h':=s.heap) (t':=t) Un.refl I.hok
theorem Inv.kept {t':Nat} (I:Inv X pins σ H s) (k:∀ b u,s.heap.get? b = some u->h'.get? b = some u):Inv X pins σ H { s with heap:=h',toks:=t' }:=I.un (Un.kept k) (I.hok.kept k)
theorem Inv.laid {a:Addr} {o:HO} {t':Nat} (I:Inv X pins σ H s) (k:∀ b u,s.heap.get? b = some u->h'.get? b = some u) (hp:s.heap.objs.size <= a) (new:ObjOk X.prog X.w (m5 H a o) h' a o) :
    Inv X pins σ (m5 H a o) { s with heap:=h',toks:=t' }:=I.un (Un.laid k hp (I.hok.fresh hp)) (I.hok.laid k hp new)
theorem Inv.write {x e:Addr} {o:HO} {t':Nat} (I:Inv X pins σ H s) (mu:Mut (H x)) (he:e = x \/ H e = some (.own x)) (k:∀ b u,b ≠ e->s.heap.get? b = some u->h'.get? b = some u) (heo:∃ u,h'.get? e = some u)
    (new:ObjOk X.prog X.w (m5 H x o) h' x o):Inv X pins σ (m5 H x o) { s with heap:=h',toks:=t' }:=I.un (Un.write mu he k heo) (I.hok.write mu he k heo new)
theorem Inv.weak {σ':List (Option V)} (I:Inv X pins σ H s) (hl:σ'.length = σ.length) (w:∀ (i:Nat) v,σ'[i]? = some (some v)->σ[i]? = some (some v)):Inv X pins σ' H s :=
  ⟨I.ok,I.os,I.bare,I.base,let ⟨m,hn,hl'⟩:=I.loc; ⟨m,hn,fun i x v e1 e2 e3=>hl' i x v e1 (w i v e2) e3⟩,I.cell,I.free,I.freeC,I.pin,I.hok,hl.trans I.len⟩
theorem Inv.pins_of {pins':List (Addr × Obj)} (I:Inv X pins σ H s) (h:∀ p ∈ pins',s.heap.get? p.1 = some p.2/\H p.1 = none/\p.1 ≠ X.env.locals/\p.1 ∉ X.fs/\∀ v,p.2.data ≠ .cell v):Inv X pins' σ H s :=
  ⟨I.ok,I.os,I.bare,I.base,I.loc,I.cell,I.free,I.freeC,fun p hp=>(List.mem_append.mp hp).elim (fun z=>I.pin p (List.mem_append_left _ z)) (h p),I.hok,I.len⟩
theorem a3L {N:List Str} (hN:N.Nodup) {i j:Nat} {x:Str} (a:N[i]? = some x) (b:N[j]? = some x):i = j:=by
  obtain ⟨h1,e1⟩:=List.getElem?_eq_some_iff.mp a
  obtain ⟨h2,e2⟩:=List.getElem?_eq_some_iff.mp b
  exact (List.getElem_inj hN).mp (e1.trans e2.symm)
theorem Z5 {M:Model} {A:Around} {E:Value->Shared->Prop} {i:Nat} {x:Str} {v:V} {u:Value} {Q:Unit->Shared->Prop} (I:Inv X pins σ H s) (hN:X.N.Nodup) (hi:X.N[i]? = some x) (hx:Loc X.env.scope x) (r:RelV v u)
    (h:∀ s',Inv X pins (σ.set i (some v)) H s'->(∃ a,Heap.SameBut a s.heap s'.heap/\(a = X.env.locals \/ X.env.cells.lookup x = some a))->Q () s') (hf:X.fn x = true \/ X.env.scope.names.lookup x = some .local:=by first | exact .inl rfl | exact .inr rfl | assumption):wpAny M A (storeName X.env x u) Q E s:=by
  obtain ⟨m,hn,hl⟩:=id I.loc
  have hcls:(X.env.scope.kind == .class || (X.env.scope.kind == .module && X.env.locals != X.env.globals)) = false:=by rw [I.ok.kind]; rfl
  have hiσ:i < σ.length:=by rw [I.len]; exact (List.getElem?_eq_some_iff.mp hi).1
  have cne:=I.cne
  have tracked:∀ {a:Addr} {h':Heap},(∃ o,s.heap.get? a = some o/\H a = none)->Heap.SameBut a s.heap h'->HOk X.prog X.w H h':=fun {a h'} ha hs b ob e=>by
    obtain ⟨_,_,hfree⟩:=ha
    refine (I.hok b ob e).stay (fun c w' hc q=>(hs.2 c ?_).trans q) (fun _ q=>q) fun _ _ q=>q
    rintro rfl
    rcases hc with rfl | hc
    . rw [hfree] at e; cases e
    . rw [hfree] at hc; cases hc
  rcases hx with hk | hk
  . refine wpAny_storeName_local hk hn (fun h' hn' hs=>?_) hcls
    obtain ⟨oL,_,_,hoL,_⟩:=id hn
    refine h _ ⟨I.ok,I.os,I.bare,⟨fun b o e n hb hx=>?_,fun b o e n hb hx=>?_,I.base.free,fun b o e hx=>?_,I.base.tups,I.base.frzs,I.base.tbls⟩,⟨_,hn',fun j y v' e1 e2 e3=>?_⟩,fun y c e=>?_,I.free,I.freeC,fun p hp=>?_,tracked ⟨oL,hoL,I.free⟩ hs,by simpa using I.len⟩ ⟨_,hs,.inl rfl⟩
    . exact (hs.2 b (Nat.ne_of_lt (Nat.lt_of_lt_of_le (Heap.lt_size e) I.ok.above))).trans (I.base.keep b o e n hb hx)
    . obtain ⟨sl,e1⟩:=I.base.slot b o e n hb hx
      exact ⟨sl,(hs.2 b (Nat.ne_of_lt (Nat.lt_of_lt_of_le (Heap.lt_size e) I.ok.above))).trans e1⟩
    . obtain ⟨o',e1⟩:=I.base.there b o e hx
      exact ⟨o',(hs.2 b (Nat.ne_of_lt (Nat.lt_of_lt_of_le (Heap.lt_size e) I.ok.above))).trans e1⟩
    . by_cases hj:j = i
      . subst hj
        rw [hi] at e1; cases e1
        rw [List.getElem?_set_self hiσ] at e2
        cases e2
        exact ⟨u,r,.inl ⟨hk,by simp⟩⟩
      . rw [List.getElem?_set_ne (Ne.symm hj)] at e2
        obtain ⟨u',r',q⟩:=hl j y v' e1 e2 e3
        refine ⟨u',r',?_⟩
        rcases q with ⟨k,e⟩ | ⟨k,c,e,z⟩
        . refine .inl ⟨k,?_⟩
          have:y ≠ x:=fun e=>hj (a3L hN e1 (e ▸ hi))
          simp [this,e]
        . exact .inr ⟨k,c,e,z.sameBut hs (cne y c e)⟩
    . obtain ⟨w',z⟩:=I.cell y c e
      exact ⟨w',z.sameBut hs (cne y c e)⟩
    . obtain ⟨e,n,ne,nf,d⟩:=I.pin p hp
      exact ⟨(hs.2 p.1 ne).trans e,n,ne,nf,d⟩
  . have hfn:X.fn x = true:=by
      rcases hf with z | z
      . exact z
      . rw [z] at hk; cases hk
    obtain ⟨c,hc⟩:=I.ok.has x (.inl hk)
    obtain ⟨w',z⟩:=I.cell x c hc
    refine wpAny_storeName_cell I.ok.kind hk hc z (fun h' hc' hs=>?_)
    obtain ⟨oc,hoc,hocd⟩:=id z
    refine h { s with heap:=h' } ⟨I.ok,I.os,I.bare,⟨fun b o e n hb hx=>?_,fun b o e n hb hx=>?_,I.base.free,fun b o e hx=>?_,I.base.tups,I.base.frzs,I.base.tbls⟩,⟨m,hn.sameBut hs (Ne.symm (cne x c hc)),fun j y v' e1 e2 e3=>?_⟩,fun y c' e=>?_,I.free,I.freeC,fun p hp=>?_,tracked ⟨oc,hoc,I.freeC x c hc⟩ hs,by simpa using I.len⟩ ⟨c,hs,.inr hc⟩
    . exact (hs.2 b (Nat.ne_of_lt (Nat.lt_of_lt_of_le (Heap.lt_size e) (I.ok.cab x c hfn hc)))).trans (I.base.keep b o e n hb hx)
    . obtain ⟨sl,e1⟩:=I.base.slot b o e n hb hx
      exact ⟨sl,(hs.2 b (Nat.ne_of_lt (Nat.lt_of_lt_of_le (Heap.lt_size e) (I.ok.cab x c hfn hc)))).trans e1⟩
    . obtain ⟨o',e1⟩:=I.base.there b o e hx
      exact ⟨o',(hs.2 b (Nat.ne_of_lt (Nat.lt_of_lt_of_le (Heap.lt_size e) (I.ok.cab x c hfn hc)))).trans e1⟩
    . by_cases hj:j = i
      . subst hj
        rw [hi] at e1; cases e1
        rw [List.getElem?_set_self hiσ] at e2
        cases e2
        exact ⟨u,r,.inr ⟨.inl hk,c,hc,hc'⟩⟩
      . rw [List.getElem?_set_ne (Ne.symm hj)] at e2
        obtain ⟨u',r',q⟩:=hl j y v' e1 e2 e3
        refine ⟨u',r',?_⟩
        rcases q with q | ⟨k,c',e,z'⟩
        . exact .inl q
        . refine .inr ⟨k,c',e,z'.sameBut hs ?_⟩
          rintro rfl
          exact hj (a3L hN e1 (I.ok.inj _ _ _ e hc ▸ hi))
    . by_cases hcc:c' = c
      . subst hcc; exact ⟨_,hc'⟩
      . obtain ⟨w2,z2⟩:=I.cell y c' e
        exact ⟨w2,z2.sameBut hs hcc⟩
    . obtain ⟨e,n,ne,nf,d⟩:=I.pin p hp
      refine ⟨(hs.2 p.1 ?_).trans e,n,ne,nf,d⟩
      intro q
      rw [q,hoc] at e
      have q':oc = p.2:=Option.some.inj e
      exact d w' (by rw [<- q']; exact hocd)
theorem W8 {M:Model} {A:Around} {E:Value->Shared->Prop} {i:Nat} {x:Str} {v:V} {u:Value} {Q:Unit->Shared->Prop} (I:Inv X pins σ H s) (hN:X.N.Nodup) (hi:X.N[i]? = some x) (hx:Loc X.env.scope x) (r:RelV v u)
    (h:∀ s',Inv X pins (σ.set i (some v)) H s'->Q () s') (hf:X.fn x = true \/ X.env.scope.names.lookup x = some .local:=by first | exact .inl rfl | exact .inr rfl | assumption):wpAny M A (storeName X.env x u) Q E s :=
  Z5 I hN hi hx r (fun s' I' _=>h s' I') hf
theorem Inv.call' {s':Shared} {ch:List Addr} (I:Inv X pins σ H s) (ho:s'.os = s.os) (u:Un (frs X.stack) ch H H' s.heap s'.heap) (hok:HOk X.prog X.w H' s'.heap) (hg:AllBare s'.gens)
    (hch:∀ b ∈ ch,(b ∈ X.ex \/ X.s₀.heap.objs.size <= b)/\b ≠ X.env.locals/\(∀ x c,X.env.cells.lookup x = some c->c ≠ b)/\∀ p ∈ X.pn ++ pins,p.1 ≠ b):Inv X pins σ H' s':=by
  obtain ⟨h',g',d',t',o'⟩:=s'
  have e:o' = s.os:=ho
  subst e
  exact I.call (g':=g') (t':=t') (d':=d') u hok hg hch
end
abbrev XK:=Value->Option Addr->Hp->Prop
abbrev St:=List (Option V)
abbrev VK:=V->Hp->Prop
abbrev TE:=St->Hp->VK->Prop
abbrev TT:=St->Hp->(Bool->Hp->Prop)->Prop
abbrev TA:=St->Hp->(List V->Hp->Prop)->Prop
structure Ends where
  nx:St->Hp->Prop
  rt:VK
  bk:St->Hp->Prop:=fun _ _=>False
  ct:St->Hp->Prop:=fun _ _=>False
abbrev TS:=Ends->St->Hp->Prop
def EP (X:Cx) (pins:List (Addr × Obj)) (σ:St) (Q:VK) (u:Value) (s':Shared):Prop:=∃ v H',Inv X pins σ H' s'/\RelV v u/\Q v H'
def TP (X:Cx) (pins:List (Addr × Obj)) (σ:St) (Q:Bool->Hp->Prop) (b:Bool) (s':Shared):Prop:=∃ H',Inv X pins σ H' s'/\Q b H'
def AP (X:Cx) (pins:List (Addr × Obj)) (σ:St) (Q:List V->Hp->Prop) (us:List Value) (s':Shared):Prop:=∃ vs H',Inv X pins σ H' s'/\Vals vs us/\Q vs H'
def SP (X:Cx) (pins:List (Addr × Obj)) (D:Ends) (f:Flow) (s':Shared):Prop :=
  match f with
  | .next=>∃ σ' H',Inv X pins σ' H' s'/\D.nx σ' H'
  | .brk=>∃ σ' H',Inv X pins σ' H' s'/\D.bk σ' H'
  | .cont=>∃ σ' H',Inv X pins σ' H' s'/\D.ct σ' H'
  | .ret u=>∃ v σ' H',Inv X pins σ' H' s'/\RelV v u/\D.rt v H'
def PE (X:Cx) (e:Expr) (t:TE):Prop :=
  ∀ (pins:List (Addr × Obj)) (s:Shared) (σ:St) (H:Hp) (Q:VK),Inv X pins σ H s->t σ H Q->wpAny (model X.prog X.w) X.A (eval e X.env) (EP X pins σ Q) X.xe s
def PT (X:Cx) (e:Expr) (t:TT):Prop :=
  ∀ (pins:List (Addr × Obj)) (s:Shared) (σ:St) (H:Hp) (Q:Bool->Hp->Prop),Inv X pins σ H s->t σ H Q->wpAny (model X.prog X.w) X.A (isTrue e X.env (eval e X.env)) (TP X pins σ Q) X.xe s
def PW (X:Cx) (e:Expr) (t:TT):Prop :=
  ∀ (whole:Sem Value) (pins:List (Addr × Obj)) (s:Shared) (σ:St) (H:Hp) (Q:Bool->Hp->Prop),Inv X pins σ H s->t σ H Q->wpAny (model X.prog X.w) X.A (isTrue e X.env whole) (TP X pins σ Q) X.xe s
theorem PW.pt {X:Cx} {e:Expr} {t:TT} (h:PW X e t):PT X e t:=h _
def PA (X:Cx) (es:List Expr) (t:TA):Prop :=
  ∀ (pos:Pos) (pins:List (Addr × Obj)) (s:Shared) (σ:St) (H:Hp) (Q:List V->Hp->Prop),Inv X pins σ H s->t σ H Q->wpAny (model X.prog X.w) X.A (spliced (backTo pos (starEach es X.env))) (AP X pins σ Q) X.xe s
def PS (X:Cx) (st:Stmt) (t:TS):Prop :=
  ∀ (pins:List (Addr × Obj)) (s:Shared) (σ:St) (H:Hp) (D:Ends),Inv X pins σ H s->t D σ H->wpAny (model X.prog X.w) X.A (exec st X.env) (SP X pins D) X.xe s
def PSs (X:Cx) (st:List Stmt) (t:TS):Prop :=
  ∀ (pins:List (Addr × Obj)) (s:Shared) (σ:St) (H:Hp) (D:Ends),Inv X pins σ H s->t D σ H->wpAny (model X.prog X.w) X.A (execs st X.env) (SP X pins D) X.xe s
theorem v8 {α:Type} {t:Sem α} {Q Q':α->Shared->Prop} {M:Model} {A:Around} {E:Value->Shared->Prop} {s:Shared} (h:wpAny M A t Q E s) (hQ:∀ a s,Q a s->Q' a s):wpAny M A t Q' E s:=wpAny_mono h hQ fun _ _ x=>x
end L2
namespace L2
open PySem PySem.Spec PyProof.Rows
section
variable {X:Cx}
theorem bin {a b:Expr} {ta tb:TE} (ha:PE X a ta) (hb:PE X b tb) {pins:List (Addr × Obj)} {s:Shared} {σ:St} {H:Hp} {R:V->V->Hp->Prop} (I:Inv X pins σ H s) (h:ta σ H fun x H1=>tb σ H1 fun y H2=>R x y H2)
    {α:Type} {Q:α->Shared->Prop} {f:Value->Value->Sem α}
    (hf:∀ v u s2 x y H2,Inv X pins σ H2 s2->RelV x v->RelV y u->R x y H2->wpAny (model X.prog X.w) X.A (f v u) Q X.xe s2) :
    wpAny (model X.prog X.w) X.A (eval a X.env) (fun v s₁=>wpAny (model X.prog X.w) X.A (eval b X.env) (fun u s₂=>wpAny (model X.prog X.w) X.A (f v u) Q X.xe s₂) X.xe s₁) X.xe s:=by
  refine v8 (ha pins s σ H _ I h) fun v s1 ⟨x,H1,I1,r1,q1⟩=>?_
  refine v8 (hb pins s1 σ H1 _ I1 q1) fun u s2 ⟨y,H2,I2,r2,q2⟩=>?_
  exact hf v u s2 x y H2 I2 r1 r2 q2
def a3B (i:Nat):TE:=fun σ H Q=>∃ v,σ[i]? = some (some v)/\Q v H
def tC (v:V):TE:=fun _ H Q=>Q v H
theorem b1c {i:Nat} {x:Str} {pos:Pos} (hN:X.N[i]? = some x) (hv:Vis X.env.scope x) (hd:(x == ("__debug__":Str)) = false:=by decide) (hcd:(x == ("__classdict__":Str)) = false:=by decide):PE X (.Name x pos) (a3B i):=by
  intro pins s σ H Q I h
  obtain ⟨v,e,h⟩:=h
  obtain ⟨m,hn,hl⟩:=I.loc
  obtain ⟨u,r,l⟩:=hl i x v hN e hv
  have fin:EP X pins σ Q u s:=⟨v,H,I,r,h⟩
  rcases l with ⟨hk,hm⟩ | ⟨hk,c,hc,hcell⟩
  . exact wpAny_Name (wpAny_loadName_local I.ok.kind hk hn hm fin) hd
  . rcases hk with hk | hk
    . exact wpAny_Name (wpAny_loadName_cell I.ok.kind hk hc hcell fin) hd
    . exact wpAny_Name (wpAny_loadName_free I.ok.kind hk hc hcell fin hcd) hd
theorem d9 {i j pos}:PE X (.Constant (.int i) j pos) (tC (.int i)):=fun _ _ _ H _ I h=>wpAny_Constant_int ⟨.int i,H,I.tok _,⟨_,rfl⟩,h⟩
theorem a7E {b j pos}:PE X (.Constant (.bool b) j pos) (tC (.bl b)):=fun _ _ _ H _ I h=>Constant_bool ⟨.bl b,H,I,rfl,h⟩
theorem U7 {j pos}:PE X (.Constant .none j pos) (tC .non):=fun _ _ _ H _ I h=>Constant_none ⟨.non,H,I,rfl,h⟩
theorem U4 {x j pos}:PE X (.Constant (.str x) j pos) (tC (.str x)):=fun _ _ _ H _ I h=>Calls.Constant_str ⟨.str x,H,I.tok _,⟨_,rfl⟩,h⟩
def Gl (X:Cx) (x:Str):Prop:=X.env.kindOf x = some .globalImplicit
theorem a0x {E:Value->Shared->Prop} {pins:List (Addr × Obj)} {s:Shared} {σ:St} {H:Hp} {x:Str} {u:Value} {pos:Pos} {Q:Value->Shared->Prop} (I:Inv X pins σ H s) (hg:Gl X x) (hm:X.mg x = some u) (h:Q u s)
    (hd:(x == ("__debug__":Str)) = false:=by decide):wpAny (model X.prog X.w) X.A (eval (.Name x pos) X.env) Q E s :=
  Calls.Name_function_global I.ok.kind hg (Calls.loadGlobal_global (by rw [I.ok.glob]; exact I.mod.glob.keeps I.bk) hm h) hd
theorem P2 {E:Value->Shared->Prop} {pins:List (Addr × Obj)} {s:Shared} {σ:St} {H:Hp} {x:Str} {u:Value} {pos:Pos} {Q:Value->Shared->Prop} (I:Inv X pins σ H s) (hg:Gl X x) (hm:X.mg x = none) (hv:bootBuiltins x = some u) (h:Q u s)
    (hn:x ≠ "__name__":=by decide) (hd:(x == ("__debug__":Str)) = false:=by decide):wpAny (model X.prog X.w) X.A (eval (.Name x pos) X.env) Q E s:=by
  obtain ⟨mb,h1,h2⟩:=I.mod.blt
  exact Calls.Name_function_global I.ok.kind hg (Calls.loadGlobal_builtin (by rw [I.ok.glob]; exact I.mod.glob.keeps I.bk) hm (by rw [I.ok.blt]; exact h1.keeps I.bk) ((h2 x hn).trans hv) h) hd
theorem X4 {x:Str} {v:V} {u:Value} {pos:Pos} (hg:Gl X x) (hm:X.mg x = some u) (r:RelV v u) (hd:(x == ("__debug__":Str)) = false:=by decide):PE X (.Name x pos) (tC v) :=
  fun _ _ _ H _ I h=>a0x I hg hm ⟨v,H,I,r,h⟩ hd
theorem a0I {x:Str} {v:V} {u:Value} {pos:Pos} (hg:Gl X x) (hm:X.mg x = none) (hv:bootBuiltins x = some u) (r:RelV v u) (hn:x ≠ "__name__":=by decide) (hd:(x == ("__debug__":Str)) = false:=by decide):PE X (.Name x pos) (tC v) :=
  fun _ _ _ H _ I h=>P2 I hg hm hv ⟨v,H,I,r,h⟩ hn hd
variable {a b:Expr} {ta tb:TE} {pos:Pos}
def tB (t:TE):TT:=fun σ H Q=>t σ H fun x H1=>∃ c,x = .bl c/\Q c H1
theorem Z1 {e:Expr} {t:TE} (h:PE X e t) (he:∀ whole,isTrue e X.env whole = (do let v <- whole; standAt e.pos; holding [v] (truthy v)):=by intro _; rfl):PT X e (tB t):=by
  intro pins s σ H Q I hw
  refine isTrue_plain (v8 (h pins s σ H _ I hw) fun v s1 ⟨x,H1,I1,r1,q1⟩=>?_) (he _)
  obtain ⟨d,rfl,q⟩:=q1
  cases r1
  exact wpAny_truthy_bool ⟨H1,I1,q⟩
variable {tA tB':TT} {rest:List Expr}
def b3o (t u:TT):TT:=fun σ H Q=>t σ H fun c H1=>if c = true then u σ H1 Q else Q false H1
def tOr (t u:TT):TT:=fun σ H Q=>t σ H fun c H1=>if c = true then Q true H1 else u σ H1 Q
def b3C (t:TT):TT:=fun σ H Q=>t σ H fun c H1=>Q (!c) H1
theorem R8 (ha:PT X a tA):PW X (.BoolOp .And [a] pos) tA:=by
  intro wh pins s σ H Q I h
  refine isTrue_and (v8 (ha pins s σ H Q I h) fun c s1 e=>?_)
  cases c with
  | true=>exact isTrue_and_nil e
  | false=>exact e
theorem a4f (ha:PT X a tA):PW X (.BoolOp .Or [a] pos) tA:=by
  intro wh pins s σ H Q I h
  refine isTrue_or (v8 (ha pins s σ H Q I h) fun c s1 e=>?_)
  cases c with
  | false=>exact isTrue_or_nil e
  | true=>exact e
theorem a0c (ha:PT X a tA) (hb:PW X (.BoolOp .And (b :: rest) pos) tB'):PW X (.BoolOp .And (a :: b :: rest) pos) (b3o tA tB'):=by
  intro wh pins s σ H Q I h
  refine isTrue_and (v8 (ha pins s σ H _ I h) fun c s1 ⟨H1,I1,q1⟩=>?_)
  cases c with
  | true=>exact hb wh pins s1 σ H1 Q I1 q1
  | false=>exact ⟨H1,I1,q1⟩
theorem a7j (ha:PT X a tA) (hb:PW X (.BoolOp .Or (b :: rest) pos) tB'):PW X (.BoolOp .Or (a :: b :: rest) pos) (tOr tA tB'):=by
  intro wh pins s σ H Q I h
  refine isTrue_or (v8 (ha pins s σ H _ I h) fun c s1 ⟨H1,I1,q1⟩=>?_)
  cases c with
  | true=>exact ⟨H1,I1,q1⟩
  | false=>exact hb wh pins s1 σ H1 Q I1 q1
theorem Y8 (ha:PT X a tA):PT X (.UnaryOp .Not a pos) (b3C tA):=by
  intro pins s σ H Q I h
  exact isTrue_not (ha pins s σ H (fun c H1=>Q (!c) H1) I h)
def b1R (ta tb:TE):TE:=fun σ H Q=>ta σ H fun x H1=>∃ c,x = .bl c/\if c = true then tb σ H1 Q else Q (.bl false) H1
def b2E (ta:TE):TE:=fun σ H Q=>ta σ H fun x H1=>∃ c,x = .bl c/\Q (.bl (!c)) H1
theorem a4q {op} {t:TE} (h:PE X a t):PE X (.BoolOp op [a] pos) t:=fun pins s σ H Q I hw=>BoolOp_one (h pins s σ H Q I hw)
theorem a4r (ha:PE X a ta) (hb:PE X (.BoolOp .And (b :: rest) pos) tb):PE X (.BoolOp .And (a :: b :: rest) pos) (b1R ta tb):=by
  intro pins s σ H Q I h
  refine BoolOp_and (v8 (ha pins s σ H _ I h) fun v s1 ⟨x,H1,I1,r1,q1⟩=>?_)
  obtain ⟨c,rfl,q1⟩:=q1
  cases r1
  refine wpAny_truthy_bool ?_
  cases c with
  | true=>exact hb pins s1 σ H1 Q I1 q1
  | false=>exact ⟨.bl false,H1,I1,rfl,q1⟩
theorem b1k (ha:PE X a ta):PE X (.UnaryOp .Not a pos) (b2E ta):=by
  intro pins s σ H Q I h
  refine UnaryOp_ (v8 (ha pins s σ H _ I h) fun v s1 ⟨x,H1,I1,r1,q1⟩=>?_)
  obtain ⟨c,rfl,q1⟩:=q1
  cases r1
  exact not_of (wpAny_truthy_bool ⟨.bl (!c),H1,I1,rfl,q1⟩)
end
end L2
namespace L2
open PySem PySem.Spec PyProof.Rows
def SqL (K:W.Frag) (H:Hp) (a:Addr) (xs:List V):Prop :=
  Rd H a (.lst xs) ∨
    ∃ (o:Obj) (its:Array Value) (n:Nat),K.lookup a = some o/\o.cls = .type "list"/\o.dict = none/\o.data = .seq its n/\its.size <= sizeLine/\Vals xs its.toList
def SqT (K:W.Frag) (H:Hp) (a:Addr) (xs:List V):Prop :=
  Rd H a (.tup xs) ∨
    ∃ (o:Obj) (its:Array Value) (n:Nat),K.lookup a = some o/\o.cls = .type "tuple"/\o.data = .seq its n/\its.size <= sizeLine/\Vals xs its.toList
def b3y:Value->Option V
  | .none=>some .non
  | .bool b=>some (.bl b)
  | .int i _=>some (.int i)
  | .str x _=>some (.str x)
  | .bytes b _=>some (.byt b)
  | .float b _=>some (.flt b)
  | .ref a=>some (.ref a)
  | .type n=>some (.ty n)
  | _=>none
theorem RelV.abs {x:V} {u:Value} (r:RelV x u):b3y u = some x:=by
  cases x with
  | non=>cases r; rfl
  | bl _=>cases r; rfl
  | int _=>obtain ⟨t,rfl⟩:=r; rfl
  | str _=>obtain ⟨t,rfl⟩:=r; rfl
  | byt _=>obtain ⟨t,rfl⟩:=r; rfl
  | flt _=>obtain ⟨t,rfl⟩:=r; rfl
  | ref _=>cases r; rfl
  | ty _=>cases r; rfl
theorem RelV.inj {x y:V} {u:Value} (r:RelV x u) (q:RelV y u):x = y:=Option.some.inj (r.abs.symm.trans q.abs)
theorem Vals.inj:∀ {xs ys:List V} {us:List Value},Vals xs us->Vals ys us->xs = ys
  | _,_,_,.nil,.nil=>rfl
  | _,_,_,.cons r t,.cons r' t'=>by rw [r.inj r',Vals.inj t t']
section
variable {X:Cx} {pins:List (Addr × Obj)} {σ:St} {H:Hp} {s:Shared} {a:Addr} {xs ys:List V}
theorem SqL.of {K:W.Frag} (h:H a = some (.lst xs)):SqL K H a xs:=.inl (.inl h)
theorem SqT.of {K:W.Frag} (h:H a = some (.tup xs)):SqT K H a xs:=.inl (.inl h)
theorem Inv.list (I:Inv X pins σ H s) (h:SqL X.K H a xs):∃ its:List Value,Vals xs its/\PlainL s.heap a its.toArray/\xs.length <= sizeLine:=by
  rcases h with h | ⟨o,its,n,hk,hc,hd,hs,hz,r⟩
  . obtain ⟨z,its,n,r,e⟩:=h.ok I.hok
    exact ⟨its,r,⟨_,n,e,rfl,rfl,rfl⟩,z⟩
  . refine ⟨its.toList,r,⟨o,n,I.kIn a o hk,hc,hd,by simpa using hs⟩,?_⟩
    have e:=r.length
    simp only [Array.length_toList] at e
    omega
theorem Inv.tuple (I:Inv X pins σ H s) (h:SqT X.K H a xs):∃ its:List Value,Vals xs its/\IsTup s.heap a its.toArray/\xs.length <= sizeLine:=by
  rcases h with h | ⟨o,its,n,hk,hc,hs,hz,r⟩
  . obtain ⟨z,its,r,p⟩:=h.ok I.hok
    exact ⟨its,r,p,z⟩
  . refine ⟨its.toList,r,⟨o,I.kIn a o hk,hc,n,by simpa using hs⟩,?_⟩
    have e:=r.length
    simp only [Array.length_toList] at e
    omega
theorem Inv.list_inj (I:Inv X pins σ H s) (h:SqL X.K H a xs) (h':SqL X.K H a ys):xs = ys:=by
  obtain ⟨its,r,⟨o,n,e,_,_,d⟩,_⟩:=I.list h
  obtain ⟨its',r',⟨o',n',e',_,_,d'⟩,_⟩:=I.list h'
  rw [e] at e'; cases e'
  rw [d] at d'
  injection d' with d1 _
  have:its = its':=by simpa using congrArg Array.toList d1
  subst this
  exact r.inj r'
theorem Inv.tuple_inj (I:Inv X pins σ H s) (h:SqT X.K H a xs) (h':SqT X.K H a ys):xs = ys:=by
  obtain ⟨its,r,⟨o,e,_,n,d⟩,_⟩:=I.tuple h
  obtain ⟨its',r',⟨o',e',_,n',d'⟩,_⟩:=I.tuple h'
  rw [e] at e'; cases e'
  rw [d] at d'
  injection d' with d1 _
  have:its = its':=by simpa using congrArg Array.toList d1
  subst this
  exact r.inj r'
end
abbrev Cx.wish (X:Cx) (E:Value->Shared->Prop):Cx:={ X with xe:=E }
abbrev Cx.nox (X:Cx):Cx:=X.wish fun _ _=>False
theorem Cx.Ok.wish {X:Cx} (ok:X.Ok) (E:Value->Shared->Prop):(X.wish E).Ok :=
  ⟨ok.mod,ok.kind,ok.glob,ok.blt,ok.above,ok.inj,ok.has,ok.cab,ok.hd,ok.frames,ok.stk,ok.exf,ok.bs,ok.bsz,ok.noex,ok.exfs,ok.funs,ok.frf⟩
theorem Cx.Ok.unwish {X:Cx} {E:Value->Shared->Prop} (ok:(X.wish E).Ok):X.Ok :=
  ⟨ok.mod,ok.kind,ok.glob,ok.blt,ok.above,ok.inj,ok.has,ok.cab,ok.hd,ok.frames,ok.stk,ok.exf,ok.bs,ok.bsz,ok.noex,ok.exfs,ok.funs,ok.frf⟩
section
variable {X:Cx} {pins:List (Addr × Obj)} {σ:St} {H:Hp} {s:Shared} {E:Value->Shared->Prop}
theorem Inv.wish (I:Inv X pins σ H s) (E:Value->Shared->Prop):Inv (X.wish E) pins σ H s:=⟨I.ok.wish E,I.os,I.bare,I.base,I.loc,I.cell,I.free,I.freeC,I.pin,I.hok,I.len⟩
theorem Inv.unwish (I:Inv (X.wish E) pins σ H s):Inv X pins σ H s:=⟨I.ok.unwish,I.os,I.bare,I.base,I.loc,I.cell,I.free,I.freeC,I.pin,I.hok,I.len⟩
theorem SP.unwish {D:Ends} {f:Flow} {s':Shared} (h:SP (X.wish E) pins D f s'):SP X pins D f s':=by
  cases f with
  | next=>obtain ⟨σ',H',I,q⟩:=h; exact ⟨σ',H',I.unwish,q⟩
  | brk=>obtain ⟨σ',H',I,q⟩:=h; exact ⟨σ',H',I.unwish,q⟩
  | cont=>obtain ⟨σ',H',I,q⟩:=h; exact ⟨σ',H',I.unwish,q⟩
  | ret u=>obtain ⟨v,σ',H',I,r,q⟩:=h; exact ⟨v,σ',H',I.unwish,r,q⟩
theorem PSs.nox {st:List Stmt} {t:TS} (h:PSs X.nox st t):PSs X st t:=fun pins s σ H D I hw =>
  wpAny_mono (h pins s σ H D (I.wish _) hw) (fun _ _ q=>q.unwish) fun _ _ z=>False.elim z
end
section
variable {X:Cx} {st:Stmt} {rest:List Stmt} {t u:TS} {e:Expr} {te:TE} {pos:Pos}
def b1X:TS:=fun D σ H=>D.nx σ H
def b3e (t u:TS):TS:=fun D σ H=>t { D with nx:=u D } σ H
theorem r6:PSs X [] b1X:=fun _ _ σ H _ I h=>wpAny_execs_nil ⟨σ,H,I,h⟩
theorem i4 (h1:PS X st t) (h2:PSs X rest u):PSs X (st :: rest) (b3e t u):=by
  intro pins s σ H D I h
  refine wpAny_execs_cons (v8 (h1 pins s σ H { D with nx:=u D } I h) fun f s1 q=>?_)
  cases f with
  | next =>
    obtain ⟨σ',H',I',q⟩:=q
    exact h2 pins s1 σ' H' D I' q
  | ret v=>exact q
  | brk=>exact q
  | cont=>exact q
theorem i7 (h1:PS X st t):PSs X [st] t:=by
  intro pins s σ H D I h
  refine wpAny_execs_cons (v8 (h1 pins s σ H D I h) fun f s1 q=>?_)
  cases f with
  | next=>exact wpAny_execs_nil q
  | ret v=>exact q
  | brk=>exact q
  | cont=>exact q
theorem Inv.quiet {pins:List (Addr × Obj)} {σ:St} {H:Hp} {s:Shared} (I:Inv X pins σ H s):interactive X.env = false:=by simp [interactive,I.ok.kind]
def b1P (te:TE):TS:=fun D σ H=>te σ H fun _ H1=>D.nx σ H1
theorem A3 (he:PE X e te) (hs:swapsWith e none pos.line X.env = pure false:=by rfl):PS X (.Expr e pos) (b1P te):=by
  intro pins s σ H D I h
  exact wpAny_Expr_any (v8 (he pins s σ H _ I h) fun v s1 ⟨x,H1,I1,r1,q1⟩=>⟨σ,H1,I1,q1⟩) I.quiet hs
def b3D (te:TE):TS:=fun D σ H=>te σ H D.rt
theorem m7 (he:PE X e te):PS X (.Return (some e) pos) (b3D te):=by
  intro pins s σ H D I h
  exact wpAny_Return_some (v8 (he pins s σ H _ I h) fun v s1 ⟨x,H1,I1,r1,q1⟩=>⟨x,σ,H1,I1,r1,q1⟩)
def b2X (c:TT) (t u:TS):TS:=fun D σ H=>c σ H fun b H1=>if b = true then t D σ H1 else u D σ H1
theorem x8 {c:Expr} {a b:List Stmt} {tc:TT} (hc:PT X c tc) (ha:PSs X a t) (hb:PSs X b u):PS X (.If c a b pos) (b2X tc t u):=by
  intro pins s σ H D I h
  refine wpAny_If (v8 (hc pins s σ H _ I h) fun d s1 ⟨H1,I1,q1⟩=>?_)
  cases d with
  | true=>exact ha pins s1 σ H1 D I1 q1
  | false=>exact hb pins s1 σ H1 D I1 q1
def b0G:TS:=fun _ _ _=>False
theorem a1S {sts:List Stmt}:PSs X sts b0G:=fun _ _ _ _ _ _ h=>h.elim
end
abbrev TG:=V->St->Hp->(St->Hp->Prop)->Prop
abbrev TGs:=List V->St->Hp->(St->Hp->Prop)->Prop
def PG (X:Cx) (target:Expr) (t:TG):Prop :=
  ∀ (pins:List (Addr × Obj)) (s:Shared) (σ:St) (H:Hp) (v:V) (u:Value) (Q:St->Hp->Prop),Inv X pins σ H s->RelV v u->t v σ H Q →
    wpAny (model X.prog X.w) X.A (assign target X.env u) (fun _ s'=>∃ σ' H',Inv X pins σ' H' s'/\Q σ' H') X.xe s
def PGs (X:Cx) (ts:List Expr) (t:TGs):Prop :=
  ∀ (pins:List (Addr × Obj)) (s:Shared) (σ:St) (H:Hp) (vs:List V) (us:List Value) (Q:St->Hp->Prop),Inv X pins σ H s->Vals vs us->t vs σ H Q →
    wpAny (model X.prog X.w) X.A (assignInOrder ((assignEach ts X.env).map (·.2)) us) (fun _ s'=>∃ σ' H',Inv X pins σ' H' s'/\Q σ' H') X.xe s
abbrev b0u:=V->V->V->Hp->(Hp->Prop)->Prop
def b1E (X:Cx) (t:b0u):Prop :=
  ∀ (pins:List (Addr × Obj)) (s:Shared) (σ:St) (H:Hp) (o i v:V) (ov iv u:Value) (Q:Hp->Prop),Inv X pins σ H s->RelV o ov->RelV i iv->RelV v u->t o i v H Q →
    wpAny (model X.prog X.w) X.A (setItem ov iv u) (fun _ s'=>∃ H',Inv X pins σ H' s'/\Q H') X.xe s
section
variable {X:Cx} {pos:Pos}
def D7 (i:Nat):TG:=fun v σ H Q=>Q (σ.set i (some v)) H
theorem j5 {i:Nat} {x:Str} (hN:X.N.Nodup) (hi:X.N[i]? = some x) (hx:Loc X.env.scope x) (hf:X.fn x = true \/ X.env.scope.names.lookup x = some .local:=by first | exact .inl rfl | exact .inr rfl | assumption):PG X (.Name x pos) (D7 i):=by
  intro pins s σ H v u Q I r h
  exact wpAny_assign_Name (W8 I hN hi hx r (fun s' I'=>⟨_,H,I',h⟩) hf)
def a4e:TGs:=fun vs σ H Q=>vs = []/\Q σ H
def N5 (t:TG) (u:TGs):TGs:=fun vs σ H Q=>∃ v r,vs = v :: r/\t v σ H fun σ' H'=>u r σ' H' Q
theorem y4:PGs X [] a4e:=by
  intro pins s σ H vs us Q I r h
  obtain ⟨e,h⟩:=h
  subst e
  cases r
  exact assignInOrder_nil ⟨σ,H,I,h⟩
theorem j9 {e:Expr} {es:List Expr} {t:TG} {u:TGs} (h1:PG X e t) (h2:PGs X es u)
    (hs:(assignEach (e :: es) X.env).map (·.2) = assign e X.env :: (assignEach es X.env).map (·.2):=by rfl):PGs X (e :: es) (N5 t u):=by
  intro pins s σ H vs us Q I r h
  obtain ⟨v,vr,e1,h⟩:=h
  subst e1
  cases r with
  | cons r rr =>
    rw [hs]
    refine assignInOrder_cons (v8 (h1 pins s σ H _ _ _ I r h) fun _ s1 ⟨σ1,H1,I1,q1⟩=>?_)
    exact h2 pins s1 σ1 H1 _ _ Q I1 rr q1
def a3k (K:W.Frag) (n:Nat) (t:TGs):TG:=fun v σ H Q=>∃ a xs,v = .ref a/\SqT K H a xs/\xs.length = n/\t xs σ H Q
theorem V0 {es:List Expr} {k:Nat} {t:TGs} {n:Nat} (hc:X.calm = true) (h:PGs X es t)
    (hn:(assignEach es X.env).length = n:=by rfl) (hst:(assignEach es X.env).findIdx? (·.1) = none:=by rfl):PG X (.Tuple es k pos) (a3k X.K n t):=by
  intro pins s σ H v u Q I r hw
  obtain ⟨a,xs,e1,hq,hl,hw⟩:=hw
  subst e1
  cases r
  obtain ⟨its,rv,ht,hz⟩:=I.tuple hq
  refine assign_Tuple_tuple (I.ok.hd hc) ht (by simp [hn,<- hl,rv.length]) hst fun h' hx=>?_
  have I1:Inv X pins σ H { s with heap:=h' }:=I.kept (t':=s.toks) fun b o e=>hx b o (Nat.ne_of_lt (Heap.lt_size e)) e
  exact h pins _ σ H xs _ Q I1 (by simpa using rv) hw
def b3B (to ti:TE) (t:b0u):TG:=fun v σ H Q=>to σ H fun o H1=>ti σ H1 fun i H2=>t o i v H2 fun H3=>Q σ H3
theorem V8 {o i:Expr} {to ti:TE} {t:b0u} (ho:PE X o to) (hi:PE X i ti) (hs:b1E X t)
    (ha:∀ v,assign (.Subscript o i pos) X.env v = (do
      let ov <- holding [v] (eval o X.env)
      let iv <- holding [v,ov] (eval i X.env)
      standAt pos
      holding [v,ov,iv] (setItem ov iv v)
      release [v,ov,iv] []):=by intro _; rfl):PG X (.Subscript o i pos) (b3B to ti t):=by
  intro pins s σ H v u Q I r h
  rw [ha]
  refine wpAny_bind (wpAny_holding (v8 (ho pins s σ H _ I h) fun ov s1 ⟨x,H1,I1,r1,q1⟩=>?_))
  refine wpAny_bind (wpAny_holding (v8 (hi pins s1 σ H1 _ I1 q1) fun iv s2 ⟨y,H2,I2,r2,q2⟩=>?_))
  refine wpAny_bind (wpAny_standAt (wpAny_bind (wpAny_holding (v8 (hs pins s2 σ H2 x y v ov iv u _ I2 r1 r2 r q2) fun _ s3 ⟨H3,I3,q3⟩=>?_))))
  exact wpAny_release ⟨σ,H3,I3,q3⟩
def a6c (te:TE) (g:TG):TS:=fun D σ H=>te σ H fun x H1=>g x σ H1 D.nx
theorem M8 {tg e:Expr} {te:TE} {g:TG} (he:PE X e te) (hg:PG X tg g) (hs:swapsWithSole [tg] e pos.line X.env = pure false:=by rfl) (hw:swappedStores [tg] e X.env = pure none:=by rfl)
    (h1:(assignEach [tg] X.env).map (·.2) = [assign tg X.env]:=by rfl):PS X (.Assign [tg] e pos) (a6c te g):=by
  intro pins s σ H D I h
  refine wpAny_Assign_stores (v8 (he pins s σ H _ I h) fun v s1 ⟨x,H1,I1,r1,q1⟩=>?_) hs hw
  rw [h1]
  exact v8 (hg pins s1 σ H1 x v _ I1 r1 q1) fun _ s2 q=>q
theorem m8 {i:Nat} {x:Str} {e:Expr} {te:TE} {pos':Pos} (hN:X.N.Nodup) (hi:X.N[i]? = some x) (hx:Loc X.env.scope x) (he:PE X e te) (hs:swapsWith e (some (.Name x pos')) pos.line X.env = pure false:=by rfl) (hf:X.fn x = true \/ X.env.scope.names.lookup x = some .local:=by first | exact .inl rfl | exact .inr rfl | assumption) :
    PS X (.Assign [.Name x pos'] e pos) (a6c te (D7 i)):=by
  intro pins s σ H D I h
  refine wpAny_Assign_Name (v8 (he pins s σ H _ I h) fun v s1 ⟨y,H1,I1,r1,q1⟩=>?_) hs
  exact W8 I1 hN hi hx r1 (fun s2 I2=>⟨_,H1,I2,q1⟩) hf
def b3w (i j:Nat) (ta:TA):TS:=fun D σ H=>ta σ H fun vs H1=>∃ v w,vs = [v,w]/\D.nx ((σ.set i (some v)).set j (some w)) H1
theorem b0i {i j:Nat} {x y:Str} {a b:Expr} {ta:TA} {px py pt:Pos} {kt k2 pt2} (hc:X.calm = true) (hN:X.N.Nodup) (hi:X.N[i]? = some x) (hj:X.N[j]? = some y) (hij:i ≠ j)
    (hx:X.env.scope.names.lookup x = some .local) (hy:X.env.scope.names.lookup y = some .local) (ha:PA X [a,b] ta)
    (hw:swappedStores [.Tuple [.Name x px,.Name y py] kt pt] (.Tuple [a,b] k2 pt2) X.env = pure (some [x,y]))
    (hs:swapsWithSole [.Tuple [.Name x px,.Name y py] kt pt] (.Tuple [a,b] k2 pt2) pos.line X.env = pure false:=by rfl) :
    PS X (.Assign [.Tuple [.Name x px,.Name y py] kt pt] (.Tuple [a,b] k2 pt2) pos) (b3w i j ta):=by
  intro pins s σ H D I h
  rw [exec_Assign_arm]
  refine wpAny_bind (wpAny_standAt ?_)
  rw [hs]
  refine wpAny_bind (wpAny_pure ?_)
  rw [if_neg (by decide)]
  refine wpAny_bind (Tuple_ (v8 (ha _ pins s σ H _ I h) fun us s1 ⟨vs,H1,I1,r1,q1⟩=>?_))
  obtain ⟨v,w,e1,q1⟩:=q1
  subst e1
  obtain ⟨u1,u2,rfl,rv,rw'⟩:∃ u1 u2,us = [u1,u2]/\RelV v u1/\RelV w u2:=by
    cases r1 with
    | cons p q =>
      cases q with
      | cons p' q' =>
        cases q'
        exact ⟨_,_,rfl,p,p'⟩
  refine wpAny_newObj_type ?_ (by show 2 <= sizeLine; decide)
  have I2:Inv X pins σ H1 { s1 with heap:=s1.heap.push { cls:=.type "tuple",data:=.seq [u1,u2].toArray } }:=I1.kept (t':=s1.toks) fun b o e=>Heap.get?_push_of_some _ e
  rw [hw]
  refine wpAny_bind (wpAny_pure ?_)
  show wpAny (model X.prog X.w) X.A (do rule "assign.swapped-stores"; let items <- unpackItems (.ref s1.heap.objs.size) 2 none; assignInOrder [fun v=>bindName X.env y v,fun v=>bindName X.env x v] items.reverse; pure Flow.next) _ _ _
  refine wpAny_bind (wpAny_rule (wpAny_bind (unpackItems_tuple (items:=#[u1,u2]) (I.ok.hd hc) (IsTup.new s1.heap _) fun h' hx'=>?_)))
  have I3:=I2.kept (h':=h') (t':=s1.toks) fun b o e=>hx' b o (Nat.ne_of_lt (Heap.lt_size e)) e
  show wpAny _ _ (assignInOrder [fun v=>bindName X.env y v,fun v=>bindName X.env x v] [u2,u1] >>= fun _=>pure Flow.next) _ _ _
  refine wpAny_bind (assignInOrder_cons (wpAny_bindName (W8 I3 hN hj (.inl hy) rw' (fun s2 I4=>?_) (.inr hy))))
  refine assignInOrder_cons (wpAny_bindName (W8 I4 hN hi (.inl hx) rv (fun s3 I5=>assignInOrder_nil (wpAny_pure ?_)) (.inr hx)))
  rw [List.set_comm _ _ (Ne.symm hij)] at I5
  exact ⟨_,H1,I5,q1⟩
end
section
variable {X:Cx} {pos:Pos}
def a7W (c:TT) (tb:TS):TS:=fun D σ H=>∃ W:Nat->St->Hp->Prop,(∃ m,W m σ H)/\∀ m σ H,W m σ H →
  c σ H fun b H1=>if b = true then ∃ N:St->Hp->Prop,(∀ σ' H',N σ' H'->∃ m',m' < m/\W m' σ' H')/\tb { D with nx:=N,ct:=N,bk:=D.nx } σ H1 else D.nx σ H1
theorem a3y {c:Expr} {body:List Stmt} {tc:TT} {tb:TS} (hp:PassesOwn (model X.prog X.w) X.A X.env X.xe) (hc:PT X c tc) (hb:PSs X body tb):PS X (.While c body [] pos) (a7W tc tb):=by
  intro pins s σ H D I h
  obtain ⟨W,⟨m0,w0⟩,turn⟩:=h
  refine wpAny_While (codeAny_whileLoop (fun n s'=>∃ σ' H',Inv X pins σ' H' s'/\W n σ' H') ?_ m0 ⟨σ,H,I,w0⟩)
  rintro n s1 ⟨σ1,H1,I1,w1⟩
  refine wpAny_passesOwn hp (v8 (hc pins s1 σ1 H1 _ I1 (turn n σ1 H1 w1)) fun b s2 ⟨H2,I2,q2⟩=>?_)
  cases b with
  | true =>
    obtain ⟨N,hN,q2⟩:=q2
    rw [if_pos rfl]
    refine wpAny_passesOwn hp (v8 (hb pins s2 σ1 H2 _ I2 q2) fun f s3 q3=>?_)
    cases f with
    | next =>
      obtain ⟨σ3,H3,I3,n3⟩:=q3
      obtain ⟨m',hm,w3⟩:=hN σ3 H3 n3
      exact ⟨m',hm,σ3,H3,I3,w3⟩
    | cont =>
      obtain ⟨σ3,H3,I3,n3⟩:=q3
      obtain ⟨m',hm,w3⟩:=hN σ3 H3 n3
      exact ⟨m',hm,σ3,H3,I3,w3⟩
    | brk=>exact q3
    | ret v=>exact q3
  | false =>
    rw [if_neg Bool.false_ne_true]
    exact wpAny_execs_nil ⟨σ1,H2,I2,q2⟩
end
structure It where
  go:Nat->Hp->Prop
  yld:Nat->Hp->V->Hp->Prop
  stop:Nat->Hp->Prop
def P3 (X:Cx) (pins:List (Addr × Obj)) (H:Hp) (b:Addr):Prop :=
  H b = none/\b ≠ X.env.locals/\b ∉ X.fs/\(b ∈ X.ex \/ X.s₀.heap.objs.size <= b)/\(∀ x c,X.env.cells.lookup x = some c->c ≠ b)/\∀ p ∈ X.pn ++ pins,p.1 ≠ b
theorem Inv.fpOk {X:Cx} {pins:List (Addr × Obj)} {σ:St} {H H':Hp} {s:Shared} {b:Addr} (I:Inv X pins σ H s) (hb:s.heap.objs.size <= b) (hn:H' b = none):P3 X pins H' b:=by
  refine ⟨hn,Nat.ne_of_gt (Nat.lt_of_lt_of_le I.lt hb),I.nofs hb,.inr (Nat.le_trans I.sz hb),fun x c e z=>?_,fun p hp z=>?_⟩
  . obtain ⟨v,q⟩:=I.cell x c e
    exact absurd (Nat.lt_of_lt_of_le q.lt (by rw [z]; exact hb)) (Nat.lt_irrefl _)
  . exact absurd (Nat.lt_of_lt_of_le (Heap.lt_size (I.pin p hp).1) (by rw [z]; exact hb)) (Nat.lt_irrefl _)
structure a4B (P:Program) (w:World) (K:W.Frag) (tg:Expr) (J:It) (fp:List Addr) (it:Addr) (tn:Nat->Heap->Prop):Prop where
  mem:it ∈ fp
  obj:∀ i h,tn i h->∀ b ∈ fp,∃ o,h.get? b = some o/\∀ v,o.data ≠ .cell v
  keep:∀ i h h',tn i h->(∀ b ∈ fp,∀ o,h.get? b = some o->h'.get? b = some o)->tn i h'
  item:∀ (X:Cx),X.prog = P->X.w = w->X.K = K->X.calm = true->∀ (i:Nat) (pins:List (Addr × Obj)) (s:Shared) (σ:St) (H:Hp) (E:Value->Shared->Prop),Inv X pins σ H s->(∀ b ∈ fp,P3 X pins H b)->tn i s.heap->J.go i H →
    wpAny (model P w) X.A (pyNext (.ref it)) (fun r s1=>∃ u,r = some u ∧
      wpAny (model P w) X.A (letOwnedTupleGo tg (.ref it) u) (fun _ s2=>∃ x H',Inv X pins σ H' s2/\RelV x u/\J.yld i H x H'/\tn (i + 1) s2.heap/\∀ b ∈ fp,H' b = none) E s1) E s
  done:∀ (X:Cx),X.prog = P->X.w = w->X.K = K->X.calm = true->∀ (i:Nat) (pins:List (Addr × Obj)) (s:Shared) (σ:St) (H:Hp) (E:Value->Shared->Prop),Inv X pins σ H s->(∀ b ∈ fp,P3 X pins H b)->tn i s.heap->J.stop i H →
    wpAny (model P w) X.A (pyNext (.ref it)) (fun r s1=>r = none/\Inv X pins σ H s1) E s
  self:∀ (A:Around) (i:Nat) (s:Shared) (Q:Value->Shared->Prop) (E:Value->Shared->Prop),tn i s.heap->Q (.ref it) s->wpAny (model P w) A (pyIter (.ref it)) Q E s
abbrev TI:=St->Hp->(It->Hp->Prop)->Prop
def PIE (X:Cx) (pins:List (Addr × Obj)) (σ:St) (tg:Expr) (R:It->Hp->Prop) (itv:Value) (s2:Shared):Prop :=
  ∃ (it:Addr) (fp:List Addr) (tn:Nat->Heap->Prop) (J:It) (H':Hp),itv = .ref it/\Inv X pins σ H' s2/\a4B X.prog X.w X.K tg J fp it tn/\tn 0 s2.heap/\(∀ b ∈ fp,P3 X pins H' b)/\R J H'
def PI (X:Cx) (tg iter:Expr) (wi:TI):Prop :=
  ∀ (pins:List (Addr × Obj)) (s:Shared) (σ:St) (H:Hp) (R:It->Hp->Prop),Inv X pins σ H s->wi σ H R →
    wpAny (model X.prog X.w) X.A (eval iter X.env) (fun v s1=>wpAny (model X.prog X.w) X.A (pyIter v) (PIE X pins σ tg R) X.xe s1) X.xe s
theorem a8b {M:Model} {A:Around} {E:Value->Shared->Prop} {s:Shared} {tg:Expr} {it:Addr} {u:Value} {o:Obj} {n:String} {vs:Array Value} {Q:Unit->Shared->Prop} (ho:s.heap.get? it = some o) (hc:o.cls = .type n) (hd:o.data = .fields vs)
    (hn:["enumerate","zip","dict_itemiterator","dict_reverseitemiterator","odict_iterator","itertools.zip_longest","itertools.pairwise"].contains n = false) (hQ:Q () s):wpAny M A (letOwnedTupleGo tg (.ref it) u) Q E s:=by
  unfold letOwnedTupleGo
  cases tg <;> first
    | exact wpAny_pure hQ
    | (cases u <;> first
        | exact wpAny_pure hQ
        | (refine wpAny_bind (wpAny_load ho ?_)
           rw [hc,hd]
           show wpAny M A (if (["enumerate","zip","dict_itemiterator","dict_reverseitemiterator","odict_iterator","itertools.zip_longest","itertools.pairwise"].contains n && vs[0]? == some (rawInt _)) = true then _ else _) Q E s
           rw [if_neg (by intro h; rw [hn,Bool.false_and] at h; cases h)]
           exact wpAny_pure hQ))
def Itl (K:W.Frag) (a:Addr):It :=
  ⟨fun i H=>∃ xs x,SqL K H a xs/\xs[i]? = some x,fun i H x H'=>H' = H/\∀ xs,SqL K H a xs->xs[i]? = some x,fun i H=>∃ xs,SqL K H a xs/\xs.length <= i⟩
def Itt (K:W.Frag) (a:Addr):It :=
  ⟨fun i H=>∃ xs x,SqT K H a xs/\xs[i]? = some x,fun i H x H'=>H' = H/\∀ xs,SqT K H a xs->xs[i]? = some x,fun i H=>∃ xs,SqT K H a xs/\xs.length <= i⟩
def Itr (lo:Int) (n:Nat):It:=⟨fun i _=>i < n,fun i H x H'=>H' = H/\x = .int (lo + i),fun i _=>n <= i⟩
theorem a6h {P:Program} {w:World} {K:W.Frag} {tg:Expr} (a it:Addr):a4B P w K tg (Itl K a) [it] it (fun i h=>h.IsListIter it a i) where
  mem:=by simp
  obj:=fun i h st b hb=>by
    have e:b = it:=by simpa using hb
    subst e
    obtain ⟨o,e,c,d⟩:=st
    exact ⟨o,e,fun v z=>by rw [d] at z; cases z⟩
  keep:=fun i h h' st k=>st.at fun o e=>k it (by simp) o e
  item:=by
    intro X hP hw hK hc i pins s σ H E I hf st hg
    subst hP hw hK
    obtain ⟨xs,x,hq,hx⟩:=hg
    obtain ⟨its,rv,p,hz⟩:=I.list hq
    obtain ⟨u,hu,ru⟩:=rv.get hx
    obtain ⟨f0,f1,f2,f3,f4,f5⟩:=hf it (by simp)
    refine wpAny_pyNext_list_item st p.isList (x:=u) (by simpa using hu) fun h' st' sb=>?_
    have I1:Inv X pins σ H { s with heap:=h' }:=I.turned (t':=s.toks) (fun b o hb e=>(sb.2 b hb).trans e) f0 f1 f3 f4 f5
    obtain ⟨o,e,c,d⟩:=id st'
    exact ⟨u,rfl,a8b (s:={ s with heap:=h' }) e c d (by decide) ⟨x,H,I1,ru,⟨rfl,fun ys hy=>by rw [I.list_inj hy hq]; exact hx⟩,st',fun b hb=>(hf b hb).1⟩⟩
  done:=by
    intro X hP hw hK hc i pins s σ H E I hf st hg
    subst hP hw hK
    obtain ⟨xs,hq,hx⟩:=hg
    obtain ⟨its,rv,p,hz⟩:=I.list hq
    obtain ⟨f0,f1,f2,f3,f4,f5⟩:=hf it (by simp)
    have hl:=rv.length
    exact wpAny_pyNext_list_end (I.ok.hd hc) st p.isList (by simp; omega) fun h' eb=>⟨rfl,I.turned (t':=s.toks) (fun b o hb e=>eb b o hb e) f0 f1 f3 f4 f5⟩
  self:=fun _ _ _ _ _ st h=>wpAny_pyIter_listiter st h
theorem a4w {P:Program} {w:World} {K:W.Frag} {tg:Expr} (a it:Addr):a4B P w K tg (Itt K a) [it] it (fun i h=>h.IsTupleIter it a i) where
  mem:=by simp
  obj:=fun i h st b hb=>by
    have e:b = it:=by simpa using hb
    subst e
    obtain ⟨o,e,c,d⟩:=st
    exact ⟨o,e,fun v z=>by rw [d] at z; cases z⟩
  keep:=fun i h h' st k=>st.at fun o e=>k it (by simp) o e
  item:=by
    intro X hP hw hK hc i pins s σ H E I hf st hg
    subst hP hw hK
    obtain ⟨xs,x,hq,hx⟩:=hg
    obtain ⟨its,rv,p,hz⟩:=I.tuple hq
    obtain ⟨u,hu,ru⟩:=rv.get hx
    obtain ⟨f0,f1,f2,f3,f4,f5⟩:=hf it (by simp)
    refine wpAny_pyNext_tuple_item st (show s.heap.IsTuple a its.toArray from p) (x:=u) (by simpa using hu) fun h' st' sb=>?_
    have I1:Inv X pins σ H { s with heap:=h' }:=I.turned (t':=s.toks) (fun b o hb e=>(sb.2 b hb).trans e) f0 f1 f3 f4 f5
    obtain ⟨o,e,c,d⟩:=id st'
    exact ⟨u,rfl,a8b (s:={ s with heap:=h' }) e c d (by decide) ⟨x,H,I1,ru,⟨rfl,fun ys hy=>by rw [I.tuple_inj hy hq]; exact hx⟩,st',fun b hb=>(hf b hb).1⟩⟩
  done:=by
    intro X hP hw hK hc i pins s σ H E I hf st hg
    subst hP hw hK
    obtain ⟨xs,hq,hx⟩:=hg
    obtain ⟨its,rv,p,hz⟩:=I.tuple hq
    obtain ⟨f0,f1,f2,f3,f4,f5⟩:=hf it (by simp)
    have hl:=rv.length
    exact wpAny_pyNext_tuple_end (I.ok.hd hc) st (show s.heap.IsTuple a its.toArray from p) (by simp; omega) fun h' eb=>⟨rfl,I.turned (t':=s.toks) (fun b o hb e=>eb b o hb e) f0 f1 f3 f4 f5⟩
  self:=fun _ _ _ _ _ st h=>wpAny_pyIter_tupleiter st h
theorem a4E {P:Program} {w:World} {K:W.Frag} {tg:Expr} (it:Addr) (lo:Int) (n:Nat):a4B P w K tg (Itr lo n) [it] it (fun i h=>IsRangeIter h it (lo + (i:Nat) * 1) ((n:Int) - (i:Nat)) 1) where
  mem:=by simp
  obj:=fun i h st b hb=>by
    have e:b = it:=by simpa using hb
    subst e
    exact ⟨_,st,fun v z=>by
      have z':Data.fields _ = Data.cell v:=z
      cases z'⟩
  keep:=fun i h h' st k=>k it (by simp) _ st
  item:=by
    intro X hP hw hK hc i pins s σ H E I hf st hg
    subst hP hw hK
    obtain ⟨f0,f1,f2,f3,f4,f5⟩:=hf it (by simp)
    have W:=Walks.range (prog:=X.prog) (w:=X.w) (I.ok.hd hc) it lo 1 n
    refine W.item i s _ _ hg st fun v h' tk hv st' kk=>?_
    obtain ⟨t,rfl⟩:=hv
    have I1:Inv X pins σ H { s with heap:=h',toks:=tk }:=I.turned (fun b o hb e=>kk b o (by simpa using hb) e) f0 f1 f3 f4 f5
    refine ⟨_,rfl,a8b (s:={ s with heap:=h',toks:=tk }) (n:="range_iterator") st' rfl rfl (by decide) ⟨.int (lo + i),H,I1,⟨t,?_⟩,⟨rfl,rfl⟩,st',fun b hb=>(hf b hb).1⟩⟩
    rw [Int.mul_one]
  done:=by
    intro X hP hw hK hc i pins s σ H E I hf st hg
    subst hP hw hK
    obtain ⟨f0,f1,f2,f3,f4,f5⟩:=hf it (by simp)
    exact wpAny_pyNext_range_end (I.ok.hd hc) st (by have:n <= i:=hg; omega) fun h' eb=>⟨rfl,I.turned (t':=s.toks) (fun b o hb e=>eb b o hb e) f0 f1 f3 f4 f5⟩
  self:=fun _ _ _ _ _ st h=>wpAny_pyIter_rangeiter st h
end L2
namespace L2
open PySem PySem.Spec PyProof.Rows
section
variable {X:Cx} {tg:Expr}
def b2I (K:W.Frag) (tl:TE):TI:=fun σ H R=>tl σ H fun x H1=>∃ a,x = .ref a/\(∃ xs,SqL K H1 a xs)/\R (Itl K a) H1
def b2n (K:W.Frag) (tl:TE):TI:=fun σ H R=>tl σ H fun x H1=>∃ a,x = .ref a/\(∃ xs,SqT K H1 a xs)/\R (Itt K a) H1
theorem G1 {l:Expr} {tl:TE} (hl:PE X l tl):PI X tg l (b2I X.K tl):=by
  intro pins s σ H R I h
  refine v8 (hl pins s σ H _ I h) fun v s1 ⟨x,H1,I1,r1,q1⟩=>?_
  obtain ⟨a,e,⟨xs,hq⟩,q⟩:=q1
  subst e
  cases r1
  obtain ⟨its,rv,p,hz⟩:=I1.list hq
  refine wpAny_pyIter_list p.isList ?_
  refine ⟨s1.heap.objs.size,[s1.heap.objs.size],_,_,H1,rfl,I1.kept (t':=s1.toks) fun b o e=>Heap.get?_push_of_some _ e,a6h a _,⟨_,Heap.get?_push_size _ rfl,rfl,rfl⟩,fun b hb=>?_,q⟩
  have e:b = s1.heap.objs.size:=by simpa using hb
  subst e
  exact I1.fpOk (Nat.le_refl _) (I1.hok.fresh (Nat.le_refl _))
theorem a4C {l:Expr} {tl:TE} (hl:PE X l tl):PI X tg l (b2n X.K tl):=by
  intro pins s σ H R I h
  refine v8 (hl pins s σ H _ I h) fun v s1 ⟨x,H1,I1,r1,q1⟩=>?_
  obtain ⟨a,e,⟨xs,hq⟩,q⟩:=q1
  subst e
  cases r1
  obtain ⟨its,rv,p,hz⟩:=I1.tuple hq
  refine wpAny_pyIter_tuple (show s1.heap.IsTuple a its.toArray from p) ?_
  refine ⟨s1.heap.objs.size,[s1.heap.objs.size],_,_,H1,rfl,I1.kept (t':=s1.toks) fun b o e=>Heap.get?_push_of_some _ e,a4w a _,⟨_,Heap.get?_push_size _ rfl,rfl,rfl⟩,fun b hb=>?_,q⟩
  have e:b = s1.heap.objs.size:=by simpa using hb
  subst e
  exact I1.fpOk (Nat.le_refl _) (I1.hok.fresh (Nat.le_refl _))
theorem a7N {pins:List (Addr × Obj)} {σ:St} {H:Hp} {s:Shared} {R:It->Hp->Prop} {E:Value->Shared->Prop} {lo hi:Int} {t u v:Tok} {tk:Nat} (I:Inv X pins σ H s) (h1:-(2 ^ 62) <= lo) (h2:lo < 2 ^ 62) (h3:-(2 ^ 62) <= hi) (h4:hi < 2 ^ 62)
    (q:R (Itr lo (hi - lo).toNat) H):wpAny (model X.prog X.w) X.A (pyIter (.ref s.heap.objs.size)) (PIE X pins σ tg R) E { s with heap:=s.heap.push { cls:=.type "range",data:=.fields #[.int lo t,.int hi u,.int 1 v] },toks:=tk }:=by
  refine wpAny_pyIter_range (IsRange.new ..) (small_one h1 h2 h3 h4) ?_
  have I1:Inv X pins σ H { s with heap:=s.heap.push { cls:=.type "range",data:=.fields #[.int lo t,.int hi u,.int 1 v] },toks:=tk }:=I.kept fun b o e=>Heap.get?_push_of_some _ e
  refine ⟨(s.heap.push { cls:=.type "range",data:=.fields #[.int lo t,.int hi u,.int 1 v] }).objs.size,[(s.heap.push { cls:=.type "range",data:=.fields #[.int lo t,.int hi u,.int 1 v] }).objs.size],_,_,H,rfl,
    I1.kept (t':=tk) fun b o e=>Heap.get?_push_of_some _ e,a4E _ lo (hi - lo).toNat,?_,fun b hb=>?_,q⟩
  . have e1:lo + ((0:Nat):Int) * 1 = lo:=by simp
    have e2:(((hi - lo).toNat:Nat):Int) - ((0:Nat):Int) = Builtin.Range.rangeSize lo hi 1:=by rw [rangeSize_one]; split <;> omega
    show IsRangeIter _ _ (lo + ((0:Nat):Int) * 1) ((((hi - lo).toNat:Nat):Int) - ((0:Nat):Int)) 1
    rw [e1,e2]
    exact Heap.get?_push_size _ rfl
  . have e:b = (s.heap.push { cls:=.type "range",data:=.fields #[.int lo t,.int hi u,.int 1 v] }).objs.size:=by simpa using hb
    subst e
    exact I1.fpOk (Nat.le_refl _) (I1.hok.fresh (Nat.le_refl _))
def b1U (ta:TA):TI:=fun σ H R=>ta σ H fun vs H1=>∃ j:Int,vs = [.int j]/\-(2 ^ 62) <= j/\j < 2 ^ 62/\R (Itr 0 j.toNat) H1
theorem J6 {a:Expr} {ta:TA} {p pos:Pos} (hg:Gl X "range") (hm:X.mg "range" = none) (ha:PA X [a] ta) (hs:starEach [a] X.env = [(false,eval a X.env)]:=by rfl):PI X tg (.Call (.Name "range" p) [a] [] pos) (b1U ta):=by
  intro pins s σ H R I h
  refine Call_ (P2 I hg hm boot_range (PyProof.Rows.callWith_type1 (v8 (ha pos pins s σ H _ I h) fun us s1 ⟨vs,H1,I1,r1,q1⟩=>?_) hs rfl))
  obtain ⟨j,e,q1,q2,q⟩:=q1
  subst e
  cases r1 with
  | cons r rr =>
    cases rr
    obtain ⟨t,rfl⟩:=r
    exact call_range_1 (a7N I1 (by omega) (by omega) q1 q2 (by simpa using q))
def b1b (wi:TI) (g:TG) (tb:TS):TS:=fun D σ H=>wi σ H fun J H1=>∃ W:Nat->Nat->St->Hp->Prop,(∃ m,W 0 m σ H1)/\∀ i m σ H,W i m σ H →
  (J.stop i H/\D.nx σ H) \/ (J.go i H/\∃ N:St->Hp->Prop,(∀ σ' H',N σ' H'->∃ m',m' < m/\W (i + 1) m' σ' H')/\∀ x H',J.yld i H x H'->g x σ H' fun σ2 H2=>tb { D with nx:=N,ct:=N,bk:=D.nx } σ2 H2)
def a0U (fp:List Addr) (h:Heap):List (Addr × Obj):=fp.filterMap fun b=>(h.get? b).map fun o=>(b,o)
theorem O5 {fp:List Addr} {h:Heap} {b:Addr} {o:Obj} (hb:b ∈ fp) (e:h.get? b = some o):(b,o) ∈ a0U fp h:=List.mem_filterMap.mpr ⟨b,hb,by rw [e]; rfl⟩
theorem a5X {fp:List Addr} {h:Heap} {p:Addr × Obj} (hp:p ∈ a0U fp h):p.1 ∈ fp/\h.get? p.1 = some p.2:=by
  obtain ⟨b,hb,e⟩:=List.mem_filterMap.mp hp
  cases q:h.get? b with
  | none=>rw [q] at e; cases e
  | some o =>
    rw [q] at e
    have e':(b,o) = p:=Option.some.inj e
    subst e'
    exact ⟨hb,q⟩
theorem Inv.pinned {pins:List (Addr × Obj)} {σ:St} {H:Hp} {s:Shared} {fp:List Addr} (I:Inv X pins σ H s) (hf:∀ b ∈ fp,P3 X pins H b) (ho:∀ b ∈ fp,∃ o,s.heap.get? b = some o/\∀ v,o.data ≠ .cell v):Inv X (pins ++ a0U fp s.heap) σ H s :=
  I.pins_of fun p hp=>(List.mem_append.mp hp).elim (fun z=>I.pin p (List.mem_append_right _ z)) fun z=>by
    obtain ⟨hb,e⟩:=a5X z
    obtain ⟨f0,f1,f2,_⟩:=hf p.1 hb
    obtain ⟨o,e',d⟩:=ho p.1 hb
    rw [e] at e'; cases e'
    exact ⟨e,f0,f1,f2,d⟩
theorem Inv.unpinned {pins pl:List (Addr × Obj)} {σ:St} {H:Hp} {s:Shared} (I:Inv X (pins ++ pl) σ H s):Inv X pins σ H s:=I.pins_of fun p hp=>I.pin p (List.mem_append_right _ (List.mem_append_left _ hp))
theorem V2 {iter:Expr} {body:List Stmt} {wi:TI} {g:TG} {tb:TS} {pos:Pos} (hp:PassesOwn (model X.prog X.w) X.A X.env X.xe) (hc:X.calm = true) (hi:PI X tg iter wi) (hg:PG X tg g) (hb:PSs X body tb)
    (hs:∀ x,foldedSetIterable iter X.env x = pure x:=by intro _; rfl):PS X (.For tg iter body [] pos) (b1b wi g tb):=by
  intro pins s σ H D I h
  refine wpAny_For (v8 (hi pins s σ H _ I h) fun v s1 h1=>v8 h1 fun itv s2 h2=>?_) hs
  obtain ⟨it,fp,tn,J,H2,e,I2,T,st2,f2,W,⟨m0,w0⟩,turn⟩:=h2
  subst e
  have stat:∀ {H':Hp},(∀ b ∈ fp,H' b = none)->∀ b ∈ fp,P3 X pins H' b:=fun hn b hb=>⟨hn b hb,(f2 b hb).2⟩
  refine codeAny_forLoop_any (fun n s'=>∃ i σ' H',Inv X pins σ' H' s'/\tn i s'.heap/\(∀ b ∈ fp,H' b = none)/\W i n σ' H') ?_ m0 ⟨0,σ,H2,I2,st2,fun b hb=>(f2 b hb).1,w0⟩
  rintro n s3 ⟨i,σ3,H3,I3,st3,fr3,w3⟩
  rcases turn i n σ3 H3 w3 with ⟨stop,qn⟩ | ⟨go,N,hN,step⟩
  . refine wpAny_passesOwn hp (v8 (T.done X rfl rfl rfl hc i pins s3 σ3 H3 X.xe I3 (stat fr3) st3 stop) fun r s4 ⟨hr,I4⟩=>?_)
    subst hr
    exact wpAny_execs_nil ⟨σ3,H3,I4,qn⟩
  . refine wpAny_passesOwn hp (v8 (T.item X rfl rfl rfl hc i pins s3 σ3 H3 X.xe I3 (stat fr3) st3 go) fun r s4 ⟨u,hr,h4⟩=>?_)
    subst hr
    refine wpAny_passesOwn hp (v8 h4 fun _ s5 ⟨x,H5,I5,r5,y5,st5,fr5⟩=>?_)
    have I5':=I5.pinned (stat fr5) (T.obj _ _ st5)
    refine wpAny_passesOwn hp (v8 (hg _ s5 σ3 H5 x u _ I5' r5 (step x H5 y5)) fun _ s6 ⟨σ6,H6,I6,q6⟩=>?_)
    refine wpAny_passesOwn hp (v8 (hb _ s6 σ6 H6 _ I6 q6) fun f s7 q7=>?_)
    have again:∀ {σ7:St} {H7:Hp},Inv X (pins ++ a0U fp s5.heap) σ7 H7 s7->N σ7 H7->∃ m,m < n/\∃ i σ' H',Inv X pins σ' H' s7/\tn i s7.heap/\(∀ b ∈ fp,H' b = none)/\W i m σ' H':=fun {σ7 H7} I7 n7=>by
      obtain ⟨m',hm,w7⟩:=hN σ7 H7 n7
      refine ⟨m',hm,i + 1,σ7,H7,I7.unpinned,T.keep _ _ _ st5 fun b hb o e=>(I7.pin (b,o) (List.mem_append_right _ (List.mem_append_right _ (O5 hb e)))).1,fun b hb=>?_,w7⟩
      obtain ⟨o,e,d⟩:=T.obj _ _ st5 b hb
      exact (I7.pin (b,o) (List.mem_append_right _ (List.mem_append_right _ (O5 hb e)))).2.1
    cases f with
    | next=>obtain ⟨σ7,H7,I7,n7⟩:=q7; exact again I7 n7
    | cont=>obtain ⟨σ7,H7,I7,n7⟩:=q7; exact again I7 n7
    | brk=>obtain ⟨σ7,H7,I7,q7⟩:=q7; exact ⟨σ7,H7,I7.unpinned,q7⟩
    | ret v=>obtain ⟨x7,σ7,H7,I7,r7,q7⟩:=q7; exact ⟨x7,σ7,H7,I7.unpinned,r7,q7⟩
end
theorem a3J {K:W.Frag} {a:Addr} {xs:List V} {g:TG} {tb:TS} {D:Ends} {σ:St} {H:Hp} (Pv:Nat->St->Hp->Prop) (h0:Pv 0 σ H) (hl:∀ i σ H,i <= xs.length->Pv i σ H->SqL K H a xs)
    (hs:∀ i x σ H,xs[i]? = some x->Pv i σ H->g x σ H fun σ2 H2=>tb { D with nx:=Pv (i + 1),ct:=Pv (i + 1),bk:=D.nx } σ2 H2) (hd:∀ σ H,Pv xs.length σ H->D.nx σ H) :
    ∃ W:Nat->Nat->St->Hp->Prop,(∃ m,W 0 m σ H)/\∀ i m σ H,W i m σ H →
      ((Itl K a).stop i H/\D.nx σ H) \/ ((Itl K a).go i H/\∃ N:St->Hp->Prop,(∀ σ' H',N σ' H'->∃ m',m' < m/\W (i + 1) m' σ' H')/\∀ x H',(Itl K a).yld i H x H'->g x σ H' fun σ2 H2=>tb { D with nx:=N,ct:=N,bk:=D.nx } σ2 H2):=by
  refine ⟨fun i m σ H=>m = xs.length - i/\i <= xs.length/\Pv i σ H,⟨xs.length,by simp,Nat.zero_le _,h0⟩,?_⟩
  rintro i m σ H ⟨rfl,hi,p⟩
  have q:=hl i σ H hi p
  by_cases hlt:i < xs.length
  . refine .inr ⟨⟨xs,xs[i],q,by simp [hlt]⟩,Pv (i + 1),fun σ' H' p'=>⟨xs.length - (i + 1),by omega,rfl,hlt,p'⟩,fun x H' y=>?_⟩
    obtain ⟨e,y⟩:=y
    subst e
    exact hs i x σ _ (y xs q) p
  . have e:i = xs.length:=by omega
    subst e
    exact .inl ⟨⟨xs,q,Nat.le_refl _⟩,hd σ H p⟩
theorem a2b {lo:Int} {n:Nat} {g:TG} {tb:TS} {D:Ends} {σ:St} {H:Hp} (Pv:Nat->St->Hp->Prop) (h0:Pv 0 σ H)
    (hs:∀ i σ H,i < n->Pv i σ H->g (.int (lo + i)) σ H fun σ2 H2=>tb { D with nx:=Pv (i + 1),ct:=Pv (i + 1),bk:=D.nx } σ2 H2) (hd:∀ σ H,Pv n σ H->D.nx σ H) :
    ∃ W:Nat->Nat->St->Hp->Prop,(∃ m,W 0 m σ H)/\∀ i m σ H,W i m σ H →
      ((Itr lo n).stop i H/\D.nx σ H) \/ ((Itr lo n).go i H/\∃ N:St->Hp->Prop,(∀ σ' H',N σ' H'->∃ m',m' < m/\W (i + 1) m' σ' H')/\∀ x H',(Itr lo n).yld i H x H'->g x σ H' fun σ2 H2=>tb { D with nx:=N,ct:=N,bk:=D.nx } σ2 H2):=by
  refine ⟨fun i m σ H=>m = n - i/\i <= n/\Pv i σ H,⟨n,by simp,Nat.zero_le _,h0⟩,?_⟩
  rintro i m σ H ⟨rfl,hi,p⟩
  by_cases hlt:i < n
  . refine .inr ⟨hlt,Pv (i + 1),fun σ' H' p'=>⟨n - (i + 1),by omega,rfl,hlt,p'⟩,fun x H' y=>?_⟩
    obtain ⟨e,y⟩:=y
    subst e y
    exact hs i σ _ hlt p
  . have e:i = n:=by omega
    subst e
    exact .inl ⟨Nat.le_refl _,hd σ H p⟩
theorem a6X {c:TT} {tb:TS} {D:Ends} {σ:St} {H:Hp} (Pv:St->Hp->Prop) (μ:St->Hp->Nat) (h0:Pv σ H)
    (hs:∀ σ H,Pv σ H->c σ H fun b H1=>if b = true then tb { D with nx:=fun σ' H'=>Pv σ' H'/\μ σ' H' < μ σ H,ct:=fun σ' H'=>Pv σ' H'/\μ σ' H' < μ σ H,bk:=D.nx } σ H1 else D.nx σ H1)
    (mono:∀ σ H Q Q',(∀ b H1,Q b H1->Q' b H1)->c σ H Q->c σ H Q'):a7W c tb D σ H:=by
  refine ⟨fun m σ H=>m = μ σ H/\Pv σ H,⟨_,rfl,h0⟩,?_⟩
  rintro m σ H ⟨rfl,p⟩
  refine mono σ H _ _ (fun b H1 q=>?_) (hs σ H p)
  cases b with
  | true=>exact ⟨_,fun σ' H' ⟨p',l⟩=>⟨_,l,rfl,p'⟩,q⟩
  | false=>exact q
end L2
namespace L2
open PySem PySem.Spec PyProof.Rows
abbrev R2:=V->V->Hp->VK->Prop
def V4 (X:Cx) (f:Value->Value->Sem Value) (r:R2):Prop :=
  ∀ (pins:List (Addr × Obj)) (s:Shared) (σ:St) (H:Hp) (x y:V) (v u:Value) (Q:VK),Inv X pins σ H s->RelV x v->RelV y u->r x y H Q →
    wpAny (model X.prog X.w) X.A (f v u) (EP X pins σ Q) X.xe s
def UnR (X:Cx) (f:Value->Sem Value) (r:V->Hp->VK->Prop):Prop :=
  ∀ (pins:List (Addr × Obj)) (s:Shared) (σ:St) (H:Hp) (x:V) (v:Value) (Q:VK),Inv X pins σ H s->RelV x v->r x H Q →
    wpAny (model X.prog X.w) X.A (f v) (EP X pins σ Q) X.xe s
def G4 (X:Cx) (f:Value) (r:List V->Hp->VK->Prop):Prop :=
  ∀ (pins:List (Addr × Obj)) (s:Shared) (σ:St) (H:Hp) (xs:List V) (us:List Value) (Q:VK),Inv X pins σ H s->Vals xs us->r xs H Q →
    wpAny (model X.prog X.w) X.A (call f us) (EP X pins σ Q) X.xe s
def b3a (X:Cx) (r:V->Hp->(Bool->Hp->Prop)->Prop):Prop :=
  ∀ (pins:List (Addr × Obj)) (s:Shared) (σ:St) (H:Hp) (x:V) (v:Value) (Q:Bool->Hp->Prop),Inv X pins σ H s->RelV x v->r x H Q →
    wpAny (model X.prog X.w) X.A (truthy v) (TP X pins σ Q) X.xe s
def tOp (r:R2) (ta tb:TE):TE:=fun σ H Q=>ta σ H fun x H1=>tb σ H1 fun y H2=>r x y H2 Q
def tUn (r:V->Hp->VK->Prop) (ta:TE):TE:=fun σ H Q=>ta σ H fun x H1=>r x H1 Q
def rI (C:Int->Int->Prop) (g:Int->Int->V):R2:=fun x y H Q=>∃ i j,x = .int i/\y = .int j/\C i j/\Q (g i j) H
def rI0 (g:Int->Int->V):R2:=fun x y H Q=>∃ i j,x = .int i/\y = .int j/\Q (g i j) H
def rU (g:Int->V):V->Hp->VK->Prop:=fun x H Q=>∃ i,x = .int i/\Q (g i) H
section
variable {X:Cx} {a b c:Expr} {ta tb tc:TE} {pos:Pos}
theorem b1m (ha:PE X a ta) (hb:PE X b tb) {pins:List (Addr × Obj)} {s:Shared} {σ:St} {H:Hp} {R:V->V->Hp->Prop} (I:Inv X pins σ H s)
    (h:ta σ H fun x H1=>tb σ H1 fun y H2=>R x y H2) {Q:Value->Shared->Prop} {f:Value->Value->Sem Value}
    (hf:∀ v u s2 x y H2,Inv X pins σ H2 s2->RelV x v->RelV y u->R x y H2->wpAny (model X.prog X.w) X.A (f v u) Q X.xe s2) :
    wpAny (model X.prog X.w) X.A (eval a X.env) (fun v s₁=>wpAny (model X.prog X.w) X.A (eval b X.env) (fun u s₂=>wpAny (model X.prog X.w) X.A (f v u) Q X.xe s₂) X.xe s₁) X.xe s:=by
  refine v8 (ha pins s σ H _ I h) fun v s1 ⟨x,H1,I1,r1,q1⟩=>?_
  refine v8 (hb pins s1 σ H1 _ I1 q1) fun u s2 ⟨y,H2,I2,r2,q2⟩=>?_
  exact hf v u s2 x y H2 I2 r1 r2 q2
theorem i9 {op:Operator} {r:R2} (ho:V4 X (binaryOp op) r) (ha:PE X a ta) (hb:PE X b tb):PE X (.BinOp a op b pos) (tOp r ta tb):=by
  intro pins s σ H Q I h
  exact wpAny_BinOp (b1m ha hb I h fun v u s2 x y H2 I2 rx ry q=>ho pins s2 σ H2 x y v u Q I2 rx ry q)
theorem L8 {op:UnaryOp} {r:V->Hp->VK->Prop} (ho:UnR X (unaryOp op) r) (ha:PE X a ta):PE X (.UnaryOp op a pos) (tUn r ta):=by
  intro pins s σ H Q I h
  exact UnaryOp_ (v8 (ha pins s σ H _ I h) fun v s1 ⟨x,H1,I1,r1,q1⟩=>ho pins s1 σ H1 x v Q I1 r1 q1)
theorem opI {f:Value->Value->Sem Value} {C:Int->Int->Prop} {g:Int->Int->Int}
    (rule:∀ (i j:Int) (t u:Tok) (s:Shared) (Q:Value->Shared->Prop) (E:Value->Shared->Prop),C i j->Q (.int (g i j) s.toks) { s with toks:=s.toks + 1 }->wpAny (model X.prog X.w) X.A (f (.int i t) (.int j u)) Q E s) :
    V4 X f (rI C fun i j=>.int (g i j)):=by
  intro pins s σ H x y v u Q I rx ry h
  obtain ⟨i,j,rfl,rfl,hc,q⟩:=h
  obtain ⟨t,rfl⟩:=rx
  obtain ⟨t',rfl⟩:=ry
  exact rule i j t t' s _ _ hc ⟨.int (g i j),H,I.tok _,⟨_,rfl⟩,q⟩
theorem b1N {f:Value->Value->Sem Value} {g:Int->Int->Int}
    (rule:∀ (i j:Int) (t u:Tok) (s:Shared) (Q:Value->Shared->Prop) (E:Value->Shared->Prop),Q (.int (g i j) s.toks) { s with toks:=s.toks + 1 }->wpAny (model X.prog X.w) X.A (f (.int i t) (.int j u)) Q E s) :
    V4 X f (rI0 fun i j=>.int (g i j)):=by
  intro pins s σ H x y v u Q I rx ry h
  obtain ⟨i,j,rfl,rfl,q⟩:=h
  obtain ⟨t,rfl⟩:=rx
  obtain ⟨t',rfl⟩:=ry
  exact rule i j t t' s _ _ ⟨.int (g i j),H,I.tok _,⟨_,rfl⟩,q⟩
theorem a8G {f:Value->Value->Sem Value} {g:Int->Int->Bool}
    (rule:∀ (i j:Int) (t u:Tok) (s:Shared) (Q:Value->Shared->Prop) (E:Value->Shared->Prop),Q (.bool (g i j)) s->wpAny (model X.prog X.w) X.A (f (.int i t) (.int j u)) Q E s) :
    V4 X f (rI0 fun i j=>.bl (g i j)):=by
  intro pins s σ H x y v u Q I rx ry h
  obtain ⟨i,j,rfl,rfl,q⟩:=h
  obtain ⟨t,rfl⟩:=rx
  obtain ⟨t',rfl⟩:=ry
  exact rule i j t t' s _ _ ⟨.bl (g i j),H,I,rfl,q⟩
def b2Y (i j:Int):Prop:=0 < j/\j < 1073741824
def b3J (i j:Int):Prop:=0 <= j/\j <= 1000000/\i.natAbs < 2 ^ 64
def CMul (i j:Int):Prop:=(-(2 ^ 64) < i/\i < 2 ^ 64) \/ (-(2 ^ 64) < j/\j < 2 ^ 64)
theorem CMul.ok {i j:Int} (h:CMul i j):IntMulOk i j:=by
  rcases h with ⟨h1,h2⟩ | ⟨h1,h2⟩
  . exact .of_left (intBits_le_64 h1 h2)
  . exact .of_right (intBits_le_64 h1 h2)
theorem A5:V4 X (binaryOp .Add) (rI0 fun i j=>.int (i + j)):=b1N fun _ _ _ _ _ _ _ q=>add_int q
theorem Z9:V4 X (binaryOp .Sub) (rI0 fun i j=>.int (i - j)):=b1N fun _ _ _ _ _ _ _ q=>sub_int q
theorem a4s:V4 X (binaryOp .Mult) (rI CMul fun i j=>.int (i * j)):=opI fun _ _ _ _ _ _ _ hc q=>mul_int q hc.ok
theorem a5D:V4 X (binaryOp .FloorDiv) (rI b2Y fun i j=>.int (i / j)):=opI fun i j _ _ _ _ _ hc q=>by
  have h1:(0:Int) < j:=hc.1
  have h2:j < 1073741824:=hc.2
  exact floordiv_int (by omega) (by rw [Int.fdiv_eq_ediv_of_nonneg i (by omega)]; exact q) (.inl (PyProof.noPylong_small (by omega)))
theorem A0:V4 X (binaryOp .Mod) (rI (fun _ j=>0 < j) fun i j=>.int (i % j)):=opI fun i j _ _ _ _ _ hc q=>by
  have h1:(0:Int) < j:=hc
  exact mod_int' (by omega) (by rw [Int.fmod_eq_emod_of_nonneg i (by omega)]; exact q)
theorem b0K:V4 X (binaryOp .Pow) (rI b3J fun i j=>.int (i ^ j.toNat)):=opI fun _ _ _ _ _ _ _ hc q=>pow_int_small hc.1 hc.2.1 hc.2.2 q
theorem unI {f:Value->Sem Value} {g:Int->Int}
    (rule:∀ (i:Int) (t:Tok) (s:Shared) (Q:Value->Shared->Prop) (E:Value->Shared->Prop),Q (.int (g i) s.toks) { s with toks:=s.toks + 1 }->wpAny (model X.prog X.w) X.A (f (.int i t)) Q E s) :
    UnR X f (rU fun i=>.int (g i)):=by
  intro pins s σ H x v Q I rx h
  obtain ⟨i,rfl,q⟩:=h
  obtain ⟨t,rfl⟩:=rx
  exact rule i t s _ _ ⟨.int (g i),H,I.tok _,⟨_,rfl⟩,q⟩
theorem E1:UnR X (unaryOp .USub) (rU fun i=>.int (-i)):=unI fun _ _ _ _ _ q=>neg_int q
end
def b1H:V->V->Bool
  | .non,.non=>true | .non,.int _=>true | .int _,.non=>true | .non,.bl _=>true | .bl _,.non=>true | .non,.str _=>true | .str _,.non=>true
  | .int _,.int _=>true | .bl _,.bl _=>true | .str _,.str _=>true | .byt _,.byt _=>true
  | .int _,.str _=>true | .str _,.int _=>true | .bl _,.str _=>true | .str _,.bl _=>true
  | _,_=>false
def rEq:R2:=fun x y H Q=>b1H x y = true/\Q (.bl (decide (x = y))) H
def rNe:R2:=fun x y H Q=>b1H x y = true/\Q (.bl (!decide (x = y))) H
theorem a5i {i j:Int}:decide (V.int i = V.int j) = (i == j):=by
  rw [Bool.eq_iff_iff]
  simp
theorem a6A {i j:Bool}:decide (V.bl i = V.bl j) = (i == j):=by
  rw [Bool.eq_iff_iff]
  simp
theorem a5q {i j:Str}:decide (V.str i = V.str j) = (i == j):=by
  rw [Bool.eq_iff_iff]
  simp
theorem a5w {i j:Array UInt8}:decide (V.byt i = V.byt j) = (i.toList == j.toList):=by
  rw [Bool.eq_iff_iff]
  cases i
  cases j
  simp
section
variable {X:Cx} {a b c:Expr} {ta tb tc:TE} {pos:Pos}
theorem t7 {pins:List (Addr × Obj)} {σ:St} {H:Hp} {s:Shared} {Q:VK} {k k':Bool} (I:Inv X pins σ H s) (q:Q (.bl k) H) (e:k = k'):EP X pins σ Q (.bool k') s:=by
  subst e
  exact ⟨.bl k,H,I,rfl,q⟩
theorem X0:V4 X (compareOp .Eq) rEq:=by
  intro pins s σ H x y v u Q I rx ry h
  obtain ⟨hs,q⟩:=h
  cases x with
  | non =>
    cases rx
    cases y with
    | non=>cases ry; exact PySem.EqNone.eq_none_none (t7 I q (by simp))
    | bl j=>cases ry; exact PySem.EqNone.eq_none_bool (t7 I q (by simp))
    | int j=>obtain ⟨t',rfl⟩:=ry; exact PySem.EqNone.eq_none_int (t7 I q (by simp))
    | str j=>obtain ⟨t',rfl⟩:=ry; exact PySem.EqNone.eq_none_str (t7 I q (by simp))
    | _=>exact absurd (show false = true from hs) Bool.false_ne_true
  | bl i =>
    cases rx
    cases y with
    | non=>cases ry; exact PySem.EqNone.eq_bool_none (t7 I q (by simp))
    | bl j=>cases ry; exact eq_bool (t7 I q a6A)
    | str j=>obtain ⟨t',rfl⟩:=ry; exact PySem.EqMixed.eq_bool_str (t7 I q (by simp))
    | _=>exact absurd (show false = true from hs) Bool.false_ne_true
  | int i =>
    obtain ⟨t,rfl⟩:=rx
    cases y with
    | non=>cases ry; exact PySem.EqNone.eq_int_none (t7 I q (by simp))
    | int j=>obtain ⟨t',rfl⟩:=ry; exact eq_int (t7 I q a5i)
    | str j=>obtain ⟨t',rfl⟩:=ry; exact PySem.EqMixed.eq_int_str (t7 I q (by simp))
    | _=>exact absurd (show false = true from hs) Bool.false_ne_true
  | str i =>
    obtain ⟨t,rfl⟩:=rx
    cases y with
    | non=>cases ry; exact PySem.EqNone.eq_str_none (t7 I q (by simp))
    | bl j=>cases ry; exact PySem.EqMixed.eq_str_bool (t7 I q (by simp))
    | int j=>obtain ⟨t',rfl⟩:=ry; exact PySem.EqMixed.eq_str_int (t7 I q (by simp))
    | str j=>obtain ⟨t',rfl⟩:=ry; exact eq_str (t7 I q a5q)
    | _=>exact absurd (show false = true from hs) Bool.false_ne_true
  | byt i =>
    obtain ⟨t,rfl⟩:=rx
    cases y with
    | byt j=>obtain ⟨t',rfl⟩:=ry; exact W.eq_bytes (t7 I q a5w)
    | _=>exact absurd (show false = true from hs) Bool.false_ne_true
  | _=>cases y <;> exact absurd (show false = true from hs) Bool.false_ne_true
theorem a7D:V4 X (compareOp .NotEq) rNe:=by
  intro pins s σ H x y v u Q I rx ry h
  obtain ⟨hs,q⟩:=h
  cases x with
  | non =>
    cases rx
    cases y with
    | non=>cases ry; exact PySem.EqNone.ne_none_none (t7 I q (by simp))
    | bl j=>cases ry; exact PySem.EqNone.ne_none_bool (t7 I q (by simp))
    | int j=>obtain ⟨t',rfl⟩:=ry; exact PySem.EqNone.ne_none_int (t7 I q (by simp))
    | str j=>obtain ⟨t',rfl⟩:=ry; exact PySem.EqNone.ne_none_str (t7 I q (by simp))
    | _=>exact absurd (show false = true from hs) Bool.false_ne_true
  | bl i =>
    cases rx
    cases y with
    | non=>cases ry; exact PySem.EqNone.ne_bool_none (t7 I q (by simp))
    | bl j=>cases ry; exact ne_bool (t7 I q (congrArg not a6A))
    | str j=>obtain ⟨t',rfl⟩:=ry; exact PySem.EqMixed.ne_bool_str (t7 I q (by simp))
    | _=>exact absurd (show false = true from hs) Bool.false_ne_true
  | int i =>
    obtain ⟨t,rfl⟩:=rx
    cases y with
    | non=>cases ry; exact PySem.EqNone.ne_int_none (t7 I q (by simp))
    | int j=>obtain ⟨t',rfl⟩:=ry; exact ne_int (t7 I q (congrArg not a5i))
    | str j=>obtain ⟨t',rfl⟩:=ry; exact PySem.EqMixed.ne_int_str (t7 I q (by simp))
    | _=>exact absurd (show false = true from hs) Bool.false_ne_true
  | str i =>
    obtain ⟨t,rfl⟩:=rx
    cases y with
    | non=>cases ry; exact PySem.EqNone.ne_str_none (t7 I q (by simp))
    | bl j=>cases ry; exact PySem.EqMixed.ne_str_bool (t7 I q (by simp))
    | int j=>obtain ⟨t',rfl⟩:=ry; exact PySem.EqMixed.ne_str_int (t7 I q (by simp))
    | str j=>obtain ⟨t',rfl⟩:=ry; exact ne_str (t7 I q (congrArg not a5q))
    | _=>exact absurd (show false = true from hs) Bool.false_ne_true
  | byt i =>
    obtain ⟨t,rfl⟩:=rx
    cases y with
    | byt j=>obtain ⟨t',rfl⟩:=ry; exact W.ne_bytes (t7 I q (congrArg not a5w))
    | _=>exact absurd (show false = true from hs) Bool.false_ne_true
  | _=>cases y <;> exact absurd (show false = true from hs) Bool.false_ne_true
theorem a1h:V4 X (compareOp .Lt) (rI0 fun i j=>.bl (decide (i < j))):=a8G fun _ _ _ _ _ _ _ q=>lt_int q
theorem a6I:V4 X (compareOp .LtE) (rI0 fun i j=>.bl (decide (i <= j))):=a8G fun _ _ _ _ _ _ _ q=>le_int q
theorem T6:V4 X (compareOp .Gt) (rI0 fun i j=>.bl (decide (j < i))):=a8G fun _ _ _ _ _ _ _ q=>gt_int q
theorem a6B:V4 X (compareOp .GtE) (rI0 fun i j=>.bl (decide (j <= i))):=a8G fun _ _ _ _ _ _ _ q=>ge_int q
theorem a4m:V4 X (compareOp .Is) (fun x y H Q=>y = .non/\Q (.bl (decide (x = .non))) H):=by
  intro pins s σ H x y v u Q I rx ry h
  obtain ⟨rfl,q⟩:=h
  cases ry
  refine is_none_gen (t7 I q ?_)
  cases x <;> first
    | (cases rx; rfl)
    | (obtain ⟨t,rfl⟩:=rx; rfl)
theorem a8S:V4 X (compareOp .IsNot) (fun x y H Q=>y = .non/\Q (.bl (!decide (x = .non))) H):=by
  intro pins s σ H x y v u Q I rx ry h
  obtain ⟨rfl,q⟩:=h
  cases ry
  refine isnot_none_gen (t7 I q ?_)
  cases x <;> first
    | (cases rx; rfl)
    | (obtain ⟨t,rfl⟩:=rx; rfl)
theorem o6 (b:Expr) {op:CmpOp} (h:op ≠ .In:=by decide) (h2:op ≠ .NotIn:=by decide):behindInMarks op b = false:=by
  have e1:(op == CmpOp.In) = false:=by cases op <;> first | rfl | exact absurd rfl h
  have e2:(op == CmpOp.NotIn) = false:=by cases op <;> first | rfl | exact absurd rfl h2
  cases b <;> simp [behindInMarks,e1,e2]
theorem P0 {op:CmpOp} {r:R2} (ho:V4 X (compareOp op) r) (ha:PE X a ta) (hb:PE X b tb) (hm:behindInMarks op b = false):PE X (.Compare a [op] [b] pos) (tOp r ta tb):=by
  intro pins s σ H Q I h
  exact wpAny_Compare1 (b1m ha hb I h fun v u s2 x y H2 I2 rx ry q=>ho pins s2 σ H2 x y v u Q I2 rx ry q) hm
def a9G (t:TE):TT:=fun σ H Q=>t σ H fun x H'=>∃ k,x = .bl k/\Q k H'
theorem o4 {op:CmpOp} {r:R2} (ho:V4 X (compareOp op) r) (ha:PE X a ta) (hb:PE X b tb) (hm:behindInMarks op b = false):PT X (.Compare a [op] [b] pos) (a9G (tOp r ta tb)):=by
  intro pins s σ H Q I h
  refine wpAny_isTrue_Compare1 (v8 (ha pins s σ H _ I h) fun v s1 ⟨x,H1,I1,r1,q1⟩=>v8 (hb pins s1 σ H1 _ I1 q1) fun u s2 ⟨y,H2,I2,r2,q2⟩ =>
    v8 (ho pins s2 σ H2 x y v u _ I2 r1 r2 q2) fun c s3 ⟨z,H3,I3,r3,k,e,q3⟩=>?_) hm
  subst e
  cases r3
  exact wpAny_truthy_bool ⟨H3,I3,q3⟩
def a6L (r r':R2) (ta tb tc:TE):TE:=fun σ H Q=>ta σ H fun x H1=>tb σ H1 fun y H2=>r x y H2 fun z H3=>∃ k,z = .bl k ∧
  (if k = true then tc σ H3 fun w' H4=>r' y w' H4 Q else Q (.bl false) H3)
theorem a8p {op op':CmpOp} {r r':R2} (ho:V4 X (compareOp op) r) (ho':V4 X (compareOp op') r') (ha:PE X a ta) (hb:PE X b tb) (hc:PE X c tc)
    (hm:lastMarks [op,op'] [b,c] = false:=by with_unfolding_all rfl):PE X (.Compare a [op,op'] [b,c] pos) (a6L r r' ta tb tc):=by
  intro pins s σ H Q I h
  refine Compare_chain (v8 (ha pins s σ H _ I h) fun v s1 ⟨x,H1,I1,r1,q1⟩=>chain_link (v8 (hb pins s1 σ H1 _ I1 q1) fun u s2 ⟨y,H2,I2,r2,q2⟩ =>
    v8 (ho pins s2 σ H2 x y v u _ I2 r1 r2 q2) fun d s3 ⟨z,H3,I3,r3,k,e,q3⟩=>?_)) hm
  subst e
  cases r3
  refine wpAny_truthy_bool ?_
  cases k with
  | false=>exact ite_ff ⟨.bl false,H3,I3,rfl,q3⟩
  | true=>exact ite_tt (chain_last (v8 (hc pins s3 σ H3 _ I3 q3) fun w' s4 ⟨z',H4,I4,r4,q4⟩=>ho' pins s4 σ H4 y z' u w' Q I4 r2 r4 q4))
theorem a6F {op op':CmpOp} {r r':R2} (ho:V4 X (compareOp op) r) (ho':V4 X (compareOp op') r') (ha:PE X a ta) (hb:PE X b tb) (hc:PE X c tc)
    (hm:lastMarks [op,op'] [b,c] = false:=by with_unfolding_all rfl):PT X (.Compare a [op,op'] [b,c] pos) (a9G (a6L r r' ta tb tc)):=by
  intro pins s σ H Q I h
  refine isTrue_chain (v8 (ha pins s σ H _ I h) fun v s1 ⟨x,H1,I1,r1,q1⟩=>test_link (v8 (hb pins s1 σ H1 _ I1 q1) fun u s2 ⟨y,H2,I2,r2,q2⟩ =>
    v8 (ho pins s2 σ H2 x y v u _ I2 r1 r2 q2) fun d s3 ⟨z,H3,I3,r3,k,e,q3⟩=>?_)) hm
  subst e
  cases r3
  refine wpAny_truthy_bool ?_
  cases k with
  | false =>
    obtain ⟨k',e',q'⟩:=q3
    cases e'
    exact ite_ff ⟨H3,I3,q'⟩
  | true =>
    refine ite_tt (test_last (v8 (hc pins s3 σ H3 _ I3 q3) fun w' s4 ⟨z',H4,I4,r4,q4⟩=>v8 (ho' pins s4 σ H4 y z' u w' _ I4 r2 r4 q4) fun d' s5 ⟨z2,H5,I5,r5,k2,e2,q5⟩=>?_))
    subst e2
    cases r5
    exact wpAny_truthy_bool ⟨H5,I5,q5⟩
def b1W (K:W.Frag) (x:V) (H:Hp) (k:Bool):Prop :=
  match x with
  | .non=>k = false
  | .bl b=>k = b
  | .int i=>k = (i != 0)
  | .str y=>y.length <= sizeLine/\k = ((y.length:Int) != 0)
  | .byt y=>y.size <= sizeLine/\k = ((y.size:Int) != 0)
  | .ref p=>(∃ xs,SqL K H p xs/\k = !xs.isEmpty) \/ (∃ xs,SqT K H p xs/\k = !xs.isEmpty) \/ ∃ kvs,H p = some (.dK kvs)/\k = !kvs.isEmpty
  | _=>False
theorem a3U {κ:Type} {kvs:List (κ × V)} {vs:List (κ × Value)} (r:KV kvs vs):(!vs.isEmpty) = !kvs.isEmpty:=by
  cases r <;> rfl
theorem a1m {xs:List V} {its:List Value} (r:Vals xs its):(!its.toArray.isEmpty) = !xs.isEmpty:=by
  cases r <;> simp
theorem a0O:(sizeLine:Nat) < 2 ^ 63:=by rw [sizeLine_eq]; decide
theorem b0g:b3a X (fun x H Q=>∃ k,b1W X.K x H k/\Q k H):=by
  intro pins s σ H x v Q I rx h
  obtain ⟨k,e,q⟩:=h
  have hl:=a0O
  have hs:sizeLine = 16777216:=sizeLine_eq
  cases x with
  | non =>
    cases rx
    have e':k = false:=e
    subst e'
    exact truthy_none ⟨H,I,q⟩
  | bl b =>
    cases rx
    have e':k = b:=e
    subst e'
    exact wpAny_truthy_bool ⟨H,I,q⟩
  | int i =>
    obtain ⟨t,rfl⟩:=rx
    have e':k = (i != 0):=e
    subst e'
    exact PySem.P.truthy_int ⟨H,I,q⟩
  | str y =>
    obtain ⟨t,rfl⟩:=rx
    obtain ⟨hy,e'⟩:y.length <= sizeLine/\k = ((y.length:Int) != 0):=e
    subst e'
    exact PySem.P.truthy_str (by omega) ⟨H,I.tok _,q⟩
  | byt y =>
    obtain ⟨t,rfl⟩:=rx
    obtain ⟨hy,e'⟩:y.size <= sizeLine/\k = ((y.size:Int) != 0):=e
    subst e'
    exact W.truthy_bytes (by omega) ⟨H,I.tok _,q⟩
  | ref p =>
    cases rx
    have e':(∃ xs,SqL X.K H p xs/\k = !xs.isEmpty) \/ (∃ xs,SqT X.K H p xs/\k = !xs.isEmpty) \/ ∃ kvs,H p = some (.dK kvs)/\k = !kvs.isEmpty:=e
    rcases e' with ⟨xs,hx,e'⟩ | ⟨xs,hx,e'⟩ | ⟨kvs,hx,e'⟩
    . subst e'
      obtain ⟨its,r,pl,hz⟩:=I.list hx
      have hlen:=r.length
      exact wpAny_truthy_list pl.isList (by simp only [List.size_toArray]; omega) ⟨H,I.tok _,by rw [a1m r]; exact q⟩
    . subst e'
      obtain ⟨its,r,pl,hz⟩:=I.tuple hx
      have hlen:=r.length
      exact truthy_tuple pl (by simp only [List.size_toArray]; omega) ⟨H,I.tok _,by rw [a1m r]; exact q⟩
    . subst e'
      obtain ⟨hz,hS,vs,r,m⟩:kvs.length <= sizeLine/\(p == sysModules) = false/\∃ vs,KV kvs vs/\s.heap.DictOf (a2I X.prog X.w) p vs:=I.hok p _ hx
      have hlen:kvs.length = vs.length:=Paired.length r
      exact wpAny_truthy_dict hS m (by omega) ⟨H,I.tok _,by rw [a3U r]; exact q⟩
  | _=>exact (show False from e).elim
theorem a6S (ha:PE X a ta) (he:∀ whole,isTrue a X.env whole = (do let v <- whole; standAt a.pos; holding [v] (truthy v))) :
    PT X a (fun σ H Q=>ta σ H fun x H'=>∃ k,b1W X.K x H' k/\Q k H'):=by
  intro pins s σ H Q I h
  exact isTrue_plain (v8 (ha pins s σ H _ I h) fun v s1 ⟨x,H1,I1,r1,q1⟩=>b0g pins s1 σ H1 x v Q I1 r1 q1) (he _)
theorem N4 {x:V} {us:List Value} (r:Vals [x] us):∃ u,us = [u]/\RelV x u:=by
  cases r with
  | cons r1 r2=>cases r2; exact ⟨_,rfl,r1⟩
theorem a3G {x y:V} {us:List Value} (r:Vals [x,y] us):∃ u w',us = [u,w']/\RelV x u/\RelV y w':=by
  cases r with
  | cons r1 r2 =>
    cases r2 with
    | cons r3 r4=>cases r4; exact ⟨_,_,rfl,r1,r3⟩
theorem a6W:G4 X (.builtin "abs") (fun xs H Q=>∃ i,xs = [.int i]/\Q (.int (if i < 0 then -i else i)) H):=by
  intro pins s σ H xs us Q I r h
  obtain ⟨i,rfl,q⟩:=h
  obtain ⟨u,rfl,t,rfl⟩:=N4 r
  exact call_abs_int fun u tk=>⟨.int (if i < 0 then -i else i),H,I.tok _,⟨_,rfl⟩,q⟩
theorem a2h:G4 X (.type "int") (fun xs H Q=>(∃ i,xs = [.int i]/\Q (.int i) H) \/ ∃ k,xs = [.bl k]/\Q (.int (if k then 1 else 0)) H):=by
  intro pins s σ H xs us Q I r h
  rcases h with ⟨i,rfl,q⟩ | ⟨k,rfl,q⟩
  . obtain ⟨u,rfl,t,rfl⟩:=N4 r
    exact call_int_int ⟨.int i,H,I,⟨_,rfl⟩,q⟩
  . obtain ⟨u,rfl,r1⟩:=N4 r
    cases r1
    exact call_int_bool ⟨.int (if k then 1 else 0),H,I.tok _,⟨_,rfl⟩,q⟩
end
end L2
namespace L2
open PySem PySem.Spec PyProof.Rows
structure ObjM (h:Heap) (x dx C:Addr) (mA:Str->Option Value):Prop where
  obj:h.get? x = some (W.instObj C dx)
  ns:h.Ns1 dx mA
  ne:dx ≠ x
theorem a5Q {h:Heap} {dx:Addr} {mA:Str->Option Value} (n:h.Ns1 dx mA):∃ od,h.get? dx = some od/\∀ name,W.lookIn name od = some (mA name):=by
  obtain ⟨o,es,ep,ho,hd,hk,_,hm⟩:=n
  refine ⟨o,ho,fun name=>?_⟩
  have e:=hm name
  unfold nsFind findBy at e
  rw [<- Array.find?_toList] at e
  unfold W.lookIn
  rw [hd]
  dsimp only
  split
  . rename_i y q
    rw [q] at e
    exact congrArg some e
  . rename_i q
    rw [q] at e
    have a:es.toList.any (·.refKey) = false:=by
      rw [List.any_eq_false]
      intro y hy
      obtain ⟨z,t,hkey⟩:=hk y (Array.mem_toList_iff.mp hy)
      simp [DictEntry.refKey,hkey]
    have a':¬ es.toList.any (·.refKey) = true:=by rw [a]; exact Bool.false_ne_true
    rw [if_neg a']
    exact congrArg some e
theorem ObjM.look {h:Heap} {x dx C:Addr} {mA:Str->Option Value} (I:ObjM h x dx C mA):∃ od,W.InstAt h x (W.instObj C dx) C (some od)/\∀ name,W.lookIn name od = some (mA name) :=
  let ⟨od,ho,hl⟩:=a5Q I.ns
  ⟨od,⟨I.obj,rfl,rfl,ho⟩,hl⟩
section
variable {prog:Program} {w:World} {A:Around} {E:Value->Shared->Prop} {s:Shared} {K:W.Frag} {x dx C f:Addr} {mA:Str->Option Value} {name:Str} {v:Value}
theorem a9y {expr:Bool} {Q:Value->Shared->Prop} (X:K.In s.heap) (I:ObjM s.heap x dx C mA) (hg:W.plainGet K C name = true) (hh:W.hasDictIn K C = true)
    (ha:W.findIn K (.ref C) name = some none) (hv:mA name = some v) (hv':W.handedIn v = true) (h:Q v { s with toks:=s.toks + 1 }) :
    wpAny (model prog w) A (getAttr (.ref x) name expr) Q E s:=by
  obtain ⟨od,J,hl⟩:=I.look
  exact W.get_value X J (W.plainGet_of hg).1 (W.findObj_own hh ha rfl (by rw [hl,hv])) hv' h
theorem a7u {pl:Sem Bool} {Q:Value × List Value->Shared->Prop} (X:K.In s.heap) (I:ObjM s.heap x dx C mA) (hg:W.plainGet K C name = true)
    (hf:W.findIn K (.ref C) name = some (some (.ref f))) (ht:W.isFn K (.ref f) = true) (hv:mA name = none) (h:Q (.ref f,[.ref x]) s) :
    wpAny (model prog w) A (getMethod (.ref x) name pl) Q E s:=by
  obtain ⟨od,J,hl⟩:=I.look
  exact W.method_fn X J (W.plainGet_of hg).1 (W.plainGet_of hg).2 hf (beq_iff_eq.mp ht) (by show (W.lookIn name od).map (·.isSome) = some false; rw [hl,hv]; rfl) h
theorem a9p {ns:List Str} {Q:Unit->Shared->Prop} (X:K.In s.heap) (I:ObjM s.heap x dx C mA)
    (hs:W.findIn K (.ref C) "__setattr__" = some (some (.builtin "object.__setattr__"))) (hp:W.plainOver K C = true) (ht:W.takerIn K C name = some none) (hh:W.hasDictIn K C = true)
    (hw:PySem.Within mA ns) (hsz:ns.length <= sizeLine)
    (h:∀ h',ObjM h' x dx C (fun y=>if y = name then some v else mA y)->Heap.SameBut dx s.heap h'->Q () { s with heap:=h',toks:=s.toks + 2 }) :
    wpAny (model prog w) A (setAttr (.ref x) name v) Q E s:=by
  obtain ⟨od,J,hl⟩:=I.look
  refine W.set_plain X J hs (W.osa_open (s:={ s with toks:=s.toks + 1 }) (r:=none) X J hp ht fun b=>?_)
  obtain ⟨cd,hc,hd'⟩:=W.any_some hh
  have hx:s.heap.get? x = some ⟨.ref C,some dx,.plain,#[]⟩:=I.obj
  refine wpAny_bind (wpAny_pure (wpAny_bind (wpAny_bind (wpAny_loadPart hx (wpAny_bind (W.Looks.here (s:={ s with toks:=s.toks + 1 }) (W.looks_clsIn X hc) ?_))))))
  rw [hd']
  refine wpAny_pure (a:=some dx) (wpAny_bind (wpAny_pure (wpAny_bind ?_)))
  refine wpAny_nsSet1 (s:={ s with toks:=s.toks + 1 }) I.ns fun h' hn2 hs2=>?_
  obtain ⟨oD,esD,epD,hoD,hdD,hcD⟩:=hn2.count (PySem.Within.cons name v hw)
  refine wpAny_bind (wpAny_lookBehind hoD (by rw [hdD]; exact pastItsLine_dict (Nat.le_trans hcD (by rw [List.length_cons]; omega))) ?_)
  exact wpAny_pure (h _ ⟨(hs2.2 _ (Ne.symm I.ne)).trans I.obj,hn2,I.ne⟩ hs2)
theorem a6K {R:Result->Shared->Prop} {vs:List Value} {kw:List (Str × Value)} (X:K.In s.heap) (hm:W.makesIn K C = true)
    (hi:W.findIn K (.ref C) "__init__" = some (some (.ref f))) (hf:W.typeIn K (.ref f) = some (.type "function"))
    (h:codeAny (model prog w) (A.under (.builtin "type.__call__" ⟨.ref C :: vs,kw⟩)) (.call (.ref f) ⟨.ref (s.heap.objs.size + 1) :: vs,kw⟩) (W.InitBack (s.heap.objs.size + 1) R)
      { s with heap:=(s.heap.push W.emptyDict).push (W.instObj C s.heap.objs.size) }) :
    codeAny (model prog w) A (.call (.ref C) ⟨vs,kw⟩) R s:=by
  obtain ⟨hh,g,d,t,os⟩:=s
  exact W.make_core (W.makes_of X hm) (W.looks_findIn X hi) (fun self=>W.bind_fn X self hf) (.inl rfl) h
end
def K8 (f:Str) (v:V):List (Str × V)->List (Str × V)
  | []=>[(f,v)]
  | (g,x) :: r=>if g = f then (g,v) :: r else (g,x) :: K8 f v r
theorem a0o (f g:Str) (v:V):∀ fs:List (Str × V),(K8 f v fs).lookup g = if g = f then some v else fs.lookup g
  | []=>by
    show List.lookup g [(f,v)] = _
    by_cases h:g = f
    . have hb:(g == f) = true:=beq_iff_eq.mpr h
      simp only [List.lookup,hb,if_pos h]
    . have hb:(g == f) = false:=beq_eq_false_iff_ne.mpr h
      simp only [List.lookup,hb,if_neg h]
  | (k,x) :: r=>by
    have ih:=a0o f g v r
    rw [show K8 f v ((k,x) :: r) = (if k = f then (k,v) :: r else (k,x) :: K8 f v r) from rfl]
    by_cases hk:k = f
    . rw [if_pos hk]
      by_cases h:g = k
      . have hb:(g == k) = true:=beq_iff_eq.mpr h
        simp only [List.lookup,hb,if_pos (h.trans hk)]
      . have hb:(g == k) = false:=beq_eq_false_iff_ne.mpr h
        simp only [List.lookup,hb,if_neg (fun e:g = f=>h (e.trans hk.symm))]
    . rw [if_neg hk]
      by_cases h:g = k
      . have hb:(g == k) = true:=beq_iff_eq.mpr h
        simp only [List.lookup,hb,if_neg (fun e:g = f=>hk (h.symm.trans e))]
      . have hb:(g == k) = false:=beq_eq_false_iff_ne.mpr h
        simp only [List.lookup,hb]
        exact ih
theorem Y6 (f:Str) (v:V):∀ fs:List (Str × V),f ∈ (K8 f v fs).map (·.1)/\∀ g,g ∈ fs.map (·.1)->g ∈ (K8 f v fs).map (·.1)
  | []=>⟨by simp [K8],fun g h=>by simp at h⟩
  | (k,x) :: r=>by
    obtain ⟨i1,i2⟩:=Y6 f v r
    rw [show K8 f v ((k,x) :: r) = (if k = f then (k,v) :: r else (k,x) :: K8 f v r) from rfl]
    by_cases hk:k = f
    . rw [if_pos hk]
      subst hk
      exact ⟨by simp,fun g h=>by simpa using h⟩
    . rw [if_neg hk]
      refine ⟨?_,fun g h=>?_⟩
      . rw [List.map_cons]
        exact List.mem_cons_of_mem _ i1
      . rw [List.map_cons] at h ⊢
        rcases List.mem_cons.mp h with e | e
        . exact List.mem_cons.mpr (.inl e)
        . exact List.mem_cons_of_mem _ (i2 g e)
theorem a0l (f:Str) (v:V):∀ fs:List (Str × V),(K8 f v fs).length <= fs.length + 1
  | []=>by simp [K8]
  | (k,x) :: r=>by
    have ih:=a0l f v r
    rw [show K8 f v ((k,x) :: r) = (if k = f then (k,v) :: r else (k,x) :: K8 f v r) from rfl]
    by_cases hk:k = f
    . rw [if_pos hk,List.length_cons,List.length_cons]; omega
    . rw [if_neg hk,List.length_cons,List.length_cons]; omega
theorem RelO.some_of {v:V} {o:Option Value} (r:RelO (some v) o):∃ u,o = some u/\RelV v u:=by
  cases o with
  | none=>exact (show False from r).elim
  | some u=>exact ⟨u,rfl,r⟩
theorem RelO.none_of {o:Option Value} (r:RelO none o):o = none:=by
  cases o with
  | none=>rfl
  | some u=>exact (show False from r).elim
theorem a5U {v:V} {u:Value} (r:RelV v u):W.handedIn u = true:=by
  cases v with
  | non=>cases (show u = Value.none from r); rfl
  | bl b=>cases (show u = Value.bool b from r); rfl
  | int i=>obtain ⟨t,e⟩:=(show ∃ t,u = Value.int i t from r); cases e; rfl
  | str x=>obtain ⟨t,e⟩:=(show ∃ t,u = Value.str x t from r); cases e; rfl
  | byt b=>obtain ⟨t,e⟩:=(show ∃ t,u = Value.bytes b t from r); cases e; rfl
  | flt b=>obtain ⟨t,e⟩:=(show ∃ t,u = Value.float b t from r); cases e; rfl
  | ref a=>cases (show u = Value.ref a from r); rfl
  | ty n=>cases (show u = Value.type n from r); rfl
section
variable {P:Program} {w:World} {H H':Hp} {h h':Heap} {a C dx:Addr} {fs fs':List (Str × V)}
theorem a0z (hok:HOk P w H h) (e:H a = some (.ins C dx fs)):∃ mA,ObjM h a dx C mA/\(∀ f,RelO (fs.lookup f) (mA f))/\PySem.Within mA (fs.map (·.1))/\fs.length <= 1000/\H dx = some (.own a):=by
  obtain ⟨d,z,ne,ob,mA,n,r,q⟩:=(show ObjOk P w H h a (.ins C dx fs) from hok a _ e)
  exact ⟨mA,⟨ob,n,ne⟩,r,q,z,d⟩
end
structure Cls (K:W.Frag) (C:Addr):Prop where
  pg:W.plainGet K C Str.empty = true
  hd:W.hasDictIn K C = true
  po:W.plainOver K C = true
  sa:W.findIn K (.ref C) "__setattr__" = some (some (.builtin "object.__setattr__"))
theorem Cls.get {K:W.Frag} {C:Addr} (c:Cls K C) (f:Str):W.plainGet K C f = true:=c.pg
def NoAttr (K:W.Frag) (C:Addr) (f:Str):Prop:=W.findIn K (.ref C) f = some none
theorem NoAttr.taker {K:W.Frag} {C:Addr} {f:Str} (n:NoAttr K C f):W.takerIn K C f = some none:=by
  unfold W.takerIn
  rw [show W.findIn K (.ref C) f = some none from n]
  rfl
structure Con (K:W.Frag) (C:Addr) (f:Str) (v:V) (u:Value):Prop where
  at_:W.findIn K (.ref C) f = some (some u)
  rel:RelV v u
  get:W.specialIn K u "__get__" = some none
  cp:W.copiedNames.contains f = false
structure a8o (K:W.Frag) (C:Addr) (m:Str) (f:Addr):Prop where
  at_:W.findIn K (.ref C) m = some (some (.ref f))
  fn:W.isFn K (.ref f) = true
  kp:W.keepIn K (.ref f) = true
section
variable {X:Cx} {pins:List (Addr × Obj)} {σ:St} {H:Hp} {s:Shared} {a C dx:Addr} {fs:List (Str × V)} {f:Str} {v:V} {A:Around} {E:Value->Shared->Prop}
theorem a4F {b:Bool} {Q:Value->Shared->Prop} (I:Inv X pins σ H s) (e:H a = some (.ins C dx fs)) (c:Cls X.K C) (n:NoAttr X.K C f) (l:fs.lookup f = some v)
    (h:∀ u s',Inv X pins σ H s'->RelV v u->Q u s'):wpAny (model X.prog X.w) A (getAttr (.ref a) f b) Q E s:=by
  obtain ⟨mA,O,r,_,_,_⟩:=a0z I.hok e
  obtain ⟨u,hu,ru⟩:=RelO.some_of (v:=v) (o:=mA f) (by rw [<- l]; exact r f)
  exact a9y I.kIn O (c.get f) c.hd n hu (a5U ru) (h u _ (I.tok _) ru)
theorem a1x {m:Str} {g:Addr} {pl:Sem Bool} {Q:Value × List Value->Shared->Prop} (I:Inv X pins σ H s) (e:H a = some (.ins C dx fs)) (c:Cls X.K C) (k:a8o X.K C m g) (l:fs.lookup m = none)
    (h:Q (.ref g,[.ref a]) s):wpAny (model X.prog X.w) A (getMethod (.ref a) m pl) Q E s:=by
  obtain ⟨mA,O,r,_,_,_⟩:=a0z I.hok e
  have hn:mA m = none:=RelO.none_of (by rw [<- l]; exact r m)
  exact a7u I.kIn O (c.get m) k.at_ k.fn hn h
theorem a0K {y:V} {u:Value} {Q:Unit->Shared->Prop} (I:Inv X pins σ H s) (e:H a = some (.ins C dx fs)) (c:Cls X.K C) (n:NoAttr X.K C f) (hl:fs.length < 1000) (ry:RelV y u)
    (h:∀ s',Inv X pins σ (m5 H a (.ins C dx (K8 f y fs))) s'->Q () s'):wpAny (model X.prog X.w) A (setAttr (.ref a) f u) Q E s:=by
  obtain ⟨mA,O,r,wi,_,ho⟩:=a0z I.hok e
  have hz:(fs.map (·.1)).length <= sizeLine:=by rw [List.length_map,sizeLine_eq]; omega
  refine a9p I.kIn O c.sa c.po n.taker c.hd wi hz fun h' O' sb=>h _ ?_
  have hd:∃ o,h'.get? dx = some o:=let ⟨o,_,_,e',_⟩:=O'.ns; ⟨o,e'⟩
  refine I.write (x:=a) (e:=dx) (by rw [e]; exact True.intro) (.inr ho) (fun b q hb z=>(sb.2 b hb).trans z) hd ?_
  refine ⟨by rw [c9 O.ne]; exact ho,?_,O.ne,O'.obj,_,O'.ns,fun g=>?_,fun g hg=>?_⟩
  . have:=a0l f y fs; omega
  . show RelO ((K8 f y fs).lookup g) (if g = f then some u else mA g)
    rw [a0o]
    by_cases q:g = f
    . rw [if_pos q,if_pos q]; exact ry
    . rw [if_neg q,if_neg q]; exact r g
  . by_cases q:g = f
    . rw [q]; exact (Y6 f y fs).1
    . refine (Y6 f y fs).2 g (wi g fun z=>hg ?_)
      show (if g = f then some u else mA g) = none
      rw [if_neg q]; exact z
theorem Inv.made (I:Inv X pins σ H s):Inv X pins σ (m5 (m5 H s.heap.objs.size (.own (s.heap.objs.size + 1))) (s.heap.objs.size + 1) (.ins C s.heap.objs.size []))
    { s with heap:=(s.heap.push W.emptyDict).push (W.instObj C s.heap.objs.size) }:=by
  have e1:(s.heap.push W.emptyDict).get? s.heap.objs.size = some W.emptyDict:=Heap.get?_push_size s.heap rfl
  have e2:((s.heap.push W.emptyDict).push (W.instObj C s.heap.objs.size)).get? (s.heap.objs.size + 1) = some (W.instObj C s.heap.objs.size):=by
    have:=Heap.get?_push_size (s.heap.push W.emptyDict) (o:=W.instObj C s.heap.objs.size) rfl
    rwa [Heap.size_push] at this
  have e3:(s.heap.push W.emptyDict).Ns s.heap.objs.size (fun _=>none):=⟨W.emptyDict,#[],_,e1,rfl,(fun e he=>absurd he (by simp)),fun _=>rfl⟩
  have I1:=I.laid (a:=s.heap.objs.size) (o:=.own (s.heap.objs.size + 1)) (h':=s.heap.push W.emptyDict) (t':=s.toks) (fun b u q=>Heap.get?_push_of_some _ q) (Nat.le_refl _) ⟨_,e1⟩
  refine I1.laid (a:=s.heap.objs.size + 1) (o:=.ins C s.heap.objs.size []) (t':=s.toks) (fun b u q=>Heap.get?_push_of_some _ q) (Nat.le_of_eq (Heap.size_push _ _)) ?_
  have ne:s.heap.objs.size ≠ s.heap.objs.size + 1:=Nat.ne_of_lt (Nat.lt_succ_self _)
  refine ⟨by rw [c9 ne,upd_same],Nat.zero_le _,ne,e2,fun _=>none,(Heap.Ns1.of_empty e3).at fun o q=>Heap.get?_push_of_some _ q,fun _=>True.intro,fun y hy=>absurd rfl hy⟩
theorem a8x {prog:Program} {w:World} {env:Env} {e:Expr} {f:Str} {pos:Pos} {s:Shared} {Q:Value->Shared->Prop} (hb:attributeBase e f env (eval e env) = eval e env)
    (h:wpAny (model prog w) A (eval e env) (fun o s₁=>wpAny (model prog w) A (getAttr o f true) Q E s₁) E s):wpAny (model prog w) A (eval (.Attribute e f pos) env) Q E s :=
  Attribute_any_ h (by rw [arm_eval_Attribute,hb])
end
def b1y (K:W.Frag) (ta:TE) (f:Str):TE:=fun σ H Q=>ta σ H fun x H1=>∃ a C dx fs v,x = .ref a/\H1 a = some (.ins C dx fs)/\Cls K C/\NoAttr K C f/\fs.lookup f = some v/\Q v H1
def b2Z (K:W.Frag) (ta tv:TE) (f:Str):TS:=fun D σ H=>tv σ H fun y H1=>ta σ H1 fun x H2=>∃ a C dx fs,x = .ref a/\H2 a = some (.ins C dx fs)/\Cls K C/\NoAttr K C f/\fs.length < 1000 ∧
  D.nx σ (m5 H2 a (.ins C dx (K8 f y fs)))
section
variable {X:Cx} {o e value:Expr} {f:Str} {pos pos' tpos:Pos} {ta tv:TE}
theorem j4 (he:PE X e ta) (hb:attributeBase e f X.env (eval e X.env) = eval e X.env):PE X (.Attribute e f pos) (b1y X.K ta f):=by
  intro pins s σ H Q I h
  refine a8x hb (v8 (he pins s σ H _ I h) fun u s1 ⟨x,H1,I1,rx,a,C,dx,fs,v,ex,ea,c,n,l,q⟩=>?_)
  subst ex
  obtain rfl:u = Value.ref a:=rx
  exact a4F I1 ea c n l fun u' s2 I2 ru=>⟨v,H1,I2,ru,q⟩
theorem C8 (ha:PE X o ta) (hv:PE X value tv) (hs:swapsWith value (some (.Attribute o f pos')) pos.line X.env = pure false):PS X (.Assign [.Attribute o f pos'] value pos) (b2Z X.K ta tv f):=by
  intro pins s σ H D I h
  refine plainObj_wpAny_Assign_Attribute (v8 (hv pins s σ H _ I h) fun u s1 ⟨y,H1,I1,ry,q⟩=>v8 (ha pins s1 σ H1 _ I1 q) fun ov s2 ⟨x,H2,I2,rx,a,C,dx,fs,ex,ea,c,n,l,q2⟩=>?_) hs
  subst ex
  obtain rfl:ov = Value.ref a:=rx
  exact a0K I2 ea c n l ry fun s3 I3=>⟨σ,_,I3,q2⟩
end
section
variable {X:Cx} {pins:List (Addr × Obj)} {σ:St} {H:Hp} {s:Shared} {A:Around} {E:Value->Shared->Prop} {Q:Value->Shared->Prop} {c:Value} {b:Bool}
inductive a0f (K:W.Frag) (H:Hp):V->Value->Prop where
  | non:a0f K H .non (.type "NoneType")
  | bl (x:Bool):a0f K H (.bl x) (.type "bool")
  | int (i:Int):a0f K H (.int i) (.type "int")
  | str (x:Str):a0f K H (.str x) (.type "str")
  | flt (x:UInt64):a0f K H (.flt x) (.type "float")
  | lst {a:Addr} {xs:List V} (e:H a = some (.lst xs)):a0f K H (.ref a) (.type "list")
  | frz {a:Addr} {o:Obj} {xs:List V} (e:H a = some (.frz o (.lst xs))):a0f K H (.ref a) (.type "list")
  | tup {a:Addr} {xs:List V} (e:H a = some (.tup xs)):a0f K H (.ref a) (.type "tuple")
  | dK {a:Addr} {kvs:List (Key × V)} (e:H a = some (.dK kvs)):a0f K H (.ref a) (.type "dict")
  | dT {a:Addr} {kvs:List (List Key × V)} (e:H a = some (.dT kvs)):a0f K H (.ref a) (.type "dict")
  | ins {a C dx:Addr} {fs:List (Str × V)} (e:H a = some (.ins C dx fs)) (cl:Cls K C) (ha:W.findIn K (.ref C) "__class__" = some (some (.builtin "object.__class__")))
      (hn:W.specialIn K (.builtin "object.__class__") "__get__" = some (some (.builtin "getset_descriptor.__get__"))) (htk:W.takesIn K (.builtin "object.__class__") = some true)
      (hm:W.mroIn K C (.type "object") = some true):a0f K H (.ref a) (.ref C)
theorem a5M {x:V} {u t:Value} (I:Inv X pins σ H s) (rx:RelV x u) (ty:a0f X.K H x t) (e:W.kitOne X.K t c = some b) (h:∀ tk,Q (.bool b) { s with toks:=tk }) :
    wpAny (model X.prog X.w) A (call (.builtin "isinstance") [u,c]) Q E s:=by
  cases ty with
  | non=>cases (show u = Value.none from rx); exact W.kia_one W.kitx_none I.kIn True.intro e (fun z=>nomatch z) h
  | bl y=>cases (show u = Value.bool y from rx); exact W.kia_one W.kitx_bool I.kIn True.intro e (fun z=>nomatch z) h
  | int i=>obtain ⟨t,q⟩:=(show ∃ t,u = Value.int i t from rx); cases q; exact W.kia_one W.kitx_int I.kIn True.intro e (fun z=>nomatch z) h
  | str y=>obtain ⟨t,q⟩:=(show ∃ t,u = Value.str y t from rx); cases q; exact W.kia_one W.kitx_str I.kIn True.intro e (fun z=>nomatch z) h
  | flt y=>obtain ⟨t,q⟩:=(show ∃ t,u = Value.float y t from rx); cases q; exact W.kia_one W.kitx_float I.kIn True.intro e (fun z=>nomatch z) h
  | @lst a xs ea =>
    cases (show u = Value.ref a from rx)
    obtain ⟨_,_,n,_,h1⟩:=(show ObjOk X.prog X.w H s.heap a (.lst xs) from I.hok a _ ea)
    exact W.kia_one W.kitx_list I.kIn ⟨_,h1,rfl⟩ e (fun z=>nomatch z) h
  | @frz a ob xs ea =>
    cases (show u = Value.ref a from rx)
    obtain ⟨_,_,_,n,_,h1⟩:=(show ObjOk X.prog X.w H s.heap a (.frz ob (.lst xs)) from I.hok a _ ea)
    exact W.kia_one W.kitx_list I.kIn ⟨_,h1,rfl⟩ e (fun z=>nomatch z) h
  | @tup a xs ea =>
    cases (show u = Value.ref a from rx)
    obtain ⟨_,_,_,p⟩:=(show ObjOk X.prog X.w H s.heap a (.tup xs) from I.hok a _ ea)
    obtain ⟨o,h1,h2,_⟩:=p
    exact W.kia_one W.kitx_tuple I.kIn ⟨o,h1,h2⟩ e (fun z=>nomatch z) h
  | @dK a kvs ea =>
    cases (show u = Value.ref a from rx)
    obtain ⟨_,_,vs,_,p⟩:=(show ObjOk X.prog X.w H s.heap a (.dK kvs) from I.hok a _ ea)
    obtain ⟨o,es,ep,h1,h2,_⟩:=p
    exact W.kia_one W.kitx_dict I.kIn ⟨o,h1,h2.1⟩ e (fun z=>nomatch z) h
  | @dT a kvs ea =>
    cases (show u = Value.ref a from rx)
    obtain ⟨_,_,xs,_,o,es,ep,h1,h2,_⟩:=(show ObjOk X.prog X.w H s.heap a (.dT kvs) from I.hok a _ ea)
    exact W.kia_one W.kitx_dict I.kIn ⟨o,h1,h2.1⟩ e (fun z=>nomatch z) h
  | @ins a C dx fs ea cl ha hn htk hm =>
    cases (show u = Value.ref a from rx)
    obtain ⟨mA,O,_⟩:=a0z I.hok ea
    obtain ⟨od,J,_⟩:=O.look
    exact W.kia_one (W.kitx_own (cl.get _) cl.hd ha hn htk hm) I.kIn J e (fun z=>nomatch z) h
end
end L2
namespace L2
open PySem PySem.Spec PyProof.Rows
structure Room (k:Nat) (A:Around):Prop where
  hd:A.handled = none
  dp:A.depth + 3 * k + 5 < recursionLimit
  un:A.units + 16 * k + 200 < cLine
theorem Room.mono {j k:Nat} {A:Around} (r:Room k A) (h:j <= k):Room j A:=⟨r.hd,by have:=r.dp; omega,by have:=r.un; omega⟩
theorem Room.deeper {k:Nat} {A:Around} (r:Room (k + 1) A) (env:Env):Room k (A.deeper env) :=
  ⟨r.hd,by have:=r.dp; show A.depth + 1 + 3 * k + 5 < _; omega,by have:=r.un; show A.units + 3 + 16 * k + 200 < _; omega⟩
theorem Room.in1 {k:Nat} {A:Around} (r:Room (k + 1) A):Room k A.in1 :=
  ⟨r.hd,by have:=r.dp; show A.depth + 3 * k + 5 < _; omega,by have:=r.un; show A.units + 1 + 16 * k + 200 < _; omega⟩
theorem a4A {A:Around} {C:Addr} {us:List Value} {kw:List (Str × Value)}:(A.under (.builtin "type.__call__" ⟨.ref C :: us,kw⟩)).depth = A.depth + 1:=by
  first | rfl | simp [Around.under,Code.weight,Code.isCreation,Code.isGuard,Code.isCaller,Code.frames,Code.isFrame,guardIds]
theorem a4t {A:Around} {C:Addr} {us:List Value} {kw:List (Str × Value)}:(A.under (.builtin "type.__call__" ⟨.ref C :: us,kw⟩)).units = A.units + 1:=by
  first | rfl | simp [Around.under,Code.cUnits,Code.frames,Code.isFrame]
theorem Room.make {k:Nat} {A:Around} (r:Room (k + 1) A) (C:Addr) (us:List Value) (kw:List (Str × Value)):Room k (A.under (.builtin "type.__call__" ⟨.ref C :: us,kw⟩)) :=
  ⟨r.hd,by have:=r.dp; rw [a4A]; omega,by have:=r.un; rw [a4t]; omega⟩
theorem Room.depth {k:Nat} {A:Around} (r:Room k A):A.depth < recursionLimit:=by have:=r.dp; omega
theorem Room.units {k:Nat} {A:Around} (r:Room k A):A.units + 64 < cLine:=by have:=r.un; omega
def a8f:TA:=fun _ H Q=>Q [] H
def a3h (ta:TE) (tr:TA):TA:=fun σ H Q=>ta σ H fun x H1=>tr σ H1 fun xs H2=>Q (x :: xs) H2
section
variable {X:Cx} {e:Expr} {es:List Expr} {te:TE} {t:TA} {pos:Pos}
theorem d8:PA X [] a8f:=fun _ _ _ _ H Q I h=>Calls.spliced_nil ⟨[],H,I,.nil,h⟩
theorem a0 (ha:PE X e te) (hr:PA X es t) (hs:starEach (e :: es) X.env = (false,eval e X.env) :: starEach es X.env:=by rfl):PA X (e :: es) (a3h te t):=by
  intro pos pins s σ H Q I h
  rw [hs]
  show wpAny _ _ (spliced ((false,eval e X.env) :: backTo pos (starEach es X.env))) _ _ s
  refine Calls.spliced_cons (v8 (ha pins s σ H _ I h) fun u s1 ⟨x,H1,I1,r1,q1⟩=>?_)
  exact v8 (hr pos pins s1 σ H1 _ I1 q1) fun us s2 ⟨xs,H2,I2,r2,q2⟩=>⟨x :: xs,H2,I2,.cons r1 r2,q2⟩
def b1C (t:TA):TE:=fun σ H Q=>t σ H fun xs H1=>xs.length <= sizeLine/\∀ p,H1 p = none->Q (.ref p) (m5 H1 p (.tup xs))
def b3n (t:TA):TE:=fun σ H Q=>t σ H fun xs H1=>xs.length <= sizeLine/\∀ p,H1 p = none->Q (.ref p) (m5 H1 p (.lst xs))
theorem M7 {x1} (h:PA X es t):PE X (.Tuple es x1 pos) (b1C t):=by
  intro pins s σ H Q I hq
  refine wpAny_Tuple_spliced (v8 (h pos pins s σ H _ I hq) fun us s1 ⟨xs,H1,I1,r,z,q⟩=>⟨by rw [<- r.length]; exact z,?_⟩)
  have hf:H1 s1.heap.objs.size = none:=I1.hok.fresh (Nat.le_refl _)
  refine ⟨.ref s1.heap.objs.size,m5 H1 s1.heap.objs.size (.tup xs),I1.laid (t':=s1.toks) (fun b u e=>Heap.get?_push_of_some _ e) (Nat.le_refl _) ?_,rfl,q _ hf⟩
  exact ⟨z,us,r,⟨_,Heap.get?_push_size _ rfl,rfl,_,rfl⟩⟩
theorem r9 (h:PA X es t):PE X (.List es pos) (b3n t):=by
  intro pins s σ H Q I hq
  refine wpAny_List_spliced (v8 (h pos pins s σ H _ I hq) fun us s1 ⟨xs,H1,I1,r,z,q⟩=>⟨by rw [<- r.length]; exact z,?_⟩)
  have hf:H1 s1.heap.objs.size = none:=I1.hok.fresh (Nat.le_refl _)
  refine ⟨.ref s1.heap.objs.size,m5 H1 s1.heap.objs.size (.lst xs),I1.laid (t':=s1.toks) (fun b u e=>Heap.get?_push_of_some _ e) (Nat.le_refl _) ?_,rfl,q _ hf⟩
  exact ⟨z,us,0,r,Heap.get?_push_size _ rfl⟩
end
abbrev Sp:=List V->Hp->VK->XK->Prop
abbrev CXT:=List Env->Hp->Shared->XK->Value->Shared->Prop
structure Env0 (P:Program) (w:World) (K:W.Frag) (mg:Str->Option Value) (base:Heap) (A:Around) (outer:List Env) (s:Shared) (H:Hp):Prop where
  frames:A.frames = some outer
  mod:Mod K mg base
  bs:∀ b o,base.get? b = some o->s.heap.get? b = some o/\H b = none
  bsz:base.objs.size <= s.heap.objs.size
  funs:s.heap.FunFrames base outer
  frf:∀ b ∈ frs outer,H b = none
  hok:HOk P w H s.heap
  bare:AllBare s.gens
def CE (outer:List Env) (P:Program) (w:World) (H:Hp) (s:Shared) (Q:VK) (u:Value) (s':Shared):Prop :=
  ∃ v H',s'.os = s.os/\AllBare s'.gens/\Un (frs outer) [] H H' s.heap s'.heap/\HOk P w H' s'.heap/\RelV v u/\Q v H'
def CR (CX:CXT) (outer:List Env) (P:Program) (w:World) (H:Hp) (s:Shared) (Q:VK) (E:XK) (r:Result) (s':Shared):Prop :=
  match r with
  | .ok (.ret u)=>CE outer P w H s Q u s'
  | .ok _=>False
  | .error e=>CX outer H s E e s'
structure FnOk (P:Program) (w:World) (K:W.Frag) (mg:Str->Option Value) (base:Heap) (CX:CXT) (k:Nat) (f:Addr) (fd:FuncData) (ps:List Str) (sp:Sp):Prop where
  len:∀ vs H Q E,sp vs H Q E->vs.length = ps.length
  run:∀ (A:Around) (outer:List Env) (s:Shared) (H:Hp) (args:Args) (us:List Value) (vs:List V) (Q:VK) (E:XK),Room k A->Env0 P w K mg base A outer s H->BindsTo s fd args (ps.zip us)->Vals vs us->sp vs H Q E →
    codeAny (model P w) A (.call (.ref f) args) (CR CX outer P w H s Q E) s
theorem FnOk.imp {P:Program} {w:World} {K:W.Frag} {mg:Str->Option Value} {base:Heap} {CX:CXT} {k:Nat} {f:Addr} {fd:FuncData} {ps:List Str} {sp sp':Sp} (F:FnOk P w K mg base CX k f fd ps sp)
    (h:∀ vs H Q E,sp' vs H Q E->sp vs H Q E):FnOk P w K mg base CX k f fd ps sp' :=
  ⟨fun vs H Q E q=>F.len vs H Q E (h _ _ _ _ q),fun A outer s H args us vs Q E hr he hb hv hs=>F.run A outer s H args us vs Q E hr he hb hv (h _ _ _ _ hs)⟩
theorem Env0.make {P:Program} {w:World} {K:W.Frag} {mg:Str->Option Value} {base:Heap} {A:Around} {outer:List Env} {s:Shared} {H:Hp} (e:Env0 P w K mg base A outer s H) (C:Addr) (us:List Value) (kw:List (Str × Value)) :
    Env0 P w K mg base (A.under (.builtin "type.__call__" ⟨.ref C :: us,kw⟩)) outer s H:=⟨by first | exact e.frames | (simpa [Around.under,Code.envs,Code.isFrame,pushEnvs] using e.frames),e.mod,e.bs,e.bsz,e.funs,e.frf,e.hok,e.bare⟩
section
variable {X:Cx} {pins:List (Addr × Obj)} {σ:St} {H:Hp} {s s':Shared}
theorem Inv.env0 (I:Inv X pins σ H s):Env0 X.prog X.w X.K X.mg X.base X.A X.stack s H :=
  ⟨I.ok.frames,I.ok.mod,I.bs,Nat.le_trans I.ok.bsz I.sz,I.stack,I.stkFree,I.hok,I.bare⟩
theorem Inv.after {Q:VK} {u:Value} (I:Inv X pins σ H s) (h:CE X.stack X.prog X.w H s Q u s'):EP X pins σ Q u s':=by
  obtain ⟨v,H',os,bare,un,hok,r,q⟩:=h
  obtain ⟨hh,g,d,t,os'⟩:=s'
  obtain rfl:os' = s.os:=os
  exact ⟨v,H',I.call (h':=hh) (g':=g) (d':=d) (t':=t) (ch:=[]) un hok bare (fun b z=>absurd z (by simp)),r,q⟩
end
def b1G (sp:Sp) (dvs:List V) (E:XK) (t:TA):TE:=fun σ H Q=>t σ H fun vs H1=>sp (vs ++ dvs) H1 Q E
def a9L (C:Addr) (m:Str) (sp:Sp) (dvs:List V) (E:XK) (ta:TE) (t:TA):TE:=fun σ H Q=>ta σ H fun x H1=>∃ a dx fs,x = .ref a/\H1 a = some (.ins C dx fs)/\fs.lookup m = none ∧
  t σ H1 fun vs H2=>sp (x :: (vs ++ dvs)) H2 Q E
def b2m (C:Addr) (sp:Sp) (dvs:List V) (E:XK) (t:TA):TE:=fun σ H Q=>t σ H fun vs H1=>∀ x dx,H1 x = none->H1 dx = none->dx ≠ x →
  sp (.ref x :: (vs ++ dvs)) (m5 (m5 H1 dx (.own x)) x (.ins C dx [])) (fun v H2=>v = .non/\Q (.ref x) H2) E
def Binds (K:W.Frag) (fd:FuncData) (ps:List Str) (ds:List Value):Prop :=
  ∀ (s:Shared) (us:List Value),K.In s.heap->(us ++ ds).length = ps.length->BindsTo s fd ⟨us,[]⟩ (ps.zip (us ++ ds))
theorem Binds.all {K:W.Frag} {fd:FuncData} {ps:List Str} (h:∀ us:List Value,us.length = ps.length->bindArgs fd ⟨us,[]⟩ = pure (ps.zip us)):Binds K fd ps []:=fun s us _ hl=>by
  rw [List.append_nil] at hl ⊢
  exact .of_eq (h us hl)
def P4 (CX:CXT) (X:Cx) (E:XK):Prop:=∀ (pins:List (Addr × Obj)) (σ:St) (H:Hp) (s:Shared) (e:Value) (s':Shared),Inv X pins σ H s->CX X.stack H s E e s'->X.xe e s'
section
variable {X:Cx} {CX:CXT} {k:Nat} {f C:Addr} {fd:FuncData} {ps:List Str} {sp:Sp} {dvs:List V} {ds:List Value} {E:XK} {x m:Str} {p pos apos:Pos} {e o:Expr} {es:List Expr} {ta:TE} {t:TA}
theorem a3R {pins:List (Addr × Obj)} {σ:St} {H:Hp} {s:Shared} {Q:VK} {us:List Value} {vs:List V} (F:FnOk X.prog X.w X.K X.mg X.base CX k f fd ps sp) (hr:Room k X.A) (hb:Binds X.K fd ps ds) (hd:Vals dvs ds) (hx:P4 CX X E)
    (I:Inv X pins σ H s) (r:Vals vs us) (h:sp (vs ++ dvs) H Q E):wpAny (model X.prog X.w) X.A (call (.ref f) us) (EP X pins σ Q) X.xe s:=by
  have r2:Vals (vs ++ dvs) (us ++ ds):=r.append hd
  have hl:(us ++ ds).length = ps.length:=by rw [<- r2.length]; exact F.len _ _ _ _ h
  refine wpAny_call (codeAny_mono (F.run X.A X.stack s H ⟨us,[]⟩ (us ++ ds) (vs ++ dvs) Q E hr I.env0 (hb s us I.kIn hl) r2 h) fun r s' hq=>?_)
  cases r with
  | error e=>exact hx pins σ H s e s' I hq
  | ok fl =>
    cases fl with
    | ret u=>exact I.after hq
    | next=>exact False.elim hq
    | brk=>exact False.elim hq
    | cont=>exact False.elim hq
theorem j7 (F:FnOk X.prog X.w X.K X.mg X.base CX k f fd ps sp) (hr:Room k X.A) (hg:Gl X x) (hm:X.mg x = some (.ref f)) (hk:W.keepIn X.K (.ref f) = true) (hb:Binds X.K fd ps ds) (hd:Vals dvs ds) (hx:P4 CX X E)
    (ha:PA X (e :: es) t) (hdb:(x == ("__debug__":Str)) = false:=by decide) (he:starEach (e :: es) X.env = (false,eval e X.env) :: starEach es X.env:=by rfl) (hpl:(backTo pos (starEach es X.env)).any (·.1) = false:=by rfl) :
    PE X (.Call (.Name x p) (e :: es) [] pos) (b1G sp dvs E t):=by
  intro pins s σ H Q I h
  refine wpAny_Call_Name_kw (a0x I hg hm ?_ hdb)
  refine W.callWith_K (h₀:=X.base) I.ok.mod.kin hk (v8 (ha pos pins s σ H _ I h) fun us s1 ⟨vs,H1,I1,r,q⟩=>⟨I1.kIn,?_⟩) he hpl
  exact a3R F hr hb hd hx I1 r q
theorem G2 {pl:Sem Bool} (he:PE X o ta) (c:Cls X.K C) (hm:a8o X.K C m f) (F:FnOk X.prog X.w X.K X.mg X.base CX k f fd ps sp) (hr:Room k X.A) (hb:Binds X.K fd ps ds) (hd:Vals dvs ds) (hx:P4 CX X E) (ha:PA X (e :: es) t)
    (hst:starEach (e :: es) X.env = (false,eval e X.env) :: starEach es X.env:=by rfl) (hpl:(backTo pos (starEach es X.env)).any (·.1) = false:=by rfl)
    (ht:eval (.Call (.Attribute o m apos) (e :: es) [] pos) X.env = (do
      let ov <- eval o X.env
      standAt apos.atName
      let (f,first) <- holding [ov] (getMethod ov m pl)
      callWith pos f first (backTo pos (starEach (e :: es) X.env)) (backToKw pos (keywordEach [] X.env))):=by rfl) :
    PE X (.Call (.Attribute o m apos) (e :: es) [] pos) (a9L C m sp dvs E ta t):=by
  intro pins s σ H Q I h
  refine W.methodCall_KW (pl:=pl) (v8 (he pins s σ H _ I h) fun u s1 ⟨x,H1,I1,rx,a,dx,fs,ex,ea,l,q⟩=>?_) ht
  subst ex
  obtain rfl:u = Value.ref a:=rx
  refine a1x I1 ea c hm l ?_
  refine W.callWith_K (first:=[.ref a]) (h₀:=X.base) I.ok.mod.kin hm.kp (v8 (ha pos pins s1 σ H1 _ I1 q) fun us s2 ⟨vs,H2,I2,r,q2⟩=>⟨I2.kIn,?_⟩) hst hpl
  exact a3R (us:=.ref a :: us) (vs:=.ref a :: vs) F hr hb hd hx I2 (.cons rfl r) q2
theorem C2 {pl:Sem Bool} (he:PE X o ta) (c:Cls X.K C) (hm:a8o X.K C m f) (F:FnOk X.prog X.w X.K X.mg X.base CX k f fd ps sp) (hr:Room k X.A) (hb:Binds X.K fd ps ds) (hd:Vals dvs ds) (hx:P4 CX X E)
    (ht:eval (.Call (.Attribute o m apos) [] [] pos) X.env = (do
      let ov <- eval o X.env
      standAt apos.atName
      let (f,first) <- holding [ov] (getMethod ov m pl)
      callWith pos f first (backTo pos (starEach [] X.env)) (backToKw pos (keywordEach [] X.env))):=by rfl) :
    PE X (.Call (.Attribute o m apos) [] [] pos) (a9L C m sp dvs E ta a8f):=by
  intro pins s σ H Q I h
  refine W.methodCall_KW (pl:=pl) (v8 (he pins s σ H _ I h) fun u s1 ⟨x,H1,I1,rx,a,dx,fs,ex,ea,l,q⟩=>?_) ht
  subst ex
  obtain rfl:u = Value.ref a:=rx
  refine a1x I1 ea c hm l ?_
  exact W.callWith_K0 (first:=[.ref a]) I1.kIn hm.kp (a3R (us:=[.ref a]) (vs:=[.ref a]) F hr hb hd hx I1 (.cons rfl .nil) q)
structure Mk (K:W.Frag) (C f:Addr):Prop where
  makes:W.makesIn K C = true
  init:W.findIn K (.ref C) "__init__" = some (some (.ref f))
  fn:W.isFn K (.ref f) = true
  kp:W.keepIn K (.ref C) = true
theorem a7K {pins:List (Addr × Obj)} {σ:St} {H:Hp} {s:Shared} {Q:VK} {us:List Value} {vs:List V} (M:Mk X.K C f) (F:FnOk X.prog X.w X.K X.mg X.base CX k f fd ps sp) (hr:Room (k + 1) X.A) (hb:Binds X.K fd ps ds) (hd:Vals dvs ds)
    (hx:P4 CX X E) (I:Inv X pins σ H s) (r:Vals vs us)
    (h:∀ x dx,H x = none->H dx = none->dx ≠ x->sp (.ref x :: (vs ++ dvs)) (m5 (m5 H dx (.own x)) x (.ins C dx [])) (fun v H2=>v = .non/\Q (.ref x) H2) E) :
    wpAny (model X.prog X.w) X.A (call (.ref C) us) (EP X pins σ Q) X.xe s:=by
  have hq:=h (s.heap.objs.size + 1) s.heap.objs.size (I.hok.fresh (Nat.le_succ _)) (I.hok.fresh (Nat.le_refl _)) (Nat.ne_of_lt (Nat.lt_succ_self _))
  have I2:=Inv.made (C:=C) I
  have r2:Vals (V.ref (s.heap.objs.size + 1) :: (vs ++ dvs)) (Value.ref (s.heap.objs.size + 1) :: (us ++ ds)):=.cons rfl (r.append hd)
  have hl:(Value.ref (s.heap.objs.size + 1) :: us ++ ds).length = ps.length:=by
    have e:=r2.length
    rw [F.len _ _ _ _ hq] at e
    exact e.symm
  refine wpAny_call (a6K (f:=f) I.kIn M.makes M.init (beq_iff_eq.mp M.fn) (codeAny_mono (F.run _ X.stack _ _ ⟨Value.ref (s.heap.objs.size + 1) :: us,[]⟩ (Value.ref (s.heap.objs.size + 1) :: (us ++ ds)) _ _ E (hr.make C us [])
    (I2.env0.make C us []) (hb _ (Value.ref (s.heap.objs.size + 1) :: us) I2.kIn hl) r2 hq) fun r s' hq'=>?_))
  cases r with
  | error e=>exact hx pins σ _ _ e s' I2 hq'
  | ok fl =>
    cases fl with
    | ret u =>
      obtain ⟨v,H',I3,rv,ev,q3⟩:=I2.after hq'
      subst ev
      exact ⟨rv,⟨V.ref (s.heap.objs.size + 1),H',I3,rfl,q3⟩⟩
    | next=>exact False.elim hq'
    | brk=>exact False.elim hq'
    | cont=>exact False.elim hq'
theorem a2Q (M:Mk X.K C f) (F:FnOk X.prog X.w X.K X.mg X.base CX k f fd ps sp) (hr:Room (k + 1) X.A) (hg:Gl X x) (hm:X.mg x = some (.ref C)) (hb:Binds X.K fd ps ds) (hd:Vals dvs ds) (hx:P4 CX X E)
    (ha:PA X (e :: es) t) (hdb:(x == ("__debug__":Str)) = false:=by decide) (he:starEach (e :: es) X.env = (false,eval e X.env) :: starEach es X.env:=by rfl) (hpl:(backTo pos (starEach es X.env)).any (·.1) = false:=by rfl) :
    PE X (.Call (.Name x p) (e :: es) [] pos) (b2m C sp dvs E t):=by
  intro pins s σ H Q I h
  refine wpAny_Call_Name_kw (a0x I hg hm ?_ hdb)
  refine W.callWith_K (h₀:=X.base) I.ok.mod.kin M.kp (v8 (ha pos pins s σ H _ I h) fun us s1 ⟨vs,H1,I1,r,q⟩=>⟨I1.kIn,?_⟩) he hpl
  exact a7K M F hr hb hd hx I1 r q
end
section
variable {X:Cx} {CX:CXT} {k:Nat} {f C:Addr} {fd:FuncData} {ps ks:List Str} {sp:Sp} {E:XK} {x m:Str} {p pos apos kpos:Pos} {e o:Expr} {es:List Expr} {kws:List Keyword} {te ta:TE} {t tk:TA} {nm:Option Str}
structure b3G (K:W.Frag) (fd:FuncData) (ps ks:List Str) (g:List Value->List Value->List Value) (gV:List V->List V->List V):Prop where
  to:∀ (s:Shared) (us ws:List Value),K.In s.heap->(g us ws).length = ps.length->BindsTo s fd ⟨us,ks.zip ws⟩ (ps.zip (g us ws))
  rel:∀ {vs:List V} {us:List Value} {zs:List V} {ws:List Value},Vals vs us->Vals zs ws->Vals (gV vs zs) (g us ws)
variable {g:List Value->List Value->List Value} {gV:List V->List V->List V}
end
structure j3 (N P:List Str) (sc:Scope):Prop where
  kind:sc.kind = .function
  co:sc.isCoroutine = false
  gen:sc.isGenerator = false
  nd:N.Nodup
  pre:N.take P.length = P
  par:∀ x ∈ P,sc.names.lookup x = some .local \/ sc.names.lookup x = some .cell
  nofree:∀ y ∈ sc.names,y.2 ≠ .free
theorem a1P {kindOf:Str->Option NameKind} {x:Str}:∀ {binds:List (Str × Value)} {m:Str->Option Value},(∀ v,(x,v) ∉ binds)->bindL kindOf binds m x = m x
  | [],_,_=>rfl
  | (n,v) :: r,m,h=>by
    unfold bindL
    rw [a1P fun w hw=>h w (List.mem_cons_of_mem _ hw)]
    split
    . have:x ≠ n:=by rintro rfl; exact h v List.mem_cons_self
      simp [this]
    . rfl
theorem a1M {kindOf:Str->Option NameKind} {x:Str}:∀ {binds:List (Str × Value)} {m:Str->Option Value},(∀ v,(x,v) ∉ binds)->bindC kindOf binds m x = m x
  | [],_,_=>rfl
  | (n,v) :: r,m,h=>by
    unfold bindC
    rw [a1M fun w hw=>h w (List.mem_cons_of_mem _ hw)]
    split
    . rfl
    . have:x ≠ n:=by rintro rfl; exact h v List.mem_cons_self
      simp [this]
theorem a2k {kindOf:Str->Option NameKind} {x:Str} {v:Value}:∀ {P:List Str} {vs:List Value} {i:Nat} {m:Str->Option Value},P.Nodup->P[i]? = some x->vs[i]? = some v->kindOf x = some .local →
    bindL kindOf (P.zip vs) m x = some v
  | [],_,_,_,_,h,_,_=>by simp at h
  | _ :: _,[],_,_,_,_,h,_=>by simp at h
  | p :: P,w :: vs,0,m,nd,h1,h2,hk=>by
    simp at h1 h2; subst h1; subst h2
    show bindL kindOf ((p,w) :: P.zip vs) m p = _
    unfold bindL
    rw [a1P fun v hv=>(List.nodup_cons.mp nd).1 (List.of_mem_zip hv).1,if_pos hk]
    simp
  | p :: P,w :: vs,i + 1,m,nd,h1,h2,hk=>by
    show bindL kindOf ((p,w) :: P.zip vs) m x = _
    unfold bindL
    exact a2k (i:=i) (List.nodup_cons.mp nd).2 (by simpa using h1) (by simpa using h2) hk
theorem a1W {kindOf:Str->Option NameKind} {x:Str} {v:Value}:∀ {P:List Str} {vs:List Value} {i:Nat} {m:Str->Option Value},P.Nodup->P[i]? = some x->vs[i]? = some v->kindOf x ≠ some .local →
    bindC kindOf (P.zip vs) m x = some v
  | [],_,_,_,_,h,_,_=>by simp at h
  | _ :: _,[],_,_,_,_,h,_=>by simp at h
  | p :: P,w :: vs,0,m,nd,h1,h2,hk=>by
    simp at h1 h2; subst h1; subst h2
    show bindC kindOf ((p,w) :: P.zip vs) m p = _
    unfold bindC
    rw [a1M fun v hv=>(List.nodup_cons.mp nd).1 (List.of_mem_zip hv).1,if_neg hk]
    simp
  | p :: P,w :: vs,i + 1,m,nd,h1,h2,hk=>by
    show bindC kindOf ((p,w) :: P.zip vs) m x = _
    unfold bindC
    exact a1W (i:=i) (List.nodup_cons.mp nd).2 (by simpa using h1) (by simpa using h2) hk
def Q7 (N:List Str) (vs:List V):St:=vs.map some ++ List.replicate (N.length - vs.length) none
def J1 (CX:CXT) (P:Program) (w:World) (K:W.Frag) (mg:Str->Option Value) (base:Heap) (N:List Str) (qual:Str) (scope:Scope) (f:Addr) (cd:Value) (A:Around) (outer:List Env) (s:Shared) (H:Hp) (E:XK):Cx where
  prog:=P
  w:=w
  K:=K
  mg:=mg
  base:=base
  A:=A.deeper (envOfC qual scope s.heap.objs.size f cd)
  N:=N
  s₀:=s
  H₀:=H
  env:=envOfC qual scope s.heap.objs.size f cd
  outer:=outer
  stack:=envOfC qual scope s.heap.objs.size f cd :: outer
  ex:=[]
  calm:=true
  fn:=fun _=>true
  pn:=[]
  xe:=fun e s'=>wpAny (model P w) (A.deeper (envOfC qual scope s.heap.objs.size f cd)) (leaving (envOfC qual scope s.heap.objs.size f cd) e) (fun _ s''=>CX outer H s E e s'') (fun e' s''=>CX outer H s E e' s'') s'
theorem a3b {sc:Scope} {n:Nat} {x:Str} (h:sc.names.lookup x = some .cell):∃ c,(cellsFrom n sc.names []).lookup x = some c:=by
  have q:=W.cellsFrom_some sc.names n [] (.inl h)
  exact Option.isSome_iff_exists.mp q
theorem a6k {CX:CXT} {P:Program} {w:World} {K:W.Frag} {mg:Str->Option Value} {base:Heap} {N ps:List Str} {qual:Str} {scope:Scope} {f:Addr} {cd:Value} {A:Around} {outer:List Env} {s s1:Shared} {H:Hp} {E:XK} {us:List Value} {vs:List V}
    (S:j3 N ps scope) (hd:A.handled = none) (e0:Env0 P w K mg base A outer s H) (hl:vs.length = ps.length) (r:Vals vs us)
    (x:InCallC s s.heap.objs.size (bindL (envOfC qual scope s.heap.objs.size f cd).kindOf (ps.zip us) fun _=>none) (cellsFrom (s.heap.objs.size + 1) scope.names []) (bindC (envOfC qual scope s.heap.objs.size f cd).kindOf (ps.zip us) fun _=>none) s1) :
    Inv (J1 CX P w K mg base N qual scope f cd A outer s H E) [] (Q7 N vs) H s1:=by
  have hpl:ps.length <= N.length:=by have:=congrArg List.length S.pre; rw [List.length_take] at this; omega
  obtain ⟨h1,tk,rfl,hk⟩:=x.done
  have noA:∀ b:Addr,b ∉ (J1 CX P w K mg base N qual scope f cd A outer s H E).ex:=fun b z=>absurd (show b ∈ ([]:List Addr) from z) (by simp)
  refine ⟨⟨e0.mod,S.kind,rfl,rfl,Nat.le_refl _,fun y z c h1 h2=>?_,fun y hy=>?_,fun y c _ h=>?_,fun _=>hd,Around.frames_deeper e0.frames,.inr ⟨rfl,rfl⟩,fun b z=>absurd z (noA b),e0.bs,e0.bsz,fun b _ _=>noA b,fun b z=>absurd z (noA b),e0.funs,e0.frf⟩,
    rfl,e0.bare,Un.kept hk,⟨_,x.toInCall.ns,fun i y v h1 h2 h3=>?_⟩,fun y c h=>⟨_,x.cell y c h⟩,e0.hok.fresh (Nat.le_refl _),fun y c h=>?_,fun p hp=>absurd (show p ∈ ([]:List (Addr × Obj)) from hp) (by simp),e0.hok.kept hk,?_⟩
  . exact name_of_addr x.apart (PySem.mem_of_lookup h1) (PySem.mem_of_lookup h2)
  . have hy:scope.names.lookup y = some .cell \/ scope.names.lookup y = some .free:=hy
    rcases hy with hy | hy
    . exact a3b hy
    . exact absurd rfl (S.nofree _ (PySem.mem_of_lookup hy))
  . exact Nat.le_of_lt (x.above y c (PySem.mem_of_lookup h))
  . have hi:i < vs.length:=by
      unfold Q7 at h2
      by_cases hi:i < vs.length
      . exact hi
      . rw [List.getElem?_append_right (by simpa using hi)] at h2
        rw [List.getElem?_replicate] at h2
        split at h2 <;> cases h2
    have ha:vs[i]? = some v:=by
      unfold Q7 at h2
      rw [List.getElem?_append_left (by simpa using hi),List.getElem?_map] at h2
      cases e:vs[i]? with
      | none=>rw [e] at h2; cases h2
      | some a=>rw [e] at h2; cases h2; rfl
    obtain ⟨u,hu,rv⟩:=r.get ha
    have hp:ps[i]? = some y:=by
      rw [<- S.pre,List.getElem?_take_of_lt (by omega)]; exact h1
    have ndP:ps.Nodup:=by rw [<- S.pre]; exact S.nd.sublist (List.take_sublist _ _)
    refine ⟨u,rv,?_⟩
    rcases S.par y (List.mem_of_getElem? hp) with k | k
    . exact .inl ⟨k,a2k ndP hp hu k⟩
    . obtain ⟨c,e⟩:=a3b (n:=s.heap.objs.size + 1) k
      refine .inr ⟨.inl k,c,e,?_⟩
      have q:=x.cell y c e
      rw [a1W ndP hp hu (by show scope.names.lookup y ≠ _; rw [k]; decide)] at q
      exact q
  . exact e0.hok.fresh (Nat.le_of_lt (x.above y c (PySem.mem_of_lookup h)))
  . unfold Q7
    show _ = N.length
    rw [List.length_append,List.length_map,List.length_replicate]
    omega
theorem a7b {CX:CXT} {P:Program} {w:World} {K:W.Frag} {mg:Str->Option Value} {base:Heap} {k:Nat} {f:Addr} {name qual:Str} {params:Arguments} {body:List Stmt} {scope:Scope} {dV kV doc pm cdv ct oc:Value} {an od:Option Addr}
    {osl:Array (Option Value)} {N ps:List Str} {sp:Sp} (lk:K.lookup f = some ⟨oc,od,.func (W.fnOf name qual params body scope dV kV doc pm an cdv ct),osl⟩) (hcd:W.codeIn K cdv qual = true) (S:j3 N ps scope)
    (len:∀ vs H Q E,sp vs H Q E->vs.length = ps.length)
    (hbody:∀ (A:Around) (outer:List Env) (s:Shared) (H:Hp) (vs:List V) (Q:VK) (E:XK),Room k (A.deeper (envOfC qual scope s.heap.objs.size f cdv))->sp vs H Q E →
      ∃ t,PSs (J1 CX P w K mg base N qual scope f cdv A outer s H E) body t/\t { nx:=fun _ H'=>Q .non H',rt:=Q } (Q7 N vs) H) :
    FnOk P w K mg base CX (k + 1) f (W.fnOf name qual params body scope dV kV doc pm an cdv ct) ps sp:=by
  refine ⟨len,fun A outer s H args us vs Q E hr e0 hb r hsp=>?_⟩
  have hl:=len _ _ _ _ hsp
  have KX:K.In s.heap:=e0.mod.kin.keeps fun b o e=>(e0.bs b o e).1
  have lim:s.heap.NoLimit:=e0.mod.nolimit.keeps fun b o e=>(e0.bs b o e).1
  have hkind:∀ y ∈ ps.zip us,scope.names.lookup y.1 = some .local \/ (scope.names.lookup y.1 = some .cell/\((cellsFrom (s.heap.objs.size + 1) scope.names []).lookup y.1).isSome = true):=fun ⟨n,v⟩ hy=>by
    rcases S.par n (List.of_mem_zip hy).1 with q | q
    . exact .inl q
    . exact .inr ⟨q,W.cellsFrom_some _ _ _ (.inl q)⟩
  refine codeAny_call_function hr.depth (KX _ _ lk) rfl S.co S.gen rfl (W.codeRec_of KX hcd) (hb _ _ _ _ ?_)
  refine wpAny_newFunctionEnv_cells S.kind hkind fun env he s1 x=>?_
  subst he
  refine ⟨lim.keeps x.toInCall.keep,codeAny_func ?_⟩
  obtain ⟨t,ht,hq⟩:=hbody A outer s H vs Q E (hr.deeper _) hsp
  have I:Inv (J1 CX P w K mg base N qual scope f cdv A outer s H E) [] (Q7 N vs) H s1:=a6k S hr.hd e0 hl r x
  refine wpAny_mono (ht [] s1 (Q7 N vs) H _ I hq) (fun fl s' hs=>?_) fun e s' hs=>hs
  have fin:∀ {σ':St} {H':Hp} {v:V} {u:Value},Inv (J1 CX P w K mg base N qual scope f cdv A outer s H E) [] σ' H' s'->RelV v u->Q v H'->CE outer P w H s Q u s' :=
    fun {σ' H' v u} J rv q=>⟨v,H',J.os,J.bare,J.base,J.hok,rv,q⟩
  cases fl with
  | ret u =>
    obtain ⟨v,σ',H',J,rv,q⟩:=hs
    exact fin J rv q
  | next =>
    obtain ⟨σ',H',J,q⟩:=hs
    exact fin (v:=V.non) (u:=Value.none) J rfl q
  | brk =>
    obtain ⟨_,_,_,q⟩:=hs
    exact False.elim q
  | cont =>
    obtain ⟨_,_,_,q⟩:=hs
    exact False.elim q
end L2
namespace L2
open PySem PySem.Spec PyProof.Rows
section
variable {X:Cx} {x:Str} {p pos:Pos} {e:Expr} {es:List Expr} {t:TA} {id T:String} {r:List V->Hp->VK->Prop}
def tCB (r:List V->Hp->VK->Prop) (t:TA):TE:=fun σ H Q=>t σ H fun vs H1=>r vs H1 Q
theorem m9 (hc:G4 X (.builtin id) r) (hg:Gl X x) (hm:X.mg x = none) (hv:bootBuiltins x = some (.builtin id)) (ha:PA X (e :: es) t) (hn:x ≠ "__name__":=by decide) (hdb:(x == ("__debug__":Str)) = false:=by decide)
    (he:starEach (e :: es) X.env = (false,eval e X.env) :: starEach es X.env:=by rfl) (hpl:(backTo pos (starEach es X.env)).any (·.1) = false:=by rfl):PE X (.Call (.Name x p) (e :: es) [] pos) (tCB r t):=by
  intro pins s σ H Q I h
  refine wpAny_Call_Name_kw (P2 I hg hm hv ?_ hn hdb)
  exact PyProof.Rows.callWith_builtin1 (v8 (ha pos pins s σ H _ I h) fun us s1 ⟨vs,H1,I1,r1,q1⟩=>hc pins s1 σ H1 vs us Q I1 r1 q1) he hpl
theorem u0 (hc:G4 X (.type T) r) (hg:Gl X x) (hm:X.mg x = none) (hv:bootBuiltins x = some (.type T)) (ha:PA X (e :: es) t) (hn:x ≠ "__name__":=by decide) (hdb:(x == ("__debug__":Str)) = false:=by decide)
    (he:starEach (e :: es) X.env = (false,eval e X.env) :: starEach es X.env:=by rfl) (hpl:(backTo pos (starEach es X.env)).any (·.1) = false:=by rfl):PE X (.Call (.Name x p) (e :: es) [] pos) (tCB r t):=by
  intro pins s σ H Q I h
  refine wpAny_Call_Name_kw (P2 I hg hm hv ?_ hn hdb)
  exact PyProof.Rows.callWith_type1 (v8 (ha pos pins s σ H _ I h) fun us s1 ⟨vs,H1,I1,r1,q1⟩=>hc pins s1 σ H1 vs us Q I1 r1 q1) he hpl
end
end L2
namespace HT
open PySem PyProof.Rows
section
open PySem.SeqAt
open PySem.AutoSeq1 (wpAny_loadPart')
open PySem.MeetsSeq PySem.MeetsSeq2 PySem.MeetsSeq3
end
section
variable {prog:Program} {w:World} {A:Around} {E:Value->Shared->Prop} {s:Shared}
def sIx (n d:Nat):Option Int->Nat
  | none=>d
  | some v=>if v < 0 then (v + (n:Int)).toNat else min v.toNat n
theorem sIx_none (n d:Nat):sIx n d none = d:=rfl
theorem sIx_nat (n d k:Nat):sIx n d (some (k:Int)) = min k n:=by
  show (if (k:Int) < 0 then ((k:Int) + (n:Int)).toNat else min (k:Int).toNat n) = min k n
  rw [if_neg (by omega),Int.toNat_natCast]
end
end HT
namespace L2
open PySem PySem.Spec PyProof.Rows
abbrev TO:=St->Hp->(Option Int->Hp->Prop)->Prop
def PO (X:Cx) (e:Option Expr) (t:TO):Prop :=
  ∀ (pins:List (Addr × Obj)) (s:Shared) (σ:St) (H:Hp) (Q:Option Int->Hp->Prop),Inv X pins σ H s->t σ H Q →
    wpAny (model X.prog X.w) X.A (evalPart e X.env) (fun u s'=>∃ o H',Inv X pins σ H' s'/\IsPart u o/\Q o H') X.xe s
def a8V:TO:=fun _ H Q=>Q none H
def b1L (t:TE):TO:=fun σ H Q=>t σ H fun x H1=>∃ i,x = .int i/\Q (some i) H1
section
variable {X:Cx} {e:Expr} {te:TE} {lo hi:Option Expr} {tl th:TO} {pos p2:Pos}
theorem P5:PO X none a8V:=by
  intro pins s σ H Q I h
  rw [evalPart_none]
  exact wpAny_pure ⟨none,H,I,.none,h⟩
theorem y6 (h:PE X e te):PO X (some e) (b1L te):=by
  intro pins s σ H Q I hw
  rw [evalPart_some]
  refine v8 (h pins s σ H _ I hw) fun u s1 ⟨x,H1,I1,r1,q1⟩=>?_
  obtain ⟨i,rfl,q⟩:=q1
  obtain ⟨t,rfl⟩:=r1
  exact ⟨some i,H1,I1,.int i t,q⟩
def SlR (X:Cx) (r:V->Option Int->Option Int->Hp->VK->Prop):Prop :=
  ∀ (pins:List (Addr × Obj)) (s:Shared) (σ:St) (H:Hp) (x:V) (v vl vu:Value) (lo hi:Option Int) (sl:Addr) (Q:VK),Inv X pins σ H s->RelV x v->s.heap.IsSliceOf sl vl vu .none->IsPart vl lo->IsPart vu hi->r x lo hi H Q →
    ∃ T id,typeLookup (.type T) "__getitem__" = pure (some (.builtin id))/\s.TypeIs v T/\wpAny (model X.prog X.w) X.A (getItem v (.ref sl)) (EP X pins σ Q) X.xe s
def tSl (r:V->Option Int->Option Int->Hp->VK->Prop) (te:TE) (tl th:TO):TE:=fun σ H Q=>te σ H fun x H1=>tl σ H1 fun l H2=>th σ H2 fun u H3=>r x l u H3 Q
theorem A8 {r:V->Option Int->Option Int->Hp->VK->Prop} (hr:SlR X r) (he:PE X e te) (hl:PO X lo tl) (hu:PO X hi th):PE X (.Subscript e (.Slice lo hi none p2) pos) (tSl r te tl th):=by
  intro pins s σ H Q I h
  refine Subscript_ (v8 (he pins s σ H _ I h) fun v s1 ⟨x,H1,I1,r1,q1⟩=>?_)
  refine wpAny_Slice (v8 (hl pins s1 σ H1 _ I1 q1) fun vl s2 ⟨l,H2,I2,pl,q2⟩=>v8 (hu pins s2 σ H2 _ I2 q2) fun vu s3 ⟨u,H3,I3,pu,q3⟩=>?_)
  rw [evalPart_none]
  refine wpAny_pure ?_
  have I4:Inv X pins σ H3 { s3 with heap:=s3.heap.push { cls:=.type "slice",data:=.fields #[vl,vu,.none] } }:=I3.kept (t':=s3.toks) fun b ob q=>Heap.get?_push_of_some _ q
  obtain ⟨T,id,hT,ht,hg⟩:=hr pins { s3 with heap:=s3.heap.push { cls:=.type "slice",data:=.fields #[vl,vu,.none] } } σ H3 x v vl vu l u s3.heap.objs.size Q I4 r1 (Heap.IsSliceOf.new ..) pl pu q3
  show wpAny (model X.prog X.w) X.A (subscriptTail e (.Slice lo hi none p2) v (.ref s3.heap.objs.size)) (EP X pins σ Q) X.xe { s3 with heap:=s3.heap.push { cls:=.type "slice",data:=.fields #[vl,vu,.none] } }
  exact tail_any (ops:=[.ref s3.heap.objs.size,v]) ht hT hg (by with_unfolding_all rfl)
def C5 (xs:List V) (lo hi:Option Int):List V:=(xs.drop (HT.sIx xs.length 0 lo)).take (HT.sIx xs.length xs.length hi - HT.sIx xs.length 0 lo)
theorem a0n (xs:List V) (lo hi:Option Int):(C5 xs lo hi).length <= xs.length:=by
  unfold C5
  rw [List.length_take,List.length_drop]
  omega
end
end L2
namespace L2
open PySem PySem.Spec PyProof.Rows
def ixN (n:Nat) (i:Int):Option Nat:=if 0 <= i then (if i < n then some i.toNat else none) else if -(n:Int) <= i then some (i + n).toNat else none
def X3 {α:Type} (xs:List α) (i:Int):Option α:=(ixN xs.length i).bind fun j=>xs[j]?
theorem a4L {n:Nat} {i:Int} {j:Nat} (h:ixN n i = some j):seqIndex? i n = some j/\j < n/\-(n:Int) <= i/\i < n:=by
  unfold ixN at h
  by_cases h0:0 <= i
  . rw [if_pos h0] at h
    by_cases h1:i < n
    . rw [if_pos h1] at h
      have e:i.toNat = j:=Option.some.inj h
      exact ⟨by rw [seqIndex_of h0 h1,e],by omega,by omega,h1⟩
    . rw [if_neg h1] at h; cases h
  . rw [if_neg h0] at h
    by_cases h1:-(n:Int) <= i
    . rw [if_pos h1] at h
      have e:(i + n).toNat = j:=Option.some.inj h
      exact ⟨by rw [seqIndex_neg (by omega) h1,e],by omega,h1,by omega⟩
    . rw [if_neg h1] at h; cases h
theorem a5I {α:Type} {xs:List α} {i:Int} {v:α} (h:X3 xs i = some v):∃ j,seqIndex? i xs.length = some j/\xs[j]? = some v/\j < xs.length/\-(xs.length:Int) <= i/\i < xs.length:=by
  unfold X3 at h
  cases e:ixN xs.length i with
  | none=>rw [e] at h; cases h
  | some j =>
    rw [e] at h
    obtain ⟨h1,h2,h3,h4⟩:=a4L e
    exact ⟨j,h1,h,h2,h3,h4⟩
theorem E4 {α:Type} {xs:List α} {j:Nat} {v:α} (h:xs[j]? = some v):X3 xs (j:Int) = some v:=by
  have hj:j < xs.length:=(List.getElem?_eq_some_iff.mp h).1
  have e:ixN xs.length (j:Int) = some j:=by
    unfold ixN
    rw [if_pos (by omega),if_pos (by omega)]; simp
  unfold X3; rw [e]; exact h
theorem a8h {α:Type} (xs:List α) (v:α):X3 (xs ++ [v]) (-1) = some v:=by
  have hl:(xs ++ [v]).length = xs.length + 1:=by simp
  have e:ixN (xs ++ [v]).length (-1) = some xs.length:=by
    unfold ixN
    rw [hl,if_neg (by decide),if_pos (by omega)]
    congr 1
    omega
  unfold X3
  rw [e]
  show (xs ++ [v])[xs.length]? = some v
  simp
def a8M (b:Expr):Prop:=∀ o i,subscripted b false o i = operate [o,i] (getItem o i)
def IxR (X:Cx) (r:R2):Prop :=
  ∀ (value slice:Expr) (pins:List (Addr × Obj)) (s:Shared) (σ:St) (H:Hp) (x y:V) (v u:Value) (Q:VK),Inv X pins σ H s->RelV x v->RelV y u->r x y H Q →
    subscripted slice false v u = operate [v,u] (getItem v u)->wpAny (model X.prog X.w) X.A (subscriptTail value slice v u) (EP X pins σ Q) X.xe s
def MtR (X:Cx) (id:String) (r:V->List V->Hp->VK->Prop):Prop :=
  ∀ (pins:List (Addr × Obj)) (s:Shared) (σ:St) (H:Hp) (x:V) (xs:List V) (v:Value) (us:List Value) (Q:VK),Inv X pins σ H s->RelV x v->Vals xs us->r x xs H Q →
    wpAny (model X.prog X.w) X.A (call (.builtin id) (v :: us)) (EP X pins σ Q) X.xe s
section
variable {X:Cx} {a b:Expr} {ta tb:TE} {pos:Pos}
theorem j0 {r:R2} (hr:IxR X r) (ha:PE X a ta) (hb:PE X b tb) (hs:a8M b):PE X (.Subscript a b pos) (tOp r ta tb):=by
  intro pins s σ H Q I h
  exact Subscript_ (b1m ha hb I h fun v u s2 x y H2 I2 rx ry q=>hr a b pins s2 σ H2 x y v u Q I2 rx ry q (hs _ _))
def b1x (K:W.Frag):R2:=fun x y H Q=>∃ p xs i v,x = .ref p/\y = .int i/\SqL K H p xs/\X3 xs i = some v/\Q v H
def b1B (K:W.Frag):R2:=fun x y H Q=>∃ p xs i v,x = .ref p/\y = .int i/\SqT K H p xs/\X3 xs i = some v/\Q v H
theorem i8:IxR X (b1x X.K):=by
  intro value slice pins s σ H x y v u Q I rx ry h hs
  obtain ⟨p,xs,i,z,rfl,rfl,hq,he,q⟩:=h
  cases rx
  obtain ⟨t,rfl⟩:=ry
  obtain ⟨its,r,pl,hz⟩:=I.list hq
  obtain ⟨j,h1,h2,h3,h4,h5⟩:=a5I he
  obtain ⟨w,ew,rw'⟩:=r.get h2
  have hl:=r.length
  have hn:=a0O
  have fin:EP X pins σ Q w s:=⟨z,H,I,rw',q⟩
  by_cases h0:0 <= i
  . have hj:i.toNat = j:=by
      rw [seqIndex_of h0 h5] at h1
      exact Option.some.inj h1
    exact item_listR pl.isList h0 (by omega) (by rw [hj]; simpa using ew) fin hs
  . have hj:(i + (its.toArray.size:Int)).toNat = j:=by
      rw [seqIndex_neg (by omega) h4] at h1
      rw [List.size_toArray,<- hl]
      exact Option.some.inj h1
    exact subscriptTail_builtinR (x:=w) pl.isList.typeIs slot_list_getitem.lookup
      (wpAny_getItem_list_neg (Q:=fun r s'=>r = w/\EP X pins σ Q r s') pl.isList (by omega) (by rw [List.size_toArray] <;> omega) (by omega) (by rw [hj]; simpa using ew) ⟨rfl,fin⟩) hs
theorem C7:IxR X (b1B X.K):=by
  intro value slice pins s σ H x y v u Q I rx ry h hs
  obtain ⟨p,xs,i,z,rfl,rfl,hq,he,q⟩:=h
  cases rx
  obtain ⟨t,rfl⟩:=ry
  obtain ⟨its,r,pl,hz⟩:=I.tuple hq
  obtain ⟨j,h1,h2,h3,h4,h5⟩:=a5I he
  obtain ⟨w,ew,rw'⟩:=r.get h2
  have hl:=r.length
  have hn:=a0O
  have fin:EP X pins σ Q w s:=⟨z,H,I,rw',q⟩
  exact subscriptTail_builtinR (x:=w) pl.typeIs slot_tuple_getitem.lookup
    (getItem_tuple (j:=j) (Q:=fun r s'=>r = w/\EP X pins σ Q r s') pl (by omega) (by omega) (by rw [List.size_toArray,<- hl]; exact h1) (by simpa using ew) ⟨rfl,fin⟩) hs
theorem a4D (its:List Value) (n j:Nat) (u:Value):Obj.mapSeq (·.setIfInBounds j u) { cls:=.type "list",data:=.seq its.toArray n } = { cls:=.type "list",data:=.seq (its.set j u).toArray n }:=by
  simp [Obj.mapSeq]
theorem Inv.lst {pins:List (Addr × Obj)} {σ:St} {H:Hp} {s:Shared} {p:Addr} {xs:List V} (I:Inv X pins σ H s) (h:H p = some (.lst xs)) :
    ∃ (its:List Value) (n:Nat),Vals xs its/\s.heap.get? p = some { cls:=.type "list",data:=.seq its.toArray n }/\xs.length <= sizeLine:=by
  obtain ⟨z,its,n,r,e⟩:=I.hok p _ h
  exact ⟨its,n,r,e,z⟩
theorem Inv.lstUpd {pins:List (Addr × Obj)} {σ:St} {H:Hp} {s:Shared} {p:Addr} {xs ys:List V} {its its':List Value} {n n':Nat} {f:Obj->Obj} (I:Inv X pins σ H s) (h:H p = some (.lst xs))
    (ho:s.heap.get? p = some { cls:=.type "list",data:=.seq its.toArray n }) (hf:f { cls:=.type "list",data:=.seq its.toArray n } = { cls:=.type "list",data:=.seq its'.toArray n' }) (r:Vals ys its') (hz:ys.length <= sizeLine) (t:Nat) :
    Inv X pins σ (m5 H p (.lst ys)) { s with heap:=s.heap.update p f,toks:=t }:=by
  have e:(s.heap.update p f).get? p = some { cls:=.type "list",data:=.seq its'.toArray n' }:=by
    rw [Heap.get?_update_self f ho (by rw [hf] <;> rfl),hf]
  refine I.write (x:=p) (e:=p) (by rw [h]; trivial) (.inl rfl) (fun b u hb q=>(Heap.get?_update_other _ _ (Ne.symm hb)).trans q) ⟨_,e⟩ ?_
  exact ⟨hz,its',n',r,e⟩
def b2l:V->V->V->Hp->(Hp->Prop)->Prop:=fun o i v H Q=>∃ p xs k j,o = .ref p/\i = .int k/\H p = some (.lst xs)/\ixN xs.length k = some j/\Q (m5 H p (.lst (xs.set j v)))
theorem K6:b1E X b2l:=by
  intro pins s σ H o i v ov iv u Q I ro ri rv h
  obtain ⟨p,xs,k,j,rfl,rfl,hp,hj,q⟩:=h
  cases ro
  obtain ⟨t,rfl⟩:=ri
  obtain ⟨its,n,r,ho,hz⟩:=I.lst hp
  obtain ⟨h1,h2,h3,h4⟩:=a4L hj
  have hl:=r.length
  have hn:=a0O
  have I':Inv X pins σ (m5 H p (.lst (xs.set j v))) { s with heap:=s.heap.update p (Obj.mapSeq (·.setIfInBounds j u)) } :=
    I.lstUpd hp ho (a4D its n j u) (r.set rv j) (by rw [List.length_set]; exact hz) s.toks
  by_cases h0:0 <= k
  . have hk:k.toNat = j:=by
      rw [seqIndex_of h0 h4] at h1
      exact Option.some.inj h1
    exact W.ki_setAt ho h0 (by omega) (by rw [List.size_toArray,<- hl]; exact h4) (by rw [hk]; exact ⟨_,I',q⟩)
  . have hk:(k + (its.toArray.size:Int)).toNat = j:=by
      rw [seqIndex_neg (by omega) h3] at h1
      rw [List.size_toArray,<- hl]
      exact Option.some.inj h1
    exact W.ki_setBack ho (by omega) (by rw [List.size_toArray,<- hl]; exact h3) (by omega) (by rw [hk]; exact ⟨_,I',q⟩)
theorem a2U (lo hi:Option Int) (n:Nat):(sliceBounds lo hi none n).1 = ((HT.sIx n 0 lo:Nat):Int)/\(sliceBounds lo hi none n).2.1 = ((HT.sIx n n hi:Nat):Int)/\(sliceBounds lo hi none n).2.2 = 1:=by
  refine ⟨?_,?_,rfl⟩
  . cases lo with
    | none=>simp [sliceBounds,HT.sIx]
    | some i =>
      simp only [sliceBounds,HT.sIx,Option.getD_none,show (1:Int) > 0 by decide,if_true]
      by_cases h:i < 0
      . simp only [h,if_true] <;> omega
      . simp only [h,if_false] <;> omega
  . cases hi with
    | none=>simp [sliceBounds,HT.sIx]
    | some i =>
      simp only [sliceBounds,HT.sIx,Option.getD_none,show (1:Int) > 0 by decide,if_true]
      by_cases h:i < 0
      . simp only [h,if_true] <;> omega
      . simp only [h,if_false] <;> omega
theorem a1D (its:List Value) (lo hi:Option Int):slicePick its.toArray lo hi none = ((its.drop (HT.sIx its.length 0 lo)).take (HT.sIx its.length its.length hi - HT.sIx its.length 0 lo)).toArray:=by
  obtain ⟨h1,h2,h3⟩:=a2U lo hi its.toArray.size
  unfold slicePick
  rw [h1,h2,h3]
  simp only [sliceRange_one,pick_run,List.size_toArray] <;> rfl
def b3i (K:W.Frag):V->Option Int->Option Int->Hp->VK->Prop:=fun x lo hi H Q=>∃ a xs,x = .ref a/\SqL K H a xs/\∀ p,H p = none->Q (.ref p) (m5 H p (.lst (C5 xs lo hi)))
theorem D8:SlR X (b3i X.K):=by
  intro pins s σ H x v vl vu lo hi sl Q I rx hs pl pu h
  obtain ⟨a,xs,rfl,hx,q⟩:=h
  cases rx
  obtain ⟨its,r,ht,hz⟩:=I.list hx
  have hlen:=r.length
  refine ⟨"list",_,slot_list_getitem.lookup,ht.isList.typeIs,?_⟩
  refine wpAny_getItem_list_slice ht.isList hs pl pu .none (by simp) ?_ (by rw [List.size_toArray] <;> omega)
  rw [a1D,<- hlen]
  refine ⟨.ref s.heap.objs.size,_,I.laid (t':=s.toks) (o:=.lst (C5 xs lo hi)) (fun b ob q=>Heap.get?_push_of_some _ q) (Nat.le_refl _) ?_,rfl,q _ (I.hok.fresh (Nat.le_refl _))⟩
  exact ⟨Nat.le_trans (a0n xs lo hi) hz,_,0,(r.drop (HT.sIx xs.length 0 lo)).take (HT.sIx xs.length xs.length hi - HT.sIx xs.length 0 lo),Heap.get?_push_size _ rfl⟩
theorem j8:G4 X (.builtin "len") (fun xs H Q=>∃ p ys,xs = [.ref p]/\(SqL X.K H p ys \/ SqT X.K H p ys)/\Q (.int ys.length) H):=by
  intro pins s σ H xs us Q I r h
  obtain ⟨p,ys,rfl,hq,q⟩:=h
  obtain ⟨u,rfl,rx⟩:=N4 r
  cases rx
  have hn:=a0O
  rcases hq with hq | hq
  . obtain ⟨its,r',pl,hz⟩:=I.list hq
    have hlen:=r'.length
    exact Calls.call_len_list pl.isList (by simp only [List.size_toArray] <;> omega) ⟨.int ys.length,H,I.tok _,⟨s.toks + 1,by rw [List.size_toArray,hlen]⟩,q⟩
  . obtain ⟨its,r',pl,hz⟩:=I.tuple hq
    have hlen:=r'.length
    exact len_tuple pl (by simp only [List.size_toArray] <;> omega) ⟨.int ys.length,H,I.tok _,⟨s.toks + 1,by rw [List.size_toArray,hlen]⟩,q⟩
theorem x9:G4 X (.type "list") (fun xs H Q=>∃ p ys,xs = [.ref p]/\(SqL X.K H p ys \/ SqT X.K H p ys)/\∀ l,H l = none->Q (.ref l) (m5 H l (.lst ys))):=by
  intro pins s σ H xs us Q I r h
  obtain ⟨p,ys,rfl,hq,q⟩:=h
  obtain ⟨u,rfl,rx⟩:=N4 r
  cases rx
  have fin:∀ (its:List Value),Vals ys its->ys.length <= sizeLine->∀ (h':Heap) (c':Nat),(∀ b o',s.heap.get? b = some o'->h'.get? b = some o') →
      h'.get? s.heap.objs.size = some { cls:=.type "list",dict:=none,data:=.seq its.toArray c',slots:=#[] }->EP X pins σ Q (.ref s.heap.objs.size) { s with heap:=h' }:=fun its r' hz h' c' kp e =>
    ⟨.ref s.heap.objs.size,_,I.laid (t':=s.toks) kp (Nat.le_refl _) (show ObjOk X.prog X.w _ h' _ (.lst ys) from ⟨hz,its,c',r',e⟩),rfl,q _ (I.hok.fresh (Nat.le_refl _))⟩
  rcases hq with hq | hq
  . obtain ⟨its,r',pl,hz⟩:=I.list hq
    have hlen:=r'.length
    obtain ⟨o,ho,hc,n,hd⟩:=pl.isList
    exact call_list_seq p (.inl rfl) ho hc hd (fun h' c' kp e=>fin its r' hz h' c' kp e) (by simp only [List.size_toArray] <;> omega)
  . obtain ⟨its,r',pl,hz⟩:=I.tuple hq
    have hlen:=r'.length
    obtain ⟨o,ho,hc,n,hd⟩:=pl
    exact call_list_seq p (.inr rfl) ho hc hd (fun h' c' kp e=>fin its r' hz h' c' kp e) (by simp only [List.size_toArray] <;> omega)
theorem U2:G4 X (.type "tuple") (fun xs H Q=>∃ p ys,xs = [.ref p]/\((SqL X.K H p ys/\∀ l,H l = none->Q (.ref l) (m5 H l (.tup ys))) \/ (SqT X.K H p ys/\Q (.ref p) H))):=by
  intro pins s σ H xs us Q I r h
  obtain ⟨p,ys,rfl,h⟩:=h
  obtain ⟨u,rfl,rx⟩:=N4 r
  cases rx
  rcases h with ⟨hq,q⟩ | ⟨hq,q⟩
  . obtain ⟨its,r',pl,hz⟩:=I.list hq
    have hlen:=r'.length
    refine call_tuple_list pl.isList (fun h' kp=>?_) (by simp only [List.size_toArray] <;> omega)
    have I1:Inv X pins σ H { s with heap:=h' }:=I.kept (t':=s.toks) kp
    have I2:Inv X pins σ (m5 H h'.objs.size (.tup ys)) { s with heap:=h'.push { cls:=.type "tuple",data:=.seq its.toArray } } :=
      I1.laid (t':=s.toks) (fun b o e=>Heap.get?_push_of_some _ e) (Nat.le_refl _) (show ObjOk X.prog X.w _ _ _ (.tup ys) from ⟨hz,its,r',IsTup.new _ _⟩)
    exact ⟨.ref h'.objs.size,_,I2,rfl,q _ (I1.hok.fresh (Nat.le_refl _))⟩
  . obtain ⟨its,r',pl,hz⟩:=I.tuple hq
    exact call_tuple_same pl ⟨.ref p,H,I,rfl,q⟩
def tyV (K:W.Frag) (T:String) (x:V) (H:Hp):Prop:=match x with
  | .str _=>T = "str"
  | .int _=>T = "int"
  | .ref p=>(T = "list"/\∃ xs,SqL K H p xs) \/ (T = "tuple"/\∃ o,K.lookup p = some o/\o.cls = .type "tuple"/\o.dict = none) ∨
      (T = "dict"/\((∃ kvs,H p = some (.dK kvs)) \/ ∃ kvs,H p = some (.dT kvs))) \/ (T = "set"/\∃ S n,H p = some (.set S n))
  | _=>False
theorem a7t {pins:List (Addr × Obj)} {σ:St} {H:Hp} {s:Shared} {T:String} {x:V} {v:Value} (I:Inv X pins σ H s) (r:RelV x v) (ty:tyV X.K T x H) :
    s.TypeIs v T/\∀ a,v = .ref a->∃ ob,s.heap.get? a = some ob/\ob.dict = none:=by
  cases x with
  | str z =>
    obtain ⟨t,rfl⟩:=r
    cases (show T = "str" from ty)
    exact ⟨typeIs_str s z t,fun _ e=>nomatch e⟩
  | int i =>
    obtain ⟨t,rfl⟩:=r
    cases (show T = "int" from ty)
    exact ⟨typeIs_int s i t,fun _ e=>nomatch e⟩
  | ref p =>
    cases r
    rcases ty with ⟨rfl,xs,hq⟩ | ⟨rfl,o,hk,hc,hd⟩ | ⟨rfl,hk⟩ | ⟨rfl,S,n,hk⟩
    . obtain ⟨its,_,pl,_⟩:=I.list hq
      refine ⟨pl.isList.typeIs,fun a e=>?_⟩
      cases e
      obtain ⟨o,n,e,c,hd,_⟩:=pl
      exact ⟨o,e,hd⟩
    . refine ⟨⟨o,I.kIn p o hk,hc⟩,fun a e=>?_⟩
      cases e
      exact ⟨o,I.kIn _ o hk,hd⟩
    . have z:∃ o,s.heap.get? p = some o/\o.ExactDict:=by
        rcases hk with ⟨kvs,hk⟩ | ⟨kvs,hk⟩
        . obtain ⟨_,_,_,_,o,_,_,e,ex,_⟩:=I.hok p _ hk
          exact ⟨o,e,ex⟩
        . obtain ⟨_,_,_,_,o,_,_,e,ex,_⟩:=I.hok p _ hk
          exact ⟨o,e,ex⟩
      obtain ⟨o,e,ex⟩:=z
      refine ⟨⟨o,e,ex.1⟩,fun a e2=>?_⟩
      cases e2
      exact ⟨o,e,ex.2.1⟩
    . obtain ⟨o,_,_,_,e,ex,_⟩:=I.hok p _ hk
      refine ⟨⟨o,e,ex.1⟩,fun a e2=>?_⟩
      cases e2
      exact ⟨o,e,ex.2.1⟩
  | _=>exact False.elim ty
def b3I (K:W.Frag) (T:String) (r:V->List V->Hp->VK->Prop) (to:TE):TE:=fun σ H Q=>to σ H fun x H1=>tyV K T x H1/\r x [] H1 Q
def tBM (K:W.Frag) (T:String) (r:V->List V->Hp->VK->Prop) (to:TE) (t:TA):TE:=fun σ H Q=>to σ H fun x H1=>tyV K T x H1/\t σ H1 fun xs H2=>r x xs H2 Q
variable {o e:Expr} {es:List Expr} {to:TE} {t:TA} {name:Str} {apos cpos:Pos} {T id:String} {r:V->List V->Hp->VK->Prop}
theorem b1o (pa:PlainAttrs T) (slot:Slot T name id) (hty:typeOf (.builtin id) = pure (.type "method_descriptor")) (hm:MtR X id r) (ho:PE X o to)
    (hbase:attributeBase o name X.env (eval o X.env) = eval o X.env:=by rfl) (hline:(apos.endLine == cpos.line) = true:=by rfl):PE X (.Call (.Attribute o name apos) [] [] cpos) (b3I X.K T r to):=by
  intro pins s σ H Q I h
  refine wpAny_Call_method0_late hbase hline (v8 (ho pins s σ H _ I h) fun v s1 ⟨x,H1,I1,r1,ty,q1⟩=>?_)
  obtain ⟨h1,h2⟩:=a7t I1 r1 ty
  exact ⟨T,id,pa,slot,hty,h1,h2,Calls.callWith_builtin rfl (PySem.evalArgs_none (hm pins s1 σ H1 x [] v [] Q I1 r1 .nil q1))⟩
theorem a1N (pa:PlainAttrs T) (slot:Slot T name id) (hty:typeOf (.builtin id) = pure (.type "method_descriptor")) (hm:MtR X id r) (ho:PE X o to) (ha:PA X (e :: es) t)
    (hbase:attributeBase o name X.env (eval o X.env) = eval o X.env:=by rfl)
    (hfew:((backTo cpos (starEach (e :: es) X.env)).all (fun x=>!x.1) && (backToKw cpos (keywordEach [] X.env)).all (fun x=>x.1.isSome)
      && decide ((e :: es).length + ([]:List Keyword).length + (if ([]:List Keyword).isEmpty then 0 else 1) < 30)) = true:=by rfl)
    (hline:(apos.endLine == cpos.line) = true:=by rfl) (hs:starEach (e :: es) X.env = (false,eval e X.env) :: starEach es X.env:=by rfl) (hplain:(backTo cpos (starEach es X.env)).any (·.1) = false:=by rfl) :
    PE X (.Call (.Attribute o name apos) (e :: es) [] cpos) (tBM X.K T r to t):=by
  intro pins s σ H Q I h
  refine wpAny_Call_method_late hbase hfew hline rfl (v8 (ho pins s σ H _ I h) fun v s1 ⟨x,H1,I1,r1,ty,q1⟩=>?_)
  obtain ⟨h1,h2⟩:=a7t I1 r1 ty
  refine ⟨T,id,pa,slot,hty,h1,h2,?_⟩
  have hA:=ha cpos pins s1 σ H1 _ I1 q1
  rw [hs] at hA ⊢
  refine Calls.callWith_builtin (by show (false || (backTo cpos (starEach es X.env)).any (·.1)) = false; rw [hplain] <;> rfl) (Calls.evalArgs_plain ?_)
  exact v8 hA fun us s2 ⟨vs,H2,I2,r2,q2⟩=>hm pins s2 σ H2 x vs v us Q I2 r1 r2 q2
/- xs.append(e),list.index on a module's tuple .. are MtR facts of 06m -/
end
end L2
namespace L2
open PySem PySem.Spec PyProof.Rows
def MtM (X:Cx) (id:String) (r:V->List V->Hp->VK->Prop):Prop :=
  ∀ (pins:List (Addr × Obj)) (s:Shared) (σ:St) (H:Hp) (x:V) (xs:List V) (v:Value) (us:List Value) (Q:VK),Inv X pins σ H s->RelV x v->Vals xs us->r x xs H Q →
    wpAny (model X.prog X.w) X.A (call (.builtin id) (v :: us)) (EP X pins σ Q) X.xe s
theorem Vals.one:∀ {x:V} {us:List Value},Vals [x] us->∃ u,us = [u]/\RelV x u
  | _,_,.cons r .nil=>⟨_,rfl,r⟩
theorem Vals.zero:∀ {us:List Value},Vals [] us->us = []
  | _,.nil=>rfl
theorem Vals.dropLast {xs:List V} {us:List Value} (h:Vals xs us):Vals xs.dropLast us.dropLast:=by
  induction h with
  | nil=>exact .nil
  | cons r t ih =>
    cases t with
    | nil=>exact .nil
    | cons q t'=>exact .cons r ih
theorem Vals.rep {xs:List V} {us:List Value} (h:Vals xs us):∀ k:Nat,Vals (List.replicate k xs).flatten (List.replicate k us).flatten
  | 0=>.nil
  | k + 1=>by
    rw [List.replicate_succ,List.replicate_succ,List.flatten_cons,List.flatten_cons]
    exact Vals.append h (Vals.rep h k)
theorem a4u {α:Type} (l:List α):l.eraseIdx (l.length - 1) = l.dropLast:=by
  induction l with
  | nil=>rfl
  | cons a r ih =>
    cases r with
    | nil=>rfl
    | cons b r =>
      have e:(a :: b :: r).length - 1 = ((b :: r).length - 1) + 1:=by
        have h1:(a :: b :: r).length = r.length + 2:=rfl
        have h2:(b :: r).length = r.length + 1:=rfl
        omega
      rw [e,List.eraseIdx_cons_succ,ih]
      all_goals rfl
theorem a1Y (its:List Value):∀ (k:Nat) (acc:List Value),
    List.foldl (fun x1 x2=>x1 ++ x2) acc.toArray (List.replicate k its.toArray) = (acc ++ (List.replicate k its).flatten).toArray
  | 0,acc=>by simp
  | k + 1,acc=>by
    have e:acc.toArray ++ its.toArray = (acc ++ its).toArray:=by simp
    have e2:(acc ++ its) ++ (List.replicate k its).flatten = acc ++ (List.replicate (k + 1) its).flatten:=by
      rw [List.replicate_succ,List.flatten_cons,List.append_assoc]
    rw [<- e2,<- a1Y its k (acc ++ its),<- e,List.replicate_succ,List.foldl_cons]
section
variable {X:Cx} {pins:List (Addr × Obj)} {σ:St} {H:Hp} {s:Shared} {l b:Addr} {xs ys zs:List V}
theorem Inv.lset {its its':List Value} {n:Nat} {f:Array Value->Array Value} {t':Nat} (I:Inv X pins σ H s) (hH:H l = some (.lst xs))
    (e:s.heap.get? l = some { cls:=.type "list",data:=.seq its.toArray n }) (hf:f its.toArray = its'.toArray) (hv:Vals ys its') (hz:ys.length <= sizeLine) :
    Inv X pins σ (m5 H l (.lst ys)) { s with heap:=s.heap.update l (Obj.mapSeq f),toks:=t' }:=by
  have q:=PySem.IsL.update e f
  rw [hf] at q
  refine I.write (x:=l) (e:=l) (by rw [hH]; exact trivial) (.inl rfl) (fun b' u hb hu=>(Heap.get?_update_other s.heap (Obj.mapSeq f) (Ne.symm hb)).trans hu) ⟨_,q⟩ ?_
  exact ⟨hz,its',_,hv,q⟩
theorem Inv.lnew {its:List Value} {t':Nat} (I:Inv X pins σ H s) (hv:Vals ys its) (hz:ys.length <= sizeLine) :
    Inv X pins σ (m5 H s.heap.objs.size (.lst ys)) { s with heap:=s.heap.push { cls:=.type "list",data:=.seq its.toArray },toks:=t' } :=
  I.laid (fun _ _ q=>Heap.get?_push_of_some _ q) (Nat.le_refl _) ⟨hz,its,0,hv,Heap.get?_push_size _ rfl⟩
theorem Inv.fresh (I:Inv X pins σ H s):H s.heap.objs.size = none:=I.hok.fresh (Nat.le_refl _)
theorem Inv.lstM (I:Inv X pins σ H s) (hH:H l = some (.lst xs)):xs.length <= sizeLine/\∃ (its:List Value) (n:Nat),Vals xs its/\xs.length = its.length/\s.heap.get? l = some { cls:=.type "list",data:=.seq its.toArray n }:=by
  obtain ⟨z,its,n,r,e⟩:=I.hok l _ hH
  exact ⟨z,its,n,r,r.length,e⟩
theorem a7e {n:Nat} (h:n <= sizeLine):Builtin.List.listTooLong n = false:=by
  unfold Builtin.List.listTooLong
  exact decide_eq_false (by omega)
end
section
variable {X:Cx}
def a9v:V->List V->Hp->VK->Prop:=fun x vs H Q=>∃ l xs y,x = .ref l/\vs = [y]/\H l = some (.lst xs)/\xs.length < sizeLine/\Q .non (m5 H l (.lst (xs ++ [y])))
theorem E9:MtM X "list.append" a9v:=by
  intro pins s σ H x vs v us Q I rx rv h
  obtain ⟨l,xs,y,rfl,rfl,hH,hz,q⟩:=h
  cases rx
  obtain ⟨u,rfl,ru⟩:=rv.one
  obtain ⟨z,its,n,r,hl,e⟩:=I.lstM hH
  refine call_meets F.slot_list_append ⟨_,e,rfl⟩ F.entry_list_append (F.args_list_append_2 _ _) (PySem.list_append l its.toArray n u (by rw [List.size_toArray]; omega)) ⟨e,?_⟩
  refine ⟨.non,_,I.lset (its':=its ++ [u]) hH e (by simp) (r.append (.cons ru .nil)) ?_,rfl,q⟩
  rw [List.length_append,List.length_singleton]
  omega
def b3t:V->List V->Hp->VK->Prop:=fun x vs H Q=>∃ l xs y,x = .ref l/\vs = []/\H l = some (.lst xs)/\xs[xs.length - 1]? = some y/\Q y (m5 H l (.lst xs.dropLast))
theorem b1h:MtM X "list.pop" b3t:=by
  intro pins s σ H x vs v us Q I rx rv h
  obtain ⟨l,xs,y,rfl,rfl,hH,hy,q⟩:=h
  cases rx
  have hus:=rv.zero
  subst hus
  obtain ⟨z,its,n,r,hl,e⟩:=I.lstM hH
  obtain ⟨u,hu,ru⟩:=r.get hy
  have hy':its.toArray[its.toArray.size - 1]? = some u:=by
    show its.toArray[its.length - 1]? = some u
    rw [<- Array.getElem?_toList,<- hl]
    exact hu
  refine call_meets F.slot_list_pop ⟨_,e,rfl⟩ F.entry_list_pop (F.args_list_pop_1 _) (MeetsSeq.list_pop_last l its.toArray n u hy' (by rw [List.size_toArray]; omega)) ⟨e,?_⟩
  refine ⟨y,_,I.lset (its':=its.dropLast) hH e ?_ r.dropLast ?_,ru,q⟩
  . show its.toArray.eraseIdxIfInBounds (its.toArray.size - 1) = its.dropLast.toArray
    rw [List.size_toArray,List.eraseIdxIfInBounds_toArray,a4u]
  . rw [List.length_dropLast]
    omega
def b3x:R2:=fun x y H Q=>∃ l b xs zs,x = .ref l/\y = .ref b/\H l = some (.lst xs)/\H b = some (.lst zs)/\xs.length + zs.length <= sizeLine/\∀ p,H p = none->Q (.ref p) (m5 H p (.lst (xs ++ zs)))
theorem x4:V4 X (binaryOp .Add) b3x:=by
  intro pins s σ H x y v u Q I rx ry h
  obtain ⟨l,b,xs,zs,rfl,rfl,hH,hB,hz,q⟩:=h
  cases rx
  cases ry
  obtain ⟨z,its,n,r,hl,e⟩:=I.lstM hH
  obtain ⟨z2,its2,n2,r2,hl2,e2⟩:=I.lstM hB
  refine PySem.P.add_list e e2 ?_ (by rw [List.size_toArray,List.size_toArray]; omega)
  have ea:its.toArray ++ its2.toArray = (its ++ its2).toArray:=by simp
  rw [ea]
  exact ⟨.ref _,_,I.lnew (t':=s.toks) (r.append r2) (by rw [List.length_append]; omega),rfl,q _ I.fresh⟩
def b3h:R2:=fun x y H Q=>∃ l k xs,x = .ref l/\y = .int k/\H l = some (.lst xs)/\-(2 ^ 63) <= k/\k < 2 ^ 63/\xs.length * k.toNat <= sizeLine ∧
  ∀ p,H p = none->Q (.ref p) (m5 H p (.lst (List.replicate k.toNat xs).flatten))
theorem a9t {α:Type} (xs:List α) (k:Nat):(List.replicate k xs).flatten.length = k * xs.length:=by
  induction k with
  | zero=>simp
  | succ k ih=>rw [List.replicate_succ,List.flatten_cons,List.length_append,ih,Nat.succ_mul,Nat.add_comm]
theorem Q9:V4 X (binaryOp .Mult) b3h:=by
  intro pins s σ H x y v u Q I rx ry h
  obtain ⟨l,k,xs,rfl,rfl,hH,h1,h2,hz,q⟩:=h
  cases rx
  obtain ⟨t,rfl⟩:=ry
  obtain ⟨z,its,n,r,hl,e⟩:=I.lstM hH
  have hlen:its.toArray.size * k.toNat <= sizeLine:=by rw [List.size_toArray,<- hl]; exact hz
  have hcap:¬ its.toArray.size * k.toNat > (2 ^ 63 - 1) / 8:=by
    have:(sizeLine:Nat) <= (2 ^ 63 - 1) / 8:=by decide
    omega
  have hfit:¬ (!Builtin.List.listFitsIndex k) = true:=by
    rw [fitsIndex_both h1 h2]
    exact Bool.false_ne_true
  have hlong:¬ Builtin.List.listTooLong (its.toArray.size * k.toNat) = true:=by
    rw [a7e hlen]
    exact Bool.false_ne_true
  have hnew:List.foldl (fun x1 x2=>x1 ++ x2) #[] (List.replicate (if its.toArray.isEmpty = true then 0 else k.toNat) its.toArray) = (List.replicate k.toNat its).flatten.toArray:=by
    have f0:∀ m:Nat,List.foldl (fun x1 x2=>x1 ++ x2) #[] (List.replicate m its.toArray) = (List.replicate m its).flatten.toArray:=fun m=>by
      have:=a1Y its m []
      rw [List.nil_append] at this
      exact this
    rw [f0]
    cases its with
    | nil=>simp
    | cons a r'=>rw [if_neg (by simp)]
  refine wpAny_binaryOp_repeat_ref (T:="list") (U:="int") (by decide) ⟨_,e,rfl⟩ (fun s'=>typeIs_int s' k t) noFill_list_mul F.fills_int_mul F.slot_int_rmul repeat_list F.slot_int_index.lookup
    (call_meets F.slot_int_rmul (typeIs_int s k t) F.entry_int_rmul (F.args_int_rmul_2 _ _) (int___rmul___int_list k t l its.toArray n)
      ⟨e,rfl,⟨_,e,rfl⟩,call_meets F.slot_list_mul ⟨_,e,rfl⟩ F.entry_list_mul (F.args_list_mul_2 _ _) (AutoListH.list___mul___list_int_3 l its.toArray n k t hfit hcap hlong) ⟨e,?_⟩⟩)
  rw [hnew]
  exact ⟨.ref _,_,I.lnew (t':=s.toks) (r.rep k.toNat) (by rw [a9t,Nat.mul_comm]; exact hz),rfl,q _ I.fresh⟩
end
section
variable {prog:Program} {w:World} {A:Around} {E:Value->Shared->Prop} {s:Shared}
end
section
variable {X:Cx}
end
end L2
namespace Att
open PySem PySem.W PySem.Calls PyProof.Rows
theorem a0t {P:Params} {h:Heap}:∀ (ns:List Int) (vs:List Value),WellAll P h vs (ns.map WData.int)->IntsAre vs ns:=by
  intro ns
  induction ns with
  | nil =>
    intro vs w
    rw [List.map_nil] at w
    cases w
    exact .nil
  | cons n ns ih =>
    intro vs w
    rw [List.map_cons] at w
    cases w with
    | cons a b =>
      cases a
      exact .cons _ _ (ih _ b)
theorem a6e {l:OpenLaw} {n:Nat} (hn:l.most = some n) {P:Params} {h:Heap} {args:List WData} {vals:List Value}
    (hpre:l.row.toRowW.claim.pre args = true) (hwl:WellAll P h vals args) :
    ∃ a vs ns,vals = [Value.ref a]/\args = [WData.list (ns.map WData.int)]/\h.get? a = some { cls:=.type "list",data:=.seq vs.toArray }/\IntsAre vs ns/\ns.length <= n:=by
  have hsh:WShape.hasAll [] args [.list .int] = true:=(pre_splitW hpre).1
  have hc:l.pre.holds [] { args:=args } = true:=(pre_splitW hpre).2
  obtain ⟨d,r,rfl,h1,h2⟩:=hasAllW_cons hsh
  obtain rfl:=hasAllW_nil h2
  obtain ⟨xs,rfl,h3⟩:=hasW_list h1
  obtain ⟨ns,rfl⟩:=items_int h3
  have hlen:ns.length <= n:=by
    unfold OpenLaw.pre at hc
    have h4:(WTm.not (.lt (.lit (.int (n:Int))) (.len (.arg 0)))).holds [] { args:=[.list (ns.map .int)] } = true:=by
      have h4:=(holds_andW hc).1
      rw [hn] at h4
      exact h4
    have h5:=condW_of h4 (w_not (w_lt w_lit (w_len_list (w_arg rfl))))
    rw [List.length_map] at h5
    refine Nat.le_of_not_lt fun q=>?_
    have q':(n:Int) < ((ns.length:Nat):Int):=by omega
    first
      | (rw [decide_eq_true q'] at h5; exact absurd h5 (by decide))
      | (simp at h5; omega)
  cases hwl with
  | cons w1 w2 =>
    cases w2
    cases w1 with
    | list ho hall=>exact ⟨_,_,ns,rfl,rfl,ho,a0t ns _ hall,hlen⟩
theorem a5V (l:OpenLaw) (args:List WData):l.row.toRowW.claim.post args (.bool true) args = true :=
  postW_of (r:=l.row.toRowW) (X:=(true == true))
    (show WShape.has [] (.bool true) .bool = true by first | rfl | decide | simp [WShape.has,WShape.arms,WShape.armsAll])
    (show (WTm.eq .res (.lit (.bool true))).value [] { args:=args,res:=some (.bool true),after:=args } = some (.bool (true == true)) from w_eq_bool (w_res rfl) w_lit) rfl
theorem attach_call {l:OpenLaw} {n:Nat} {q:Program} {loose:List Str} {XP:(Str->Option Value)->Heap->Prop} {YP:World->Heap->Prop} {d:DefRec}
    (hn:l.most = some n) (hdf:d.params.defaults = [])
    (call:∀ (w:World) (s₀ s₁:Shared) (mg mb:Str->Option Value) (fa:Addr) (o:Obj) (pm cd doc:Value) (a:Addr) (vs:List Value) (ns:List Int),
      Ground q loose [] XP w s₀ mg mb s₁.heap->YP w s₁.heap →
      s₁.heap.get? fa = some o->o.data = .func (docDef d.name d.params d.body d.scope pm cd doc)->s₁.heap.CodeRec cd d.name->mg d.name = some (.ref fa) →
      s₁.heap.get? a = some { cls:=.type "list",data:=.seq vs.toArray }->IntsAre vs ns->ns.length <= n->s₁.gens = #[] →
      codeAny (model l.prog w) callerA (.call (.ref fa) ⟨[.ref a],[]⟩) (fun r s'=>r = .ok (.ret (.bool true))/\OldK s₁.heap s'.heap/\s'.os = s₁.os/\AllBare s'.gens) s₁) :
    WalkO q loose XP YP l.row.toRowW d [] (fun f vs=>PySem.call f vs):=by
  intro w s₀ s₁ mg mb G Y fa o pm cd doc dV kV ho hd hcd hD hmg hg args vals as hpre hlay hrd hwl hlo
  obtain rfl:dV = .none:=Dflts.none hD hdf
  obtain rfl:kV = .none:=Dflts.noKw hD
  obtain ⟨a,vs,ns,rfl,rfl,hobj,hints,hlen⟩:=a6e hn hpre hwl
  refine enter_call (codeAny_mono (call w s₀ s₁ mg mb fa o pm cd doc a vs ns G Y ho (fd_plain hd) hcd hmg hobj hints hlen hg) fun r s' hq=>?_)
  obtain ⟨rfl,h2,h3,h4⟩:=hq
  exact ⟨.inl ⟨.bool true,.bool true,[],rfl,fun _=>rfl,.bool true,a5V l _,fun _=>⟨List.Pairwise.nil,fun _ hm=>(nomatch hm)⟩⟩,h2,h3,h4⟩
section
variable {prog:Program} {w:World} {A:Around} {E:Value->Shared->Prop} {s:Shared} {K:Frag}
end
end Att
namespace L2
open PySem PySem.Spec PyProof.Rows
theorem a1L:∀ {vs:List Value} {ns:List Int},IntsAre vs ns->Vals (ns.map V.int) vs
  | _,_,.nil=>.nil
  | _,_,.cons n t h=>.cons ⟨t,rfl⟩ (a1L h)
end L2
namespace L2
open PySem PySem.Spec PyProof.Rows
end L2
namespace L2
open PySem PySem.Spec PyProof.Rows
def x5 (s:Stmt) (j:Nat):Stmt:=match s with
  | .ClassDef _ _ _ body _ _ _ _ _ _ _=>body.getD j (.Pass ⟨0,0,0,0⟩)
  | _=>.Pass ⟨0,0,0,0⟩
def B7 (s:Stmt):Arguments:=match s with
  | .FunctionDef _ a _ _ _ _ _ _ _ _=>a
  | _=>{ posonlyargs:=[],args:=[],vararg:=none,kwonlyargs:=[],kw_defaults:=[],kwarg:=none,defaults:=[] }
def p9 (s:Stmt):List Stmt:=match s with
  | .FunctionDef _ _ b _ _ _ _ _ _ _=>b
  | _=>[]
def h8 (s:Stmt):Scope:=match s with
  | .FunctionDef _ _ _ _ _ _ sc _ _ _=>sc
  | _=>{ kind:=.function,names:=[],isGenerator:=false,isCoroutine:=false }
abbrev D6:CXT:=fun _ _ _ _ _ _=>False
abbrev E0:XK:=fun _ _ _=>False
theorem p6 {X:Cx}:P4 D6 X E0:=fun _ _ _ _ _ _ _ h=>h.elim
structure Fun (K:W.Frag) (x qual:Str) (st:Stmt) (f:Addr) (fd:FuncData):Prop where
  ex:∃ (oc:Value) (od:Option Addr) (kV doc pm:Value) (an:Option Addr) (cdv ct:Value) (osl:Array (Option Value)),
    fd = W.fnOf x qual (B7 st) (p9 st) (h8 st) .none kV doc pm an cdv ct/\K.lookup f = some ⟨oc,od,.func fd,osl⟩/\W.codeIn K cdv qual = true
  kp:W.keepIn K (.ref f) = true
section
variable {P:Program} {w:World} {K:W.Frag} {mg:Str->Option Value} {base:Heap}
theorem Fun.ok {x qual:Str} {st:Stmt} {f:Addr} {fd:FuncData} {N ps:List Str} {k:Nat} {sp:Sp} (F:Fun K x qual st f fd) (S:j3 N ps (h8 st)) (len:∀ vs H Q E,sp vs H Q E->vs.length = ps.length)
    (hbody:∀ (cdv:Value) (A:Around) (outer:List Env) (s:Shared) (H:Hp) (vs:List V) (Q:VK) (E:XK),Room k (A.deeper (envOfC qual (h8 st) s.heap.objs.size f cdv))->sp vs H Q E →
      ∃ t,PSs (J1 D6 P w K mg base N qual (h8 st) f cdv A outer s H E).nox (p9 st) t/\t { nx:=fun _ H'=>Q .non H',rt:=Q } (Q7 N vs) H):FnOk P w K mg base D6 (k + 1) f fd ps sp:=by
  obtain ⟨oc,od,kV,doc,pm,an,cdv,ct,osl,rfl,lk,hcd⟩:=F.ex
  refine a7b lk hcd S len fun A outer s H vs Q E hr hsp=>?_
  obtain ⟨t,h,q⟩:=hbody cdv A outer s H vs Q E hr hsp
  exact ⟨t,h.nox,q⟩
theorem Fun.binds {x qual:Str} {st:Stmt} {f:Addr} {fd:FuncData} {ps:List Str} (F:Fun K x qual st f fd)
    (h:∀ (kV doc pm:Value) (an:Option Addr) (cdv ct:Value) (us:List Value),us.length = ps.length->bindArgs (W.fnOf x qual (B7 st) (p9 st) (h8 st) .none kV doc pm an cdv ct) ⟨us,[]⟩ = pure (ps.zip us)):Binds K fd ps []:=by
  obtain ⟨oc,od,kV,doc,pm,an,cdv,ct,osl,rfl,lk,hcd⟩:=F.ex
  exact .all (h kV doc pm an cdv ct)
theorem a6w {x qual:Str} {st:Stmt} {f:Addr} {oc:Value} {od an:Option Addr} {osl:Array (Option Value)} {kV doc pm cdv ct:Value} (l:K.lookup f = some ⟨oc,od,.func (W.fnOf x qual (B7 st) (p9 st) (h8 st) .none kV doc pm an cdv ct),osl⟩)
    (c:W.codeIn K cdv qual = true) (k:W.keepIn K (.ref f) = true):Fun K x qual st f (W.fnOf x qual (B7 st) (p9 st) (h8 st) .none kV doc pm an cdv ct):=⟨⟨oc,od,kV,doc,pm,an,cdv,ct,osl,rfl,l,c⟩,k⟩
end
theorem j6 {n:Nat} (h:n <= 1000):n < sizeLine:=Nat.lt_of_le_of_lt h (by decide)
section
variable {X:Cx}
theorem pv (i:Nat) {x:Str} {pos:Pos} (hN:X.N[i]? = some x:=by rfl) (hv:Vis X.env.scope x:=by first | exact Or.inl rfl | exact Or.inr (Or.inl rfl) | exact Or.inr (Or.inr rfl)) (hd:(x == ("__debug__":Str)) = false:=by decide)
    (hcd:(x == ("__classdict__":Str)) = false:=by decide):PE X (.Name x pos) (a3B i):=b1c hN hv hd hcd
end
theorem X6 {A B:Prop} (h:B):if false = true then A else B:=by
  rw [if_neg Bool.false_ne_true]
  exact h
theorem a0r {A B:Prop} (h:A):if true = true then A else B:=by
  rw [if_pos rfl]
  exact h
theorem C3 {c A B:Prop} [Decidable c] (h1:c->A) (h2:¬ c->B):if c then A else B:=by
  by_cases h:c
  . rw [if_pos h]
    exact h1 h
  . rw [if_neg h]
    exact h2 h
theorem b2f {c A B:Prop} [Decidable c] (hc:c) (h:B):if (!decide c) = true then A else B:=by
  rw [decide_eq_true hc]
  exact X6 h
def Same (H H':Hp):Prop:=∀ b o,H b = some o->H' b = some o
theorem Same.refl (H:Hp):Same H H:=fun _ _ h=>h
theorem Same.trans {H H1 H2:Hp} (a:Same H H1) (b:Same H1 H2):Same H H2:=fun c o h=>b c o (a c o h)
theorem Same.free {H H':Hp} (e:Same H H') {l:Addr} (h:H' l = Option.none):H l = Option.none:=by
  cases q:H l with
  | none=>rfl
  | some o =>
    rw [e l o q] at h
    cases h
theorem Same.seq {K:W.Frag} {H H':Hp} {a:Addr} {xs:List V} (e:Same H H') (h:SqL K H a xs):SqL K H' a xs:=by
  rcases h with (h | ⟨o,h⟩) | h
  . exact .inl (.inl (e _ _ h))
  . exact .inl (.inr ⟨o,e _ _ h⟩)
  . exact .inr h
end L2
namespace L2
open PySem PySem.Spec PyProof.Rows
def clo (env:Env):List (Str × NameKind)->List (Str × Addr)->List (Str × Addr)
  | [],cs=>cs
  | (n,k) :: r,cs=>if k == .free then (match env.cells.lookup n with | some a=>clo env r ((n,a) :: cs) | none=>clo env r cs) else clo env r cs
theorem A7 {scope:Scope} {env:Env} (h:∀ n,(n,NameKind.free) ∈ scope.names->∃ c,env.cells.lookup n = some c):closureFor scope env = pure (clo env scope.names []):=by
  simp only [closureFor]
  generalize ([]:List (Str × Addr)) = cs
  revert h
  generalize scope.names = l
  intro h
  induction l generalizing cs with
  | nil=>rfl
  | cons x r ih =>
    obtain ⟨n,k⟩:=x
    have hr:∀ n,(n,NameKind.free) ∈ r->∃ c,env.cells.lookup n = some c:=fun n hn=>h n (List.mem_cons_of_mem _ hn)
    by_cases hk:k = .free
    . subst hk
      obtain ⟨c,hc⟩:=h n List.mem_cons_self
      have q:=ih ((n,c) :: cs) hr
      simp only [List.forIn_cons,clo,hc,beq_self_eq_true,if_true,cellOf]
      exact q
    . have hb:(k == NameKind.free) = false:=by simpa using hk
      have q:=ih cs hr
      simp only [List.forIn_cons,clo,hb,Bool.false_eq_true,if_false]
      exact q
theorem X2 {env:Env} {x:Str} {c:Addr}:∀ {l:List (Str × NameKind)} {cs:List (Str × Addr)},(∀ x c,cs.lookup x = some c->env.cells.lookup x = some c)->(clo env l cs).lookup x = some c->env.cells.lookup x = some c
  | [],_,h,e=>h x c e
  | (n,k) :: r,cs,h,e=>by
    unfold clo at e
    by_cases hk:(k == NameKind.free) = true
    . rw [if_pos hk] at e
      cases q:env.cells.lookup n with
      | none=>rw [q] at e; exact X2 h e
      | some a =>
        rw [q] at e
        refine X2 (cs:=(n,a) :: cs) (fun y d z=>?_) e
        rw [List.lookup_cons] at z
        cases hy:y == n with
        | true =>
          rw [hy] at z
          have:y = n:=by simpa using hy
          subst this
          rw [q]; exact z
        | false=>rw [hy] at z; exact h y d z
    . rw [if_neg hk] at e
      exact X2 h e
theorem a0G {env:Env} {x:Str} {c:Addr}:∀ {l:List (Str × NameKind)} {cs:List (Str × Addr)},(x,c) ∈ clo env l cs->(env.cells.lookup x = some c/\(x,NameKind.free) ∈ l) \/ (x,c) ∈ cs
  | [],_,e=>.inr e
  | (n,k) :: r,cs,e=>by
    unfold clo at e
    by_cases hk:(k == NameKind.free) = true
    . rw [if_pos hk] at e
      have hk':k = .free:=by simpa using hk
      cases q:env.cells.lookup n with
      | none =>
        rw [q] at e
        exact (a0G e).imp (fun z=>⟨z.1,List.mem_cons_of_mem _ z.2⟩) id
      | some a =>
        rw [q] at e
        rcases a0G (cs:=(n,a) :: cs) e with z | z
        . exact .inl ⟨z.1,List.mem_cons_of_mem _ z.2⟩
        . rcases List.mem_cons.mp z with z | z
          . cases z
            exact .inl ⟨q,by rw [hk']; exact List.mem_cons_self⟩
          . exact .inr z
    . rw [if_neg hk] at e
      exact (a0G e).imp (fun z=>⟨z.1,List.mem_cons_of_mem _ z.2⟩) id
theorem p8:∀ (names:List (Str × NameKind)) (n:Nat) (acc:List (Str × Addr)),cellsFrom n names acc = cellsFrom n names [] ++ acc
  | [],_,_=>rfl
  | (x,k) :: r,n,acc=>by
    unfold cellsFrom
    split
    . rw [p8 r (n + 1) ((x,n) :: acc),p8 r (n + 1) [(x,n)],List.append_assoc]; rfl
    . exact p8 r n acc
theorem E2 {x:Str} {c:Addr}:∀ {names:List (Str × NameKind)} {n:Nat},(x,c) ∈ cellsFrom n names []->(x,NameKind.cell) ∈ names
  | [],_,e=>by cases e
  | (y,k) :: r,n,e=>by
    unfold cellsFrom at e
    by_cases hk:(k == NameKind.cell) = true
    . rw [if_pos hk,p8] at e
      have hk':k = .cell:=by simpa using hk
      rcases List.mem_append.mp e with z | z
      . exact List.mem_cons_of_mem _ (E2 z)
      . rw [List.mem_singleton] at z
        cases z
        rw [hk']; exact List.mem_cons_self
    . rw [if_neg hk] at e
      exact List.mem_cons_of_mem _ (E2 e)
theorem M6 {x:Str}:∀ {names:List (Str × NameKind)} {n:Nat},(x,NameKind.cell) ∈ names->∃ c,(x,c) ∈ cellsFrom n names []
  | (y,k) :: r,n,e=>by
    unfold cellsFrom
    rcases List.mem_cons.mp e with z | z
    . cases z
      rw [if_pos (by rfl),p8]
      exact ⟨n,List.mem_append_right _ List.mem_cons_self⟩
    . split
      . rw [p8]
        obtain ⟨c,hc⟩:=M6 (n:=n + 1) z
        exact ⟨c,List.mem_append_left _ hc⟩
      . exact M6 z
theorem a0M {α:Type} {x:Str}:∀ {l₁ l₂:List (Str × α)},(l₁ ++ l₂).lookup x = match l₁.lookup x with | some c=>some c | none=>l₂.lookup x
  | [],_=>rfl
  | (n,c) :: r,l₂=>by
    rw [List.cons_append,List.lookup_cons,List.lookup_cons]
    cases hx:x == n with
    | true=>rfl
    | false=>exact a0M (l₁:=r)
theorem U1 {α:Type} {x:Str} {c:α}:∀ {l:List (Str × α)},(x,c) ∈ l->∃ c',l.lookup x = some c'
  | (n,d) :: r,h=>by
    rw [List.lookup_cons]
    cases hx:x == n with
    | true=>exact ⟨d,rfl⟩
    | false =>
      rcases List.mem_cons.mp h with z | z
      . cases z; simp at hx
      . exact U1 z
theorem S9 {env:Env} {x:Str}:∀ {l:List (Str × NameKind)} {cs:List (Str × Addr)},(∃ c,cs.lookup x = some c)->∃ c,(clo env l cs).lookup x = some c
  | [],_,h=>h
  | (n,k) :: r,cs,h=>by
    unfold clo
    split
    . split
      . refine S9 ?_
        rw [List.lookup_cons]
        cases hy:x == n with
        | true=>exact ⟨_,rfl⟩
        | false=>exact h
      . exact S9 h
    . exact S9 h
theorem S7 {env:Env} {x:Str} (hx:∃ c,env.cells.lookup x = some c):∀ {l:List (Str × NameKind)} {cs:List (Str × Addr)},(x,NameKind.free) ∈ l->∃ c,(clo env l cs).lookup x = some c
  | (n,k) :: r,cs,h=>by
    rcases List.mem_cons.mp h with e | e
    . cases e
      obtain ⟨c,hc⟩:=hx
      unfold clo
      rw [if_pos (by rfl),hc]
      refine S9 ⟨c,?_⟩
      simp [List.lookup_cons]
    . unfold clo
      split
      . split
        . exact S7 hx e
        . exact S7 hx e
      . exact S7 hx e
def M0 (env:Env) (scope:Scope) (C:Addr):List (Str × Addr):=cellsFrom (C + 1) scope.names (clo env scope.names [])
theorem B6 {env:Env} {scope:Scope} {C:Addr} {x:Str} {c:Addr} (h:(M0 env scope C).lookup x = some c) :
    ((x,c) ∈ cellsFrom (C + 1) scope.names []/\(x,NameKind.cell) ∈ scope.names) \/ (env.cells.lookup x = some c/\(x,NameKind.free) ∈ scope.names):=by
  have m:=mem_of_lookup h
  unfold M0 at m
  rw [p8] at m
  rcases List.mem_append.mp m with z | z
  . exact .inl ⟨z,E2 z⟩
  . rcases a0G z with y | y
    . exact .inr y
    . cases y
theorem a0k {env:Env} {scope:Scope} {C:Addr} {x:Str} (hx:∃ c,env.cells.lookup x = some c) (hf:(x,NameKind.free) ∈ scope.names) (hn:(x,NameKind.cell) ∉ scope.names):(M0 env scope C).lookup x = env.cells.lookup x:=by
  obtain ⟨c,hc⟩:=S7 (env:=env) (cs:=[]) hx hf
  have hc':=X2 (env:=env) (fun _ _ z=>by simp at z) hc
  unfold M0
  rw [p8,a0M]
  cases q:(cellsFrom (C + 1) scope.names []).lookup x with
  | some d=>exact absurd (E2 (mem_of_lookup q)) hn
  | none=>rw [hc',<- hc]
def blk (X:Cx) (os:List Str) (fr:List Nat) (scope:Scope) (C:Addr) (fp:List Addr) (s₀:Shared) (H₀:Hp):Cx :=
  { X with N:=os ++ fr.map (fun j=>X.N.getD j ""),s₀:=s₀,H₀:=H₀,env:=compEnvC scope (M0 X.env scope C) C X.env,outer:=X.stack,ex:=fp,fn:=fun x=>scope.names.lookup x == some .cell,pn:=[],xe:=fun _ _=>False }
def frv (fr:List Nat) (σ:St):St:=fr.map fun j=>(σ[j]?).join
def blkσ (n:Nat) (fr:List Nat) (σ:St):St:=List.replicate n none ++ frv fr σ
def Wk (σ0 σ2:St):Prop:=σ2.length = σ0.length/\∀ (i:Nat) v,σ0[i]? = some (some v)->σ2[i]? = some (some v)
def X1 (outer:Scope) (scope:Scope) (N:List Str) (fr:List Nat):Bool :=
  (scope.names.all fun p=>(scope.names.lookup p.1 == some p.2) && (p.2 != .free || outer.names.lookup p.1 == some .cell)) &&
  (fr.all fun j=>decide (j < N.length) && (outer.names.lookup (N.getD j "") == some .cell) && (scope.names.lookup (N.getD j "") == some .free))
theorem C4 {x:Str} {k:NameKind}:∀ {l:List (Str × NameKind)},l.lookup x = some k->(x,k) ∈ l
  | (n,j) :: r,h=>by
    rw [List.lookup_cons] at h
    cases hx:x == n with
    | true =>
      rw [hx] at h
      have:x = n:=by simpa using hx
      subst this
      cases h
      exact List.mem_cons_self
    | false=>rw [hx] at h; exact List.mem_cons_of_mem _ (C4 h)
theorem J4 {env:Env} {x:Str} {k:NameKind}:∀ {names:List (Str × NameKind)},
    (names.map fun (n,k)=>if (k == NameKind.free && env.scope.kind == .function && env.kindOf n == some .cell) then (n,NameKind.cell) else (n,k)).lookup x = some k →
    (x,k) ∈ names \/ (x,NameKind.free) ∈ names
  | [],h=>by simp at h
  | (n,j) :: r,h=>by
    rw [List.map_cons] at h
    dsimp only at h
    by_cases hc:(j == NameKind.free && env.scope.kind == .function && env.kindOf n == some .cell) = true
    . rw [if_pos hc,List.lookup_cons] at h
      have hj:j = .free:=by
        have:=(Bool.and_eq_true _ _ ▸ (Bool.and_eq_true _ _ ▸ hc).1).1
        simpa using this
      cases hx:x == n with
      | true =>
        have:x = n:=by simpa using hx
        subst this
        subst hj
        exact .inr List.mem_cons_self
      | false =>
        rw [hx] at h
        exact (J4 h).imp (List.mem_cons_of_mem _) (List.mem_cons_of_mem _)
    . rw [if_neg hc,List.lookup_cons] at h
      cases hx:x == n with
      | true =>
        rw [hx] at h
        have:x = n:=by simpa using hx
        subst this
        cases h
        exact .inl List.mem_cons_self
      | false =>
        rw [hx] at h
        exact (J4 h).imp (List.mem_cons_of_mem _) (List.mem_cons_of_mem _)
section
variable {X:Cx} {os:List Str} {fr:List Nat} {scope:Scope}
theorem K2 (h:X1 X.env.scope scope X.N fr = true):∀ p ∈ scope.names,scope.names.lookup p.1 = some p.2/\(p.2 = .free->X.env.scope.names.lookup p.1 = some .cell):=fun p hp=>by
  have q:=List.all_eq_true.mp (Bool.and_eq_true _ _ ▸ h).1 p hp
  simp only [Bool.and_eq_true,bne_iff_ne,Bool.or_eq_true,beq_iff_eq,ne_eq] at q
  refine ⟨q.1,fun e=>?_⟩
  rcases q.2 with z | z
  . exact absurd e z
  . exact z
theorem a4c (h:X1 X.env.scope scope X.N fr = true) {x:Str} {a b:NameKind} (ha:(x,a) ∈ scope.names) (hb:(x,b) ∈ scope.names):a = b:=by
  have h1:=(K2 h _ ha).1
  have h2:=(K2 h _ hb).1
  rw [h1] at h2
  exact Option.some.inj h2
theorem a9N (h:X1 X.env.scope scope X.N fr = true):∀ j ∈ fr,j < X.N.length/\X.env.scope.names.lookup (X.N.getD j "") = some .cell/\scope.names.lookup (X.N.getD j "") = some .free:=fun j hj=>by
  have q:=List.all_eq_true.mp (Bool.and_eq_true _ _ ▸ h).2 j hj
  simp only [Bool.and_eq_true,beq_iff_eq,decide_eq_true_eq] at q
  exact ⟨q.1.1,q.1.2,q.2⟩
theorem O8 {pins:List (Addr × Obj)} {σ:St} {H:Hp} {s:Shared} (I:Inv X pins σ H s) (h:X1 X.env.scope scope X.N fr = true):∀ n,(n,NameKind.free) ∈ scope.names->∃ c,X.env.cells.lookup n = some c:=fun n hn =>
  I.ok.has n (.inl ((K2 h _ hn).2 rfl))
theorem Inv.block {pins:List (Addr × Obj)} {σ:St} {H:Hp} {s:Shared} {fp:List Addr} {h₁:Heap} {t':Nat} (I:Inv X pins σ H s) (hk:scope.kind = .function) (h:X1 X.env.scope scope X.N fr = true)
    (hf:∀ b ∈ fp,P3 X pins H b) (ho:∀ b ∈ fp,∃ o,s.heap.get? b = some o) (hns:h₁.Ns s.heap.objs.size fun _=>none) (hkeep:∀ b o,s.heap.get? b = some o->h₁.get? b = some o)
    (hcl:CellsOk h₁ (s.heap.objs.size + 1) (cellsFrom (s.heap.objs.size + 1) scope.names [])) :
    Inv (blk X os fr scope s.heap.objs.size fp s H) [] (blkσ os.length fr σ) H { s with heap:=h₁,toks:=t' } where
  ok:={
    mod:=I.ok.mod
    kind:=hk
    glob:=I.ok.glob
    blt:=I.ok.blt
    above:=Nat.le_refl _
    inj:=fun x y c e1 e2=>by
      have old:∀ {z:Str},X.env.cells.lookup z = some c->c < s.heap.objs.size:=fun {z} e=>by
        obtain ⟨v,q⟩:=I.cell z c e
        exact q.lt
      rcases B6 e1 with z1 | z1 <;> rcases B6 e2 with z2 | z2
      . exact name_of_addr hcl.apart z1.1 z2.1
      . exact absurd (Nat.lt_of_lt_of_le (Nat.lt_succ_of_lt (old z2.1)) (hcl.empty _ _ z1.1).2) (Nat.lt_irrefl _)
      . exact absurd (Nat.lt_of_lt_of_le (Nat.lt_succ_of_lt (old z1.1)) (hcl.empty _ _ z2.1).2) (Nat.lt_irrefl _)
      . exact I.ok.inj x y c z1.1 z2.1
    has:=fun x hx=>by
      have hm:(x,NameKind.cell) ∈ scope.names \/ (x,NameKind.free) ∈ scope.names:=by
        rcases hx with e | e
        . exact J4 e
        . rcases J4 e with z | z
          . exact .inr z
          . exact .inr z
      rcases hm with z | z
      . obtain ⟨c,hc⟩:=M6 (n:=s.heap.objs.size + 1) z
        refine U1 (c:=c) ?_
        show (x,c) ∈ M0 _ _ _
        unfold M0
        rw [p8]
        exact List.mem_append_left _ hc
      . obtain ⟨c,hc⟩:=O8 I h x z
        refine ⟨c,?_⟩
        show (M0 _ _ _).lookup x = _
        rw [a0k ⟨c,hc⟩ z (fun w=>by cases a4c h z w)]
        exact hc
    cab:=fun x c hx e=>by
      have hx':scope.names.lookup x = some .cell:=by simpa using (show (scope.names.lookup x == some .cell) = true from hx)
      rcases B6 e with z | z
      . exact Nat.le_of_lt (Nat.lt_of_succ_le (hcl.empty _ _ z.1).2)
      . cases a4c h (C4 hx') z.2
    hd:=I.ok.hd
    frames:=I.ok.frames
    stk:=.inl rfl
    exf:=fun b hb=>by
      obtain ⟨o,e⟩:=ho b hb
      refine ⟨Nat.ne_of_lt (Heap.lt_size e),fun x c e1=>?_⟩
      rcases B6 e1 with z | z
      . intro w
        have:=(hcl.empty _ _ z.1).2
        rw [w] at this
        exact absurd (Nat.lt_of_lt_of_le (Nat.lt_succ_of_lt (Heap.lt_size e)) this) (Nat.lt_irrefl _)
      . exact (hf b hb).2.2.2.2.1 x c z.1
    bs:=I.bs
    bsz:=Nat.le_trans I.ok.bsz I.sz
    noex:=fun b o e hb=>by
      rcases (hf b hb).2.2.2.1 with z | z
      . exact I.ok.noex b o e z
      . exact absurd (Nat.lt_of_lt_of_le (Heap.lt_size e) (Nat.le_trans I.ok.bsz z)) (Nat.lt_irrefl _)
    exfs:=fun b hb hz=>by
      rcases List.mem_cons.mp (I.stkSub b hz) with e | e
      . exact (hf b hb).2.1 e
      . exact (hf b hb).2.2.1 e
    funs:=I.stack
    frf:=I.stkFree }
  os:=rfl
  bare:=I.bare
  base:=Un.kept hkeep
  loc:=by
    refine ⟨_,hns,fun i x v e1 e2 _=>?_⟩
    have hi:os.length <= i:=by
      refine Nat.le_of_not_lt fun hlt=>?_
      unfold blkσ at e2
      rw [List.getElem?_append_left (by simpa using hlt)] at e2
      rw [List.getElem?_replicate] at e2
      split at e2 <;> cases e2
    have e1':(fr.map fun j=>X.N.getD j "")[i - os.length]? = some x:=by
      rw [<- List.getElem?_append_right (l₁:=os) hi]; exact e1
    have e2':(fr.map fun j=>(σ[j]?).join)[i - os.length]? = some (some v):=by
      have z:(List.replicate os.length (none:Option V)).length <= i:=by simpa using hi
      unfold blkσ at e2
      rw [List.getElem?_append_right z,List.length_replicate] at e2
      exact e2
    rw [List.getElem?_map] at e1' e2'
    cases q:fr[i - os.length]? with
    | none=>rw [q] at e1'; cases e1'
    | some j =>
      rw [q] at e1' e2'
      have hj:j ∈ fr:=List.mem_of_getElem? q
      obtain ⟨hjl,hjc,hjf⟩:=a9N h j hj
      have ex:X.N.getD j "" = x:=Option.some.inj e1'
      have ev:(σ[j]?).join = some v:=Option.some.inj e2'
      have hN:X.N[j]? = some x:=by
        rw [<- ex,List.getD_eq_getElem?_getD,List.getElem?_eq_getElem hjl]; rfl
      have hσ:σ[j]? = some (some v):=by
        cases r:σ[j]? with
        | none=>rw [r] at ev; cases ev
        | some y=>rw [r] at ev; exact congrArg some ev
      rw [ex] at hjc hjf
      obtain ⟨m,_,hl⟩:=I.loc
      obtain ⟨u,r,lk⟩:=hl j x v hN hσ (.inr (.inl hjc))
      refine ⟨u,r,?_⟩
      have kc:Env.kindOf X.env x = some .cell:=hjc
      rcases lk with ⟨k1,_⟩ | ⟨_,c,ec,z⟩
      . rw [kc] at k1; cases k1
      . have hfm:=C4 hjf
        have ec':(M0 X.env scope s.heap.objs.size).lookup x = some c:=by
          rw [a0k ⟨c,ec⟩ hfm (fun w=>by cases a4c h hfm w)]; exact ec
        refine .inr ⟨?_,c,ec',?_⟩
        . have kk:∀ {names:List (Str × NameKind)},names.lookup x = some .free->(names.map fun (n,k)=>if (k == NameKind.free && X.env.scope.kind == .function && X.env.kindOf n == some .cell) then (n,NameKind.cell) else (n,k)).lookup x = some .cell:=by
            intro names
            induction names with
            | nil=>intro e; simp at e
            | cons p r ih =>
              obtain ⟨n,k⟩:=p
              intro e
              rw [List.lookup_cons] at e
              rw [List.map_cons]
              dsimp only
              cases hx:x == n with
              | true =>
                rw [hx] at e
                cases e
                have hxn:x = n:=by simpa using hx
                subst hxn
                rw [if_pos (by rw [I.ok.kind,kc]; rfl),List.lookup_cons]
                simp
              | false =>
                rw [hx] at e
                by_cases hc:(k == NameKind.free && X.env.scope.kind == .function && X.env.kindOf n == some .cell) = true
                . rw [if_pos hc,List.lookup_cons,hx]; exact ih e
                . rw [if_neg hc,List.lookup_cons,hx]; exact ih e
          exact .inl (kk hjf)
        . obtain ⟨o,ho',hd⟩:=z
          exact ⟨o,hkeep _ _ ho',hd⟩
  cell:=fun x c e=>by
    rcases B6 e with z | z
    . exact ⟨_,(hcl.empty _ _ z.1).1⟩
    . obtain ⟨v,o,ho',hd⟩:=I.cell x c z.1
      exact ⟨v,o,hkeep _ _ ho',hd⟩
  free:=I.hok.fresh (Nat.le_refl _)
  freeC:=fun x c e=>by
    rcases B6 e with z | z
    . exact I.hok.fresh (Nat.le_of_lt (Nat.lt_of_succ_le (hcl.empty _ _ z.1).2))
    . exact I.freeC x c z.1
  pin:=fun p hp=>nomatch hp
  hok:=I.hok.kept hkeep
  len:=by simp [blkσ,frv,blk]
theorem Inv.unblock {pins:List (Addr × Obj)} {σ σ':St} {H H':Hp} {s s':Shared} {fp:List Addr} {C:Addr} (I:Inv X pins σ H s) (hf:∀ b ∈ fp,P3 X pins H b) (J:Inv (blk X os fr scope C fp s H) [] σ' H' s'):Inv X pins σ H' s' :=
  I.call' J.os J.base J.hok J.bare fun b hb=>⟨(hf b hb).2.2.2.1,(hf b hb).2.1,(hf b hb).2.2.2.2.1,(hf b hb).2.2.2.2.2⟩
theorem Inv.letgo {pins:List (Addr × Obj)} {σ:St} {H H₀:Hp} {s s₀:Shared} {C:Addr} {h':Heap} (I₀:Inv X pins σ₀ H₀ s₀) (I:Inv X pins σ H s) (hn:H C = none) (hC:s₀.heap.objs.size <= C) (hs:Heap.SameBut C s.heap h'):Inv X pins σ H { s with heap:=h' } :=
  I.turned (t':=s.toks) (it:=C) (fun b o hb e=>(hs.2 b hb).trans e) hn (Nat.ne_of_gt (Nat.lt_of_lt_of_le I₀.lt hC)) (.inr (Nat.le_trans I₀.sz hC))
    (fun x c e z=>by
      obtain ⟨v,q⟩:=I₀.cell x c e
      exact absurd (Nat.lt_of_lt_of_le q.lt (by rw [z]; exact hC)) (Nat.lt_irrefl _))
    fun p hp z=>absurd (Nat.lt_of_lt_of_le (Heap.lt_size (I₀.pin p hp).1) (by rw [z]; exact hC)) (Nat.lt_irrefl _)
end
def b0O (X:Cx) (ifs:List Expr) (t:TT):Prop :=
  ∀ (pins:List (Addr × Obj)) (s:Shared) (σ:St) (H:Hp) (Q:Bool->Hp->Prop),Inv X pins σ H s->t σ H Q →
    wpAny (model X.prog X.w) X.A (forIn ifs true fun c r=>if r = true then do let ok <- isTrue c X.env (eval c X.env); pure (ForInStep.yield ok) else pure (ForInStep.yield r)) (TP X pins σ Q) X.xe s
def a7x:TT:=fun _ H Q=>Q true H
theorem a3q {X:Cx}:b0O X [] a7x:=fun _ _ _ H _ I h=>wpAny_tests_nil ⟨H,I,h⟩
theorem a3t {X:Cx} {c:Expr} {t:TT} (h:PT X c t):b0O X [c] t:=fun pins s σ H Q I q=>wpAny_tests_one (h pins s σ H Q I q)
theorem a2O {M:Model} {A:Around} {E:Value->Shared->Prop} {s:Shared} {scope:Scope} {globals:Addr} {closure:List (Str × Addr)} {qual:Str} {env:Env} {Q:Env->Shared->Prop}
    (hQ:Q { scope,locals:=s.heap.objs.size,globals,cells:=cellsFrom (s.heap.objs.size + 1) scope.names closure,qual,func:=none,code:=env.code,frame:=env.frame,builtins:=env.builtins } { s with heap:=pushCells (s.heap.push { cls:=.type "dict",data:=.dict #[] }) scope.names }) :
    wpAny M A (newFunctionEnv scope globals closure [] qual none .none (some env)) Q E s:=by
  simp only [newFunctionEnv,Option.isSome_some,if_true]
  refine wpAny_bind (wpAny_alloc ?_)
  refine wpAny_bind (wpAny_layCells _ (fun name kind cells=>by cases hkc:kind == NameKind.cell <;> simp [hkc]) _ _ _ _ ?_)
  rw [show ({ s with heap:=s.heap.push { cls:=.type "dict",data:=.dict #[] } }:Shared).heap.objs.size = s.heap.objs.size + 1 from Heap.size_push ..]
  simp only [List.forIn_nil]
  exact wpAny_bind (wpAny_pure (wpAny_pure hQ))
theorem a2G {prog:Program} {w:World} {A:Around} {R:Result->Shared->Prop} {s:Shared} {elt target iter:Expr} {ifs:List Expr} {scope:Scope} {pos:Pos} {it acc:Value} {env:Env} (I:Nat->Shared->Prop)
    (turn:∀ n s,I n s->wpAny (model prog w) A (pyNext it) (fun r s₁=>match r with
      | none=>R (.ok .next) s₁
      | some v=>wpAny (model prog w) A (letOwnedTupleGo target it v) (fun _ s₀=>wpAny (model prog w) A (assign target env v) (fun _ s₂ =>
          wpAny (model prog w) A (forIn ifs true fun c r=>if r = true then do let ok <- isTrue c env (eval c env); pure (ForInStep.yield ok) else pure (ForInStep.yield r)) (fun ok s₃ =>
            if ok = true then wpAny (model prog w) A (eval elt env) (fun x s₄ =>
              wpAny (model prog w) A (call (.builtin "list.append") [acc,x]) (fun _ s₅=>∃ m,m < n/\I m s₅) (fun _ _=>False) s₄) (fun _ _=>False) s₃
            else ∃ m,m < n/\I m s₃) (fun _ _=>False) s₂) (fun _ _=>False) s₀) (fun _ _=>False) s₁) (fun _ _=>False) s)
    (n:Nat) (h:I n s) :
    codeAny (model prog w) A (.compLoop (.ListComp elt [⟨target,iter,ifs,0⟩] scope pos) 0 it acc env) R s:=by
  refine codeAny_loop rfl I (fun n s hI=>?_) n h
  show wpAny _ A ((compTurn (.ListComp elt [⟨target,iter,ifs,0⟩] scope pos) 0 it acc env).onRaise (fun x=>do noteFrame x env; theTreesLotGoes x)) _ _ s
  refine wpAny_noted ?_
  rw [compTurn_list]
  refine wpAny_bind (wpAny_standAt (wpAny_bind (wpAny_mono (turn n s hI) (fun r s₁ h₁=>?_) fun _ _ h'=>h'.elim)))
  cases r with
  | none=>exact wpAny_pure h₁
  | some v =>
    refine wpAny_bind (wpAny_mono h₁ (fun _ s₀ h₀=>?_) fun _ _ h'=>h'.elim)
    refine wpAny_bind (wpAny_mono h₀ (fun _ s₂ h₂=>wpAny_bind (wpAny_mono h₂ (fun ok s₃ h₃=>?_) fun _ _ h'=>h'.elim)) fun _ _ h'=>h'.elim)
    cases ok with
    | false=>exact wpAny_pure ⟨rfl,h₃⟩
    | true =>
      exact wpAny_bind (wpAny_bind (wpAny_mono h₃ (fun x s₄ h₄=>wpAny_bind (wpAny_mono h₄ (fun _ s₅ h₅=>wpAny_pure (wpAny_pure ⟨rfl,h₅⟩)) fun _ _ h'=>h'.elim)) fun _ _ h'=>h'.elim))
def lcW (n:Nat) (fr:List Nat) (g:TG) (te:TE) (σ:St) (J:It) (H1:Hp) (p:Addr) (D:Hp->Prop):Prop :=
  ∃ W:Nat->Nat->List V->Hp->Prop,(∃ m,W 0 m [] (m5 H1 p (.lst [])))/\∀ i m ys H,W i m ys H →
    (J.stop i H/\D H) \/ (J.go i H/\∀ x H',J.yld i H x H'->g x (blkσ n fr σ) H' fun σ2 H2=>Wk (blkσ n fr σ) σ2/\te σ2 H2 fun v H3=>H3 p = some (.lst ys)/\ys.length < sizeLine/\∃ m',m' < m/\W (i + 1) m' (ys ++ [v]) (m5 H3 p (.lst (ys ++ [v]))))
def tLC (n:Nat) (fr:List Nat) (wi:TI) (g:TG) (te:TE):TE:=fun σ H Q=>wi σ H fun J H1=>∀ p,H1 p = none->lcW n fr g te σ J H1 p (Q (.ref p))
def lcI (n:Nat) (fr:List Nat) (g:TG) (tc:TT) (te:TE) (σ:St) (J:It) (H1:Hp) (p:Addr) (D:Hp->Prop):Prop :=
  ∃ W:Nat->Nat->List V->Hp->Prop,(∃ m,W 0 m [] (m5 H1 p (.lst [])))/\∀ i m ys H,W i m ys H →
    (J.stop i H/\D H) \/ (J.go i H/\∀ x H',J.yld i H x H'->g x (blkσ n fr σ) H' fun σ2 H2=>Wk (blkσ n fr σ) σ2/\tc σ2 H2 fun ok H2' =>
      if ok = true then te σ2 H2' fun v H3=>H3 p = some (.lst ys)/\ys.length < sizeLine/\∃ m',m' < m/\W (i + 1) m' (ys ++ [v]) (m5 H3 p (.lst (ys ++ [v]))) else ∃ m',m' < m/\W (i + 1) m' ys H2')
def b2u (n:Nat) (fr:List Nat) (wi:TI) (g:TG) (tc:TT) (te:TE):TE:=fun σ H Q=>wi σ H fun J H1=>∀ p,H1 p = none->lcI n fr g tc te σ J H1 p (Q (.ref p))
theorem a2Y {n:Nat} {fr:List Nat} {g:TG} {te:TE} {σ:St} {J:It} {H1:Hp} {p:Addr} {D:Hp->Prop}:lcI n fr g a7x te σ J H1 p D = lcW n fr g te σ J H1 p D:=by
  unfold lcI lcW a7x
  simp only [if_true]
section
variable {X:Cx} {os:List Str} {fr:List Nat} {scope:Scope} {elt tg iter:Expr} {pos:Pos} {wi:TI} {g:TG} {te:TE}
theorem W6 {ifs:List Expr} {tc:TT} {pins:List (Addr × Obj)} {σ:St} {s2:Shared} {D:Addr->Hp->Prop} {itv:Value} {RR:Value->Addr->Result->Shared->Prop}
    (hc:X.calm = true) (hg:∀ C fp s₀ H₀,PG (blk X os fr scope C fp s₀ H₀) tg g) (ht:∀ C fp s₀ H₀,b0O (blk X os fr scope C fp s₀ H₀) ifs tc) (he:∀ C fp s₀ H₀,PE (blk X os fr scope C fp s₀ H₀) elt te)
    (hk:scope.kind = .function) (hok:X1 X.env.scope scope X.N fr = true)
    (h2:PIE X pins σ tg (fun J H1=>∀ p,H1 p = none->lcI os.length fr g tc te σ J H1 p (D p)) itv s2)
    (hRR:∀ p C s3 H3 s' H',Inv X pins σ H3 s3->s3.heap.objs.size = C->H' C = none->Inv X pins σ H' s'->(∃ m,s'.heap.Ns C m)->D p H'->RR (.ref p) C (.ok .next) s') :
    wpAny (model X.prog X.w) X.A (newList []) (fun acc s₃=>wpAny (model X.prog X.w) X.A (newFunctionEnv scope X.env.globals (clo X.env scope.names []) [] X.env.qual none .none (some X.env)) (fun cenv s₄ =>
      codeAny (model X.prog X.w) X.A (.compStart (.ListComp elt [⟨tg,iter,ifs,0⟩] scope pos) 0 itv acc { cenv with scope:=relabel scope X.env }) (RR acc cenv.locals) s₄) X.xe s₃) X.xe s2:=by
  obtain ⟨it,fp,tn,J,H2,e,I2,T,st2,f2,hR⟩:=h2
  subst e
  refine wpAny_newObj_type ?_
  have fresh:H2 s2.heap.objs.size = none:=I2.fresh
  obtain ⟨W,⟨m0,w0⟩,turn⟩:=hR s2.heap.objs.size fresh
  have I3:Inv X pins σ (m5 H2 s2.heap.objs.size (.lst [])) { s2 with heap:=s2.heap.push { cls:=.type "list",dict:=none,data:=.seq ([]:List Value).toArray } }:=I2.lnew (ys:=[]) (its:=[]) (t':=s2.toks) .nil (Nat.zero_le _)
  have obj2:=T.obj _ _ st2
  have ne2:∀ b ∈ fp,b ≠ s2.heap.objs.size:=fun b hb=>by
    obtain ⟨o,e,_⟩:=obj2 b hb
    exact Nat.ne_of_lt (Heap.lt_size e)
  have st3:tn 0 (s2.heap.push { cls:=.type "list",dict:=none,data:=.seq ([]:List Value).toArray }):=T.keep _ _ _ st2 fun b hb o e=>Heap.get?_push_of_some _ e
  have f3:∀ b ∈ fp,P3 X pins (m5 H2 s2.heap.objs.size (.lst [])) b:=fun b hb=>⟨by rw [c9 (ne2 b hb)]; exact (f2 b hb).1,(f2 b hb).2⟩
  generalize hs3:({ s2 with heap:=s2.heap.push { cls:=.type "list",dict:=none,data:=.seq ([]:List Value).toArray } }:Shared) = s3 at I3 ⊢
  have st3':tn 0 s3.heap:=by rw [<- hs3]; exact st3
  generalize s2.heap.objs.size = p at *
  refine a2O ?_
  have hns:(pushCells (s3.heap.push { cls:=.type "dict",data:=.dict #[] }) scope.names).Ns s3.heap.objs.size fun _=>none:=(Heap.Ns.new s3.heap (.type "dict")).keeps (pushCells_keeps _ _)
  have hkeep:∀ b o,s3.heap.get? b = some o->(pushCells (s3.heap.push { cls:=.type "dict",data:=.dict #[] }) scope.names).get? b = some o:=fun b o e=>pushCells_keeps _ _ b o (Heap.get?_push_of_some _ e)
  have hcl:=cellsFrom_ok scope.names (s3.heap.push { cls:=.type "dict",data:=.dict #[] }) (s3.heap.objs.size + 1) [] ⟨fun _ _ hm=>(nomatch hm),List.Pairwise.nil⟩ (by rw [Heap.size_push]; exact Nat.le_refl _)
  rw [Heap.size_push] at hcl
  generalize pushCells (s3.heap.push { cls:=.type "dict",data:=.dict #[] }) scope.names = h₁ at hns hkeep hcl ⊢
  have obj3:∀ b ∈ fp,∃ o,s3.heap.get? b = some o:=fun b hb=>by
    obtain ⟨o,e,_⟩:=T.obj _ _ st3' b hb
    exact ⟨o,e⟩
  have J0:=I3.block (os:=os) (t':=s3.toks) hk hok f3 obj3 (h₁:=h₁) hns hkeep hcl
  have ok0:=J0.ok
  have fpY:∀ {H':Hp},(∀ b ∈ fp,H' b = none)->∀ b ∈ fp,P3 (blk X os fr scope s3.heap.objs.size fp s3 (m5 H2 p (.lst []))) [] H' b:=fun hn b hb =>
    ⟨hn b hb,(ok0.exf b hb).1,ok0.exfs b hb,.inl hb,(ok0.exf b hb).2,fun q hq=>nomatch hq⟩
  have st4:tn 0 h₁:=T.keep _ _ _ st3' fun b hb o e=>hkeep b o e
  have fr0:∀ b ∈ fp,m5 H2 p (.lst []) b = none:=fun b hb=>(f3 b hb).1
  have loop:∀ s4:Shared,s4 = { s3 with heap:=h₁,toks:=s3.toks } →
      codeAny (model X.prog X.w) X.A (.compLoop (.ListComp elt [⟨tg,iter,ifs,0⟩] scope pos) 0 (.ref it) (.ref p) (compEnvC scope (M0 X.env scope s3.heap.objs.size) s3.heap.objs.size X.env)) (RR (.ref p) s3.heap.objs.size) s4:=by
    rintro s4 rfl
    refine a2G (fun n s'=>∃ i ys H',Inv (blk X os fr scope s3.heap.objs.size fp s3 (m5 H2 p (.lst []))) [] (blkσ os.length fr σ) H' s'/\tn i s'.heap/\(∀ b ∈ fp,H' b = none)/\W i n ys H') ?_ m0 ⟨0,[],_,J0,st4,fr0,w0⟩
    rintro n s5 ⟨i,ys,H5,I5,st5,fr5,w5⟩
    rcases turn i n ys H5 w5 with ⟨stop,qd⟩ | ⟨go,step⟩
    . refine v8 (T.done (blk X os fr scope s3.heap.objs.size fp s3 (m5 H2 p (.lst []))) rfl rfl rfl hc i [] s5 _ H5 (fun _ _=>False) I5 (fpY fr5) st5 stop) fun r s6 ⟨hr,I6⟩=>?_
      subst hr
      exact hRR p _ s3 _ s6 H5 I3 rfl I6.free (I3.unblock f3 I6) (let ⟨m,hm,_⟩:=I6.loc; ⟨m,hm⟩) qd
    . refine v8 (T.item (blk X os fr scope s3.heap.objs.size fp s3 (m5 H2 p (.lst []))) rfl rfl rfl hc i [] s5 _ H5 (fun _ _=>False) I5 (fpY fr5) st5 go) fun r s6 ⟨u,hr,h6⟩=>?_
      subst hr
      refine v8 h6 fun _ s7 ⟨x,H7,I7,r7,y7,st7,fr7⟩=>?_
      have I7':=I7.pinned (fpY fr7) (T.obj _ _ st7)
      refine v8 (hg _ _ _ _ _ s7 _ H7 x u _ I7' r7 (step x H7 y7)) fun _ s8 ⟨σ8,H8,I8,wk8,q8⟩=>?_
      have again:∀ {H':Hp} {s':Shared} {zs:List V} {m':Nat},Inv (blk X os fr scope s3.heap.objs.size fp s3 (m5 H2 p (.lst []))) ([] ++ a0U fp s7.heap) σ8 H' s'->m' < n->W (i + 1) m' zs H' →
          ∃ m,m < n/\∃ i ys H',Inv (blk X os fr scope s3.heap.objs.size fp s3 (m5 H2 p (.lst []))) [] (blkσ os.length fr σ) H' s'/\tn i s'.heap/\(∀ b ∈ fp,H' b = none)/\W i m ys H':=fun {H' s' zs m'} J' hm' w'=>by
        refine ⟨m',hm',i + 1,zs,H',(J'.weak wk8.1.symm fun i v e=>wk8.2 i v e).unpinned,T.keep _ _ _ st7 fun b hb o e=>(J'.pin (b,o) (List.mem_append_right _ (List.mem_append_right _ (O5 hb e)))).1,fun b hb=>?_,w'⟩
        obtain ⟨o,e,d⟩:=T.obj _ _ st7 b hb
        exact (J'.pin (b,o) (List.mem_append_right _ (List.mem_append_right _ (O5 hb e)))).2.1
      refine v8 (ht _ _ _ _ _ s8 σ8 H8 _ I8 q8) fun ok s9 ⟨H9,I9,q9⟩=>?_
      cases ok with
      | false =>
        obtain ⟨m',hm',w9⟩:=q9
        exact again I9 hm' w9
      | true =>
        refine v8 (he _ _ _ _ _ s9 σ8 H9 _ I9 q9) fun y s10 ⟨v,H10,I10,r10,hp10,hz10,m',hm',w10⟩=>?_
        refine v8 (E9 (X:=blk X os fr scope s3.heap.objs.size fp s3 (m5 H2 p (.lst []))) _ s10 σ8 H10 (.ref p) [v] (.ref p) [y] (fun _ H'=>H' = m5 H10 p (.lst (ys ++ [v]))) I10 rfl (.cons r10 .nil) ⟨p,ys,v,rfl,rfl,hp10,hz10,rfl⟩) fun _ s11 ⟨_,H11,I11,_,e11⟩=>?_
        subst e11
        exact again I11 hm' w10
  exact codeAny_compStart_list (loop _ rfl) (T.self _ 0 _ _ _ st4 (loop _ rfl))
theorem T7 (os:List Str) (fr:List Nat) (hc:X.calm = true) (hi:PI X tg iter wi) (hg:∀ C fp s₀ H₀,PG (blk X os fr scope C fp s₀ H₀) tg g) (he:∀ C fp s₀ H₀,PE (blk X os fr scope C fp s₀ H₀) elt te)
    (hk:scope.kind = .function:=by rfl) (hok:X1 X.env.scope scope X.N fr = true:=by rfl) (hs:∀ x,foldedSetIterable iter X.env x = pure x:=by intro _; rfl) :
    PE X (.ListComp elt [⟨tg,iter,[],0⟩] scope pos) (tLC os.length fr wi g te):=by
  intro pins s σ H Q I h
  unfold tLC at h
  simp only [<- a2Y] at h
  rw [eval_ListComp]
  refine wpAny_comprehension_free (use:=none) rfl hs (A7 (O8 I hok)) hk (fun x hx hl=>by have:=(K2 hok x hx).1; rw [hl] at this; exact this) (v8 (hi pins s σ H _ I h) fun v s1 h1=>v8 h1 fun itv s2 h2=>?_)
  refine W6 (os:=os) (D:=fun p H'=>Q (.ref p) H') (RR:=fun acc C=>compPost (model X.prog X.w) X.A X.xe none (EP X pins σ Q) acc C) hc hg (fun _ _ _ _=>a3q) he hk hok h2 ?_
  intro p C s3 H3 s' H' I3 eC hn I' ⟨m,hm⟩ q
  refine ⟨m,hm,fun h' hs'=>⟨.ref p,H',I3.letgo I' hn (by omega) hs',rfl,q⟩⟩
theorem a8j {c:Expr} {tc:TT} (os:List Str) (fr:List Nat) (hc:X.calm = true) (hi:PI X tg iter wi) (hg:∀ C fp s₀ H₀,PG (blk X os fr scope C fp s₀ H₀) tg g) (ht:∀ C fp s₀ H₀,PT (blk X os fr scope C fp s₀ H₀) c tc) (he:∀ C fp s₀ H₀,PE (blk X os fr scope C fp s₀ H₀) elt te)
    (hk:scope.kind = .function:=by rfl) (hok:X1 X.env.scope scope X.N fr = true:=by rfl) (hs:∀ x,foldedSetIterable iter X.env x = pure x:=by intro _; rfl) :
    PE X (.ListComp elt [⟨tg,iter,[c],0⟩] scope pos) (b2u os.length fr wi g tc te):=by
  intro pins s σ H Q I h
  rw [eval_ListComp]
  refine wpAny_comprehension_free (use:=none) rfl hs (A7 (O8 I hok)) hk (fun x hx hl=>by have:=(K2 hok x hx).1; rw [hl] at this; exact this) (v8 (hi pins s σ H _ I h) fun v s1 h1=>v8 h1 fun itv s2 h2=>?_)
  refine W6 (os:=os) (D:=fun p H'=>Q (.ref p) H') (RR:=fun acc C=>compPost (model X.prog X.w) X.A X.xe none (EP X pins σ Q) acc C) hc hg (fun _ _ _ _=>a3t (ht _ _ _ _)) he hk hok h2 ?_
  intro p C s3 H3 s' H' I3 eC hn I' ⟨m,hm⟩ q
  refine ⟨m,hm,fun h' hs'=>⟨.ref p,H',I3.letgo I' hn (by omega) hs',rfl,q⟩⟩
theorem a1T {i:Nat} {x:Str} {pos' spos:Pos} (os:List Str) (fr:List Nat) (hN:X.N.Nodup) (hi':X.N[i]? = some x) (hx:X.env.scope.names.lookup x = some .local)
    (hc:X.calm = true) (hi:PI X tg iter wi) (hg:∀ C fp s₀ H₀,PG (blk X os fr scope C fp s₀ H₀) tg g) (he:∀ C fp s₀ H₀,PE (blk X os fr scope C fp s₀ H₀) elt te)
    (hsw:swapsWith (.ListComp elt [⟨tg,iter,[],0⟩] scope pos) (some (.Name x pos')) spos.line X.env = pure true:=by rfl)
    (hk:scope.kind = .function:=by rfl) (hok:X1 X.env.scope scope X.N fr = true:=by rfl) (hs:∀ x,foldedSetIterable iter X.env x = pure x:=by intro _; rfl) :
    PS X (.Assign [.Name x pos'] (.ListComp elt [⟨tg,iter,[],0⟩] scope pos) spos) (a6c (tLC os.length fr wi g te) (D7 i)):=by
  intro pins s σ H D I h
  unfold a6c tLC at h
  simp only [<- a2Y] at h
  rw [exec_Assign_Name_used _ _ _ _ hsw]
  refine wpAny_bind (wpAny_standAt (wpAny_bind ?_))
  show wpAny _ X.A (do let _ <- comprehension (.ListComp elt [⟨tg,iter,[],0⟩] scope pos) scope X.env _ (newList []) false (eval iter X.env) (some (assign (.Name x pos') X.env))) _ _ s
  refine wpAny_bind (wpAny_mono (wpAny_comprehension_free (use:=some (assign (.Name x pos') X.env)) (Q:=fun _ s'=>SP X pins D .next s') rfl hs (A7 (O8 I hok)) hk (fun x hx hl=>by have:=(K2 hok x hx).1; rw [hl] at this; exact this)
    (v8 (hi pins s σ H _ I h) fun v s1 h1=>v8 h1 fun itv s2 h2=>?_)) (fun _ s' hq=>wpAny_pure (wpAny_pure hq)) fun _ _ e=>e)
  refine W6 (os:=os) (D:=fun p H'=>D.nx (σ.set i (some (.ref p))) H') (RR:=fun acc C=>compPost (model X.prog X.w) X.A X.xe (some (assign (.Name x pos') X.env)) (fun _ s'=>SP X pins D .next s') acc C) hc hg (fun _ _ _ _=>a3q) he hk hok h2 ?_
  intro p C s3 H3 s' H' I3 eC hn I' ⟨m,hm⟩ q
  show wpAny _ X.A (assign (.Name x pos') X.env (.ref p)) _ _ _
  refine wpAny_assign_Name (Z5 (v:=.ref p) I' hN hi' (.inl hx) rfl (fun s'' I'' ⟨a,hsa,ha⟩=>?_) (.inr hx))
  have hCa:C ≠ a:=by
    rcases ha with e | e
    . rw [e]; exact Nat.ne_of_gt (by rw [<- eC]; exact I3.lt)
    . obtain ⟨v,z⟩:=I3.cell x a e
      exact Nat.ne_of_gt (by rw [<- eC]; exact z.lt)
  exact ⟨m,hm.sameBut hsa hCa,fun h' hs'=>⟨_,H',I3.letgo I'' hn (by omega) hs',q⟩⟩
end
end L2
namespace L2
open PySem PySem.Spec PyProof.Rows
section
variable {X:Cx} {pins:List (Addr × Obj)} {σ:St} {H:Hp} {s:Shared} {a:Addr} {xs:List V}
abbrev SqA (K:W.Frag) (H:Hp) (a:Addr) (xs:List V):Prop:=SqL K H a xs \/ SqT K H a xs
theorem a2v {h':Heap} {o:Obj} {h:Heap} (hk:∀ b x,b ∉ [h.objs.size]->(h.push o).get? b = some x->h'.get? b = some x):∀ b x,h.get? b = some x->h'.get? b = some x :=
  fun b x e=>hk b x (fun hm=>by rw [List.mem_singleton.mp hm] at e; exact Nat.lt_irrefl _ (Heap.lt_size e)) (Heap.get?_push_of_some _ e)
theorem a1l (hc:X.calm = true) (I:Inv X pins σ H s) (h:SqA X.K H a xs):∃ its:List Value,Vals xs its/\∀ (Q:Value->Shared->Prop) (E:Value->Shared->Prop),
    (∀ (o:Obj) (St:Nat->Heap->Prop),Walks X.prog X.w X.A.in1 s.heap.objs.size [s.heap.objs.size,a] [s.heap.objs.size] its.toArray.size (fun i v=>its.toArray[i]? = some v) St->St 0 (s.heap.push o) →
      (∀ b ∈ [s.heap.objs.size,a],b < (s.heap.push o).objs.size)->Q (.ref s.heap.objs.size) { s with heap:=s.heap.push o })->wpAny (model X.prog X.w) X.A.in1 (pyIter (.ref a)) Q E s:=by
  have hh:=I.ok.hd hc
  have lt2:∀ (o:Obj),a < s.heap.objs.size->∀ b ∈ [s.heap.objs.size,a],b < (s.heap.push o).objs.size:=fun o hlt b hb=>by
    rw [Heap.size_push]
    rcases List.mem_cons.mp hb with rfl | hb
    . exact Nat.lt_succ_self _
    . rw [List.mem_singleton.mp hb]; exact Nat.lt_succ_of_lt hlt
  rcases h with h | h
  . obtain ⟨its,r,p,hz⟩:=I.list h
    have hl:=p.isList
    have hlt:a < s.heap.objs.size:=by obtain ⟨_,e,_⟩:=hl; exact Heap.lt_size e
    refine ⟨its,r,fun Q E hQ=>wpAny_pyIter_list hl ?_⟩
    exact hQ _ _ (Walks.list (A:=X.A.in1) hh _ a (Nat.ne_of_lt hlt) its.toArray) ⟨⟨_,Heap.get?_push_size _ rfl,rfl,rfl⟩,hl.push _⟩ (lt2 _ hlt)
  . obtain ⟨its,r,p,hz⟩:=I.tuple h
    have hl:s.heap.IsTuple a its.toArray:=p
    have hlt:a < s.heap.objs.size:=by obtain ⟨_,e,_⟩:=hl; exact Heap.lt_size e
    refine ⟨its,r,fun Q E hQ=>wpAny_pyIter_tuple hl ?_⟩
    exact hQ _ _ (Walks.tuple (A:=X.A.in1) hh _ a (Nat.ne_of_lt hlt) its.toArray) ⟨⟨_,Heap.get?_push_size _ rfl,rfl,rfl⟩,hl.push _⟩ (lt2 _ hlt)
theorem a2x {ys:List V} {its:List Value} (r:Vals ys its) {i:Nat} {v:Value} (e:its.toArray[i]? = some v):∃ y,ys[i]? = some y/\RelV y v:=by
  have e':its[i]? = some v:=by simpa using e
  cases q:ys[i]? with
  | none=>rw [r.none_of q] at e'; cases e'
  | some y =>
    obtain ⟨u,h1,h2⟩:=r.get q
    rw [e'] at h1; cases h1
    exact ⟨y,rfl,h2⟩
theorem a4h (bs:List Bool):((List.range bs.length).all fun i=>(bs[i]?).getD true) = bs.all id:=by
  rw [Bool.eq_iff_iff,List.all_eq_true,List.all_eq_true]
  constructor
  . intro h b hb
    obtain ⟨i,hi,e⟩:=List.getElem_of_mem hb
    have:=h i (List.mem_range.mpr hi)
    simp only [List.getElem?_eq_getElem hi,Option.getD_some,e] at this
    exact this
  . intro h i hi
    have hi':=List.mem_range.mp hi
    simp only [List.getElem?_eq_getElem hi',Option.getD_some]
    exact h _ (List.getElem_mem hi')
theorem a4g (bs:List Bool):((List.range bs.length).any fun i=>(bs[i]?).getD false) = bs.any id:=by
  rw [Bool.eq_iff_iff,List.any_eq_true,List.any_eq_true]
  constructor
  . rintro ⟨i,hi,e⟩
    have hi':=List.mem_range.mp hi
    simp only [List.getElem?_eq_getElem hi',Option.getD_some] at e
    exact ⟨_,List.getElem_mem hi',e⟩
  . rintro ⟨b,hb,e⟩
    obtain ⟨i,hi,rfl⟩:=List.getElem_of_mem hb
    exact ⟨i,List.mem_range.mpr hi,by simp only [List.getElem?_eq_getElem hi,Option.getD_some]; exact e⟩
end
section
variable {X:Cx}
theorem a7L (hc:X.calm = true):G4 X (.builtin "all") (fun vs H Q=>∃ (a:Addr) (bs:List Bool),vs = [.ref a]/\SqA X.K H a (bs.map V.bl)/\Q (.bl (bs.all id)) H):=by
  intro pins s σ H vs us Q I r h
  obtain ⟨a,bs,rfl,hs,q⟩:=h
  obtain ⟨u,rfl,ru⟩:=N4 r
  cases ru
  obtain ⟨its,rv,walk⟩:=a1l hc I hs
  have hlen:its.toArray.size = bs.length:=by rw [List.size_toArray,<- rv.length,List.length_map]
  refine call_all_walk (walk _ _ fun o St W st fp=>?_)
  refine ⟨_,_,_,_,_,_,fun i=>(bs[i]?).getD true,rfl,W,st,fun i v s' Q' E' hP hQ=>?_,fun h' tk hk=>?_⟩
  . obtain ⟨y,e,ry⟩:=a2x rv hP
    rw [List.getElem?_map] at e
    cases eb:bs[i]? with
    | none=>rw [eb] at e; cases e
    | some b =>
      rw [eb] at e; cases e
      cases ry
      simp only [eb,Option.getD_some] at hQ
      exact wpAny_truthy_bool hQ
  . rw [hlen,a4h bs]
    exact ⟨.bl _,H,I.kept (a2v hk),rfl,q⟩
theorem a6Q (hc:X.calm = true):G4 X (.builtin "any") (fun vs H Q=>∃ (a:Addr) (bs:List Bool),vs = [.ref a]/\SqA X.K H a (bs.map V.bl)/\Q (.bl (bs.any id)) H):=by
  intro pins s σ H vs us Q I r h
  obtain ⟨a,bs,rfl,hs,q⟩:=h
  obtain ⟨u,rfl,ru⟩:=N4 r
  cases ru
  obtain ⟨its,rv,walk⟩:=a1l hc I hs
  have hlen:its.toArray.size = bs.length:=by rw [List.size_toArray,<- rv.length,List.length_map]
  refine call_any_walk (walk _ _ fun o St W st fp=>?_)
  refine ⟨_,_,_,_,_,_,fun i=>(bs[i]?).getD false,rfl,W,st,fun i v s' Q' E' hP hQ=>?_,fun h' tk hk=>?_⟩
  . obtain ⟨y,e,ry⟩:=a2x rv hP
    rw [List.getElem?_map] at e
    cases eb:bs[i]? with
    | none=>rw [eb] at e; cases e
    | some b =>
      rw [eb] at e; cases e
      cases ry
      simp only [eb,Option.getD_some] at hQ
      exact wpAny_truthy_bool hQ
  . rw [hlen,a4g bs]
    exact ⟨.bl _,H,I.kept (a2v hk),rfl,q⟩
theorem a9D {ns:List Int} {its:List Value} (rv:Vals (ns.map V.int) its):∀ (i:Nat) (v:Value),its.toArray[i]? = some v->∃ t,v = Value.int (ns.getD i 0) t:=fun i v hP=>by
  obtain ⟨y,e,ry⟩:=a2x rv hP
  rw [List.getElem?_map] at e
  cases en:ns[i]? with
  | none=>rw [en] at e; cases e
  | some n =>
    rw [en] at e; cases e
    obtain ⟨t,rfl⟩:=ry
    exact ⟨t,by rw [List.getD_eq_getElem?_getD,en]; rfl⟩
theorem a0p (ns:List Int):∀ j,preSum (fun i=>ns.getD i 0) j = (ns.take j).sum
  | 0=>by simp [preSum]
  | j + 1=>by
    rw [preSum,a0p ns j]
    by_cases hj:j < ns.length
    . rw [List.take_succ_eq_append_getElem hj,List.sum_append,List.getD_eq_getElem?_getD,List.getElem?_eq_getElem hj]; simp
    . rw [List.take_of_length_le (by omega),List.take_of_length_le (by omega),List.getD_eq_getElem?_getD,List.getElem?_eq_none (by omega)]; simp
theorem a7p (hc:X.calm = true):G4 X (.builtin "sum") (fun vs H Q=>∃ (a:Addr) (ns:List Int),vs = [.ref a]/\SqA X.K H a (ns.map V.int)/\Q (.int ns.sum) H):=by
  intro pins s σ H vs us Q I r h
  obtain ⟨a,ns,rfl,hs,q⟩:=h
  obtain ⟨u,rfl,ru⟩:=N4 r
  cases ru
  obtain ⟨its,rv,walk⟩:=a1l hc I hs
  have hlen:its.toArray.size = ns.length:=by rw [List.size_toArray,<- rv.length,List.length_map]
  refine call_sum_walkG (walk _ _ fun o St W st fp=>?_)
  refine ⟨_,_,_,_,_,_,fun i=>ns.getD i 0,rfl,W,st,fp,a9D rv,fun h' tk t' hk=>?_⟩
  rw [hlen,a0p,List.take_of_length_le (Nat.le_refl _)]
  exact ⟨.int _,H,I.kept (a2v hk),⟨_,rfl⟩,q⟩
theorem a0m:G4 X (.builtin "isinstance") (fun vs H Q=>∃ x t n b,vs = [x,.ty n]/\a0f X.K H x t/\W.kitOne X.K t (.type n) = some b/\Q (.bl b) H):=by
  intro pins s σ H vs us Q I r h
  obtain ⟨x,t,n,b,rfl,ty,e,q⟩:=h
  obtain ⟨u,v,rfl,ru,rv⟩:=a3G r
  cases rv
  exact a5M I ru ty e fun tk=>⟨.bl b,H,I.tok _,rfl,q⟩
end
mutual
inductive Dp (K:W.Frag) (H:Hp):V->PyData->Prop
  | non:Dp K H .non .none
  | bl (b:Bool):Dp K H (.bl b) (.bool b)
  | int (i:Int):Dp K H (.int i) (.int i)
  | str (x:Str):Dp K H (.str x) (.str x)
  | lst {a:Addr} {xs:List V} {ds:List PyData}:SqL K H a xs->Dps K H xs ds->Dp K H (.ref a) (.list ds)
  | tup {a:Addr} {xs:List V} {ds:List PyData}:SqT K H a xs->Dps K H xs ds->Dp K H (.ref a) (.tuple ds)
inductive Dps (K:W.Frag) (H:Hp):List V->List PyData->Prop
  | nil:Dps K H [] []
  | cons {x:V} {xs:List V} {d:PyData} {ds:List PyData}:Dp K H x d->Dps K H xs ds->Dps K H (x :: xs) (d :: ds)
end
theorem Same.tseq {K:W.Frag} {H H':Hp} {a:Addr} {xs:List V} (e:Same H H') (h:SqT K H a xs):SqT K H' a xs:=by
  rcases h with (h | ⟨o,h⟩) | h
  . exact .inl (.inl (e _ _ h))
  . exact .inl (.inr ⟨o,e _ _ h⟩)
  . exact .inr h
mutual
theorem Dp.same {K:W.Frag} {H H':Hp} (e:Same H H'):∀ {x:V} {d:PyData},Dp K H x d->Dp K H' x d
  | _,_,.non=>.non
  | _,_,.bl b=>.bl b
  | _,_,.int i=>.int i
  | _,_,.str x=>.str x
  | _,_,.lst h r=>.lst (e.seq h) (Dps.same e r)
  | _,_,.tup h r=>.tup (e.tseq h) (Dps.same e r)
theorem Dps.same {K:W.Frag} {H H':Hp} (e:Same H H'):∀ {xs:List V} {ds:List PyData},Dps K H xs ds->Dps K H' xs ds
  | _,_,.nil=>.nil
  | _,_,.cons a r=>.cons (Dp.same e a) (Dps.same e r)
end
section
variable {X:Cx} {pins:List (Addr × Obj)} {σ:St} {H:Hp} {s:Shared}
mutual
theorem Dp.reads (I:Inv X pins σ H s):∀ {x:V} {d:PyData},Dp X.K H x d->∀ {u:Value},RelV x u->∃ as,Reads s.heap u d as
  | _,_,.non,u,r=>by cases r; exact ⟨_,.none⟩
  | _,_,.bl b,u,r=>by cases r; exact ⟨_,.bool b⟩
  | _,_,.int i,u,r=>by obtain ⟨t,rfl⟩:=r; exact ⟨_,.int i t⟩
  | _,_,.str x,u,r=>by obtain ⟨t,rfl⟩:=r; exact ⟨_,.str x t⟩
  | _,_,.lst h q,u,r=>by
    cases r
    obtain ⟨its,rv,p,hz⟩:=I.list h
    obtain ⟨o,e1,e2,n,e3⟩:=p.isList
    obtain ⟨as,ra⟩:=Dps.reads I q rv
    exact ⟨_,.list e1 e2 e3 (by simpa using ra)⟩
  | _,_,.tup h q,u,r=>by
    cases r
    obtain ⟨its,rv,p,hz⟩:=I.tuple h
    obtain ⟨o,e1,e2,n,e3⟩:=(show s.heap.IsTuple _ its.toArray from p)
    obtain ⟨as,ra⟩:=Dps.reads I q rv
    exact ⟨_,.tuple e1 e2 e3 (by simpa using ra)⟩
theorem Dps.reads (I:Inv X pins σ H s):∀ {xs:List V} {ds:List PyData},Dps X.K H xs ds->∀ {us:List Value},Vals xs us->∃ as,ReadsAll s.heap us ds as
  | _,_,.nil,us,r=>by cases r; exact ⟨_,.nil⟩
  | _,_,.cons a q,us,r=>by
    cases r with
    | cons r1 r2 =>
      obtain ⟨as,h1⟩:=Dp.reads I a r1
      obtain ⟨bs,h2⟩:=Dps.reads I q r2
      exact ⟨_,.cons h1 h2⟩
end
end
section
variable {X:Cx}
def b3j (K:W.Frag):R2:=fun x y H Q=>∃ d e,Dp K H x d/\Dp K H y e/\d.canLay0 = true/\e.canLay0 = true/\min d.depth e.depth <= 60/\Q (.bl (PyData.eqv d e)) H
def b2e (K:W.Frag):R2:=fun x y H Q=>∃ d e,Dp K H x d/\Dp K H y e/\d.canLay0 = true/\e.canLay0 = true/\min d.depth e.depth <= 60/\Q (.bl (!PyData.eqv d e)) H
theorem b0j {k:Nat} (hr:Room k X.A):V4 X (compareOp .Eq) (b3j X.K):=by
  intro pins s σ H x y v u Q I rx ry h
  obtain ⟨d,e,h1,h2,c1,c2,hd,q⟩:=h
  obtain ⟨as,r1⟩:=h1.reads I rx
  obtain ⟨bs,r2⟩:=h2.reads I ry
  exact SeqAt.compareEq_reads r1 r2 c1 c2 (by have:=hr.units; omega) ⟨.bl _,H,I,rfl,q⟩
theorem a2r {k:Nat} (hr:Room k X.A):V4 X (compareOp .NotEq) (b2e X.K):=by
  intro pins s σ H x y v u Q I rx ry h
  obtain ⟨d,e,h1,h2,c1,c2,hd,q⟩:=h
  obtain ⟨as,r1⟩:=h1.reads I rx
  obtain ⟨bs,r2⟩:=h2.reads I ry
  exact SeqAt.compareNe_reads r1 r2 c1 c2 (by have:=hr.units; omega) ⟨.bl _,H,I,rfl,q⟩
end
theorem Same.new {H:Hp} {p:Addr} (h:H p = none) (o:HO):Same H (m5 H p o):=fun b u q=>by rw [c9 (d7 q h)]; exact q
theorem Wk.set {n:Nat} {fr:List Nat} {σ:St} {i:Nat} {v:V} (hi:i < n):Wk (blkσ n fr σ) ((blkσ n fr σ).set i (some v)):=by
  refine ⟨by simp,fun j w e=>?_⟩
  by_cases hj:j = i
  . subst hj
    unfold blkσ at e
    rw [List.getElem?_append_left (by simpa using hi),List.getElem?_replicate] at e
    split at e <;> cases e
  . rw [List.getElem?_set_ne (Ne.symm hj)]; exact e
structure a6j (J:It) (H1:Hp) (xs:List V):Prop where
  go:∀ i H,Same H1 H->i < xs.length->J.go i H
  yld:∀ i H x H',Same H1 H->i < xs.length->J.yld i H x H'->H' = H/\xs[i]? = some x
  stop:∀ H,Same H1 H->J.stop xs.length H
theorem D4 {K:W.Frag} {a:Addr} {xs:List V} {H1:Hp} (h:SqL K H1 a xs):a6j (Itl K a) H1 xs :=
  ⟨fun i H e hi=>⟨xs,xs[i],e.seq h,List.getElem?_eq_getElem hi⟩,fun i H x H' e hi y=>⟨y.1,y.2 xs (e.seq h)⟩,fun H e=>⟨xs,e.seq h,Nat.le_refl _⟩⟩
theorem a1o {K:W.Frag} {a:Addr} {xs:List V} {H1:Hp} (h:SqT K H1 a xs):a6j (Itt K a) H1 xs :=
  ⟨fun i H e hi=>⟨xs,xs[i],e.tseq h,List.getElem?_eq_getElem hi⟩,fun i H x H' e hi y=>⟨y.1,y.2 xs (e.tseq h)⟩,fun H e=>⟨xs,e.tseq h,Nat.le_refl _⟩⟩
theorem a4j {lo:Int} {n:Nat} {H1:Hp}:a6j (Itr lo n) H1 ((List.range n).map fun (i:Nat)=>V.int (lo + (i:Int))) :=
  ⟨fun i H e hi=>(show i < n from by simpa using hi),fun i H x H' e hi y=>⟨y.1,by rw [y.2,List.getElem?_map,List.getElem?_range (by simpa using hi)]; rfl⟩,fun H e=>by simp [Itr]⟩
theorem Paired.app {α β:Type} {F:α->β->Prop}:∀ {a c:List α} {b d:List β},Paired F a b->Paired F c d->Paired F (a ++ c) (b ++ d)
  | _,_,_,_,.nil,s=>s
  | _,_,_,_,.cons r t,s=>.cons r (Paired.app t s)
section
variable {xs:List V} {J:It} {n:Nat} {fr:List Nat} {g:TG} {te:TE} {σ:St} {H1:Hp} {p:Addr} {D:Hp->Prop}
theorem U5 (hJ:a6j J H1 xs) (hp:H1 p = none) (hz:xs.length < sizeLine) (F:V->V)
    (step:∀ (i:Nat) x H (N:VK),xs[i]? = some x->Same H1 H->N (F x) H->g x (blkσ n fr σ) H fun σ2 H2=>Wk (blkσ n fr σ) σ2/\te σ2 H2 N)
    (hd:D (m5 H1 p (.lst (xs.map F)))):lcW n fr g te σ J H1 p D:=by
  refine ⟨fun i m ys H=>m = xs.length - i/\i <= xs.length/\ys = (xs.take i).map F/\H = m5 H1 p (.lst ys),⟨xs.length,by simp,Nat.zero_le _,by simp,rfl⟩,?_⟩
  rintro i m ys H ⟨rfl,hi,rfl,rfl⟩
  have e:=Same.new (o:=.lst ((xs.take i).map F)) hp
  by_cases hlt:i < xs.length
  . refine .inr ⟨hJ.go i _ e hlt,fun x H' y=>?_⟩
    obtain ⟨rfl,hx⟩:=hJ.yld i _ x H' e hlt y
    refine step i x _ _ hx e ⟨upd_same,by rw [List.length_map,List.length_take]; omega,xs.length - (i + 1),by omega,rfl,hlt,?_,L6⟩
    rw [List.take_succ,hx,List.map_append]; rfl
  . have:i = xs.length:=by omega
    subst this
    refine .inl ⟨hJ.stop _ e,?_⟩
    rw [List.take_of_length_le (Nat.le_refl _)]; exact hd
theorem a0F (hJ:a6j J H1 xs) (hp:H1 p = none) (hz:xs.length < sizeLine) (R:Nat->V->Hp->Prop) (hR:∀ i y H H',R i y H->(∀ b o,b ≠ p->H b = some o->H' b = some o)->R i y H')
    (step:∀ (i:Nat) x H ys (N:VK),xs[i]? = some x->Same H1 H->H p = some (.lst ys)->(∀ v H3,Same H H3->R i v H3->N v H3)->g x (blkσ n fr σ) H fun σ2 H2=>Wk (blkσ n fr σ) σ2/\te σ2 H2 N)
    (hd:∀ ys H,Same H1 H->H p = some (.lst ys)->ys.length = xs.length->(∀ i y,ys[i]? = some y->R i y H)->D H):lcW n fr g te σ J H1 p D:=by
  refine ⟨fun i m ys H=>m = xs.length - i/\i <= xs.length/\Same H1 H/\H p = some (.lst ys)/\ys.length = i/\∀ j y,ys[j]? = some y->R j y H,⟨xs.length,by simp,Nat.zero_le _,Same.new hp _,upd_same,rfl,fun j y e=>by simp at e⟩,?_⟩
  rintro i m ys H ⟨rfl,hi,e,hH,len,pr⟩
  by_cases hlt:i < xs.length
  . refine .inr ⟨hJ.go i _ e hlt,fun x H' y=>?_⟩
    obtain ⟨rfl,hx⟩:=hJ.yld i _ x H' e hlt y
    refine step i x _ ys _ hx e hH fun v H3 s3 r3=>⟨s3 _ _ hH,by omega,xs.length - (i + 1),by omega,rfl,hlt,fun b o q=>?_,upd_same,by rw [List.length_append,len]; rfl,fun j y ey=>?_⟩
    . rw [c9 (d7 q hp)]; exact s3 _ _ (e _ _ q)
    . have up:∀ b o,b ≠ p->H3 b = some o->m5 H3 p (.lst (ys ++ [v])) b = some o:=fun b o hb q=>by rw [c9 hb]; exact q
      by_cases hj:j < ys.length
      . rw [List.getElem?_append_left hj] at ey
        exact hR j y _ _ (pr j y ey) fun b o hb q=>up b o hb (s3 _ _ q)
      . rw [List.getElem?_append_right (by omega)] at ey
        have hj':j - ys.length = 0:=by
          cases q:j - ys.length with
          | zero=>rfl
          | succ k=>rw [q] at ey; simp at ey
        rw [hj'] at ey
        have:j = i:=by omega
        subst this
        simp at ey
        subst ey
        exact hR j v _ _ r3 up
  . have:i = xs.length:=by omega
    subst this
    exact .inl ⟨hJ.stop _ e,hd ys H e hH len pr⟩
end
end L2
namespace L2
open PySem PySem.Spec PyProof.Rows
theorem Inv.turnedLaid {X:Cx} {pins:List (Addr × Obj)} {σ:St} {H:Hp} {s:Shared} {h':Heap} {fp:List Addr} {T:Addr} {xs:List V} {its:List Value} (I:Inv X pins σ H s) (hf:∀ b ∈ fp,P3 X pins H b)
    (k:∀ b o,b ∉ fp->s.heap.get? b = some o->h'.get? b = some o) (ho:∀ b ∈ fp,∃ o,h'.get? b = some o) (hT:s.heap.objs.size <= T) (hz:xs.length <= sizeLine) (hv:Vals xs its) (ht:IsTup h' T its.toArray) :
    Inv X pins σ (m5 H T (.tup xs)) { s with heap:=h' }:=by
  have hTn:H T = none:=I.hok.fresh hT
  have neT:∀ b o,s.heap.get? b = some o->b ≠ T:=fun b o e=>Nat.ne_of_lt (Nat.lt_of_lt_of_le (Heap.lt_size e) hT)
  refine I.step (g':=s.gens) (t':=s.toks) (d':=s.drawn) (ch:=fp) (fun b hb=>⟨(hf b hb).2.2.2.1,(hf b hb).2.1,(hf b hb).2.2.2.2.1,(hf b hb).2.2.2.2.2⟩) (fun b o _ _ hc e _=>k b o hc e) (fun b o _ _ hc e _=>⟨o.slots,k b o hc e⟩)
    (fun b o hc e n=>by rw [c9 (neT b o e)]; exact n) (fun b o hc e=>⟨o,k b o hc e⟩) (fun b ys e=>by rw [c9 (d7 e hTn)]; exact e) (fun b o u e=>by rw [c9 (d7 e hTn)]; exact e) (fun b ps e=>⟨#[],by rw [c9 (d7 e hTn),e]; simp⟩)
    (fun m hm=>?_) (fun b u e=>?_) I.bare
  . obtain ⟨o,es,ep,e1,r⟩:=hm
    exact ⟨o,es,ep,k _ o (fun z=>(hf _ z).2.1 rfl) e1,r⟩
  . by_cases hb:b = T
    . subst hb; rw [upd_same] at e; cases e
      exact ⟨hz,its,hv,ht⟩
    . rw [c9 hb] at e
      have nit:∀ c u,H c = some u->c ∉ fp:=fun c u q z=>by rw [(hf c z).1] at q; cases q
      refine (I.hok b u e).stay (fun c v hc q=>k c v ?_ q) (fun c q=>by rw [c9 (d7 q hTn)]; exact q) fun c ys q=>by rw [c9 (d7 q hTn)]; exact q
      rcases hc with z | z
      . rw [z]; exact nit b u e
      . exact nit c _ z
theorem Inv.turnedAll {X:Cx} {pins:List (Addr × Obj)} {σ:St} {H:Hp} {s:Shared} {h':Heap} {fp:List Addr} (I:Inv X pins σ H s) (hf:∀ b ∈ fp,P3 X pins H b)
    (k:∀ b o,b ∉ fp->s.heap.get? b = some o->h'.get? b = some o):Inv X pins σ H { s with heap:=h' }:=by
  refine I.step (g':=s.gens) (t':=s.toks) (d':=s.drawn) (ch:=fp) (fun b hb=>⟨(hf b hb).2.2.2.1,(hf b hb).2.1,(hf b hb).2.2.2.2.1,(hf b hb).2.2.2.2.2⟩) (fun b o _ _ hc e _=>k b o hc e) (fun b o _ _ hc e _=>⟨o.slots,k b o hc e⟩)
    (fun b o hc e n=>n) (fun b o hc e=>⟨o,k b o hc e⟩) (fun b ys e=>e) (fun b o u e=>e) (fun b ps e=>⟨#[],by rw [e]; simp⟩)
    (fun m hm=>?_) (fun b u e=>?_) I.bare
  . obtain ⟨o,es,ep,e1,r⟩:=hm
    exact ⟨o,es,ep,k _ o (fun z=>(hf _ z).2.1 rfl) e1,r⟩
  . have nit:∀ c u,H c = some u->c ∉ fp:=fun c u q z=>by rw [(hf c z).1] at q; cases q
    refine (I.hok b u e).stay (fun c v hc q=>k c v ?_ q) (fun c q=>q) fun c ys q=>q
    rcases hc with z | z
    . rw [z]; exact nit b u e
    . exact nit c _ z
theorem a7Q (n l1 l2:Nat) (h1:l1 < n) (h2:l2 < n):ZipApart (n + 4) (n + 2) (n + 3) n (n + 1) l1 l2 where
  TIz:=(by omega:(n + 2:Nat) ≠ n + 4)
  TOz:=(by omega:(n + 3:Nat) ≠ n + 4)
  i1z:=(by omega:(n:Nat) ≠ n + 4)
  i2z:=(by omega:(n + 1:Nat) ≠ n + 4)
  TITO:=(by omega:(n + 2:Nat) ≠ n + 3)
  TIi1:=(by omega:(n + 2:Nat) ≠ n)
  TIi2:=(by omega:(n + 2:Nat) ≠ n + 1)
  TOi1:=(by omega:(n + 3:Nat) ≠ n)
  TOi2:=(by omega:(n + 3:Nat) ≠ n + 1)
  i12:=(by omega:(n:Nat) ≠ n + 1)
  l1z:=(by omega:(l1:Nat) ≠ n + 4)
  l1TO:=(by omega:(l1:Nat) ≠ n + 3)
  l1i1:=(by omega:(l1:Nat) ≠ n)
  l1i2:=(by omega:(l1:Nat) ≠ n + 1)
  l2z:=(by omega:(l2:Nat) ≠ n + 4)
  l2TO:=(by omega:(l2:Nat) ≠ n + 3)
  l2i1:=(by omega:(l2:Nat) ≠ n)
  l2i2:=(by omega:(l2:Nat) ≠ n + 1)
section
variable {X:Cx}
def b2a (i j:Int):Prop:=0 < j/\j < 2 ^ 8000
theorem log2_lt {y:Nat} (h:y < 2 ^ 8000):y.log2 < 9000:=by
  by_cases h0:y = 0
  . subst h0; decide
  . exact Nat.lt_of_lt_of_le ((Nat.log2_lt h0).mpr h) (by decide)
theorem a1b:V4 X (binaryOp .FloorDiv) (rI b2a fun i j=>.int (i / j)):=opI fun i j _ _ _ _ _ hc q=>by
  have h0:j ≠ 0:=by have:=hc.1; omega
  have e:i.fdiv j = i / j:=Int.fdiv_eq_ediv_of_nonneg i (Int.le_of_lt hc.1)
  refine floordiv_int h0 (by rw [e]; exact q) (.inl (PyProof.noPylong_of_log2 (log2_lt ?_)))
  have:=hc.1
  have:=hc.2
  omega
def Big (n:Nat) (i:Int):Prop:=i.natAbs < 2 ^ n
def b2y (i j:Int):Prop:=Big 1000000 i/\Big 1000000 j
theorem a4X {i:Int} (h:Big 1000000 i):Builtin.Int.intBits i <= 2 ^ 20:=by
  unfold Builtin.Int.intBits
  split
  . exact Nat.zero_le _
  . rename_i h0
    have h0':i.natAbs ≠ 0:=by
      intro z
      exact h0 (by rw [Int.natAbs_eq_zero.mp z]; rfl)
    have:=(Nat.log2_lt h0').mpr h
    omega
theorem a0D:V4 X (binaryOp .Mult) (rI b2y fun i j=>.int (i * j)):=opI fun _ _ _ _ _ _ _ hc q=>mul_int q (IntMulOk.of_bits (a4X hc.1) (a4X hc.2))
end
theorem Same.write {H H':Hp} {p:Addr} {o:HO} (e:Same H H') (hp:H p = none):Same H (m5 H' p o):=fun b u q=>by rw [c9 (d7 q hp)]; exact e b u q
section
variable {xs:List V} {J:It} {fr:List Nat} {tc:TT} {σ:St} {H1:Hp} {p:Addr} {D:Hp->Prop}
end
end L2
namespace L2
open PySem PySem.W
section
variable {prog:Program} {w:World} {A:Around} {E:Value->Shared->Prop} {s:Shared} {K:Frag} {x C D:Addr} {ox:Obj}
end
structure a2C (K:Frag) (D:Addr):Prop where
  ob:∃ nm q N bs bm hdct sn sub ab col dd k0 k1 k2 k3 k5,K.lookup D = some (excClassObj nm q D N bs bm hdct sn sub ab col dd k0 k1 k2 k3 k5 "ValueError.__new__")/\nsOkIn K N = true/\nsIn K N "__init__" = some none ∧
    tailIn K [.type "ValueError",.type "Exception",.type "BaseException",.type "object"] bm = true
  ga:findIn K (.ref D) "__getattribute__" = some (some (.builtin "BaseException.__getattribute__"))
  gn:findIn K (.ref D) "__getattr__" = some none
  ca:findIn K (.ref D) "__class__" = some (some (.builtin "object.__class__"))
  mo:mroIn K D (.type "object") = some true
  mb:mroIn K D (.type "BaseException") = some true
end L2
namespace L2
open PySem PySem.Spec PyProof.Rows
theorem ObjOk.got {P:Program} {w:World} {H:Hp} {h:Heap} {a:Addr} {o:HO} (x:ObjOk P w H h a o):∃ ob,h.get? a = some ob:=by
  cases o with
  | lst xs=>obtain ⟨_,_,_,_,e⟩:=x; exact ⟨_,e⟩
  | tup xs=>obtain ⟨_,_,_,ob,e,_⟩:=x; exact ⟨ob,e⟩
  | dK kvs=>obtain ⟨_,_,_,_,ob,_,_,e,_⟩:=x; exact ⟨ob,e⟩
  | dT kvs=>obtain ⟨_,_,_,_,ob,_,_,e,_⟩:=x; exact ⟨ob,e⟩
  | set S n=>obtain ⟨ob,_,_,_,e,_⟩:=x; exact ⟨ob,e⟩
  | ins C dx fs=>obtain ⟨_,_,_,e,_⟩:=x; exact ⟨_,e⟩
  | own y=>exact x
  | xd fs=>obtain ⟨_,⟨ob,_,_,e,_⟩,_⟩:=x; exact ⟨ob,e⟩
  | rng lo hi=>obtain ⟨_,_,_,e⟩:=x; exact ⟨_,e⟩
  | frz ob u=>obtain ⟨e,_⟩:=x; exact ⟨_,e⟩
  | tbl ps=>exact ⟨_,(show h.get? a = some _ from x)⟩
  | met f y=>exact ⟨_,(show h.get? a = some _ from x)⟩
  | ext φ=>obtain ⟨_,e,_⟩:=x; exact e
theorem Un.slots {fs ex:List Addr} {H0 H':Hp} {h0 h1 h2:Heap} (u:Un fs ex H0 H' h0 h1) (hb:∀ b o,h1.get? b = some o->(∃ o0,h0.get? b = some o0)->b ∉ fs->h2.get? b = some o)
    (hf:∀ b ∈ fs,∀ o,h1.get? b = some o->∃ sl,h2.get? b = some { o with slots:=sl }):Un fs ex H0 H' h0 h2 where
  keep:=fun b o q n hfs hx=>hb b o (u.keep b o q n hfs hx) ⟨o,q⟩ hfs
  slot:=fun b o q n hfs hx=>by
    obtain ⟨sl,e⟩:=u.slot b o q n hfs hx
    obtain ⟨sl',e'⟩:=hf b hfs _ e
    exact ⟨sl',e'⟩
  free:=u.free
  there:=fun b o q hx=>by
    obtain ⟨o',e⟩:=u.there b o q hx
    by_cases hm:b ∈ fs
    . obtain ⟨sl,e'⟩:=hf b hm _ e; exact ⟨_,e'⟩
    . exact ⟨_,hb b o' e ⟨o,q⟩ hm⟩
  tups:=u.tups
  frzs:=u.frzs
  tbls:=u.tbls
theorem HOk.slots {P:Program} {w:World} {H:Hp} {h h':Heap} (x:HOk P w H h) (k:∀ b u o,H b = some u->h.get? b = some o->h'.get? b = some o):HOk P w H h':=fun a o e =>
  (x a o e).stay (fun b u hb q=>by
    rcases hb with rfl | hb
    . exact k b o u e q
    . exact k b _ u hb q) (fun _ q=>q) fun _ _ q=>q
structure Fly (P:Program) (w:World) (l:List Env) (H:Hp) (s:Shared) (ea t D:Addr) (B:Heap) (H':Hp) (s':Shared):Prop where
  os:s'.os = s.os
  bare:AllBare s'.gens
  un:Un (frs l) [] H H' s.heap s'.heap
  hok:HOk P w H' s'.heap
  fly:Heap.FlyingW B l ea (.ref D) (.ref t) s'.heap
  inb:∀ b o,s'.heap.get? b = some o->((∃ o0,s.heap.get? b = some o0)/\b ∉ frs l) \/ H' b ≠ none->B.get? b = some o
def T3 (P:Program) (w:World):CXT:=fun l H s E e s'=>∃ (ea t D:Addr) (B:Heap) (H':Hp),e = .ref ea/\Fly P w l H s ea t D B H' s'/\E (.ref D) none H'
section
variable {P:Program} {w:World} {l:List Env} {H:Hp} {s s':Shared} {ea t D:Addr} {B h':Heap} {H':Hp}
theorem Fly.inv {X:Cx} {pins:List (Addr × Obj)} {σ:St} (I:Inv X pins σ H s) (F:Fly X.prog X.w X.stack H s ea t D B H' s'):Inv X pins σ H' s' :=
  I.call' F.os F.un F.hok F.bare (fun b z=>absurd z (by simp))
end
section
variable {P:Program} {w:World} {K:W.Frag} {mg:Str->Option Value} {base:Heap} {N:List Str} {qual:Str} {scope:Scope} {f:Addr} {cd:Value} {A:Around} {outer:List Env} {s₀:Shared} {H₀:Hp} {E:XK}
theorem Y5 {b:Addr} {o:Obj} {X:Cx} {pins:List (Addr × Obj)} {σ:St} {H:Hp} {s:Shared} (I:Inv X pins σ H s) (e:X.s₀.heap.get? b = some o) (hb:b ∉ frs X.outer):b ∉ frs X.stack:=fun z=>by
  rcases List.mem_cons.mp (I.stkSub b z) with q | q
  . have:=Nat.lt_of_lt_of_le (Heap.lt_size e) I.ok.above
    rw [q] at this
    exact Nat.lt_irrefl _ this
  . exact hb q
theorem X9:P4 (T3 P w) (J1 (T3 P w) P w K mg base N qual scope f cd A outer s₀ H₀ E) E:=by
  intro pins σ H s e s' I h
  obtain ⟨ea,t,D,B,H',rfl,F,hE⟩:=h
  have I':=F.inv I
  refine wpAny_leaves_onW I.ok.frames rfl F.fly fun h' fl up=>?_
  have st:∀ b o,B.get? b = some o->h'.get? b = some o:=fl.1
  have bin:∀ b o,s'.heap.get? b = some o->(∃ o0,s₀.heap.get? b = some o0)->b ∉ frs outer->B.get? b = some o:=fun b o q ⟨o0,z⟩ hn=>by
    obtain ⟨o1,q1⟩:=I.base.there b o0 z (by show b ∉ ([]:List Addr); simp)
    exact F.inb b o q (.inl ⟨⟨o1,q1⟩,Y5 I z hn⟩)
  refine ⟨ea,t,D,B,H',rfl,⟨I'.os,F.bare,I'.base.slots (fun b o q z hn=>st b o (bin b o q z hn)) (fun b hb o q=>?_),F.hok.slots (fun b u o e q=>st b o (F.inb b o q (.inr (by rw [e]; simp)))),fl,fun b o q z=>?_⟩,hE⟩
  . obtain ⟨_,o',ho',hd⟩:=F.fly.2.2.1.2.2.mem hb
    rw [q] at ho'; cases ho'
    exact up b o q hd
  . have:∃ o1,s'.heap.get? b = some o1/\B.get? b = some o1:=by
      rcases z with ⟨⟨o0,z⟩,hn⟩ | z
      . obtain ⟨o1,q1⟩:=I'.base.there b o0 z (by show b ∉ ([]:List Addr); simp)
        exact ⟨o1,q1,bin b o1 q1 ⟨o0,z⟩ hn⟩
      . cases e:H' b with
        | none=>exact absurd e z
        | some u =>
          obtain ⟨o1,q1⟩:=(F.hok b u e).got
          exact ⟨o1,q1,F.inb b o1 q1 (.inr z)⟩
    obtain ⟨o1,_,b1⟩:=this
    have:=st b o1 b1
    rw [show h'.get? b = some o from q] at this
    cases this
    exact b1
theorem b2q {pins:List (Addr × Obj)} {σ:St} {H:Hp} {s:Shared} {h1:Heap} {ea D:Addr} {vs:List Value} (I:Inv (J1 (T3 P w) P w K mg base N qual scope f cd A outer s₀ H₀ E) pins σ H s) (hx:Heap.MadeExcOf s.heap h1 ea (.ref D) vs)
    (hE:E (.ref D) none H):(J1 (T3 P w) P w K mg base N qual scope f cd A outer s₀ H₀ E).xe (.ref ea) { s with heap:=h1 }:=by
  have hin:∀ env ∈ (envOfC qual scope s₀.heap.objs.size f cd :: outer),∀ b,env.frame = some b->b ∈ frs (envOfC qual scope s₀.heap.objs.size f cd :: outer):=fun env he b hb=>List.mem_filterMap.mpr ⟨env,he,hb⟩
  refine wpAny_leaves_madeW (base:=W.hideAll s.heap (frs (envOfC qual scope s₀.heap.objs.size f cd :: outer))) (h:=s.heap) I.ok.frames rfl (fun b o q=>W.of_hideAll _ q) (W.funFrames_hide I.stack hin) hx fun h' t fl _ _ up=>?_
  have st:∀ b o,s.heap.get? b = some o->b ∉ frs (envOfC qual scope s₀.heap.objs.size f cd :: outer)->h'.get? b = some o:=fun b o q hn=>fl.1 b o (W.hideAll_get _ q hn)
  have trn:∀ b u,H b = some u->b ∉ frs (envOfC qual scope s₀.heap.objs.size f cd :: outer):=fun b u e z=>by
    have:=I.stkFree b z
    rw [e] at this; cases this
  refine ⟨ea,t,D,_,H,rfl,⟨I.os,I.bare,I.base.slots (fun b o q ⟨o0,z⟩ hn=>st b o q (Y5 I z hn)) (fun b hb o q=>?_),I.hok.slots (fun b u o e q=>st b o q (trn b u e)),fl,fun b o q z=>?_⟩,hE⟩
  . obtain ⟨_,o',ho',hd⟩:=I.funs.mem hb
    rw [q] at ho'; cases ho'
    exact up b o (hx.keeps b o q) hd
  . have:∃ o1,s.heap.get? b = some o1/\b ∉ frs (envOfC qual scope s₀.heap.objs.size f cd :: outer):=by
      rcases z with ⟨⟨o0,z⟩,hn⟩ | z
      . obtain ⟨o1,q1⟩:=I.base.there b o0 z (by show b ∉ ([]:List Addr); simp)
        exact ⟨o1,q1,Y5 I z hn⟩
      . cases e:H b with
        | none=>exact absurd e z
        | some u =>
          obtain ⟨o1,q1⟩:=(I.hok b u e).got
          exact ⟨o1,q1,trn b u e⟩
    obtain ⟨o1,q1,hn⟩:=this
    have:=st b o1 q1 hn
    rw [show h'.get? b = some o from q] at this
    cases this
    exact W.hideAll_get _ q1 hn
end
end L2
namespace L2
open PySem PySem.Spec PyProof.Rows
section
variable {X:Cx} {e:Expr} {te:TE} {a:Str} {j:Nat} {p1 p2 p3:Pos}
def tFs (te:TE):TE:=fun σ H Q=>te σ H fun v H1=>∃ i:Int,v = .int i/\i.natAbs.log2 < 1920/\∀ x,Q (.str x) H1
theorem a8P (he:PE X e te) (ha:a.length <= 1000):PE X (.JoinedStr [.Constant (.str a) j p1,.FormattedValue e (-1) none p2] p3) (tFs te):=by
  intro pins s σ H Q I h
  refine JoinedStr_many (joinParts_cons ?_)
  refine v8 (U4 pins s σ H (fun v H'=>v = .str a/\H' = H) I ⟨rfl,rfl⟩) fun u s1 ⟨v,H1,I1,r,hv,hH⟩=>?_
  subst hv; subst hH
  obtain ⟨tk,rfl⟩:=r
  have e0:(Str.empty ++ a).length = a.length:=by rw [strLen_append]; show 0 + a.length = a.length; omega
  refine ⟨by rw [e0]; exact Nat.le_trans ha (by decide),joinParts_cons (FormattedValue_plain ?_)⟩
  refine v8 (he pins s1 σ H1 _ I1 h) fun u s2 ⟨v,H2,I2,r,i,hv,hi,q⟩=>?_
  subst hv
  obtain ⟨tk2,rfl⟩:=r
  refine formatField_int_small hi ?_
  have hl:(Str.empty ++ a ++ Str.ofString (toString i)).length <= sizeLine:=by
    rw [strLen_append,e0]
    have h1:=int_text_length_le (a:=i) (k:=1920) (by decide) hi
    rw [PySem.ofString_length,sizeLine_eq]
    omega
  refine ⟨hl,joinParts_nil ?_ hl⟩
  exact ⟨.str _,H2,(I2.tok _).tok _,⟨_,rfl⟩,q _⟩
end
section
variable {P:Program} {w:World} {K:W.Frag} {mg:Str->Option Value} {base:Heap} {N:List Str} {qual:Str} {scope:Scope} {f:Addr} {cd:Value} {A:Around} {outer:List Env} {s₀:Shared} {H₀:Hp} {E:XK}
  {x:Str} {D:Addr} {e:Expr} {t:TA} {np cpos pos:Pos}
def a8r (t:TA) (D:Addr) (E:XK):TS:=fun _ σ H=>t σ H fun vs H1=>vs.length <= 1000/\E (.ref D) none H1
theorem Y3 (k:a2C K D) (hg:Gl (J1 (T3 P w) P w K mg base N qual scope f cd A outer s₀ H₀ E) x) (hm:mg x = some (.ref D)) (hh:A.handled = none)
    (ha:PA (J1 (T3 P w) P w K mg base N qual scope f cd A outer s₀ H₀ E) [e] t)
    (he:starEach [e] (envOfC qual scope s₀.heap.objs.size f cd) = [(false,eval e (envOfC qual scope s₀.heap.objs.size f cd))]:=by rfl) (hdb:(x == ("__debug__":Str)) = false:=by decide) :
    PS (J1 (T3 P w) P w K mg base N qual scope f cd A outer s₀ H₀ E) (.Raise (some (.Call (.Name x np) [e] [] cpos)) none pos) (a8r t D E):=by
  intro pins s σ H Dn I h
  obtain ⟨nm,q,Na,bs,bm,hdct,sn,sub,ab,col,dd,k0,k1,k2,k3,k5,lk,ok,ni,tl⟩:=k.ob
  have tb:∀ h:Heap,K.In h->OwnTail h [.type "ValueError",.type "Exception",.type "BaseException",.type "object"] bm:=fun h X=>W.tail_of_in X tl
  have nsf:∀ h:Heap,K.In h->h.Ns Na (h.nsMap Na)/\h.nsMap Na "__init__" = none:=fun h X=>⟨.of_isNs (W.isNs_of_in X ok),W.nsMap_none_of_in X ok ni⟩
  have hN0:=(nsf s.heap I.kIn).1
  refine wpAny_Raise_call_subT (C:=D) (nm:=nm) (q:=q) (N:=Na) (bs:=bs) (bm:=bm) (hdct:=hdct) (sn:=sn) (sub:=sub) (ab:=ab) (col:=col) (dd:=dd) (k0:=k0) (k1:=k1) (k2:=k2) (k3:=k3) (k5:=k5) (newId:="ValueError.__new__")
    F.excBase_ValueError (mN:=base.nsMap Na) ((tb base I.mod.kin).hasType (by decide +kernel)) (by show (A.deeper _).handled = none; exact hh) (by rw [show starEach [e] (J1 (T3 P w) P w K mg base N qual scope f cd A outer s₀ H₀ E).env = _ from he]; rfl)
    (nsf base I.mod.kin).2 (a0x I hg hm ⟨rfl,?_⟩ hdb)
  have h2:=ha cpos pins s σ H _ I h
  rw [show starEach [e] (J1 (T3 P w) P w K mg base N qual scope f cd A outer s₀ H₀ E).env = _ from he] at h2 ⊢
  refine Calls.evalArgs_plain (wpAny_mono h2 (fun us s2 ⟨vs,H2,I2,r,hl,hE⟩=>⟨rfl,by rw [<- r.length]; exact Nat.le_of_lt (j6 hl),I2.kIn _ _ lk,(nsf base I.mod.kin).1.keeps I2.bk,tb _ I2.kIn,fun h' ea hx=>b2q I2 hx hE⟩) fun _ _ z=>z)
end
section
variable {X:Cx} {CX:CXT} {k:Nat} {f:Addr} {fd:FuncData} {ps:List Str} {sp:Sp} {EX:St->XK} {x:Str} {p pos:Pos} {e:Expr} {es:List Expr} {t:TA}
end
section
variable {X:Cx} {pins:List (Addr × Obj)} {σ:St} {H:Hp} {s:Shared} {ea:Addr}
end
section
variable {X:Cx} {x n:Str} {R:Addr} {i:Nat} {tb:(St->XK)->TS} {ts:TS} {body suite:List Stmt} {b₀:Stmt} {np hpos pos:Pos}
end
end L2
namespace L2
open PySem PySem.Spec PyProof.Rows
structure b1A (k:Nat) (A:Around):Prop where
  dp:A.depth + 3 * k + 5 < recursionLimit
  un:A.units + 16 * k + 200 < cLine
structure FnU (P:Program) (w:World) (K:W.Frag) (mg:Str->Option Value) (base:Heap) (k:Nat) (f:Addr) (fd:FuncData) (ps:List Str) (sp:Sp):Prop where
  len:∀ vs H Q E,sp vs H Q E->vs.length = ps.length
  run:∀ (A:Around) (outer:List Env) (s:Shared) (H:Hp) (args:Args) (us:List Value) (vs:List V) (Q:VK) (E:XK),b1A k A->Env0 P w K mg base A outer s H->BindsTo s fd args (ps.zip us)->Vals vs us->sp vs H Q E →
    codeAny (model P w) A (.call (.ref f) args) (CR D6 outer P w H s Q E) s
section
variable {P:Program} {w:World} {K:W.Frag} {mg:Str->Option Value} {base:Heap}
theorem Fun.ok1 {x qual:Str} {st:Stmt} {f:Addr} {fd:FuncData} {N ps:List Str} {k:Nat} {sp:Sp} (F:Fun K x qual st f fd) (S:j3 N ps (h8 st)) (len:∀ vs H Q E,sp vs H Q E->vs.length = ps.length)
    (hbody:∀ (cdv:Value) (A:Around) (outer:List Env) (s:Shared) (H:Hp) (vs:List V) (Q:VK) (E:XK),Room k (A.deeper (envOfC qual (h8 st) s.heap.objs.size f cdv))->sp vs H Q E →
      ∃ t,PSs (J1 (T3 P w) P w K mg base N qual (h8 st) f cdv A outer s H E) (p9 st) t/\t { nx:=fun _ H'=>Q .non H',rt:=Q } (Q7 N vs) H):FnOk P w K mg base (T3 P w) (k + 1) f fd ps sp:=by
  obtain ⟨oc,od,kV,doc,pm,an,cdv,ct,osl,rfl,lk,hcd⟩:=F.ex
  exact a7b lk hcd S len fun A outer s H vs Q E hr hsp=>hbody cdv A outer s H vs Q E hr hsp
end
section
variable {X:Cx} {k:Nat} {f:Addr} {fd:FuncData} {ps:List Str} {sp:Sp} {x:Str} {p pos:Pos} {e:Expr} {es:List Expr} {t:TA}
end
end L2
namespace L2
open PySem PySem.Spec PyProof.Rows
section
variable {prog:Program} {w:World} {A:Around} {E:Value->Shared->Prop} {s:Shared}
theorem a8R {j tp:Addr} {i:Nat} {vs:Array Value} {x:Value} {Q:Value->Shared->Prop} (q1:IsTupIter s.heap j tp i) (q2:IsTup s.heap tp vs) (q3:vs[i]? = some x)
    (q:∀ h',IsTupIter h' j tp (i + 1)->Heap.SameBut j s.heap h'->Q x { s with heap:=h' }):wpAny (model prog w) A (Builtin.SmallTypes.nextOf (.ref j)) Q E s:=by
  obtain ⟨oj,g1,g2,g3⟩:=id q1
  obtain ⟨ot,g4,_,nt,g5⟩:=q2
  unfold Builtin.SmallTypes.nextOf
  refine wpAny_bind (wpAny_callSpecial?_slot (name:=Str.ofString "__next__") q1.typeIs slot_tupleiter_next (wpAny_call_entry slot_tupleiter_next q1.typeIs entry_tupleiter_next ?_ (args_tupleiter_next _)))
  show wpAny _ _ (field (.ref j) 0 >>= _) _ _ s
  refine wpAny_bind (wpAny_field g1 g3 (x:=.ref tp) rfl ?_)
  show wpAny _ _ (if (Value.ref tp == Value.none) = true then _ else _) _ _ s
  rw [if_neg (fun z=>by cases z)]
  show wpAny _ _ (field (.ref j) 1 >>= _) _ _ s
  refine wpAny_bind (wpAny_field g1 g3 (x:=.int i 0) rfl ?_)
  show wpAny _ _ (seqItems? (.ref tp) >>= _) _ _ s
  refine wpAny_bind (wpAny_seqItems g4 g5 ?_)
  simp only [Int.toNat_natCast,q3]
  refine wpAny_bind (wpAny_setField g1 g3 (by simp) (wpAny_pure ⟨x,rfl,wpAny_pure (q _ ?_ (Heap.SameBut.update ..))⟩))
  refine ⟨_,Heap.get?_update_self _ g1 (Obj.isFreed_of_fields (Obj.data_mapFields g3 _)),(Obj.cls_mapFields ..).trans g2,?_⟩
  rw [Obj.data_mapFields g3]
  simp [rawInt]
theorem b0C {j tp:Addr} {i:Nat} {vs:Array Value} {Q:Value->Shared->Prop} (hh:A.handled = none) (q1:IsTupIter s.heap j tp i) (q2:IsTup s.heap tp vs) (q3:vs[i]? = none)
    (q:∀ h' e,Heap.ExtBut j s.heap h'->(∃ o,h'.get? e = some o/\o.cls = .type "StopIteration")->E (.ref e) { s with heap:=h' }):wpAny (model prog w) A (Builtin.SmallTypes.nextOf (.ref j)) Q E s:=by
  obtain ⟨oj,g1,g2,g3⟩:=id q1
  obtain ⟨ot,g4,_,nt,g5⟩:=q2
  unfold Builtin.SmallTypes.nextOf
  refine wpAny_bind (wpAny_callSpecial?_slot (name:=Str.ofString "__next__") q1.typeIs slot_tupleiter_next (wpAny_call_entry slot_tupleiter_next q1.typeIs entry_tupleiter_next ?_ (args_tupleiter_next _)))
  show wpAny _ _ (field (.ref j) 0 >>= _) _ _ s
  refine wpAny_bind (wpAny_field g1 g3 (x:=.ref tp) rfl ?_)
  show wpAny _ _ (if (Value.ref tp == Value.none) = true then _ else _) _ _ s
  rw [if_neg (fun z=>by cases z)]
  show wpAny _ _ (field (.ref j) 1 >>= _) _ _ s
  refine wpAny_bind (wpAny_field g1 g3 (x:=.int i 0) rfl ?_)
  show wpAny _ _ (seqItems? (.ref tp) >>= _) _ _ s
  refine wpAny_bind (wpAny_seqItems g4 g5 ?_)
  simp only [Int.toNat_natCast,q3]
  refine wpAny_bind (wpAny_rule (wpAny_bind (wpAny_setField g1 g3 (by simp) ?_)))
  show wpAny _ _ (do let e <- newExc (.type "StopIteration") []; _) _ _ _
  simp only [newExc,newTuple]
  refine wpAny_bind (wpAny_bind (wpAny_newObj_type (wpAny_bind (m:=firstArgMember _ _) (wpAny_of_eq (a:=Value.none) (by first | rfl | (simp only [firstArgMember]; rfl)) (wpAny_newObj_type ?_ (by size_fits)))) (by size_fits)))
  simp only [raiseNew]
  refine wpAny_bind (wpAny_handled ?_)
  rw [show A.in1.handled = none from hh]
  exact wpAny_bind (wpAny_pure (wpAny_throw (q _ _ (((Heap.SameBut.update ..).extBut.push _).push _) ⟨_,Heap.get?_push_size _ rfl,rfl⟩)))
theorem IsTupIter.at' {h h':Heap} {a t:Addr} {i:Nat} (x:IsTupIter h a t i) (e:∀ o,h.get? a = some o->h'.get? a = some o):IsTupIter h' a t i:=let ⟨o,ho,r⟩:=x; ⟨o,e _ ho,r⟩
end
def IsB:Bool->Heap->Addr->Array Value->Prop
  | true,h,t,xs=>h.IsList t xs
  | false,h,t,xs=>IsTup h t xs
def ItB:Bool->Heap->Addr->Addr->Nat->Prop
  | true,h,j,t,k=>h.IsListIter j t k
  | false,h,j,t,k=>IsTupIter h j t k
def SqB:Bool->W.Frag->Hp->Addr->List V->Prop
  | true,K,H,a,xs=>SqL K H a xs
  | false,K,H,a,xs=>SqT K H a xs
def itN:Bool->String
  | true=>"list_iterator"
  | false=>"tuple_iterator"
section
variable {b:Bool} {h h':Heap} {j t c:Addr} {k:Nat} {xs:Array Value}
theorem ItB.at' (x:ItB b h j t k) (e:∀ o,h.get? j = some o->h'.get? j = some o):ItB b h' j t k:=by
  cases b
  . exact IsTupIter.at' x e
  . exact Heap.IsListIter.at x e
theorem ItB.extBut (x:ItB b h j t k) (hs:Heap.ExtBut c h h') (n:j ≠ c):ItB b h' j t k:=x.at' fun o e=>hs j o n e
theorem IsB.at' (x:IsB b h t xs) (e:∀ o,h.get? t = some o->h'.get? t = some o):IsB b h' t xs:=by
  cases b
  . obtain ⟨o,ho,r⟩:=x; exact ⟨o,e o ho,r⟩
  . obtain ⟨o,ho,r⟩:=x; exact ⟨o,e o ho,r⟩
theorem IsB.extBut (x:IsB b h t xs) (hs:Heap.ExtBut c h h') (n:t ≠ c):IsB b h' t xs:=x.at' fun o e=>hs t o n e
theorem IsB.push (x:IsB b h t xs) (o:Obj):IsB b (h.push o) t xs:=x.at' fun _ e=>Heap.get?_push_of_some _ e
theorem IsB.lt (x:IsB b h t xs):t < h.objs.size:=by
  cases b
  . obtain ⟨o,ho,_⟩:=x; exact Heap.lt_size ho
  . obtain ⟨o,ho,_⟩:=x; exact Heap.lt_size ho
theorem ItB.mk (e:h.get? j = some { cls:=.type (itN b),data:=.fields #[.ref t,.int 0 0] }):ItB b h j t 0:=by
  cases b
  . exact ⟨_,e,rfl,rfl⟩
  . exact ⟨_,e,rfl,rfl⟩
theorem ItB.obj (x:ItB b h j t k):∃ o,h.get? j = some o/\∃ vs,o.data = .fields vs:=by
  cases b
  . obtain ⟨o,ho,_,d⟩:=x; exact ⟨o,ho,_,d⟩
  . obtain ⟨o,ho,_,d⟩:=x; exact ⟨o,ho,_,d⟩
theorem Same.sqB {K:W.Frag} {H H':Hp} {a:Addr} {ys:List V} (e:Same H H') (x:SqB b K H a ys):SqB b K H' a ys:=by
  cases b
  . exact e.tseq x
  . exact e.seq x
theorem Inv.sqB {X:Cx} {pins:List (Addr × Obj)} {σ:St} {H:Hp} {s:Shared} {a:Addr} {ys:List V} (I:Inv X pins σ H s) (x:SqB b X.K H a ys):∃ its:List Value,Vals ys its/\IsB b s.heap a its.toArray/\ys.length <= sizeLine:=by
  cases b
  . exact I.tuple x
  . obtain ⟨i,r,p,z⟩:=I.list x
    exact ⟨i,r,p.isList,z⟩
theorem Inv.sqB_inj {X:Cx} {pins:List (Addr × Obj)} {σ:St} {H:Hp} {s:Shared} {a:Addr} {ys zs:List V} (I:Inv X pins σ H s) (x:SqB b X.K H a ys) (y:SqB b X.K H a zs):ys = zs:=by
  cases b
  . exact I.tuple_inj x y
  . exact I.list_inj x y
end
section
variable {prog:Program} {w:World} {A:Around} {E:Value->Shared->Prop} {s:Shared}
theorem D9 {b:Bool} {j tp:Addr} {i:Nat} {vs:Array Value} {x:Value} {Q:Value->Shared->Prop} (q1:ItB b s.heap j tp i) (q2:IsB b s.heap tp vs) (q3:vs[i]? = some x)
    (q:∀ h',ItB b h' j tp (i + 1)->Heap.SameBut j s.heap h'->Q x { s with heap:=h' }):wpAny (model prog w) A (Builtin.SmallTypes.nextOf (.ref j)) Q E s:=by
  cases b
  . exact a8R q1 q2 q3 q
  . exact wpAny_nextOf_list_item q1 q2 q3 q
theorem S4 {b:Bool} {j tp:Addr} {i:Nat} {vs:Array Value} {Q:Value->Shared->Prop} (hh:A.handled = none) (q1:ItB b s.heap j tp i) (q2:IsB b s.heap tp vs) (q3:vs[i]? = none)
    (q:∀ h' e,Heap.ExtBut j s.heap h'->(∃ o,h'.get? e = some o/\o.cls = .type "StopIteration")->E (.ref e) { s with heap:=h' }):wpAny (model prog w) A (Builtin.SmallTypes.nextOf (.ref j)) Q E s:=by
  cases b
  . exact b0C hh q1 q2 q3 q
  . exact wpAny_nextOf_list_end hh q1 q2 q3 q
theorem a9V {b:Bool} {t:Addr} {xs:Array Value} {Q:Value->Shared->Prop} (m:IsB b s.heap t xs) (h:Q (.ref s.heap.objs.size) { s with heap:=s.heap.push { cls:=.type (itN b),data:=.fields #[.ref t,.int 0 0] } }):wpAny (model prog w) A (pyIter (.ref t)) Q E s:=by
  cases b
  . exact iter_tuple m h
  . exact wpAny_pyIter_list m h
theorem a8K {b1 b2:Bool} {z ti to j1 j2 t1 t2:Addr} {k1 k2:Nat} {xs ys:Array Value} {x y a b:Value} {Q:Value->Shared->Prop} (D:ZipApart z ti to j1 j2 t1 t2)
    (q0:IsZip s.heap z ti to .none) (p1:IsPair s.heap ti (.ref j1) (.ref j2)) (p2:IsPair s.heap to a b)
    (i1:ItB b1 s.heap j1 t1 k1) (i2:ItB b2 s.heap j2 t2 k2) (l1:IsB b1 s.heap t1 xs) (l2:IsB b2 s.heap t2 ys) (ex:xs[k1]? = some x) (ey:ys[k2]? = some y)
    (q:∀ h',IsZip h' z ti to (rawInt s.heap.objs.size)->IsPair h' to x y->ItB b1 h' j1 t1 (k1 + 1)->ItB b2 h' j2 t2 (k2 + 1)->IsPair h' s.heap.objs.size x y →
      (∀ c o,c ≠ z->c ≠ to->c ≠ j1->c ≠ j2->s.heap.get? c = some o->h'.get? c = some o)->Q (.ref s.heap.objs.size) { s with heap:=h' }) :
    wpAny (model prog w) A (Builtin.«zip.__next__» ⟨[.ref z],[]⟩) (fun fin s'=>∃ v,fin = .done (.ret v)/\Q v s') E s:=by
  show wpAny _ _ (field (.ref z) 2 >>= _) _ _ _
  refine wpAny_bind (wpAny_field q0 rfl (x:=.bool false) rfl (show wpAny _ _ (field (.ref z) 3 >>= _) _ _ _ from wpAny_bind (wpAny_field q0 rfl (x:=.ref ti) rfl (wpAny_bind (wpAny_seqItems p1 rfl ?_)))))
  show wpAny _ _ (do let free <- Builtin.SmallTypes.ownedTupleIsFree (.ref z); _) _ _ _
  unfold Builtin.SmallTypes.ownedTupleIsFree
  refine wpAny_bind (wpAny_bind (wpAny_field q0 rfl (x:=.none) rfl (wpAny_pure ?_)))
  simp only [if_true]
  refine wpAny_bind (wpAny_rule (wpAny_bind (wpAny_field q0 rfl (x:=.ref to) rfl (wpAny_bind (wpAny_setField_rec q0 (by simp) fun u1 z1 s1=>?_)))))
  have z1':IsZip u1 z ti to .ellipsis:=z1
  refine wpAny_bind ?_
  simp only [List.zipIdx_cons,List.zipIdx_nil,List.forIn_cons,List.forIn_nil]
  refine wpAny_bind (wpAny_bind (wpAny_onRaise (show wpAny _ _ (Builtin.SmallTypes.nextOf (.ref j1) >>= _) _ _ _ from wpAny_bind (D9 (i1.extBut s1.extBut D.i1z) (l1.extBut s1.extBut D.l1z) ex fun u2 j1' s2=>wpAny_pure ?_))))
  have to2:IsPair u2 to a b:=s2.extBut _ _ D.TOi1 (s1.extBut _ _ D.TOz p2)
  refine wpAny_bind (wpAny_seqItems to2 rfl (wpAny_bind (wpAny_updateSeq_pair to2 fun u3 to3 s3=>wpAny_bind (wpAny_letGo (wpAny_pure ?_)))))
  have to3':IsPair u3 to x b:=to3
  refine wpAny_bind (wpAny_bind (wpAny_onRaise (show wpAny _ _ (Builtin.SmallTypes.nextOf (.ref j2) >>= _) _ _ _ from wpAny_bind (D9 (((i2.extBut s1.extBut D.i2z).extBut s2.extBut D.i12.symm).extBut s3.extBut D.TOi2.symm)
    (((l2.extBut s1.extBut D.l2z).extBut s2.extBut D.l2i1).extBut s3.extBut D.l2TO) ey fun u4 j2' s4=>wpAny_pure ?_))))
  have to4:IsPair u4 to x b:=s4.extBut _ _ D.TOi2 to3'
  refine wpAny_bind (wpAny_seqItems to4 rfl (wpAny_bind (wpAny_updateSeq_pair to4 fun u5 to5 s5=>wpAny_bind (wpAny_letGo (wpAny_pure (wpAny_pure ?_))))))
  have to5':IsPair u5 to x y:=to5
  refine wpAny_bind (wpAny_seqItems to5' rfl (wpAny_bind (wpAny_newTuple ?_)))
  have sz:u5.objs.size = s.heap.objs.size:=by rw [s5.1,s4.1,s3.1,s2.1,s1.1]
  have z5:IsZip u5 z ti to .ellipsis:=s5.extBut _ _ D.TOz.symm (s4.extBut _ _ D.i2z.symm (s3.extBut _ _ D.TOz.symm (s2.extBut _ _ D.i1z.symm z1')))
  have kp:∀ c o,c ≠ z->c ≠ to->c ≠ j1->c ≠ j2->s.heap.get? c = some o->u5.get? c = some o:=fun c o n1 n2 n3 n4 e=>s5.extBut _ _ n2 (s4.extBut _ _ n4 (s3.extBut _ _ n2 (s2.extBut _ _ n3 (s1.extBut _ _ n1 e))))
  have a1:ItB b1 u5 j1 t1 (k1 + 1):=((j1'.extBut s3.extBut D.TOi1.symm).extBut s4.extBut D.i12).extBut s5.extBut D.TOi1.symm
  have a2:ItB b2 u5 j2 t2 (k2 + 1):=j2'.extBut s5.extBut D.TOi2.symm
  have zl:z < u5.objs.size:=Heap.lt_size z5
  show wpAny _ _ (do let r <- Builtin.SmallTypes.ownedTupleHandOut (.ref z) (.ref u5.objs.size); _) _ _ _
  unfold Builtin.SmallTypes.ownedTupleHandOut
  have z6:IsZip (u5.push { cls:=.type "tuple",data:=.seq #[x,y] }) z ti to .ellipsis:=Heap.get?_push_of_some _ z5
  refine wpAny_bind (wpAny_bind (wpAny_setField_rec z6 (by simp) fun u7 z7 s7=>?_))
  have z7':IsZip u7 z ti to (rawInt u5.objs.size):=z7
  refine wpAny_setField_rec z7' (by simp) fun u8 z8 s8=>?_
  have z8':IsZip u8 z ti to (rawInt u5.objs.size):=z8
  have up:∀ c o,c ≠ z->u5.get? c = some o->u8.get? c = some o:=fun c o n1 e=>s8.extBut _ _ n1 (s7.extBut _ _ n1 (Heap.get?_push_of_some _ e))
  have nt8:IsPair u8 u5.objs.size x y:=s8.extBut _ _ (Nat.ne_of_gt zl) (s7.extBut _ _ (Nat.ne_of_gt zl) (Heap.get?_push_size _ rfl))
  rw [sz] at z8' nt8
  refine wpAny_pure ⟨_,rfl,?_⟩
  show Q (.ref u5.objs.size) _
  rw [sz]
  exact q u8 z8' (up _ _ D.TOz to5') (ItB.at' a1 fun o e=>up _ o D.i1z e) (ItB.at' a2 fun o e=>up _ o D.i2z e) nt8 fun c o n1 n2 n3 n4 e=>up c o n1 (kp c o n1 n2 n3 n4 e)
theorem b1j {b1 b2:Bool} {z ti to j1 j2 t1 t2:Addr} {k1 k2:Nat} {xs ys:Array Value} {a b:Value} {Q:PySem.Fin->Shared->Prop} (hh:A.handled = none) (D:ZipApart z ti to j1 j2 t1 t2)
    (q0:IsZip s.heap z ti to .none) (p1:IsPair s.heap ti (.ref j1) (.ref j2)) (p2:IsPair s.heap to a b)
    (i1:ItB b1 s.heap j1 t1 k1) (i2:ItB b2 s.heap j2 t2 k2) (l1:IsB b1 s.heap t1 xs) (l2:IsB b2 s.heap t2 ys) (en:xs[k1]? = none \/ ys[k2]? = none)
    (q:∀ h' e,(∀ c o,c ≠ z->c ≠ to->c ≠ j1->c ≠ j2->s.heap.get? c = some o->h'.get? c = some o)->(∃ o,h'.get? e = some o/\o.cls = .type "StopIteration")->E (.ref e) { s with heap:=h' }) :
    wpAny (model prog w) A (Builtin.«zip.__next__» ⟨[.ref z],[]⟩) Q E s:=by
  show wpAny _ _ (field (.ref z) 2 >>= _) _ _ _
  refine wpAny_bind (wpAny_field q0 rfl (x:=.bool false) rfl (show wpAny _ _ (field (.ref z) 3 >>= _) _ _ _ from wpAny_bind (wpAny_field q0 rfl (x:=.ref ti) rfl (wpAny_bind (wpAny_seqItems p1 rfl ?_)))))
  show wpAny _ _ (do let free <- Builtin.SmallTypes.ownedTupleIsFree (.ref z); _) _ _ _
  unfold Builtin.SmallTypes.ownedTupleIsFree
  refine wpAny_bind (wpAny_bind (wpAny_field q0 rfl (x:=.none) rfl (wpAny_pure ?_)))
  simp only [if_true]
  refine wpAny_bind (wpAny_rule (wpAny_bind (wpAny_field q0 rfl (x:=.ref to) rfl (wpAny_bind (wpAny_setField_rec q0 (by simp) fun u1 z1 s1=>?_)))))
  have z1':IsZip u1 z ti to .ellipsis:=z1
  refine wpAny_bind ?_
  simp only [List.zipIdx_cons,List.zipIdx_nil,List.forIn_cons,List.forIn_nil]
  cases ex:xs[k1]? with
  | none =>
    refine wpAny_bind (wpAny_bind (wpAny_onRaise (show wpAny _ _ (Builtin.SmallTypes.nextOf (.ref j1) >>= _) _ _ _ from wpAny_bind (S4 hh (i1.extBut s1.extBut D.i1z) (l1.extBut s1.extBut D.l1z) ex fun u2 e s2 ⟨oe,e1,e2⟩=>?_))))
    have z2:IsZip u2 z ti to .ellipsis:=s2 _ _ D.i1z.symm z1'
    have ne:e ≠ z:=fun c=>by subst c; rw [z2] at e1; cases e1; simp at e2
    exact wpAny_setField_rec z2 (by simp) fun u3 _ s3=>q u3 e (fun c o n1 _ n3 _ m=>s3.extBut _ _ n1 (s2 _ _ n3 (s1.extBut _ _ n1 m))) ⟨oe,s3.extBut _ _ ne e1,e2⟩
  | some x =>
    have ey:ys[k2]? = none:=by
      rcases en with m | m
      . rw [ex] at m; cases m
      . exact m
    refine wpAny_bind (wpAny_bind (wpAny_onRaise (show wpAny _ _ (Builtin.SmallTypes.nextOf (.ref j1) >>= _) _ _ _ from wpAny_bind (D9 (i1.extBut s1.extBut D.i1z) (l1.extBut s1.extBut D.l1z) ex fun u2 j1' s2=>wpAny_pure ?_))))
    have to2:IsPair u2 to a b:=s2.extBut _ _ D.TOi1 (s1.extBut _ _ D.TOz p2)
    refine wpAny_bind (wpAny_seqItems to2 rfl (wpAny_bind (wpAny_updateSeq_pair to2 fun u3 to3 s3=>wpAny_bind (wpAny_letGo (wpAny_pure ?_)))))
    refine wpAny_bind (wpAny_bind (wpAny_onRaise (show wpAny _ _ (Builtin.SmallTypes.nextOf (.ref j2) >>= _) _ _ _ from wpAny_bind (S4 hh (((i2.extBut s1.extBut D.i2z).extBut s2.extBut D.i12.symm).extBut s3.extBut D.TOi2.symm)
      (((l2.extBut s1.extBut D.l2z).extBut s2.extBut D.l2i1).extBut s3.extBut D.l2TO) ey fun u4 e s4 ⟨oe,e1,e2⟩=>?_))))
    have z4:IsZip u4 z ti to .ellipsis:=s4 _ _ D.i2z.symm (s3.extBut _ _ D.TOz.symm (s2.extBut _ _ D.i1z.symm z1'))
    have ne:e ≠ z:=fun c=>by subst c; rw [z4] at e1; cases e1; simp at e2
    exact wpAny_setField_rec z4 (by simp) fun u5 _ s5=>q u5 e (fun c o n1 n2 n3 n4 m=>s5.extBut _ _ n1 (s4 _ _ n4 (s3.extBut _ _ n2 (s2.extBut _ _ n3 (s1.extBut _ _ n1 m))))) ⟨oe,s5.extBut _ _ ne e1,e2⟩
theorem a8E {b1 b2:Bool} {z ti to j1 j2 t1 t2:Addr} {k1 k2:Nat} {xs ys:Array Value} {x y a b:Value} {Q:Option Value->Shared->Prop} (D:ZipApart z ti to j1 j2 t1 t2)
    (q0:IsZip s.heap z ti to .none) (p1:IsPair s.heap ti (.ref j1) (.ref j2)) (p2:IsPair s.heap to a b)
    (i1:ItB b1 s.heap j1 t1 k1) (i2:ItB b2 s.heap j2 t2 k2) (l1:IsB b1 s.heap t1 xs) (l2:IsB b2 s.heap t2 ys) (ex:xs[k1]? = some x) (ey:ys[k2]? = some y)
    (q:∀ h',IsZip h' z ti to (rawInt s.heap.objs.size)->IsPair h' to x y->ItB b1 h' j1 t1 (k1 + 1)->ItB b2 h' j2 t2 (k2 + 1)->IsPair h' s.heap.objs.size x y →
      (∀ c o,c ≠ z->c ≠ to->c ≠ j1->c ≠ j2->s.heap.get? c = some o->h'.get? c = some o)->Q (some (.ref s.heap.objs.size)) { s with heap:=h' }) :
    wpAny (model prog w) A (pyNext (.ref z)) Q E s:=by
  have ty:s.TypeIs (.ref z) "zip":=⟨_,q0,rfl⟩
  unfold pyNext
  exact wpAny_bind (wpAny_attempt (wpAny_callSpecial?_slot (name:=Str.ofString "__next__") ty F.slot_zip_next (wpAny_call_entry F.slot_zip_next ty F.entry_zip_next
    (a8K D q0 p1 p2 i1 i2 l1 l2 ex ey fun h' b1 b2 b3 b4 b5 b6=>wpAny_pure (q h' b1 b2 b3 b4 b5 b6)) (F.args_zip_next_1 _))))
theorem a9r {b1 b2:Bool} {z ti to j1 j2 t1 t2:Addr} {k1 k2:Nat} {xs ys:Array Value} {a b:Value} {Q:Option Value->Shared->Prop} (hh:A.handled = none) (D:ZipApart z ti to j1 j2 t1 t2)
    (q0:IsZip s.heap z ti to .none) (p1:IsPair s.heap ti (.ref j1) (.ref j2)) (p2:IsPair s.heap to a b)
    (i1:ItB b1 s.heap j1 t1 k1) (i2:ItB b2 s.heap j2 t2 k2) (l1:IsB b1 s.heap t1 xs) (l2:IsB b2 s.heap t2 ys) (en:xs[k1]? = none \/ ys[k2]? = none)
    (q:∀ h',(∀ c o,c ≠ z->c ≠ to->c ≠ j1->c ≠ j2->s.heap.get? c = some o->h'.get? c = some o)->Q none { s with heap:=h' }):wpAny (model prog w) A (pyNext (.ref z)) Q E s:=by
  have ty:s.TypeIs (.ref z) "zip":=⟨_,q0,rfl⟩
  unfold pyNext
  refine wpAny_bind (wpAny_attempt (wpAny_callSpecial?_slot (name:=Str.ofString "__next__") ty F.slot_zip_next (wpAny_call_entry F.slot_zip_next ty F.entry_zip_next
    (b1j hh D q0 p1 p2 i1 i2 l1 l2 en fun h' e kp ⟨o,e1,e2⟩=>wpAny_bind (wpAny_isInstance (T:="StopIteration") (b:=true) ⟨o,e1,e2⟩ isSubtype_stop (wpAny_pure (q _ kp)))) (F.args_zip_next_1 _))))
end
abbrev zg1 (b1:Bool) (h:Heap) (t1:Addr):Heap:=h.push { cls:=.type (itN b1),data:=.fields #[.ref t1,.int 0 0] }
abbrev zg2 (b1 b2:Bool) (h:Heap) (t1 t2:Addr):Heap:=(zg1 b1 h t1).push { cls:=.type (itN b2),data:=.fields #[.ref t2,.int 0 0] }
abbrev zg3 (b1 b2:Bool) (h:Heap) (t1 t2:Addr):Heap:=(zg2 b1 b2 h t1 t2).push { cls:=.type "tuple",data:=.seq #[.ref h.objs.size,.ref (zg1 b1 h t1).objs.size] }
abbrev zg4 (b1 b2:Bool) (h:Heap) (t1 t2:Addr):Heap:=(zg3 b1 b2 h t1 t2).push { cls:=.type "tuple",data:=.seq #[.none,.none] }
abbrev zg5 (b1 b2:Bool) (h:Heap) (t1 t2:Addr):Heap:=(zg4 b1 b2 h t1 t2).push { cls:=.type "zip",data:=.fields #[.none,.bool false,.bool false,.ref (zg2 b1 b2 h t1 t2).objs.size,.ref (zg3 b1 b2 h t1 t2).objs.size] }
theorem b0S (b1 b2:Bool) (t1 t2:Addr) (xs ys:Array Value) :
    Meets (Builtin.«zip.__new__» ⟨[.type "zip",.ref t1,.ref t2],[]⟩) (fun _ R s=>IsB b1 s.heap t1 xs/\IsB b2 s.heap t2 ys/\R (.ok (.ret (.ref (zg4 b1 b2 s.heap t1 t2).objs.size))) { s with heap:=zg5 b1 b2 s.heap t1 t2 }) :=
  .of_wp fun prog w A R s h=>by
    obtain ⟨hp,g,d,tk,os⟩:=s
    obtain ⟨e1,e2,h⟩:=h
    have hsub:=sub_zip
    have m1:IsB b1 (Shared.heap ⟨hp,g,d,tk,os⟩) t1 xs:=e1
    have m2:IsB b2 (Shared.heap ⟨hp.push { cls:=.type (itN b1),data:=.fields #[.ref t1,.int 0 0] },g,d,tk,os⟩) t2 ys:=IsB.push e2 _
    wp_walk using a9V m1,a9V m2
    exact ⟨_,rfl,h⟩
section
variable {prog:Program} {w:World} {A:Around} {E:Value->Shared->Prop} {s:Shared}
theorem a5F {b1 b2:Bool} {t1 t2:Addr} {xs ys:Array Value} {Q:Value->Shared->Prop} (l1:IsB b1 s.heap t1 xs) (l2:IsB b2 s.heap t2 ys)
    (q:∀ h',IsZip h' (s.heap.objs.size + 4) (s.heap.objs.size + 2) (s.heap.objs.size + 3) .none->IsPair h' (s.heap.objs.size + 2) (.ref s.heap.objs.size) (.ref (s.heap.objs.size + 1))->IsPair h' (s.heap.objs.size + 3) .none .none →
      ItB b1 h' s.heap.objs.size t1 0->ItB b2 h' (s.heap.objs.size + 1) t2 0->(∀ c o,s.heap.get? c = some o->h'.get? c = some o)->Q (.ref (s.heap.objs.size + 4)) { s with heap:=h' }) :
    wpAny (model prog w) A (call (.type "zip") [.ref t1,.ref t2]) Q E s:=by
  refine callType_new F.called_zip (by decide) (F.typeCall_zip_2 _ _) (F.newCall_zip_2 _ _) (fun ob=>F.args_object_init_3 ob _ _) F.entry_zip_new (b0S b1 b2 t1 t2 xs ys) ⟨l1,l2,?_⟩
  have n1:(zg1 b1 s.heap t1).objs.size = s.heap.objs.size + 1:=Heap.size_push ..
  have n2:(zg2 b1 b2 s.heap t1 t2).objs.size = s.heap.objs.size + 2:=by rw [Heap.size_push,n1]
  have n3:(zg3 b1 b2 s.heap t1 t2).objs.size = s.heap.objs.size + 3:=by rw [Heap.size_push,n2]
  have n4:(zg4 b1 b2 s.heap t1 t2).objs.size = s.heap.objs.size + 4:=by rw [Heap.size_push,n3]
  have p5:(zg5 b1 b2 s.heap t1 t2).get? (zg4 b1 b2 s.heap t1 t2).objs.size = some _:=Heap.get?_push_size _ rfl
  have p4:(zg5 b1 b2 s.heap t1 t2).get? (zg3 b1 b2 s.heap t1 t2).objs.size = some _:=Heap.get?_push_of_some _ (Heap.get?_push_size _ rfl)
  have p3:(zg5 b1 b2 s.heap t1 t2).get? (zg2 b1 b2 s.heap t1 t2).objs.size = some _:=Heap.get?_push_of_some _ (Heap.get?_push_of_some _ (Heap.get?_push_size _ rfl))
  have p2:(zg5 b1 b2 s.heap t1 t2).get? (zg1 b1 s.heap t1).objs.size = some _:=Heap.get?_push_of_some _ (Heap.get?_push_of_some _ (Heap.get?_push_of_some _ (Heap.get?_push_size _ rfl)))
  have p1:(zg5 b1 b2 s.heap t1 t2).get? s.heap.objs.size = some _:=Heap.get?_push_of_some _ (Heap.get?_push_of_some _ (Heap.get?_push_of_some _ (Heap.get?_push_of_some _ (Heap.get?_push_size _ rfl))))
  rw [n2,n3,n4] at p5
  rw [n1,n2] at p3
  rw [n3] at p4
  rw [n1] at p2
  show _/\_
  rw [n4]
  refine ⟨⟨_,p5,rfl⟩,q _ p5 p3 p4 (ItB.mk p1) (ItB.mk p2) fun c o m=>?_⟩
  exact Heap.get?_push_of_some _ (Heap.get?_push_of_some _ (Heap.get?_push_of_some _ (Heap.get?_push_of_some _ (Heap.get?_push_of_some _ m))))
end
def Itg (b1 b2:Bool) (K:W.Frag) (l1 l2:Addr):It :=
  ⟨fun i H=>∃ xs ys x y,SqB b1 K H l1 xs/\SqB b2 K H l2 ys/\xs[i]? = some x/\ys[i]? = some y,
   fun i H x H'=>∃ p a b,H p = none/\x = .ref p/\H' = m5 H p (.tup [a,b])/\∀ xs ys,SqB b1 K H l1 xs->SqB b2 K H l2 ys->xs[i]? = some a/\ys[i]? = some b,
   fun i H=>∃ xs ys,SqB b1 K H l1 xs/\SqB b2 K H l2 ys/\(xs.length <= i \/ ys.length <= i)⟩
theorem a8T {b1 b2:Bool} {P:Program} {w:World} {K:W.Frag} {elts:List Expr} {x1:Nat} {pos:Pos} {z ti to j1 j2 l1 l2:Addr} (D:ZipApart z ti to j1 j2 l1 l2) :
    a4B P w K (.Tuple elts x1 pos) (Itg b1 b2 K l1 l2) [z,ti,to,j1,j2] z (fun i h=>IsZip h z ti to .none/\IsPair h ti (.ref j1) (.ref j2)/\(∃ a b,IsPair h to a b)/\ItB b1 h j1 l1 i/\ItB b2 h j2 l2 i) where
  mem:=by simp
  obj:=fun i h st b hb=>by
    obtain ⟨hz,hti,⟨a,c,hto⟩,h1,h2⟩:=st
    obtain ⟨o1,e1,v1,d1⟩:=h1.obj
    obtain ⟨o2,e2,v2,d2⟩:=h2.obj
    simp only [List.mem_cons,List.not_mem_nil,or_false] at hb
    rcases hb with rfl | rfl | rfl | rfl | rfl
    . exact ⟨_,hz,fun v q=>by cases q⟩
    . exact ⟨_,hti,fun v q=>by cases q⟩
    . exact ⟨_,hto,fun v q=>by cases q⟩
    . exact ⟨o1,e1,fun v q=>by rw [d1] at q; cases q⟩
    . exact ⟨o2,e2,fun v q=>by rw [d2] at q; cases q⟩
  keep:=fun i h h' st k=>by
    obtain ⟨hz,hti,⟨a,c,hto⟩,h1,h2⟩:=st
    exact ⟨k z (by simp) _ hz,k ti (by simp) _ hti,⟨a,c,k to (by simp) _ hto⟩,ItB.at' h1 fun o e=>k j1 (by simp) o e,ItB.at' h2 fun o e=>k j2 (by simp) o e⟩
  item:=by
    intro X hP hw hK hc i pins s σ H E I hf st hg
    subst hP hw hK
    obtain ⟨xs,ys,x,y,hq1,hq2,hx,hy⟩:=hg
    obtain ⟨hz,hti,⟨a,c,hto⟩,h1,h2⟩:=st
    obtain ⟨its1,rv1,p1,_⟩:=I.sqB hq1
    obtain ⟨its2,rv2,p2,_⟩:=I.sqB hq2
    obtain ⟨u1,hu1,ru1⟩:=rv1.get hx
    obtain ⟨u2,hu2,ru2⟩:=rv2.get hy
    refine a8E D hz hti hto h1 h2 p1 p2 (x:=u1) (y:=u2) (by simpa using hu1) (by simpa using hu2) fun h' a1 a2 a3 a4 a5 a7=>?_
    refine ⟨_,rfl,wpAny_letOwnedTupleGo_zip (s:={ s with heap:=h' }) a1 fun h'' hz'' hs''=>?_⟩
    have neT:∀ b ∈ [z,ti,to,j1,j2],b ≠ s.heap.objs.size:=fun b hb e=>by
      have:∃ o,s.heap.get? b = some o:=by
        obtain ⟨o1,e1,_⟩:=h1.obj
        obtain ⟨o2,e2,_⟩:=h2.obj
        simp only [List.mem_cons,List.not_mem_nil,or_false] at hb
        rcases hb with rfl | rfl | rfl | rfl | rfl
        . exact ⟨_,hz⟩
        . exact ⟨_,hti⟩
        . exact ⟨_,hto⟩
        . exact ⟨_,e1⟩
        . exact ⟨_,e2⟩
      obtain ⟨o,ho⟩:=this
      exact absurd (Heap.lt_size ho) (by rw [e]; exact Nat.lt_irrefl _)
    have kk:∀ b o,b ∉ [z,ti,to,j1,j2]->s.heap.get? b = some o->h''.get? b = some o:=fun b o hb e=>by
      simp only [List.mem_cons,List.not_mem_nil,or_false,not_or] at hb
      exact hs''.extBut b o hb.1 (a7 b o hb.1 hb.2.2.1 hb.2.2.2.1 hb.2.2.2.2 e)
    have tti:h'.get? ti = _:=a7 ti _ D.TIz D.TITO D.TIi1 D.TIi2 hti
    have st':IsZip h'' z ti to .none/\IsPair h'' ti (.ref j1) (.ref j2)/\(∃ a b,IsPair h'' to a b)/\ItB b1 h'' j1 l1 (i + 1)/\ItB b2 h'' j2 l2 (i + 1) :=
      ⟨hz'',hs''.extBut _ _ D.TIz tti,⟨_,_,hs''.extBut _ _ D.TOz a2⟩,a3.extBut hs''.extBut D.i1z,a4.extBut hs''.extBut D.i2z⟩
    have hoF:∀ b ∈ [z,ti,to,j1,j2],∃ o,h''.get? b = some o:=fun b hb=>by
      obtain ⟨q1,q2,⟨_,_,q3⟩,q4,q5⟩:=st'
      obtain ⟨o1,e1,_⟩:=q4.obj
      obtain ⟨o2,e2,_⟩:=q5.obj
      simp only [List.mem_cons,List.not_mem_nil,or_false] at hb
      rcases hb with rfl | rfl | rfl | rfl | rfl
      . exact ⟨_,q1⟩
      . exact ⟨_,q2⟩
      . exact ⟨_,q3⟩
      . exact ⟨_,e1⟩
      . exact ⟨_,e2⟩
    have zs:z ≠ s.heap.objs.size:=neT z (by simp)
    have tup:IsTup h'' s.heap.objs.size [u1,u2].toArray:=⟨_,hs''.extBut _ _ (Ne.symm zs) a5,rfl,0,rfl⟩
    refine ⟨.ref s.heap.objs.size,m5 H s.heap.objs.size (.tup [x,y]),I.turnedLaid (h':=h'') hf kk hoF (Nat.le_refl _) (by show 2 <= sizeLine; decide) (.cons ru1 (.cons ru2 .nil)) tup,rfl,⟨_,x,y,I.fresh,rfl,rfl,fun xs' ys' q1 q2=>?_⟩,st',fun b hb=>?_⟩
    . rw [I.sqB_inj q1 hq1,I.sqB_inj q2 hq2]; exact ⟨hx,hy⟩
    . rw [c9 (neT b hb)]; exact (hf b hb).1
  done:=by
    intro X hP hw hK hc i pins s σ H E I hf st hg
    subst hP hw hK
    obtain ⟨xs,ys,hq1,hq2,hend⟩:=hg
    obtain ⟨hz,hti,⟨a,c,hto⟩,h1,h2⟩:=st
    obtain ⟨its1,rv1,p1,_⟩:=I.sqB hq1
    obtain ⟨its2,rv2,p2,_⟩:=I.sqB hq2
    have hl1:=rv1.length
    have hl2:=rv2.length
    refine a9r (I.ok.hd hc) D hz hti hto h1 h2 p1 p2 (by
      rcases hend with q | q
      . exact .inl (by simp; omega)
      . exact .inr (by simp; omega)) fun h' k=>⟨rfl,I.turnedAll hf fun b o hb e=>?_⟩
    simp only [List.mem_cons,List.not_mem_nil,or_false,not_or] at hb
    exact k b o hb.1 hb.2.2.1 hb.2.2.2.1 hb.2.2.2.2 e
  self:=fun _ _ _ _ _ st h=>wpAny_pyIter_zip st.1 h
def iZg (b1 b2:Bool) (K:W.Frag) (ta:TA):TI:=fun σ H R=>ta σ H fun vs H1=>∃ l1 l2,vs = [.ref l1,.ref l2]/\(∃ xs,SqB b1 K H1 l1 xs)/\(∃ ys,SqB b2 K H1 l2 ys)/\R (Itg b1 b2 K l1 l2) H1
theorem a5z (b1 b2:Bool) (K:W.Frag) {X:Cx} {a b:Expr} {ta:TA} {p pos pos':Pos} {elts:List Expr} {x1:Nat} (hK:X.K = K) (hg:Gl X "zip") (hm:X.mg "zip" = none) (ha:PA X [a,b] ta) (hs:starEach [a,b] X.env = [(false,eval a X.env),(false,eval b X.env)]:=by rfl) (hs2:starEach [b] X.env = [(false,eval b X.env)]:=by rfl) :
    PI X (.Tuple elts x1 pos') (.Call (.Name "zip" p) [a,b] [] pos) (iZg b1 b2 K ta):=by
  subst hK
  intro pins s σ H R I h
  refine Call_ (P2 I hg hm boot_zip (PyProof.Rows.callWith_type1 (v8 (ha pos pins s σ H _ I h) fun us s1 ⟨vs,H1,I1,r1,q1⟩=>?_) (by rw [hs,hs2]) (by rw [hs2]; rfl)))
  obtain ⟨l1,l2,e,⟨xs,q1⟩,⟨ys,q2⟩,q⟩:=q1
  subst e
  obtain ⟨u1,u2,rfl,ru1,ru2⟩:=a3G r1
  cases ru1
  cases ru2
  obtain ⟨its1,rv1,p1,_⟩:=I1.sqB q1
  obtain ⟨its2,rv2,p2,_⟩:=I1.sqB q2
  refine a5F p1 p2 fun h' z1 z2 z3 z4 z5 k=>?_
  have I2:Inv X pins σ H1 { s1 with heap:=h' }:=I1.kept (t':=s1.toks) k
  refine wpAny_pyIter_zip z1 ?_
  have D:ZipApart (s1.heap.objs.size + 4) (s1.heap.objs.size + 2) (s1.heap.objs.size + 3) s1.heap.objs.size (s1.heap.objs.size + 1) l1 l2:=a7Q _ _ _ p1.lt p2.lt
  refine ⟨s1.heap.objs.size + 4,[s1.heap.objs.size + 4,s1.heap.objs.size + 2,s1.heap.objs.size + 3,s1.heap.objs.size,s1.heap.objs.size + 1],_,_,H1,rfl,I2,a8T D,⟨z1,z2,⟨_,_,z3⟩,z4,z5⟩,fun b hb=>?_,q⟩
  have hb':s1.heap.objs.size <= b:=by
    simp only [List.mem_cons,List.not_mem_nil,or_false] at hb
    rcases hb with rfl | rfl | rfl | rfl | rfl
    . exact Nat.le_add_right _ _
    . exact Nat.le_add_right _ _
    . exact Nat.le_add_right _ _
    . exact Nat.le_refl _
    . exact Nat.le_add_right _ _
  exact I1.fpOk hb' (I1.hok.fresh hb')
section
variable {b1 b2:Bool} {xs ys:List V} {K:W.Frag} {l1 l2:Addr} {fr:List Nat} {te:TE} {σ:St} {H1:Hp} {p:Addr} {D:Hp->Prop}
theorem a3Y (h1:SqB b1 K H1 l1 xs) (h2:SqB b2 K H1 l2 ys) (hp:H1 p = none) (hz:xs.length < sizeLine) (R:Nat->V->Hp->Prop) (hR:∀ i y H H',R i y H->(∀ b o,b ≠ p->H b = some o->H' b = some o)->R i y H')
    (step:∀ (i:Nat) x y H zs (N:VK),xs[i]? = some x->ys[i]? = some y->Same H1 H->H p = some (.lst zs)->(∀ v H3,Same H H3->R i v H3->N v H3)->te (((blkσ 2 fr σ).set 0 (some x)).set 1 (some y)) H N)
    (hd:∀ zs H,Same H1 H->H p = some (.lst zs)->zs.length = min xs.length ys.length->(∀ i z,zs[i]? = some z->R i z H)->D H):lcW 2 fr (a3k K 2 (N5 (D7 0) (N5 (D7 1) a4e))) te σ (Itg b1 b2 K l1 l2) H1 p D:=by
  refine ⟨fun i m zs H=>m = min xs.length ys.length - i/\i <= min xs.length ys.length/\Same H1 H/\H p = some (.lst zs)/\zs.length = i/\∀ j y,zs[j]? = some y->R j y H,⟨_,rfl,Nat.zero_le _,Same.new hp _,upd_same,rfl,fun j y e=>by simp at e⟩,?_⟩
  rintro i m zs H ⟨rfl,hi,e,hH,len,pr⟩
  by_cases hlt:i < min xs.length ys.length
  . have hx:i < xs.length:=by omega
    have hy:i < ys.length:=by omega
    refine .inr ⟨⟨xs,ys,xs[i],ys[i],e.sqB h1,e.sqB h2,List.getElem?_eq_getElem hx,List.getElem?_eq_getElem hy⟩,fun u H' y=>?_⟩
    obtain ⟨q,a,b,hq,rfl,rfl,hab⟩:=y
    obtain ⟨ha,hb⟩:=hab xs ys (e.sqB h1) (e.sqB h2)
    have s1:=Same.new hq (.tup [a,b])
    refine ⟨q,_,rfl,SqT.of upd_same,rfl,_,_,rfl,_,_,rfl,rfl,?_,?_⟩
    . refine ⟨by simp,fun k w ek=>?_⟩
      have:¬ k < 2:=fun hk=>by
        unfold blkσ at ek
        rw [List.getElem?_append_left (by simpa using hk),List.getElem?_replicate] at ek
        split at ek <;> cases ek
      rw [List.getElem?_set_ne (by omega),List.getElem?_set_ne (by omega)]; exact ek
    . refine step i a b _ zs _ ha hb (e.trans s1) (s1 _ _ hH) fun v H3 s3 r3=>⟨s3 _ _ (s1 _ _ hH),by omega,min xs.length ys.length - (i + 1),by omega,rfl,hlt,fun b' o q'=>?_,upd_same,by rw [List.length_append,len]; rfl,fun j y ey=>?_⟩
      . rw [c9 (d7 q' hp)]; exact s3 _ _ (s1 _ _ (e _ _ q'))
      . have up:∀ b o,b ≠ p->H3 b = some o->m5 H3 p (.lst (zs ++ [v])) b = some o:=fun b o hb q=>by rw [c9 hb]; exact q
        by_cases hj:j < zs.length
        . rw [List.getElem?_append_left hj] at ey
          exact hR j y _ _ (pr j y ey) fun b o hb q=>up b o hb (s3 _ _ (s1 _ _ q))
        . rw [List.getElem?_append_right (by omega)] at ey
          have hj':j - zs.length = 0:=by
            cases q:j - zs.length with
            | zero=>rfl
            | succ k=>rw [q] at ey; simp at ey
          rw [hj'] at ey
          have:j = i:=by omega
          subst this
          simp at ey
          subst ey
          exact hR j v _ _ r3 up
  . have:i = min xs.length ys.length:=by omega
    subst this
    exact .inl ⟨⟨xs,ys,e.sqB h1,e.sqB h2,by omega⟩,hd zs H e hH len pr⟩
theorem b2s (h1:SqB b1 K H1 l1 xs) (h2:SqB b2 K H1 l2 ys) (hp:H1 p = none) (hz:xs.length < sizeLine) (F:V->V->V)
    (step:∀ (i:Nat) x y H (N:VK),xs[i]? = some x->ys[i]? = some y->Same H1 H->N (F x y) H->te (((blkσ 2 fr σ).set 0 (some x)).set 1 (some y)) H N)
    (hd:∀ H,Same H1 H->H p = some (.lst (List.zipWith F xs ys))->D H):lcW 2 fr (a3k K 2 (N5 (D7 0) (N5 (D7 1) a4e))) te σ (Itg b1 b2 K l1 l2) H1 p D:=by
  refine a3Y h1 h2 hp hz (fun i v _=>∀ x y,xs[i]? = some x->ys[i]? = some y->v = F x y) (fun _ _ _ _ r _=>r) (fun i x y H zs N hx hy e _ hN=>step i x y H N hx hy e (hN _ _ (Same.refl _) fun x' y' ex ey=>?_)) fun zs H e hH hl hr=>hd H e ?_
  . rw [hx] at ex; rw [hy] at ey; cases ex; cases ey; rfl
  . rw [hH]
    congr 2
    refine List.ext_getElem? fun i=>?_
    by_cases hi:i < min xs.length ys.length
    . have a1:i < zs.length:=by omega
      have a2:i < xs.length:=by omega
      have a3:i < ys.length:=by omega
      rw [List.getElem?_eq_getElem a1,List.getElem?_eq_getElem (by rw [List.length_zipWith]; exact hi),List.getElem_zipWith,hr i _ (List.getElem?_eq_getElem a1) _ _ (List.getElem?_eq_getElem a2) (List.getElem?_eq_getElem a3)]
    . rw [List.getElem?_eq_none (by omega),List.getElem?_eq_none (by rw [List.length_zipWith]; omega)]
theorem b1d {i1 i2:Nat} {tb:TS} {D:Ends} {H:Hp} (Pv:Nat->St->Hp->Prop) (h0:Pv 0 σ H) (hl:∀ i σ H,Pv i σ H->SqB b1 K H l1 xs/\SqB b2 K H l2 ys)
    (hs:∀ i x y σ H q,xs[i]? = some x->ys[i]? = some y->Pv i σ H->H q = none->tb { D with nx:=Pv (i + 1),ct:=Pv (i + 1),bk:=D.nx } ((σ.set i1 (some x)).set i2 (some y)) (m5 H q (.tup [x,y]))) (hd:∀ σ H,Pv (min xs.length ys.length) σ H->D.nx σ H) :
    ∃ W:Nat->Nat->St->Hp->Prop,(∃ m,W 0 m σ H)/\∀ i m σ H,W i m σ H →
      ((Itg b1 b2 K l1 l2).stop i H/\D.nx σ H) \/ ((Itg b1 b2 K l1 l2).go i H/\∃ N:St->Hp->Prop,(∀ σ' H',N σ' H'->∃ m',m' < m/\W (i + 1) m' σ' H')/\∀ x H',(Itg b1 b2 K l1 l2).yld i H x H'->a3k K 2 (N5 (D7 i1) (N5 (D7 i2) a4e)) x σ H' fun σ2 H2=>tb { D with nx:=N,ct:=N,bk:=D.nx } σ2 H2):=by
  refine ⟨fun i m σ H=>m = min xs.length ys.length - i/\i <= min xs.length ys.length/\Pv i σ H,⟨_,rfl,Nat.zero_le _,h0⟩,?_⟩
  rintro i m σ H ⟨rfl,hi,p⟩
  obtain ⟨q1,q2⟩:=hl i σ H p
  by_cases hlt:i < min xs.length ys.length
  . have hx:i < xs.length:=by omega
    have hy:i < ys.length:=by omega
    refine .inr ⟨⟨xs,ys,xs[i],ys[i],q1,q2,List.getElem?_eq_getElem hx,List.getElem?_eq_getElem hy⟩,Pv (i + 1),fun σ' H' p'=>⟨min xs.length ys.length - (i + 1),by omega,rfl,hlt,p'⟩,fun u H' y=>?_⟩
    obtain ⟨q,a,b,hq,rfl,rfl,hab⟩:=y
    obtain ⟨ha,hb⟩:=hab xs ys q1 q2
    exact ⟨q,_,rfl,SqT.of upd_same,rfl,_,_,rfl,_,_,rfl,rfl,hs i a b σ H q ha hb p hq⟩
  . have:i = min xs.length ys.length:=by omega
    subst this
    exact .inl ⟨⟨xs,ys,q1,q2,by omega⟩,hd σ H p⟩
end
def Ite (K:W.Frag) (l:Addr):It :=
  ⟨fun i H=>∃ xs x,SqL K H l xs/\xs[i]? = some x,
   fun i H x H'=>∃ p a,H p = none/\x = .ref p/\H' = m5 H p (.tup [.int (i:Int),a])/\∀ xs,SqL K H l xs->xs[i]? = some a,
   fun i H=>∃ xs,SqL K H l xs/\xs.length <= i⟩
theorem a5K {P:Program} {w:World} {K:W.Frag} {elts:List Expr} {x1:Nat} {pos:Pos} {e it l:Addr} (hne:e ≠ it) (hle:l ≠ e) (hli:l ≠ it) :
    a4B P w K (.Tuple elts x1 pos) (Ite K l) [e,it] e (fun i h=>(∃ old,IsEnum h e it (i:Int) old)/\h.IsListIter it l i) where
  mem:=by simp
  obj:=fun i h st b hb=>by
    obtain ⟨⟨old,he⟩,⟨o1,e1,c1,d1⟩⟩:=st
    simp only [List.mem_cons,List.not_mem_nil,or_false] at hb
    rcases hb with rfl | rfl
    . exact ⟨_,he,fun v q=>by cases q⟩
    . exact ⟨o1,e1,fun v q=>by rw [d1] at q; cases q⟩
  keep:=fun i h h' st k=>by
    obtain ⟨⟨old,he⟩,h1⟩:=st
    exact ⟨⟨old,k e (by simp) _ he⟩,h1.at fun o q=>k it (by simp) o q⟩
  item:=by
    intro X hP hw hK hc i pins s σ H E I hf st hg
    subst hP hw hK
    obtain ⟨xs,x,hq,hx⟩:=hg
    obtain ⟨⟨old,he⟩,h1⟩:=st
    obtain ⟨its,rv,p,_⟩:=I.list hq
    obtain ⟨u,hu,ru⟩:=rv.get hx
    refine wpAny_pyNext_enum_item he h1 p.isList (x:=u) (by simpa using hu) hne fun h' a1 a2 a3 a4 a5=>?_
    refine ⟨_,rfl,wpAny_letOwnedTupleGo_enum (s:={ s with heap:=h',toks:=s.toks + 1 }) a1 fun h'' he'' hs''=>?_⟩
    have ie:s.heap.get? e = _:=he
    obtain ⟨o1,ei,_⟩:=id h1
    have neT:∀ b ∈ [e,it],b ≠ s.heap.objs.size:=fun b hb q=>by
      have:∃ o,s.heap.get? b = some o:=by
        simp only [List.mem_cons,List.not_mem_nil,or_false] at hb
        rcases hb with rfl | rfl
        . exact ⟨_,ie⟩
        . exact ⟨_,ei⟩
      obtain ⟨o,ho⟩:=this
      exact absurd (Heap.lt_size ho) (by rw [q]; exact Nat.lt_irrefl _)
    have kk:∀ b o,b ∉ [e,it]->s.heap.get? b = some o->h''.get? b = some o:=fun b o hb q=>by
      simp only [List.mem_cons,List.not_mem_nil,or_false,not_or] at hb
      exact hs''.extBut b o hb.1 (a5 b o hb.1 hb.2 q)
    have it'':h''.IsListIter it l (i + 1):=a2.extBut hs''.extBut (Ne.symm hne)
    have hoF:∀ b ∈ [e,it],∃ o,h''.get? b = some o:=fun b hb=>by
      obtain ⟨o2,e2,_⟩:=it''
      simp only [List.mem_cons,List.not_mem_nil,or_false] at hb
      rcases hb with rfl | rfl
      . exact ⟨_,he''⟩
      . exact ⟨_,e2⟩
    have es:e ≠ s.heap.objs.size:=neT e (by simp)
    have tup:IsTup h'' s.heap.objs.size [Value.int (i:Int) s.toks,u].toArray:=⟨_,hs''.extBut _ _ (Ne.symm es) a3,rfl,0,rfl⟩
    refine ⟨.ref s.heap.objs.size,m5 H s.heap.objs.size (.tup [.int (i:Int),x]),(I.turnedLaid (h':=h'') hf kk hoF (Nat.le_refl _) (by show 2 <= sizeLine; decide) (show Vals [.int (i:Int),x] [Value.int (i:Int) s.toks,u] from .cons ⟨_,rfl⟩ (.cons ru .nil)) tup).tok _,rfl,⟨_,x,I.fresh,rfl,rfl,fun xs' q1=>?_⟩,⟨⟨_,he''⟩,it''⟩,fun b hb=>?_⟩
    . rw [I.list_inj q1 hq]; exact hx
    . rw [c9 (neT b hb)]; exact (hf b hb).1
  done:=by
    intro X hP hw hK hc i pins s σ H E I hf st hg
    subst hP hw hK
    obtain ⟨xs,hq,hend⟩:=hg
    obtain ⟨⟨old,he⟩,h1⟩:=st
    obtain ⟨its,rv,p,_⟩:=I.list hq
    have hl:=rv.length
    refine wpAny_pyNext_enum_end (I.ok.hd hc) he h1 p.isList (by simp; omega) fun h' k=>⟨rfl,I.turnedAll hf fun b o hb q=>?_⟩
    simp only [List.mem_cons,List.not_mem_nil,or_false,not_or] at hb
    exact k b o hb.2 q
  self:=fun _ _ _ _ _ st h=>by
    obtain ⟨⟨old,he⟩,_⟩:=st
    exact wpAny_pyIter_enum he h
def b2v (K:W.Frag) (ta:TA):TI:=fun σ H R=>ta σ H fun vs H1=>∃ l,vs = [.ref l]/\(∃ xs,SqL K H1 l xs)/\R (Ite K l) H1
theorem a4P (K:W.Frag) {X:Cx} {a:Expr} {ta:TA} {p pos pos':Pos} {elts:List Expr} {x1:Nat} (hK:X.K = K) (hg:Gl X "enumerate") (hm:X.mg "enumerate" = none) (ha:PA X [a] ta) (hs:starEach [a] X.env = [(false,eval a X.env)]:=by rfl) (hs2:starEach ([]:List Expr) X.env = []:=by rfl) :
    PI X (.Tuple elts x1 pos') (.Call (.Name "enumerate" p) [a] [] pos) (b2v K ta):=by
  subst hK
  intro pins s σ H R I h
  refine Call_ (P2 I hg hm boot_enumerate (PyProof.Rows.callWith_type1 (v8 (ha pos pins s σ H _ I h) fun us s1 ⟨vs,H1,I1,r1,q1⟩=>?_) (by rw [hs,hs2]) (by rw [hs2]; rfl)))
  obtain ⟨l,e,⟨xs,q1⟩,q⟩:=q1
  subst e
  obtain ⟨u,rfl,ru⟩:=N4 r1
  cases ru
  obtain ⟨its,rv,p,_⟩:=I1.list q1
  have lt1:l < s1.heap.objs.size:=by obtain ⟨_,e,_⟩:=p.isList; exact Heap.lt_size e
  refine call_enumerate_list p.isList fun h' z1 z2 z3 k=>?_
  have I2:Inv X pins σ H1 { s1 with heap:=h' }:=I1.kept (t':=s1.toks) k
  refine wpAny_pyIter_enum z1 ?_
  refine ⟨s1.heap.objs.size + 1,[s1.heap.objs.size + 1,s1.heap.objs.size],_,_,H1,rfl,I2,a5K (l:=l) (e:=s1.heap.objs.size + 1) (it:=s1.heap.objs.size) (Nat.succ_ne_self _) (Nat.ne_of_lt (Nat.lt_succ_of_lt lt1)) (Nat.ne_of_lt lt1),⟨⟨_,z1⟩,z2⟩,fun b hb=>?_,q⟩
  have hb':s1.heap.objs.size <= b:=by
    simp only [List.mem_cons,List.not_mem_nil,or_false] at hb
    rcases hb with rfl | rfl
    . exact Nat.le_succ _
    . exact Nat.le_refl _
  exact I1.fpOk hb' (I1.hok.fresh hb')
section
variable {xs ys:List V} {K:W.Frag} {l1 l2:Addr} {fr:List Nat} {te:TE} {σ:St} {H1:Hp} {p:Addr} {D:Hp->Prop}
theorem a3j {i1 i2:Nat} {tb:TS} {D:Ends} {H:Hp} (Pv:Nat->St->Hp->Prop) (h0:Pv 0 σ H) (hl:∀ i σ H,Pv i σ H->SqL K H l1 xs)
    (hs:∀ i x σ H q,xs[i]? = some x->Pv i σ H->H q = none->tb { D with nx:=Pv (i + 1),ct:=Pv (i + 1),bk:=D.nx } ((σ.set i1 (some (.int (i:Int)))).set i2 (some x)) (m5 H q (.tup [.int (i:Int),x]))) (hd:∀ σ H,Pv xs.length σ H->D.nx σ H) :
    ∃ W:Nat->Nat->St->Hp->Prop,(∃ m,W 0 m σ H)/\∀ i m σ H,W i m σ H →
      ((Ite K l1).stop i H/\D.nx σ H) \/ ((Ite K l1).go i H/\∃ N:St->Hp->Prop,(∀ σ' H',N σ' H'->∃ m',m' < m/\W (i + 1) m' σ' H')/\∀ x H',(Ite K l1).yld i H x H'->a3k K 2 (N5 (D7 i1) (N5 (D7 i2) a4e)) x σ H' fun σ2 H2=>tb { D with nx:=N,ct:=N,bk:=D.nx } σ2 H2):=by
  refine ⟨fun i m σ H=>m = xs.length - i/\i <= xs.length/\Pv i σ H,⟨_,rfl,Nat.zero_le _,h0⟩,?_⟩
  rintro i m σ H ⟨rfl,hi,p⟩
  have q1:=hl i σ H p
  by_cases hlt:i < xs.length
  . refine .inr ⟨⟨xs,xs[i],q1,List.getElem?_eq_getElem hlt⟩,Pv (i + 1),fun σ' H' p'=>⟨xs.length - (i + 1),by omega,rfl,hlt,p'⟩,fun u H' y=>?_⟩
    obtain ⟨q,a,hq,rfl,rfl,hab⟩:=y
    have ha:=hab xs q1
    exact ⟨q,_,rfl,SqT.of upd_same,rfl,_,_,rfl,_,_,rfl,rfl,hs i a σ H q ha p hq⟩
  . have:i = xs.length:=by omega
    subst this
    exact .inl ⟨⟨xs,q1,by omega⟩,hd σ H p⟩
end
end L2
namespace Fr
abbrev Q2:=Int × Int
def gI (a b:Int):Int:=(Int.gcd a b:Int)
def low (t b:Int):Q2:=(t / gI t b,b / gI t b)
def a7S (f:Q2):Prop:=0 < f.2/\Int.gcd f.1 f.2 = 1
theorem S1 (a b:Int):0 <= gI a b:=Int.natCast_nonneg _
theorem G7 (a b:Int):gI a b ∣ a:=Int.gcd_dvd_left ..
theorem w4 (a b:Int):gI a b ∣ b:=Int.gcd_dvd_right ..
theorem a3Q {a b:Int} (hb:0 < b):0 < gI a b:=by
  have h0:=S1 a b
  by_cases z:gI a b = 0
  . have:=w4 a b
    rw [z,Int.zero_dvd] at this
    omega
  . omega
theorem b1Z {a b:Int} (hb:0 < b):gI a b <= b:=Int.le_of_dvd hb (w4 a b)
theorem a4i {c a b:Int} (h1:c ∣ a) (h2:c ∣ b):c ∣ gI a b:=Int.dvd_coe_gcd h1 h2
theorem Z6 {a b:Int} (ha:0 <= a) (hb:0 <= b) (h1:a ∣ b) (h2:b ∣ a):a = b:=Int.dvd_antisymm ha hb h1 h2
theorem a9w (a b:Int):gI b (a % b) = gI a b:=by
  refine Z6 (S1 _ _) (S1 _ _) (a4i ?_ (G7 _ _)) (a4i (w4 _ _) ?_)
  . have h1:=G7 b (a % b)
    have h2:=w4 b (a % b)
    have:=Int.dvd_add (Int.dvd_mul_of_dvd_left (c:=a / b) h1) h2
    rw [Int.mul_ediv_add_emod] at this
    exact this
  . have h1:=G7 a b
    have h2:=w4 a b
    have:=Int.dvd_sub h1 (Int.dvd_mul_of_dvd_left (c:=a / b) h2)
    rw [Int.emod_def]
    exact this
theorem a9m (a:Int):gI a 0 = a.natAbs:=by unfold gI; rw [Int.gcd_zero_right]
theorem a9z {t b:Int} (hb:0 < b):0 < (low t b).2:=by
  have h:=a3Q (a:=t) hb
  obtain ⟨k,hk⟩:=w4 t b
  show 0 < b / gI t b
  have e:b / gI t b = k:=by
    have:b / gI t b = (gI t b * k) / gI t b:=by rw [<- hk]
    rw [this,Int.mul_ediv_cancel_left _ (by omega)]
  rw [e]
  by_cases z:0 < k
  . exact z
  . have:=Int.mul_nonneg (Int.le_of_lt h) (show 0 <= -k by omega)
    rw [Int.mul_neg] at this
    omega
theorem a1I {t b:Int} (hb:0 < b):t = gI t b * (low t b).1/\b = gI t b * (low t b).2 :=
  ⟨(Int.mul_ediv_cancel' (G7 t b)).symm,(Int.mul_ediv_cancel' (w4 t b)).symm⟩
theorem a1V {t b:Int} (hb:0 < b):(low t b).1 * b = t * (low t b).2:=by
  obtain ⟨h1,h2⟩:=a1I (t:=t) hb
  generalize gI t b = g at h1 h2
  generalize low t b = f at h1 h2
  rw [h1,h2]
  ac_rfl
theorem a2i {t b:Int} (hb:0 < b):a7S (low t b):=by
  refine ⟨a9z hb,?_⟩
  obtain ⟨h1,h2⟩:=a1I (t:=t) hb
  have hg:=a3Q (a:=t) hb
  have q:gI t b * gI (low t b).1 (low t b).2 ∣ gI t b * 1:=by
    rw [Int.mul_one]
    refine a4i ?_ ?_
    . have:=Int.mul_dvd_mul_left (gI t b) (G7 (low t b).1 (low t b).2)
      rw [<- h1] at this
      exact this
    . have:=Int.mul_dvd_mul_left (gI t b) (w4 (low t b).1 (low t b).2)
      rw [<- h2] at this
      exact this
  have q2:gI (low t b).1 (low t b).2 ∣ 1:=Int.dvd_of_mul_dvd_mul_left (by omega) q
  have q3:gI (low t b).1 (low t b).2 = 1:=Z6 (S1 _ _) (by decide) q2 (Int.one_dvd _)
  unfold gI at q3
  omega
theorem a0j {a b c:Int} (h:Int.gcd a b = 1) (d:b ∣ a * c):b ∣ c:=by
  have h':Nat.Coprime b.natAbs a.natAbs:=by
    rw [Nat.coprime_comm]; exact h
  have d':b.natAbs ∣ a.natAbs * c.natAbs:=by rw [<- Int.natAbs_mul]; exact Int.natAbs_dvd_natAbs.mpr d
  exact Int.natAbs_dvd_natAbs.mp (h'.dvd_of_dvd_mul_left d')
theorem a2A {f g:Q2} (hf:a7S f) (hg:a7S g) (h:f.1 * g.2 = g.1 * f.2):f = g:=by
  have d1:f.2 ∣ g.2:=a0j hf.2 ⟨g.1,by rw [h,Int.mul_comm]⟩
  have d2:g.2 ∣ f.2:=a0j hg.2 ⟨f.1,by rw [<- h,Int.mul_comm]⟩
  have e2:f.2 = g.2:=Z6 (Int.le_of_lt hf.1) (Int.le_of_lt hg.1) d1 d2
  have e1:f.1 = g.1:=by
    rw [e2] at h
    exact Int.eq_of_mul_eq_mul_right (by have:=hg.1; omega) h
  exact Prod.ext e1 e2
theorem b0L {t b t' b':Int} (hb:0 < b) (hb':0 < b') (h:t * b' = t' * b):low t b = low t' b':=by
  refine a2A (a2i hb) (a2i hb') ?_
  have c1:=a1V (t:=t) hb
  have c2:=a1V (t:=t') hb'
  generalize low t b = x at c1 ⊢
  generalize low t' b' = y at c2 ⊢
  refine Int.eq_of_mul_eq_mul_right (a:=b * b') (by have:=Int.mul_pos hb hb'; omega) ?_
  calc x.1 * y.2 * (b * b') = (x.1 * b) * (y.2 * b'):=by ac_rfl
    _ = (t * b') * (x.2 * y.2):=by rw [c1]; ac_rfl
    _ = (t' * y.2) * (b * x.2):=by rw [h]; ac_rfl
    _ = (y.1 * b') * (b * x.2):=by rw [c2]
    _ = y.1 * x.2 * (b * b'):=by ac_rfl
end Fr
namespace L2
open PySem PySem.Spec PyProof.Rows
abbrev a4k (X:Cx) (qual:Str) (scope:Scope) (f:Addr) (cd:Value) (C:Addr):Env:=W.envX qual scope C f cd (clo X.env scope.names [])
def a4U (X:Cx) (col:Str) (fr:List Nat) (qual:Str) (scope:Scope) (f:Addr) (cd:Value) (A':Around) (s₀:Shared) (H₀:Hp):Cx :=
  { X with N:=col :: fr.map (fun j=>X.N.getD j ""),s₀:=s₀,H₀:=H₀,A:=A'.deeper (a4k X qual scope f cd s₀.heap.objs.size),env:=a4k X qual scope f cd s₀.heap.objs.size,outer:=X.stack,
           stack:=a4k X qual scope f cd s₀.heap.objs.size :: X.stack,ex:=[],fn:=fun _=>false,pn:=[],xe:=fun _ _=>False }
section
variable {X:Cx} {pins:List (Addr × Obj)} {σ:St} {H:Hp} {s:Shared} {fr:List Nat} {scope:Scope} {col:Str} {qual:Str} {f:Addr} {cd:Value} {A':Around}
theorem P9 {env:Env} {l:List (Str × NameKind)} {x:Str} {c:Addr} (e:(clo env l []).lookup x = some c):env.cells.lookup x = some c:=X2 (cs:=[]) (fun _ _ z=>by simp at z) e
theorem Inv.lam {h₁:Heap} {t':Nat} {v:V} {u:Value} (I:Inv X pins σ H s) (hA:A'.frames = some X.stack) (hh:A'.handled = X.A.handled) (hk:scope.kind = .function) (h:X1 X.env.scope scope X.N fr = true)
    (hcell:∀ x ∈ scope.names,x.2 ≠ .cell) (hcol:scope.names.lookup col = some .local) (hns:h₁.Ns s.heap.objs.size fun x=>[(col,u)].reverse.lookup x) (hkeep:∀ b o,s.heap.get? b = some o->h₁.get? b = some o) (r:RelV v u) :
    Inv (a4U X col fr qual scope f cd A' s H) [] (some v :: frv fr σ) H { s with heap:=h₁,toks:=t' } where
  ok:={
    mod:=I.ok.mod
    kind:=hk
    glob:=rfl
    blt:=rfl
    above:=Nat.le_refl _
    inj:=fun x y c e1 e2=>I.ok.inj x y c (P9 e1) (P9 e2)
    has:=fun x hx=>by
      have hx':scope.names.lookup x = some .cell \/ scope.names.lookup x = some .free:=hx
      rcases hx' with e | e
      . exact absurd rfl (hcell _ (C4 e))
      . exact S7 (O8 I h x (C4 e)) (C4 e)
    cab:=fun x c hx=>by cases (show false = true from hx)
    hd:=fun z=>by
      show A'.handled = none
      rw [hh]
      exact I.ok.hd z
    frames:=Around.frames_deeper hA
    stk:=.inr ⟨rfl,rfl⟩
    exf:=fun b hb=>by cases (show b ∈ ([]:List Addr) from hb)
    bs:=I.bs
    bsz:=Nat.le_trans I.ok.bsz I.sz
    noex:=fun b o _ hb=>by cases (show b ∈ ([]:List Addr) from hb)
    exfs:=fun b hb=>by cases (show b ∈ ([]:List Addr) from hb)
    funs:=I.stack
    frf:=I.stkFree }
  os:=rfl
  bare:=I.bare
  base:=Un.kept hkeep
  loc:=by
    refine ⟨_,hns,fun i x w e1 e2 _=>?_⟩
    cases i with
    | zero =>
      have hx:col = x:=Option.some.inj e1
      have hv:v = w:=Option.some.inj (Option.some.inj e2)
      subst hx
      subst hv
      exact ⟨u,r,.inl ⟨hcol,by simp [List.lookup]⟩⟩
    | succ i =>
      have e1':(fr.map fun j=>X.N.getD j "")[i]? = some x:=e1
      have e2':(fr.map fun j=>(σ[j]?).join)[i]? = some (some w):=e2
      rw [List.getElem?_map] at e1' e2'
      cases q:fr[i]? with
      | none=>rw [q] at e1'; cases e1'
      | some j =>
        rw [q] at e1' e2'
        have hj:j ∈ fr:=List.mem_of_getElem? q
        obtain ⟨hjl,hjc,hjf⟩:=a9N h j hj
        have ex:X.N.getD j "" = x:=Option.some.inj e1'
        have ev:(σ[j]?).join = some w:=Option.some.inj e2'
        have hN:X.N[j]? = some x:=by
          rw [<- ex,List.getD_eq_getElem?_getD,List.getElem?_eq_getElem hjl]; rfl
        have hσ:σ[j]? = some (some w):=by
          cases r:σ[j]? with
          | none=>rw [r] at ev; cases ev
          | some y=>rw [r] at ev; exact congrArg some ev
        rw [ex] at hjc hjf
        obtain ⟨m,_,hl⟩:=I.loc
        obtain ⟨u',r',lk⟩:=hl j x w hN hσ (.inr (.inl hjc))
        refine ⟨u',r',?_⟩
        have kc:Env.kindOf X.env x = some .cell:=hjc
        rcases lk with ⟨k1,_⟩ | ⟨_,c,ec,o,ho',hd⟩
        . rw [kc] at k1; cases k1
        . obtain ⟨c',hc'⟩:=S7 (env:=X.env) (cs:=[]) ⟨c,ec⟩ (C4 hjf)
          have e3:=P9 hc'
          rw [ec] at e3
          cases e3
          exact .inr ⟨.inr hjf,c,hc',o,hkeep _ _ ho',hd⟩
  cell:=fun x c e=>by
    obtain ⟨v,o,ho',hd⟩:=I.cell x c (P9 e)
    exact ⟨v,o,hkeep _ _ ho',hd⟩
  free:=I.hok.fresh (Nat.le_refl _)
  freeC:=fun x c e=>I.freeC x c (P9 e)
  pin:=fun p hp=>by cases (show p ∈ ([]:List (Addr × Obj)) from hp)
  hok:=I.hok.kept hkeep
  len:=by simp [frv,a4U]
def Quiet (X:Cx) (H:Hp) (s s':Shared):Prop:=∀ b o,s.heap.get? b = some o->H b = none->b ≠ X.env.locals->b ∉ X.fs->s'.heap.get? b = some o
theorem a6O {params:Arguments} {body:Expr} {pm ctv:Value} {c':Addr} {v k:V} {u:Value} {t:TE} {Q:Value->Shared->Prop} {E:Value->Shared->Prop} (I:Inv X pins σ H s) (hA:A'.frames = some X.stack) (hh:A'.handled = X.A.handled)
    (hroom:A'.depth < recursionLimit) (hk:scope.kind = .function) (h:X1 X.env.scope scope X.N fr = true)
    (hcell:∀ x ∈ scope.names,x.2 ≠ .cell) (hcol:scope.names.lookup col = some .local) (hco:scope.isCoroutine = false) (hgen:scope.isGenerator = false)
    (hf:s.heap.get? f = some (W.kla_obj "<lambda>" qual params body scope (clo X.env scope.names []) pm c' ctv)) (hcd:s.heap.CodeRec (.ref c') qual)
    (hb:∀ u:Value,bindArgs (W.kla_fn "<lambda>" qual params body scope (clo X.env scope.names []) pm (.ref c') ctv) ⟨[u],[]⟩ = pure [(col,u)])
    (hbody:PE (a4U X col fr qual scope f (.ref c') A' s H) body t) (r:RelV v u) (ht:t (some v :: frv fr σ) H fun y H'=>y = k/\H' = H)
    (q:∀ y s',RelV k y->Inv X pins σ H s'->Quiet X H s s'->Q y s'):wpAny (model X.prog X.w) A' (call (.ref f) [u]) Q E s:=by
  refine wpAny_call (W.kla_callFunE hroom hf rfl hco hgen rfl hcd ?_)
  rw [hb u]
  refine wpAny_pure (wpAny_newFunctionEnv hcell (fun y hy=>?_) (fun h₁ hns hsb=>?_) hk)
  . rw [List.mem_singleton.mp hy]; exact hcol
  . have hk₁:∀ b o,s.heap.get? b = some o->h₁.get? b = some o:=fun b o e=>hsb.extBut b o (Nat.ne_of_lt (Heap.lt_size e)) (Heap.get?_push_of_some _ e)
    refine ⟨I.nolimit.keeps hk₁,W.kla_codeExpr ?_⟩
    have J:=I.lam (qual:=qual) (f:=f) (cd:=.ref c') (t':=s.toks + [(col,u)].length) hA hh hk h hcell hcol hns hk₁ r
    refine wpAny_mono (hbody [] _ _ _ _ J ht) (fun y s' hy=>?_) fun e s' z=>False.elim z
    obtain ⟨w,H',J',rw',rfl,rfl⟩:=hy
    have J2:Inv X pins σ H' s':=I.call' (ch:=[]) J'.os J'.base J'.hok J'.bare fun b hb=>by cases hb
    refine q y s' rw' J2 fun b o e n n1 n2=>?_
    refine J'.base.keep b o e n (fun z=>?_) (by intro z; cases z)
    rcases List.mem_cons.mp (I.stkSub b z) with w | w
    . exact n1 w
    . exact n2 w
end
end L2
namespace L2
open PySem PySem.Spec PyProof.Rows
def O1 (mg:Str->Option Value) (base:Heap):Prop:=∃ bm ob,mg "__builtins__" = some (.ref bm)/\bm ≠ builtinsNs/\base.get? bm = some ob/\ob.cls = .type "module"/\ob.dict = some builtinsNs/\ob.data = .plain
abbrev a2l (c:Addr) (qual:Str):HO:=.ext fun h=>h.CodeRec (.ref c) qual
def LamTab (P:Addr) (pos:Pos) (qual:Str) (H:Hp):Prop :=
  H P = some (.tbl #[]) \/ ∃ c',H P = some (.tbl #[rawInt pos.line,rawInt pos.col,.ref c'])/\H c' = some (a2l c' qual)
def Same1 (P:Addr) (H H':Hp):Prop:=∀ b o,b ≠ P->H b = some o->H' b = some o
theorem LamTab.same {P:Addr} {pos:Pos} {qual:Str} {H H':Hp} (T:LamTab P pos qual H) (h:∀ b o,H b = some o->H' b = some o):LamTab P pos qual H':=by
  rcases T with e | ⟨c,e1,e2⟩
  . exact .inl (h _ _ e)
  . exact .inr ⟨c,h _ _ e1,h _ _ e2⟩
section
variable {X:Cx} {pins:List (Addr × Obj)} {σ:St} {H:Hp} {s:Shared} {fr:List Nat} {scope:Scope} {qual:Str} {c P:Addr} {params:Arguments} {body:Expr} {pos:Pos}
theorem a7V {K:Program} {w:World} {H:Hp} {h:Heap} {c:Addr} {o:Obj} (e:h.get? c = some o) (r:h.CodeRec (.ref c) qual):ObjOk K w H h c (a2l c qual) :=
  ⟨r,⟨o,e⟩,fun h1 h2 ⟨c',o',vs,t,z,g,q⟩ k=>by
    have z':c = c':=Value.ref.inj z
    subst z'
    exact ⟨c,o',vs,t,rfl,k _ g,q⟩⟩
theorem Inv.grown {h':Heap} {t':Nat} {ps more:Array Value} {c':Addr} (I:Inv X pins σ H s) (hP:H P = some (.tbl ps)) (hx:Heap.ExtBut P s.heap h') (hge:s.heap.objs.size <= c') (hcr:h'.CodeRec (.ref c') qual)
    (htb:h'.get? P = some { cls:=.none,data:=.fields (ps ++ more) }):Inv X pins σ (m5 (m5 H P (.tbl (ps ++ more))) c' (a2l c' qual)) { s with heap:=h',toks:=t' }:=by
  have hPl:P < s.heap.objs.size:=I.hok.lt hP
  have hPc:P ≠ c':=Nat.ne_of_lt (Nat.lt_of_lt_of_le hPl hge)
  have hcn:H c' = none:=I.hok.fresh hge
  have atP:m5 (m5 H P (.tbl (ps ++ more))) c' (a2l c' qual) P = some (.tbl (ps ++ more)):=by rw [c9 hPc,upd_same]
  have nP:∀ b o,H b = some o->(∀ qs,o ≠ .tbl qs)->m5 (m5 H P (.tbl (ps ++ more))) c' (a2l c' qual) b = some o:=fun b o e n=>by
    rw [c9 (d7 e hcn),c9 (fun z=>by subst z; rw [e] at hP; exact n _ (Option.some.inj hP))]
    exact e
  have neP:∀ b,H b = none->b ≠ P:=fun b n z=>by subst z; rw [hP] at n; cases n
  obtain ⟨cc,oc,vs,tt,z,gc,gr⟩:=id hcr
  have z':c' = cc:=Value.ref.inj z
  subst z'
  refine I.un ⟨fun b o e n _ _=>hx b o (neP b n) e,fun b o e n _ _=>⟨o.slots,hx b o (neP b n) e⟩,fun b o e n _=>?_,fun b o e _=>?_,fun b xs e=>nP b _ e (fun _=>nofun),fun b o u e=>nP b _ e (fun _=>nofun),fun b qs e=>?_⟩ fun b u e=>?_
  . rw [c9 (Nat.ne_of_lt (Nat.lt_of_lt_of_le (Heap.lt_size e) hge)),c9 (neP b n)]; exact n
  . by_cases hb:b = P
    . subst hb; exact ⟨_,htb⟩
    . exact ⟨o,hx b o hb e⟩
  . by_cases hb:b = P
    . subst hb
      rw [e] at hP
      cases hP
      exact ⟨more,atP⟩
    . refine ⟨#[],?_⟩
      rw [c9 (d7 e hcn),c9 hb,e]; simp
  . by_cases hb:b = c'
    . subst hb
      rw [upd_same] at e
      cases e
      exact a7V gc hcr
    . rw [c9 hb] at e
      by_cases hb2:b = P
      . subst hb2
        rw [upd_same] at e
        cases e
        exact htb
      . rw [c9 hb2] at e
        refine (I.hok b u e).stay (fun d v hd g=>hx d v (fun z=>?_) g) (fun d g=>nP d _ g fun _=>nofun) fun d xs g=>nP d _ g fun _=>nofun
        subst z
        rcases hd with w | w
        . exact hb2 w.symm
        . rw [hP] at w; cases w
theorem a6G {Q:Value->Shared->Prop} {E:Value->Shared->Prop} (I:Inv X pins σ H s) (hcode:X.env.code = .ref c) (C:W.CodeHd X.base c P) (B:O1 X.mg X.base) (T:LamTab P pos (X.env.qual ++ "<lambda>") H)
    (h:X1 X.env.scope scope X.N fr = true) (hdef:defaultsOf params X.env = ([],[]))
    (q:∀ f c' ctv pm H' s',Inv X ((f,W.kla_obj "<lambda>" (X.env.qual ++ "<lambda>") params body scope (clo X.env scope.names []) pm c' ctv) :: pins) σ H' s'->LamTab P pos (X.env.qual ++ "<lambda>") H'->Same1 P H H' →
      H' c' = some (a2l c' (X.env.qual ++ "<lambda>"))->(∀ b,b < s.heap.objs.size->H b = none->H' b = none)->Q (.ref f) s') :
    wpAny (model X.prog X.w) X.A (eval (.Lambda params body scope pos) X.env) Q E s:=by
  have hcl:=A7 (O8 I h)
  have hg:s.heap.Ns mainGlobals X.mg:=I.mod.glob.keeps I.bk
  obtain ⟨bm,ob,b1,b2,b3,b4,b5,b6⟩:=B
  have Pg:∀ ps,s.heap.get? P = some (W.tabObj ps)->mainGlobals ≠ P:=fun ps e z=>by
    obtain ⟨o,es,ep,e1,hd,_⟩:=hg
    rw [z,e] at e1; cases e1; cases hd
  have Pb:∀ ps,s.heap.get? P = some (W.tabObj ps)->bm ≠ P:=fun ps e z=>by
    have e1:=I.bk _ _ b3
    rw [z,e] at e1; cases e1; cases b4
  have bg:bm ≠ mainGlobals:=fun z=>by
    obtain ⟨o,es,ep,e1,hd,_⟩:=I.mod.glob
    rw [z,e1] at b3; cases b3; rw [hd] at b6; cases b6
  refine W.kla_eval hdef ?_
  rcases T with T | ⟨c',T,Tc⟩
  . have hP:s.heap.get? P = some (W.tabObj #[]):=I.hok P _ T
    refine W.kla_makeFunction (mg:=X.mg) hcl I.ok.glob hg hcode (C.keeps I.bk) hP trivial rfl (Pg _ hP) ⟨bm,ob,b1,b2,bg,Pb _ hP,I.bk _ _ b3,b4,b5,b6⟩ fun c' ctv h' tk hx hge hlt hrec htb=>?_
    have J:=I.grown (t':=tk) (more:=#[rawInt pos.line,rawInt pos.col,.ref c']) T hx hge hrec htb
    have hsz:s.heap.objs.size <= h'.objs.size:=Nat.le_trans hge (Nat.le_of_lt hlt)
    have hPl:P < s.heap.objs.size:=I.hok.lt T
    have J2:=J.kept (h':=h'.push (W.kla_obj "<lambda>" (X.env.qual ++ "<lambda>") params body scope (clo X.env scope.names []) ((X.mg "__name__").getD .none) c' ctv)) (t':=tk) fun b u e=>Heap.get?_push_of_some _ e
    have hPc:P ≠ c':=Nat.ne_of_lt (Nat.lt_of_lt_of_le hPl hge)
    refine q _ c' ctv ((X.mg "__name__").getD .none) _ _ (J2.pins_of fun p hp=>?_) (.inr ⟨c',?_,upd_same⟩) (fun b o hb e=>?_) upd_same fun b hb e=>?_
    . rcases List.mem_cons.mp hp with rfl | hp
      . refine ⟨Heap.get?_push_size _ rfl,J.hok.fresh (Nat.le_refl _),Nat.ne_of_gt (Nat.lt_of_lt_of_le I.lt hsz),I.nofs hsz,fun v=>nofun⟩
      . exact J2.pin p (List.mem_append_right _ hp)
    . rw [c9 hPc,upd_same]; rfl
    . rw [c9 (d7 e (I.hok.fresh hge)),c9 hb]; exact e
    . rw [c9 (Nat.ne_of_lt (Nat.lt_of_lt_of_le hb hge)),c9 (fun z=>by rw [z,T] at e; cases e)]; exact e
  . have hP:s.heap.get? P = some (W.tabObj #[rawInt pos.line,rawInt pos.col,.ref c']):=I.hok P _ T
    have hf:codeAmong pos (#[rawInt pos.line,rawInt pos.col,Value.ref c']).toList = some (.ref c'):=by
      show codeAmong pos ([] ++ [rawInt pos.line,rawInt pos.col,Value.ref c']) = _
      exact codeAmong_snoc [] trivial rfl
    refine W.kla_makeFunctionHit (mg:=X.mg) hcl I.ok.glob hg hcode (C.keeps I.bk) hP trivial hf ⟨bm,ob,b1,b2,bg,Pb _ hP,I.bk _ _ b3,b4,b5,b6⟩ fun ctv h' tk hk hsz=>?_
    have J:=I.kept (h':=h') (t':=tk) hk
    have J2:=J.kept (h':=h'.push (W.kla_obj "<lambda>" (X.env.qual ++ "<lambda>") params body scope (clo X.env scope.names []) ((X.mg "__name__").getD .none) c' ctv)) (t':=tk) fun b u e=>Heap.get?_push_of_some _ e
    refine q _ c' ctv ((X.mg "__name__").getD .none) _ _ (J2.pins_of fun p hp=>?_) (.inr ⟨c',T,Tc⟩) (fun b o hb e=>e) Tc fun b hb e=>e
    rcases List.mem_cons.mp hp with rfl | hp
    . exact ⟨Heap.get?_push_size _ rfl,J.hok.fresh (Nat.le_refl _),Nat.ne_of_gt (Nat.lt_of_lt_of_le I.lt hsz),I.nofs hsz,fun v=>nofun⟩
    . exact J2.pin p (List.mem_append_right _ hp)
end
end L2
namespace L2
open PySem PySem.Spec PyProof.Rows
section
variable {X:Cx} {pins:List (Addr × Obj)} {σ:St} {H:Hp} {l It S fq:Addr} {ns:List Int} {g:Int->Int} {R:Result->Shared->Prop}
theorem Quiet.fp {s s':Shared} {b:Addr} {o:Obj} (k:Quiet X H s s') (f:P3 X pins H b) (e:s.heap.get? b = some o):s'.heap.get? b = some o:=k b o e f.1 f.2.1 f.2.2.1
theorem Inv.fpTurn {s:Shared} {h':Heap} {t':Nat} {b:Addr} (I:Inv X pins σ H s) (f:P3 X pins H b) (k:∀ c o,c ≠ b->s.heap.get? c = some o->h'.get? c = some o):Inv X pins σ H { s with heap:=h',toks:=t' } :=
  I.turned k f.1 f.2.1 f.2.2.2.1 f.2.2.2.2.1 f.2.2.2.2.2
def b0Z (ns:List Int) (g:Int->Int) (j:Nat) (cont:List Value):Prop :=
  (cont = []/\j = 0) \/ ∃ M vb kb,cont = [vb,kb]/\M ∈ ns/\RelV (.int M) vb/\RelV (.int (g M)) kb/\∀ a ∈ ns.take j,g M <= g a
abbrev a8l (X:Cx) (pins:List (Addr × Obj)) (σ:St) (H:Hp) (fq:Addr) (ns:List Int) (g:Int->Int):Prop :=
  ∀ n ∈ ns,∀ (u:Value) (s:Shared) (Q:Value->Shared->Prop) (E:Value->Shared->Prop),Inv X pins σ H s->RelV (.int n) u →
    (∀ y s',RelV (.int (g n)) y->Inv X pins σ H s'->Quiet X H s s'->Q y s')->wpAny (model X.prog X.w) X.A.in1 (call (.ref fq) [u]) Q E s
theorem a9g (hc:X.calm = true) (hl:SqL X.K H l (ns.map V.int)) (turn:a8l X pins σ H fq ns g) (fI:P3 X pins H It) (fS:P3 X pins H S) (hIS:It ≠ S) (hIl:l ≠ It)
    (hN:ns = []->∀ s',Inv X pins σ H s'->R (.ok (.ret .none)) s') (hR:∀ M ∈ ns,(∀ a ∈ ns,g M <= g a)->∀ y s',RelV (.int M) y->Inv X pins σ H s'->R (.ok (.ret y)) s') :
    ∀ (r j:Nat) (s:Shared) (cont:List Value) (cn:Nat),ns.length - j = r->j <= ns.length->Inv X pins σ H s->s.heap.IsListIter It l j->s.heap.get? S = some (seqObj "list" cont.toArray cn)->b0Z ns g j cont →
      codeAny (model X.prog X.w) X.A (.builtin "min.loop" ⟨[.ref It,.ref fq,.ref S],[("default",.none)]⟩) R s:=by
  have nm:(toString "min" ++ toString ".loop":String) = "min.loop":=by decide
  have hh:∀ {s:Shared},Inv X pins σ H s->X.A.in1.handled = none:=fun I=>I.ok.hd hc
  intro r
  induction r with
  | zero =>
    intro j s cont cn hr hj I hit hS hb
    have hjn:j = ns.length:=by omega
    obtain ⟨its,rv,pl,hz⟩:=I.list hl
    have W:=Walks.list (prog:=X.prog) (w:=X.w) (A:=X.A.in1) (hh I) It l hIl its.toArray
    have hsz:its.toArray.size = ns.length:=by rw [List.size_toArray,<- rv.length,List.length_map]
    refine codeAny_builtin F.entry_min_loop ?_; rw [Around.under_plainId F.plain_min_loop _]
    refine wpAny_bind (wpAny_seqItems hS rfl ?_)
    rcases hb with ⟨rfl,rfl⟩ | ⟨M,vb,kb,rfl,hM,rM,rK,best⟩
    . show wpAny _ X.A.in1 (tryCatch (pyNext (.ref It)) _ >>= _) _ _ _
      refine wpAny_bind (wpAny_tryCatch (W.done _ _ _ ⟨by rw [hsz,<- hjn]; exact hit,pl.isList⟩ fun h' tk' hk'=>?_))
      have J:=I.fpTurn (h':=h') (t':=tk') fI fun c o n e=>hk' c o (by simpa using n) e
      show wpAny _ X.A.in1 (rule _ >>= _) _ _ _
      exact wpAny_bind (wpAny_rule (wpAny_pure (hN (List.length_eq_zero_iff.mp hjn.symm) _ J)))
    . show wpAny _ X.A.in1 (tryCatch (pyNext (.ref It)) _ >>= _) _ _ _
      refine wpAny_bind (wpAny_tryCatch (W.done _ _ _ ⟨by rw [hsz,<- hjn]; exact hit,pl.isList⟩ fun h' tk' hk'=>?_))
      have J:=I.fpTurn (h':=h') (t':=tk') fI fun c o n e=>hk' c o (by simpa using n) e
      have hS':=hk' S _ (by simpa using hIS.symm) hS
      have s1:=Heap.SameBut.update h' S (Obj.mapSeq fun _=>(#[]:Array Value))
      show wpAny _ X.A.in1 (updateSeq S (fun _=>#[]) >>= _) _ _ _
      refine wpAny_bind (wpAny_updateSeq hS' rfl (wpAny_bind (wpAny_letGo (wpAny_pure ?_))))
      exact hR M hM (fun a ha=>best a (by rw [hjn,List.take_length]; exact ha)) vb _ rM (J.fpTurn fS fun c o n e=>(s1.2 c n).trans e)
  | succ r ih =>
    intro j s cont cn hr hj I hit hS hb
    have hlt:j < ns.length:=by omega
    obtain ⟨its,rv,pl,hz⟩:=I.list hl
    have W:=Walks.list (prog:=X.prog) (w:=X.w) (A:=X.A.in1) (hh I) It l hIl its.toArray
    have hsz:its.toArray.size = ns.length:=by rw [List.size_toArray,<- rv.length,List.length_map]
    refine codeAny_builtin F.entry_min_loop ?_; rw [Around.under_plainId F.plain_min_loop _]
    refine wpAny_bind (wpAny_seqItems hS rfl ?_)
    have go:∀ (old:List Value) (kx:Value->Sem (Option Value)) (B:Option Value->Sem PySem.Fin) (Q:PySem.Fin->Shared->Prop) (E:Value->Shared->Prop),
        (∀ v h' tk',RelV (.int ns[j]) v->Inv X pins σ H { s with heap:=h',toks:=tk' }->h'.IsListIter It l (j + 1)->h'.get? S = some (seqObj "list" cont.toArray cn)->wpAny (model X.prog X.w) X.A.in1 (B (some v)) Q E { s with heap:=h',toks:=tk' }) →
        wpAny (model X.prog X.w) X.A.in1 (tryCatch (pyNext (.ref It)) kx >>= B) Q E s:=by
      intro old kx B Q E hB
      refine wpAny_bind (wpAny_tryCatch (W.item j _ _ _ (by rw [hsz]; exact hlt) ⟨hit,pl.isList⟩ fun v h' tk' hP hst' hk'=>?_))
      have hv:(ns.map V.int)[j]? = some (V.int ns[j]):=by rw [List.getElem?_map,List.getElem?_eq_getElem hlt]; rfl
      obtain ⟨u,hu,ru⟩:=rv.get hv
      have hP':its[j]? = some v:=by simpa using hP
      rw [hu] at hP'
      cases hP'
      exact hB _ h' tk' ru (I.fpTurn fI fun c o n e=>hk' c o (by simpa using n) e) hst'.1 (hk' S _ (by simpa using hIS.symm) hS)
    have hn:ns[j] ∈ ns:=List.getElem_mem hlt
    have tk1:∀ a ∈ ns.take (j + 1),a ∈ ns.take j \/ a = ns[j]:=fun a ha=>by
      rw [List.take_succ_eq_append_getElem hlt] at ha
      rcases List.mem_append.mp ha with z | z
      . exact .inl z
      . exact .inr (List.mem_singleton.mp z)
    rcases hb with ⟨rfl,rfl⟩ | ⟨M,vb,kb,rfl,hM,rM,rK,best⟩
    . show wpAny _ X.A.in1 (tryCatch (pyNext (.ref It)) _ >>= _) _ _ _
      refine go [] _ _ _ _ fun v h' tk' rv' J hit' hS'=>?_
      show wpAny _ X.A.in1 (tryCatch (holding [v] (call (.ref fq) [v])) _ >>= _) _ _ _
      refine wpAny_bind (wpAny_tryCatch (wpAny_holding (turn _ hn v _ _ _ J rv' fun y s2 ry J2 qu=>?_)))
      have hS2:=qu.fp fS hS'
      obtain ⟨oI,hoI,hoc,hod⟩:=hit'
      have hI2:=qu.fp fI hoI
      have s1:=Heap.SameBut.update s2.heap S (Obj.mapSeq fun _=>#[v,y])
      obtain ⟨c2,hc2⟩:∃ c2,(s2.heap.update S (Obj.mapSeq fun _=>#[v,y])).get? S = some (seqObj "list" #[v,y] c2):=⟨_,get?_update_seq hS2 fun _=>#[v,y]⟩
      show wpAny _ X.A.in1 (updateSeq S (fun _=>#[v,y]) >>= _) _ _ _
      refine wpAny_bind (wpAny_updateSeq hS2 rfl ?_)
      rw [nm]
      refine wpAny_pure ⟨plainId_quiet F.plain_min_loop _,ih (0 + 1) _ [v,y] c2 (by omega) hlt (J2.fpTurn fS fun c o n e=>(s1.2 c n).trans e) ⟨oI,(s1.2 It hIS).trans hI2,hoc,hod⟩ hc2 (.inr ⟨ns[0],v,y,rfl,hn,rv',ry,fun a ha=>?_⟩)⟩
      rcases tk1 a ha with z | z
      . simp at z
      . rw [z]; exact Int.le_refl _
    . show wpAny _ X.A.in1 (tryCatch (pyNext (.ref It)) _ >>= _) _ _ _
      refine go [] _ _ _ _ fun v h' tk' rv' J hit' hS'=>?_
      show wpAny _ X.A.in1 (tryCatch (holding [v] (call (.ref fq) [v])) _ >>= _) _ _ _
      refine wpAny_bind (wpAny_tryCatch (wpAny_holding (turn _ hn v _ _ _ J rv' fun y s2 ry J2 qu=>?_)))
      have hS2:=qu.fp fS hS'
      obtain ⟨oI,hoI,hoc,hod⟩:=hit'
      have hI2:=qu.fp fI hoI
      obtain ⟨t2,rfl⟩:=ry
      obtain ⟨tb,rfl⟩:=rK
      show wpAny _ X.A.in1 (tryCatch (holding [v,.int (g ns[j]) t2] (richCompare .Lt (.int (g ns[j]) t2) (.int (g M) tb) >>= _)) _ >>= _) _ _ _
      refine wpAny_bind (wpAny_tryCatch (wpAny_holding (wpAny_bind (CmpOf.ints_lt (prog:=X.prog) (w:=X.w) (A:=X.A.in1) (P:=fun i v=>∃ t,v = .int ([g ns[j],g M].getD i 0) t) (fun i=>[g ns[j],g M].getD i 0) (fun i v h=>h) 0 1 _ _ _ _ _ ⟨t2,rfl⟩ ⟨tb,rfl⟩ ?_))))
      refine wpAny_bind (wpAny_holding (wpAny_truthy_bool (wpAny_bind (wpAny_letGo (wpAny_pure ?_)))))
      have e01:(fun i j_1=>decide ([g ns[j],g M].getD i 0 < [g ns[j],g M].getD j_1 0)) 0 1 = decide (g ns[j] < g M):=rfl
      rw [e01]
      by_cases hb':g ns[j] < g M
      . have s1:=Heap.SameBut.update s2.heap S (Obj.mapSeq fun _=>#[v,.int (g ns[j]) t2])
        obtain ⟨c2,hc2⟩:∃ c2,(s2.heap.update S (Obj.mapSeq fun _=>#[v,.int (g ns[j]) t2])).get? S = some (seqObj "list" #[v,.int (g ns[j]) t2] c2):=⟨_,get?_update_seq hS2 fun _=>#[v,.int (g ns[j]) t2]⟩
        simp only [hb',decide_true,if_true]
        refine wpAny_bind (wpAny_updateSeq hS2 rfl (wpAny_bind (wpAny_letGo ?_)))
        rw [nm]
        refine wpAny_pure ⟨plainId_quiet F.plain_min_loop _,ih (j + 1) _ [v,.int (g ns[j]) t2] c2 (by omega) hlt (J2.fpTurn fS fun c o n e=>(s1.2 c n).trans e) ⟨oI,(s1.2 It hIS).trans hI2,hoc,hod⟩ hc2 (.inr ⟨ns[j],v,_,rfl,hn,rv',⟨t2,rfl⟩,fun a ha=>?_⟩)⟩
        rcases tk1 a ha with z | z
        . have:=best a z; omega
        . rw [z]; exact Int.le_refl _
      . simp only [hb',decide_false,Bool.false_eq_true,if_false]
        refine wpAny_bind (wpAny_letGo ?_)
        rw [nm]
        refine wpAny_pure ⟨plainId_quiet F.plain_min_loop _,ih (j + 1) _ [vb,.int (g M) tb] cn (by omega) hlt J2 ⟨oI,hI2,hoc,hod⟩ hS2 (.inr ⟨M,vb,_,rfl,hM,rM,⟨tb,rfl⟩,fun a ha=>?_⟩)⟩
        rcases tk1 a ha with z | z
        . exact best a z
        . rw [z]; omega
theorem a9d {s:Shared} {Q:Value->Shared->Prop} {E:Value->Shared->Prop} (hc:X.calm = true) (I:Inv X pins σ H s) (hl:SqL X.K H l (ns.map V.int)) (turn:a8l X pins σ H fq ns g)
    (hN:ns = []->∀ s',Inv X pins σ H s'->Q .none s') (hR:∀ M ∈ ns,(∀ a ∈ ns,g M <= g a)->∀ y s',RelV (.int M) y->Inv X pins σ H s'->Q y s') :
    wpAny (model X.prog X.w) X.A (call (.builtin "min") [.ref l] [("key",.ref fq),("default",.none)]) Q E s:=by
  have nm:(toString "min" ++ toString ".loop":String) = "min.loop":=by decide
  have ha:argsOk "min" ⟨[.ref l],[("key",.ref fq),("default",.none)]⟩:=by unfold argsOk; rfl
  obtain ⟨its,rv,pl,hz⟩:=I.list hl
  have hlt:l < s.heap.objs.size:=by obtain ⟨_,e,_⟩:=pl.isList; exact Heap.lt_size e
  refine kmk_tree F.kind_min F.plain_min F.entry_min ha ?_
  show wpAny _ X.A.in1 (Builtin.Builtins.bindParams "min" ["key","default"] 0 ⟨[],[("key",.ref fq),("default",.none)]⟩ >>= _) _ _ s
  refine wpAny_bind (wpAny_of_eq (show Builtin.Builtins.bindParams "min" ["key","default"] 0 ⟨[],[("key",.ref fq),("default",.none)]⟩ = pure [some (.ref fq),some .none] from rfl) (wpAny_bind (wpAny_pure ?_)))
  refine wpAny_bind (wpAny_pyIter_list pl.isList (wpAny_bind (wpAny_newList ?_ (Nat.zero_le _))))
  rw [nm]
  have I1:=I.kept (h':=s.heap.push { cls:=.type "list_iterator",data:=.fields #[.ref l,.int 0 0] }) (t':=s.toks) fun b u e=>Heap.get?_push_of_some _ e
  have I2:=I1.kept (h':=(s.heap.push { cls:=.type "list_iterator",data:=.fields #[.ref l,.int 0 0] }).push (seqObj "list" #[] 0)) (t':=s.toks) fun b u e=>Heap.get?_push_of_some _ e
  have hS:(s.heap.push { cls:=.type "list_iterator",data:=.fields #[.ref l,.int 0 0] }).objs.size = s.heap.objs.size + 1:=size_push' ..
  have fI:P3 X pins H s.heap.objs.size:=I.fpOk (Nat.le_refl _) (I.hok.fresh (Nat.le_refl _))
  have fS:P3 X pins H (s.heap.push { cls:=.type "list_iterator",data:=.fields #[.ref l,.int 0 0] }).objs.size:=I.fpOk (by rw [hS]; omega) (I.hok.fresh (by rw [hS]; omega))
  refine wpAny_pure ⟨plainId_quiet F.plain_min_loop _,a9g hc hl turn fI fS (Nat.ne_of_lt (by rw [hS]; exact Nat.lt_succ_self _)) (Nat.ne_of_lt hlt) hN hR _ 0 _ [] 0 rfl (Nat.zero_le _) I2 ⟨_,Heap.get?_push_of_some _ (Heap.get?_push_size _ rfl),rfl,rfl⟩ (Heap.get?_push_size _ rfl) (.inl ⟨rfl,rfl⟩)⟩
end
end L2
namespace L2
open PySem PySem.Spec PyProof.Rows
theorem SqL.same1 {K:W.Frag} {P:Addr} {pos:Pos} {qual:Str} {H H':Hp} {a:Addr} {xs:List V} (T:LamTab P pos qual H) (e:Same1 P H H') (h:SqL K H a xs):SqL K H' a xs:=by
  have ne:∀ o,H a = some o->(∀ ps,o ≠ .tbl ps)->a ≠ P:=fun o q n z=>by
    subst z
    rcases T with t | ⟨c,t,_⟩
    . rw [q] at t; exact n _ (Option.some.inj t)
    . rw [q] at t; exact n _ (Option.some.inj t)
  rcases h with (h | ⟨o,h⟩) | h
  . exact .inl (.inl (e _ _ (ne _ h fun _=>nofun) h))
  . exact .inl (.inr ⟨o,e _ _ (ne _ h fun _=>nofun) h⟩)
  . exact .inr h
def a9s (K:W.Frag) (P:Addr) (lpos:Pos) (qual:Str) (fr:List Nat) (t:TA) (tb:TE):TE:=fun σ H Q=>t σ H fun vs H1=>∃ (l:Addr) (ns:List Int) (g:Int->Int),vs = [.ref l]/\SqL K H1 l (ns.map V.int)/\LamTab P lpos qual H1 ∧
  ∀ H2,Same1 P H1 H2->LamTab P lpos qual H2->(∀ n ∈ ns,tb (some (.int n) :: frv fr σ) H2 fun y H'=>y = .int (g n)/\H' = H2)/\(ns = []->Q .non H2)/\∀ M ∈ ns,(∀ a ∈ ns,g M <= g a)->Q (.int M) H2
section
variable {X:Cx} {e body:Expr} {es:List Expr} {t:TA} {tb:TE} {fr:List Nat} {scope:Scope} {col:Str} {c P:Addr} {params:Arguments} {p pos lpos kp1 kp2 cp:Pos} {cj:Nat}
theorem a6b (hc:X.calm = true) (hr:Room 2 X.A) (hg:Gl X "min") (hm:X.mg "min" = none) (hcode:X.env.code = .ref c) (C:W.CodeHd X.base c P) (B:O1 X.mg X.base) (hlc:X1 X.env.scope scope X.N fr = true) (hk:scope.kind = .function)
    (hcell:∀ x ∈ scope.names,x.2 ≠ .cell) (hcol:scope.names.lookup col = some .local) (hco:scope.isCoroutine = false) (hgen:scope.isGenerator = false)
    (hb:∀ (pm ctv:Value) (c':Addr) (u:Value),bindArgs (W.kla_fn "<lambda>" (X.env.qual ++ "<lambda>") params body scope (clo X.env scope.names []) pm (.ref c') ctv) ⟨[u],[]⟩ = pure [(col,u)])
    (ha:PA X [e] t) (hbody:∀ (f:Addr) (cd:Value) (s:Shared) (H:Hp),PE (a4U X col fr (X.env.qual ++ "<lambda>") scope f cd X.A.in1 s H) body tb) (hdef:defaultsOf params X.env = ([],[]):=by rfl)
    (he:backTo pos (starEach [e] X.env) = (false,eval e X.env) :: backTo pos (starEach [] X.env):=by rfl) (hpl:(backTo pos (starEach [e] X.env)).any (·.1) = false:=by rfl) :
    PE X (.Call (.Name "min" p) [e] [⟨some "key",.Lambda params body scope lpos,kp1⟩,⟨some "default",.Constant .none cj cp,kp2⟩] pos) (a9s X.K P lpos (X.env.qual ++ "<lambda>") fr t tb):=by
  intro pins s σ H Q I h
  refine wpAny_Call_Name_kw (P2 I hg hm (u:=.builtin "min") rfl ?_)
  refine PyProof.Rows.callWith_kw (v8 (ha pos pins s σ H _ I h) fun us s1 ⟨vs,H1,I1,r,l,ns,g,ev,hl,T,q⟩=>?_) he hpl
  subst ev
  obtain ⟨u,rfl,ru⟩:=N4 r
  cases ru
  show wpAny _ _ (evalAll [(do let v <- eval (.Lambda params body scope lpos) X.env; standAt pos; pure v),(do let v <- eval (.Constant .none cj cp) X.env; standAt pos; pure v)]) _ _ s1
  refine wpAny_evalAll_cons (wpAny_bind (a6G I1 hcode C B T hlc hdef fun f c' ctv pm H2 s2 I2 T2 e2 Hc' _=>wpAny_bind (wpAny_standAt (wpAny_pure ?_))))
  refine wpAny_evalAll_cons (wpAny_bind (Constant_none (wpAny_bind (wpAny_standAt (wpAny_pure (wpAny_evalAll_nil ?_))))))
  obtain ⟨q1,q2,q3⟩:=q H2 e2 T2
  have hl2:=hl.same1 T e2
  have drop:∀ {po:Addr × Obj} {s'},Inv X (po :: pins) σ H2 s'->Inv X pins σ H2 s':=fun J=>J.pins_of fun p hp=>J.pin p (List.mem_append_right _ (List.mem_cons_of_mem _ hp))
  have hd':X.A.in1.depth < recursionLimit:=by
    have z:X.A.in1.depth + 3 * 1 + 5 < recursionLimit:=hr.in1.dp
    omega
  refine a9d (g:=g) hc I2 hl2 (fun n hn u s3 Q3 E3 I3 ru k3=>?_) (fun en s3 I3=>⟨.non,H2,drop I3,rfl,q2 en⟩) fun M hM hmin y s3 ry I3=>⟨.int M,H2,drop I3,ry,q3 M hM hmin⟩
  obtain ⟨cr,_,_⟩:=I3.hok c' _ Hc'
  exact a6O (k:=.int (g n)) I3 I3.ok.frames rfl hd' hk hlc hcell hcol hco hgen (I3.pin _ (List.mem_append_right _ List.mem_cons_self)).1 cr (hb pm ctv c') (hbody f (.ref c') s3 H2) ru (q1 n hn) k3
end
end L2
namespace L2
open PySem PySem.Spec PyProof.Rows
section
variable {X:Cx} {os:List Str} {fr:List Nat} {scope:Scope} {elt tg iter:Expr} {pos:Pos} {wi:TI} {g:TG} {te:TE}
theorem b0r {c:Expr} {tc:TT} {i:Nat} {x:Str} {pos' spos:Pos} (os:List Str) (fr:List Nat) (hN:X.N.Nodup) (hi':X.N[i]? = some x) (hx:X.env.scope.names.lookup x = some .local)
    (hc:X.calm = true) (hi:PI X tg iter wi) (hg:∀ C fp s₀ H₀,PG (blk X os fr scope C fp s₀ H₀) tg g) (ht:∀ C fp s₀ H₀,PT (blk X os fr scope C fp s₀ H₀) c tc) (he:∀ C fp s₀ H₀,PE (blk X os fr scope C fp s₀ H₀) elt te)
    (hsw:swapsWith (.ListComp elt [⟨tg,iter,[c],0⟩] scope pos) (some (.Name x pos')) spos.line X.env = pure true:=by rfl)
    (hk:scope.kind = .function:=by rfl) (hok:X1 X.env.scope scope X.N fr = true:=by rfl) (hs:∀ x,foldedSetIterable iter X.env x = pure x:=by intro _; rfl) :
    PS X (.Assign [.Name x pos'] (.ListComp elt [⟨tg,iter,[c],0⟩] scope pos) spos) (a6c (b2u os.length fr wi g tc te) (D7 i)):=by
  intro pins s σ H D I h
  unfold a6c at h
  rw [exec_Assign_Name_used _ _ _ _ hsw]
  refine wpAny_bind (wpAny_standAt (wpAny_bind ?_))
  show wpAny _ X.A (do let _ <- comprehension (.ListComp elt [⟨tg,iter,[c],0⟩] scope pos) scope X.env _ (newList []) false (eval iter X.env) (some (assign (.Name x pos') X.env))) _ _ s
  refine wpAny_bind (wpAny_mono (wpAny_comprehension_free (use:=some (assign (.Name x pos') X.env)) (Q:=fun _ s'=>SP X pins D .next s') rfl hs (A7 (O8 I hok)) hk (fun x hx hl=>by have:=(K2 hok x hx).1; rw [hl] at this; exact this)
    (v8 (hi pins s σ H _ I h) fun v s1 h1=>v8 h1 fun itv s2 h2=>?_)) (fun _ s' hq=>wpAny_pure (wpAny_pure hq)) fun _ _ e=>e)
  refine W6 (os:=os) (D:=fun p H'=>D.nx (σ.set i (some (.ref p))) H') (RR:=fun acc C=>compPost (model X.prog X.w) X.A X.xe (some (assign (.Name x pos') X.env)) (fun _ s'=>SP X pins D .next s') acc C) hc hg (fun _ _ _ _=>a3t (ht _ _ _ _)) he hk hok h2 ?_
  intro p C s3 H3 s' H' I3 eC hn I' ⟨m,hm⟩ q
  show wpAny _ X.A (assign (.Name x pos') X.env (.ref p)) _ _ _
  refine wpAny_assign_Name (Z5 (v:=.ref p) I' hN hi' (.inl hx) rfl (fun s'' I'' ⟨a,hsa,ha⟩=>?_) (.inr hx))
  have hCa:C ≠ a:=by
    rcases ha with e | e
    . rw [e]; exact Nat.ne_of_gt (by rw [<- eC]; exact I3.lt)
    . obtain ⟨v,z⟩:=I3.cell x a e
      exact Nat.ne_of_gt (by rw [<- eC]; exact z.lt)
  exact ⟨m,hm.sameBut hsa hCa,fun h' hs'=>⟨_,H',I3.letgo I'' hn (by omega) hs',q⟩⟩
theorem a0C (K:W.Frag) {e:Expr} {f:Str} {ta:TE} (h:X.K = K) (he:PE X e ta) (hb:attributeBase e f X.env (eval e X.env) = eval e X.env):PE X (.Attribute e f pos) (b1y K ta f):=by subst h; exact j4 he hb
end
section
variable {fr:List Nat} {tc:TT} {σ:St} {J:It} {H1:Hp} {p:Addr} {D:Hp->Prop} {xs:List V}
theorem a8L (hJ:a6j J H1 xs) (hp:H1 p = none) (hz:xs.length < sizeLine) (F:V->Bool)
    (step:∀ (i:Nat) x H (N:Bool->Hp->Prop),xs[i]? = some x->Same H1 H->N (F x) H->tc ((blkσ 1 fr σ).set 0 (some x)) H N)
    (hd:D (m5 H1 p (.lst (xs.filter F)))):lcI 1 fr (D7 0) tc (a3B 0) σ J H1 p D:=by
  refine ⟨fun i m ys H=>m = xs.length - i/\i <= xs.length/\ys = (xs.take i).filter F/\H = m5 H1 p (.lst ys),⟨xs.length,by simp,Nat.zero_le _,by simp,rfl⟩,?_⟩
  rintro i m ys H ⟨rfl,hi,rfl,rfl⟩
  have e:=Same.new (o:=.lst ((xs.take i).filter F)) hp
  by_cases hlt:i < xs.length
  . refine .inr ⟨hJ.go i _ e hlt,fun x H' y=>?_⟩
    obtain ⟨rfl,hx⟩:=hJ.yld i _ x H' e hlt y
    have tk:(xs.take (i + 1)).filter F = (xs.take i).filter F ++ [x].filter F:=by rw [List.take_succ,hx,List.filter_append]; rfl
    refine ⟨Wk.set (by decide),step i x _ _ hx e ?_⟩
    cases hq:F x with
    | false =>
      rw [if_neg Bool.false_ne_true]
      refine ⟨xs.length - (i + 1),by omega,rfl,hlt,?_,rfl⟩
      rw [tk]; simp [hq]
    | true =>
      rw [if_pos rfl]
      refine ⟨x,?_,upd_same,?_,xs.length - (i + 1),by omega,rfl,hlt,?_,L6⟩
      . show ((blkσ 1 fr σ).set 0 (some x))[0]? = some (some x)
        rw [List.getElem?_set_self (by simp [blkσ])]
      . have h1:=List.length_filter_le F (xs.take i)
        rw [List.length_take] at h1
        omega
      . rw [tk]; simp [hq]
  . have:i = xs.length:=by omega
    subst this
    refine .inl ⟨hJ.stop _ e,?_⟩
    rw [List.take_of_length_le (Nat.le_refl _)]; exact hd
end
section
variable {P:Program} {w:World} {K:W.Frag} {mg:Str->Option Value} {base:Heap}
theorem Fun.okC {x qual:Str} {st:Stmt} {f c:Addr} {fd:FuncData} {N ps:List Str} {k:Nat} {sp:Sp} (F:Fun K x qual st f fd) (hc:fd.code = .ref c) (S:j3 N ps (h8 st)) (len:∀ vs H Q E,sp vs H Q E->vs.length = ps.length)
    (hbody:∀ (A:Around) (outer:List Env) (s:Shared) (H:Hp) (vs:List V) (Q:VK) (E:XK),Room k (A.deeper (envOfC qual (h8 st) s.heap.objs.size f (.ref c)))->sp vs H Q E →
      ∃ t,PSs (J1 D6 P w K mg base N qual (h8 st) f (.ref c) A outer s H E).nox (p9 st) t/\t { nx:=fun _ H'=>Q .non H',rt:=Q } (Q7 N vs) H):FnOk P w K mg base D6 (k + 1) f fd ps sp:=by
  obtain ⟨oc,od,kV,doc,pm,an,cdv,ct,osl,rfl,lk,hcd⟩:=F.ex
  have e:cdv = .ref c:=hc
  subst e
  refine a7b lk hcd S len fun A outer s H vs Q E hr hsp=>?_
  obtain ⟨t,h,q⟩:=hbody A outer s H vs Q E hr hsp
  exact ⟨t,h.nox,q⟩
end
end L2
namespace L2
open PySem
section
variable {xs ys:List V} {K:W.Frag} {l1 l2:Addr} {fr:List Nat} {te:TE} {σ:St} {H1:Hp} {p:Addr} {D:Hp->Prop}
end
end L2
namespace L2
open PySem
theorem R7 {G0:St->Hp->Prop} {σ:St} {H:Hp} (h:∀ G:St->Hp->Prop,G = G0->G σ H):G0 σ H:=h G0 rfl
section
variable {X:Cx} {st:Stmt} {rest:List Stmt} {t u:TS}
def b3E (t u:TS):TS:=fun D σ H=>∃ M:St->Hp->Prop,t { D with nx:=M } σ H/\∀ σ' H',M σ' H'->u D σ' H'
theorem o7 (h1:PS X st t) (h2:PSs X rest u):PSs X (st :: rest) (b3E t u):=by
  intro pins s σ H D I ⟨M,h,hM⟩
  refine wpAny_execs_cons (v8 (h1 pins s σ H { D with nx:=M } I h) fun f s1 q=>?_)
  cases f with
  | next =>
    obtain ⟨σ',H',I',q⟩:=q
    exact h2 pins s1 σ' H' D I' (hM _ _ q)
  | ret v=>exact q
  | brk=>exact q
  | cont=>exact q
end
end L2
namespace Rim
open PySem L2
theorem a2n (xs:List V) (k:Nat) (h:k <= xs.length):C5 xs none (some (k:Int)) = xs.take k:=by
  unfold C5
  rw [HT.sIx_none,HT.sIx_nat,List.drop_zero]
  congr 1
  omega
theorem a0T (xs:List V) (k:Nat) (h:k <= xs.length):C5 xs (some (k:Int)) none = xs.drop k:=by
  unfold C5
  rw [HT.sIx_none,HT.sIx_nat,Nat.min_eq_left h]
  exact List.take_of_length_le (by rw [List.length_drop]; exact Nat.le_refl _)
end Rim
namespace L2
open PySem PySem.Spec PyProof.Rows
section
variable {X:Cx}
theorem a6i:G4 X (.type "range") (fun vs H Q=>∃ j:Int,vs = [.int j]/\∀ p,H p = none->Q (.ref p) (m5 H p (.rng 0 j))):=by
  intro pins s σ H vs us Q I r h
  obtain ⟨j,rfl,q⟩:=h
  obtain ⟨u,rfl,t,rfl⟩:=N4 r
  refine call_range_1 ⟨.ref s.heap.objs.size,_,I.laid (o:=.rng 0 j) (fun b u e=>Heap.get?_push_of_some _ e) (Nat.le_refl _) ⟨_,_,_,Heap.get?_push_size _ rfl⟩,rfl,q _ (I.hok.fresh (Nat.le_refl _))⟩
theorem a6o:G4 X (.type "range") (fun vs H Q=>∃ i j:Int,vs = [.int i,.int j]/\∀ p,H p = none->Q (.ref p) (m5 H p (.rng i j))):=by
  intro pins s σ H vs us Q I r h
  obtain ⟨i,j,rfl,q⟩:=h
  obtain ⟨u,v,rfl,⟨t,rfl⟩,t',rfl⟩:=a3G r
  refine call_range_2 ⟨.ref s.heap.objs.size,_,I.laid (o:=.rng i j) (fun b u e=>Heap.get?_push_of_some _ e) (Nat.le_refl _) ⟨_,_,_,Heap.get?_push_size _ rfl⟩,rfl,q _ (I.hok.fresh (Nat.le_refl _))⟩
theorem a1v:∀ (n:Nat) (acc:List Value) (F:Nat->Int),acc.length = n->(∀ j v,acc[j]? = some v->∃ t,v = Value.int (F j) t)->Vals ((List.range n).map fun i=>V.int (F i)) acc
  | 0,[],_,_,_=>.nil
  | n + 1,a :: acc,F,hl,h=>by
    rw [List.range_succ_eq_map,List.map_cons,List.map_map]
    refine .cons (h 0 a rfl) ?_
    exact a1v n acc (fun i=>F (i + 1)) (by simpa using hl) fun j v e=>h (j + 1) v (by simpa using e)
theorem T8 (hc:X.calm = true):G4 X (.type "list") (fun vs H Q=>∃ (p:Addr) (lo:Int) (n:Nat),vs = [.ref p]/\H p = some (.rng lo (lo + n))/\-(2 ^ 60) <= lo/\lo < 2 ^ 60/\n <= 1000/\∀ l,H l = none->Q (.ref l) (m5 H l (.lst ((List.range n).map fun (i:Nat)=>V.int (lo + (i:Int)))))):=by
  intro pins s σ H vs us Q I r h
  obtain ⟨p,lo,n,rfl,hp,h1,h2,hn,q⟩:=h
  obtain ⟨u,rfl,ru⟩:=N4 r
  cases ru
  obtain ⟨t,u,v,e⟩:=I.hok p _ hp
  have hsz:Builtin.Range.rangeSize lo (lo + n) 1 = n:=by rw [rangeSize_one]; split <;> omega
  refine call_list_range (I.ok.hd hc) e (small_one (by omega) (by omega) (by omega) (by omega)) hsz (by omega) fun h' tk acc' c' hk hS hacc=>?_
  have hv:Vals ((List.range n).map fun (i:Nat)=>V.int (lo + (i:Int))) acc'.toList:=a1v n acc'.toList (fun i=>lo + (i:Int)) (by simpa using hacc.1) fun j v e=>by
    obtain ⟨t,et⟩:=hacc.2 j v (by simpa using e)
    exact ⟨t,by rw [et,Int.mul_one]⟩
  have h9:n <= sizeLine:=Nat.le_trans hn (by decide)
  refine ⟨.ref s.heap.objs.size,_,I.laid (o:=.lst ((List.range n).map fun (i:Nat)=>V.int (lo + (i:Int)))) (t':=tk) hk (Nat.le_refl _) ⟨by simpa using h9,acc'.toList,c',hv,by simpa using hS⟩,rfl,q _ (I.hok.fresh (Nat.le_refl _))⟩
end
end L2
namespace Lp
abbrev x0:=Nat->Int
def tl (v:x0):x0:=fun i=>v (i + 1)
def P6 (a:Int) (u:x0) (b:Int) (v:x0):x0:=fun i=>a * u i + b * v i
def G3 (D:List x0->Int):List x0->List x0->Int
  | _,[]=>0
  | pre,c :: rest=>c 0 * D ((pre ++ rest).map tl) - G3 D (pre ++ [c]) rest
def v9:Nat->List x0->Int
  | 0,_=>1
  | n + 1,cols=>G3 (v9 n) [] cols
def Lin (n:Nat) (D:List x0->Int):Prop:=∀ (a:Int) (u:x0) (b:Int) (v:x0) (xs ys:List x0),xs.length + ys.length + 1 = n->D (xs ++ P6 a u b v :: ys) = a * D (xs ++ u :: ys) + b * D (xs ++ v :: ys)
theorem a5p (a:Int) (u:x0) (b:Int) (v:x0):tl (P6 a u b v) = P6 a (tl u) b (tl v):=rfl
theorem b2g (a b x y p q:Int) (c:Int):c * (a * x + b * y) - (a * p + b * q) = a * (c * x - p) + b * (c * y - q):=by
  rw [Int.mul_add,Int.mul_sub,Int.mul_sub]
  have e1:c * (a * x) = a * (c * x):=by rw [<- Int.mul_assoc,Int.mul_comm c a,Int.mul_assoc]
  have e2:c * (b * y) = b * (c * y):=by rw [<- Int.mul_assoc,Int.mul_comm c b,Int.mul_assoc]
  rw [e1,e2]
  lia
theorem a5e {n:Nat} {D:List x0->Int} (h:Lin n D) (a:Int) (u:x0) (b:Int) (v:x0):∀ (rest p1 p2:List x0),p1.length + p2.length + rest.length = n →
    G3 D (p1 ++ P6 a u b v :: p2) rest = a * G3 D (p1 ++ u :: p2) rest + b * G3 D (p1 ++ v :: p2) rest
  | [],p1,p2,_=>by simp [G3]
  | c :: rest,p1,p2,hl=>by
    have hl':p1.length + p2.length + (rest.length + 1) = n:=hl
    have ih:=a5e h a u b v rest p1 (p2 ++ [c]) (by rw [List.length_append,List.length_singleton]; lia)
    have h0:=h a (tl u) b (tl v) (p1.map tl) ((p2 ++ rest).map tl) (by rw [List.length_map,List.length_map,List.length_append]; lia)
    unfold G3
    simp only [List.append_assoc,List.cons_append,List.map_append,List.map_cons,a5p] at h0 ih ⊢
    rw [h0,ih]
    exact b2g ..
theorem b2V (a b x y p q D:Int):(a * x + b * y) * D - (a * p + b * q) = a * (x * D - p) + b * (y * D - q):=by
  rw [Int.add_mul,Int.mul_sub,Int.mul_sub,Int.mul_assoc,Int.mul_assoc]
  lia
theorem a3g {n:Nat} {D:List x0->Int} (h:Lin n D) (a:Int) (u:x0) (b:Int) (v:x0):∀ (r1 pre r2:List x0),pre.length + r1.length + r2.length = n →
    G3 D pre (r1 ++ P6 a u b v :: r2) = a * G3 D pre (r1 ++ u :: r2) + b * G3 D pre (r1 ++ v :: r2)
  | [],pre,r2,hl=>by
    have hp:=a5e h a u b v r2 pre [] (by simp only [List.length_nil] at hl ⊢; lia)
    simp only [List.nil_append]
    unfold G3
    rw [hp]
    exact b2V ..
  | c :: r1,pre,r2,hl=>by
    have hl':pre.length + (r1.length + 1) + r2.length = n:=hl
    have ih:=a3g h a u b v r1 (pre ++ [c]) r2 (by rw [List.length_append,List.length_singleton]; lia)
    have h0:=h a (tl u) b (tl v) ((pre ++ r1).map tl) (r2.map tl) (by rw [List.length_map,List.length_map,List.length_append]; lia)
    simp only [List.cons_append]
    unfold G3
    simp only [List.append_assoc,List.cons_append,List.map_append,List.map_cons,a5p] at h0 ih ⊢
    rw [h0,ih]
    exact b2g ..
theorem a2D:∀ n,Lin n (v9 n)
  | 0=>fun a u b v xs ys h=>by lia
  | n + 1=>fun a u b v xs ys h=>a3g (a2D n) a u b v xs [] ys (by simp only [List.length_nil]; lia)
def Adj (n:Nat) (D:List x0->Int):Prop:=∀ (u:x0) (xs ys:List x0),xs.length + ys.length + 2 = n->D (xs ++ u :: u :: ys) = 0
theorem a5J {n:Nat} {D:List x0->Int} (h:Adj n D) (u:x0):∀ (rest p1 p2:List x0),p1.length + p2.length + rest.length + 1 = n->G3 D (p1 ++ u :: u :: p2) rest = 0
  | [],_,_,_=>rfl
  | c :: rest,p1,p2,hl=>by
    have hl':p1.length + p2.length + (rest.length + 1) + 1 = n:=hl
    have ih:=a5J h u rest p1 (p2 ++ [c]) (by rw [List.length_append,List.length_singleton]; lia)
    have h0:=h (tl u) (p1.map tl) ((p2 ++ rest).map tl) (by rw [List.length_map,List.length_map,List.length_append]; lia)
    unfold G3
    simp only [List.append_assoc,List.cons_append,List.map_append,List.map_cons] at h0 ih ⊢
    rw [h0,ih]
    lia
theorem a3v {n:Nat} {D:List x0->Int} (h:Adj n D) (u:x0):∀ (r1 pre r2:List x0),pre.length + r1.length + r2.length + 1 = n->G3 D pre (r1 ++ u :: u :: r2) = 0
  | [],pre,r2,hl=>by
    have hp:=a5J h u r2 pre [] (by simp only [List.length_nil] at hl ⊢; lia)
    simp only [List.nil_append]
    unfold G3
    unfold G3
    simp only [List.append_assoc,List.cons_append,List.nil_append] at hp ⊢
    rw [hp]
    lia
  | c :: r1,pre,r2,hl=>by
    have hl':pre.length + (r1.length + 1) + r2.length + 1 = n:=hl
    have ih:=a3v h u r1 (pre ++ [c]) r2 (by rw [List.length_append,List.length_singleton]; lia)
    have h0:=h (tl u) ((pre ++ r1).map tl) (r2.map tl) (by rw [List.length_map,List.length_map,List.length_append]; lia)
    simp only [List.cons_append]
    unfold G3
    simp only [List.append_assoc,List.cons_append,List.map_append,List.map_cons] at h0 ih ⊢
    rw [h0,ih]
    lia
theorem a2F:∀ n,Adj n (v9 n)
  | 0=>fun u xs ys h=>by lia
  | n + 1=>fun u xs ys h=>a3v (a2F n) u xs [] ys (by simp only [List.length_nil]; lia)
def M1 (k:Nat):x0:=fun i=>if i = k then 1 else 0
theorem a7c {D:List x0->Int}:∀ (rest pre:List x0),(∀ c ∈ rest,c 0 = 0)->G3 D pre rest = 0
  | [],_,_=>rfl
  | c :: rest,pre,h=>by
    unfold G3
    rw [h c List.mem_cons_self,a7c rest (pre ++ [c]) fun x hx=>h x (List.mem_cons_of_mem _ hx)]
    lia
theorem Y1:∀ n,v9 n ((List.range n).map M1) = 1
  | 0=>rfl
  | n + 1=>by
    show G3 (v9 n) [] ((List.range (n + 1)).map M1) = 1
    rw [List.range_succ_eq_map,List.map_cons,List.map_map]
    unfold G3
    rw [a7c _ _ (fun c hc=>by
      obtain ⟨k,_,rfl⟩:=List.mem_map.mp hc
      rfl)]
    have e:([] ++ (List.range n).map (M1 ∘ Nat.succ)).map tl = (List.range n).map M1:=by
      rw [List.nil_append,List.map_map]
      refine List.map_congr_left fun k _=>?_
      funext i
      show (if i + 1 = k + 1 then (1:Int) else 0) = if i = k then 1 else 0
      by_cases c:i = k
      . rw [if_pos (by lia),if_pos c]
      . rw [if_neg (by lia),if_neg c]
    rw [e,Y1 n]
    rfl
def bnd (M:Nat):Nat->Nat
  | 0=>1
  | n + 1=>(n + 1) * (M * bnd M n)
def Fits (M n:Nat) (v:x0):Prop:=∀ i,i < n->(v i).natAbs <= M
theorem a5a {D:List x0->Int} {M n B:Nat} (hD:∀ cols,cols.length = n->(∀ c ∈ cols,Fits M n c)->(D cols).natAbs <= B):∀ (rest pre:List x0),pre.length + rest.length = n + 1->(∀ c ∈ pre,Fits M (n + 1) c)->(∀ c ∈ rest,Fits M (n + 1) c)->(G3 D pre rest).natAbs <= rest.length * (M * B)
  | [],_,_,_,_=>by simp [G3]
  | c :: rest,pre,hl,hp,hr=>by
    have hl':pre.length + (rest.length + 1) = n + 1:=hl
    have h1:=a5a hD rest (pre ++ [c]) (by rw [List.length_append,List.length_singleton]; lia) (fun x hx=>(List.mem_append.mp hx).elim (hp x) fun z=>by rw [List.mem_singleton.mp z]; exact hr c List.mem_cons_self) fun x hx=>hr x (List.mem_cons_of_mem _ hx)
    have h2:=hD ((pre ++ rest).map tl) (by rw [List.length_map,List.length_append]; lia) fun x hx=>by
      obtain ⟨y,hy,rfl⟩:=List.mem_map.mp hx
      intro i hi
      rcases List.mem_append.mp hy with z | z
      . exact hp y z (i + 1) (by lia)
      . exact hr y (List.mem_cons_of_mem _ z) (i + 1) (by lia)
    have h3:=hr c List.mem_cons_self 0 (by lia)
    unfold G3
    rw [List.length_cons,Nat.succ_mul]
    have h4:(c 0 * D ((pre ++ rest).map tl)).natAbs <= M * B:=by rw [Int.natAbs_mul]; exact Nat.mul_le_mul h3 h2
    have h5:=Int.natAbs_sub_le (c 0 * D ((pre ++ rest).map tl)) (G3 D (pre ++ [c]) rest)
    lia
theorem a2W {M:Nat}:∀ (n:Nat) (cols:List x0),cols.length = n->(∀ c ∈ cols,Fits M n c)->(v9 n cols).natAbs <= bnd M n
  | 0,_,_,_=>Nat.le_refl 1
  | n + 1,cols,hl,hf=>by
    have:=a5a (a2W (M:=M) n) cols [] (by simpa using hl) (fun c hc=>by cases hc) hf
    rw [hl] at this
    exact this
end Lp
namespace Lp
theorem a3i {α:Type} {C:List α} {i:Nat} {u:α} (h:C[i]? = some u):C = C.take i ++ u :: C.drop (i + 1):=by
  obtain ⟨hi,rfl⟩:=List.getElem?_eq_some_iff.mp h
  rw [<- List.drop_eq_getElem_cons hi,List.take_append_drop]
theorem a7k (n:Nat) (u v:x0) (xs ys:List x0) (hl:xs.length + ys.length + 2 = n):v9 n (xs ++ u :: v :: ys) = - v9 n (xs ++ v :: u :: ys):=by
  have L:=a2D n
  have A:=a2F n
  have h0:=A (P6 1 u 1 v) xs ys hl
  have h1:=L 1 u 1 v xs (P6 1 u 1 v :: ys) (by simp only [List.length_cons]; lia)
  have h2:=L 1 u 1 v (xs ++ [u]) ys (by simp only [List.length_append,List.length_singleton]; lia)
  have h3:=L 1 u 1 v (xs ++ [v]) ys (by simp only [List.length_append,List.length_singleton]; lia)
  have h4:=A u xs ys hl
  have h5:=A v xs ys hl
  simp only [List.append_assoc,List.cons_append,List.nil_append] at h2 h3
  lia
theorem a5x (n:Nat) (u:x0):∀ (zs xs ys:List x0),xs.length + zs.length + ys.length + 2 = n->v9 n (xs ++ u :: (zs ++ u :: ys)) = 0
  | [],xs,ys,hl=>a2F n u xs ys (by simp only [List.length_nil] at hl; lia)
  | z :: zs,xs,ys,hl=>by
    have hl':xs.length + (zs.length + 1) + ys.length + 2 = n:=hl
    rw [List.cons_append,a7k n u z xs (zs ++ u :: ys) (by simp only [List.length_append,List.length_cons]; lia)]
    have:=a5x n u zs (xs ++ [z]) ys (by rw [List.length_append,List.length_singleton]; lia)
    simp only [List.append_assoc,List.cons_append,List.nil_append] at this
    lia
theorem a5m {n:Nat} {C:List x0} {i k:Nat} {u:x0} (hl:C.length = n) (hik:i < k) (h1:C[i]? = some u) (h2:C[k]? = some u):v9 n C = 0:=by
  have e1:=a3i h1
  have hk:k < C.length:=(List.getElem?_eq_some_iff.mp h2).1
  have h3:(C.drop (i + 1))[k - (i + 1)]? = some u:=by rw [List.getElem?_drop,show i + 1 + (k - (i + 1)) = k by lia]; exact h2
  have e2:=a3i h3
  rw [e1,e2]
  refine a5x n u _ _ _ ?_
  simp only [List.length_take,List.length_drop]
  lia
theorem R6 {n:Nat} {C:List x0} {i k:Nat} {u:x0} (hl:C.length = n) (hik:i ≠ k) (h1:C[i]? = some u) (h2:C[k]? = some u):v9 n C = 0:=by
  rcases Nat.lt_or_gt_of_ne hik with h | h
  . exact a5m hl h h1 h2
  . exact a5m hl h h2 h1
theorem a0h {α:Type} {C:List α} {k:Nat} (h:k < C.length) (u:α):C.set k u = C.take k ++ u :: C.drop (k + 1):=by
  rw [List.set_eq_take_append_cons_drop,if_pos h]
theorem O3 {n:Nat} {C:List x0} {k:Nat} (hl:C.length = n) (hk:k < n) (a:Int) (u:x0) (b:Int) (v:x0):v9 n (C.set k (P6 a u b v)) = a * v9 n (C.set k u) + b * v9 n (C.set k v):=by
  have hk':k < C.length:=by lia
  rw [a0h hk',a0h hk',a0h hk']
  refine a2D n a u b v _ _ ?_
  simp only [List.length_take,List.length_drop]
  lia
theorem a2K {n:Nat} {C:List x0} {i k:Nat} (hl:C.length = n) (hi:i < n) (hk:k < n) (hik:i ≠ k) (u:x0):v9 n ((C.set i u).set k u) = 0:=by
  refine R6 (i:=i) (k:=k) (u:=u) (by rw [List.length_set,List.length_set]; exact hl) hik ?_ ?_
  . rw [List.getElem?_set_ne (Ne.symm hik),List.getElem?_set_self (by lia)]
  . rw [List.getElem?_set_self (by rw [List.length_set]; lia)]
theorem a3x {n:Nat} {C:List x0} {i k:Nat} (hl:C.length = n) (hi:i < n) (hk:k < n) (hik:i ≠ k) (u v:x0):v9 n ((C.set i u).set k v) = - v9 n ((C.set i v).set k u):=by
  have h0:=a2K hl hi hk hik (P6 1 u 1 v)
  have h1:=O3 (C:=C.set i (P6 1 u 1 v)) (by rw [List.length_set]; exact hl) hk 1 u 1 v
  have h2:=O3 (C:=C.set k u) (by rw [List.length_set]; exact hl) hi 1 u 1 v
  have h3:=O3 (C:=C.set k v) (by rw [List.length_set]; exact hl) hi 1 u 1 v
  have h4:=a2K hl hi hk hik u
  have h5:=a2K hl hi hk hik v
  rw [List.set_comm _ _ (Ne.symm hik),List.set_comm _ _ (Ne.symm hik),List.set_comm _ _ (Ne.symm hik)] at h2 h3
  lia
def sumTo (g:Nat->Int):Nat->Int
  | 0=>0
  | n + 1=>sumTo g n + g n
theorem sum_congr {g h:Nat->Int}:∀ {n:Nat},(∀ k,k < n->g k = h k)->sumTo g n = sumTo h n
  | 0,_=>rfl
  | n + 1,e=>by
    show sumTo g n + g n = sumTo h n + h n
    rw [sum_congr fun k hk=>e k (by lia),e n (by lia)]
theorem sum_zero {g:Nat->Int} {n:Nat} (h:∀ k,k < n->g k = 0):sumTo g n = 0:=by
  induction n with
  | zero=>rfl
  | succ n ih =>
    show sumTo g n + g n = 0
    rw [ih fun k hk=>h k (by lia),h n (by lia)]
    rfl
theorem sum_one {g:Nat->Int} {n r:Nat} (hr:r < n) (h:∀ k,k < n->k ≠ r->g k = 0):sumTo g n = g r:=by
  induction n with
  | zero=>lia
  | succ n ih =>
    show sumTo g n + g n = g r
    by_cases c:r = n
    . subst c
      rw [sum_zero fun k hk=>h k (by lia) (by lia)]
      lia
    . rw [ih (by lia) fun k hk hn=>h k (by lia) hn,h n (by lia) (by lia)]
      lia
theorem L9 {g h:Nat->Int}:∀ n:Nat,sumTo (fun k=>g k + h k) n = sumTo g n + sumTo h n
  | 0=>rfl
  | n + 1=>by
    show sumTo (fun k=>g k + h k) n + (g n + h n) = sumTo g n + g n + (sumTo h n + h n)
    rw [L9 n]
    lia
theorem u9 {g:Nat->Int} (a:Int):∀ n:Nat,sumTo (fun k=>a * g k) n = a * sumTo g n
  | 0=>(Int.mul_zero a).symm
  | n + 1=>by
    show sumTo (fun k=>a * g k) n + a * g n = a * (sumTo g n + g n)
    rw [u9 a n,Int.mul_add]
theorem a8X {g:Nat->Int} {n r i:Nat} (hr:r < n) (hi:i < n) (hne:r ≠ i) (h:∀ k,k < n->k ≠ r->k ≠ i->g k = 0):sumTo g n = g r + g i:=by
  have e:sumTo g n = sumTo (fun k=>(if k = r then g k else 0) + (if k = i then g k else 0)) n:=sum_congr fun k hk=>by
    by_cases c1:k = r
    . rw [if_pos c1,if_neg (by lia)]; lia
    . by_cases c2:k = i
      . rw [if_neg c1,if_pos c2]; lia
      . rw [if_neg c1,if_neg c2,h k hk c1 c2]; lia
  rw [e,L9,sum_one hr fun k _ hn=>if_neg hn,sum_one hi fun k _ hn=>if_neg hn,if_pos rfl,if_pos rfl]
theorem a0H {n:Nat} {C:List x0} {k:Nat} (hl:C.length = n) (hk:k < n) (t:Nat->Int) (W:Nat->x0):∀ m:Nat,v9 n (C.set k (fun x=>sumTo (fun j=>t j * W j x) m)) = sumTo (fun j=>t j * v9 n (C.set k (W j))) m
  | 0=>by
    have h:=O3 hl hk 0 (fun _=>0) 0 (fun _=>0)
    have e:P6 0 (fun _=>0) 0 (fun _=>0) = (fun x:Nat=>sumTo (fun j=>t j * W j x) 0):=by funext x; simp [P6,sumTo]
    rw [e] at h
    rw [h]
    simp [sumTo]
  | m + 1=>by
    have h:=O3 hl hk 1 (fun x=>sumTo (fun j=>t j * W j x) m) (t m) (W m)
    have e:P6 1 (fun x=>sumTo (fun j=>t j * W j x) m) (t m) (W m) = (fun x:Nat=>sumTo (fun j=>t j * W j x) (m + 1)):=by funext x; simp [P6,sumTo]
    rw [e,a0H hl hk t W m] at h
    rw [h]
    show 1 * sumTo _ m + _ = sumTo _ m + _
    rw [Int.one_mul]
def zv:x0:=fun _=>0
def a3I (n:Nat) (B:List x0) (u:x0):Prop:=∀ x,v9 n B * u x = sumTo (fun k=>v9 n (B.set k u) * (B.getD k zv) x) n
theorem a2q {B:List x0} {k:Nat} (h:k < B.length):B[k]? = some (B.getD k zv):=by rw [List.getD_eq_getElem?_getD,List.getElem?_eq_getElem h]; rfl
theorem K1 {B:List x0} {k:Nat} (h:k < B.length):B.set k (B.getD k zv) = B:=by
  have e:B.getD k zv = B[k]:=by rw [List.getD_eq_getElem?_getD,List.getElem?_eq_getElem h]; rfl
  rw [e,List.set_getElem_self]
theorem plu {n:Nat} {B:List x0} {r i:Nat} (hl:B.length = n) (hr:r < n) (hi:i < n) (hne:i ≠ r) {u:x0} (v:x0) (hc:a3I n B u) :
    v9 n B * v9 n ((B.set r u).set i v) = v9 n (B.set r u) * v9 n (B.set i v) - v9 n (B.set i u) * v9 n (B.set r v):=by
  have hl':(B.set i v).length = n:=by rw [List.length_set]; exact hl
  have e1:v9 n ((B.set i v).set r (P6 (v9 n B) u 0 u)) = v9 n B * v9 n ((B.set i v).set r u):=by
    rw [O3 hl' hr]; lia
  have e2:P6 (v9 n B) u 0 u = (fun x:Nat=>sumTo (fun k=>v9 n (B.set k u) * (B.getD k zv) x) n):=by
    funext x
    rw [<- hc x]
    unfold P6
    lia
  rw [e2,a0H hl' hr (fun k=>v9 n (B.set k u)) (fun k=>B.getD k zv) n] at e1
  rw [List.set_comm _ _ (Ne.symm hne),<- e1]
  rw [a8X hr hi (Ne.symm hne) fun k hk n1 n2=>?_]
  . have a1:(B.set i v).set r (B.getD r zv) = B.set i v:=by rw [List.set_comm _ _ hne,K1 (by lia)]
    have a2:v9 n ((B.set i v).set r (B.getD i zv)) = - v9 n (B.set r v):=by
      rw [a3x hl hi hr hne,K1 (by lia)]
    show v9 n (B.set r u) * v9 n ((B.set i v).set r (B.getD r zv)) + v9 n (B.set i u) * v9 n ((B.set i v).set r (B.getD i zv)) = _
    rw [a1,a2,Int.mul_neg]
    lia
  . have:v9 n ((B.set i v).set r (B.getD k zv)) = 0:=by
      refine R6 (i:=k) (k:=r) (u:=B.getD k zv) (by rw [List.length_set,List.length_set]; exact hl) n1 ?_ ?_
      . rw [List.getElem?_set_ne (Ne.symm n1),List.getElem?_set_ne (Ne.symm n2)]; exact a2q (by lia)
      . rw [List.getElem?_set_self (by rw [List.length_set]; lia)]
    show v9 n (B.set k u) * v9 n ((B.set i v).set r (B.getD k zv)) = 0
    rw [this,Int.mul_zero]
theorem b0R {d a b:Int} (hd:d ≠ 0) (h:d * a = d * b):a = b:=Int.eq_of_mul_eq_mul_left hd h
theorem a1Q {n:Nat} {B:List x0} {r:Nat} (hl:B.length = n) (hr:r < n) {u v:x0} (hd:v9 n B ≠ 0) (hu:a3I n B u) (hv:a3I n B v):a3I n (B.set r u) v:=by
  intro x
  refine b0R hd ?_
  have e:∀ k,k < n->v9 n B * (v9 n ((B.set r u).set k v) * ((B.set r u).getD k zv) x) =
      v9 n (B.set r u) * (v9 n (B.set k v) * (B.getD k zv) x) + (if k = r then v9 n B * (v9 n (B.set r v) * u x) else 0) - v9 n (B.set r v) * (v9 n (B.set k u) * (B.getD k zv) x):=fun k hk=>by
    by_cases c:k = r
    . subst c
      rw [if_pos rfl,List.set_set]
      have g:(B.set k u).getD k zv = u:=by rw [List.getD_eq_getElem?_getD,List.getElem?_set_self (by lia)]; rfl
      rw [g]
      have:v9 n (B.set k u) * (v9 n (B.set k v) * B.getD k zv x) = v9 n (B.set k v) * (v9 n (B.set k u) * B.getD k zv x):=by rw [<- Int.mul_assoc,<- Int.mul_assoc,Int.mul_comm (v9 n (B.set k u))]
      lia
    . rw [if_neg c]
      have g:(B.set r u).getD k zv = B.getD k zv:=by rw [List.getD_eq_getElem?_getD,List.getElem?_set_ne (Ne.symm c),<- List.getD_eq_getElem?_getD]
      rw [g,<- Int.mul_assoc,plu hl hr hk c v hu,Int.sub_mul,Int.mul_assoc,Int.mul_assoc]
      have:v9 n (B.set k u) * (v9 n (B.set r v) * B.getD k zv x) = v9 n (B.set r v) * (v9 n (B.set k u) * B.getD k zv x):=by rw [<- Int.mul_assoc,<- Int.mul_assoc,Int.mul_comm (v9 n (B.set k u))]
      lia
  have s1:v9 n B * sumTo (fun k=>v9 n ((B.set r u).set k v) * ((B.set r u).getD k zv) x) n =
      sumTo (fun k=>v9 n (B.set r u) * (v9 n (B.set k v) * (B.getD k zv) x) + (if k = r then v9 n B * (v9 n (B.set r v) * u x) else 0) + (- v9 n (B.set r v)) * (v9 n (B.set k u) * (B.getD k zv) x)) n:=by
    rw [<- u9]
    refine sum_congr fun k hk=>?_
    rw [e k hk,Int.neg_mul]
    lia
  rw [s1,L9,L9,u9,u9,<- hv x,<- hu x,sum_one hr fun k _ hn=>if_neg hn,if_pos rfl,Int.neg_mul]
  have a1:v9 n B * (v9 n (B.set r u) * v x) = v9 n (B.set r u) * (v9 n B * v x):=by rw [<- Int.mul_assoc,<- Int.mul_assoc,Int.mul_comm (v9 n B)]
  have a2:v9 n B * (v9 n (B.set r v) * u x) = v9 n (B.set r v) * (v9 n B * u x):=by rw [<- Int.mul_assoc,<- Int.mul_assoc,Int.mul_comm (v9 n B)]
  lia
theorem a5N {n:Nat} {B:List x0} {r:Nat} (hl:B.length = n) (hr:r < n):a3I n B (B.getD r zv):=by
  intro x
  rw [sum_one hr fun k hk hn=>?_]
  . rw [K1 (by lia)]
  . have:v9 n (B.set k (B.getD r zv)) = 0:=by
      refine R6 (i:=r) (k:=k) (u:=B.getD r zv) (by rw [List.length_set]; exact hl) (Ne.symm hn) ?_ ?_
      . rw [List.getElem?_set_ne hn]; exact a2q (by lia)
      . rw [List.getElem?_set_self (by lia)]
    rw [this,Int.zero_mul]
theorem b2G {n:Nat} {B:List x0} (hl:B.length = n) (hd:v9 n B ≠ 0) {t:Nat->Int} (h:∀ x,sumTo (fun k=>t k * (B.getD k zv) x) n = 0) {i:Nat} (hi:i < n):t i = 0:=by
  have h1:=a0H (C:=B) hl hi t (fun k=>B.getD k zv) n
  have e:(fun x:Nat=>sumTo (fun k=>t k * (B.getD k zv) x) n) = zv:=by funext x; rw [h x]; rfl
  rw [e] at h1
  have h0:v9 n (B.set i zv) = 0:=by
    have:=O3 hl hi 0 zv 0 zv
    have e:P6 0 zv 0 zv = zv:=by funext x; simp [P6,zv]
    rw [e] at this
    lia
  rw [h0,sum_one hi fun k hk hn=>?_,K1 (by lia)] at h1
  . exact (Int.mul_eq_zero.mp h1.symm).resolve_right hd
  . have:v9 n (B.set i (B.getD k zv)) = 0:=by
      refine R6 (i:=k) (k:=i) (u:=B.getD k zv) (by rw [List.length_set]; exact hl) hn ?_ ?_
      . rw [List.getElem?_set_ne (Ne.symm hn)]; exact a2q (by lia)
      . rw [List.getElem?_set_self (by lia)]
    rw [this,Int.mul_zero]
end Lp
namespace Lp
structure Bo where
  d:Int
  T:Nat->Nat->Int
  ins:Nat->Nat
  outs:Nat->Nat
def T1 (g:Nat->Nat) (k v:Nat):Nat->Nat:=fun i=>if i = k then v else g i
theorem r8 {g:Nat->Nat} {k v:Nat}:T1 g k v k = v:=if_pos rfl
theorem t8 {g:Nat->Nat} {k v i:Nat} (h:i ≠ k):T1 g k v i = g i:=if_neg h
def piv (S:Bo) (r c:Nat):Bo where
  d:=S.T r c
  T:=fun i j=>if i = r then (if j = c then S.d else S.T r j) else (if j = c then - S.T i c else (S.T i j * S.T r c - S.T i c * S.T r j) / S.d)
  ins:=T1 S.ins r (S.outs c)
  outs:=T1 S.outs c (S.ins r)
def Bs (m:Nat) (V:Nat->x0) (ins:Nat->Nat):List x0:=(List.range (m + 1)).map fun i=>V (ins i)
theorem Z2 (m:Nat) (V:Nat->x0) (ins:Nat->Nat):(Bs m V ins).length = m + 1:=by unfold Bs; rw [List.length_map,List.length_range]
theorem a5y {m:Nat} {V:Nat->x0} {ins:Nat->Nat} {i:Nat} (h:i < m + 1):(Bs m V ins).getD i zv = V (ins i):=by
  unfold Bs
  rw [List.getD_eq_getElem?_getD,List.getElem?_map,List.getElem?_range h]
  rfl
theorem a6H {m:Nat} {V:Nat->x0} {ins:Nat->Nat} {r v:Nat} (h:r < m + 1):Bs m V (T1 ins r v) = (Bs m V ins).set r (V v):=by
  refine List.ext_getElem? fun i=>?_
  unfold Bs
  by_cases c:i = r
  . subst c
    rw [List.getElem?_set_self (by rw [List.length_map,List.length_range]; exact h),List.getElem?_map,List.getElem?_range h]
    show some (V (T1 ins i v i)) = _
    rw [r8]
  . rw [List.getElem?_set_ne (Ne.symm c),List.getElem?_map,List.getElem?_map]
    by_cases hi:i < m + 1
    . rw [List.getElem?_range hi]
      show some (V (T1 ins r v i)) = some (V (ins i))
      rw [t8 c]
    . rw [List.getElem?_eq_none (by rw [List.length_range]; lia)]
      rfl
structure Wf (m q:Nat) (V:Nat->x0) (S:Bo):Prop where
  hd:S.d = v9 (m + 1) (Bs m V S.ins)
  hT:∀ i j,i < m + 1->j < q + 1->S.T i j = v9 (m + 1) ((Bs m V S.ins).set i (V (S.outs j)))
  cr:∀ j,j < q + 1->a3I (m + 1) (Bs m V S.ins) (V (S.outs j))
  pos:0 < S.d
  feas:∀ i,i < m->0 <= S.T i q
  im:S.ins m = q + m
  oq:S.outs q = q + m + 1
  ib:∀ i,i < m->S.ins i < q + m
  ob:∀ j,j < q->S.outs j < q + m
  ii:∀ i k,i < m->k < m->S.ins i = S.ins k->i = k
  oo:∀ j k,j < q->k < q->S.outs j = S.outs k->j = k
  io:∀ i j,i < m->j < q->S.ins i ≠ S.outs j
  all:∀ v,v < q + m->(∃ i,i < m/\S.ins i = v) \/ (∃ j,j < q/\S.outs j = v)
section
variable {m q:Nat} {V:Nat->x0} {S:Bo}
theorem Wf.exact (W:Wf m q V S) {r c i j:Nat} (hr:r < m) (hc:c < q) (hi:i < m + 1) (hj:j < q + 1) (hne:i ≠ r) :
    S.T i j * S.T r c - S.T i c * S.T r j = S.d * v9 (m + 1) (((Bs m V S.ins).set r (V (S.outs c))).set i (V (S.outs j))):=by
  have h:=plu (Z2 m V S.ins) (show r < m + 1 by lia) hi hne (V (S.outs j)) (W.cr c (by lia))
  rw [W.hd,h,W.hT i j hi hj,W.hT r c (by lia) (by lia),W.hT i c hi (by lia),W.hT r j (by lia) hj]
  rw [Int.mul_comm (v9 (m + 1) ((Bs m V S.ins).set i (V (S.outs j))))]
theorem Wf.pivT (W:Wf m q V S) {r c i j:Nat} (hr:r < m) (hc:c < q) (hi:i < m + 1) (hj:j < q + 1):(piv S r c).T i j = v9 (m + 1) ((Bs m V (piv S r c).ins).set i (V ((piv S r c).outs j))):=by
  have hl:=Z2 m V S.ins
  show (if i = r then (if j = c then S.d else S.T r j) else (if j = c then - S.T i c else (S.T i j * S.T r c - S.T i c * S.T r j) / S.d)) = v9 (m + 1) ((Bs m V (T1 S.ins r (S.outs c))).set i (V (T1 S.outs c (S.ins r) j)))
  rw [a6H (by lia)]
  by_cases c1:i = r
  . subst c1
    rw [if_pos rfl,List.set_set]
    by_cases c2:j = c
    . subst c2
      rw [if_pos rfl,r8,W.hd,<- a5y (V:=V) (ins:=S.ins) hi,K1 (by lia)]
    . rw [if_neg c2,t8 c2]
      exact W.hT i j hi hj
  . rw [if_neg c1]
    by_cases c2:j = c
    . subst c2
      rw [if_pos rfl,r8,a3x hl (by lia) hi (Ne.symm c1),<- a5y (V:=V) (ins:=S.ins) (show r < m + 1 by lia),K1 (by lia),W.hT i j hi hj]
    . rw [if_neg c2,t8 c2,W.exact hr hc hi hj c1]
      exact Int.mul_ediv_cancel_left _ (by have:=W.pos; lia)
theorem Wf.mulT (W:Wf m q V S) {r c i j:Nat} (hr:r < m) (hc:c < q) (hi:i < m + 1) (hj:j < q + 1) (hne:i ≠ r) (hjc:j ≠ c):S.d * (piv S r c).T i j = S.T i j * S.T r c - S.T i c * S.T r j:=by
  have e:=W.pivT hr hc hi hj
  have h:=W.exact hr hc hi hj hne
  have e2:Bs m V (piv S r c).ins = (Bs m V S.ins).set r (V (S.outs c)):=a6H (by lia)
  have e3:(piv S r c).outs j = S.outs j:=t8 hjc
  rw [e2,e3] at e
  rw [h,e]
theorem Wf.pivot (W:Wf m q V S) {r c:Nat} (hr:r < m) (hc:c < q) (hp:0 < S.T r c) (hq:∀ i,i < m->0 < S.T i c->S.T r q * S.T i c <= S.T i q * S.T r c):Wf m q V (piv S r c):=by
  have hl:=Z2 m V S.ins
  have hd0:v9 (m + 1) (Bs m V S.ins) ≠ 0:=by have:=W.pos; rw [W.hd] at this; lia
  have hB:Bs m V (piv S r c).ins = (Bs m V S.ins).set r (V (S.outs c)):=a6H (by lia)
  refine ⟨?_,fun i j hi hj=>W.pivT hr hc hi hj,fun j hj=>?_,hp,fun i hi=>?_,?_,?_,fun i hi=>?_,fun j hj=>?_,fun i k hi hk e=>?_,fun j k hj hk e=>?_,fun i j hi hj e=>?_,fun v hv=>?_⟩
  . rw [hB]; exact W.hT r c (by lia) (by lia)
  . rw [hB]
    by_cases c2:j = c
    . subst c2
      show a3I _ _ (V (T1 S.outs j (S.ins r) j))
      rw [r8]
      have h:=a5N hl (show r < m + 1 by lia)
      rw [a5y (by lia)] at h
      exact a1Q hl (by lia) hd0 (W.cr j hj) h
    . show a3I _ _ (V (T1 S.outs c (S.ins r) j))
      rw [t8 c2]
      exact a1Q hl (by lia) hd0 (W.cr c (by lia)) (W.cr j hj)
  . by_cases c1:i = r
    . subst c1
      show 0 <= (if i = i then (if q = c then S.d else S.T i q) else _)
      rw [if_pos rfl,if_neg (by lia)]
      exact W.feas i hi
    . have e:=W.mulT hr hc (show i < m + 1 by lia) (show q < q + 1 by lia) c1 (show q ≠ c by lia)
      have f1:=W.feas i hi
      have f2:=W.feas r hr
      have hpos:=W.pos
      have nn:0 <= S.T i q * S.T r c - S.T i c * S.T r q:=by
        have a1:0 <= S.T i q * S.T r c:=Int.mul_nonneg f1 (Int.le_of_lt hp)
        by_cases z:0 < S.T i c
        . have:=hq i hi z
          rw [Int.mul_comm (S.T i c)]
          lia
        . have a2:0 <= - (S.T i c) * S.T r q:=Int.mul_nonneg (by lia) f2
          rw [Int.neg_mul] at a2
          lia
      rw [<- e] at nn
      by_cases z:0 <= (piv S r c).T i q
      . exact z
      . have:=Int.mul_pos hpos (show 0 < - (piv S r c).T i q by lia)
        rw [Int.mul_neg] at this
        lia
  . show T1 S.ins r (S.outs c) m = q + m
    rw [t8 (by lia)]; exact W.im
  . show T1 S.outs c (S.ins r) q = q + m + 1
    rw [t8 (by lia)]; exact W.oq
  . show T1 S.ins r (S.outs c) i < q + m
    by_cases c1:i = r
    . rw [c1,r8]; exact W.ob c hc
    . rw [t8 c1]; exact W.ib i hi
  . show T1 S.outs c (S.ins r) j < q + m
    by_cases c1:j = c
    . rw [c1,r8]; exact W.ib r hr
    . rw [t8 c1]; exact W.ob j hj
  . replace e:T1 S.ins r (S.outs c) i = T1 S.ins r (S.outs c) k:=e
    by_cases c1:i = r
    . by_cases c2:k = r
      . lia
      . rw [c1,r8,t8 c2] at e
        exact absurd e.symm (W.io k c hk hc)
    . by_cases c2:k = r
      . rw [c2,r8,t8 c1] at e
        exact absurd e (W.io i c hi hc)
      . rw [t8 c1,t8 c2] at e
        exact W.ii i k hi hk e
  . replace e:T1 S.outs c (S.ins r) j = T1 S.outs c (S.ins r) k:=e
    by_cases c1:j = c
    . by_cases c2:k = c
      . lia
      . rw [c1,r8,t8 c2] at e
        exact absurd e (W.io r k hr hk)
    . by_cases c2:k = c
      . rw [c2,r8,t8 c1] at e
        exact absurd e.symm (W.io r j hr hj)
      . rw [t8 c1,t8 c2] at e
        exact W.oo j k hj hk e
  . replace e:T1 S.ins r (S.outs c) i = T1 S.outs c (S.ins r) j:=e
    by_cases c1:i = r
    . by_cases c2:j = c
      . rw [c1,c2,r8,r8] at e
        exact absurd e.symm (W.io r c hr hc)
      . rw [c1,r8,t8 c2] at e
        exact c2 (W.oo c j hc hj e).symm
    . by_cases c2:j = c
      . rw [c2,r8,t8 c1] at e
        exact c1 (W.ii i r hi hr e)
      . rw [t8 c1,t8 c2] at e
        exact W.io i j hi hj e
  . show (∃ i,i < m/\T1 S.ins r (S.outs c) i = v) \/ (∃ j,j < q/\T1 S.outs c (S.ins r) j = v)
    rcases W.all v hv with ⟨i,hi,e⟩ | ⟨j,hj,e⟩
    . by_cases c1:i = r
      . exact .inr ⟨c,hc,by rw [r8,<- c1]; exact e⟩
      . exact .inl ⟨i,hi,by rw [t8 c1]; exact e⟩
    . by_cases c1:j = c
      . exact .inl ⟨r,hr,by rw [r8,<- c1]; exact e⟩
      . exact .inr ⟨j,hj,by rw [t8 c1]; exact e⟩
def Ker (m q:Nat) (V:Nat->x0) (S:Bo) (z:Nat->Int):Prop:=∀ x,sumTo (fun k=>z (S.ins k) * V (S.ins k) x) (m + 1) + sumTo (fun j=>z (S.outs j) * V (S.outs j) x) (q + 1) = 0
theorem a5r {g h:Nat->Int} {n r:Nat} (hr:r < n) (e:∀ k,k < n->k ≠ r->g k = h k):sumTo g n = sumTo h n + (g r - h r):=by
  have e1:sumTo g n = sumTo (fun k=>h k + (if k = r then g k - h k else 0)) n:=sum_congr fun k hk=>by
    by_cases c:k = r
    . rw [if_pos c]; lia
    . rw [if_neg c,e k hk c]; lia
  rw [e1,L9,sum_one hr fun k _ hn=>if_neg hn,if_pos rfl]
theorem Ker.piv {r c:Nat} (hr:r < m) (hc:c < q) {z:Nat->Int}:Ker m q V (piv S r c) z ↔ Ker m q V S z:=by
  have e:∀ x,sumTo (fun k=>z ((Lp.piv S r c).ins k) * V ((Lp.piv S r c).ins k) x) (m + 1) + sumTo (fun j=>z ((Lp.piv S r c).outs j) * V ((Lp.piv S r c).outs j) x) (q + 1)
      = sumTo (fun k=>z (S.ins k) * V (S.ins k) x) (m + 1) + sumTo (fun j=>z (S.outs j) * V (S.outs j) x) (q + 1):=fun x=>by
    have h1:=a5r (g:=fun k=>z ((Lp.piv S r c).ins k) * V ((Lp.piv S r c).ins k) x) (h:=fun k=>z (S.ins k) * V (S.ins k) x) (n:=m + 1) (r:=r) (by lia) fun k hk hn=>by
      show z (T1 S.ins r (S.outs c) k) * V (T1 S.ins r (S.outs c) k) x = _
      rw [t8 hn]
    have h2:=a5r (g:=fun j=>z ((Lp.piv S r c).outs j) * V ((Lp.piv S r c).outs j) x) (h:=fun j=>z (S.outs j) * V (S.outs j) x) (n:=q + 1) (r:=c) (by lia) fun k hk hn=>by
      show z (T1 S.outs c (S.ins r) k) * V (T1 S.outs c (S.ins r) k) x = _
      rw [t8 hn]
    rw [h1,h2]
    show _ + (z (T1 S.ins r (S.outs c) r) * V (T1 S.ins r (S.outs c) r) x - _) + (_ + (z (T1 S.outs c (S.ins r) c) * V (T1 S.outs c (S.ins r) c) x - _)) = _
    rw [r8,r8]
    lia
  exact ⟨fun h x=>(e x).symm.trans (h x),fun h x=>(e x).trans (h x)⟩
def a0W (q:Nat) (S:Bo) (z:Nat->Int) (i:Nat):Int:=S.d * z (S.ins i) + sumTo (fun j=>S.T i j * z (S.outs j)) (q + 1)
theorem R5 {g:Nat->Nat->Int} (n:Nat):∀ k:Nat,sumTo (fun i=>sumTo (fun j=>g i j) k) n = sumTo (fun j=>sumTo (fun i=>g i j) n) k
  | 0=>sum_zero fun _ _=>rfl
  | k + 1=>by
    show sumTo (fun i=>sumTo (fun j=>g i j) k + g i k) n = sumTo (fun j=>sumTo (fun i=>g i j) n) k + sumTo (fun i=>g i k) n
    rw [L9,R5 n k]
theorem Wf.rows (W:Wf m q V S) (z:Nat->Int) (x:Nat):S.d * (sumTo (fun k=>z (S.ins k) * V (S.ins k) x) (m + 1) + sumTo (fun j=>z (S.outs j) * V (S.outs j) x) (q + 1)) = sumTo (fun k=>a0W q S z k * ((Bs m V S.ins).getD k zv) x) (m + 1):=by
  have e1:S.d * sumTo (fun j=>z (S.outs j) * V (S.outs j) x) (q + 1) = sumTo (fun k=>sumTo (fun j=>S.T k j * z (S.outs j)) (q + 1) * ((Bs m V S.ins).getD k zv) x) (m + 1):=by
    rw [<- u9]
    have h1:∀ j,j < q + 1->S.d * (z (S.outs j) * V (S.outs j) x) = sumTo (fun k=>S.T k j * z (S.outs j) * ((Bs m V S.ins).getD k zv) x) (m + 1):=fun j hj=>by
      have h:=W.cr j hj x
      rw [<- W.hd] at h
      rw [Int.mul_comm (z (S.outs j)),<- Int.mul_assoc,h,Int.mul_comm,<- u9]
      refine sum_congr fun k hk=>?_
      rw [W.hT k j hk hj,<- Int.mul_assoc,Int.mul_comm (z (S.outs j))]
    rw [sum_congr h1,<- R5]
    refine sum_congr fun k hk=>?_
    rw [Int.mul_comm (sumTo _ _),<- u9]
    exact sum_congr fun j _=>Int.mul_comm _ _
  rw [Int.mul_add,e1,<- u9,<- L9]
  refine sum_congr fun k hk=>?_
  show _ = (S.d * z (S.ins k) + _) * _
  rw [Int.add_mul,a5y hk,Int.mul_assoc]
theorem Wf.row_of (W:Wf m q V S) {z:Nat->Int} (h:Ker m q V S z) {i:Nat} (hi:i < m + 1):a0W q S z i = 0:=by
  refine b2G (Z2 m V S.ins) (by have:=W.pos; rw [W.hd] at this; lia) (fun x=>?_) hi
  rw [<- W.rows z x,h x,Int.mul_zero]
theorem Wf.ker_of (W:Wf m q V S) {z:Nat->Int} (h:∀ i,i < m + 1->a0W q S z i = 0):Ker m q V S z:=fun x=>by
  have e:=W.rows z x
  have e0:sumTo (fun k=>a0W q S z k * ((Bs m V S.ins).getD k zv) x) (m + 1) = 0:=sum_zero fun k hk=>by rw [h k hk,Int.zero_mul]
  rw [e0] at e
  exact (Int.mul_eq_zero.mp e).resolve_left (by have:=W.pos; lia)
end
end Lp
namespace Lp
structure Choice (m q:Nat) (S:Bo) (r c:Nat):Prop where
  hc:c < q
  neg:S.T m c < 0
  minc:∀ j,j < q->S.T m j < 0->S.outs c <= S.outs j
  hr:r < m
  pos:0 < S.T r c
  ratio:∀ i,i < m->0 < S.T i c->S.T r q * S.T i c <= S.T i q * S.T r c
  tie:∀ i,i < m->0 < S.T i c->S.T r q * S.T i c = S.T i q * S.T r c->S.ins r <= S.ins i
theorem a4O {g:Nat->Int}:∀ {n:Nat},sumTo g n < 0->∃ k,k < n/\g k < 0
  | 0,h=>absurd h (by show ¬ (0:Int) < 0; lia)
  | n + 1,h=>by
    have h':sumTo g n + g n < 0:=h
    by_cases c:g n < 0
    . exact ⟨n,by lia,c⟩
    . obtain ⟨k,hk,hg⟩:=a4O (g:=g) (n:=n) (by lia)
      exact ⟨k,by lia,hg⟩
section
variable {m q:Nat} {V:Nat->x0} {S S':Bo}
theorem Wf.inj (W:Wf m q V S) {i k:Nat} (hi:i < m + 1) (hk:k < m + 1) (e:S.ins i = S.ins k):i = k:=by
  by_cases c1:i = m
  . by_cases c2:k = m
    . lia
    . have:=W.ib k (by lia)
      rw [c1,W.im] at e
      lia
  . by_cases c2:k = m
    . have:=W.ib i (by lia)
      rw [c2,W.im] at e
      lia
    . exact W.ii i k (by lia) (by lia) e
theorem Wf.apart (W:Wf m q V S) {i j:Nat} (hi:i < m + 1) (hj:j < q + 1):S.ins i ≠ S.outs j:=by
  intro e
  have hI:S.ins i <= q + m:=by
    by_cases c1:i = m
    . rw [c1,W.im]; exact Nat.le_refl _
    . have:=W.ib i (by lia); lia
  by_cases c2:j = q
  . rw [c2,W.oq] at e; lia
  . have:=W.ob j (by lia)
    by_cases c1:i = m
    . rw [c1,W.im] at e; lia
    . exact W.io i j (by lia) (by lia) e
theorem Wf.injo (W:Wf m q V S) {j k:Nat} (hj:j < q + 1) (hk:k < q + 1) (e:S.outs j = S.outs k):j = k:=by
  by_cases c1:j = q
  . by_cases c2:k = q
    . lia
    . have:=W.ob k (by lia)
      rw [c1,W.oq] at e
      lia
  . by_cases c2:k = q
    . have:=W.ob j (by lia)
      rw [c2,W.oq] at e
      lia
    . exact W.oo j k (by lia) (by lia) e
def Z3 (m:Nat) (S:Bo) (c:Nat) (v:Nat):Int:=if v = S.outs c then S.d else sumTo (fun i=>if S.ins i = v then - S.T i c else 0) (m + 1)
theorem Wf.ray_in (W:Wf m q V S) {c k:Nat} (hc:c < q + 1) (hk:k < m + 1):Z3 m S c (S.ins k) = - S.T k c:=by
  unfold Z3
  rw [if_neg (W.apart hk hc),sum_one hk fun i hi hn=>if_neg fun e=>hn (W.inj hi hk e),if_pos rfl]
theorem Wf.ray_out (W:Wf m q V S) {c j:Nat} (hc:c < q + 1) (hj:j < q + 1) (hn:j ≠ c):Z3 m S c (S.outs j) = 0:=by
  unfold Z3
  rw [if_neg fun e=>hn (W.injo hj hc e)]
  exact sum_zero fun i hi=>if_neg (W.apart hi hj)
theorem Wf.ray_c {c:Nat}:Z3 m S c (S.outs c) = S.d:=if_pos rfl
theorem Wf.ray_ker (W:Wf m q V S) {c:Nat} (hc:c < q + 1):Ker m q V S (Z3 m S c):=W.ker_of fun i hi=>by
  unfold a0W
  rw [W.ray_in hc hi,sum_one hc fun j hj hn=>by rw [W.ray_out hc hj hn,Int.mul_zero],Wf.ray_c,Int.mul_neg,Int.mul_comm]
  lia
theorem b0a (W:Wf m q V S) (W':Wf m q V S') (hk:∀ z,Ker m q V S z->Ker m q V S' z) {r c r' c':Nat} (C:Choice m q S r c) (C':Choice m q S' r' c') (ht:S.ins r = S'.outs c') (hst:S.outs c < S.ins r)
    (stat:∀ v,S.ins r < v->(∃ i,i < m/\S.ins i = v)->∃ i,i < m/\S'.ins i = v) (zero:∀ k j,k < m->j < q->S.ins k = S'.outs j->S.T k q = 0):False:=by
  have hc1:c < q + 1:=by have:=C.hc; lia
  have R:=W'.row_of (hk _ (W.ray_ker hc1)) (show m < m + 1 by lia)
  have zobj:Z3 m S c (S'.ins m) = - S.T m c:=by rw [W'.im,<- W.im]; exact W.ray_in hc1 (by lia)
  have zcon:Z3 m S c (S'.outs q) = 0:=by rw [W'.oq,<- W.oq]; exact W.ray_out hc1 (by lia) (by have:=C.hc; lia)
  unfold a0W at R
  replace R:S'.d * Z3 m S c (S'.ins m) + (sumTo (fun j=>S'.T m j * Z3 m S c (S'.outs j)) q + S'.T m q * Z3 m S c (S'.outs q)) = 0:=R
  rw [zobj,zcon,Int.mul_zero,Int.mul_neg] at R
  have hneg:0 < S'.d * (- S.T m c):=Int.mul_pos W'.pos (by have:=C.neg; lia)
  rw [Int.mul_neg] at hneg
  obtain ⟨j,hj,hg⟩:=a4O (g:=fun j=>S'.T m j * Z3 m S c (S'.outs j)) (n:=q) (by lia)
  replace hg:S'.T m j * Z3 m S c (S'.outs j) < 0:=hg
  rcases W.all (S'.outs j) (W'.ob j hj) with ⟨k,hk1,e⟩ | ⟨j2,hj2,e⟩
  . rw [<- e,W.ray_in hc1 (by lia)] at hg
    rcases Nat.lt_trichotomy (S'.outs j) (S.ins r) with h | h | h
    . have h1:0 <= S'.T m j:=by
        by_cases z:S'.T m j < 0
        . have:=C'.minc j hj z
          lia
        . lia
      have h2:0 < S.T k c:=by
        by_cases z:0 < S.T k c
        . exact z
        . have:=Int.mul_nonneg h1 (show 0 <= - S.T k c by lia)
          lia
      have h3:=zero k j hk1 hj e
      have h4:=C.ratio k hk1 h2
      rw [h3,Int.zero_mul] at h4
      have h5:0 <= S.T r q * S.T k c:=Int.mul_nonneg (W.feas r C.hr) (Int.le_of_lt h2)
      have h6:=C.tie k hk1 h2 (by rw [h3,Int.zero_mul]; omega)
      lia
    . have e1:j = c':=W'.oo j c' hj C'.hc (by rw [h,ht])
      have e2:k = r:=W.ii k r hk1 C.hr (by rw [e,h])
      rw [e1,e2] at hg
      have:=Int.mul_pos (show 0 < - S'.T m c' by have:=C'.neg; lia) C.pos
      rw [Int.neg_mul] at this
      rw [Int.mul_neg] at hg
      lia
    . obtain ⟨i,hi,e3⟩:=stat _ h ⟨k,hk1,e⟩
      exact W'.io i j hi hj e3
  . by_cases c2:j2 = c
    . rw [<- e,c2,Wf.ray_c] at hg
      have h1:S'.T m j < 0:=by
        by_cases z:S'.T m j < 0
        . exact z
        . have:=Int.mul_nonneg (show 0 <= S'.T m j by lia) (Int.le_of_lt W.pos)
          lia
      have:=C'.minc j hj h1
      rw [c2] at e
      lia
    . rw [<- e,W.ray_out hc1 (by lia) c2,Int.mul_zero] at hg
      lia
def Zr (m q:Nat) (S:Bo) (v:Nat):Prop:=∀ i,i < m->S.ins i = v->S.T i q = 0
def Bas (m:Nat) (S:Bo) (v:Nat):Prop:=∃ i,i < m/\S.ins i = v
theorem Bas.piv (W:Wf m q V S) {r c v:Nat} (hr:r < m) (hc:c < q) (h1:v ≠ S.ins r) (h2:v ≠ S.outs c):Bas m (Lp.piv S r c) v ↔ Bas m S v:=by
  constructor
  . rintro ⟨i,hi,e⟩
    replace e:T1 S.ins r (S.outs c) i = v:=e
    by_cases z:i = r
    . rw [z,r8] at e; exact absurd e.symm h2
    . rw [t8 z] at e; exact ⟨i,hi,e⟩
  . rintro ⟨i,hi,e⟩
    have z:i ≠ r:=fun z=>h1 (by rw [<- e,z])
    exact ⟨i,hi,(t8 z).trans e⟩
theorem Zr.piv (W:Wf m q V S) {r c:Nat} (C:Choice m q S r c) (h0:S.T r q = 0) (v:Nat):Zr m q (Lp.piv S r c) v ↔ Zr m q S v:=by
  have key:∀ i,i < m->i ≠ r->((Lp.piv S r c).T i q = 0 ↔ S.T i q = 0):=fun i hi hn=>by
    have e:=W.mulT C.hr C.hc (show i < m + 1 by lia) (show q < q + 1 by lia) hn (show q ≠ c by have:=C.hc; lia)
    rw [h0,Int.mul_zero,Int.sub_zero] at e
    constructor
    . intro z
      rw [z,Int.mul_zero] at e
      exact (Int.mul_eq_zero.mp e.symm).resolve_right (by have:=C.pos; lia)
    . intro z
      rw [z,Int.zero_mul] at e
      exact (Int.mul_eq_zero.mp e).resolve_left (by have:=W.pos; lia)
  have kr:(Lp.piv S r c).T r q = 0:=by
    show (if r = r then (if q = c then S.d else S.T r q) else _) = 0
    rw [if_pos rfl,if_neg (by have:=C.hc; lia)]; exact h0
  constructor
  . intro h i hi e
    by_cases z:i = r
    . rw [z]; exact h0
    . exact (key i hi z).mp (h i hi ((t8 z).trans e))
  . intro h i hi e
    by_cases z:i = r
    . rw [z]; exact kr
    . exact (key i hi z).mpr (h i hi ((t8 z).symm.trans e))
end
structure Seq (m q:Nat) (V:Nat->x0) (S:Nat->Bo) (R C:Nat->Nat):Prop where
  w:Wf m q V (S 0)
  ch:∀ k,Choice m q (S k) (R k) (C k)
  st:∀ k,S (k + 1) = piv (S k) (R k) (C k)
section
variable {m q:Nat} {V:Nat->x0} {S:Nat->Bo} {R C:Nat->Nat}
theorem Seq.wf (Q:Seq m q V S R C):∀ k,Wf m q V (S k)
  | 0=>Q.w
  | k + 1=>by rw [Q.st k]; exact (Q.wf k).pivot (Q.ch k).hr (Q.ch k).hc (Q.ch k).pos (Q.ch k).ratio
theorem Seq.ker (Q:Seq m q V S R C) (z:Nat->Int) (a:Nat):∀ n,Ker m q V (S (a + n)) z ↔ Ker m q V (S a) z
  | 0=>Iff.rfl
  | n + 1=>by
    show Ker m q V (S (a + n + 1)) z ↔ _
    rw [Q.st,Ker.piv (Q.ch _).hr (Q.ch _).hc]
    exact Q.ker z a n
def Dg (q:Nat) (S:Nat->Bo) (R:Nat->Nat) (k:Nat):Prop:=(S k).T (R k) q = 0
theorem Seq.zr (Q:Seq m q V S R C) (v a:Nat):∀ n,(∀ k,a <= k->k < a + n->Dg q S R k)->(Zr m q (S (a + n)) v ↔ Zr m q (S a) v)
  | 0,_=>Iff.rfl
  | n + 1,h=>by
    show Zr m q (S (a + n + 1)) v ↔ _
    rw [Q.st,Zr.piv (Q.wf _) (Q.ch _) (h (a + n) (by lia) (by lia))]
    exact Q.zr v a n fun k h1 h2=>h k h1 (by lia)
def a3K (S:Nat->Bo) (R C:Nat->Nat) (k v:Nat):Prop:=v = (S k).ins (R k) \/ v = (S k).outs (C k)
theorem Seq.bas (Q:Seq m q V S R C) (v a:Nat):∀ n,(∀ k,a <= k->k < a + n->¬ a3K S R C k v)->(Bas m (S (a + n)) v ↔ Bas m (S a) v)
  | 0,_=>Iff.rfl
  | n + 1,h=>by
    have hp:=h (a + n) (by lia) (by lia)
    show Bas m (S (a + n + 1)) v ↔ _
    rw [Q.st,Bas.piv (Q.wf _) (Q.ch _).hr (Q.ch _).hc (fun z=>hp (.inl z)) fun z=>hp (.inr z)]
    exact Q.bas v a n fun k h1 h2=>h k h1 (by lia)
theorem Seq.once (Q:Seq m q V S R C) {a b t:Nat} (hd:∀ k,a <= k->k < b->Dg q S R k) (ht:∀ k,a <= k->k < b->∀ v,a3K S R C k v->v <= t):∀ (g k0 k1:Nat),k1 = k0 + 1 + g->a <= k0->k1 < b->a3K S R C k0 t->a3K S R C k1 t->False:=by
  intro g
  induction g using Nat.strongRecOn with
  | _ g ih =>
    intro k0 k1 hk ha hb p0 p1
    by_cases hm:∃ k,k0 < k/\k < k1/\a3K S R C k t
    . obtain ⟨k,h1,h2,h3⟩:=hm
      exact ih (k - k0 - 1) (by lia) k0 k (by lia) ha (by lia) p0 h3
    have W0:=Q.wf k0
    have W1:=Q.wf k1
    have C0:=Q.ch k0
    have C1:=Q.ch k1
    have bmid:Bas m (S k1) t ↔ Bas m (S (k0 + 1)) t:=by
      have:=Q.bas t (k0 + 1) g fun k h1 h2=>fun z=>hm ⟨k,by lia,by lia,z⟩
      rw [show k0 + 1 + g = k1 by lia] at this
      exact this
    have stat:∀ v,t < v->(Bas m (S k1) v ↔ Bas m (S k0) v):=fun v hv=>by
      have:=Q.bas v k0 (g + 1) fun k h1 h2=>fun z=>by have:=ht k (by lia) (by lia) v z; lia
      rw [show k0 + (g + 1) = k1 by lia] at this
      exact this
    have ker:∀ z,Ker m q V (S k1) z ↔ Ker m q V (S k0) z:=fun z=>by
      have:=Q.ker z k0 (g + 1)
      rw [show k0 + (g + 1) = k1 by lia] at this
      exact this
    have zrr:∀ v,Zr m q (S k1) v ↔ Zr m q (S k0) v:=fun v=>by
      have:=Q.zr v k0 (g + 1) fun k h1 h2=>hd k (by lia) (by lia)
      rw [show k0 + (g + 1) = k1 by lia] at this
      exact this
    rcases p0 with e0 | e0
    . -- it goes out at k0,so it comes in at k1
      have nb:¬ Bas m (S (k0 + 1)) t:=by
        rintro ⟨i,hi,e⟩
        rw [Q.st k0] at e
        replace e:T1 (S k0).ins (R k0) ((S k0).outs (C k0)) i = t:=e
        by_cases z:i = R k0
        . rw [z,r8,e0] at e
          exact W0.io _ _ C0.hr C0.hc e.symm
        . rw [t8 z,e0] at e
          exact z (W0.ii i (R k0) hi C0.hr e)
      rcases p1 with e1 | e1
      . exact nb (bmid.mp ⟨_,C1.hr,e1.symm⟩)
      . have hst:(S k0).outs (C k0) < (S k0).ins (R k0):=by
          have h1:=ht k0 ha (by lia) _ (.inr rfl)
          rw [e0] at h1
          have:=W0.io (R k0) (C k0) C0.hr C0.hc
          lia
        refine b0a W0 W1 (fun z h=>(ker z).mpr h) C0 C1 (by rw [<- e0,<- e1]) hst (fun v hv hb'=>(stat v (by rw [e0]; exact hv)).mpr hb') fun k j hk1 hj e=>?_
        refine ((zrr ((S k0).ins k)).mp fun i hi e2=>?_) k hk1 rfl
        rw [e] at e2
        exact absurd e2 (W1.io i j hi hj)
    . -- it comes in at k0,so it goes out at k1
      have ba:Bas m (S (k0 + 1)) t:=⟨R k0,C0.hr,by rw [Q.st k0]; show T1 (S k0).ins (R k0) ((S k0).outs (C k0)) (R k0) = t; rw [r8]; exact e0.symm⟩
      rcases p1 with e1 | e1
      . have hst:(S k1).outs (C k1) < (S k1).ins (R k1):=by
          have h1:=ht k1 (by lia) hb _ (.inr rfl)
          rw [e1] at h1
          have:=W1.io (R k1) (C k1) C1.hr C1.hc
          lia
        refine b0a W1 W0 (fun z h=>(ker z).mp h) C1 C0 (by rw [<- e0,<- e1]) hst (fun v hv hb'=>(stat v (by rw [e1]; exact hv)).mp hb') fun k j hk1 hj e=>?_
        refine ((zrr ((S k1).ins k)).mpr fun i hi e2=>?_) k hk1 rfl
        rw [e] at e2
        exact absurd e2 (W0.io i j hi hj)
      . obtain ⟨i,hi,e⟩:=bmid.mpr ba
        rw [e1] at e
        exact W1.io i (C k1) hi C1.hc e
theorem Seq.short (Q:Seq m q V S R C):∀ (t a b:Nat),a <= b->(∀ k,a <= k->k < b->Dg q S R k)->(∀ k,a <= k->k < b->∀ v,a3K S R C k v->v < t)->b + 1 <= a + 2 ^ t
  | 0,a,b,hab,hd,hp=>by
    by_cases c:a < b
    . have:=hp a (Nat.le_refl _) c _ (.inl rfl)
      lia
    . rw [Nat.pow_zero]; lia
  | t + 1,a,b,hab,hd,hp=>by
    rw [Nat.pow_succ]
    by_cases h:∃ k,a <= k/\k < b/\a3K S R C k t
    . obtain ⟨k,h1,h2,h3⟩:=h
      have once:=Q.once hd (t:=t) fun k h1 h2 v hv=>by have:=hp k h1 h2 v hv; lia
      have i1:=Q.short t a k h1 (fun j j1 j2=>hd j j1 (by lia)) fun j j1 j2 v hv=>by
        have:=hp j j1 (by lia) v hv
        by_cases z:v = t
        . subst z
          exact (once (k - j - 1) j k (by lia) j1 h2 hv h3).elim
        . lia
      have i2:=Q.short t (k + 1) b (by lia) (fun j j1 j2=>hd j (by lia) j2) fun j j1 j2 v hv=>by
        have:=hp j (by lia) j2 v hv
        by_cases z:v = t
        . subst z
          exact (once (j - k - 1) k j (by lia) h1 j2 h3 hv).elim
        . lia
      lia
    . have:=Q.short t a b hab hd fun j j1 j2 v hv=>by
        have h4:=hp j j1 j2 v hv
        by_cases z:v = t
        . subst z; exact absurd ⟨j,j1,j2,hv⟩ h
        . lia
      have:0 < 2 ^ t:=Nat.two_pow_pos t
      lia
end
end Lp
namespace Lp
section
variable {m q:Nat} {V:Nat->x0} {S:Bo}
theorem Wf.bndB {M:Nat} (hM:∀ v,Fits M (m + 1) (V v)):∀ c ∈ Bs m V S.ins,Fits M (m + 1) c:=fun c hc=>by
  obtain ⟨i,_,rfl⟩:=List.mem_map.mp hc
  exact hM _
theorem Wf.bndd (W:Wf m q V S) {M:Nat} (hM:∀ v,Fits M (m + 1) (V v)):S.d.natAbs <= bnd M (m + 1):=by
  rw [W.hd]
  exact a2W (m + 1) _ (Z2 m V S.ins) (Wf.bndB hM)
theorem Wf.bndT (W:Wf m q V S) {M:Nat} (hM:∀ v,Fits M (m + 1) (V v)) {i j:Nat} (hi:i < m + 1) (hj:j < q + 1):(S.T i j).natAbs <= bnd M (m + 1):=by
  rw [W.hT i j hi hj]
  refine a2W (m + 1) _ (by rw [List.length_set]; exact Z2 m V S.ins) fun c hc=>?_
  rcases List.mem_or_eq_of_mem_set hc with h | h
  . exact Wf.bndB hM c h
  . rw [h]; exact hM _
def phi (m q:Nat) (M:Int) (S:Bo):Int:=M * M * S.T m q / S.d
theorem Wf.gain (W:Wf m q V S) {r c:Nat} (C:Choice m q S r c) {M:Int} (h1:S.d <= M) (h2:S.T r c <= M):phi m q M S + (if S.T r q = 0 then 0 else 1) <= phi m q M (piv S r c):=by
  have hcq:c < q:=C.hc
  have hrm:r < m:=C.hr
  have e:=W.mulT hrm hcq (show m < m + 1 by lia) (show q < q + 1 by lia) (show m ≠ r by lia) (show q ≠ c by lia)
  have hp:=C.pos
  have hd:=W.pos
  have hn:=C.neg
  have hf:=W.feas r hrm
  unfold phi
  show _ <= M * M * (piv S r c).T m q / S.T r c
  generalize (piv S r c).T m q = N' at *
  generalize S.T m q = N at *
  generalize S.T r c = p at *
  generalize S.d = d at *
  generalize S.T m c = g at *
  generalize S.T r q = b at *
  rw [Int.le_ediv_iff_mul_le hp]
  have hfl:M * M * N / d * d <= M * M * N:=Int.ediv_mul_le _ (by lia)
  generalize M * M * N / d = f at *
  have hM:0 < M:=by lia
  have hMM:d * p <= M * M:=Int.mul_le_mul h1 h2 (Int.le_of_lt hp) (Int.le_of_lt hM)
  have key:(f + (if b = 0 then 0 else 1)) * p * d <= M * M * N' * d:=by
    have a1:M * M * N' * d = M * M * N * p + M * M * (-(g * b)):=by
      have:N' * d = N * p - g * b:=by rw [Int.mul_comm N' d]; exact e
      rw [Int.mul_assoc (M * M),this,Int.mul_sub,Int.mul_assoc (M * M),Int.mul_neg]
      lia
    have a2:f * d * p <= M * M * N * p:=Int.mul_le_mul_of_nonneg_right hfl (Int.le_of_lt hp)
    have a3:f * p * d = f * d * p:=by rw [Int.mul_assoc,Int.mul_comm p d,<- Int.mul_assoc]
    by_cases c0:b = 0
    . rw [if_pos c0,Int.add_zero,a1,a3,c0]
      simp only [Int.mul_zero,Int.neg_zero,Int.add_zero]
      exact a2
    . rw [if_neg c0]
      have a4:1 <= -(g * b):=by
        have:=Int.mul_pos (show 0 < -g by lia) (show 0 < b by lia)
        rw [Int.neg_mul] at this
        lia
      have a5:M * M * 1 <= M * M * (-(g * b)):=Int.mul_le_mul_of_nonneg_left a4 (Int.mul_nonneg (Int.le_of_lt hM) (Int.le_of_lt hM))
      rw [Int.add_mul,Int.add_mul,Int.one_mul,a3,a1]
      rw [Int.mul_comm d p] at hMM
      lia
  exact Int.le_of_mul_le_mul_right key hd
theorem Wf.phi_le (W:Wf m q V S) {M:Int} (h1:S.T m q <= M) (h0:0 < M):phi m q M S <= M * M * M:=by
  unfold phi
  refine Int.ediv_le_of_le_mul W.pos ?_
  have a1:M * M * S.T m q <= M * M * M:=Int.mul_le_mul_of_nonneg_left h1 (Int.mul_nonneg (Int.le_of_lt h0) (Int.le_of_lt h0))
  have a2:M * M * M * 1 <= M * M * M * S.d:=Int.mul_le_mul_of_nonneg_left (by have:=W.pos; lia) (Int.mul_nonneg (Int.mul_nonneg (Int.le_of_lt h0) (Int.le_of_lt h0)) (Int.le_of_lt h0))
  lia
end
section
variable {m q:Nat} {V:Nat->x0} {S:Nat->Bo} {R C:Nat->Nat}
theorem Seq.part_lt (Q:Seq m q V S R C) (k v:Nat) (h:a3K S R C k v):v < q + m:=by
  rcases h with h | h
  . rw [h]; exact (Q.wf k).ib _ (Q.ch k).hr
  . rw [h]; exact (Q.wf k).ob _ (Q.ch k).hc
theorem Seq.never (Q:Seq m q V S R C) {M:Nat} (hM:∀ v,Fits M (m + 1) (V v)):False:=by
  obtain ⟨B,hB⟩:∃ B:Int,B = (bnd M (m + 1):Int):=⟨_,rfl⟩
  have bT:∀ k i j,i < m + 1->j < q + 1->(S k).T i j <= B:=fun k i j hi hj=>by
    have:=(Q.wf k).bndT hM hi hj
    lia
  have bd:∀ k,(S k).d <= B:=fun k=>by
    have:=(Q.wf k).bndd hM
    lia
  have B0:0 < B:=by have:=bd 0; have:=(Q.wf 0).pos; lia
  have up:∀ k,phi m q B (S k) + (if (S k).T (R k) q = 0 then 0 else 1) <= phi m q B (S (k + 1)):=fun k=>by
    rw [Q.st k]
    exact (Q.wf k).gain (Q.ch k) (bd k) (bT k _ _ (by have:=(Q.ch k).hr; lia) (by have:=(Q.ch k).hc; lia))
  have mono:∀ n k,phi m q B (S k) <= phi m q B (S (k + n)):=fun n=>by
    induction n with
    | zero=>intro k; exact Int.le_refl _
    | succ n ih =>
      intro k
      have h1:=ih k
      have h2:=up (k + n)
      have h3:phi m q B (S (k + n)) <= phi m q B (S (k + n + 1)):=by
        split at h2 <;> lia
      exact Int.le_trans h1 h3
  have W3:∀ k,phi m q B (S k) <= B * B * B:=fun k=>(Q.wf k).phi_le (bT k m q (by lia) (by lia)) B0
  have gap:∀ (g:Nat) (k:Nat),B * B * B - phi m q B (S k) <= (g:Int)->False:=by
    intro g
    induction g with
    | zero =>
      intro k hk
      have:∃ j,k <= j/\j < k + 2 ^ (q + m)/\¬ Dg q S R j:=by
        refine Classical.byContradiction fun hn=>?_
        have:=Q.short (q + m) k (k + 2 ^ (q + m)) (Nat.le_add_right _ _) (fun j h1 h2=>Classical.byContradiction fun z=>hn ⟨j,h1,h2,z⟩) fun j _ _ v hv=>Q.part_lt j v hv
        lia
      obtain ⟨j,h1,h2,h3⟩:=this
      have u:=up j
      rw [if_neg (show ¬ (S j).T (R j) q = 0 from h3)] at u
      have m1:=mono (j - k) k
      rw [show k + (j - k) = j by lia] at m1
      have:=W3 (j + 1)
      lia
    | succ g ih =>
      intro k hk
      have:∃ j,k <= j/\j < k + 2 ^ (q + m)/\¬ Dg q S R j:=by
        refine Classical.byContradiction fun hn=>?_
        have:=Q.short (q + m) k (k + 2 ^ (q + m)) (Nat.le_add_right _ _) (fun j h1 h2=>Classical.byContradiction fun z=>hn ⟨j,h1,h2,z⟩) fun j _ _ v hv=>Q.part_lt j v hv
        lia
      obtain ⟨j,h1,h2,h3⟩:=this
      have u:=up j
      rw [if_neg (show ¬ (S j).T (R j) q = 0 from h3)] at u
      have m1:=mono (j - k) k
      rw [show k + (j - k) = j by lia] at m1
      exact ih (j + 1) (by lia)
  exact gap (B * B * B - phi m q B (S 0)).toNat 0 (by lia)
end
inductive Ends (m q:Nat):Bo->Nat->Prop
  | stop {S:Bo}:(¬ ∃ r c,Choice m q S r c)->Ends m q S 0
  | go {S:Bo} {r c k:Nat}:Choice m q S r c->Ends m q (piv S r c) k->Ends m q S (k + 1)
theorem Choice.uniq {m q:Nat} {V:Nat->x0} {S:Bo} (W:Wf m q V S) {r c r' c':Nat} (h:Choice m q S r c) (h':Choice m q S r' c'):r = r'/\c = c':=by
  have ec:c = c':=W.oo c c' h.hc h'.hc (Nat.le_antisymm (h.minc c' h'.hc h'.neg) (h'.minc c h.hc h.neg))
  subst ec
  have e1:=h.ratio r' h'.hr h'.pos
  have e2:=h'.ratio r h.hr h.pos
  have e:S.T r q * S.T r' c = S.T r' q * S.T r c:=by lia
  exact ⟨W.ii r r' h.hr h'.hr (Nat.le_antisymm (h.tie r' h'.hr h'.pos e) (h'.tie r h.hr h.pos e.symm)),rfl⟩
theorem Ends.next {m q:Nat} {V:Nat->x0} {S:Bo} (W:Wf m q V S) {k r c:Nat} (h:Ends m q S k) (C:Choice m q S r c):∃ j,j < k/\Ends m q (piv S r c) j:=by
  cases h with
  | stop hn=>exact absurd ⟨r,c,C⟩ hn
  | go C' h' =>
    obtain ⟨rfl,rfl⟩:=C.uniq W C'
    exact ⟨_,Nat.lt_succ_self _,h'⟩
theorem Wf.ends {m q:Nat} {V:Nat->x0} {M:Nat} (hM:∀ v,Fits M (m + 1) (V v)) {S:Bo} (W:Wf m q V S):∃ k,Ends m q S k:=by
  refine Classical.byContradiction fun hn=>?_
  have ch:∀ S',Wf m q V S'->(¬ ∃ k,Ends m q S' k)->∃ p:Nat × Nat,Choice m q S' p.1 p.2:=fun S' _ h'=>by
    refine Classical.byContradiction fun z=>h' ⟨0,.stop fun ⟨r,c,C⟩=>z ⟨(r,c),C⟩⟩
  let St:={ S':Bo // Wf m q V S'/\¬ ∃ k,Ends m q S' k }
  let pk:(X:St)->Nat × Nat:=fun X=>(ch X.1 X.2.1 X.2.2).choose
  have pc:∀ X:St,Choice m q X.1 (pk X).1 (pk X).2:=fun X=>(ch X.1 X.2.1 X.2.2).choose_spec
  let nx:St->St:=fun X=>⟨piv X.1 (pk X).1 (pk X).2,X.2.1.pivot (pc X).hr (pc X).hc (pc X).pos (pc X).ratio,fun ⟨k,e⟩=>X.2.2 ⟨k + 1,.go (pc X) e⟩⟩
  let sq:Nat->St:=fun k=>Nat.rec ⟨S,W,hn⟩ (fun _ X=>nx X) k
  exact Seq.never (S:=fun k=>(sq k).1) (R:=fun k=>(pk (sq k)).1) (C:=fun k=>(pk (sq k)).2) ⟨W,fun k=>pc (sq k),fun k=>rfl⟩ hM
end Lp
namespace Lp
def Vv (m q:Nat) (A:Nat->Nat->Int) (b c:Nat->Int):Nat->x0:=fun v x =>
  if v < q then (if x < m then A x v else if x = m then - c v else 0) else if v < q + m + 1 then (if x = v - q then 1 else 0) else (if x < m then b x else 0)
def S0 (m q:Nat) (A:Nat->Nat->Int) (b c:Nat->Int):Bo where
  d:=1
  T:=fun i j=>if j < q then (if i < m then A i j else - c j) else (if i < m then b i else 0)
  ins:=fun i=>q + i
  outs:=fun j=>if j < q then j else q + m + 1
section
variable {m q:Nat} {A:Nat->Nat->Int} {b c:Nat->Int}
theorem b0f {v x:Nat} (h:v < q):Vv m q A b c v x = if x < m then A x v else if x = m then - c v else 0:=by unfold Vv; rw [if_pos h]
theorem b2x {i:Nat} (h:i < m + 1):Vv m q A b c (q + i) = M1 i:=by
  funext x
  unfold Vv M1
  rw [if_neg (by lia),if_pos (by lia),show q + i - q = i by lia]
theorem b2D {x:Nat}:Vv m q A b c (q + m + 1) x = if x < m then b x else 0:=by unfold Vv; rw [if_neg (by lia),if_neg (by lia)]
theorem a9Z {v x:Nat} (h:m < x):Vv m q A b c v x = 0:=by
  unfold Vv
  by_cases h1:v < q
  . rw [if_pos h1,if_neg (by lia),if_neg (by lia)]
  . rw [if_neg h1]
    by_cases h2:v < q + m + 1
    . rw [if_pos h2,if_neg (by lia)]
    . rw [if_neg h2,if_neg (by lia)]
theorem Bs0:Bs m (Vv m q A b c) (S0 m q A b c).ins = (List.range (m + 1)).map M1:=by
  unfold Bs
  exact List.map_congr_left fun i hi=>b2x (List.mem_range.mp hi)
theorem a3A {n k:Nat} (h:k < n):((List.range n).map M1).getD k zv = M1 k:=by rw [List.getD_eq_getElem?_getD,List.getElem?_map,List.getElem?_range h]; rfl
theorem a1O {n:Nat} {u:x0} (hu:∀ x,n <= x->u x = 0) (x:Nat):sumTo (fun k=>u k * M1 k x) n = u x:=by
  by_cases h:x < n
  . rw [sum_one h fun k _ hn=>by show u k * (if x = k then 1 else 0) = 0; rw [if_neg (Ne.symm hn),Int.mul_zero]]
    show u x * (if x = x then 1 else 0) = u x
    rw [if_pos rfl,Int.mul_one]
  . rw [hu x (by lia)]
    refine sum_zero fun k hk=>?_
    show u k * (if x = k then 1 else 0) = 0
    rw [if_neg (by lia),Int.mul_zero]
theorem W9 {n i:Nat} (hi:i < n) {u:x0} (hu:∀ x,n <= x->u x = 0):v9 n (((List.range n).map M1).set i u) = u i:=by
  have hl:((List.range n).map M1).length = n:=by rw [List.length_map,List.length_range]
  have h:=a0H hl hi u M1 n
  have e:(fun x:Nat=>sumTo (fun k=>u k * M1 k x) n) = u:=by funext x; exact a1O hu x
  rw [e,sum_one hi fun k hk hn=>?_] at h
  . rw [h,<- a3A hi,K1 (by lia),Y1,Int.mul_one]
  . have:v9 n (((List.range n).map M1).set i (M1 k)) = 0:=by
      refine R6 (i:=k) (k:=i) (u:=M1 k) (by rw [List.length_set]; exact hl) hn ?_ ?_
      . rw [List.getElem?_set_ne (Ne.symm hn),List.getElem?_map,List.getElem?_range hk]; rfl
      . rw [List.getElem?_set_self (by lia)]
    rw [this,Int.mul_zero]
theorem wf0 (hb:∀ i,i < m->0 <= b i):Wf m q (Vv m q A b c) (S0 m q A b c):=by
  have far:∀ v x,m + 1 <= x->Vv m q A b c v x = 0:=fun v x h=>a9Z (by lia)
  refine ⟨?_,fun i j hi hj=>?_,fun j hj x=>?_,Int.one_pos,fun i hi=>?_,rfl,?_,fun i hi=>?_,fun j hj=>?_,fun i k hi hk e=>?_,fun j k hj hk e=>?_,fun i j hi hj e=>?_,fun v hv=>?_⟩
  . rw [Bs0,Y1]; rfl
  . rw [Bs0,W9 hi (far _)]
    show (if j < q then (if i < m then A i j else - c j) else (if i < m then b i else 0)) = Vv m q A b c (if j < q then j else q + m + 1) i
    by_cases h:j < q
    . rw [if_pos h,if_pos h,b0f h]
      by_cases h2:i < m
      . rw [if_pos h2,if_pos h2]
      . rw [if_neg h2,if_neg h2,if_pos (by lia)]
    . rw [if_neg h,if_neg h,b2D]
  . rw [Bs0,Y1,Int.one_mul]
    have e:sumTo (fun k=>v9 (m + 1) (((List.range (m + 1)).map M1).set k (Vv m q A b c ((S0 m q A b c).outs j))) * (((List.range (m + 1)).map M1).getD k zv) x) (m + 1) = sumTo (fun k=>Vv m q A b c ((S0 m q A b c).outs j) k * M1 k x) (m + 1) :=
      sum_congr fun k hk=>by rw [W9 hk (far _),a3A hk]
    rw [e,a1O (far _)]
  . show 0 <= (if q < q then _ else (if i < m then b i else 0))
    rw [if_neg (Nat.lt_irrefl _),if_pos hi]; exact hb i hi
  . show (if q < q then q else q + m + 1) = q + m + 1
    rw [if_neg (Nat.lt_irrefl _)]
  . show q + i < q + m; lia
  . show (if j < q then j else q + m + 1) < q + m
    rw [if_pos hj]; lia
  . replace e:q + i = q + k:=e
    lia
  . replace e:(if j < q then j else q + m + 1) = (if k < q then k else q + m + 1):=e
    rw [if_pos hj,if_pos hk] at e
    exact e
  . replace e:q + i = (if j < q then j else q + m + 1):=e
    rw [if_pos hj] at e
    lia
  . by_cases h:v < q
    . exact .inr ⟨v,h,if_pos h⟩
    . exact .inl ⟨v - q,by lia,by show q + (v - q) = v; lia⟩
theorem ker0 {z:Nat->Int}:Ker m q (Vv m q A b c) (S0 m q A b c) z ↔ (∀ i,i < m->z (q + i) + sumTo (fun j=>A i j * z j) q + b i * z (q + m + 1) = 0)/\z (q + m) = sumTo (fun j=>c j * z j) q:=by
  have e:∀ x,sumTo (fun k=>z ((S0 m q A b c).ins k) * Vv m q A b c ((S0 m q A b c).ins k) x) (m + 1) + sumTo (fun j=>z ((S0 m q A b c).outs j) * Vv m q A b c ((S0 m q A b c).outs j) x) (q + 1)
      = (if x < m + 1 then z (q + x) else 0) + (sumTo (fun j=>z j * Vv m q A b c j x) q + z (q + m + 1) * (if x < m then b x else 0)):=fun x=>by
    have e1:sumTo (fun k=>z ((S0 m q A b c).ins k) * Vv m q A b c ((S0 m q A b c).ins k) x) (m + 1) = if x < m + 1 then z (q + x) else 0:=by
      have:sumTo (fun k=>z ((S0 m q A b c).ins k) * Vv m q A b c ((S0 m q A b c).ins k) x) (m + 1) = sumTo (fun k=>z (q + k) * M1 k x) (m + 1):=sum_congr fun k hk=>by
        show z (q + k) * Vv m q A b c (q + k) x = _
        rw [b2x hk]
      rw [this]
      by_cases h:x < m + 1
      . rw [if_pos h,sum_one h fun k _ hn=>by show z (q + k) * (if x = k then 1 else 0) = 0; rw [if_neg (Ne.symm hn),Int.mul_zero]]
        show z (q + x) * (if x = x then 1 else 0) = _
        rw [if_pos rfl,Int.mul_one]
      . rw [if_neg h]
        refine sum_zero fun k hk=>?_
        show z (q + k) * (if x = k then 1 else 0) = 0
        rw [if_neg (by lia),Int.mul_zero]
    have e2:sumTo (fun j=>z ((S0 m q A b c).outs j) * Vv m q A b c ((S0 m q A b c).outs j) x) (q + 1) = sumTo (fun j=>z j * Vv m q A b c j x) q + z (q + m + 1) * (if x < m then b x else 0):=by
      show sumTo (fun j=>z (if j < q then j else q + m + 1) * Vv m q A b c (if j < q then j else q + m + 1) x) q + z (if q < q then q else q + m + 1) * Vv m q A b c (if q < q then q else q + m + 1) x = _
      rw [if_neg (Nat.lt_irrefl _),b2D]
      have:sumTo (fun j=>z (if j < q then j else q + m + 1) * Vv m q A b c (if j < q then j else q + m + 1) x) q = sumTo (fun j=>z j * Vv m q A b c j x) q:=sum_congr fun j hj=>by rw [if_pos hj]
      rw [this]
    rw [e1,e2]
  have am:∀ i,i < m->sumTo (fun j=>z j * Vv m q A b c j i) q = sumTo (fun j=>A i j * z j) q:=fun i hi=>sum_congr fun j hj=>by rw [b0f hj,if_pos hi,Int.mul_comm]
  have ob:sumTo (fun j=>z j * Vv m q A b c j m) q = - sumTo (fun j=>c j * z j) q:=by
    rw [show - sumTo (fun j=>c j * z j) q = (-1) * sumTo (fun j=>c j * z j) q by lia,<- u9]
    refine sum_congr fun j hj=>?_
    rw [b0f hj,if_neg (Nat.lt_irrefl _),if_pos rfl,Int.mul_neg,Int.mul_comm]
    lia
  constructor
  . intro h
    refine ⟨fun i hi=>?_,?_⟩
    . have:=h i
      rw [e i,if_pos (by lia),if_pos hi,am i hi,Int.mul_comm (z (q + m + 1))] at this
      lia
    . have:=h m
      rw [e m,if_pos (by lia),if_neg (Nat.lt_irrefl _),ob,Int.mul_zero] at this
      lia
  . rintro ⟨h1,h2⟩ x
    rw [e x]
    by_cases c1:x < m
    . have:=h1 x c1
      rw [if_pos (by lia),if_pos c1,am x c1,Int.mul_comm (z (q + m + 1))]
      lia
    . by_cases c2:x = m
      . subst c2
        rw [if_pos (by lia),if_neg (Nat.lt_irrefl _),ob,Int.mul_zero]
        lia
      . rw [if_neg (by lia),if_neg c1,Int.mul_zero,sum_zero fun j hj=>by rw [a9Z (by lia),Int.mul_zero]]
        rfl
end
def valIn (m:Nat) (S:Bo) (q v:Nat):Int:=sumTo (fun i=>if S.ins i = v then S.T i q else 0) m
def valOut (m q:Nat) (S:Bo) (v:Nat):Int:=sumTo (fun j=>if S.outs j = v then S.T m j else 0) q
theorem a3S {g:Nat->Int}:∀ {n:Nat},(∀ k,k < n->0 <= g k)->0 <= sumTo g n
  | 0,_=>Int.le_refl 0
  | n + 1,h=>by
    have h1:=a3S (g:=g) (n:=n) fun k hk=>h k (by lia)
    have h2:=h n (by lia)
    show 0 <= sumTo g n + g n
    lia
section
variable {m q:Nat} {A:Nat->Nat->Int} {b c:Nat->Int} {S:Bo}
structure Of (m q:Nat) (A:Nat->Nat->Int) (b c:Nat->Int) (S:Bo):Prop where
  w:Wf m q (Vv m q A b c) S
  k:∀ z,Ker m q (Vv m q A b c) S z ↔ Ker m q (Vv m q A b c) (S0 m q A b c) z
theorem of0 (hb:∀ i,i < m->0 <= b i):Of m q A b c (S0 m q A b c):=⟨wf0 hb,fun _=>Iff.rfl⟩
theorem Of.piv (O:Of m q A b c S) {r cc:Nat} (C:Choice m q S r cc):Of m q A b c (Lp.piv S r cc) :=
  ⟨O.w.pivot C.hr C.hc C.pos C.ratio,fun z=>(Ker.piv C.hr C.hc).trans (O.k z)⟩
theorem Of.valIn_nn (O:Of m q A b c S) (v:Nat):0 <= valIn m S q v:=a3S fun i hi=>by
  split
  . exact O.w.feas i hi
  . exact Int.le_refl 0
theorem Of.ray_val (O:Of m q A b c S) {v:Nat} (hv:v < q + m):Z3 m S q v = - valIn m S q v:=by
  unfold Z3
  rw [if_neg (by rw [O.w.oq]; lia)]
  show sumTo _ m + (if S.ins m = v then - S.T m q else 0) = _
  rw [if_neg (by rw [O.w.im]; lia),Int.add_zero]
  unfold valIn
  rw [show - sumTo (fun i=>if S.ins i = v then S.T i q else 0) m = (-1) * sumTo (fun i=>if S.ins i = v then S.T i q else 0) m by lia,<- u9]
  refine sum_congr fun i _=>?_
  split <;> lia
theorem Of.primal (O:Of m q A b c S):(∀ i,i < m->sumTo (fun j=>A i j * valIn m S q j) q + valIn m S q (q + i) = b i * S.d)/\sumTo (fun j=>c j * valIn m S q j) q = S.T m q:=by
  have K:=(ker0.mp ((O.k _).mp (O.w.ray_ker (show q < q + 1 by lia))))
  have co:Z3 m S q (q + m + 1) = S.d:=by rw [<- O.w.oq]; exact Wf.ray_c
  have oo:Z3 m S q (q + m) = - S.T m q:=by rw [<- O.w.im]; exact O.w.ray_in (by lia) (by lia)
  have am:∀ g:Nat->Int,sumTo (fun j=>g j * Z3 m S q j) q = - sumTo (fun j=>g j * valIn m S q j) q:=fun g=>by
    rw [show - sumTo (fun j=>g j * valIn m S q j) q = (-1) * sumTo (fun j=>g j * valIn m S q j) q by lia,<- u9]
    refine sum_congr fun j hj=>?_
    rw [O.ray_val (by lia),Int.mul_neg]
    lia
  refine ⟨fun i hi=>?_,?_⟩
  . have:=K.1 i hi
    rw [O.ray_val (by lia),am,co] at this
    lia
  . have:=K.2
    rw [oo,am] at this
    lia
theorem Of.valOut_nn (h:∀ j,j < q->0 <= S.T m j) (v:Nat):0 <= valOut m q S v:=a3S fun j hj=>by
  split
  . exact h j hj
  . exact Int.le_refl 0
theorem a7h (O:Of m q A b c S) (z:Nat->Int):sumTo (fun j=>S.T m j * z (S.outs j)) q = sumTo (fun v=>valOut m q S v * z v) (q + m):=by
  have e:∀ v,v < q + m->valOut m q S v * z v = sumTo (fun j=>(if S.outs j = v then S.T m j else 0) * z v) q:=fun v _=>by
    unfold valOut
    rw [Int.mul_comm,<- u9]
    exact sum_congr fun j _=>Int.mul_comm _ _
  rw [sum_congr e,R5]
  refine sum_congr fun j hj=>?_
  rw [sum_one (O.w.ob j hj) fun v _ hn=>by rw [if_neg (Ne.symm hn),Int.zero_mul],if_pos rfl]
theorem Of.row_goal (O:Of m q A b c S) {z:Nat->Int} (h:Ker m q (Vv m q A b c) (S0 m q A b c) z):S.d * z (q + m) + sumTo (fun v=>valOut m q S v * z v) (q + m) + S.T m q * z (q + m + 1) = 0:=by
  have R:=O.w.row_of ((O.k z).mpr h) (show m < m + 1 by lia)
  unfold a0W at R
  replace R:S.d * z (S.ins m) + (sumTo (fun j=>S.T m j * z (S.outs j)) q + S.T m q * z (S.outs q)) = 0:=R
  rw [O.w.im,O.w.oq,a7h O] at R
  lia
theorem Y7 {g:Nat->Int} (n:Nat):∀ k:Nat,sumTo g (n + k) = sumTo g n + sumTo (fun i=>g (n + i)) k
  | 0=>(Int.add_zero _).symm
  | k + 1=>by
    show sumTo g (n + k) + g (n + k) = sumTo g n + (sumTo (fun i=>g (n + i)) k + g (n + k))
    rw [Y7 n k]
    lia
theorem Of.dual (O:Of m q A b c S):(∀ j,j < q->sumTo (fun i=>A i j * valOut m q S (q + i)) m = c j * S.d + valOut m q S j)/\sumTo (fun i=>b i * valOut m q S (q + i)) m = S.T m q:=by
  constructor
  . intro j hj
    have hk:Ker m q (Vv m q A b c) (S0 m q A b c) (fun v=>if v < q then (if v = j then 1 else 0) else if v < q + m then - A (v - q) j else if v = q + m then c j else 0):=by
      refine ker0.mpr ⟨fun i hi=>?_,?_⟩
      . rw [if_neg (by lia),if_pos (by lia),show q + i - q = i by lia,if_neg (by lia),if_neg (by lia),if_neg (by lia),Int.mul_zero,sum_one hj fun k hk hn=>by rw [if_pos hk,if_neg hn,Int.mul_zero],if_pos hj,if_pos rfl]
        lia
      . rw [if_neg (by lia),if_neg (by lia),if_pos rfl,sum_one hj fun k hk hn=>by rw [if_pos hk,if_neg hn,Int.mul_zero],if_pos hj,if_pos rfl]
        lia
    have R:=O.row_goal hk
    rw [if_neg (by lia),if_neg (by lia),if_pos rfl,if_neg (by lia),if_neg (by lia),if_neg (by lia),Int.mul_zero,Y7,sum_one hj fun k hk hn=>by rw [if_pos hk,if_neg hn,Int.mul_zero],if_pos hj,if_pos rfl] at R
    have e:sumTo (fun i=>valOut m q S (q + i) * (if q + i < q then (if q + i = j then 1 else 0) else if q + i < q + m then - A (q + i - q) j else if q + i = q + m then c j else 0)) m = - sumTo (fun i=>A i j * valOut m q S (q + i)) m:=by
      rw [show - sumTo (fun i=>A i j * valOut m q S (q + i)) m = (-1) * sumTo (fun i=>A i j * valOut m q S (q + i)) m by lia,<- u9]
      refine sum_congr fun i hi=>?_
      rw [if_neg (by lia),if_pos (by lia),show q + i - q = i by lia,Int.mul_neg,Int.mul_comm]
      lia
    rw [e,Int.mul_comm S.d] at R
    lia
  . have hk:Ker m q (Vv m q A b c) (S0 m q A b c) (fun v=>if v < q then 0 else if v < q + m then b (v - q) else if v = q + m then 0 else -1):=by
      refine ker0.mpr ⟨fun i hi=>?_,?_⟩
      . rw [if_neg (by lia),if_pos (by lia),show q + i - q = i by lia,if_neg (by lia),if_neg (by lia),if_neg (by lia),sum_zero fun k hk=>by rw [if_pos hk,Int.mul_zero]]
        lia
      . rw [if_neg (by lia),if_neg (by lia),if_pos rfl,sum_zero fun k hk=>by rw [if_pos hk,Int.mul_zero]]
    have R:=O.row_goal hk
    rw [if_neg (by lia),if_neg (by lia),if_pos rfl,if_neg (by lia),if_neg (by lia),if_neg (by lia),Int.mul_zero,Y7,sum_zero fun k hk=>by rw [if_pos hk,Int.mul_zero]] at R
    have e:sumTo (fun i=>valOut m q S (q + i) * (if q + i < q then 0 else if q + i < q + m then b (q + i - q) else if q + i = q + m then 0 else -1)) m = sumTo (fun i=>b i * valOut m q S (q + i)) m :=
      sum_congr fun i hi=>by rw [if_neg (by lia),if_pos (by lia),show q + i - q = i by lia,Int.mul_comm]
    rw [e] at R
    lia
end
end Lp
namespace Rim
open PySem L2
def W3 (i:Nat):Stmt:=PySem.Challenge.pw_rimhouse_k32_whole_two_kept.main.body.getD i (.Pass ⟨0,0,0,0⟩)
abbrev b0D:Stmt:=W3 7
abbrev b0E:Stmt:=W3 8
abbrev b0P:Stmt:=W3 15
abbrev a4y:Stmt:=W3 22
abbrev F0:Stmt:=W3 24
abbrev K7:Stmt:=W3 27
abbrev T0:Stmt:=W3 28
abbrev a6Z:Stmt:=W3 33
abbrev a4H:Stmt:=W3 34
abbrev a1q:Stmt:=W3 19
abbrev a0i:Stmt:=W3 29
abbrev a4a:Stmt:=W3 31
abbrev a8m:Stmt:=W3 39
abbrev a4d:Stmt:=W3 40
abbrev W4:Stmt:=W3 45
abbrev V6:Stmt:=W3 12
abbrev M5:Stmt:=W3 13
abbrev V5:Stmt:=W3 14
abbrev K5:Stmt:=W3 17
abbrev G9:Stmt:=W3 18
abbrev J8:Stmt:=W3 20
abbrev Z4:Stmt:=W3 36
abbrev O2:Stmt:=W3 37
abbrev M3:Stmt:=W3 42
abbrev D3:Stmt:=W3 43
abbrev M9:Stmt:=W3 44
abbrev G8:Stmt:=x5 O2 0
abbrev x6:Stmt:=x5 O2 1
abbrev Q6:Stmt:=x5 O2 2
abbrev a0b:Stmt:=x5 O2 3
abbrev O6:Stmt:=x5 O2 4
abbrev R3:Stmt:=x5 O2 5
abbrev M4:Stmt:=x5 O2 6
abbrev M2:Stmt:=x5 O2 7
abbrev U8:Stmt:=x5 O2 8
abbrev V7:Stmt:=W3 23
abbrev a3u:Stmt:=x5 V7 0
abbrev a2P:Stmt:=x5 V7 1
abbrev a4b:Stmt:=x5 V7 2
abbrev a4v:Stmt:=x5 V7 3
abbrev J7:Stmt:=x5 V7 4
abbrev a8i:Stmt:=x5 V7 5
abbrev b0t:Stmt:=x5 V7 6
abbrev a6x:Pos:=⟨79,32,79,64⟩
end Rim
namespace Rim
open PySem L2
structure v7 (mg:Str->Option Value):Prop where
  len:mg "len" = none
  all:mg "all" = none
  any:mg "any" = none
  max:mg "max" = none
  min:mg "min" = none
  sum:mg "sum" = none
  tuple:mg "tuple" = none
  list:mg "list" = none
  int:mg "int" = none
  bool:mg "bool" = none
  range:mg "range" = none
  isi:mg "isinstance" = none
  abs:mg "abs" = none
  zip:mg "zip" = none
  enum:mg "enumerate" = none
  ve:mg "ValueError" = none
  so:mg "sorted" = none
theorem V3 (K:W.Frag) {X:Cx} (h:X.K = K):IxR X (b1x K):=by subst h; exact i8
theorem P1 (K:W.Frag) {X:Cx} {es:List Expr} {k:Nat} {t:TGs} {n:Nat} {pos:Pos} (h:X.K = K) (hc:X.calm = true) (hp:PGs X es t) (hn:(assignEach es X.env).length = n:=by rfl) (hst:(assignEach es X.env).findIdx? (·.1) = none:=by rfl):PG X (.Tuple es k pos) (a3k K n t):=by subst h; exact V0 hc hp hn hst
def b2A (K:W.Frag):List V->Hp->VK->Prop:=fun xs H Q=>∃ p ys,xs = [.ref p]/\(SqL K H p ys \/ SqT K H p ys)/\∀ l,H l = none->Q (.ref l) (m5 H l (.lst ys))
theorem a4T (K:W.Frag) {X:Cx} (h:X.K = K):G4 X (.type "list") (b2A K):=by subst h; exact x9
def vI:V->Int
  | .int i=>i
  | _=>0
theorem K4 {ns:List Int} {i:Nat} {x:V} (h:(ns.map V.int)[i]? = some x):∃ k,x = .int k:=by
  rw [List.getElem?_map] at h
  cases hn:ns[i]? with
  | none=>rw [hn] at h; cases h
  | some k=>rw [hn] at h; cases h; exact ⟨k,rfl⟩
theorem b2d {N:VK} {b b':Bool} {H:Hp} (h:N (.bl b) H) (e:b' = b):N (.bl b') H:=by rw [e]; exact h
abbrev i5:=List Int × List Int
def HS (K:W.Frag) (H:Hp) (v:V) (h:i5):Prop:=∃ a t g,v = .ref a/\SqT K H a [.ref t,.ref g]/\SqT K H t (h.1.map V.int)/\SqT K H g (h.2.map V.int)
abbrev Bk (K:W.Frag) (H:Hp):List V->List i5->Prop:=PySem.Paired (HS K H)
theorem HS.same {K:W.Frag} {H H':Hp} {v:V} {h:i5} (e:Same H H') (x:HS K H v h):HS K H' v h:=by
  obtain ⟨a,t,g,h0,h1,h2,h3⟩:=x
  exact ⟨a,t,g,h0,e.tseq h1,e.tseq h2,e.tseq h3⟩
theorem Bk.same {K:W.Frag} {H H':Hp} {vs:List V} {hs:List i5} (e:Same H H') (x:Bk K H vs hs):Bk K H' vs hs:=Paired.imp' (fun _ _ r=>HS.same e r) x
theorem Paired.at {α β:Type} {F:α->β->Prop}:∀ {l₁:List α} {l₂:List β},PySem.Paired F l₁ l₂->∀ {i:Nat} {x:α},l₁[i]? = some x->∃ y,l₂[i]? = some y/\F x y
  | _,_,.nil,_,_,e=>by simp at e
  | _,_,.cons r _,0,_,e=>by simp at e; subst e; exact ⟨_,rfl,r⟩
  | _,_,.cons _ t,i + 1,x,e=>by
    obtain ⟨y,h1,h2⟩:=Paired.at t (i:=i) (x:=x) (by simpa using e)
    exact ⟨y,by simpa using h1,h2⟩
end Rim
namespace Rim
open PySem L2
def t9 (q:Nat) (S:Lp.Bo) (i:Nat):List Int:=(List.range (q + 1)).map (S.T i)
def E7 (q:Nat) (S:Lp.Bo):List Int:=(List.range q).map fun j=>(S.outs j:Int)
def K9 (m:Nat) (S:Lp.Bo):List Int:=(List.range m).map fun i=>(S.ins i:Int)
abbrev bdF (q:Nat) (d:Int) (ca oa ia:Addr):List (Str × V):=[("many",.int q),("scale",.int d),("cells",.ref ca),("outs",.ref oa),("ins",.ref ia)]
structure Bd (C:Addr) (H:Hp) (p dx ca oa ia:Addr) (rs:List Addr) (m q:Nat) (S:Lp.Bo):Prop where
  obj:H p = some (.ins C dx (bdF q S.d ca oa ia))
  cel:H ca = some (.lst (rs.map V.ref))
  len:rs.length = m + 1
  row:∀ i r,rs[i]? = some r->H r = some (.lst ((t9 q S i).map V.int))
  out:H oa = some (.lst ((E7 q S).map V.int))
  inn:H ia = some (.lst ((K9 m S).map V.int))
  ne:oa ≠ ia
structure TB (K:W.Frag) (C:Addr):Prop where
  cl:Cls K C
  nM:NoAttr K C "many"
  nS:NoAttr K C "scale"
  nC:NoAttr K C "cells"
  nO:NoAttr K C "outs"
  nI:NoAttr K C "ins"
section
variable {C:Addr} {H H':Hp} {p dx ca oa ia:Addr} {rs:List Addr} {m q:Nat} {S:Lp.Bo}
theorem Bd.rs_at (B:Bd C H p dx ca oa ia rs m q S) {i:Nat} (h:i < m + 1):∃ r,rs[i]? = some r/\X3 (rs.map V.ref) (i:Int) = some (.ref r):=by
  have h':i < rs.length:=by rw [B.len]; exact h
  refine ⟨rs[i],List.getElem?_eq_getElem h',E4 ?_⟩
  rw [List.getElem?_map,List.getElem?_eq_getElem h']; rfl
theorem S6 {i j:Nat} (h:j < q + 1):X3 ((t9 q S i).map V.int) (j:Int) = some (.int (S.T i j)):=E4 (by
  unfold t9
  rw [List.getElem?_map,List.getElem?_map,List.getElem?_range h]; rfl)
theorem a5g {α:Type} {xs:List α} {n:Nat} {v:α} (hl:xs.length = n + 1) (h:xs[n]? = some v):X3 xs (-1) = some v:=by
  have e:ixN xs.length (-1) = some n:=by
    unfold ixN
    rw [hl,if_neg (by decide),if_pos (by lia)]
    congr 1
    lia
  unfold X3; rw [e]; exact h
theorem R9 {i:Nat}:X3 ((t9 q S i).map V.int) (-1) = some (.int (S.T i q)):=a5g (n:=q) (by unfold t9; simp) (by
  unfold t9
  rw [List.getElem?_map,List.getElem?_map,List.getElem?_range (Nat.lt_succ_self _)]; rfl)
theorem Bd.rs_last (B:Bd C H p dx ca oa ia rs m q S):∃ r,rs[m]? = some r/\X3 (rs.map V.ref) (-1) = some (.ref r):=by
  have h':m < rs.length:=by rw [B.len]; exact Nat.lt_succ_self _
  refine ⟨rs[m],List.getElem?_eq_getElem h',a5g (n:=m) (by simpa using B.len) ?_⟩
  rw [List.getElem?_map,List.getElem?_eq_getElem h']; rfl
theorem a0A {i:Nat} (h:i < m):X3 ((K9 m S).map V.int) (i:Int) = some (.int (S.ins i)):=E4 (by
  unfold K9
  rw [List.getElem?_map,List.getElem?_map,List.getElem?_range h]; rfl)
theorem a0N {j:Nat} (h:j < q):X3 ((E7 q S).map V.int) (j:Int) = some (.int (S.outs j)):=E4 (by
  unfold E7
  rw [List.getElem?_map,List.getElem?_map,List.getElem?_range h]; rfl)
theorem Bd.same1 {P:Addr} (B:Bd C H p dx ca oa ia rs m q S) (e:∀ b o,H b = some o->(∀ ps,o ≠ .tbl ps)->H' b = some o):Bd C H' p dx ca oa ia rs m q S :=
  ⟨e _ _ B.obj fun _=>nofun,e _ _ B.cel fun _=>nofun,B.len,fun i r h=>e _ _ (B.row i r h) fun _=>nofun,e _ _ B.out fun _=>nofun,e _ _ B.inn fun _=>nofun,B.ne⟩
def Sz (n m q:Nat) (S:Lp.Bo):Prop:=(∀ i j,i < m + 1->j < q + 1->Big n (S.T i j))/\Big n S.d
end
section
variable {P:Program} {w:World} {K:W.Frag} {mg:Str->Option Value} {base:Heap} {f:Addr} {fd:FuncData} {n:Nat} {C:Addr}
theorem a7H {a b:Nat} {x:Int} (h:Big a x) (hab:a <= b):Big b x:=Nat.lt_of_lt_of_le h (Nat.pow_le_pow_right (by decide) hab)
def Z0 (q:Nat) (S:Lp.Bo) (i o c:Nat):Bool:=if S.T i q * S.T o c = S.T o q * S.T i c then decide (S.ins i < S.ins o) else decide (S.T i q * S.T o c < S.T o q * S.T i c)
def a5c (C:Addr):Sp:=fun vs H Q _=>∃ (p dx ca oa ia:Addr) (rs:List Addr) (m q:Nat) (S:Lp.Bo) (i o c:Nat),vs = [.ref p,.int i,.int o,.int c]/\Bd C H p dx ca oa ia rs m q S/\Sz 4000 m q S/\i < m/\o < m/\c < q + 1/\Q (.bl (Z0 q S i o c)) H
theorem scAhead:j3 ["self","row","other","column","left","right"] ["self","row","other","column"] (h8 a4v):=⟨rfl,rfl,rfl,by decide +kernel,rfl,by decide +kernel,by decide +kernel⟩
theorem a7l (F:Fun K "is_ahead" "Board.is_ahead" a4v f fd) (T:TB K C):FnOk P w K mg base D6 (n + 1) f fd ["self","row","other","column"] (a5c C):=by
  refine F.ok scAhead (fun vs H Q E h=>?_) (fun cdv A outer s H vs Q E hr h=>?_)
  . obtain ⟨p,dx,ca,oa,ia,rs,m,q,S,i,o,c,rfl,_⟩:=h
    rfl
  obtain ⟨p,dx,ca,oa,ia,rs,m,q,S,i,o,c,rfl,B,hz,hi,ho,hc,k⟩:=h
  refine ⟨_,i4 (m8 (i:=4) scAhead.nd rfl (Or.inl rfl) (i9 a0D (j0 i8 (j0 i8 (j4 (pv 0) rfl) (pv 1) (fun _ _=>rfl)) (L8 E1 d9) (fun _ _=>rfl)) (j0 i8 (j0 i8 (j4 (pv 0) rfl) (pv 2) (fun _ _=>rfl)) (pv 3) (fun _ _=>rfl))))
    (i4 (m8 (i:=5) scAhead.nd rfl (Or.inl rfl) (i9 a0D (j0 i8 (j0 i8 (j4 (pv 0) rfl) (pv 2) (fun _ _=>rfl)) (L8 E1 d9) (fun _ _=>rfl)) (j0 i8 (j0 i8 (j4 (pv 0) rfl) (pv 1) (fun _ _=>rfl)) (pv 3) (fun _ _=>rfl))))
    (i4 (x8 (o4 X0 (pv 4) (pv 5) (o6 _)) (i7 (m7 (P0 a1h (j0 i8 (j4 (pv 0) rfl) (pv 1) (fun _ _=>rfl)) (j0 i8 (j4 (pv 0) rfl) (pv 2) (fun _ _=>rfl)) (o6 _)))) r6)
    (i7 (m7 (P0 a1h (pv 4) (pv 5) (o6 _)))))),?_⟩
  obtain ⟨ri,ei,ai⟩:=B.rs_at (i:=i) (by lia)
  obtain ⟨ro,eo,ao⟩:=B.rs_at (i:=o) (by lia)
  have bi:=SqL.of (K:=K) (B.row i ri ei)
  have bo:=SqL.of (K:=K) (B.row o ro eo)
  have z:∀ i j,i < m + 1->j < q + 1->Big 1000000 (S.T i j):=fun i j h1 h2=>a7H (hz.1 i j h1 h2) (by decide)
  refine ⟨_,rfl,p,C,dx,_,_,rfl,B.obj,T.cl,T.nC,rfl,_,rfl,ca,_,_,_,rfl,rfl,SqL.of B.cel,ai,_,rfl,ri,_,_,_,rfl,rfl,bi,R9,?_⟩
  refine ⟨_,rfl,p,C,dx,_,_,rfl,B.obj,T.cl,T.nC,rfl,_,rfl,ca,_,_,_,rfl,rfl,SqL.of B.cel,ao,_,rfl,ro,_,_,_,rfl,rfl,bo,S6 hc,_,_,rfl,rfl,⟨z _ _ (by lia) (by lia),z _ _ (by lia) (by lia)⟩,?_⟩
  refine ⟨_,rfl,p,C,dx,_,_,rfl,B.obj,T.cl,T.nC,rfl,_,rfl,ca,_,_,_,rfl,rfl,SqL.of B.cel,ao,_,rfl,ro,_,_,_,rfl,rfl,bo,R9,?_⟩
  refine ⟨_,rfl,p,C,dx,_,_,rfl,B.obj,T.cl,T.nC,rfl,_,rfl,ca,_,_,_,rfl,rfl,SqL.of B.cel,ai,_,rfl,ri,_,_,_,rfl,rfl,bi,S6 hc,_,_,rfl,rfl,⟨z _ _ (by lia) (by lia),z _ _ (by lia) (by lia)⟩,?_⟩
  refine ⟨_,rfl,_,rfl,rfl,_,rfl,?_⟩
  unfold Z0 at k
  refine C3 (fun e=>?_) (fun e=>?_)
  . have e':S.T i q * S.T o c = S.T o q * S.T i c:=by simpa using e
    rw [if_pos e'] at k
    refine ⟨_,rfl,p,C,dx,_,_,rfl,B.obj,T.cl,T.nI,rfl,_,rfl,ia,_,_,_,rfl,rfl,SqL.of B.inn,a0A hi,_,rfl,p,C,dx,_,_,rfl,B.obj,T.cl,T.nI,rfl,_,rfl,ia,_,_,_,rfl,rfl,SqL.of B.inn,a0A ho,_,_,rfl,rfl,?_⟩
    refine b2d k ?_
    simp
  . have e':¬ S.T i q * S.T o c = S.T o q * S.T i c:=by simpa using e
    rw [if_neg e'] at k
    exact ⟨_,rfl,_,rfl,_,_,rfl,rfl,k⟩
end
end Rim
namespace Rim
open PySem L2
structure a6g (P:Program) (w:World) (K:W.Frag) (mg:Str->Option Value) (base:Heap) (n:Nat) (C:Addr) (m:Str) (ps:List Str) (sp:Sp) (f:Addr) (fd:FuncData):Prop where
  ok:FnOk P w K mg base D6 n f fd ps sp
  bd:Binds K fd ps []
  me:a8o K C m f
def Bet (q:Nat) (S:Lp.Bo) (c r i:Nat):Prop:=S.T r q * S.T i c <= S.T i q * S.T r c/\(S.T r q * S.T i c = S.T i q * S.T r c->S.ins r <= S.ins i)
theorem a6q {ar cr ab cb ai ci:Int} (h1:ar * cb <= ab * cr) (h2:ab * ci <= ai * cb) (pr:0 < cr) (pb:0 < cb) (pi:0 < ci):ar * ci <= ai * cr/\(ar * ci = ai * cr->ar * cb = ab * cr/\ab * ci = ai * cb):=by
  have e1:ar * cb * ci <= ab * cr * ci:=Int.mul_le_mul_of_nonneg_right h1 (Int.le_of_lt pi)
  have e2:ab * ci * cr <= ai * cb * cr:=Int.mul_le_mul_of_nonneg_right h2 (Int.le_of_lt pr)
  have x1:ar * cb * ci = ar * ci * cb:=by rw [Int.mul_assoc,Int.mul_comm cb ci,<- Int.mul_assoc]
  have x2:ab * cr * ci = ab * ci * cr:=by rw [Int.mul_assoc,Int.mul_comm cr ci,<- Int.mul_assoc]
  have x3:ai * cb * cr = ai * cr * cb:=by rw [Int.mul_assoc,Int.mul_comm cb cr,<- Int.mul_assoc]
  rw [x1] at e1
  rw [x3] at e2
  refine ⟨Int.le_of_mul_le_mul_right (a:=cb) (by lia) pb,fun e=>?_⟩
  rw [e] at e1
  refine ⟨Int.eq_of_mul_eq_mul_right (a:=ci) (by omega) (by rw [x1,e]; omega),Int.eq_of_mul_eq_mul_right (a:=cr) (by omega) (by rw [x3]; omega)⟩
theorem Bet.trans {q:Nat} {S:Lp.Bo} {c r b i:Nat} (h1:Bet q S c r b) (h2:Bet q S c b i) (pr:0 < S.T r c) (pb:0 < S.T b c) (pi:0 < S.T i c):Bet q S c r i:=by
  obtain ⟨a,t⟩:=a6q h1.1 h2.1 pr pb pi
  exact ⟨a,fun e=>Nat.le_trans (h1.2 (t e).1) (h2.2 (t e).2)⟩
theorem a5P {q:Nat} {S:Lp.Bo} {c r b:Nat} (h:Z0 q S r b c = true):Bet q S c r b:=by
  unfold Z0 at h
  by_cases e:S.T r q * S.T b c = S.T b q * S.T r c
  . rw [if_pos e] at h
    exact ⟨Int.le_of_eq e,fun _=>Nat.le_of_lt (of_decide_eq_true h)⟩
  . rw [if_neg e] at h
    have:=of_decide_eq_true h
    exact ⟨Int.le_of_lt this,fun z=>absurd z e⟩
theorem a9f {q:Nat} {S:Lp.Bo} {c r b:Nat} (h:Z0 q S r b c = false):Bet q S c b r:=by
  unfold Z0 at h
  by_cases e:S.T r q * S.T b c = S.T b q * S.T r c
  . rw [if_pos e] at h
    exact ⟨Int.le_of_eq e.symm,fun _=>Nat.le_of_not_lt (of_decide_eq_false h)⟩
  . rw [if_neg e] at h
    have:=of_decide_eq_false h
    exact ⟨by lia,fun z=>absurd z.symm e⟩
section
variable {P:Program} {w:World} {K:W.Frag} {mg:Str->Option Value} {base:Heap} {f g:Addr} {fd gd:FuncData} {n:Nat} {C:Addr}
def a4N (C:Addr):Sp:=fun vs H Q _=>∃ (p dx ca oa ia:Addr) (rs:List Addr) (m q:Nat) (S:Lp.Bo) (c:Nat),vs = [.ref p,.int c]/\Bd C H p dx ca oa ia rs m q S/\Sz 4000 m q S/\m < 1000/\c < q + 1 ∧
  ((∀ i,i < m->¬ 0 < S.T i c)->Q .non H)/\∀ r,r < m->0 < S.T r c->(∀ i,i < m->0 < S.T i c->Bet q S c r i)->Q (.int r) H
theorem scGoing:j3 ["self","column","best","row"] ["self","column"] (h8 a4b):=⟨rfl,rfl,rfl,by decide +kernel,rfl,by decide +kernel,by decide +kernel⟩
theorem a7Z (F:Fun K "going" "Board.going" a4b f fd) (N:v7 mg) (T:TB K C) (A1:a6g P w K mg base n C "is_ahead" ["self","row","other","column"] (a5c C) g gd):FnOk P w K mg base D6 (n + 1) f fd ["self","column"] (a4N C):=by
  refine F.ok scGoing (fun vs H Q E h=>?_) (fun cdv A outer s H vs Q E hr h=>?_)
  . obtain ⟨p,dx,ca,oa,ia,rs,m,q,S,c,rfl,_⟩:=h
    rfl
  obtain ⟨p,dx,ca,oa,ia,rs,m,q,S,c,rfl,B,hz,hm,hc,kN,kI⟩:=h
  refine ⟨_,i4 (m8 (i:=2) scGoing.nd rfl (Or.inl rfl) U7)
    (i4 (V2 PassesOwn.never rfl (J6 rfl N.range (a0 (m9 j8 rfl N.len PySem.boot_len (a0 (j4 (pv 0) rfl) d8)) d8)) (j5 (i:=3) scGoing.nd rfl (Or.inl rfl))
      (i7 (x8 (PW.pt (a0c (o4 T6 (j0 i8 (j0 i8 (j4 (pv 0) rfl) (pv 3) (fun _ _=>rfl)) (pv 1) (fun _ _=>rfl)) d9 (o6 _))
          (R8 (PW.pt (a7j (o4 a4m (pv 2) U7 (o6 _)) (a4f (Z1 (G2 (pv 0) T.cl A1.me A1.ok hr A1.bd .nil p6 (a0 (pv 3) (a0 (pv 2) (a0 (pv 1) d8)))))))))))
        (i7 (m8 (i:=2) scGoing.nd rfl (Or.inl rfl) (pv 3))) r6)))
    (i7 (m7 (pv 2)))),?_⟩
  have lm:((K9 m S).map V.int).length = m:=by unfold K9; simp
  refine ⟨_,rfl,p,C,dx,_,_,rfl,B.obj,T.cl,T.nI,rfl,ia,_,rfl,.inl (SqL.of B.inn),_,rfl,(by rw [lm]; lia),(by rw [lm]; lia),?_⟩
  rw [lm,Int.toNat_natCast]
  refine a2b (n:=m) (fun k σ H'=>∃ (b o3:Option V),σ = [some (.ref p),some (.int c),b,o3]/\H' = H/\((b = some .non/\∀ i,i < k->¬ 0 < S.T i c) \/ ∃ r:Nat,b = some (.int r)/\r < k/\0 < S.T r c/\∀ i,i < k->0 < S.T i c->Bet q S c r i))
    ⟨_,_,rfl,rfl,.inl ⟨rfl,fun i hi=>absurd hi (Nat.not_lt_zero _)⟩⟩ (fun k σ H' hk hP=>?_) fun σ H' hP=>?_
  . obtain ⟨b,o3,rfl,rfl,hb⟩:=hP
    obtain ⟨rk,ek,ak⟩:=B.rs_at (i:=k) (by lia)
    have zk:(0:Int) + (k:Int) = (k:Int):=Int.zero_add _
    rw [zk]
    refine ⟨_,rfl,p,C,dx,_,_,rfl,B.obj,T.cl,T.nC,rfl,_,rfl,ca,_,_,_,rfl,rfl,SqL.of B.cel,ak,_,rfl,rk,_,_,_,rfl,rfl,SqL.of (B.row k rk ek),S6 hc,_,_,rfl,rfl,_,rfl,?_⟩
    have keep:¬ 0 < S.T k c->((b = some .non/\∀ i,i < k + 1->¬ 0 < S.T i c) \/ ∃ r:Nat,b = some (.int r)/\r < k + 1/\0 < S.T r c/\∀ i,i < k + 1->0 < S.T i c->Bet q S c r i):=fun hn=>by
      rcases hb with ⟨e,hb⟩ | ⟨r,e,h1,h2,h3⟩
      . refine .inl ⟨e,fun i hi=>?_⟩
        by_cases z:i = k
        . subst z; exact hn
        . exact hb i (by lia)
      . refine .inr ⟨r,e,by lia,h2,fun i hi hp=>?_⟩
        by_cases z:i = k
        . subst z; exact absurd hp hn
        . exact h3 i (by lia) hp
    refine C3 (fun d=>?_) (fun d=>?_)
    . have d':0 < S.T k c:=of_decide_eq_true d
      rcases hb with ⟨rfl,hb⟩ | ⟨r,rfl,h1,h2,h3⟩
      . refine ⟨_,rfl,rfl,_,rfl,?_⟩
        refine C3 (fun _=>?_) (fun z=>absurd (decide_eq_true rfl) z)
        refine a0r ?_
        refine ⟨_,rfl,⟨_,_,rfl,rfl,.inr ⟨k,rfl,by lia,d',fun i hi hp=>?_⟩⟩⟩
        by_cases z:i = k
        . subst z; exact ⟨Int.le_refl _,fun _=>Nat.le_refl _⟩
        . exact absurd hp (hb i (by lia))
      . refine ⟨_,rfl,rfl,_,rfl,?_⟩
        refine C3 (fun z=>absurd (of_decide_eq_true z) (by nofun)) (fun _=>?_)
        refine ⟨_,rfl,p,dx,_,rfl,B.obj,rfl,_,rfl,_,rfl,_,rfl,?_⟩
        refine ⟨p,dx,ca,oa,ia,rs,m,q,S,k,r,c,rfl,B,hz,hk,by lia,hc,_,rfl,?_⟩
        refine C3 (fun e=>?_) (fun e=>?_)
        . have bt:=a5P e
          refine ⟨_,rfl,⟨_,_,rfl,rfl,.inr ⟨k,rfl,by lia,d',fun i hi hp=>?_⟩⟩⟩
          by_cases z:i = k
          . subst z; exact ⟨Int.le_refl _,fun _=>Nat.le_refl _⟩
          . exact bt.trans (h3 i (by lia) hp) d' h2 hp
        . have bt:=a9f (Bool.eq_false_iff.mpr e)
          refine ⟨_,_,rfl,rfl,.inr ⟨r,rfl,by lia,h2,fun i hi hp=>?_⟩⟩
          by_cases z:i = k
          . subst z; exact bt
          . exact h3 i (by lia) hp
    . have d':¬ 0 < S.T k c:=fun z=>d (decide_eq_true z)
      exact ⟨_,_,rfl,rfl,keep d'⟩
  . obtain ⟨b,o3,rfl,rfl,hb⟩:=hP
    rcases hb with ⟨rfl,hb⟩ | ⟨r,rfl,h1,h2,h3⟩
    . exact ⟨_,rfl,kN hb⟩
    . exact ⟨_,rfl,kI r h1 h2 h3⟩
end
end Rim
namespace Rim
open PySem L2
abbrev b2b:Str:=("Board.coming" ++ ".<locals>.") ++ "<lambda>"
abbrev LT (Pt:Addr) (H:Hp):Prop:=LamTab Pt a6x b2b H
section
variable {P:Program} {w:World} {K:W.Frag} {mg:Str->Option Value} {base:Heap} {f g c Pt:Addr} {fd gd:FuncData} {n:Nat} {C:Addr}
def a1r (C Pt:Addr):Sp:=fun vs H Q _=>∃ (p dx ca oa ia:Addr) (rs:List Addr) (m q:Nat) (S:Lp.Bo),vs = [.ref p]/\Bd C H p dx ca oa ia rs m q S/\q < 1000/\LT Pt H ∧
  ∀ H',Same1 Pt H H'->LT Pt H'->((∀ j,j < q->¬ S.T m j < 0)->Q .non H')/\∀ j,j < q->S.T m j < 0->(∀ i,i < q->S.T m i < 0->S.outs j <= S.outs i)->Q (.int j) H'
theorem scComing:j3 ["self","columns"] ["self"] (h8 a2P):=⟨rfl,rfl,rfl,by decide +kernel,rfl,by decide +kernel,by decide +kernel⟩
theorem b1w:(["column","self"]:List Str).Nodup:=by decide +kernel
theorem LamTab.new {Pt a:Addr} {pos:Pos} {qual:Str} {H:Hp} {o:HO} (T:LamTab Pt pos qual H) (h:H a = none):LamTab Pt pos qual (m5 H a o):=T.same fun b u e=>by rw [c9 (d7 e h)]; exact e
def a6m (q:Nat) (S:Lp.Bo) (m:Nat):List Int:=((List.range q).filter fun j=>decide (S.T m j < 0)).map fun (j:Nat)=>(j:Int)
theorem a7T {q:Nat} {S:Lp.Bo} {m:Nat}:((List.range q).map fun (i:Nat)=>V.int (0 + (i:Int))).filter (fun v=>decide (S.T m (vI v).toNat < 0)) = (a6m q S m).map V.int:=by
  unfold a6m
  rw [List.filter_map,List.map_map]
  have e:((fun v=>decide (S.T m (vI v).toNat < 0)) ∘ fun (i:Nat)=>V.int (0 + (i:Int))) = fun j=>decide (S.T m j < 0):=by
    funext j
    show decide (S.T m (vI (V.int (0 + (j:Int)))).toNat < 0) = _
    rw [show (vI (V.int (0 + (j:Int)))).toNat = j from by simp [vI]]
  rw [e]
  refine List.map_congr_left fun j _=>?_
  simp
theorem Bd.lam {H H':Hp} {p dx ca oa ia:Addr} {rs:List Addr} {m q:Nat} {S:Lp.Bo} (B:Bd C H p dx ca oa ia rs m q S) (T:LT Pt H) (e:Same1 Pt H H'):Bd C H' p dx ca oa ia rs m q S:=by
  refine B.same1 (P:=Pt) fun b o q n=>e b o (fun z=>?_) q
  subst z
  rcases T with t | ⟨c,t,_⟩
  . rw [q] at t; exact n _ (Option.some.inj t)
  . rw [q] at t; exact n _ (Option.some.inj t)
theorem a5O (F:Fun K "coming" "Board.coming" a2P f fd) (hcode:fd.code = .ref c) (CH:W.CodeHd base c Pt) (BM:O1 mg base) (N:v7 mg) (T:TB K C):FnOk P w K mg base D6 (n + 3) f fd ["self"] (a1r C Pt):=by
  refine F.okC hcode scComing (fun vs H Q E h=>?_) (fun A outer s H vs Q E hr h=>?_)
  . obtain ⟨p,dx,ca,oa,ia,rs,m,q,S,rfl,_⟩:=h
    rfl
  obtain ⟨p,dx,ca,oa,ia,rs,m,q,S,rfl,B,hq,L,k⟩:=h
  refine ⟨_,i4 (b0r (i:=1) ["column"] [0] scComing.nd rfl rfl rfl (J6 rfl N.range (a0 (j4 (pv 0) rfl) d8)) (fun _ _ _ _=>j5 (i:=0) b1w rfl (Or.inl rfl))
      (fun _ _ _ _=>o4 a1h (j0 (V3 K rfl) (j0 (V3 K rfl) (a0C K rfl (pv 1) rfl) (L8 E1 d9) (fun _ _=>rfl)) (pv 0) (fun _ _=>rfl)) d9 (o6 _))
      (fun _ _ _ _=>pv 0))
    (i7 (m7 (a6b (col:="column") (fr:=[0]) (c:=c) (P:=Pt) rfl (hr.mono (by lia)) rfl N.min rfl CH BM rfl rfl (by decide +kernel) rfl rfl rfl (fun _ _ _ _=>rfl) (a0 (pv 1) d8)
      (fun _ _ _ _=>j0 (V3 K rfl) (a0C K rfl (pv 1) rfl) (pv 0) (fun _ _=>rfl))))),?_⟩
  refine ⟨_,rfl,p,C,dx,_,_,rfl,B.obj,T.cl,T.nM,rfl,_,rfl,(by lia),(by lia),?_⟩
  rw [Int.toNat_natCast]
  intro l hl
  obtain ⟨rm,em,am⟩:=B.rs_last
  refine a8L a4j hl (by rw [List.length_map,List.length_range]; exact j6 (by lia)) (fun v=>decide (S.T m (vI v).toNat < 0)) (fun i x H' N' hx e hN=>?_) ?_
  . have hx':x = .int (i:Int)/\i < q:=by
      rw [List.getElem?_map] at hx
      by_cases hi:i < q
      . rw [List.getElem?_range hi] at hx
        refine ⟨?_,hi⟩
        have:=Option.some.inj hx
        rw [<- this]; simp
      . rw [List.getElem?_eq_none (by simp; lia)] at hx; cases hx
    obtain ⟨rfl,hi⟩:=hx'
    have e':∀ b o,H b = some o->H' b = some o:=fun b o z=>e b o z
    refine ⟨_,rfl,p,C,dx,_,_,rfl,e' _ _ B.obj,T.cl,T.nC,rfl,_,rfl,ca,_,_,_,rfl,rfl,SqL.of (e' _ _ B.cel),am,_,rfl,rm,_,_,_,rfl,rfl,SqL.of (e' _ _ (B.row m rm em)),S6 (by lia),_,_,rfl,rfl,_,rfl,?_⟩
    have ev:decide (S.T m (vI (V.int (i:Int))).toNat < 0) = decide (S.T m i < 0):=by rw [show (vI (V.int (i:Int))).toNat = i from by simp [vI]]
    rw [ev] at hN
    exact hN
  rw [a7T]
  have L2':LT Pt (m5 H l (.lst ((a6m q S m).map V.int))):=LamTab.new L hl
  have B2:Bd C (m5 H l (.lst ((a6m q S m).map V.int))) p dx ca oa ia rs m q S:=B.same1 (P:=Pt) fun b o z _=>by rw [c9 (d7 z hl)]; exact z
  have mem:∀ x:Int,x ∈ a6m q S m ↔ ∃ j:Nat,x = (j:Int)/\j < q/\S.T m j < 0:=fun x=>by
    unfold a6m
    rw [List.mem_map]
    constructor
    . rintro ⟨j,hj,rfl⟩
      rw [List.mem_filter,List.mem_range] at hj
      exact ⟨j,rfl,hj.1,of_decide_eq_true hj.2⟩
    . rintro ⟨j,rfl,h1,h2⟩
      exact ⟨j,by rw [List.mem_filter,List.mem_range]; exact ⟨h1,decide_eq_true h2⟩,rfl⟩
  refine ⟨_,rfl,l,_,fun x=>(S.outs x.toNat:Int),rfl,SqL.of upd_same,L2',fun H2 e2 L3=>?_⟩
  have B3:=B2.lam L2' e2
  have e3:Same1 Pt H H2:=fun b o hb z=>e2 b o hb (by rw [c9 (d7 z hl)]; exact z)
  obtain ⟨k1,k2⟩:=k H2 e3 L3
  refine ⟨fun x hx=>?_,fun en=>k1 fun j hj hn=>?_,fun M hM hmin=>?_⟩
  . obtain ⟨j,rfl,hj,hn⟩:=(mem x).mp hx
    exact ⟨_,rfl,p,C,dx,_,_,rfl,B3.obj,T.cl,T.nO,rfl,_,rfl,oa,_,_,_,rfl,rfl,SqL.of B3.out,a0N hj,by simp,rfl⟩
  . have:=(mem (j:Int)).mpr ⟨j,rfl,hj,hn⟩
    rw [en] at this
    cases this
  . obtain ⟨j,rfl,hj,hn⟩:=(mem M).mp hM
    refine k2 j hj hn fun i hi hni=>?_
    have:=hmin (i:Int) ((mem _).mpr ⟨i,rfl,hi,hni⟩)
    simpa using this
end
end Rim
namespace Rim
open PySem L2
def U9 (xs ys:List Int) (c:Nat) (d:Int):List Int:=(List.zipWith (fun x y=>(x * ys.getD c 0 - xs.getD c 0 * y) / d) xs ys).set c (-(xs.getD c 0))
theorem a3z {ns:List Int} {i:Nat} (h:i < ns.length):X3 (ns.map V.int) (i:Int) = some (.int (ns.getD i 0)):=E4 (by
  rw [List.getElem?_map,List.getElem?_eq_getElem h,List.getD_eq_getElem?_getD,List.getElem?_eq_getElem h]; rfl)
theorem X5 {ns:List Int} {i:Nat} {x:V} (h:(ns.map V.int)[i]? = some x):∃ k,x = .int k/\k ∈ ns:=by
  rw [List.getElem?_map] at h
  cases hn:ns[i]? with
  | none=>rw [hn] at h; cases h
  | some k=>rw [hn] at h; cases h; exact ⟨k,rfl,List.mem_of_getElem? hn⟩
theorem a5H (F:V->V->V) (G:Int->Int->Int) (h:∀ a b,F (.int a) (.int b) = .int (G a b)):∀ xs ys:List Int,List.zipWith F (xs.map V.int) (ys.map V.int) = (List.zipWith G xs ys).map V.int
  | [],_=>by simp
  | _ :: _,[]=>by simp
  | x :: xs,y :: ys=>by simp [h,a5H F G h xs ys]
theorem a1U {ns:List Int} {i:Nat} (h:i < ns.length):ns.getD i 0 ∈ ns:=by
  rw [List.getD_eq_getElem?_getD,List.getElem?_eq_getElem h]; exact List.getElem_mem h
section
variable {P:Program} {w:World} {K:W.Frag} {mg:Str->Option Value} {base:Heap} {f g c Pt:Addr} {fd gd:FuncData} {n:Nat} {C:Addr}
def a2w (K:W.Frag):Sp:=fun vs H Q _=>∃ (a b:Addr) (c:Nat) (d:Int) (xs ys:List Int),vs = [.ref a,.ref b,.int c,.int d]/\SqL K H a (xs.map V.int)/\SqL K H b (ys.map V.int)/\xs.length = ys.length/\xs.length <= 1000/\c < xs.length ∧
  0 < d/\Big 4000 d/\(∀ x ∈ xs,Big 4000 x)/\(∀ y ∈ ys,Big 4000 y)/\∀ (r:Addr) (H':Hp),Same H H'->H r = none->H' r = some (.lst ((U9 xs ys c d).map V.int))->Q (.ref r) H'
theorem scSwept:j3 ["cells","lead","column","scale","factor","pivot","fresh"] ["cells","lead","column","scale"] (h8 a4y):=⟨rfl,rfl,rfl,by decide +kernel,rfl,by decide +kernel,by decide +kernel⟩
theorem b1v:(["cell","other","scale","factor","pivot"]:List Str).Nodup:=by decide +kernel
set_option maxHeartbeats 4000000 in
theorem a7F (F:Fun K "swept" "swept" a4y f fd) (N:v7 mg):FnOk P w K mg base D6 (n + 1) f fd ["cells","lead","column","scale"] (a2w K):=by
  refine F.ok scSwept (fun vs H Q E h=>?_) (fun cdv A outer s H vs Q E hr h=>?_)
  . obtain ⟨a,b,c,d,xs,ys,rfl,_⟩:=h
    rfl
  obtain ⟨a,b,c,d,xs,ys,rfl,ha,hb,hl,hz,hc,hd,hD,hx,hy,k⟩:=h
  refine ⟨_,i4 (m8 (i:=4) scSwept.nd rfl (Or.inr rfl) (j0 i8 (pv 0) (pv 2) (fun _ _=>rfl)))
    (i4 (m8 (i:=5) scSwept.nd rfl (Or.inr rfl) (j0 i8 (pv 1) (pv 2) (fun _ _=>rfl)))
    (i4 (a1T (i:=6) ["cell","other"] [3,4,5] scSwept.nd rfl rfl rfl (a5z true true K rfl rfl N.zip (a0 (pv 0) (a0 (pv 1) d8)))
      (fun _ _ _ _=>P1 K (n:=2) rfl rfl (j9 (j5 (i:=0) b1v rfl (Or.inl rfl)) (j9 (j5 (i:=1) b1v rfl (Or.inl rfl)) y4)))
      (fun _ _ _ _=>i9 a1b (i9 Z9 (i9 a0D (pv 0) (pv 4)) (i9 a0D (pv 3) (pv 1))) (pv 2)))
    (i4 (M8 (L8 E1 (pv 4)) (V8 (pv 6) (pv 2) K6))
    (i7 (m7 (pv 6)))))),?_⟩
  have hc2:c < ys.length:=by lia
  refine ⟨_,rfl,_,rfl,a,_,_,_,rfl,rfl,ha,a3z hc,?_⟩
  refine ⟨_,rfl,_,rfl,b,_,_,_,rfl,rfl,hb,a3z hc2,?_⟩
  refine ⟨_,rfl,_,rfl,a,b,rfl,⟨_,ha⟩,⟨_,hb⟩,fun l hl'=>?_⟩
  have up:∀ {x},Big 4000 x->Big 1000000 x:=fun h=>a7H h (by decide)
  refine b2s ha hb hl' (by rw [List.length_map]; exact j6 hz) (fun u v=>.int ((vI u * ys.getD c 0 - xs.getD c 0 * vI v) / d)) (fun i u v H' N' hu hv e hN=>?_) (fun H' e hH=>?_)
  . obtain ⟨x,rfl,hxm⟩:=X5 hu
    obtain ⟨y,rfl,hym⟩:=X5 hv
    have dl:d < 2 ^ 8000:=by
      have h1:d.natAbs < 2 ^ 4000:=hD
      have h2:(2:Nat) ^ 4000 <= 2 ^ 8000:=Nat.pow_le_pow_right (by decide) (by decide)
      have h3:d = (d.natAbs:Int):=by lia
      rw [h3]
      exact_mod_cast Nat.lt_of_lt_of_le h1 h2
    refine ⟨_,rfl,_,rfl,_,_,rfl,rfl,⟨up (hx _ hxm),up (hy _ (a1U hc2))⟩,_,rfl,_,rfl,_,_,rfl,rfl,⟨up (hx _ (a1U hc)),up (hy _ hym)⟩,_,_,rfl,rfl,_,rfl,_,_,rfl,rfl,⟨hd,dl⟩,hN⟩
  . rw [a5H _ (fun x y=>(x * ys.getD c 0 - xs.getD c 0 * y) / d) (fun _ _=>rfl)] at hH
    refine ⟨_,rfl,_,rfl,?_⟩
    refine ⟨_,rfl,_,rfl,l,_,_,c,rfl,rfl,hH,?_,?_⟩
    . unfold ixN
      rw [List.length_map,List.length_zipWith,if_pos (by lia),if_pos (by lia),Int.toNat_natCast]
    . refine ⟨_,rfl,k l _ ?_ hl' ?_⟩
      . exact fun b' o q=>by rw [c9 (d7 q hl')]; exact e b' o q
      . rw [upd_same]
        unfold U9
        rw [<- List.map_set]
end
end Rim
namespace Rim
open PySem L2
structure V9 (P:Program) (w:World) (K:W.Frag) (mg:Str->Option Value) (base:Heap) (n:Nat) (x:Str) (ps:List Str) (sp:Sp) (fa:Addr) (d:FuncData):Prop where
  ok:FnOk P w K mg base D6 n fa d ps sp
  b:Binds K d ps []
  k:W.keepIn K (.ref fa) = true
  m:mg x = some (.ref fa)
theorem y8 {q:Nat} {S:Lp.Bo} {i:Nat}:(t9 q S i).length = q + 1:=by unfold t9; simp
theorem a2f {q:Nat} {S:Lp.Bo} {i j:Nat} (h:j < q + 1):(t9 q S i).getD j 0 = S.T i j:=by
  unfold t9
  rw [List.getD_eq_getElem?_getD,List.getElem?_map,List.getElem?_range h]; rfl
theorem a5L {q:Nat} {S:Lp.Bo} {i r c:Nat} (hi:i ≠ r) (hc:c < q):U9 (t9 q S i) (t9 q S r) c S.d = t9 q (Lp.piv S r c) i:=by
  refine List.ext_getElem? fun j=>?_
  unfold U9
  by_cases hj:j < q + 1
  . rw [a2f (by lia),a2f (by lia)]
    have e:(t9 q (Lp.piv S r c) i)[j]? = some ((Lp.piv S r c).T i j):=by unfold t9; rw [List.getElem?_map,List.getElem?_range hj]; rfl
    have hT:(Lp.piv S r c).T i j = if j = c then - S.T i c else (S.T i j * S.T r c - S.T i c * S.T r j) / S.d:=by
      show (if i = r then _ else _) = _
      rw [if_neg hi]
    rw [e,hT]
    by_cases hjc:j = c
    . subst hjc
      rw [List.getElem?_set_self (by rw [List.length_zipWith,y8,y8]; lia),if_pos rfl]
    . rw [List.getElem?_set_ne (Ne.symm hjc),List.getElem?_zipWith,if_neg hjc]
      unfold t9
      rw [List.getElem?_map,List.getElem?_map,List.getElem?_range hj]; rfl
  . rw [List.getElem?_eq_none (by rw [List.length_set,List.length_zipWith,y8,y8]; lia),List.getElem?_eq_none (by rw [y8]; lia)]
theorem a6Y {q:Nat} {S:Lp.Bo} {r c:Nat} (hc:c < q):(((t9 q S r).map V.int).take c ++ [V.int S.d]) ++ ((t9 q S r).map V.int).drop (c + 1) = (t9 q (Lp.piv S r c) r).map V.int:=by
  have hT:∀ j,(Lp.piv S r c).T r j = if j = c then S.d else S.T r j:=fun j=>by
    show (if r = r then _ else _) = _
    rw [if_pos rfl]
  have hl:((t9 q S r).map V.int).length = q + 1:=by rw [List.length_map,y8]
  refine List.ext_getElem? fun j=>?_
  by_cases hj:j < q + 1
  . have e:((t9 q (Lp.piv S r c) r).map V.int)[j]? = some (.int (if j = c then S.d else S.T r j)):=by
      rw [List.getElem?_map]; unfold t9; rw [List.getElem?_map,List.getElem?_range hj,<- hT]; rfl
    have e0:((t9 q S r).map V.int)[j]? = some (.int (S.T r j)):=by
      rw [List.getElem?_map]; unfold t9; rw [List.getElem?_map,List.getElem?_range hj]; rfl
    rw [e]
    have lt:(((t9 q S r).map V.int).take c).length = c:=by rw [List.length_take,hl]; lia
    by_cases h1:j < c
    . rw [List.getElem?_append_left (by rw [List.length_append,lt]; lia),List.getElem?_append_left (by lia),List.getElem?_take_of_lt h1,e0,if_neg (by lia)]
    . by_cases h2:j = c
      . subst h2
        rw [List.getElem?_append_left (by rw [List.length_append,lt]; simp),List.getElem?_append_right (by lia),lt,Nat.sub_self,if_pos rfl]; rfl
      . rw [List.getElem?_append_right (by rw [List.length_append,lt]; simp; lia),List.length_append,lt,List.getElem?_drop,if_neg h2]
        have:c + 1 + (j - (c + [V.int S.d].length)) = j:=by simp; lia
        rw [this,e0]
  . rw [List.getElem?_eq_none (by rw [List.length_append,List.length_append,List.length_take,List.length_drop,hl]; simp; lia),List.getElem?_eq_none (by rw [List.length_map,y8]; lia)]
theorem a8B {m:Nat} {S:Lp.Bo} {r c:Nat} (hr:r < m):((K9 m S).map V.int).set r (.int (S.outs c)) = (K9 m (Lp.piv S r c)).map V.int:=by
  refine List.ext_getElem? fun j=>?_
  have hT:(Lp.piv S r c).ins j = if j = r then S.outs c else S.ins j:=rfl
  by_cases hj:j < m
  . have e:((K9 m (Lp.piv S r c)).map V.int)[j]? = some (.int ((if j = r then S.outs c else S.ins j:Nat))):=by
      rw [List.getElem?_map]; unfold K9; rw [List.getElem?_map,List.getElem?_range hj,<- hT]; rfl
    rw [e]
    by_cases h:j = r
    . subst h
      rw [List.getElem?_set_self (by unfold K9; simp; lia),if_pos rfl]
    . rw [List.getElem?_set_ne (Ne.symm h),if_neg h,List.getElem?_map]
      unfold K9; rw [List.getElem?_map,List.getElem?_range hj]; rfl
  . rw [List.getElem?_eq_none (by unfold K9; simp; lia),List.getElem?_eq_none (by unfold K9; simp; lia)]
theorem a6D {q:Nat} {S:Lp.Bo} {r c:Nat} (hc:c < q):((E7 q S).map V.int).set c (.int (S.ins r)) = (E7 q (Lp.piv S r c)).map V.int:=by
  refine List.ext_getElem? fun j=>?_
  have hT:(Lp.piv S r c).outs j = if j = c then S.ins r else S.outs j:=rfl
  by_cases hj:j < q
  . have e:((E7 q (Lp.piv S r c)).map V.int)[j]? = some (.int ((if j = c then S.ins r else S.outs j:Nat))):=by
      rw [List.getElem?_map]; unfold E7; rw [List.getElem?_map,List.getElem?_range hj,<- hT]; rfl
    rw [e]
    by_cases h:j = c
    . subst h
      rw [List.getElem?_set_self (by unfold E7; simp; lia),if_pos rfl]
    . rw [List.getElem?_set_ne (Ne.symm h),if_neg h,List.getElem?_map]
      unfold E7; rw [List.getElem?_map,List.getElem?_range hj]; rfl
  . rw [List.getElem?_eq_none (by unfold E7; simp; lia),List.getElem?_eq_none (by unfold E7; simp; lia)]
theorem a0Z {n i:Nat} (h:i < n):ixN n (i:Int) = some i:=by
  unfold ixN
  rw [if_pos (by lia),if_pos (by lia),Int.toNat_natCast]
end Rim
namespace Rim
open PySem L2
section
variable {P:Program} {w:World} {K:W.Frag} {mg:Str->Option Value} {base:Heap} {f g c Pt:Addr} {fd gd:FuncData} {n:Nat} {C:Addr}
def a0V (C:Addr):Sp:=fun vs H Q _=>∃ (p dx ca oa ia:Addr) (rs:List Addr) (m q:Nat) (S:Lp.Bo) (r c:Nat),vs = [.ref p,.int r,.int c]/\Bd C H p dx ca oa ia rs m q S/\Sz 4000 m q S/\r < m/\c < q/\m < 900/\q < 900/\0 < S.d ∧
  ∀ (H':Hp) (ca':Addr) (rs':List Addr),Bd C H' p dx ca' oa ia rs' m q (Lp.piv S r c)->(∀ b o,b ≠ p->b ≠ oa->b ≠ ia->H b = some o->H' b = some o)->Q .non H'
theorem scEx:j3 ["self","row","column","lead","pivot"] ["self","row","column"] (h8 J7):=⟨rfl,rfl,rfl,by decide +kernel,rfl,by decide +kernel,by decide +kernel⟩
theorem b3F:(["cells","self","column","lead"]:List Str).Nodup:=by decide +kernel
set_option maxHeartbeats 4000000 in
noncomputable def exT {cdv:Value} {A:Around} {outer:List Env} {s:Shared} {H:Hp} {E:XK} {fb:Addr} {db:FuncData} (Cs:V9 P w K mg base n "swept" ["cells","lead","column","scale"] (a2w K) fb db)
    (hr:Room n (A.deeper (PyProof.Rows.envOfC "Board.exchange" (h8 J7) s.heap.objs.size f cdv))) :
    { t:TS // PSs (J1 D6 P w K mg base ["self","row","column","lead","pivot"] "Board.exchange" (h8 J7) f cdv A outer s H E).nox (p9 J7) t } :=
  ⟨_,i4 (m8 (i:=3) scEx.nd rfl (Or.inr rfl) (j0 i8 (j4 (pv 0) rfl) (pv 1) (fun _ _=>rfl)))
    (i4 (m8 (i:=4) scEx.nd rfl (Or.inl rfl) (j0 i8 (pv 3) (pv 2) (fun _ _=>rfl)))
    (o7 (C8 (pv 0) (T7 ["cells"] [0,2,3] rfl (G1 (j4 (pv 0) rfl)) (fun _ _ _ _=>j5 (i:=0) b3F rfl (Or.inl rfl))
      (fun _ _ _ _=>j7 Cs.ok hr rfl Cs.m Cs.k Cs.b .nil p6 (a0 (pv 0) (a0 (pv 3) (a0 (pv 2) (a0 (a0C K rfl (pv 1) rfl) d8)))))) rfl)
    (i4 (M8 (i9 x4 (i9 x4 (A8 D8 (pv 3) P5 (y6 (pv 2))) (r9 (a0 (j4 (pv 0) rfl) d8))) (A8 D8 (pv 3) (y6 (i9 A5 (pv 2) d9)) P5)) (V8 (j4 (pv 0) rfl) (pv 1) K6))
    (i4 (C8 (pv 0) (pv 4) rfl)
    (i7 (M8 (M7 (a0 (j0 i8 (j4 (pv 0) rfl) (pv 2) (fun _ _=>rfl)) (a0 (j0 i8 (j4 (pv 0) rfl) (pv 1) (fun _ _=>rfl)) d8)))
      (V0 rfl (j9 (V8 (j4 (pv 0) rfl) (pv 1) K6) (j9 (V8 (j4 (pv 0) rfl) (pv 2) K6) y4)))))))))⟩
end
end Rim
namespace Rim
open PySem L2
def a3f:V->Addr
  | .ref a=>a
  | _=>0
section
variable {P:Program} {w:World} {K:W.Frag} {mg:Str->Option Value} {base:Heap} {f g c Pt:Addr} {fd gd:FuncData} {n:Nat} {C:Addr}
theorem a3w {m q i:Nat} {S:Lp.Bo} (h:Sz 4000 m q S) (hi:i < m + 1):∀ x ∈ t9 q S i,Big 4000 x:=fun x hx=>by
  unfold t9 at hx
  obtain ⟨j,hj,rfl⟩:=List.mem_map.mp hx
  exact h.1 i j hi (List.mem_range.mp hj)
set_option maxHeartbeats 8000000 in
theorem a3l {fb:Addr} {db:FuncData} (F:Fun K "exchange" "Board.exchange" J7 f fd) (T:TB K C) (Cs:V9 P w K mg base n "swept" ["cells","lead","column","scale"] (a2w K) fb db) :
    FnOk P w K mg base D6 (n + 1) f fd ["self","row","column"] (a0V C):=by
  refine F.ok scEx (fun vs H Q E h=>?_) (fun cdv A outer s H vs Q E hr h=>?_)
  . obtain ⟨p,dx,ca,oa,ia,rs,m,q,S,r,c,rfl,_⟩:=h
    rfl
  obtain ⟨p,dx,ca,oa,ia,rs,m,q,S,r,c,rfl,B,hz,hrm,hc,hm,hq,hd,k⟩:=h
  refine ⟨_,(exT Cs hr).2,?_⟩
  obtain ⟨rl,er,ar⟩:=B.rs_at (i:=r) (by lia)
  have hrl:=B.row r rl er
  have nrl:rl ≠ p:=w6 hrl B.obj (by intro z; cases z)
  have noa:oa ≠ p:=w6 B.out B.obj (by intro z; cases z)
  have nia:ia ≠ p:=w6 B.inn B.obj (by intro z; cases z)
  refine ⟨_,rfl,p,C,dx,_,_,rfl,B.obj,T.cl,T.nC,rfl,_,rfl,ca,_,_,_,rfl,rfl,SqL.of B.cel,ar,?_⟩
  refine ⟨_,rfl,_,rfl,rl,_,_,_,rfl,rfl,SqL.of hrl,S6 (by lia),?_⟩
  refine ⟨fun σ' H3=>∃ (l:Addr) (rs':List Addr),σ' = [some (.ref p),some (.int r),some (.int c),some (.ref rl),some (.int (S.T r c))]/\H3 p = some (.ins C dx (bdF q S.d l oa ia))/\H3 l = some (.lst (rs'.map V.ref))/\rs'.length = m + 1/\H l = none ∧
    (∀ i a,rs'[i]? = some a->H a = none/\a ≠ l/\H3 a = some (.lst ((U9 (t9 q S i) (t9 q S r) c S.d).map V.int)))/\∀ b o,b ≠ p->H b = some o->H3 b = some o,?_,?_⟩
  . refine ⟨_,rfl,p,C,dx,_,_,rfl,B.obj,T.cl,T.nC,rfl,ca,rfl,⟨_,SqL.of B.cel⟩,fun l hl=>?_⟩
    refine a0F (D4 (SqL.of B.cel)) hl (by rw [List.length_map,B.len]; exact j6 (by lia)) (fun i y H2=>∃ a,y = .ref a/\H a = none/\a ≠ l/\H2 a = some (.lst ((U9 (t9 q S i) (t9 q S r) c S.d).map V.int)))
      (fun i y H2 H3 ⟨a,h1,h2,h3,h4⟩ e=>⟨a,h1,h2,h3,e a _ h3 h4⟩) (fun i x H2 ys N hx e hl2 hN=>?_) (fun ys H2 e hl2 len pr=>?_)
    . rw [List.getElem?_map] at hx
      cases hri:rs[i]? with
      | none=>rw [hri] at hx; cases hx
      | some a =>
        rw [hri] at hx
        have hx':V.ref a = x:=Option.some.inj hx
        subst hx'
        have hi:i < m + 1:=by rw [<- B.len]; exact (List.getElem?_eq_some_iff.mp hri).1
        refine ⟨Wk.set (by decide),?_⟩
        refine ⟨_,rfl,_,rfl,_,rfl,_,rfl,p,C,dx,_,_,rfl,e _ _ B.obj,T.cl,T.nS,rfl,?_⟩
        refine ⟨a,rl,c,S.d,t9 q S i,t9 q S r,rfl,SqL.of (e _ _ (B.row i a hri)),SqL.of (e _ _ hrl),by rw [y8,y8],by rw [y8]; lia,by rw [y8]; lia,hd,hz.2,a3w hz hi,a3w hz (by lia),fun r' H3 s3 hn hr'=>?_⟩
        refine hN _ _ s3 ⟨r',rfl,?_,fun z=>?_,hr'⟩
        . cases q1:H r' with
          | none=>rfl
          | some o=>rw [e _ _ q1] at hn; cases hn
        . rw [z,hl2] at hn; cases hn
    . have hp2:=e _ _ B.obj
      have nlp:p ≠ l:=d7 B.obj hl
      refine ⟨_,rfl,p,C,dx,_,rfl,hp2,T.cl,T.nC,(by show 5 < 1000; decide),?_⟩
      have hys:ys = (ys.map a3f).map V.ref:=by
        rw [List.map_map]
        refine List.ext_getElem? fun i=>?_
        rw [List.getElem?_map]
        cases qi:ys[i]? with
        | none=>rfl
        | some y =>
          obtain ⟨a,rfl,_⟩:=pr i y qi
          rfl
      refine ⟨l,ys.map a3f,rfl,upd_same,by rw [c9 nlp.symm,hl2]; rw [<- hys],by rw [List.length_map,len,List.length_map,B.len],hl,fun i a hi=>?_,fun b o hb hbo=>by rw [c9 hb]; exact e _ _ hbo⟩
      rw [List.getElem?_map] at hi
      cases qi:ys[i]? with
      | none=>rw [qi] at hi; cases hi
      | some y =>
        obtain ⟨a',rfl,h2,h3,h4⟩:=pr i y qi
        rw [qi] at hi
        have:a' = a:=Option.some.inj hi
        subst this
        refine ⟨h2,h3,?_⟩
        rw [c9 (fun z=>by rw [z,hp2] at h4; cases h4)]
        exact h4
  . intro σ' H3 hM_; refine R7 fun G_ hG_=>?_; obtain ⟨l,rs',rfl,hp,hl,hlen,hl0,hrs,hk⟩:=hM_; subst hG_
    have hr3:=hk rl _ nrl hrl
    have lr:((t9 q S r).map V.int).length = q + 1:=by rw [List.length_map,y8]
    refine ⟨_,rfl,_,rfl,_,rfl,rl,_,rfl,SqL.of hr3,fun a1 h1=>?_⟩
    have e1:=Same.new h1 (.lst (C5 ((t9 q S r).map V.int) none (some (c:Int))))
    refine ⟨_,rfl,p,C,dx,_,_,rfl,e1 _ _ hp,T.cl,T.nS,rfl,(by show 1 <= sizeLine; decide),fun a2 h2=>?_⟩
    have e2:=e1.trans (Same.new h2 (.lst [.int S.d]))
    have n12:a1 ≠ a2:=d7 upd_same h2
    refine ⟨a1,a2,_,_,rfl,rfl,(by rw [c9 n12]; exact upd_same),upd_same,?_,fun a3 h3=>?_⟩
    . rw [a2n _ _ (by rw [lr]; lia),List.length_take,lr]
      have:=j6 (show c + 1 <= 1000 by lia)
      simp
      lia
    have e3:=e2.trans (Same.new h3 (.lst (C5 ((t9 q S r).map V.int) none (some (c:Int)) ++ [.int S.d])))
    refine ⟨_,rfl,_,rfl,_,_,rfl,rfl,_,rfl,rl,_,rfl,SqL.of (e3 _ _ hr3),fun a4 h4=>?_⟩
    have e4:=e3.trans (Same.new h4 (.lst (C5 ((t9 q S r).map V.int) (some ((c:Int) + 1)) none)))
    have n34:a3 ≠ a4:=d7 upd_same h4
    have c1:C5 ((t9 q S r).map V.int) none (some (c:Int)) = ((t9 q S r).map V.int).take c:=a2n _ _ (by rw [lr]; lia)
    have c2:C5 ((t9 q S r).map V.int) (some ((c:Int) + 1)) none = ((t9 q S r).map V.int).drop (c + 1):=by
      have:=a0T ((t9 q S r).map V.int) (c + 1) (by rw [lr]; lia)
      rw [<- this]; rfl
    refine ⟨a3,a4,_,_,rfl,rfl,(by rw [c9 n34]; exact upd_same),upd_same,?_,fun a5 h5=>?_⟩
    . rw [c1,c2,List.length_append,List.length_take,List.length_drop,lr]
      have:=j6 (show q + 1 <= 1000 by lia)
      simp
      lia
    have hrow:(C5 ((t9 q S r).map V.int) none (some (c:Int)) ++ [.int S.d]) ++ C5 ((t9 q S r).map V.int) (some ((c:Int) + 1)) none = (t9 q (Lp.piv S r c) r).map V.int:=by rw [c1,c2,a6Y hc]
    have h5n:H3 a5 = none:=by
      cases z:H3 a5 with
      | none=>rfl
      | some o=>rw [e4 _ _ z] at h5; cases h5
    have e5:=e4.trans (Same.new h5 (.lst ((C5 ((t9 q S r).map V.int) none (some (c:Int)) ++ [.int S.d]) ++ C5 ((t9 q S r).map V.int) (some ((c:Int) + 1)) none)))
    have u5:∀ H4:Hp,m5 H4 a5 (.lst ((C5 ((t9 q S r).map V.int) none (some (c:Int)) ++ [.int S.d]) ++ C5 ((t9 q S r).map V.int) (some ((c:Int) + 1)) none)) a5 = some (.lst ((t9 q (Lp.piv S r c) r).map V.int)):=fun H4=>upd_same.trans (congrArg (fun z=>some (HO.lst z)) hrow)
    have oa3:=hk oa _ noa B.out
    have ia3:=hk ia _ nia B.inn
    have nlp:l ≠ p:=(d7 B.obj hl0).symm
    have nlo:l ≠ oa:=(d7 B.out hl0).symm
    have nli:l ≠ ia:=(d7 B.inn hl0).symm
    have n5p:a5 ≠ p:=(d7 hp h5n).symm
    have n5l:a5 ≠ l:=(d7 hl h5n).symm
    have n5o:a5 ≠ oa:=(d7 oa3 h5n).symm
    have n5i:a5 ≠ ia:=(d7 ia3 h5n).symm
    have lrs:(rs'.map V.ref).length = m + 1:=by rw [List.length_map]; exact hlen
    refine ⟨_,rfl,p,C,dx,_,_,rfl,e5 _ _ hp,T.cl,T.nC,rfl,_,rfl,l,_,_,r,rfl,rfl,e5 _ _ hl,a0Z (by rw [lrs]; lia),?_⟩
    refine ⟨_,rfl,_,rfl,p,C,dx,_,rfl,(by rw [c9 nlp.symm]; exact e5 _ _ hp),T.cl,T.nS,(by show 5 < 1000; decide),?_⟩
    refine ⟨_,rfl,p,C,dx,_,_,rfl,upd_same,T.cl,T.nO,rfl,_,rfl,oa,_,_,_,rfl,rfl,SqL.of (by rw [c9 noa,c9 nlo.symm]; exact e5 _ _ oa3),a0N hc,?_⟩
    refine ⟨_,rfl,p,C,dx,_,_,rfl,upd_same,T.cl,T.nI,rfl,_,rfl,ia,_,_,_,rfl,rfl,SqL.of (by rw [c9 nia,c9 nli.symm]; exact e5 _ _ ia3),a0A hrm,(by show 2 <= sizeLine; decide),fun t ht=>?_⟩
    have ntp:t ≠ p:=(d7 upd_same ht).symm
    have ntl:t ≠ l:=by
      refine (d7 (H:=_) (o:=.lst ((rs'.map V.ref).set r (.ref a5))) ?_ ht).symm
      rw [c9 nlp,upd_same]
    have nto:t ≠ oa:=by
      refine (d7 (H:=_) (o:=.lst ((E7 q S).map V.int)) ?_ ht).symm
      rw [c9 noa,c9 nlo.symm]; exact e5 _ _ oa3
    have nti:t ≠ ia:=by
      refine (d7 (H:=_) (o:=.lst ((K9 m S).map V.int)) ?_ ht).symm
      rw [c9 nia,c9 nli.symm]; exact e5 _ _ ia3
    refine ⟨t,_,rfl,SqT.of upd_same,rfl,?_⟩
    refine ⟨_,_,rfl,_,rfl,p,C,dx,_,_,rfl,(by rw [c9 ntp.symm]; exact upd_same),T.cl,T.nI,rfl,_,rfl,ia,_,_,r,rfl,rfl,(by rw [c9 nti.symm,c9 nia,c9 nli.symm]; exact e5 _ _ ia3),a0Z (by unfold K9; simp; lia),?_⟩
    refine ⟨_,_,rfl,_,rfl,p,C,dx,_,_,rfl,(by rw [c9 nia.symm,c9 ntp.symm]; exact upd_same),T.cl,T.nO,rfl,_,rfl,oa,_,_,c,rfl,rfl,(by rw [c9 B.ne,c9 nto.symm,c9 noa,c9 nlo.symm]; exact e5 _ _ oa3),a0Z (by unfold E7; simp; lia),rfl,?_⟩
    refine k _ l (rs'.set r a5) ⟨?_,?_,by rw [List.length_set]; exact hlen,fun i a hi=>?_,?_,?_,B.ne⟩ fun b o hb hbo hbi hH=>?_
    . rw [c9 noa.symm,c9 nia.symm,c9 ntp.symm,upd_same]; rfl
    . rw [c9 nlo,c9 nli,c9 ntl.symm,c9 nlp,upd_same,List.map_set]
    . by_cases hir:i = r
      . subst hir
        rw [List.getElem?_set_self (by rw [hlen]; lia)] at hi
        have:a5 = a:=Option.some.inj hi
        subst this
        have n5t:a5 ≠ t:=by
          refine d7 (H:=_) (o:=.lst ((t9 q (Lp.piv S i c) i).map V.int)) ?_ ht
          rw [c9 n5p,c9 n5l]; exact u5 _
        rw [c9 n5o,c9 n5i,c9 n5t,c9 n5p,c9 n5l]
        exact u5 _
      . rw [List.getElem?_set_ne (Ne.symm hir)] at hi
        obtain ⟨g1,g2,g3⟩:=hrs i a hi
        have nap:a ≠ p:=(d7 B.obj g1).symm
        have nao:a ≠ oa:=(d7 B.out g1).symm
        have nai:a ≠ ia:=(d7 B.inn g1).symm
        have g5:=e5 _ _ g3
        have nat:a ≠ t:=by
          refine d7 (H:=_) (o:=.lst ((U9 (t9 q S i) (t9 q S r) c S.d).map V.int)) ?_ ht
          rw [c9 nap,c9 g2]; exact g5
        rw [c9 nao,c9 nai,c9 nat,c9 nap,c9 g2,<- a5L hir hc]
        exact g5
    . rw [upd_same,a6D hc]
    . rw [c9 B.ne.symm,upd_same,a8B hrm]
    . have h3:=hk b o hb hH
      have nbl:b ≠ l:=d7 hH hl0
      have nbt:b ≠ t:=by
        refine d7 (H:=_) (o:=o) ?_ ht
        rw [c9 hb,c9 nbl]; exact e5 _ _ h3
      rw [c9 hbo,c9 hbi,c9 nbt,c9 hb,c9 nbl]
      exact e5 _ _ h3
end
end Rim
namespace Rim
open PySem L2
theorem a1g {g:Nat->Int}:∀ {n:Nat},(∀ k,k < n->g k = 0)->Lp.sumTo g n = 0
  | 0,_=>rfl
  | n + 1,h=>by
    show Lp.sumTo g n + g n = 0
    rw [a1g fun k hk=>h k (by lia),h n (by lia)]; rfl
def a8Z (q:Nat) (S:Lp.Bo) (k v:Nat):Int:=Lp.sumTo (fun i=>if S.ins i = v then S.T i q else 0) k
def a5h (m:Nat) (S:Lp.Bo) (k v:Nat):Int:=Lp.sumTo (fun j=>if S.outs j = v then S.T m j else 0) k
def m4 (m q:Nat) (S:Lp.Bo):List Int:=(List.range q).map fun v=>Lp.valIn m S q v
def E5 (m q:Nat) (S:Lp.Bo):List Int:=(List.range m).map fun i=>Lp.valOut m q S (q + i)
theorem a3E (k:Nat):(List.replicate k [V.int 0]).flatten = (List.range k).map fun _=>V.int 0:=by
  induction k with
  | zero=>rfl
  | succ k ih=>rw [List.replicate_succ',List.flatten_append,ih,List.range_succ,List.map_append]; rfl
theorem a7s {n v:Nat} {F G:Nat->Int} {x:Int} (hv:G v = x) (h:∀ u,u < n->u ≠ v->F u = G u):((List.range n).map fun u=>V.int (F u)).set v (.int x) = (List.range n).map fun u=>V.int (G u):=by
  refine List.ext_getElem? fun j=>?_
  by_cases hj:j < n
  . by_cases e:j = v
    . subst e
      rw [List.getElem?_set_self (by simp; lia),List.getElem?_map,List.getElem?_range hj,Option.map_some,hv]
    . rw [List.getElem?_set_ne (Ne.symm e),List.getElem?_map,List.getElem?_map,List.getElem?_range hj,Option.map_some,Option.map_some,h j hj e]
  . rw [List.getElem?_eq_none (by simp; lia),List.getElem?_eq_none (by simp; lia)]
section
variable {P:Program} {w:World} {K:W.Frag} {mg:Str->Option Value} {base:Heap} {f g c Pt:Addr} {fd gd:FuncData} {n:Nat} {C:Addr}
def a7J (C:Addr):Sp:=fun vs H Q _=>∃ (p dx ca oa ia:Addr) (rs:List Addr) (m q:Nat) (S:Lp.Bo),vs = [.ref p]/\Bd C H p dx ca oa ia rs m q S/\m < 900/\q < 900/\(∀ i k,i < m->k < m->S.ins i = S.ins k->i = k) ∧
  ∀ (r:Addr) (H':Hp),Same H H'->H r = none->H' r = some (.lst ((m4 m q S).map V.int))->Q (.ref r) H'
theorem scAmts:j3 ["self","told","row","number"] ["self"] (h8 a8i):=⟨rfl,rfl,rfl,by decide +kernel,rfl,by decide +kernel,by decide +kernel⟩
set_option maxHeartbeats 4000000 in
theorem a9x (F:Fun K "amounts" "Board.amounts" a8i f fd) (N:v7 mg) (T:TB K C):FnOk P w K mg base D6 (n + 1) f fd ["self"] (a7J C):=by
  refine F.ok scAmts (fun vs H Q E h=>?_) (fun cdv A outer s H vs Q E hr h=>?_)
  . obtain ⟨p,dx,ca,oa,ia,rs,m,q,S,rfl,_⟩:=h
    rfl
  obtain ⟨p,dx,ca,oa,ia,rs,m,q,S,rfl,B,hm,hq,inj,k⟩:=h
  refine ⟨_,i4 (m8 (i:=1) scAmts.nd rfl (Or.inl rfl) (i9 Q9 (r9 (a0 d9 d8)) (j4 (pv 0) rfl)))
    (i4 (V2 PassesOwn.never rfl (a4P K rfl rfl N.enum (a0 (j4 (pv 0) rfl) d8)) (P1 K (n:=2) rfl rfl (j9 (j5 (i:=2) scAmts.nd rfl (Or.inl rfl)) (j9 (j5 (i:=3) scAmts.nd rfl (Or.inl rfl)) y4)))
      (i7 (x8 (o4 a1h (pv 3) (j4 (pv 0) rfl) (o6 _)) (i7 (M8 (j0 i8 (j0 i8 (j4 (pv 0) rfl) (pv 2) (fun _ _=>rfl)) (L8 E1 d9) (fun _ _=>rfl)) (V8 (pv 1) (pv 3) K6))) r6)))
    (i7 (m7 (pv 1)))),?_⟩
  have sl:=j6 (show q <= 1000 by lia)
  refine ⟨(by show 1 <= sizeLine; decide),fun z hz=>?_⟩
  have ez:=Same.new hz (.lst [.int 0])
  refine ⟨_,rfl,p,C,dx,_,_,rfl,ez _ _ B.obj,T.cl,T.nM,rfl,z,_,_,rfl,rfl,upd_same,(by lia),(by lia),(by rw [Int.toNat_natCast]; simp; lia),fun tl htl=>?_⟩
  rw [Int.toNat_natCast,a3E]
  have htn:H tl = none:=by
    cases q1:H tl with
    | none=>rfl
    | some o=>rw [ez _ _ q1] at htl; cases htl
  have e0:Same H (m5 (m5 H z (.lst [.int 0])) tl (.lst ((List.range q).map fun _=>V.int 0))):=ez.write htn
  refine ⟨_,rfl,p,C,dx,_,_,rfl,e0 _ _ B.obj,T.cl,T.nI,rfl,ia,rfl,⟨_,SqL.of (e0 _ _ B.inn)⟩,?_⟩
  have li:((K9 m S).map V.int).length = m:=by unfold K9; simp
  refine a3j (xs:=(K9 m S).map V.int) (i1:=2) (i2:=3) (fun j σ H'=>∃ o2 o3:Option V,σ = [some (.ref p),some (.ref tl),o2,o3]/\Same H H'/\H' tl = some (.lst ((List.range q).map fun v=>V.int (a8Z q S j v))))
    ⟨_,_,rfl,e0,by rw [upd_same]; rfl⟩ (fun j σ H' ⟨_,_,_,e,_⟩=>SqL.of (e _ _ B.inn)) ?_ ?_
  . rintro j x σ H1 qq hx ⟨o2,o3,rfl,e1,ht⟩ hqq
    have hj:j < m:=by rw [<- li]; exact (List.getElem?_eq_some_iff.mp hx).1
    have hx':x = .int (S.ins j):=by
      have:=(E4 hx).symm.trans (a0A (S:=S) hj)
      exact Option.some.inj this
    subst hx'
    have s1:=Same.new hqq (.tup [V.int (j:Int),.int (S.ins j)])
    have e2:=e1.trans s1
    have ht2:=s1 _ _ ht
    refine ⟨_,rfl,_,rfl,p,C,dx,_,_,rfl,e2 _ _ B.obj,T.cl,T.nM,rfl,_,_,rfl,rfl,_,rfl,?_⟩
    have st:∀ v,a8Z q S (j + 1) v = a8Z q S j v + (if S.ins j = v then S.T j q else 0):=fun v=>rfl
    refine C3 (fun d=>?_) (fun d=>?_)
    . have d':S.ins j < q:=by have:=of_decide_eq_true d; lia
      obtain ⟨rj,erj,arj⟩:=B.rs_at (i:=j) (by lia)
      refine ⟨_,rfl,p,C,dx,_,_,rfl,e2 _ _ B.obj,T.cl,T.nC,rfl,_,rfl,ca,_,_,_,rfl,rfl,SqL.of (e2 _ _ B.cel),arj,_,rfl,rj,_,_,_,rfl,rfl,SqL.of (e2 _ _ (B.row j rj erj)),R9,?_⟩
      refine ⟨_,rfl,_,rfl,tl,_,_,S.ins j,rfl,rfl,ht2,a0Z (by simp; lia),?_⟩
      refine ⟨_,_,rfl,e2.write htn,?_⟩
      rw [upd_same]
      congr 2
      refine a7s ?_ fun u hu hne=>?_
      . rw [st,if_pos rfl]
        have:a8Z q S j (S.ins j) = 0:=a1g fun i hi=>if_neg fun z=>absurd (inj i j (by lia) hj z) (by lia)
        rw [this]; lia
      . rw [st,if_neg (Ne.symm hne)]; lia
    . have d':¬ S.ins j < q:=fun z=>d (decide_eq_true (by lia))
      refine ⟨_,_,rfl,e2,?_⟩
      rw [ht2]
      congr 2
      refine List.map_congr_left fun v hv=>?_
      rw [st,if_neg (fun z=>d' (by rw [z]; exact List.mem_range.mp hv)),Int.add_zero]
  . intro σ H1 hM_; refine R7 fun G_ hG_=>?_; obtain ⟨o2,o3,rfl,e1,ht⟩:=hM_; subst hG_
    rw [li] at ht
    refine ⟨_,rfl,k tl H1 e1 htn ?_⟩
    rw [ht]
    unfold m4
    rw [List.map_map]; rfl
def a9Q (C:Addr):Sp:=fun vs H Q _=>∃ (p dx ca oa ia:Addr) (rs:List Addr) (m q:Nat) (S:Lp.Bo),vs = [.ref p]/\Bd C H p dx ca oa ia rs m q S/\m < 900/\q < 900/\(∀ j k,j < q->k < q->S.outs j = S.outs k->j = k)/\(∀ j,j < q->S.outs j < q + m) ∧
  ∀ (r:Addr) (H':Hp),Same H H'->H r = none->H' r = some (.lst ((E5 m q S).map V.int))->Q (.ref r) H'
theorem scWts:j3 ["self","told","column","number"] ["self"] (h8 b0t):=⟨rfl,rfl,rfl,by decide +kernel,rfl,by decide +kernel,by decide +kernel⟩
set_option maxHeartbeats 4000000 in
theorem b0o (F:Fun K "weights" "Board.weights" b0t f fd) (N:v7 mg) (T:TB K C):FnOk P w K mg base D6 (n + 1) f fd ["self"] (a9Q C):=by
  refine F.ok scWts (fun vs H Q E h=>?_) (fun cdv A outer s H vs Q E hr h=>?_)
  . obtain ⟨p,dx,ca,oa,ia,rs,m,q,S,rfl,_⟩:=h
    rfl
  obtain ⟨p,dx,ca,oa,ia,rs,m,q,S,rfl,B,hm,hq,inj,ob,k⟩:=h
  refine ⟨_,i4 (m8 (i:=1) scWts.nd rfl (Or.inl rfl) (i9 Q9 (r9 (a0 d9 d8)) (m9 j8 rfl N.len PySem.boot_len (a0 (j4 (pv 0) rfl) d8))))
    (i4 (V2 PassesOwn.never rfl (a4P K rfl rfl N.enum (a0 (j4 (pv 0) rfl) d8)) (P1 K (n:=2) rfl rfl (j9 (j5 (i:=2) scWts.nd rfl (Or.inl rfl)) (j9 (j5 (i:=3) scWts.nd rfl (Or.inl rfl)) y4)))
      (i7 (x8 (o4 a6B (pv 3) (j4 (pv 0) rfl) (o6 _)) (i7 (M8 (j0 i8 (j0 i8 (j4 (pv 0) rfl) (L8 E1 d9) (fun _ _=>rfl)) (pv 2) (fun _ _=>rfl)) (V8 (pv 1) (i9 Z9 (pv 3) (j4 (pv 0) rfl)) K6))) r6)))
    (i7 (m7 (pv 1)))),?_⟩
  have sl:=j6 (show m <= 1000 by lia)
  have li:((K9 m S).map V.int).length = m:=by unfold K9; simp
  have lo:((E7 q S).map V.int).length = q:=by unfold E7; simp
  refine ⟨(by show 1 <= sizeLine; decide),fun z hz=>?_⟩
  have ez:=Same.new hz (.lst [.int 0])
  refine ⟨_,rfl,p,C,dx,_,_,rfl,ez _ _ B.obj,T.cl,T.nI,rfl,ia,_,rfl,.inl (SqL.of (ez _ _ B.inn)),z,_,_,rfl,rfl,upd_same,(by lia),(by lia),(by rw [li,Int.toNat_natCast]; simp; lia),fun tl htl=>?_⟩
  rw [li,Int.toNat_natCast,a3E]
  have htn:H tl = none:=by
    cases q1:H tl with
    | none=>rfl
    | some o=>rw [ez _ _ q1] at htl; cases htl
  have e0:Same H (m5 (m5 H z (.lst [.int 0])) tl (.lst ((List.range m).map fun _=>V.int 0))):=ez.write htn
  refine ⟨_,rfl,p,C,dx,_,_,rfl,e0 _ _ B.obj,T.cl,T.nO,rfl,oa,rfl,⟨_,SqL.of (e0 _ _ B.out)⟩,?_⟩
  refine a3j (xs:=(E7 q S).map V.int) (i1:=2) (i2:=3) (fun j σ H'=>∃ o2 o3:Option V,σ = [some (.ref p),some (.ref tl),o2,o3]/\Same H H'/\H' tl = some (.lst ((List.range m).map fun v=>V.int (a5h m S j (q + v)))))
    ⟨_,_,rfl,e0,by rw [upd_same]; rfl⟩ (fun j σ H' ⟨_,_,_,e,_⟩=>SqL.of (e _ _ B.out)) ?_ ?_
  . rintro j x σ H1 qq hx ⟨o2,o3,rfl,e1,ht⟩ hqq
    have hj:j < q:=by rw [<- lo]; exact (List.getElem?_eq_some_iff.mp hx).1
    have hx':x = .int (S.outs j):=by
      have:=(E4 hx).symm.trans (a0N (S:=S) hj)
      exact Option.some.inj this
    subst hx'
    have s1:=Same.new hqq (.tup [V.int (j:Int),.int (S.outs j)])
    have e2:=e1.trans s1
    have ht2:=s1 _ _ ht
    refine ⟨_,rfl,_,rfl,p,C,dx,_,_,rfl,e2 _ _ B.obj,T.cl,T.nM,rfl,_,_,rfl,rfl,_,rfl,?_⟩
    have st:∀ v,a5h m S (j + 1) v = a5h m S j v + (if S.outs j = v then S.T m j else 0):=fun v=>rfl
    have hob:=ob j hj
    refine C3 (fun d=>?_) (fun d=>?_)
    . have d':q <= S.outs j:=by have:=of_decide_eq_true d; lia
      obtain ⟨rm,erm,arm⟩:=B.rs_last
      refine ⟨_,rfl,p,C,dx,_,_,rfl,e2 _ _ B.obj,T.cl,T.nC,rfl,_,rfl,ca,_,_,_,rfl,rfl,SqL.of (e2 _ _ B.cel),arm,_,rfl,rm,_,_,_,rfl,rfl,SqL.of (e2 _ _ (B.row m rm erm)),S6 (by lia),?_⟩
      refine ⟨_,rfl,_,rfl,_,rfl,p,C,dx,_,_,rfl,e2 _ _ B.obj,T.cl,T.nM,rfl,_,_,rfl,rfl,tl,_,_,S.outs j - q,rfl,rfl,ht2,?_,?_⟩
      . rw [show ((S.outs j:Int) - (q:Int)) = ((S.outs j - q:Nat):Int) by lia]
        exact a0Z (by simp; lia)
      refine ⟨_,_,rfl,e2.write htn,?_⟩
      rw [upd_same]
      congr 2
      refine a7s ?_ fun u hu hne=>?_
      . rw [st,if_pos (by lia)]
        have:a5h m S j (q + (S.outs j - q)) = 0:=a1g fun i hi=>if_neg fun z=>absurd (inj i j (by lia) hj (by lia)) (by lia)
        rw [this]; lia
      . rw [st,if_neg (by lia)]; lia
    . have d':¬ q <= S.outs j:=fun z=>d (decide_eq_true (by lia))
      refine ⟨_,_,rfl,e2,?_⟩
      rw [ht2]
      congr 2
      refine List.map_congr_left fun v hv=>?_
      rw [st,if_neg (by lia),Int.add_zero]
  . intro σ H1 hM_; refine R7 fun G_ hG_=>?_; obtain ⟨o2,o3,rfl,e1,ht⟩:=hM_; subst hG_
    rw [lo] at ht
    refine ⟨_,rfl,k tl H1 e1 htn ?_⟩
    rw [ht]
    unfold E5
    rw [List.map_map]; rfl
end
end Rim
namespace Rim
open PySem L2
def P7 (rows:List (List Int)):Nat->Nat->Int:=fun i j=>(rows.getD i []).getD j 0
def C6 (l:List Int):Nat->Int:=fun i=>l.getD i 0
abbrev RowsL (K:W.Frag) (H:Hp):List V->List (List Int)->Prop:=PySem.Paired fun v row=>∃ a,v = .ref a/\SqL K H a (row.map V.int)
section
variable {P:Program} {w:World} {K:W.Frag} {mg:Str->Option Value} {base:Heap} {f g c Pt:Addr} {fd gd:FuncData} {n:Nat} {C:Addr}
def a7d (K:W.Frag) (C:Addr):Sp:=fun vs H Q _=>∃ (p dx ga ra ba:Addr) (goal:List Int) (rvs:List V) (rows:List (List Int)) (bounds:List Int) (m q:Nat),vs = [.ref p,.ref ga,.ref ra,.ref ba]/\H p = some (.ins C dx [])/\SqL K H ga (goal.map V.int)/\SqL K H ra rvs ∧
  RowsL K H rvs rows/\SqL K H ba (bounds.map V.int)/\rows.length = m/\bounds.length = m/\goal.length = q/\(∀ r ∈ rows,r.length = q)/\m < 900/\q < 900 ∧
  ∀ (H':Hp) (ca oa ia:Addr) (rs:List Addr),Bd C H' p dx ca oa ia rs m q (Lp.S0 m q (P7 rows) (C6 bounds) (C6 goal))->(∀ b o,b ≠ p->H b = some o->H' b = some o)->H oa = none->H ia = none->Q .non H'
theorem b0Q:j3 ["self","goal","rows","bounds"] ["self","goal","rows","bounds"] (h8 a3u):=⟨rfl,rfl,rfl,by decide +kernel,rfl,by decide +kernel,by decide +kernel⟩
theorem b1Q:(["row","bound"]:List Str).Nodup:=by decide +kernel
theorem b3q:(["one"]:List Str).Nodup:=by decide +kernel
set_option maxHeartbeats 4000000 in
noncomputable def b2k {cdv:Value} {A:Around} {outer:List Env} {s:Shared} {H:Hp} {E:XK} (N:v7 mg) :
    { t:TS // PSs (J1 D6 P w K mg base ["self","goal","rows","bounds"] "Board.__init__" (h8 a3u) f cdv A outer s H E).nox (p9 a3u) t } :=
  ⟨_,i4 (C8 (pv 0) (m9 j8 rfl N.len PySem.boot_len (a0 (pv 1) d8)) rfl)
    (i4 (C8 (pv 0) d9 rfl)
    (o7 (C8 (pv 0) (T7 ["row","bound"] [] rfl (a5z true true K rfl rfl N.zip (a0 (pv 2) (a0 (pv 3) d8)))
      (fun _ _ _ _=>P1 K (n:=2) rfl rfl (j9 (j5 (i:=0) b1Q rfl (Or.inl rfl)) (j9 (j5 (i:=1) b1Q rfl (Or.inl rfl)) y4)))
      (fun _ _ _ _=>i9 x4 (u0 (a4T K rfl) rfl N.list PyProof.Rows.boot_list (a0 (pv 0) d8)) (r9 (a0 (pv 1) d8)))) rfl)
    (o7 (A3 (a1N PySem.F.plainAttrs_list PySem.F.slot_list_append PySem.F.type_list_append E9 (j4 (pv 0) rfl)
      (a0 (i9 x4 (T7 ["one"] [] rfl (G1 (pv 1)) (fun _ _ _ _=>j5 (i:=0) b3q rfl (Or.inl rfl)) (fun _ _ _ _=>L8 E1 (pv 0))) (r9 (a0 d9 d8))) d8)))
    (i4 (C8 (pv 0) (u0 (T8 rfl) rfl N.list PyProof.Rows.boot_list (a0 (u0 a6i rfl N.range PyProof.Rows.boot_range (a0 (j4 (pv 0) rfl) d8)) d8)) rfl)
    (i7 (C8 (pv 0) (u0 (T8 rfl) rfl N.list PyProof.Rows.boot_list (a0 (u0 a6o rfl N.range PyProof.Rows.boot_range (a0 (j4 (pv 0) rfl) (a0 (i9 A5 (j4 (pv 0) rfl) (m9 j8 rfl N.len PySem.boot_len (a0 (pv 2) d8))) d8))) d8)) rfl))))))⟩
end
end Rim
namespace Rim
open PySem L2
theorem b0c {m q i:Nat} {rows:List (List Int)} {bounds goal row:List Int} {b:Int} (hr:rows[i]? = some row) (hb:bounds[i]? = some b) (hl:row.length = q) (hi:i < m) :
    row ++ [b] = t9 q (Lp.S0 m q (P7 rows) (C6 bounds) (C6 goal)) i:=by
  refine List.ext_getElem? fun j=>?_
  unfold t9
  by_cases hj:j < q + 1
  . rw [List.getElem?_map,List.getElem?_range hj,Option.map_some]
    have hT:(Lp.S0 m q (P7 rows) (C6 bounds) (C6 goal)).T i j = if j < q then P7 rows i j else C6 bounds i:=by
      show (if j < q then (if i < m then _ else _) else (if i < m then _ else _)) = _
      rw [if_pos hi,if_pos hi]
    rw [hT]
    by_cases h:j < q
    . rw [List.getElem?_append_left (by lia),if_pos h]
      unfold P7
      rw [List.getD_eq_getElem?_getD,List.getD_eq_getElem?_getD,hr,Option.getD_some,List.getElem?_eq_getElem (by lia),Option.getD_some]
    . rw [List.getElem?_append_right (by lia),if_neg h,hl,show j - q = 0 by lia]
      unfold C6
      rw [List.getD_eq_getElem?_getD,hb]; rfl
  . rw [List.getElem?_eq_none (by simp; lia),List.getElem?_eq_none (by simp; lia)]
theorem a8w {m q:Nat} {rows:List (List Int)} {bounds goal:List Int} (hl:goal.length = q):goal.map (fun x=>-x) ++ [0] = t9 q (Lp.S0 m q (P7 rows) (C6 bounds) (C6 goal)) m:=by
  refine List.ext_getElem? fun j=>?_
  unfold t9
  by_cases hj:j < q + 1
  . rw [List.getElem?_map,List.getElem?_range hj,Option.map_some]
    have hT:(Lp.S0 m q (P7 rows) (C6 bounds) (C6 goal)).T m j = if j < q then - C6 goal j else 0:=by
      show (if j < q then (if m < m then _ else _) else (if m < m then _ else _)) = _
      rw [if_neg (Nat.lt_irrefl _),if_neg (Nat.lt_irrefl _)]
    rw [hT]
    by_cases h:j < q
    . rw [List.getElem?_append_left (by simp; lia),if_pos h,List.getElem?_map]
      unfold C6
      rw [List.getD_eq_getElem?_getD,List.getElem?_eq_getElem (by lia),Option.map_some,Option.getD_some]
    . rw [List.getElem?_append_right (by simp; lia),if_neg h,List.length_map,hl,show j - q = 0 by lia]; rfl
  . rw [List.getElem?_eq_none (by simp; lia),List.getElem?_eq_none (by simp; lia)]
theorem a8D {m q:Nat} {A:Nat->Nat->Int} {b c:Nat->Int}:((List.range q).map fun (i:Nat)=>V.int (0 + (i:Int))) = (E7 q (Lp.S0 m q A b c)).map V.int:=by
  unfold E7
  rw [List.map_map]
  refine List.map_congr_left fun j hj=>?_
  have h:(Lp.S0 m q A b c).outs j = j:=if_pos (List.mem_range.mp hj)
  simp [h]
theorem b0q {m q:Nat} {A:Nat->Nat->Int} {b c:Nat->Int}:((List.range m).map fun (i:Nat)=>V.int ((q:Int) + (i:Int))) = (K9 m (Lp.S0 m q A b c)).map V.int:=by
  unfold K9
  rw [List.map_map]
  refine List.map_congr_left fun j hj=>?_
  have h:(Lp.S0 m q A b c).ins j = q + j:=rfl
  simp [h]
section
variable {P:Program} {w:World} {K:W.Frag} {mg:Str->Option Value} {base:Heap} {f g c Pt:Addr} {fd gd:FuncData} {n:Nat} {C:Addr}
theorem Q0 {H H':Hp} {a p:Addr} {xs:List V} {C dx:Addr} {fs:List (Str × V)} (hp:H p = some (.ins C dx fs)) (e:∀ b o,b ≠ p->H b = some o->H' b = some o) (h:SqL K H a xs):SqL K H' a xs:=by
  rcases h with (h | ⟨o,h⟩) | h
  . exact .inl (.inl (e _ _ (w6 h hp (by intro z; cases z)) h))
  . exact .inl (.inr ⟨o,e _ _ (w6 h hp (by intro z; cases z)) h⟩)
  . exact .inr h
set_option maxHeartbeats 8000000 in
theorem a9i (F:Fun K "__init__" "Board.__init__" a3u f fd) (N:v7 mg) (T:TB K C):FnOk P w K mg base D6 (n + 1) f fd ["self","goal","rows","bounds"] (a7d K C):=by
  refine F.ok b0Q (fun vs H Q E h=>?_) (fun cdv A outer s H vs Q E hr h=>?_)
  . obtain ⟨p,dx,ga,ra,ba,goal,rvs,rows,bounds,m,q,rfl,_⟩:=h
    rfl
  obtain ⟨p,dx,ga,ra,ba,goal,rvs,rows,bounds,m,q,rfl,hp,hg,hra,hrw,hba,lr,lb,lg,hrl,hm,hq,k⟩:=h
  refine ⟨_,(b2k N).2,?_⟩
  have lv:rvs.length = m:=by rw [<- lr]; exact Paired.length hrw
  have k1:∀ b o,b ≠ p->H b = some o->m5 (m5 H p (.ins C dx [("many",.int q)])) p (.ins C dx [("many",.int q),("scale",.int 1)]) b = some o:=fun b o hb e=>by rw [c9 hb,c9 hb]; exact e
  refine ⟨_,rfl,ga,_,rfl,.inl hg,_,rfl,p,C,dx,_,rfl,hp,T.cl,T.nM,(by show 0 < 1000; decide),?_⟩
  rw [List.length_map,lg]
  refine ⟨_,rfl,p,C,dx,_,rfl,upd_same,T.cl,T.nS,(by show 1 < 1000; decide),?_⟩
  refine ⟨fun σ' H4=>∃ (l:Addr) (rs:List Addr),σ' = [some (.ref p),some (.ref ga),some (.ref ra),some (.ref ba)]/\H4 p = some (.ins C dx [("many",.int q),("scale",.int 1),("cells",.ref l)])/\H4 l = some (.lst (rs.map V.ref))/\rs.length = m/\H l = none ∧
    (∀ i a,rs[i]? = some a->a ≠ l/\H4 a = some (.lst ((t9 q (Lp.S0 m q (P7 rows) (C6 bounds) (C6 goal)) i).map V.int)))/\∀ b o,b ≠ p->H b = some o->H4 b = some o,?_,?_⟩
  . refine ⟨_,rfl,_,rfl,ra,ba,rfl,⟨_,Q0 hp k1 hra⟩,⟨_,Q0 hp k1 hba⟩,fun l hl=>?_⟩
    have nlp:p ≠ l:=d7 upd_same hl
    have hl0:H l = none:=by
      rw [c9 nlp.symm,c9 nlp.symm] at hl; exact hl
    refine a3Y (Q0 hp k1 hra) (Q0 hp k1 hba) hl (by rw [lv]; exact j6 (by lia)) (fun i y H2=>∃ a,y = .ref a/\a ≠ l/\H2 a = some (.lst ((t9 q (Lp.S0 m q (P7 rows) (C6 bounds) (C6 goal)) i).map V.int)))
      (fun i y H2 H3 ⟨a,h1,h2,h3⟩ e=>⟨a,h1,h2,e a _ h2 h3⟩) (fun i x y H2 zs N' hx hy e hl2 hN=>?_) (fun zs H2 e hl2 len pr=>?_)
    . obtain ⟨row,hrow,⟨a,rfl,ha⟩⟩:=Paired.at hrw hx
      rw [List.getElem?_map] at hy
      cases hbi:bounds[i]? with
      | none=>rw [hbi] at hy; cases hy
      | some b =>
        rw [hbi] at hy
        have hy':V.int b = y:=Option.some.inj hy
        subst hy'
        have hi:i < m:=by rw [<- lb]; exact (List.getElem?_eq_some_iff.mp hbi).1
        have hlen:=hrl row (List.mem_of_getElem? hrow)
        have ha2:SqL K H2 a (row.map V.int):=e.seq (Q0 hp k1 ha)
        refine ⟨_,rfl,a,_,rfl,.inl ha2,fun a1 h1=>?_⟩
        have s1:=Same.new h1 (.lst (row.map V.int))
        refine ⟨_,rfl,(by show 1 <= sizeLine; decide),fun a2 h2=>?_⟩
        have s2:=s1.trans (Same.new h2 (.lst [.int b]))
        have n12:a1 ≠ a2:=d7 upd_same h2
        refine ⟨a1,a2,_,_,rfl,rfl,(by rw [c9 n12]; exact upd_same),upd_same,?_,fun a3 h3=>?_⟩
        . rw [List.length_map,hlen]
          have:=j6 (show q + 1 <= 1000 by lia)
          simp
          lia
        . refine hN _ _ (s2.trans (Same.new h3 _)) ⟨a3,rfl,fun z=>?_,?_⟩
          . rw [z,s2 _ _ hl2] at h3; cases h3
          . rw [upd_same,<- b0c hrow hbi hlen hi,List.map_append]; rfl
    . have hp2:=e _ _ (upd_same (H:=m5 H p (.ins C dx [("many",.int q)])) (a:=p) (o:=.ins C dx [("many",.int q),("scale",.int 1)]))
      refine ⟨_,rfl,p,C,dx,_,rfl,hp2,T.cl,T.nC,(by show 2 < 1000; decide),?_⟩
      have hzs:zs = (zs.map a3f).map V.ref:=by
        rw [List.map_map]
        refine List.ext_getElem? fun i=>?_
        rw [List.getElem?_map]
        cases qi:zs[i]? with
        | none=>rfl
        | some y =>
          obtain ⟨a,rfl,_⟩:=pr i y qi
          rfl
      refine ⟨l,zs.map a3f,rfl,upd_same,by rw [c9 nlp.symm,hl2]; rw [<- hzs],by rw [List.length_map,len,lv,List.length_map,lb]; lia,hl0,fun i a hi=>?_,fun b o hb hbo=>by rw [c9 hb]; exact e _ _ (k1 b o hb hbo)⟩
      rw [List.getElem?_map] at hi
      cases qi:zs[i]? with
      | none=>rw [qi] at hi; cases hi
      | some y =>
        obtain ⟨a',rfl,h2,h3⟩:=pr i y qi
        rw [qi] at hi
        have:a' = a:=Option.some.inj hi
        subst this
        refine ⟨h2,?_⟩
        rw [c9 (fun z=>by rw [z,hp2] at h3; cases h3)]
        exact h3
  intro σ' H4 hM_; refine R7 fun G_ hG_=>?_; obtain ⟨l,rs,rfl,hp4,hl4,hlen,hl0,hrs,hk⟩:=hM_; subst hG_
  have nlp:l ≠ p:=(d7 hp hl0).symm
  refine ⟨fun σ' H5=>∃ rs':List Addr,σ' = [some (.ref p),some (.ref ga),some (.ref ra),some (.ref ba)]/\H5 p = some (.ins C dx [("many",.int q),("scale",.int 1),("cells",.ref l)])/\H5 l = some (.lst (rs'.map V.ref))/\rs'.length = m + 1 ∧
    (∀ i a,rs'[i]? = some a->a ≠ l/\H5 a = some (.lst ((t9 q (Lp.S0 m q (P7 rows) (C6 bounds) (C6 goal)) i).map V.int)))/\∀ b o,b ≠ p->H b = some o->H5 b = some o,?_,?_⟩
  . refine ⟨_,rfl,p,C,dx,_,_,rfl,hp4,T.cl,T.nC,rfl,.inl ⟨rfl,_,SqL.of hl4⟩,?_⟩
    have hg4:=Q0 hp hk hg
    refine ⟨_,rfl,ga,rfl,⟨_,hg4⟩,fun a1 h1=>?_⟩
    refine U5 (D4 hg4) h1 (by rw [List.length_map,lg]; exact j6 (by lia)) (fun x=>.int (-(vI x))) (fun i x H' N' hx e hN=>?_) ?_
    . obtain ⟨x',rfl,_⟩:=X5 hx
      exact ⟨Wk.set (by decide),_,rfl,_,rfl,hN⟩
    have eg:(goal.map V.int).map (fun x=>V.int (-(vI x))) = (goal.map fun x=>-x).map V.int:=by rw [List.map_map,List.map_map]; rfl
    rw [eg]
    have s1:=Same.new h1 (.lst ((goal.map fun x=>-x).map V.int))
    refine ⟨(by show 1 <= sizeLine; decide),fun a2 h2=>?_⟩
    have s2:=s1.trans (Same.new h2 (.lst [.int 0]))
    have n12:a1 ≠ a2:=d7 upd_same h2
    refine ⟨a1,a2,_,_,rfl,rfl,(by rw [c9 n12]; exact upd_same),upd_same,?_,fun a3 h3=>?_⟩
    . rw [List.length_map,List.length_map,lg]
      have:=j6 (show q + 1 <= 1000 by lia)
      simp
      lia
    have s3:=s2.trans (Same.new h3 (.lst ((goal.map fun x=>-x).map V.int ++ [.int 0])))
    refine ⟨l,_,_,rfl,rfl,s3 _ _ hl4,(by rw [List.length_map,hlen]; exact j6 (by lia)),?_⟩
    have n3l:a3 ≠ l:=fun z=>by rw [z,s2 _ _ hl4] at h3; cases h3
    have n3p:a3 ≠ p:=fun z=>by rw [z,s2 _ _ hp4] at h3; cases h3
    refine ⟨rs ++ [a3],rfl,by rw [c9 nlp.symm]; exact s3 _ _ hp4,by rw [upd_same,List.map_append]; rfl,by rw [List.length_append,hlen]; rfl,fun i a hi=>?_,fun b o hb hbo=>by rw [c9 (d7 hbo hl0)]; exact s3 _ _ (hk b o hb hbo)⟩
    by_cases him:i < m
    . rw [List.getElem?_append_left (by lia)] at hi
      obtain ⟨g1,g2⟩:=hrs i a hi
      exact ⟨g1,by rw [c9 g1]; exact s3 _ _ g2⟩
    . rw [List.getElem?_append_right (by lia)] at hi
      have hi0:i - rs.length = 0:=by
        cases z:i - rs.length with
        | zero=>rfl
        | succ j=>rw [z] at hi; simp at hi
      rw [hi0] at hi
      have:a3 = a:=Option.some.inj hi
      subst this
      have:i = m:=by lia
      subst this
      refine ⟨n3l,?_⟩
      rw [c9 n3l,upd_same,<- a8w lg,List.map_append]; rfl
  intro σ' H5 hM_; refine R7 fun G_ hG_=>?_; obtain ⟨rs',rfl,hp5,hl5,hlen5,hrs5,hk5⟩:=hM_; subst hG_
  refine ⟨_,rfl,p,C,dx,_,_,rfl,hp5,T.cl,T.nM,rfl,q,rfl,fun r1 h1=>?_⟩
  have s1:=Same.new h1 (.rng 0 (q:Int))
  refine ⟨r1,0,q,rfl,by rw [upd_same,Int.zero_add],by lia,by lia,by lia,fun oa hoa=>?_⟩
  have s2:=s1.trans (Same.new hoa (.lst ((List.range q).map fun (i:Nat)=>V.int (0 + (i:Int)))))
  have noa5:H5 oa = none:=by
    cases z:H5 oa with
    | none=>rfl
    | some o=>rw [s1 _ _ z] at hoa; cases hoa
  have nop:oa ≠ p:=(d7 hp5 noa5).symm
  refine ⟨_,rfl,p,C,dx,_,rfl,s2 _ _ hp5,T.cl,T.nO,(by show 3 < 1000; decide),?_⟩
  have hra5:=Q0 hp hk5 hra
  have lp5:SqL K (m5 (m5 (m5 H5 r1 (.rng 0 (q:Int))) oa (.lst ((List.range q).map fun (i:Nat)=>V.int (0 + (i:Int))))) p (.ins C dx [("many",.int q),("scale",.int 1),("cells",.ref l),("outs",.ref oa)])) ra rvs :=
    Q0 (s2 _ _ hp5) (fun b o hb e=>by rw [c9 hb]; exact e) (s2.seq hra5)
  refine ⟨_,rfl,p,C,dx,_,_,rfl,upd_same,T.cl,T.nM,rfl,_,rfl,p,C,dx,_,_,rfl,upd_same,T.cl,T.nM,rfl,_,rfl,ra,_,rfl,.inl lp5,_,_,rfl,rfl,_,_,rfl,fun r2 h2=>?_⟩
  rw [lv]
  refine ⟨r2,(q:Int),m,rfl,upd_same,by lia,by lia,by lia,fun ia hia=>?_⟩
  have n2p:r2 ≠ p:=(d7 upd_same h2).symm
  have nip:ia ≠ p:=by
    refine (d7 (H:=_) (o:=.ins C dx [("many",.int q),("scale",.int 1),("cells",.ref l),("outs",.ref oa)]) ?_ hia).symm
    rw [c9 n2p.symm,upd_same]; rfl
  have oa6:∀ o,m5 (m5 (m5 H5 r1 (.rng 0 (q:Int))) oa o) p (.ins C dx [("many",.int q),("scale",.int 1),("cells",.ref l),("outs",.ref oa)]) oa = some o:=fun o=>by rw [c9 nop,upd_same]
  have n2o:r2 ≠ oa:=(d7 (oa6 _) h2).symm
  have nio:ia ≠ oa:=by
    refine (d7 (H:=_) (o:=.lst ((List.range q).map fun (i:Nat)=>V.int (0 + (i:Int)))) ?_ hia).symm
    rw [c9 n2o.symm]; exact oa6 _
  have up:∀ b o,b ≠ p->H5 b = some o->b ≠ ia/\b ≠ r2/\m5 (m5 H5 r1 (.rng 0 (q:Int))) oa (.lst ((List.range q).map fun (i:Nat)=>V.int (0 + (i:Int)))) b = some o:=fun b o hb e=>by
    have e2:=s2 _ _ e
    have nb2:b ≠ r2:=by
      refine d7 (H:=_) (o:=o) ?_ h2
      rw [c9 hb]; exact e2
    refine ⟨?_,nb2,e2⟩
    refine d7 (H:=_) (o:=o) ?_ hia
    rw [c9 nb2,c9 hb]; exact e2
  refine ⟨_,rfl,p,C,dx,_,rfl,(by rw [c9 nip.symm,c9 n2p.symm]; exact upd_same),T.cl,T.nI,(by show 4 < 1000; decide),?_⟩
  have fin:∀ b o,b ≠ p->H5 b = some o->m5 (m5 (m5 (m5 (m5 (m5 H5 r1 (.rng 0 (q:Int))) oa (.lst ((List.range q).map fun (i:Nat)=>V.int (0 + (i:Int))))) p (.ins C dx [("many",.int q),("scale",.int 1),("cells",.ref l),("outs",.ref oa)])) r2 (.rng (q:Int) ((q:Int) + (m:Int)))) ia (.lst ((List.range m).map fun (i:Nat)=>V.int ((q:Int) + (i:Int))))) p (.ins C dx [("many",.int q),("scale",.int 1),("cells",.ref l),("outs",.ref oa),("ins",.ref ia)]) b = some o:=fun b o hb e=>by
    obtain ⟨g1,g2,g3⟩:=up b o hb e
    rw [c9 hb,c9 g1,c9 g2,c9 hb]; exact g3
  have ia5:H5 ia = none:=by
    cases z:H5 ia with
    | none=>rfl
    | some o=>exact absurd rfl (up ia o nip z).1
  have back:∀ b,b ≠ p->H5 b = none->H b = none:=fun b hb z=>by
    cases z2:H b with
    | none=>rfl
    | some o=>rw [hk5 b o hb z2] at z; cases z
  refine k _ l oa ia rs' ⟨upd_same,fin _ _ nlp hl5,hlen5,fun i a hi=>fin _ _ (fun z=>?_) (hrs5 i a hi).2,?_,?_,nio.symm⟩ (fun b o hb hbo=>fin b o hb (hk5 b o hb hbo)) (back _ nop noa5) (back _ nip ia5)
  . have:=(hrs5 i a hi).2
    rw [z,hp5] at this; cases this
  . rw [c9 nop,c9 nio.symm,c9 n2o.symm,c9 nop,upd_same,a8D]
  . rw [c9 nip,upd_same,b0q]
end
end Rim
namespace Rim
open PySem L2
section
variable {P:Program} {w:World} {K:W.Frag} {mg:Str->Option Value} {base:Heap} {f Pt:Addr} {fd:FuncData} {n:Nat} {C:Addr}
def J9 (K:W.Frag) (C Pt:Addr):Sp:=fun vs H Q _=>∃ (ga ra ba:Addr) (goal:List Int) (rvs:List V) (rows:List (List Int)) (bounds:List Int) (m q M:Nat),vs = [.ref ga,.ref ra,.ref ba]/\SqL K H ga (goal.map V.int)/\SqL K H ra rvs ∧
  RowsL K H rvs rows/\SqL K H ba (bounds.map V.int)/\rows.length = m/\bounds.length = m/\goal.length = q/\(∀ r ∈ rows,r.length = q)/\m < 900/\q < 900/\(∀ i,i < m->0 <= C6 bounds i) ∧
  (∀ v,Lp.Fits M (m + 1) (Lp.Vv m q (P7 rows) (C6 bounds) (C6 goal) v))/\Lp.bnd M (m + 1) < 2 ^ 4000/\LT Pt H ∧
  (∀ (S:Lp.Bo) (H':Hp) (t aa wa:Addr),Lp.Of m q (P7 rows) (C6 bounds) (C6 goal) S->(∀ j,j < q->¬ S.T m j < 0)->Sz 4000 m q S->Same1 Pt H H'->LT Pt H'->H' t = some (.tup [.int (S.T m q),.ref aa,.ref wa,.int S.d]) →
    H' aa = some (.lst ((m4 m q S).map V.int))->H' wa = some (.lst ((E5 m q S).map V.int))->Q (.ref t) H') ∧
  ∀ (S:Lp.Bo) (H':Hp) (c:Nat),Lp.Of m q (P7 rows) (C6 bounds) (C6 goal) S->c < q->S.T m c < 0->(∀ i,i < m->¬ 0 < S.T i c)->Same1 Pt H H'->LT Pt H'->Q .non H'
theorem scGr:j3 ["goal","rows","bounds","board","column","row"] ["goal","rows","bounds"] (h8 F0):=⟨rfl,rfl,rfl,by decide +kernel,rfl,by decide +kernel,by decide +kernel⟩
structure b1V (P:Program) (w:World) (K:W.Frag) (mg:Str->Option Value) (base:Heap) (n:Nat) (C Pt:Addr) (f1 f2 f3 f4 f5 f6:Addr) (d1 d2 d3 d4 d5 d6:FuncData):Prop where
  mak:Mk K C f1
  ini:FnOk P w K mg base D6 n f1 d1 ["self","goal","rows","bounds"] (a7d K C)
  inb:Binds K d1 ["self","goal","rows","bounds"] []
  mC:mg "Board" = some (.ref C)
  com:a6g P w K mg base n C "coming" ["self"] (a1r C Pt) f2 d2
  goi:a6g P w K mg base n C "going" ["self","column"] (a4N C) f3 d3
  exc:a6g P w K mg base n C "exchange" ["self","row","column"] (a0V C) f4 d4
  amt:a6g P w K mg base n C "amounts" ["self"] (a7J C) f5 d5
  wts:a6g P w K mg base n C "weights" ["self"] (a9Q C) f6 d6
set_option maxHeartbeats 4000000 in
noncomputable def grT {cdv:Value} {A:Around} {outer:List Env} {s:Shared} {H:Hp} {E:XK} {f1 f2 f3 f4 f5 f6:Addr} {d1 d2 d3 d4 d5 d6:FuncData} (T:TB K C) (G:b1V P w K mg base n C Pt f1 f2 f3 f4 f5 f6 d1 d2 d3 d4 d5 d6)
    (hr:Room (n + 1) (A.deeper (PyProof.Rows.envOfC "greatest" (h8 F0) s.heap.objs.size f cdv))) (hr0:Room n (A.deeper (PyProof.Rows.envOfC "greatest" (h8 F0) s.heap.objs.size f cdv))) :
    { t:TS // PSs (J1 D6 P w K mg base ["goal","rows","bounds","board","column","row"] "greatest" (h8 F0) f cdv A outer s H E).nox (p9 F0) t } :=
  ⟨_,i4 (m8 (i:=3) scGr.nd rfl (Or.inl rfl) (a2Q G.mak G.ini hr rfl G.mC G.inb .nil p6 (a0 (pv 0) (a0 (pv 1) (a0 (pv 2) d8)))))
    (i4 (m8 (i:=4) scGr.nd rfl (Or.inl rfl) (C2 (pv 3) T.cl G.com.me G.com.ok hr0 G.com.bd .nil p6))
    (i4 (a3y PassesOwn.never (o4 a8S (pv 4) U7 (o6 _))
      (i4 (m8 (i:=5) scGr.nd rfl (Or.inl rfl) (G2 (pv 3) T.cl G.goi.me G.goi.ok hr0 G.goi.bd .nil p6 (a0 (pv 4) d8)))
      (i4 (x8 (o4 a4m (pv 5) U7 (o6 _)) (i7 (m7 U7)) r6)
      (i4 (A3 (G2 (pv 3) T.cl G.exc.me G.exc.ok hr0 G.exc.bd .nil p6 (a0 (pv 5) (a0 (pv 4) d8))))
      (i7 (m8 (i:=4) scGr.nd rfl (Or.inl rfl) (C2 (pv 3) T.cl G.com.me G.com.ok hr0 G.com.bd .nil p6)))))))
    (i7 (m7 (M7 (a0 (j0 i8 (j0 i8 (j4 (pv 3) rfl) (L8 E1 d9) (fun _ _=>rfl)) (L8 E1 d9) (fun _ _=>rfl))
      (a0 (C2 (pv 3) T.cl G.amt.me G.amt.ok hr0 G.amt.bd .nil p6) (a0 (C2 (pv 3) T.cl G.wts.me G.wts.ok hr0 G.wts.bd .nil p6) (a0 (j4 (pv 3) rfl) d8)))))))))⟩
end
end Rim
namespace Rim
open PySem L2
section
variable {P:Program} {w:World} {K:W.Frag} {mg:Str->Option Value} {base:Heap} {f Pt:Addr} {fd:FuncData} {n:Nat} {C:Addr}
theorem RowsL.same {H H':Hp} {vs:List V} {rs:List (List Int)} (e:Same H H') (x:RowsL K H vs rs):RowsL K H' vs rs:=Paired.imp' (fun _ _ ⟨a,z,q⟩=>⟨a,z,e.seq q⟩) x
theorem b2o {m q M:Nat} {A:Nat->Nat->Int} {b c:Nat->Int} {S:Lp.Bo} (O:Lp.Of m q A b c S) (hM:∀ v,Lp.Fits M (m + 1) (Lp.Vv m q A b c v)) (hb:Lp.bnd M (m + 1) < 2 ^ 4000):Sz 4000 m q S :=
  ⟨fun i j hi hj=>Nat.lt_of_le_of_lt (O.w.bndT hM hi hj) hb,Nat.lt_of_le_of_lt (O.w.bndd hM) hb⟩
def Cv (m q:Nat) (S:Lp.Bo) (cv:V):Prop:=(cv = .non/\∀ j,j < q->¬ S.T m j < 0) \/ ∃ c:Nat,cv = .int c/\c < q/\S.T m c < 0/\∀ i,i < q->S.T m i < 0->S.outs c <= S.outs i
set_option maxHeartbeats 8000000 in
theorem a3D {f1 f2 f3 f4 f5 f6:Addr} {d1 d2 d3 d4 d5 d6:FuncData} (F:Fun K "greatest" "greatest" F0 f fd) (T:TB K C) (G:b1V P w K mg base n C Pt f1 f2 f3 f4 f5 f6 d1 d2 d3 d4 d5 d6) :
    FnOk P w K mg base D6 (n + 2) f fd ["goal","rows","bounds"] (J9 K C Pt):=by
  refine F.ok scGr (fun vs H Q E h=>?_) (fun cdv A outer s H vs Q E hr h=>?_)
  . obtain ⟨ga,ra,ba,goal,rvs,rows,bounds,m,q,M,rfl,_⟩:=h
    rfl
  obtain ⟨ga,ra,ba,goal,rvs,rows,bounds,m,q,M,rfl,hg,hra,hrw,hba,lr,lb,lg,hrl,hm,hq,hbn,hM,hB,L,kT,kN⟩:=h
  refine ⟨_,(grT T G hr (hr.mono (by lia))).2,?_⟩
  refine ⟨_,rfl,_,rfl,_,rfl,fun p dx hp hdx hne=>?_⟩
  have e0:Same H (m5 (m5 H dx (.own p)) p (.ins C dx [])):=fun b o q'=>by rw [c9 (d7 q' hp),c9 (d7 q' hdx)]; exact q'
  refine ⟨p,dx,ga,ra,ba,goal,rvs,rows,bounds,m,q,rfl,upd_same,e0.seq hg,e0.seq hra,hrw.same e0,e0.seq hba,lr,lb,lg,hrl,hm,hq,fun H1 ca oa ia rs B k1 hoa hia=>⟨rfl,?_⟩⟩
  have nop:oa ≠ p:=w6 B.out B.obj (by intro z; cases z)
  have nip:ia ≠ p:=w6 B.inn B.obj (by intro z; cases z)
  have hoa0:H oa = none:=by
    cases z:H oa with
    | none=>rfl
    | some o=>rw [e0 _ _ z] at hoa; cases hoa
  have hia0:H ia = none:=by
    cases z:H ia with
    | none=>rfl
    | some o=>rw [e0 _ _ z] at hia; cases hia
  have s1:Same H H1:=fun b o z=>k1 b o (d7 z hp) (e0 _ _ z)
  have L1:LT Pt H1:=L.same s1
  have O0:=Lp.of0 (A:=P7 rows) (c:=C6 goal) (q:=q) hbn
  have come:∀ (S:Lp.Bo) (ca:Addr) (rs:List Addr) (H2:Hp) (R:V->Hp->Prop),Bd C H2 p dx ca oa ia rs m q S->LT Pt H2->Same1 Pt H H2->(∀ cv H3,Cv m q S cv->Bd C H3 p dx ca oa ia rs m q S->LT Pt H3->Same1 Pt H H3->R cv H3) →
      a1r C Pt [.ref p] H2 R E0:=fun S ca rs H2 R B2 L2 e2 hR=>by
    refine ⟨p,dx,ca,oa,ia,rs,m,q,S,rfl,B2,by lia,L2,fun H3 e3 L3=>?_⟩
    have B3:=B2.lam L2 e3
    have e4:Same1 Pt H H3:=fun b o hb z=>e3 b o hb (e2 b o hb z)
    exact ⟨fun hn=>hR _ _ (.inl ⟨rfl,hn⟩) B3 L3 e4,fun j hj hneg hmin=>hR _ _ (.inr ⟨j,rfl,hj,hneg,hmin⟩) B3 L3 e4⟩
  refine ⟨_,rfl,p,dx,_,rfl,B.obj,rfl,?_⟩
  unfold a8f
  refine come _ _ _ _ _ B L1 (fun b o _ z=>s1 b o z) fun cv H2 hcv B2 L2 e2=>?_
  obtain ⟨kk,hkk⟩:=O0.w.ends hM
  refine ⟨fun j σ H3=>∃ (S:Lp.Bo) (ca:Addr) (rs:List Addr) (cv:V) (o5:Option V),σ = [some (.ref ga),some (.ref ra),some (.ref ba),some (.ref p),some cv,o5]/\Lp.Of m q (P7 rows) (C6 bounds) (C6 goal) S/\Lp.Ends m q S j/\Cv m q S cv/\Bd C H3 p dx ca oa ia rs m q S/\LT Pt H3/\Same1 Pt H H3,
    ⟨kk,_,ca,rs,cv,_,rfl,O0,hkk,hcv,B2,L2,e2⟩,?_⟩
  rintro j σ H3 ⟨S,ca,rs,cv,o5,rfl,O,hE,hcv,B3,L3,e3⟩
  have sz:=b2o O hM hB
  refine ⟨_,rfl,rfl,_,rfl,?_⟩
  rcases hcv with ⟨rfl,hn⟩ | ⟨c,rfl,hc,hneg,hmin⟩
  . refine C3 (fun z=>?_) (fun _=>?_)
    . exact absurd z (by decide)
    obtain ⟨rm,em,am⟩:=B3.rs_last
    refine ⟨_,rfl,p,C,dx,_,_,rfl,B3.obj,T.cl,T.nC,rfl,_,rfl,ca,_,_,_,rfl,rfl,SqL.of B3.cel,am,_,rfl,rm,_,_,_,rfl,rfl,SqL.of (B3.row m rm em),R9,?_⟩
    refine ⟨_,rfl,p,dx,_,rfl,B3.obj,rfl,?_⟩
    refine ⟨p,dx,ca,oa,ia,rs,m,q,S,rfl,B3,hm,hq,O.w.ii,fun aa H4 e4 haa h4=>?_⟩
    have B4:Bd C H4 p dx ca oa ia rs m q S:=B3.same1 (P:=Pt) fun b o z _=>e4 b o z
    refine ⟨_,rfl,p,dx,_,rfl,B4.obj,rfl,?_⟩
    refine ⟨p,dx,ca,oa,ia,rs,m,q,S,rfl,B4,hm,hq,O.w.oo,O.w.ob,fun wa H5 e5 hwa h5=>?_⟩
    have B5:Bd C H5 p dx ca oa ia rs m q S:=B4.same1 (P:=Pt) fun b o z _=>e5 b o z
    refine ⟨_,rfl,p,C,dx,_,_,rfl,B5.obj,T.cl,T.nS,rfl,(by show 4 <= sizeLine; decide),fun t ht=>?_⟩
    have e6:=(e4.trans e5).trans (Same.new ht (.tup [.int (S.T m q),.ref aa,.ref wa,.int S.d]))
    refine kT S _ t aa wa O hn sz (fun b o hb z=>e6 b o (e3 b o hb z)) (L3.same e6) upd_same ?_ ?_
    . rw [c9 (d7 (e5 _ _ h4) ht)]; exact e5 _ _ h4
    . rw [c9 (d7 h5 ht)]; exact h5
  . refine C3 (fun _=>?_) (fun z=>absurd rfl z)
    refine ⟨fun σ' H'=>∃ j',j' < j/\∃ (S:Lp.Bo) (ca:Addr) (rs:List Addr) (cv:V) (o5:Option V),σ' = [some (.ref ga),some (.ref ra),some (.ref ba),some (.ref p),some cv,o5]/\Lp.Of m q (P7 rows) (C6 bounds) (C6 goal) S/\Lp.Ends m q S j'/\Cv m q S cv/\Bd C H' p dx ca oa ia rs m q S/\LT Pt H'/\Same1 Pt H H',fun σ' H' z=>z,?_⟩
    refine ⟨_,rfl,p,dx,_,rfl,B3.obj,rfl,_,rfl,?_⟩
    refine ⟨p,dx,ca,oa,ia,rs,m,q,S,c,rfl,B3,sz,by lia,by lia,fun hnone=>?_,fun r hrm hpos hbet=>?_⟩
    . refine ⟨_,rfl,rfl,_,rfl,?_⟩
      refine C3 (fun _=>?_) (fun z=>absurd (decide_eq_true rfl) z)
      exact kN S H3 c O hc hneg hnone e3 L3
    . have Ch:Lp.Choice m q S r c:=⟨hc,hneg,hmin,hrm,hpos,fun i hi hp'=>(hbet i hi hp').1,fun i hi hp'=>(hbet i hi hp').2⟩
      refine ⟨_,rfl,rfl,_,rfl,?_⟩
      refine C3 (fun z=>absurd (of_decide_eq_true z) (by nofun)) (fun _=>?_)
      refine ⟨_,rfl,p,dx,_,rfl,B3.obj,rfl,_,rfl,_,rfl,?_⟩
      refine ⟨p,dx,ca,oa,ia,rs,m,q,S,r,c,rfl,B3,sz,hrm,hc,hm,hq,O.w.pos,fun H4 ca' rs' B4 k4=>?_⟩
      have e4:Same1 Pt H H4:=fun b o hb z=>k4 b o (d7 z hp) (d7 z hoa0) (d7 z hia0) (e3 b o hb z)
      have tk:∀ b o,H3 b = some o->(∀ C dx fs,o ≠ .ins C dx fs)->(∀ xs,o ≠ .lst xs)->H4 b = some o:=fun b o z n1 n2=>k4 b o (fun y=>by subst y; rw [B3.obj] at z; exact n1 _ _ _ (Option.some.inj z).symm) (fun y=>by subst y; rw [B3.out] at z; exact n2 _ (Option.some.inj z).symm) (fun y=>by subst y; rw [B3.inn] at z; exact n2 _ (Option.some.inj z).symm) z
      have L4:LT Pt H4:=by
        rcases L3 with t | ⟨c',t1,t2⟩
        . exact .inl (tk _ _ t (fun _ _ _=>nofun) fun _=>nofun)
        . exact .inr ⟨c',tk _ _ t1 (fun _ _ _=>nofun) fun _=>nofun,tk _ _ t2 (fun _ _ _=>nofun) fun _=>nofun⟩
      refine ⟨_,rfl,p,dx,_,rfl,B4.obj,rfl,?_⟩
      refine come _ _ _ _ _ B4 L4 e4 fun cv' H5 hcv' B5 L5 e5=>?_
      obtain ⟨j',hj',hE'⟩:=hE.next O.w Ch
      exact ⟨j',hj',_,ca',rs',cv',_,rfl,O.piv Ch,hE',hcv',B5,L5,e5⟩
end
end Rim
namespace Rim
open PySem L2
section
variable {P:Program} {w:World} {K:W.Frag} {mg:Str->Option Value} {base:Heap} {f g:Addr} {fd gd:FuncData}
def a7o (K:W.Frag):Sp:=fun vs H Q _=>∃ (a:Addr) (ns:List Int) (k:Int),vs = [.ref a,.int k]/\SqL K H a (ns.map V.int)/\0 <= k/\∀ c:Int,Q (.int c) H
theorem b0z:j3 ["script","k"] ["script","k"] (h8 a8m):=⟨rfl,rfl,rfl,by decide +kernel,rfl,by decide +kernel,by decide +kernel⟩
theorem b0J {ns:List Int} {k:Int} (h0:0 <= k) (h:k < ((ns.map V.int).length:Int)):∃ v:Int,X3 (ns.map V.int) k = some (.int v):=by
  have hl:(ns.map V.int).length = ns.length:=List.length_map _
  have hk:k.toNat < ns.length:=by lia
  have ek:k = ((k.toNat:Nat):Int):=by lia
  have q:X3 (ns.map V.int) ((k.toNat:Nat):Int) = some (.int ns[k.toNat]):=E4 (by rw [List.getElem?_map,List.getElem?_eq_getElem hk]; rfl)
  rw [<- ek] at q
  exact ⟨_,q⟩
theorem a9j {n:Nat} (F:Fun K "_law_cell_at" "_law_cell_at" a8m f fd) (T:v7 mg):FnOk P w K mg base D6 (n + 1) f fd ["script","k"] (a7o K):=by
  refine F.ok b0z (fun vs H Q E h=>?_) (fun cdv A outer s H vs Q E hr h=>?_)
  . obtain ⟨a,ns,k,rfl,_⟩:=h
    rfl
  obtain ⟨a,ns,k,rfl,hS,h0,q⟩:=h
  refine ⟨_,i4 (x8 (o4 a1h (pv 1) (m9 j8 rfl T.len PySem.boot_len (a0 (pv 0) d8)) (o6 _)) (i7 (m7 (j0 i8 (pv 0) (pv 1) (fun _ _=>rfl)))) r6)
    (i7 (m7 d9)),?_⟩
  refine ⟨_,rfl,_,rfl,a,_,rfl,.inl hS,_,_,rfl,rfl,_,rfl,?_⟩
  refine C3 (fun c=>?_) (fun c=>?_)
  . obtain ⟨v,hv⟩:=b0J h0 (of_decide_eq_true c)
    exact ⟨_,rfl,_,rfl,a,_,_,_,rfl,rfl,hS,hv,q v⟩
  . exact q 0
def a5d (K:W.Frag):Sp:=fun vs H Q _=>∃ (c:Int) (many:Nat) (b:Int),vs = [.int c,.int (many:Int),.int b]/\many <= 900/\0 < b/\b < 1073741824 ∧
  ∀ (r:Addr) (H':Hp) (ds:List Int),Same H H'->H' r = some (.lst (ds.map V.int))->ds.length = many->(∀ d ∈ ds,0 <= d/\d < b)->Q (.ref r) H'
theorem scDraws:j3 ["cell","many","base","found","rest","stirred","k"] ["cell","many","base"] (h8 a4d):=⟨rfl,rfl,rfl,by decide +kernel,rfl,by decide +kernel,by decide +kernel⟩
theorem a7G {n:Nat} (F:Fun K "_law_draws" "_law_draws" a4d f fd) (T:v7 mg):FnOk P w K mg base D6 (n + 1) f fd ["cell","many","base"] (a5d K):=by
  refine F.ok scDraws (fun vs H Q E h=>?_) (fun cdv A outer s H vs Q E hr h=>?_)
  . obtain ⟨a,ns,k,rfl,_⟩:=h
    rfl
  obtain ⟨c,many,b,rfl,hm,hb0,hb1,q⟩:=h
  refine ⟨_,i4 (m8 (i:=3) scDraws.nd rfl (Or.inl rfl) (r9 d8))
    (i4 (m8 (i:=4) scDraws.nd rfl (Or.inl rfl) (i9 a4s (pv 0) (u0 a2h rfl T.int PyProof.Rows.boot_int (a0 (P0 a6B (pv 0) (i9 b0K d9 d9) (o6 _)) d8))))
    (i4 (m8 (i:=5) scDraws.nd rfl (Or.inl rfl) (i9 A0 (pv 0) d9))
    (i4 (V2 PassesOwn.never rfl (J6 rfl T.range (a0 (i9 A5 (pv 1) d9) d8)) (j5 (i:=6) scDraws.nd rfl (Or.inl rfl))
      (i4 (m8 (i:=5) scDraws.nd rfl (Or.inl rfl) (i9 A0 (i9 A5 (i9 A5 (i9 A5 (i9 a4s (pv 5) (pv 5)) (i9 a4s d9 (pv 5))) (pv 6)) d9) d9))
        (i7 (x8 (PW.pt (a0c (o4 T6 (pv 6) d9 (o6 _)) (R8 (o4 T6 (pv 4) d9 (o6 _)))))
          (i4 (A3 (a1N PySem.F.plainAttrs_list PySem.F.slot_list_append PySem.F.type_list_append E9 (pv 3) (a0 (i9 A0 (pv 4) (pv 2)) d8))) (i7 (m8 (i:=4) scDraws.nd rfl (Or.inl rfl) (i9 a5D (pv 4) (pv 2)))))
          (i7 (x8 (o4 T6 (pv 6) d9 (o6 _)) (i7 (A3 (a1N PySem.F.plainAttrs_list PySem.F.slot_list_append PySem.F.type_list_append E9 (pv 3) (a0 (i9 A0 (i9 a5D (pv 5) d9) (pv 2)) d8)))) r6))))))
    (i7 (m7 (pv 3)))))),?_⟩
  refine ⟨(by show 0 <= sizeLine; decide),fun fl hfl=>?_⟩
  refine ⟨_,rfl,_,rfl,_,_,rfl,rfl,⟨by decide,by decide,by decide⟩,_,_,rfl,rfl,.inr ⟨_,rfl,_,_,rfl,rfl,.inr ?_,?_⟩⟩
  . constructor <;> (split <;> decide)
  refine ⟨_,rfl,_,_,rfl,rfl,(by show (0:Int) < 2305843009213693951; decide),?_⟩
  refine ⟨_,rfl,_,_,rfl,rfl,((many:Int) + 3),rfl,by lia,by lia,?_⟩
  have e3:((many:Int) + 3).toNat = many + 3:=by lia
  rw [e3]
  refine a2b (n:=many + 3) (fun i σ H'=>∃ (r st:Int) (ds:List Int) (ks:Option V),σ = [some (.int c),some (.int (many:Int)),some (.int b),some (.ref fl),some (.int r),some (.int st),ks]/\H' = m5 H fl (.lst (ds.map V.int))/\ds.length = i - 3/\(∀ d ∈ ds,0 <= d/\d < b)/\0 <= st/\st < 2305843009213693951)
    ⟨_,_,[],none,rfl,rfl,rfl,fun d hd=>(by cases hd),Int.emod_nonneg _ (by decide),Int.emod_lt_of_pos _ (by decide)⟩ ?_ ?_
  . rintro i σ H' hi ⟨r,st,ds,ks,rfl,rfl,hl,hd,hs0,hs1⟩
    refine ⟨_,rfl,_,rfl,_,_,rfl,rfl,.inl ⟨by lia,by lia⟩,_,rfl,_,_,rfl,rfl,.inl ⟨by decide,by decide⟩,_,_,rfl,rfl,_,rfl,_,_,rfl,rfl,_,_,rfl,rfl,_,_,rfl,rfl,(by show (0:Int) < 2305843009213693951; decide),?_⟩
    have hs0':0 <= (st * st + 48271 * st + (0 + (i:Int)) + 1) % 2305843009213693951:=Int.emod_nonneg _ (by decide)
    have hs1':(st * st + 48271 * st + (0 + (i:Int)) + 1) % 2305843009213693951 < 2305843009213693951:=Int.emod_lt_of_pos _ (by decide)
    refine ⟨_,rfl,_,_,rfl,rfl,_,rfl,?_⟩
    have hz:(ds.map V.int).length < sizeLine:=by rw [List.length_map]; exact j6 (by lia)
    have more:∀ d:Int,(ds.map V.int) ++ [V.int d] = (ds ++ [d]).map V.int:=fun d=>by rw [List.map_append]; rfl
    have mem:∀ d:Int,0 <= d->d < b->∀ d' ∈ ds ++ [d],0 <= d'/\d' < b:=fun d h0 h1 d' hd'=>by
      rcases List.mem_append.mp hd' with z | z
      . exact hd d' z
      . rw [List.mem_singleton.mp z]; exact ⟨h0,h1⟩
    refine C3 (fun c1=>?_) (fun c1=>?_)
    . have c1':2 < 0 + (i:Int):=of_decide_eq_true c1
      refine ⟨_,rfl,_,_,rfl,rfl,_,rfl,?_⟩
      refine C3 (fun c2=>?_) (fun c2=>?_)
      . refine ⟨_,rfl,.inl ⟨rfl,_,SqL.of upd_same⟩,_,rfl,_,rfl,_,_,rfl,rfl,hb0,fl,_,_,rfl,rfl,upd_same,hz,?_⟩
        refine ⟨_,rfl,_,rfl,_,_,rfl,rfl,⟨hb0,hb1⟩,?_⟩
        refine ⟨_,_,ds ++ [r % b],_,rfl,?_,?_,mem _ (Int.emod_nonneg _ (by lia)) (Int.emod_lt_of_pos _ hb0),hs0',hs1'⟩
        . rw [L6,more]
        . rw [List.length_append,List.length_singleton]; lia
      . refine ⟨_,rfl,_,_,rfl,rfl,_,rfl,?_⟩
        refine C3 (fun c3=>?_) (fun c3=>absurd c1 c3)
        refine ⟨_,rfl,.inl ⟨rfl,_,SqL.of upd_same⟩,_,rfl,_,_,rfl,rfl,⟨by decide,by decide⟩,_,rfl,_,_,rfl,rfl,hb0,fl,_,_,rfl,rfl,upd_same,hz,?_⟩
        refine ⟨_,_,ds ++ [(st * st + 48271 * st + (0 + (i:Int)) + 1) % 2305843009213693951 / 4096 % b],_,rfl,?_,?_,mem _ (Int.emod_nonneg _ (by lia)) (Int.emod_lt_of_pos _ hb0),hs0',hs1'⟩
        . rw [L6,more]
        . rw [List.length_append,List.length_singleton]; lia
    . have c1':¬ 2 < 0 + (i:Int):=of_decide_eq_false (Bool.eq_false_iff.mpr c1)
      refine X6 ?_
      refine ⟨_,rfl,_,_,rfl,rfl,_,rfl,?_⟩
      refine C3 (fun c3=>absurd c3 c1) (fun c3=>?_)
      exact ⟨_,_,ds,_,rfl,rfl,by lia,hd,hs0',hs1'⟩
  . intro σ H' hM_; refine R7 fun G_ hG_=>?_; obtain ⟨r,st,ds,ks,rfl,rfl,hl,hd,_⟩:=hM_; subst hG_
    exact ⟨_,rfl,q fl _ ds (Same.new hfl _) upd_same (by lia) hd⟩
end
end Rim
namespace Rim
open PySem L2
theorem a9q {n:Nat} {k:Int} (h0:0 <= k) (h1:k < (n:Int)):ixN n k = some k.toNat:=by
  unfold ixN
  rw [if_pos h0,if_pos h1]
theorem a9h {α:Type} {xs:List α} {k:Int} (h0:0 <= k) (h1:k < (xs.length:Int)):∃ v,v ∈ xs/\X3 xs k = some v:=by
  have hk:k.toNat < xs.length:=by lia
  refine ⟨xs[k.toNat],List.getElem_mem hk,?_⟩
  unfold X3
  rw [a9q h0 h1]
  exact List.getElem?_eq_getElem hk
theorem a5n {ns:List Int} {k:Int} (h0:0 <= k) (h1:k < (ns.length:Int)):∃ v,v ∈ ns/\X3 (ns.map V.int) k = some (.int v):=by
  obtain ⟨v,hv,e⟩:=a9h (xs:=ns.map V.int) h0 (by rw [List.length_map]; exact h1)
  obtain ⟨n,hn,rfl⟩:=List.mem_map.mp hv
  exact ⟨n,hn,e⟩
structure HG (far:Int) (kt kg:Nat) (h:i5):Prop where
  lt:h.1.length = kt
  lg:h.2.length = kg
  t:∀ x ∈ h.1,1 <= x/\x <= far
  g:∀ x ∈ h.2,0 <= x/\x <= far
  p:∃ x ∈ h.2,0 < x
section
variable {P:Program} {w:World} {K:W.Frag} {mg:Str->Option Value} {base:Heap} {f g:Addr} {fd gd:FuncData}
end
end Rim
namespace L2
open PySem
end L2
namespace Rim
open PySem L2
def a5v (ns:List Int):PyData:=.tuple (ns.map PyData.int)
def Q8 (h:i5):PyData:=.tuple [a5v h.1,a5v h.2]
theorem a1a:∀ ns:List Int,PyData.canLayAll0 (ns.map PyData.int) = true
  | []=>by rw [List.map_nil,PyData.canLayAll0]
  | n :: r=>by rw [List.map_cons,PyData.canLayAll0,a1a r,PyData.canLay0]; rfl
theorem a6u (h:i5):(Q8 h).canLay0 = true:=by
  unfold Q8 a5v
  rw [PyData.canLay0,PyData.canLayAll0,PyData.canLay0,a1a,PyData.canLayAll0,PyData.canLay0,a1a,PyData.canLayAll0]; rfl
theorem a3H:∀ hs:List i5,PyData.canLayAll0 (hs.map Q8) = true
  | []=>by rw [List.map_nil,PyData.canLayAll0]
  | h :: r=>by rw [List.map_cons,PyData.canLayAll0,a6u,a3H r]; rfl
section
variable {P:Program} {w:World} {K:W.Frag} {mg:Str->Option Value} {base:Heap} {f g:Addr} {fd gd:FuncData}
end
end Rim
namespace Rim
open PySem L2
section
variable {P:Program} {w:World} {K:W.Frag} {mg:Str->Option Value} {base:Heap} {f g:Addr} {fd gd:FuncData}
end
end Rim
namespace Rim
open PySem L2 Fr
def b2W (K:W.Frag):List V->Hp->VK->Prop:=fun vs H Q=>∃ (a:Addr) (ns:List Int),vs = [.ref a]/\SqA K H a (ns.map V.int)/\Q (.int ns.sum) H
theorem a7y (K:W.Frag) {X:Cx} (h:X.K = K) (hc:X.calm = true):G4 X (.builtin "sum") (b2W K):=by subst h; exact a7p hc
theorem a4z (K:W.Frag) {X:Cx} (h:X.K = K):IxR X (b1B K):=by subst h; exact C7
def FrV (K:W.Frag) (H:Hp) (v:V) (f:Q2):Prop:=∃ a,v = .ref a/\SqT K H a [.int f.1,.int f.2]
def FrT (H:Hp) (v:V) (f:Q2):Prop:=∃ a,v = .ref a/\H a = some (.tup [.int f.1,.int f.2])
theorem FrT.v {K:W.Frag} {H:Hp} {v:V} {f:Q2} (h:FrT H v f):FrV K H v f:=by
  obtain ⟨a,e,q⟩:=h
  exact ⟨a,e,SqT.of q⟩
theorem FrT.same {H H':Hp} {v:V} {f:Q2} (e:Same H H') (h:FrT H v f):FrT H' v f:=by
  obtain ⟨a,z,q⟩:=h
  exact ⟨a,z,e _ _ q⟩
theorem FrV.same {K:W.Frag} {H H':Hp} {v:V} {f:Q2} (e:Same H H') (h:FrV K H v f):FrV K H' v f:=by
  obtain ⟨a,z,q⟩:=h
  exact ⟨a,z,e.tseq q⟩
section
variable {P:Program} {w:World} {K:W.Frag} {mg:Str->Option Value} {base:Heap} {f g:Addr} {fd gd:FuncData}
structure Cal (P:Program) (w:World) (K:W.Frag) (mg:Str->Option Value) (base:Heap) (n:Nat) (x:Str) (ps:List Str) (sp:Sp) (fa:Addr) (d:FuncData):Prop where
  ok:FnOk P w K mg base D6 n fa d ps sp
  b:Binds K d ps []
  k:W.keepIn K (.ref fa) = true
  m:mg x = some (.ref fa)
def a9T:Sp:=fun vs H Q _=>∃ a b:Int,vs = [.int a,.int b]/\0 <= b/\Q (.int (gI a b)) H
theorem scDiv:j3 ["one","other"] ["one","other"] (h8 b0D):=⟨rfl,rfl,rfl,by decide +kernel,rfl,by decide +kernel,by decide +kernel⟩
def b3M:St->Nat:=fun σ=>match σ with | [_,some (.int y)]=>y.toNat | _=>0
theorem b0y (x:Int):(if x < 0 then -x else x) = gI x 0:=by
  rw [a9m]
  split <;> lia
theorem b0B {n:Nat} (F:Fun K "common_divisor" "common_divisor" b0D f fd) (T:v7 mg):FnOk P w K mg base D6 (n + 1) f fd ["one","other"] a9T:=by
  refine F.ok scDiv (fun vs H Q E h=>?_) (fun cdv A outer s H vs Q E hr h=>?_)
  . obtain ⟨a,b,rfl,_⟩:=h
    rfl
  obtain ⟨a,b,rfl,hb,q⟩:=h
  refine ⟨_,i4 (a3y PassesOwn.never (o4 a7D (pv 1) d9 (o6 _)) (i7 (b0i (i:=0) (j:=1) rfl scDiv.nd rfl rfl (by decide) rfl rfl (a0 (pv 1) (a0 (i9 A0 (pv 0) (pv 1)) d8)) rfl)))
    (i7 (m7 (m9 a6W rfl T.abs (PyProof.Rows.Boot.abs) (a0 (pv 0) d8)))),?_⟩
  refine a6X (fun σ H'=>∃ x y:Int,σ = [some (.int x),some (.int y)]/\H' = H/\0 <= y/\gI x y = gI a b) (fun σ _=>b3M σ) ⟨a,b,rfl,rfl,hb,rfl⟩ ?_ (fun σ H Q Q' hq ⟨v,h1,h2,k,h3,q⟩=>⟨v,h1,h2,k,h3,hq _ _ q⟩)
  rintro σ H' ⟨x,y,rfl,rfl,hy,hg⟩
  refine ⟨_,rfl,rfl,_,rfl,?_⟩
  refine C3 (fun c=>?_) (fun c=>?_)
  . have hy0:0 < y:=by
      by_cases z:y = 0
      . subst z; simp at c
      . lia
    have hm:=Int.emod_nonneg x (show y ≠ 0 by lia)
    have hl:=Int.emod_lt_of_pos x hy0
    refine ⟨_,rfl,_,rfl,_,rfl,_,_,rfl,rfl,hy0,_,_,rfl,⟨y,x % y,rfl,rfl,hm,?_⟩,?_⟩
    . rw [a9w]; exact hg
    . show (x % y).toNat < y.toNat
      lia
  . have hy0:y = 0:=by
      by_cases z:y = 0
      . exact z
      . exact absurd (by simp [z]) c
    subst hy0
    refine ⟨_,rfl,_,rfl,?_⟩
    rw [b0y,hg]
    exact q
end
end Rim
namespace Rim
open PySem L2 Fr
theorem Big.mono {n m:Nat} {i:Int} (h:Big n i) (hn:n <= m):Big m i:=Nat.lt_of_lt_of_le h (Nat.pow_le_pow_right (by decide) hn)
theorem Big.mul {n m:Nat} {i j:Int} (h:Big n i) (k:Big m j):Big (n + m) (i * j):=by
  unfold Big at *
  rw [Int.natAbs_mul,Nat.pow_add]
  exact Nat.mul_lt_mul_of_lt_of_lt h k
section
variable {P:Program} {w:World} {K:W.Frag} {mg:Str->Option Value} {base:Heap} {f g:Addr} {fd gd:FuncData} {n:Nat}
def a9X:Sp:=fun vs H Q _=>∃ t b:Int,vs = [.int t,.int b]/\0 < b/\b < 2 ^ 8000/\∀ (v:V) (H':Hp),Same H H'->FrT H' v (low t b)->Q v H'
theorem scLow:j3 ["top","bottom","divisor"] ["top","bottom"] (h8 b0E):=⟨rfl,rfl,rfl,by decide +kernel,rfl,by decide +kernel,by decide +kernel⟩
theorem b0s {fa:Addr} {da:FuncData} (F:Fun K "lowest" "lowest" b0E f fd) (T:v7 mg) (C:Cal P w K mg base n "common_divisor" ["one","other"] a9T fa da):FnOk P w K mg base D6 (n + 1) f fd ["top","bottom"] a9X:=by
  refine F.ok scLow (fun vs H Q E h=>?_) (fun cdv A outer s H vs Q E hr h=>?_)
  . obtain ⟨a,b,rfl,_⟩:=h
    rfl
  obtain ⟨t,b,rfl,hb,hb2,q⟩:=h
  refine ⟨_,i4 (x8 (o4 X0 (pv 1) d9 (o6 _)) a1S r6)
    (i4 (m8 (i:=2) scLow.nd rfl (Or.inl rfl) (j7 C.ok hr rfl C.m C.k C.b .nil p6 (a0 (pv 0) (a0 (pv 1) d8))))
    (i4 (x8 (o4 a1h (pv 1) d9 (o6 _)) a1S r6)
    (i7 (m7 (M7 (a0 (i9 a1b (pv 0) (pv 2)) (a0 (i9 a1b (pv 1) (pv 2)) d8))))))),?_⟩
  refine ⟨_,rfl,rfl,_,rfl,?_⟩
  refine C3 (fun c=>?_) (fun _=>?_)
  . have:=V.int.inj (of_decide_eq_true c); lia
  refine ⟨_,rfl,_,rfl,t,b,rfl,Int.le_of_lt hb,?_⟩
  refine ⟨_,rfl,_,_,rfl,rfl,_,rfl,?_⟩
  refine C3 (fun c=>?_) (fun _=>?_)
  . have:b < 0:=of_decide_eq_true c; lia
  have hg:=a3Q (a:=t) hb
  have hgl:=b1Z (a:=t) hb
  refine ⟨_,rfl,_,rfl,_,_,rfl,rfl,⟨hg,Int.lt_of_le_of_lt hgl hb2⟩,_,rfl,_,rfl,_,_,rfl,rfl,⟨hg,Int.lt_of_le_of_lt hgl hb2⟩,(by show 2 <= sizeLine; decide),fun p hp=>?_⟩
  exact q _ _ (Same.new hp _) ⟨p,rfl,upd_same⟩
theorem a1t {K:W.Frag} (t:Value):W.kitOne K t t = some true:=by unfold W.kitOne; rw [if_pos (beq_self_eq_true _)]
theorem a2o {K:W.Frag}:W.kitOne K (.type "int") (.type "bool") = some false:=by
  unfold W.kitOne
  rw [if_neg (by decide)]
  rfl
end
end Rim
namespace Rim
open PySem L2 Fr
section
variable {P:Program} {w:World} {K:W.Frag} {mg:Str->Option Value} {base:Heap} {f g:Addr} {fd gd:FuncData} {n:Nat}
def a1B (k:Nat) (m:Int):Prop:=0 <= m/\m < (k:Int)
def a5j (K:W.Frag) (CN:Addr):Sp:=fun vs H Q E=>∃ (a:Addr) (xs:List V) (m:Int),vs = [.ref a,.int m]/\SqL K H a xs/\m.natAbs.log2 < 1920/\(∀ (i:Nat) x,m = (i:Int)->xs[i]? = some x->Q x H)/\(¬ a1B xs.length m->E (.ref CN) none H)
theorem b1I:j3 ["book","number"] ["book","number"] (h8 b0P):=⟨rfl,rfl,rfl,by decide +kernel,rfl,by decide +kernel,by decide +kernel⟩
theorem b0l {CN:Addr} (F:Fun K "house_of" "house_of" b0P f fd) (T:v7 mg) (kN:a2C K CN) (mN:mg "NoHouse" = some (.ref CN)):FnOk P w K mg base (T3 P w) (n + 1) f fd ["book","number"] (a5j K CN):=by
  refine F.ok1 b1I (fun vs H Q E h=>?_) (fun cdv A outer s H vs Q E hr h=>?_)
  . obtain ⟨a,xs,m,rfl,_⟩:=h
    rfl
  obtain ⟨a,xs,m,rfl,hS,hm,q,hE⟩:=h
  refine ⟨_,i4 (x8 (Y8 (a6F a6I a1h d9 (pv 1) (m9 j8 rfl T.len PySem.boot_len (a0 (pv 0) d8)))) (i7 (Y3 kN rfl mN hr.hd (a0 (a8P (pv 1) (by decide)) d8))) r6)
    (i7 (m7 (j0 i8 (pv 0) (pv 1) (fun _ _=>rfl)))),?_⟩
  refine ⟨_,rfl,_,_,rfl,rfl,_,rfl,?_⟩
  have bad:¬ a1B xs.length m->a8r (a3h (tFs (a3B 1)) a8f) CN E { nx:=fun _ H'=>Q .non H',rt:=Q } (Q7 ["book","number"] [.ref a,.int m]) H:=fun hb=>⟨_,rfl,m,rfl,hm,fun x=>⟨(by show 1 <= 1000; decide),hE hb⟩⟩
  refine C3 (fun c=>?_) (fun c=>?_)
  . have c':0 <= m:=of_decide_eq_true c
    refine ⟨_,rfl,a,_,rfl,.inl hS,_,_,rfl,rfl,_,rfl,?_⟩
    refine C3 (fun d=>?_) (fun d=>?_)
    . have d':¬ m < (xs.length:Int):=of_decide_eq_false (by simpa using d)
      exact bad fun z=>d' z.2
    . have d':m < (xs.length:Int):=of_decide_eq_true (by simpa using d)
      obtain ⟨j,rfl⟩:∃ j:Nat,m = (j:Int):=⟨m.toNat,by lia⟩
      have hi:j < xs.length:=by lia
      exact ⟨_,rfl,_,rfl,a,_,_,_,rfl,rfl,hS,E4 (List.getElem?_eq_getElem hi),q j xs[j] rfl (List.getElem?_eq_getElem hi)⟩
  . have c':¬ 0 <= m:=of_decide_eq_false (Bool.eq_false_iff.mpr c)
    exact ⟨_,rfl,a0r (bad fun z=>c' z.1)⟩
end
end Rim
namespace L2
open PySem PySem.Spec PyProof.Rows
structure a9S (K:W.Frag) (P:Params) (d:Addr):Prop where
  ex:∃ es n,K.lookup d = some ⟨.type "dict",none,.dict es n,#[]⟩/\W.KeysLit P es.toList
def b3f (K:W.Frag) (P:Params):R2:=fun x y H Q=>∃ d z t,x = .ref d/\y = .str z/\a9S K P d/\W.nsIn K d z = some (some (.ref t))/\Q (.ref t) H
theorem a7Y (K:W.Frag) (P:Params) {X:Cx} (hK:X.K = K) (hP:X.w.params = P):IxR X (b3f K P):=by
  subst hK
  subst hP
  intro value slice pins s σ H x y v u Q I rx ry h hs
  obtain ⟨d,z,t,rfl,rfl,⟨es,n,hl,hk⟩,e,q⟩:=h
  cases rx
  obtain ⟨tk,rfl⟩:=ry
  obtain ⟨m,hm⟩:=I.fr
  exact W.topItem_K hm I.mod.kin hl hk e ⟨.ref t,H,I.tok _,rfl,q⟩ (by first | exact hs | exact hs _ _)
end L2
namespace L2
open PySem
theorem b0H (K:W.Frag) {X:Cx} {tg l:Expr} {tl:TE} (h:X.K = K) (hl:PE X l tl):PI X tg l (b2n K tl):=by subst h; exact a4C hl
end L2
namespace Rim
open PySem L2 Fr
def Y9 (z:Str):Prop:=z = "any" \/ z = "one" \/ z = "less" \/ z = "more"
def G6 (z:Str):List Int:=if z = "any" then [] else if z = "one" then [1,-1] else if z = "less" then [-1] else [1]
structure Sg (K:W.Frag) (Pm:Params) (mg:Str->Option Value) (d:Addr):Prop where
  m:mg "SIZE_SIGNS" = some (.ref d)
  k:a9S K Pm d
  tt:∀ z,Y9 z->∃ t,W.nsIn K d z = some (some (.ref t))/\∀ H,SqT K H t ((G6 z).map V.int)
def v5 (z:Str) (h:i5):List Int:=h.1.map (fun x=>-x) ++ h.2 ++ G6 z
section
variable {P:Program} {w:World} {K:W.Frag} {mg:Str->Option Value} {base:Heap} {f Pt d:Addr} {fd:FuncData} {n:Nat} {C:Addr}
def G5 (K:W.Frag):Sp:=fun vs H Q _=>∃ (ba:Addr) (xs:List V) (hs:List i5) (z:Str) (kt kg:Nat),vs = [.ref ba,.str z]/\Y9 z/\SqL K H ba xs/\Bk K H xs hs/\hs.length <= 100/\kt <= 100/\kg <= 100/\(∀ h ∈ hs,h.1.length = kt/\h.2.length = kg) ∧
  ∀ (r:Addr) (H':Hp) (rs:List Addr),Same H H'->H' r = some (.lst (rs.map V.ref))->rs.length = hs.length->(∀ (i:Nat) a h,rs[i]? = some a->hs[i]? = some h->H' a = some (.lst ((v5 z h).map V.int)))->Q (.ref r) H'
theorem scHr:j3 ["houses","sizes","signs"] ["houses","sizes"] (h8 K7):=⟨rfl,rfl,rfl,by decide +kernel,rfl,by decide +kernel,by decide +kernel⟩
theorem a9M:(["takes","gives","signs"]:List Str).Nodup:=by decide +kernel
theorem b2p:(["take"]:List Str).Nodup:=by decide +kernel
theorem a0B (z:Str):(G6 z).length <= 2:=by
  unfold G6
  by_cases h1:z = "any"
  . rw [if_pos h1]; decide
  by_cases h2:z = "one"
  . rw [if_neg h1,if_pos h2]; decide
  by_cases h3:z = "less"
  . rw [if_neg h1,if_neg h2,if_pos h3]; decide
  . rw [if_neg h1,if_neg h2,if_neg h3]; decide
set_option maxHeartbeats 4000000 in
noncomputable def hrT {cdv:Value} {A:Around} {outer:List Env} {s:Shared} {H:Hp} {E:XK} (N:v7 mg) (G:Sg K w.params mg d) :
    { t:TS // PSs (J1 D6 P w K mg base ["houses","sizes","signs"] "house_rows" (h8 K7) f cdv A outer s H E).nox (p9 K7) t } :=
  ⟨_,i4 (m8 (i:=2) scHr.nd rfl (Or.inr rfl) (u0 x9 rfl N.list PyProof.Rows.boot_list (a0 (j0 (a7Y K w.params rfl rfl) (X4 (v:=.ref d) rfl G.m rfl) (pv 1) (fun _ _=>rfl)) d8)))
    (i7 (m7 (T7 ["takes","gives"] [2] rfl (G1 (pv 0))
      (fun _ _ _ _=>P1 K (n:=2) rfl rfl (j9 (j5 (i:=0) a9M rfl (Or.inl rfl)) (j9 (j5 (i:=1) a9M rfl (Or.inl rfl)) y4)))
      (fun _ _ _ _=>i9 x4 (i9 x4 (T7 ["take"] [] rfl (b0H K rfl (pv 0)) (fun _ _ _ _=>j5 (i:=0) b2p rfl (Or.inl rfl)) (fun _ _ _ _=>L8 E1 (pv 0))) (u0 (a4T K rfl) rfl N.list PyProof.Rows.boot_list (a0 (pv 1) d8))) (pv 2)))))⟩
set_option maxHeartbeats 4000000 in
theorem a2R (F:Fun K "house_rows" "house_rows" K7 f fd) (N:v7 mg) (G:Sg K w.params mg d):FnOk P w K mg base D6 (n + 1) f fd ["houses","sizes"] (G5 K):=by
  refine F.ok scHr (fun vs H Q E h=>?_) (fun cdv A outer s H vs Q E hr h=>?_)
  . obtain ⟨ba,xs,hs,z,kt,kg,rfl,_⟩:=h
    rfl
  obtain ⟨ba,xs,hs,z,kt,kg,rfl,hz,hB,hBk,hl,hkt,hkg,hlen,k⟩:=h
  refine ⟨_,(hrT N G).2,?_⟩
  obtain ⟨t,ht,hT⟩:=G.tt z hz
  have xl:xs.length = hs.length:=Paired.length hBk
  refine ⟨_,rfl,d,z,t,rfl,rfl,G.k,ht,t,_,rfl,.inr (hT _),fun sl hsl=>?_⟩
  have e0:=Same.new hsl (.lst ((G6 z).map V.int))
  have hS0:m5 H sl (.lst ((G6 z).map V.int)) sl = some (.lst ((G6 z).map V.int)):=upd_same
  refine ⟨_,rfl,ba,rfl,⟨_,e0.seq hB⟩,fun l hl'=>?_⟩
  refine a0F (D4 (e0.seq hB)) hl' (by rw [xl]; exact j6 (by lia)) (fun i y H2=>∃ a h,y = .ref a/\a ≠ l/\hs[i]? = some h/\H2 a = some (.lst ((v5 z h).map V.int)))
    (fun i y H2 H3 ⟨a,h,h1,h2,h3,h4⟩ e=>⟨a,h,h1,h2,h3,e a _ h2 h4⟩) (fun i x H2 ys N' hx e hl2 hN=>?_) (fun ys H2 e hl2 len pr=>?_)
  . obtain ⟨h,hh,hHS⟩:=Paired.at hBk hx
    have hH2:=hHS.same (e0.trans e)
    obtain ⟨a,ta,ga,rfl,p1,p2,p3⟩:=hH2
    have lh:=hlen h (List.mem_of_getElem? hh)
    refine ⟨a,_,rfl,p1,rfl,_,_,rfl,_,_,rfl,rfl,?_,?_⟩
    . refine ⟨by simp,fun k w ek=>?_⟩
      have:¬ k < 2:=fun hk=>by
        unfold blkσ at ek
        rw [List.getElem?_append_left (by simpa using hk),List.getElem?_replicate] at ek
        split at ek <;> cases ek
      rw [List.getElem?_set_ne (by lia),List.getElem?_set_ne (by lia)]; exact ek
    refine ⟨_,rfl,ta,rfl,⟨_,p2⟩,fun a1 h1=>?_⟩
    refine U5 (a1o p2) h1 (by rw [List.length_map,lh.1]; exact j6 (by lia)) (fun x=>.int (-(vI x))) (fun j x H' N2 hx2 e2 hN2=>?_) ?_
    . obtain ⟨x',rfl,_⟩:=X5 hx2
      exact ⟨Wk.set (by decide),_,rfl,_,rfl,hN2⟩
    have eg:(h.1.map V.int).map (fun x=>V.int (-(vI x))) = (h.1.map fun x=>-x).map V.int:=by rw [List.map_map,List.map_map]; rfl
    rw [eg]
    have s1:=Same.new h1 (.lst ((h.1.map fun x=>-x).map V.int))
    refine ⟨_,rfl,ga,_,rfl,.inr (s1.tseq p3),fun a2 h2=>?_⟩
    have s2:=s1.trans (Same.new h2 (.lst (h.2.map V.int)))
    have n12:a1 ≠ a2:=d7 upd_same h2
    have sz:=j6 (show kt + kg + 2 <= 1000 by lia)
    have sg:=a0B z
    refine ⟨a1,a2,_,_,rfl,rfl,(by rw [c9 n12]; exact upd_same),upd_same,?_,fun a3 h3=>?_⟩
    . rw [List.length_map,List.length_map,List.length_map,lh.1,lh.2]; lia
    have s3:=s2.trans (Same.new h3 (.lst ((h.1.map fun x=>-x).map V.int ++ h.2.map V.int)))
    have sl3:=s3 _ _ (e _ _ hS0)
    refine ⟨_,rfl,a3,sl,_,_,rfl,rfl,upd_same,sl3,?_,fun a4 h4=>?_⟩
    . rw [List.length_append,List.length_map,List.length_map,List.length_map,List.length_map,lh.1,lh.2]; lia
    refine hN _ _ (s3.trans (Same.new h4 _)) ⟨a4,h,rfl,fun z'=>?_,hh,?_⟩
    . rw [z',s3 _ _ hl2] at h4; cases h4
    . rw [upd_same]
      unfold v5
      rw [List.map_append,List.map_append]
  . have hys:ys = (ys.map a3f).map V.ref:=by
      rw [List.map_map]
      refine List.ext_getElem? fun i=>?_
      rw [List.getElem?_map]
      cases qi:ys[i]? with
      | none=>rfl
      | some y =>
        obtain ⟨a,_,rfl,_⟩:=pr i y qi
        rfl
    refine k l H2 (ys.map a3f) (e0.trans e) (by rw [hl2]; rw [<- hys]) (by rw [List.length_map,len,xl]) fun i a h hi hh=>?_
    rw [List.getElem?_map] at hi
    cases qi:ys[i]? with
    | none=>rw [qi] at hi; cases hi
    | some y =>
      obtain ⟨a',h',rfl,_,h3,h4⟩:=pr i y qi
      rw [qi] at hi
      have:a' = a:=Option.some.inj hi
      subst this
      rw [hh] at h3
      cases h3
      exact h4
end
end Rim
namespace Rim
open PySem L2 Fr
def E8 (z:Str) (h:i5):List Int:=List.replicate h.1.length 0 ++ h.2 ++ G6 z
def J3 (z:Str) (h:i5):List Int:=h.1 ++ List.replicate h.2.length 0 ++ List.replicate (G6 z).length 0
def A2 (z:Str) (hs:List i5) (h:i5):List (List Int):=hs.map (v5 z) ++ [J3 z h]
def V1 (hs:List i5):List Int:=List.replicate hs.length 0 ++ [1]
theorem N9 (k:Nat):(List.replicate k [V.int 0]).flatten = (List.replicate k (0:Int)).map V.int:=by
  induction k with
  | zero=>rfl
  | succ k ih=>rw [List.replicate_succ,List.flatten_cons,ih,List.replicate_succ,List.map_cons]; rfl
section
variable {P:Program} {w:World} {K:W.Frag} {mg:Str->Option Value} {base:Heap} {f Pt d:Addr} {fd:FuncData} {n:Nat} {C:Addr}
abbrev OfE (z:Str) (hs:List i5) (h:i5) (S:Lp.Bo):Prop:=Lp.Of (hs.length + 1) (h.1.length + h.2.length + (G6 z).length) (P7 (A2 z hs h)) (C6 (V1 hs)) (C6 (E8 z h)) S
def a3o (K:W.Frag) (Pt:Addr):Sp:=fun vs H Q _=>∃ (ba:Addr) (hv:V) (xs:List V) (hs:List i5) (h:i5) (z:Str) (far:Int) (kt kg m q:Nat),vs = [.ref ba,hv,.str z]/\Y9 z/\SqL K H ba xs/\Bk K H xs hs/\HS K H hv h/\HG far kt kg h/\(∀ h ∈ hs,HG far kt kg h)/\far <= 2 ^ 60 ∧
  hs.length <= 16/\kt <= 20/\kg <= 20/\m = hs.length + 1/\q = h.1.length + h.2.length + (G6 z).length/\LT Pt H ∧
  (∀ (S:Lp.Bo) (H':Hp) (t aa wa:Addr),OfE z hs h S->(∀ j,j < q->¬ S.T m j < 0)->Sz 4000 m q S->Same1 Pt H H'->LT Pt H'->H' t = some (.tup [.int (S.T m q),.ref aa,.ref wa,.int S.d]) →
    H' aa = some (.lst ((m4 m q S).map V.int))->H' wa = some (.lst ((E5 m q S).map V.int))->Q (.ref t) H') ∧
  ∀ (S:Lp.Bo) (H':Hp) (c:Nat),OfE z hs h S->c < q->S.T m c < 0->(∀ i,i < m->¬ 0 < S.T i c)->Same1 Pt H H'->LT Pt H'->Q .non H'
theorem scEa:j3 ["houses","house","sizes","takes","gives","signs","earned","paid"] ["houses","house","sizes"] (h8 T0):=⟨rfl,rfl,rfl,by decide +kernel,rfl,by decide +kernel,by decide +kernel⟩
set_option maxHeartbeats 4000000 in
noncomputable def eaT {cdv:Value} {A:Around} {outer:List Env} {s:Shared} {H:Hp} {E:XK} {f1 f2:Addr} {d1 d2:FuncData} (N:v7 mg) (G:Sg K w.params mg d) (Cg:V9 P w K mg base n "greatest" ["goal","rows","bounds"] (J9 K C Pt) f1 d1) (Ch:V9 P w K mg base n "house_rows" ["houses","sizes"] (G5 K) f2 d2)
    (hr:Room n (A.deeper (PyProof.Rows.envOfC "greatest_earned" (h8 T0) s.heap.objs.size f cdv))) :
    { t:TS // PSs (J1 D6 P w K mg base ["houses","house","sizes","takes","gives","signs","earned","paid"] "greatest_earned" (h8 T0) f cdv A outer s H E).nox (p9 T0) t } :=
  ⟨_,i4 (M8 (pv 1) (V0 rfl (j9 (j5 (i:=3) scEa.nd rfl (Or.inl rfl)) (j9 (j5 (i:=4) scEa.nd rfl (Or.inl rfl)) y4))))
    (i4 (m8 (i:=5) scEa.nd rfl (Or.inl rfl) (u0 x9 rfl N.list PyProof.Rows.boot_list (a0 (j0 (a7Y K w.params rfl rfl) (X4 (v:=.ref d) rfl G.m rfl) (pv 2) (fun _ _=>rfl)) d8)))
    (o7 (m8 (i:=6) scEa.nd rfl (Or.inl rfl) (i9 x4 (i9 x4 (i9 Q9 (r9 (a0 d9 d8)) (m9 j8 rfl N.len PySem.boot_len (a0 (pv 3) d8))) (u0 x9 rfl N.list PyProof.Rows.boot_list (a0 (pv 4) d8))) (pv 5)))
    (o7 (m8 (i:=7) scEa.nd rfl (Or.inl rfl) (i9 x4 (i9 x4 (u0 x9 rfl N.list PyProof.Rows.boot_list (a0 (pv 3) d8)) (i9 Q9 (r9 (a0 d9 d8)) (m9 j8 rfl N.len PySem.boot_len (a0 (pv 4) d8)))) (i9 Q9 (r9 (a0 d9 d8)) (m9 j8 rfl N.len PySem.boot_len (a0 (pv 5) d8)))))
    (i7 (m7 (j7 Cg.ok hr rfl Cg.m Cg.k Cg.b .nil p6 (a0 (pv 6) (a0 (i9 x4 (j7 Ch.ok hr rfl Ch.m Ch.k Ch.b .nil p6 (a0 (pv 0) (a0 (pv 2) d8))) (r9 (a0 (pv 7) d8)))
      (a0 (i9 x4 (i9 Q9 (r9 (a0 d9 d8)) (m9 j8 rfl N.len PySem.boot_len (a0 (pv 0) d8))) (r9 (a0 d9 d8))) d8)))))))))⟩
theorem a9I:∀ k,k < 20->Lp.bnd (2 ^ 60) (k + 1) < 2 ^ 4000:=by decide +kernel
theorem S8 {rows:List (List Int)} {i j:Nat} {row:List Int} (h:rows[i]? = some row):P7 rows i j = row.getD j 0:=by
  have e:rows.getD i [] = row:=by rw [List.getD_eq_getElem?_getD,h]; rfl
  unfold P7
  rw [e]
theorem N7 {l:List Int} {M:Nat} (h:∀ x ∈ l,x.natAbs <= M) (j:Nat):(l.getD j 0).natAbs <= M:=by
  rw [List.getD_eq_getElem?_getD]
  cases e:l[j]? with
  | none=>exact Nat.zero_le _
  | some x=>exact h x (List.mem_of_getElem? e)
theorem a0J (z:Str):∀ x ∈ G6 z,x.natAbs <= 2 ^ 60:=by
  unfold G6
  by_cases h1:z = "any"
  . rw [if_pos h1]; decide
  by_cases h2:z = "one"
  . rw [if_neg h1,if_pos h2]; decide
  by_cases h3:z = "less"
  . rw [if_neg h1,if_neg h2,if_pos h3]; decide
  . rw [if_neg h1,if_neg h2,if_neg h3]; decide
theorem b1K {z:Str} {hs:List i5} {h:i5} {far:Int} {kt kg:Nat} (hh:HG far kt kg h) (hhs:∀ h ∈ hs,HG far kt kg h) (hf:far <= 2 ^ 60) (q:Nat) :
    ∀ v,Lp.Fits (2 ^ 60) (hs.length + 1 + 1) (Lp.Vv (hs.length + 1) q (P7 (A2 z hs h)) (C6 (V1 hs)) (C6 (E8 z h)) v):=by
  have ht:∀ g:i5,HG far kt kg g->∀ x ∈ g.1,x.natAbs <= 2 ^ 60:=fun g hg x hx=>by have:=hg.t x hx; lia
  have hg':∀ g:i5,HG far kt kg g->∀ x ∈ g.2,x.natAbs <= 2 ^ 60:=fun g hg x hx=>by have:=hg.g x hx; lia
  have z0:∀ k:Nat,∀ x ∈ List.replicate k (0:Int),x.natAbs <= 2 ^ 60:=fun k x hx=>by rw [(List.mem_replicate.mp hx).2]; decide
  have rows:∀ r ∈ A2 z hs h,∀ x ∈ r,x.natAbs <= 2 ^ 60:=fun r hr x hx=>by
    unfold A2 at hr
    rcases List.mem_append.mp hr with hr | hr
    . obtain ⟨g,hg,rfl⟩:=List.mem_map.mp hr
      unfold v5 at hx
      rcases List.mem_append.mp hx with hx | hx
      . rcases List.mem_append.mp hx with hx | hx
        . obtain ⟨y,hy,rfl⟩:=List.mem_map.mp hx
          have:=ht g (hhs g hg) y hy
          rw [Int.natAbs_neg]; exact this
        . exact hg' g (hhs g hg) x hx
      . exact a0J z x hx
    . rw [List.mem_singleton.mp hr] at hx
      unfold J3 at hx
      rcases List.mem_append.mp hx with hx | hx
      . rcases List.mem_append.mp hx with hx | hx
        . exact ht h hh x hx
        . exact z0 _ x hx
      . exact z0 _ x hx
  have goal:∀ x ∈ E8 z h,x.natAbs <= 2 ^ 60:=fun x hx=>by
    unfold E8 at hx
    rcases List.mem_append.mp hx with hx | hx
    . rcases List.mem_append.mp hx with hx | hx
      . exact z0 _ x hx
      . exact hg' h hh x hx
    . exact a0J z x hx
  have bnds:∀ x ∈ V1 hs,x.natAbs <= 2 ^ 60:=fun x hx=>by
    unfold V1 at hx
    rcases List.mem_append.mp hx with hx | hx
    . exact z0 _ x hx
    . rw [List.mem_singleton.mp hx]; decide
  intro v i _
  unfold Lp.Vv
  split
  . split
    . unfold P7
      refine N7 (fun x hx=>?_) v
      rw [List.getD_eq_getElem?_getD] at hx
      cases e:(A2 z hs h)[i]? with
      | none=>rw [e] at hx; cases hx
      | some r=>rw [e] at hx; exact rows r (List.mem_of_getElem? e) x hx
    . split
      . rw [Int.natAbs_neg]; exact N7 goal v
      . exact Nat.zero_le _
  . split
    . split <;> decide
    . split
      . exact N7 bnds i
      . exact Nat.zero_le _
end
end Rim
namespace Rim
open PySem L2 Fr
section
variable {P:Program} {w:World} {K:W.Frag} {mg:Str->Option Value} {base:Heap} {f Pt d:Addr} {fd:FuncData} {n:Nat} {C:Addr}
theorem a8O {H':Hp} {rs:List Addr} {hs:List i5} {z:Str} (hl:rs.length = hs.length) (h:∀ (i:Nat) a g,rs[i]? = some a->hs[i]? = some g->H' a = some (.lst ((v5 z g).map V.int))):RowsL K H' (rs.map V.ref) (hs.map (v5 z)):=by
  induction hs generalizing rs with
  | nil =>
    cases rs with
    | nil=>exact .nil
    | cons a r=>simp at hl
  | cons g hs ih =>
    cases rs with
    | nil=>simp at hl
    | cons a r=>exact .cons ⟨a,rfl,SqL.of (h 0 a g rfl rfl)⟩ (ih (by simpa using hl) fun i b g' h1 h2=>h (i + 1) b g' (by simpa using h1) (by simpa using h2))
set_option maxHeartbeats 8000000 in
theorem a6r {f1 f2:Addr} {d1 d2:FuncData} (F:Fun K "greatest_earned" "greatest_earned" T0 f fd) (N:v7 mg) (G:Sg K w.params mg d) (Cg:V9 P w K mg base n "greatest" ["goal","rows","bounds"] (J9 K C Pt) f1 d1) (Ch:V9 P w K mg base n "house_rows" ["houses","sizes"] (G5 K) f2 d2) :
    FnOk P w K mg base D6 (n + 1) f fd ["houses","house","sizes"] (a3o K Pt):=by
  refine F.ok scEa (fun vs H Q E h=>?_) (fun cdv A outer s H vs Q E hr h=>?_)
  . obtain ⟨ba,hv,xs,hs,h,z,far,kt,kg,m,q,rfl,_⟩:=h
    rfl
  obtain ⟨ba,hv,xs,hs,h,z,far,kt,kg,m,q,rfl,hz,hB,hBk,hHS,hh,hhs,hfar,h16,hkt,hkg,rfl,rfl,L,kT,kN⟩:=h
  refine ⟨_,(eaT N G Cg Ch hr).2,?_⟩
  obtain ⟨ha,ta,ga,rfl,p1,p2,p3⟩:=id hHS
  obtain ⟨t,ht,hT⟩:=G.tt z hz
  have xl:xs.length = hs.length:=Paired.length hBk
  have sg:=a0B z
  have s1k:=j6 (show (1000:Nat) <= 1000 from Nat.le_refl _)
  have l1:=hh.lt
  have l2:=hh.lg
  refine ⟨_,rfl,ha,_,rfl,p1,rfl,_,_,rfl,_,_,rfl,rfl,?_⟩
  refine ⟨_,rfl,d,z,t,rfl,rfl,G.k,ht,t,_,rfl,.inr (hT _),fun sl hsl=>?_⟩
  have e0:=Same.new hsl (.lst ((G6 z).map V.int))
  have hS0:m5 H sl (.lst ((G6 z).map V.int)) sl = some (.lst ((G6 z).map V.int)):=upd_same
  refine ⟨fun σ' H1=>∃ ea:Addr,σ' = [some (.ref ba),some (.ref ha),some (.str z),some (.ref ta),some (.ref ga),some (.ref sl),some (.ref ea),none]/\Same (m5 H sl (.lst ((G6 z).map V.int))) H1/\H1 ea = some (.lst ((E8 z h).map V.int)),?_,?_⟩
  . refine ⟨(by show 1 <= sizeLine; decide),fun a1 h1=>?_⟩
    have s1:=Same.new h1 (.lst [.int 0])
    refine ⟨_,rfl,ta,_,rfl,.inr (s1.tseq (e0.tseq p2)),a1,_,_,rfl,rfl,upd_same,by lia,by rw [List.length_map,l1]; lia,by rw [List.length_map,l1,Int.toNat_natCast]; simp; lia,fun a2 h2=>?_⟩
    rw [List.length_map,Int.toNat_natCast,N9]
    have s2:=s1.trans (Same.new h2 (.lst ((List.replicate h.1.length (0:Int)).map V.int)))
    refine ⟨_,rfl,ga,_,rfl,.inr (s2.tseq (e0.tseq p3)),fun a3 h3=>?_⟩
    have s3:=s2.trans (Same.new h3 (.lst (h.2.map V.int)))
    have n23:a2 ≠ a3:=d7 upd_same h3
    refine ⟨a2,a3,_,_,rfl,rfl,(by rw [c9 n23]; exact upd_same),upd_same,?_,fun a4 h4=>?_⟩
    . rw [List.length_map,List.length_map,List.length_replicate,l1,l2]; lia
    have s4:=s3.trans (Same.new h4 (.lst ((List.replicate h.1.length (0:Int)).map V.int ++ h.2.map V.int)))
    refine ⟨_,rfl,a4,sl,_,_,rfl,rfl,upd_same,s4 _ _ hS0,?_,fun a5 h5=>?_⟩
    . rw [List.length_append,List.length_map,List.length_map,List.length_map,List.length_replicate,l1,l2]; lia
    refine ⟨a5,rfl,s4.trans (Same.new h5 _),?_⟩
    rw [upd_same]
    unfold E8
    rw [List.map_append,List.map_append]
  intro σ1 H1 hM_; refine R7 fun G_ hG_=>?_; obtain ⟨ea,rfl,e1,he⟩:=hM_; subst hG_
  have e01:=e0.trans e1
  refine ⟨fun σ' H2=>∃ pa:Addr,σ' = [some (.ref ba),some (.ref ha),some (.str z),some (.ref ta),some (.ref ga),some (.ref sl),some (.ref ea),some (.ref pa)]/\Same H1 H2/\H2 pa = some (.lst ((J3 z h).map V.int)),?_,?_⟩
  . refine ⟨_,rfl,ta,_,rfl,.inr (e01.tseq p2),fun a1 h1=>?_⟩
    have s1:=Same.new h1 (.lst (h.1.map V.int))
    refine ⟨(by show 1 <= sizeLine; decide),fun a2 h2=>?_⟩
    have s2:=s1.trans (Same.new h2 (.lst [.int 0]))
    have n12:a1 ≠ a2:=d7 upd_same h2
    refine ⟨_,rfl,ga,_,rfl,.inr (s2.tseq (e01.tseq p3)),a2,_,_,rfl,rfl,upd_same,by lia,by rw [List.length_map,l2]; lia,by rw [List.length_map,l2,Int.toNat_natCast]; simp; lia,fun a3 h3=>?_⟩
    rw [List.length_map,Int.toNat_natCast,N9]
    have s3:=s2.trans (Same.new h3 (.lst ((List.replicate h.2.length (0:Int)).map V.int)))
    have c1:=(Same.new h3 (.lst ((List.replicate h.2.length (0:Int)).map V.int))) a1 _ ((Same.new h2 (.lst [.int 0])) a1 _ upd_same)
    refine ⟨a1,a3,_,_,rfl,rfl,c1,upd_same,?_,fun a4 h4=>?_⟩
    . rw [List.length_map,List.length_map,List.length_replicate,l1,l2]; lia
    have s4:=s3.trans (Same.new h4 (.lst (h.1.map V.int ++ (List.replicate h.2.length (0:Int)).map V.int)))
    refine ⟨(by show 1 <= sizeLine; decide),fun a5 h5=>?_⟩
    have s5:=s4.trans (Same.new h5 (.lst [.int 0]))
    have lz:((G6 z).map V.int).length = (G6 z).length:=List.length_map _
    refine ⟨_,rfl,sl,_,rfl,.inl (SqL.of (s5 _ _ (e1 _ _ hS0))),a5,_,_,rfl,rfl,upd_same,by lia,by rw [lz]; lia,by rw [lz,Int.toNat_natCast]; simp; lia,fun a6 h6=>?_⟩
    rw [lz,Int.toNat_natCast,N9]
    have c4:=(Same.new h6 (.lst ((List.replicate (G6 z).length (0:Int)).map V.int))) a4 _ ((Same.new h5 (.lst [.int 0])) a4 _ upd_same)
    refine ⟨a4,a6,_,_,rfl,rfl,c4,upd_same,?_,fun a7 h7=>?_⟩
    . rw [List.length_append,List.length_map,List.length_map,List.length_map,List.length_replicate,List.length_replicate,l1,l2]; lia
    refine ⟨a7,rfl,(s5.trans (Same.new h6 _)).trans (Same.new h7 _),?_⟩
    rw [upd_same]
    unfold J3
    rw [List.map_append,List.map_append]
  intro σ2 H2 hM_; refine R7 fun G_ hG_=>?_; obtain ⟨pa,rfl,e2,hp⟩:=hM_; subst hG_
  have e02:=e01.trans e2
  refine ⟨_,rfl,_,rfl,_,rfl,?_⟩
  refine ⟨ba,xs,hs,z,kt,kg,rfl,hz,e02.seq hB,hBk.same e02,by lia,by lia,by lia,fun g hg=>⟨(hhs g hg).lt,(hhs g hg).lg⟩,fun r H3 rs e3 hr3 lr hrs=>?_⟩
  refine ⟨_,rfl,(by show 1 <= sizeLine; decide),fun a1 h1=>?_⟩
  have s1:=e3.trans (Same.new h1 (.lst [.ref pa]))
  have nr1:r ≠ a1:=d7 hr3 h1
  refine ⟨r,a1,_,_,rfl,rfl,(by rw [c9 nr1]; exact hr3),upd_same,?_,fun a2 h2=>?_⟩
  . rw [List.length_map,lr]; simp; lia
  have t2:=(Same.new h1 (.lst [.ref pa])).trans (Same.new h2 (.lst (rs.map V.ref ++ [.ref pa])))
  have s2:=s1.trans (Same.new h2 (.lst (rs.map V.ref ++ [.ref pa])))
  refine ⟨(by show 1 <= sizeLine; decide),fun a3 h3=>?_⟩
  have t3:=t2.trans (Same.new h3 (.lst [.int 0]))
  have s3:=s2.trans (Same.new h3 (.lst [.int 0]))
  refine ⟨_,rfl,ba,_,rfl,.inl ((e02.trans s3).seq hB),a3,_,_,rfl,rfl,upd_same,by lia,by rw [xl]; lia,by rw [xl,Int.toNat_natCast]; simp; lia,fun a4 h4=>?_⟩
  rw [xl,Int.toNat_natCast,N9]
  have t4:=t3.trans (Same.new h4 (.lst ((List.replicate hs.length (0:Int)).map V.int)))
  have s4:=s3.trans (Same.new h4 (.lst ((List.replicate hs.length (0:Int)).map V.int)))
  refine ⟨(by show 1 <= sizeLine; decide),fun a5 h5=>?_⟩
  have t5:=t4.trans (Same.new h5 (.lst [.int 1]))
  have s5:=s4.trans (Same.new h5 (.lst [.int 1]))
  have n45:a4 ≠ a5:=d7 upd_same h5
  refine ⟨a4,a5,_,_,rfl,rfl,(by rw [c9 n45]; exact upd_same),upd_same,?_,fun a6 h6=>?_⟩
  . rw [List.length_map,List.length_replicate]; simp; lia
  have t6:=t5.trans (Same.new h6 (.lst ((List.replicate hs.length (0:Int)).map V.int ++ [.int 1])))
  have s6:=s5.trans (Same.new h6 (.lst ((List.replicate hs.length (0:Int)).map V.int ++ [.int 1])))
  have g3:∀ b o,m5 (m5 H3 a1 (.lst [.ref pa])) a2 (.lst (rs.map V.ref ++ [.ref pa])) b = some o->m5 (m5 (m5 (m5 (m5 (m5 H3 a1 (.lst [.ref pa])) a2 (.lst (rs.map V.ref ++ [.ref pa]))) a3 (.lst [.int 0])) a4 (.lst ((List.replicate hs.length (0:Int)).map V.int))) a5 (.lst [.int 1])) a6 (.lst ((List.replicate hs.length (0:Int)).map V.int ++ [.int 1])) b = some o :=
    (((Same.new h3 (.lst [.int 0])).trans (Same.new h4 (.lst ((List.replicate hs.length (0:Int)).map V.int)))).trans (Same.new h5 (.lst [.int 1]))).trans (Same.new h6 (.lst ((List.replicate hs.length (0:Int)).map V.int ++ [.int 1])))
  have eb:(List.replicate hs.length (0:Int)).map V.int ++ [.int 1] = (V1 hs).map V.int:=by unfold V1; rw [List.map_append]; rfl
  have hA:Same H (m5 (m5 (m5 (m5 (m5 (m5 H3 a1 (.lst [.ref pa])) a2 (.lst (rs.map V.ref ++ [.ref pa]))) a3 (.lst [.int 0])) a4 (.lst ((List.replicate hs.length (0:Int)).map V.int))) a5 (.lst [.int 1])) a6 (.lst ((List.replicate hs.length (0:Int)).map V.int ++ [.int 1]))):=e02.trans s6
  refine ⟨ea,a2,a6,E8 z h,rs.map V.ref ++ [.ref pa],A2 z hs h,V1 hs,hs.length + 1,h.1.length + h.2.length + (G6 z).length,2 ^ 60,rfl,SqL.of (s6 _ _ (e2 _ _ he)),SqL.of (g3 _ _ upd_same),?_,?_,?_,?_,?_,?_,by lia,by lia,?_,b1K hh hhs hfar _,a9I _ (by lia),L.same hA,fun S H' t' aa wa O hn sz e' L' g1 g2 g4=>kT S H' t' aa wa O hn sz (fun b o hb q'=>e' b o hb (hA b o q')) L' g1 g2 g4,fun S H' c O hc hneg hno e' L'=>kN S H' c O hc hneg hno (fun b o hb q'=>e' b o hb (hA b o q')) L'⟩
  . unfold A2
    refine Paired.app ((a8O (K:=K) lr hrs).same t6) (.cons ⟨pa,rfl,SqL.of (s6 _ _ hp)⟩ .nil)
  . rw [<- eb]; exact SqL.of upd_same
  . unfold A2; simp
  . unfold V1; simp
  . unfold E8; simp [Nat.add_assoc]
  . intro r hr
    unfold A2 at hr
    rcases List.mem_append.mp hr with hr | hr
    . obtain ⟨g,hg,rfl⟩:=List.mem_map.mp hr
      unfold v5
      rw [List.length_append,List.length_append,List.length_map,(hhs g hg).lt,(hhs g hg).lg,l1,l2]
    . rw [List.mem_singleton.mp hr]
      unfold J3
      simp
      lia
  . intro i hi
    unfold C6 V1
    rw [List.getD_eq_getElem?_getD]
    by_cases h':i < hs.length
    . rw [List.getElem?_append_left (by simpa using h'),List.getElem?_replicate,if_pos h']; exact Int.le_refl _
    . rw [List.getElem?_append_right (by simp; lia)]
      have:i - (List.replicate hs.length (0:Int)).length = 0:=by simp; lia
      rw [this]; decide
end
end Rim
namespace Rim
open PySem L2 Fr
section
variable {P:Program} {w:World} {K:W.Frag} {mg:Str->Option Value} {base:Heap} {f Pt d:Addr} {fd:FuncData} {n:Nat} {C:Addr}
theorem b3v:j3 ["book","number","sizes"] ["book","number","sizes"] (h8 a4H):=⟨rfl,rfl,rfl,by decide +kernel,rfl,by decide +kernel,by decide +kernel⟩
theorem scHa:j3 ["houses","house","sizes","found","top","amounts","weights","bottom"] ["houses","house","sizes"] (h8 a6Z):=⟨rfl,rfl,rfl,by decide +kernel,rfl,by decide +kernel,by decide +kernel⟩
end
end Rim
namespace Lp
section
variable {m q:Nat} {A:Nat->Nat->Int} {b c:Nat->Int} {S:Bo}
theorem Of.way (O:Of m q A b c S) {cc:Nat} (hc:cc < q) (neg:S.T m cc < 0) (no:∀ i,i < m->¬ 0 < S.T i cc):∃ y:Nat->Int,(∀ j,j < q->0 <= y j)/\(∀ i,i < m->sumTo (fun j=>A i j * y j) q <= 0)/\0 < sumTo (fun j=>c j * y j) q:=by
  have K0:=(O.k _).mp (O.w.ray_ker (c:=cc) (by lia))
  obtain ⟨rows,goal⟩:=ker0.mp K0
  have zc:Z3 m S cc (q + m + 1) = 0:=by
    rw [<- O.w.oq]
    exact O.w.ray_out (by lia) (by lia) (by lia)
  have zg:Z3 m S cc (q + m) = - S.T m cc:=by
    rw [<- O.w.im]
    exact O.w.ray_in (by lia) (by lia)
  have nn:∀ v,v < q + m->0 <= Z3 m S cc v:=fun v hv=>by
    rcases O.w.all v hv with ⟨i,hi,e⟩ | ⟨j,hj,e⟩
    . rw [<- e,O.w.ray_in (by lia) (by lia)]
      have:=no i hi
      lia
    . rw [<- e]
      by_cases hjc:j = cc
      . subst hjc
        rw [Wf.ray_c]
        exact Int.le_of_lt O.w.pos
      . rw [O.w.ray_out (by lia) (by lia) hjc]; exact Int.le_refl _
  refine ⟨Z3 m S cc,fun j hj=>nn j (by lia),fun i hi=>?_,by rw [<- goal,zg]; lia⟩
  have r0:=rows i hi
  rw [zc,Int.mul_zero,Int.add_zero] at r0
  have n0:=nn (q + i) (by lia)
  lia
theorem Of.bounded (O:Of m q A b c S) {i0 l cc:Nat} (h0:i0 < m) (hl:l < m) (hA:∀ j,j < q->A i0 j + A l j = c j) (hc:cc < q) (neg:S.T m cc < 0) (no:∀ i,i < m->¬ 0 < S.T i cc):False:=by
  obtain ⟨y,_,rows,goal⟩:=O.way hc neg no
  have r0:=rows i0 h0
  have rl:=rows l hl
  have e:sumTo (fun j=>c j * y j) q = sumTo (fun j=>A i0 j * y j) q + sumTo (fun j=>A l j * y j) q:=by
    rw [<- L9]
    refine sum_congr fun j hj=>?_
    rw [<- hA j hj,Int.add_mul]
  lia
end
end Lp
namespace Rim
open PySem L2 Fr
section
variable {P:Program} {w:World} {K:W.Frag} {mg:Str->Option Value} {base:Heap} {f Pt d:Addr} {fd:FuncData} {n:Nat} {C:Addr}
end
end Rim
namespace Rim
open PySem L2 Fr
section
variable {P:Program} {w:World} {K:W.Frag} {mg:Str->Option Value} {base:Heap} {f Pt d:Addr} {fd:FuncData} {n:Nat} {C:Addr}
theorem a2p (xs:List V) (a b:Nat) (h:a <= b) (hb:b <= xs.length):C5 xs (some (a:Int)) (some (b:Int)) = (xs.drop a).take (b - a):=by
  unfold C5
  rw [HT.sIx_nat,HT.sIx_nat,Nat.min_eq_left hb,Nat.min_eq_left (by lia)]
end
end Rim
namespace Rim
open PySem L2 Fr
theorem SqT.same1 {K:W.Frag} {P:Addr} {pos:Pos} {qual:Str} {H H':Hp} {a:Addr} {xs:List V} (T:LamTab P pos qual H) (e:Same1 P H H') (h:SqT K H a xs):SqT K H' a xs:=by
  have ne:∀ o,H a = some o->(∀ ps,o ≠ .tbl ps)->a ≠ P:=fun o q n z=>by
    subst z
    rcases T with t | ⟨c,t,_⟩
    . rw [q] at t; exact n _ (Option.some.inj t)
    . rw [q] at t; exact n _ (Option.some.inj t)
  rcases h with (h | ⟨o,h⟩) | h
  . exact .inl (.inl (e _ _ (ne _ h fun _=>nofun) h))
  . exact .inl (.inr ⟨o,e _ _ (ne _ h fun _=>nofun) h⟩)
  . exact .inr h
theorem HS.same1 {K:W.Frag} {Pt:Addr} {H H':Hp} {v:V} {h:i5} (T:LT Pt H) (e:Same1 Pt H H') (x:HS K H v h):HS K H' v h:=by
  obtain ⟨a,t,g,h0,h1,h2,h3⟩:=x
  exact ⟨a,t,g,h0,SqT.same1 T e h1,SqT.same1 T e h2,SqT.same1 T e h3⟩
theorem Bk.same1 {K:W.Frag} {Pt:Addr} {H H':Hp} {vs:List V} {hs:List i5} (T:LT Pt H) (e:Same1 Pt H H') (x:Bk K H vs hs):Bk K H' vs hs:=Paired.imp' (fun _ _ r=>HS.same1 T e r) x
theorem y9 {l r:List Int} (j:Nat):(l ++ r).getD j 0 = if j < l.length then l.getD j 0 else r.getD (j - l.length) 0:=by
  rw [List.getD_eq_getElem?_getD,List.getD_eq_getElem?_getD,List.getD_eq_getElem?_getD]
  by_cases h:j < l.length
  . rw [if_pos h,List.getElem?_append_left h]
  . rw [if_neg h,List.getElem?_append_right (by lia)]
theorem N3 (k j:Nat):(List.replicate k (0:Int)).getD j 0 = 0:=by
  rw [List.getD_eq_getElem?_getD,List.getElem?_replicate]
  split <;> rfl
theorem a3F (l:List Int) (j:Nat):(l.map fun x=>-x).getD j 0 = - l.getD j 0:=by
  rw [List.getD_eq_getElem?_getD,List.getD_eq_getElem?_getD,List.getElem?_map]
  cases l[j]? <;> rfl
theorem a7f {z:Str} {hs:List i5} {h:i5} {i:Nat} (hi:hs[i]? = some h) (j:Nat):P7 (A2 z hs h) i j + P7 (A2 z hs h) hs.length j = C6 (E8 z h) j:=by
  have hil:i < hs.length:=(List.getElem?_eq_some_iff.mp hi).1
  have e1:(A2 z hs h)[i]? = some (v5 z h):=by
    unfold A2
    rw [List.getElem?_append_left (by rw [List.length_map]; exact hil),List.getElem?_map,hi]; rfl
  have e2:(A2 z hs h)[hs.length]? = some (J3 z h):=by
    unfold A2
    rw [List.getElem?_append_right (by rw [List.length_map]; exact Nat.le_refl _),List.length_map,Nat.sub_self]; rfl
  rw [S8 e1,S8 e2]
  unfold C6 v5 J3 E8
  simp only [y9,N3,a3F,List.length_append,List.length_map,List.length_replicate]
  by_cases h1:j < h.1.length
  . rw [if_pos (by lia),if_pos h1,if_pos (by lia),if_pos h1,if_pos (by lia),if_pos h1]; lia
  . by_cases h2:j < h.1.length + h.2.length
    . rw [if_pos h2,if_neg h1,if_pos h2,if_neg h1,if_pos h2,if_neg h1,Int.add_zero]
    . rw [if_neg h2,if_neg h2,if_neg h2,Int.add_zero]
section
variable {P:Program} {w:World} {K:W.Frag} {mg:Str->Option Value} {base:Heap} {f Pt d CN:Addr} {fd:FuncData} {n:Nat} {C:Addr}
structure a1E (P:Program) (w:World) (K:W.Frag) (mg:Str->Option Value) (base:Heap) (n:Nat) (x:Str) (ps:List Str) (sp:Sp) (fa:Addr) (d:FuncData):Prop where
  ok:FnOk P w K mg base (T3 P w) n fa d ps sp
  b:Binds K d ps []
  k:W.keepIn K (.ref fa) = true
  m:mg x = some (.ref fa)
abbrev mE (hs:List i5):Nat:=hs.length + 1
abbrev qE (z:Str) (h:i5):Nat:=h.1.length + h.2.length + (G6 z).length
structure a0a (K:W.Frag) (H:Hp) (ba:Addr) (xs:List V) (hs:List i5) (far:Int) (kt kg:Nat):Prop where
  l:SqL K H ba xs
  b:Bk K H xs hs
  g:∀ h ∈ hs,HG far kt kg h
  far:far <= 2 ^ 60
  few:hs.length <= 16
  t:kt <= 20
  k:kg <= 20
def Best (z:Str) (hs:List i5) (h:i5) (S:Lp.Bo):Prop:=OfE z hs h S/\(∀ j,j < qE z h->¬ S.T (mE hs) j < 0)/\Sz 4000 (mE hs) (qE z h) S
def a0E (K:W.Frag) (CN Pt:Addr):Sp:=fun vs H Q E=>∃ (ba:Addr) (xs:List V) (hs:List i5) (number:Int) (z:Str) (far:Int) (kt kg:Nat),vs = [.ref ba,.int number,.str z]/\Y9 z/\a0a K H ba xs hs far kt kg/\number.natAbs.log2 < 1920/\LT Pt H ∧
  (∀ (i:Nat) (h:i5) (S:Lp.Bo) (H':Hp) (u:V),number = (i:Int)->hs[i]? = some h->Best z hs h S->Same1 Pt H H'->LT Pt H'->FrT H' u (low (S.T (mE hs) (qE z h)) S.d)->Q u H')/\(¬ a1B xs.length number->E (.ref CN) none H)
theorem a5l {z:Str} {hs:List i5} {h:i5} {S:Lp.Bo} (B:Best z hs h S):0 < S.d/\S.d < 2 ^ 8000:=by
  refine ⟨B.1.w.pos,?_⟩
  have h1:S.d.natAbs < 2 ^ 4000:=B.2.2.2
  have h2:(2:Nat) ^ 4000 <= 2 ^ 8000:=Nat.pow_le_pow_right (by decide) (by decide)
  have h3:S.d = (S.d.natAbs:Int):=by have:=B.1.w.pos; lia
  rw [h3]
  exact_mod_cast Nat.lt_of_lt_of_le h1 h2
theorem a8z {m q:Nat} {A:Nat->Nat->Int} {b c:Nat->Int} {S:Lp.Bo} (O:Lp.Of m q A b c S) (sz:Sz 4000 m q S) {v:Nat} (hv:v < q):Big 4000 (Lp.valIn m S q v):=by
  have hv':v < q + m:=by lia
  rcases O.w.all v hv' with ⟨i,hi,e⟩ | ⟨j,hj,e⟩
  . have:Lp.valIn m S q v = S.T i q:=by
      unfold Lp.valIn
      rw [Lp.sum_one hi fun k hk hn=>if_neg fun z=>hn (O.w.ii k i hk hi (z.trans e.symm)),if_pos e]
    rw [this]
    exact sz.1 i q (by lia) (by lia)
  . have:Lp.valIn m S q v = 0:=Lp.sum_zero fun k hk=>if_neg fun z=>O.w.io k j hk hj (z.trans e.symm)
    rw [this]
    show (0:Int).natAbs < 2 ^ 4000
    exact Nat.pow_pos (by decide)
def a7P (K:W.Frag) (Pt:Addr):Sp:=fun vs H Q _=>∃ (ba:Addr) (hv:V) (xs:List V) (hs:List i5) (h:i5) (z:Str) (far:Int) (kt kg:Nat),vs = [.ref ba,hv,.str z]/\Y9 z/\a0a K H ba xs hs far kt kg/\HS K H hv h/\HG far kt kg h/\LT Pt H ∧
  (∀ (S:Lp.Bo) (H':Hp) (u:V),Best z hs h S->Same1 Pt H H'->LT Pt H'->FrT H' u (low (S.T (mE hs) (qE z h)) S.d)->Q u H') ∧
  ∀ (S:Lp.Bo) (H':Hp) (c:Nat),OfE z hs h S->c < qE z h->S.T (mE hs) c < 0->(∀ i,i < mE hs->¬ 0 < S.T i c)->Same1 Pt H H'->LT Pt H'->Q .non H'
set_option maxHeartbeats 8000000 in
theorem a8J {f2 f3:Addr} {d2 d3:FuncData} (F:Fun K "held_against" "held_against" a6Z f fd) (Ce:V9 P w K mg base n "greatest_earned" ["houses","house","sizes"] (a3o K Pt) f2 d2)
    (Cl:Cal P w K mg base n "lowest" ["top","bottom"] a9X f3 d3):FnOk P w K mg base D6 (n + 1) f fd ["houses","house","sizes"] (a7P K Pt):=by
  refine F.ok scHa (fun vs H Q E h=>?_) (fun cdv A outer s H vs Q E hr h=>?_)
  . obtain ⟨ba,hv,xs,hs,h,z,far,kt,kg,rfl,_⟩:=h
    rfl
  obtain ⟨ba,hv,xs,hs,h,z,far,kt,kg,rfl,hz,B,hH,gh,L,kG,kN⟩:=h
  refine ⟨_,i4 (m8 (i:=3) scHa.nd rfl (Or.inl rfl) (j7 Ce.ok hr rfl Ce.m Ce.k Ce.b .nil p6 (a0 (pv 0) (a0 (pv 1) (a0 (pv 2) d8)))))
    (i4 (x8 (o4 a4m (pv 3) U7 (o6 _)) (i7 (m7 U7)) r6)
    (i4 (M8 (pv 3) (V0 rfl (j9 (j5 (i:=4) scHa.nd rfl (Or.inl rfl)) (j9 (j5 (i:=5) scHa.nd rfl (Or.inl rfl)) (j9 (j5 (i:=6) scHa.nd rfl (Or.inl rfl)) (j9 (j5 (i:=7) scHa.nd rfl (Or.inl rfl)) y4))))))
    (i7 (m7 (j7 Cl.ok hr rfl Cl.m Cl.k Cl.b .nil p6 (a0 (pv 4) (a0 (pv 7) d8))))))),?_⟩
  refine ⟨_,rfl,_,rfl,_,rfl,ba,hv,xs,hs,h,z,far,kt,kg,mE hs,qE z h,rfl,hz,B.l,B.b,hH,gh,B.g,B.far,B.few,B.t,B.k,rfl,rfl,L,fun S H' t aa wa O hn sz e' L' g1 g2 g3=>?_,fun S H' c O hc hneg hno e' L'=>?_⟩
  . have Bs:Best z hs h S:=⟨O,hn,sz⟩
    obtain ⟨b1,b2⟩:=a5l Bs
    refine ⟨_,rfl,rfl,_,rfl,X6 ?_⟩
    refine ⟨_,rfl,t,_,rfl,SqT.of g1,rfl,_,_,rfl,_,_,rfl,_,_,rfl,_,_,rfl,rfl,?_⟩
    exact ⟨_,rfl,_,rfl,_,_,rfl,b1,b2,fun u H2 e2 hu=>kG S H2 u Bs (fun b o hb q'=>e2 _ _ (e' b o hb q')) (L'.same e2) hu⟩
  . refine ⟨_,rfl,rfl,_,rfl,a0r ?_⟩
    exact kN S H' c O hc hneg hno e' L'
set_option maxHeartbeats 8000000 in
theorem a6T {f1 f2:Addr} {d1 d2:FuncData} (F:Fun K "share" "share" a4H f fd) (Ch:a1E P w K mg base n "house_of" ["book","number"] (a5j K CN) f1 d1) (Ce:V9 P w K mg base n "held_against" ["houses","house","sizes"] (a7P K Pt) f2 d2):FnOk P w K mg base (T3 P w) (n + 1) f fd ["book","number","sizes"] (a0E K CN Pt):=by
  refine F.ok1 b3v (fun vs H Q E h=>?_) (fun cdv A outer s H vs Q E hr h=>?_)
  . obtain ⟨ba,xs,hs,number,z,far,kt,kg,rfl,_⟩:=h
    rfl
  obtain ⟨ba,xs,hs,number,z,far,kt,kg,rfl,hz,B,lm,L,kG,kE⟩:=h
  refine ⟨_,i7 (m7 (j7 Ce.ok hr rfl Ce.m Ce.k Ce.b .nil p6 (a0 (pv 0) (a0 (j7 Ch.ok hr rfl Ch.m Ch.k Ch.b .nil X9 (a0 (pv 0) (a0 (pv 1) d8))) (a0 (pv 2) d8))))),?_⟩
  refine ⟨_,rfl,_,rfl,_,rfl,ba,xs,number,rfl,B.l,lm,fun i hv hi hx=>?_,kE⟩
  obtain ⟨h,hh,hH⟩:=Paired.at B.b hx
  have gh:=B.g h (List.mem_of_getElem? hh)
  refine ⟨_,rfl,ba,hv,xs,hs,h,z,far,kt,kg,rfl,hz,B,hH,gh,L,fun S H' u Bs e' L' hu=>kG i h S H' u hi hh Bs e' L' hu,fun S H' c O hc hneg hno e' L'=>(O.bounded (i0:=i) (l:=hs.length) (by have:=(List.getElem?_eq_some_iff.mp hh).1; lia) (by lia) (fun j _=>a7f hh j) hc hneg hno).elim⟩
end
end Rim
namespace L2
open PySem
theorem Big.mono {n m:Nat} {i:Int} (h:Big n i) (hn:n <= m):Big m i:=Rim.Big.mono h hn
theorem Big.mul {n m:Nat} {i j:Int} (h:Big n i) (k:Big m j):Big (n + m) (i * j):=Rim.Big.mul h k
end L2
namespace Fr
end Fr
namespace Rim
open PySem L2 Fr
section
variable {P:Program} {w:World} {K:W.Frag} {mg:Str->Option Value} {base:Heap} {f:Addr} {fd:FuncData} {n:Nat}
end
end Rim
namespace Rim
open PySem L2 Fr
section
variable {P:Program} {w:World} {K:W.Frag} {mg:Str->Option Value} {base:Heap} {f:Addr} {fd:FuncData} {n:Nat}
def a2u (z:Str) (s D:Int):Prop:=((z = "one" \/ z = "less")->s <= D)/\((z = "one" \/ z = "more")->D <= s)
theorem a9n:∀ {ws:List Int} {m:Nat},(∀ x ∈ ws,Big m x)->ws.length <= 200->Big (m + 200) ws.sum:=fun {ws m} h hl=>by
  have key:∀ l:List Int,(∀ x ∈ l,Big m x)->l.sum.natAbs <= l.length * 2 ^ m:=fun l=>by
    induction l with
    | nil=>intro _; exact Nat.zero_le _
    | cons x r ih =>
      intro h
      have h1:x.natAbs < 2 ^ m:=h x List.mem_cons_self
      have h2:=ih fun y hy=>h y (List.mem_cons_of_mem _ hy)
      have h3:=Int.natAbs_add_le x r.sum
      rw [List.sum_cons,List.length_cons,Nat.succ_mul]
      lia
  have h1:=key ws h
  have h2:ws.length * 2 ^ m <= 200 * 2 ^ m:=Nat.mul_le_mul_right _ hl
  have h3:200 * 2 ^ m < 2 ^ (m + 200):=by
    rw [Nat.pow_add,Nat.mul_comm]
    exact Nat.mul_lt_mul_of_pos_left (by decide) (Nat.pow_pos (by decide))
  exact Nat.lt_of_le_of_lt (Nat.le_trans h1 h2) h3
end
end Rim
namespace Rim
open PySem L2 Fr
def col (rows:List (List Int)) (i:Nat):List Int:=rows.map fun r=>r.getD i 0
section
variable {P:Program} {w:World} {K:W.Frag} {mg:Str->Option Value} {base:Heap} {f g:Addr} {fd gd:FuncData} {n:Nat}
def Q1 (j:Nat) (h:i5):List Int:=if j = 0 then h.1 else h.2
end
end Rim
namespace L2
open PySem PySem.Spec PyProof.Rows
section
variable {xs ys:List V} {K:W.Frag} {l1 l2:Addr} {σ:St}
end
end L2
namespace Rim
open PySem L2 Fr
section
variable {P:Program} {w:World} {K:W.Frag} {mg:Str->Option Value} {base:Heap} {f:Addr} {fd:FuncData} {n:Nat}
def I0 (hs:List i5) (ws:List Int) (j i:Nat):Int:=(List.zipWith (· * ·) (col (hs.map (Q1 j)) i) ws).sum
end
end Rim
namespace Rim
open PySem L2 Fr
theorem a6V {a b:Nat}:∀ {ns ws:List Int},(∀ x ∈ ns,Big a x)->(∀ x ∈ ws,Big b x)->∀ x ∈ List.zipWith (· * ·) ns ws,Big (a + b) x
  | [],_,_,_,x,hx=>by simp at hx
  | _ :: _,[],_,_,x,hx=>by simp at hx
  | n :: ns,w :: ws,h1,h2,x,hx=>by
    rw [List.zipWith_cons_cons] at hx
    rcases List.mem_cons.mp hx with e | e
    . rw [e]; exact (h1 n List.mem_cons_self).mul (h2 w List.mem_cons_self)
    . exact a6V (fun y hy=>h1 y (List.mem_cons_of_mem _ hy)) (fun y hy=>h2 y (List.mem_cons_of_mem _ hy)) x e
section
variable {P:Program} {w:World} {K:W.Frag} {mg:Str->Option Value} {base:Heap} {f:Addr} {fd:FuncData} {n:Nat}
end
end Rim
namespace Rim
open PySem L2 Fr
theorem a2T:∀ {xs ys:List Int} {a b:Int},xs.length = ys.length->(List.zipWith (· * ·) (xs ++ [a]) (ys ++ [b])).sum = (List.zipWith (· * ·) xs ys).sum + a * b
  | [],[],a,b,_=>by simp
  | x :: xs,y :: ys,a,b,h=>by
    rw [List.cons_append,List.cons_append,List.zipWith_cons_cons,List.zipWith_cons_cons,List.sum_cons,List.sum_cons,a2T (by simpa using h),Int.add_assoc]
section
variable {P:Program} {w:World} {K:W.Frag} {mg:Str->Option Value} {base:Heap} {f:Addr} {fd:FuncData} {n:Nat}
structure PrN (pt pg:List Int) (ps D:Int) (kt kg:Nat):Prop where
  lt:pt.length = kt
  lg:pg.length = kg
  bt:∀ x ∈ pt,0 <= x/\Big 5000 x
  bg:∀ x ∈ pg,0 <= x/\Big 5000 x
  bs:Big 5000 ps
  d:0 < D
  d2:D < 2 ^ 4000
def J5 (h:i5) (pg:List Int) (ps:Int):Int:=(List.zipWith (· * ·) h.2 pg).sum + ps
def Z7 (h:i5) (pt:List Int):Int:=(List.zipWith (· * ·) h.1 pt).sum
end
end Rim
namespace Rim
open PySem L2 Fr
section
variable {P:Program} {w:World} {K:W.Frag} {mg:Str->Option Value} {base:Heap} {f:Addr} {fd:FuncData} {n:Nat}
def a0R (z:Str) (ps:Int):Prop:=((z = "any" \/ z = "less")->ps <= 0)/\((z = "any" \/ z = "more")->0 <= ps)
end
end Rim
namespace Rim
open PySem L2 Fr
mutual
theorem R4:∀ d:PyData,d.canLay0 = true->PyData.eqv d d = true
  | .none,_=>by rw [PyData.eqv]
  | .bool b,_=>by rw [PyData.eqv]; simp
  | .int i,_=>by rw [PyData.eqv]; simp
  | .str x,_=>by rw [PyData.eqv]; simp
  | .list xs,h=>by rw [PyData.eqv]; exact Q4 xs (by rw [PyData.canLay0] at h; exact h)
  | .tuple xs,h=>by rw [PyData.eqv]; exact Q4 xs (by rw [PyData.canLay0] at h; exact h)
  | .dict kvs,h=>by rw [PyData.canLay0] at h; cases h
theorem Q4:∀ ds:List PyData,PyData.canLayAll0 ds = true->PyData.eqvAll ds ds = true
  | [],_=>by rw [PyData.eqvAll]
  | d :: r,h=>by
    rw [PyData.canLayAll0,Bool.and_eq_true] at h
    rw [PyData.eqvAll,R4 d h.1,Q4 r h.2]; rfl
end
def dF (x:Q2):PyData:=.tuple [.int x.1,.int x.2]
theorem FrV.dp {K:W.Frag} {H:Hp} {v:V} {x:Q2} (h:FrV K H v x):Dp K H v (dF x):=by
  obtain ⟨a,rfl,q⟩:=h
  exact .tup q (.cons (.int _) (.cons (.int _) .nil))
theorem a1H (x:Q2):(dF x).canLay0 = true:=by
  unfold dF
  rw [PyData.canLay0,PyData.canLayAll0,PyData.canLay0,PyData.canLayAll0,PyData.canLay0,PyData.canLayAll0]; rfl
theorem b1J (x:Q2):(dF x).depth <= 60:=by
  unfold dF
  simp [PyData.depth,PyData.depthAll]
section
variable {P:Program} {w:World} {K:W.Frag} {mg:Str->Option Value} {base:Heap} {f:Addr} {fd:FuncData} {n:Nat}
end
end Rim
namespace Rim
open PySem L2 Fr
section
variable {P:Program} {w:World} {K:W.Frag} {mg:Str->Option Value} {base:Heap} {f:Addr} {fd:FuncData} {n:Nat}
end
end Rim
namespace Lp
section
variable {m q:Nat} {A:Nat->Nat->Int} {b c:Nat->Int} {S S':Bo}
theorem a1e {g h:Nat->Int}:∀ {n:Nat},(∀ k,k < n->g k <= h k)->sumTo g n <= sumTo h n
  | 0,_=>Int.le_refl _
  | n + 1,e=>Int.add_le_add (a1e fun k hk=>e k (by lia)) (e n (by lia))
theorem a4W {g h:Nat->Int}:∀ n:Nat,sumTo (fun k=>g k - h k) n = sumTo g n - sumTo h n
  | 0=>rfl
  | n + 1=>by
    show sumTo (fun k=>g k - h k) n + (g n - h n) = (sumTo g n + g n) - (sumTo h n + h n)
    rw [a4W n]; lia
theorem Of.weak (O:Of m q A b c S) (hn:∀ j,j < q->¬ S.T m j < 0) {y:Nat->Int} {e:Int} (hy:∀ j,j < q->0 <= y j) (hr:∀ i,i < m->sumTo (fun j=>A i j * y j) q <= b i * e):S.d * sumTo (fun j=>c j * y j) q <= e * S.T m q:=by
  obtain ⟨D1,D2⟩:=O.dual
  have nn:∀ v,0 <= valOut m q S v:=Of.valOut_nn fun j hj=>by have:=hn j hj; lia
  have e1:S.d * sumTo (fun j=>c j * y j) q = sumTo (fun j=>sumTo (fun i=>A i j * valOut m q S (q + i)) m * y j - valOut m q S j * y j) q:=by
    rw [<- u9]
    refine sum_congr fun j hj=>?_
    rw [D1 j hj,Int.add_mul,Int.add_sub_cancel,Int.mul_comm (c j) S.d,Int.mul_assoc]
  have e2:sumTo (fun j=>sumTo (fun i=>A i j * valOut m q S (q + i)) m * y j - valOut m q S j * y j) q <= sumTo (fun j=>sumTo (fun i=>A i j * valOut m q S (q + i)) m * y j) q:=by
    refine a1e fun j hj=>?_
    have:=Int.mul_nonneg (nn j) (hy j hj)
    lia
  have e3:sumTo (fun j=>sumTo (fun i=>A i j * valOut m q S (q + i)) m * y j) q = sumTo (fun i=>valOut m q S (q + i) * sumTo (fun j=>A i j * y j) q) m:=by
    have x1:sumTo (fun j=>sumTo (fun i=>A i j * valOut m q S (q + i)) m * y j) q = sumTo (fun j=>sumTo (fun i=>valOut m q S (q + i) * (A i j * y j)) m) q:=by
      refine sum_congr fun j hj=>?_
      rw [Int.mul_comm,<- u9]
      refine sum_congr fun i hi=>?_
      ac_rfl
    rw [x1,R5]
    refine sum_congr fun i hi=>?_
    rw [u9]
  have e4:sumTo (fun i=>valOut m q S (q + i) * sumTo (fun j=>A i j * y j) q) m <= sumTo (fun i=>e * (b i * valOut m q S (q + i))) m:=by
    refine a1e fun i hi=>?_
    have:=Int.mul_le_mul_of_nonneg_left (hr i hi) (nn (q + i))
    have x:valOut m q S (q + i) * (b i * e) = e * (b i * valOut m q S (q + i)):=by ac_rfl
    rw [x] at this
    exact this
  rw [u9,D2] at e4
  rw [e1]
  rw [e3] at e2
  exact Int.le_trans e2 e4
theorem Of.slack (O:Of m q A b c S) (hn:∀ j,j < q->¬ S.T m j < 0) {l:Nat} (hl:l < m) (hw:0 < valOut m q S (q + l)):sumTo (fun j=>A l j * valIn m S q j) q = b l * S.d:=by
  obtain ⟨p1,p2⟩:=O.primal
  have nn:∀ v,0 <= valOut m q S v:=Of.valOut_nn fun j hj=>by have:=hn j hj; lia
  have nx:=O.valIn_nn
  by_cases h0:valIn m S q (q + l) = 0
  . have:=p1 l hl
    lia
  . exfalso
    have hp:0 < valIn m S q (q + l):=by have:=nx (q + l); lia
    obtain ⟨D1,D2⟩:=O.dual
    have e1:S.d * sumTo (fun j=>c j * valIn m S q j) q <= sumTo (fun i=>valOut m q S (q + i) * sumTo (fun j=>A i j * valIn m S q j) q) m:=by
      have x1:S.d * sumTo (fun j=>c j * valIn m S q j) q = sumTo (fun j=>sumTo (fun i=>A i j * valOut m q S (q + i)) m * valIn m S q j - valOut m q S j * valIn m S q j) q:=by
        rw [<- u9]
        refine sum_congr fun j hj=>?_
        rw [D1 j hj,Int.add_mul,Int.add_sub_cancel,Int.mul_comm (c j) S.d,Int.mul_assoc]
      have x2:sumTo (fun j=>sumTo (fun i=>A i j * valOut m q S (q + i)) m * valIn m S q j - valOut m q S j * valIn m S q j) q <= sumTo (fun j=>sumTo (fun i=>valOut m q S (q + i) * (A i j * valIn m S q j)) m) q:=by
        refine a1e fun j hj=>?_
        have y:=Int.mul_nonneg (nn j) (nx j)
        have z:sumTo (fun i=>A i j * valOut m q S (q + i)) m * valIn m S q j = sumTo (fun i=>valOut m q S (q + i) * (A i j * valIn m S q j)) m:=by
          rw [Int.mul_comm,<- u9]
          refine sum_congr fun i hi=>?_
          ac_rfl
        lia
      rw [R5] at x2
      have x3:sumTo (fun i=>sumTo (fun j=>valOut m q S (q + i) * (A i j * valIn m S q j)) q) m = sumTo (fun i=>valOut m q S (q + i) * sumTo (fun j=>A i j * valIn m S q j) q) m:=sum_congr fun i hi=>by rw [u9]
      rw [x1,<- x3]; exact x2
    have e2:sumTo (fun i=>valOut m q S (q + i) * sumTo (fun j=>A i j * valIn m S q j) q) m <= sumTo (fun i=>S.d * (b i * valOut m q S (q + i)) - (if i = l then valOut m q S (q + l) * valIn m S q (q + l) else 0)) m:=by
      refine a1e fun i hi=>?_
      have y:=p1 i hi
      have z:=Int.mul_nonneg (nn (q + i)) (nx (q + i))
      have ez:valOut m q S (q + i) * sumTo (fun j=>A i j * valIn m S q j) q = S.d * (b i * valOut m q S (q + i)) - valOut m q S (q + i) * valIn m S q (q + i):=by
        have:sumTo (fun j=>A i j * valIn m S q j) q = b i * S.d - valIn m S q (q + i):=by lia
        rw [this,Int.mul_sub]
        congr 1
        ac_rfl
      rw [ez]
      by_cases hil:i = l
      . subst hil
        rw [if_pos rfl]; exact Int.le_refl _
      . rw [if_neg hil]; lia
    have e3:sumTo (fun i=>S.d * (b i * valOut m q S (q + i)) - (if i = l then valOut m q S (q + l) * valIn m S q (q + l) else 0)) m = S.d * S.T m q - valOut m q S (q + l) * valIn m S q (q + l):=by
      rw [a4W,u9,D2,sum_one hl fun i hi hne=>if_neg hne,if_pos rfl]
    rw [p2] at e1
    have:=Int.mul_pos hw hp
    lia
end
end Lp
namespace Rim
open PySem L2 Fr
abbrev p7 (l x:List Int):Int:=(List.zipWith (· * ·) l x).sum
theorem a2E:∀ (l r x:List Int),p7 (l ++ r) x = p7 l (x.take l.length) + p7 r (x.drop l.length)
  | [],r,x=>by simp [p7]
  | a :: l,r,[]=>by simp [p7]
  | a :: l,r,y :: x=>by
    have:=a2E l r x
    unfold p7 at *
    rw [List.cons_append,List.zipWith_cons_cons,List.sum_cons,this,List.length_cons,List.take_succ_cons,List.drop_succ_cons,List.zipWith_cons_cons,List.sum_cons]
    lia
theorem X8:∀ (l x:List Int),p7 (l.map fun y=>-y) x = - p7 l x
  | [],x=>by simp [p7]
  | a :: l,[]=>by simp [p7]
  | a :: l,y :: x=>by
    have:=X8 l x
    unfold p7 at *
    rw [List.map_cons,List.zipWith_cons_cons,List.sum_cons,this,List.zipWith_cons_cons,List.sum_cons,Int.neg_mul]
    lia
theorem S2:∀ (k:Nat) (x:List Int),p7 (List.replicate k 0) x = 0
  | 0,x=>by simp [p7]
  | k + 1,[]=>by simp [p7]
  | k + 1,y :: x=>by
    have:=S2 k x
    unfold p7 at *
    rw [List.replicate_succ,List.zipWith_cons_cons,List.sum_cons,this]; lia
theorem N0:∀ (l x:List Int),p7 l x = p7 x l
  | [],x=>by simp [p7]
  | a :: l,[]=>by simp [p7]
  | a :: l,y :: x=>by
    have:=N0 l x
    unfold p7 at *
    rw [List.zipWith_cons_cons,List.sum_cons,this,List.zipWith_cons_cons,List.sum_cons,Int.mul_comm]
theorem a7I:∀ {l x:List Int},(∀ y ∈ l,0 <= y)->(∀ y ∈ x,0 <= y)->0 <= p7 l x
  | [],x,_,_=>by simp [p7]
  | a :: l,[],_,_=>by simp [p7]
  | a :: l,y :: x,h1,h2=>by
    have:=a7I (l:=l) (x:=x) (fun z hz=>h1 z (.tail _ hz)) (fun z hz=>h2 z (.tail _ hz))
    unfold p7 at *
    rw [List.zipWith_cons_cons,List.sum_cons]
    have:=Int.mul_nonneg (h1 a (.head _)) (h2 y (.head _))
    lia
theorem D0:∀ (n:Nat) (l x:List Int),l.length = n->x.length = n->Lp.sumTo (fun j=>l.getD j 0 * x.getD j 0) n = p7 l x
  | 0,l,x,h1,h2=>by
    rw [List.eq_nil_of_length_eq_zero h1]; simp [p7,Lp.sumTo]
  | n + 1,l,x,h1,h2=>by
    obtain ⟨l',a,rfl⟩:∃ l' a,l = l' ++ [a]:=⟨l.dropLast,l.getLast (by intro z; rw [z] at h1; cases h1),(List.dropLast_concat_getLast _).symm⟩
    obtain ⟨x',b,rfl⟩:∃ l' a,x = l' ++ [a]:=⟨x.dropLast,x.getLast (by intro z; rw [z] at h2; cases h2),(List.dropLast_concat_getLast _).symm⟩
    have l1:l'.length = n:=by simpa using h1
    have l2:x'.length = n:=by simpa using h2
    show Lp.sumTo _ n + _ = _
    have e:Lp.sumTo (fun j=>(l' ++ [a]).getD j 0 * (x' ++ [b]).getD j 0) n = Lp.sumTo (fun j=>l'.getD j 0 * x'.getD j 0) n:=Lp.sum_congr fun j hj=>by
      rw [y9,y9,if_pos (by lia),if_pos (by lia)]
    rw [e,D0 n l' x' l1 l2]
    show _ = (List.zipWith (· * ·) (l' ++ [a]) (x' ++ [b])).sum
    rw [a2T (by lia)]
    show p7 l' x' + (l' ++ [a]).getD n 0 * (x' ++ [b]).getD n 0 = _
    rw [y9,y9,if_neg (by lia),if_neg (by lia),l1,l2,Nat.sub_self]; rfl
theorem a0e {n:Nat} {F:Nat->Int} {j:Nat} (h:j < n):((List.range n).map F).getD j 0 = F j:=by
  rw [List.getD_eq_getElem?_getD,List.getElem?_map,List.getElem?_range h]; rfl
theorem a1n:∀ {l x:List Int},(∀ y ∈ l,0 <= y)->(∀ y ∈ x,0 <= y)->0 < p7 l x->∃ j,j < x.length/\0 < x.getD j 0
  | [],x,_,_,h=>by simp [p7] at h
  | a :: l,[],_,_,h=>by simp [p7] at h
  | a :: l,y :: x,h1,h2,h=>by
    by_cases hy:0 < y
    . exact ⟨0,by simp,by simpa using hy⟩
    . have y0:y = 0:=by have:=h2 y (.head _); lia
      subst y0
      have h':0 < p7 l x:=by
        unfold p7 at *
        rw [List.zipWith_cons_cons,List.sum_cons] at h; lia
      obtain ⟨j,hj,hp⟩:=a1n (fun z hz=>h1 z (.tail _ hz)) (fun z hz=>h2 z (.tail _ hz)) h'
      exact ⟨j + 1,by simp; lia,by simpa using hp⟩
theorem a0P:∀ {l x:List Int},(∀ y ∈ l,0 < y)->(∀ y ∈ x,0 <= y)->l.length = x.length->(∃ j,j < x.length/\0 < x.getD j 0)->0 < p7 l x
  | [],[],_,_,_,⟨j,hj,_⟩=>by simp at hj
  | a :: l,y :: x,h1,h2,hl,⟨j,hj,hp⟩=>by
    have nn:0 <= p7 l x:=a7I (fun z hz=>Int.le_of_lt (h1 z (.tail _ hz))) (fun z hz=>h2 z (.tail _ hz))
    have ya:=Int.mul_nonneg (Int.le_of_lt (h1 a (.head _))) (h2 y (.head _))
    cases j with
    | zero =>
      have:0 < a * y:=Int.mul_pos (h1 a (.head _)) (by simpa using hp)
      unfold p7 at *
      rw [List.zipWith_cons_cons,List.sum_cons]; lia
    | succ j =>
      have:=a0P (l:=l) (x:=x) (fun z hz=>h1 z (.tail _ hz)) (fun z hz=>h2 z (.tail _ hz)) (by simpa using hl) ⟨j,by simpa using hj,by simpa using hp⟩
      unfold p7 at *
      rw [List.zipWith_cons_cons,List.sum_cons]; lia
  | [],_ :: _,_,_,hl,_=>by simp at hl
  | _ :: _,[],_,_,hl,_=>by simp at hl
theorem a8N {m q:Nat} {A:Nat->Nat->Int} {b c:Nat->Int} {S:Lp.Bo} (O:Lp.Of m q A b c S) (sz:Sz 4000 m q S) {v:Nat} (hv:v < q + m):Big 4000 (Lp.valOut m q S v):=by
  rcases O.w.all v hv with ⟨i,hi,e⟩ | ⟨j,hj,e⟩
  . have:Lp.valOut m q S v = 0:=Lp.sum_zero fun k hk=>if_neg fun z=>O.w.io i k hi hk (e.trans z.symm)
    rw [this]
    show (0:Int).natAbs < 2 ^ 4000
    exact Nat.pow_pos (by decide)
  . have:Lp.valOut m q S v = S.T m j:=by
      unfold Lp.valOut
      rw [Lp.sum_one hj fun k hk hn=>if_neg fun z=>hn (O.w.oo k j hk hj (z.trans e.symm)),if_pos e]
    rw [this]
    exact sz.1 m j (by lia) (by lia)
section
variable {m q:Nat} {rows:List (List Int)} {bnd goal:List Int} {S:Lp.Bo}
theorem a2y (O:Lp.Of m q (P7 rows) (C6 bnd) (C6 goal) S) {i:Nat} {row:List Int} (hi:i < m) (hr:rows[i]? = some row) (hl:row.length = q):p7 row (m4 m q S) <= bnd.getD i 0 * S.d:=by
  have h:=O.primal.1 i hi
  have nn:=O.valIn_nn (q + i)
  have e:Lp.sumTo (fun j=>P7 rows i j * Lp.valIn m S q j) q = p7 row (m4 m q S):=by
    rw [<- D0 q row (m4 m q S) hl (by unfold m4; simp)]
    refine Lp.sum_congr fun j hj=>?_
    rw [S8 hr]
    unfold m4
    rw [a0e hj]
  rw [e] at h
  show _ <= C6 bnd i * S.d
  lia
theorem a3T (O:Lp.Of m q (P7 rows) (C6 bnd) (C6 goal) S) (hn:∀ j,j < q->¬ S.T m j < 0) {i:Nat} {row:List Int} (hi:i < m) (hr:rows[i]? = some row) (hl:row.length = q) (hw:0 < Lp.valOut m q S (q + i)):p7 row (m4 m q S) = bnd.getD i 0 * S.d:=by
  have h:=O.slack hn hi hw
  have e:Lp.sumTo (fun j=>P7 rows i j * Lp.valIn m S q j) q = p7 row (m4 m q S):=by
    rw [<- D0 q row (m4 m q S) hl (by unfold m4; simp)]
    refine Lp.sum_congr fun j hj=>?_
    rw [S8 hr]
    unfold m4
    rw [a0e hj]
  rw [e] at h
  exact h
theorem a3m (O:Lp.Of m q (P7 rows) (C6 bnd) (C6 goal) S) (hl:goal.length = q):p7 goal (m4 m q S) = S.T m q:=by
  have h:=O.primal.2
  have e:Lp.sumTo (fun j=>C6 goal j * Lp.valIn m S q j) q = p7 goal (m4 m q S):=by
    rw [<- D0 q goal (m4 m q S) hl (by unfold m4; simp)]
    refine Lp.sum_congr fun j hj=>?_
    unfold m4
    rw [a0e hj]; rfl
  rw [e] at h
  exact h
theorem a2z (O:Lp.Of m q (P7 rows) (C6 bnd) (C6 goal) S) (hn:∀ j,j < q->¬ S.T m j < 0) (hl:rows.length = m) {j:Nat} (hj:j < q):goal.getD j 0 * S.d <= p7 (col rows j) (E5 m q S):=by
  have h:=O.dual.1 j hj
  have nn:0 <= Lp.valOut m q S j:=Lp.Of.valOut_nn (fun j hj=>by have:=hn j hj; lia) j
  have e:Lp.sumTo (fun i=>P7 rows i j * Lp.valOut m q S (q + i)) m = p7 (col rows j) (E5 m q S):=by
    rw [<- D0 m (col rows j) (E5 m q S) (by unfold col; rw [List.length_map]; exact hl) (by unfold E5; simp)]
    refine Lp.sum_congr fun i hi=>?_
    unfold E5
    rw [a0e hi]
    congr 1
    unfold P7 col
    rw [List.getD_eq_getElem?_getD (l:=List.map _ rows),List.getElem?_map,List.getD_eq_getElem?_getD (l:=rows),List.getElem?_eq_getElem (by lia)]; rfl
  rw [e] at h
  show C6 goal j * S.d <= _
  lia
theorem a8C (O:Lp.Of m q (P7 rows) (C6 bnd) (C6 goal) S) (hl:bnd.length = m):p7 bnd (E5 m q S) = S.T m q:=by
  have h:=O.dual.2
  have e:Lp.sumTo (fun i=>C6 bnd i * Lp.valOut m q S (q + i)) m = p7 bnd (E5 m q S):=by
    rw [<- D0 m bnd (E5 m q S) hl (by unfold E5; simp)]
    refine Lp.sum_congr fun i hi=>?_
    unfold E5
    rw [a0e hi]; rfl
  rw [e] at h
  exact h
theorem b0p (hn:∀ j,j < q->¬ S.T m j < 0):∀ x ∈ E5 m q S,0 <= x:=fun x hx=>by
  unfold E5 at hx
  obtain ⟨i,_,rfl⟩:=List.mem_map.mp hx
  exact Lp.Of.valOut_nn (fun j hj=>by have:=hn j hj; lia) _
theorem a5A {A:Nat->Nat->Int} {b c:Nat->Int} (O:Lp.Of m q A b c S):∀ x ∈ m4 m q S,0 <= x:=fun x hx=>by
  unfold m4 at hx
  obtain ⟨i,_,rfl⟩:=List.mem_map.mp hx
  exact O.valIn_nn i
theorem a6p:E5 (m + 1) q S = (E5 (m + 1) q S).take m ++ [Lp.valOut (m + 1) q S (q + m)]:=by
  unfold E5
  rw [List.range_succ,List.map_append,List.take_left' (by simp)]; rfl
end
end Rim
namespace Rim
open PySem L2 Fr
theorem b0v (a b c xs:List Int):p7 (a ++ b ++ c) xs = p7 a (xs.take a.length) + p7 b ((xs.drop a.length).take b.length) + p7 c (xs.drop (a.length + b.length)):=by
  rw [a2E (a ++ b) c xs,a2E a b,List.length_append,List.take_take,Nat.min_eq_left (by lia),List.drop_take,Nat.add_sub_cancel_left]
theorem Y0 (a b c:List Int) (j:Nat):(a ++ b ++ c).getD j 0 = if j < a.length then a.getD j 0 else if j < a.length + b.length then b.getD (j - a.length) 0 else c.getD (j - (a.length + b.length)) 0:=by
  rw [y9,List.length_append]
  by_cases h1:j < a.length
  . rw [if_pos (by lia),if_pos h1,y9,if_pos h1]
  . by_cases h2:j < a.length + b.length
    . rw [if_pos h2,if_neg h1,if_pos h2,y9,if_neg h1]
    . rw [if_neg h2,if_neg h1,if_neg h2]
abbrev ptA (h:i5) (xs:List Int):List Int:=xs.take h.1.length
abbrev pgA (h:i5) (xs:List Int):List Int:=(xs.drop h.1.length).take h.2.length
abbrev psA (z:Str) (h:i5) (xs:List Int):Int:=p7 (xs.drop (h.1.length + h.2.length)) (G6 z)
theorem a4Q {z:Str} {g h:i5} (h1:g.1.length = h.1.length) (h2:g.2.length = h.2.length) (xs:List Int):p7 (v5 z g) xs = J5 g (pgA h xs) (psA z h xs) - Z7 g (ptA h xs):=by
  unfold v5 J5 Z7
  rw [b0v,List.length_map,X8,h1,h2,N0 (G6 z)]
  dsimp only [p7,ptA,pgA,psA]
  lia
theorem a7B {z:Str} {h:i5} (xs:List Int):p7 (J3 z h) xs = Z7 h (ptA h xs):=by
  unfold J3 Z7
  rw [b0v,S2,S2]
  dsimp only [p7,ptA,pgA,psA]
  lia
theorem a6P {z:Str} {h:i5} (xs:List Int):p7 (E8 z h) xs = J5 h (pgA h xs) (psA z h xs):=by
  unfold E8 J5
  rw [b0v,S2,List.length_replicate,N0 (G6 z)]
  dsimp only [p7,ptA,pgA,psA]
  lia
theorem a7U (rows:List (List Int)) (r:List Int) (j:Nat):col (rows ++ [r]) j = col rows j ++ [r.getD j 0]:=by
  unfold col
  rw [List.map_append]; rfl
theorem W7 {a b:List Int} {x y:Int} (h:a.length = b.length):p7 (a ++ [x]) (b ++ [y]) = p7 a b + x * y:=a2T h
theorem a2a (s:Int):∀ (hs:List i5) (ws:List Int),hs.length = ws.length->p7 (hs.map fun _=>s) ws = s * ws.sum
  | [],[],_=>by simp [p7]
  | _ :: hs,w :: ws,h=>by
    have:=a2a s hs ws (by simpa using h)
    unfold p7 at *
    rw [List.map_cons,List.zipWith_cons_cons,List.sum_cons,this,List.sum_cons,Int.mul_add]
  | [],_ :: _,h=>by simp at h
  | _ :: _,[],h=>by simp at h
section
variable {z:Str} {hs:List i5} {h:i5} {kt kg:Nat} (hk:∀ g ∈ hs,g.1.length = kt/\g.2.length = kg)
include hk
theorem a6s (ws:List Int) {j:Nat} (hj:j < kt):p7 (col (hs.map (v5 z)) j) ws = - I0 hs ws 0 j:=by
  have e:col (hs.map (v5 z)) j = (col (hs.map (Q1 0)) j).map fun y=>-y:=by
    unfold col
    rw [List.map_map,List.map_map,List.map_map]
    refine List.map_congr_left fun g hg=>?_
    show (v5 z g).getD j 0 = - (Q1 0 g).getD j 0
    have:=hk g hg
    unfold v5
    rw [Y0,List.length_map,if_pos (by lia),a3F]; rfl
  rw [e,X8]; rfl
theorem a6d (ws:List Int) {j:Nat} (hj:j < kg):p7 (col (hs.map (v5 z)) (kt + j)) ws = I0 hs ws 1 j:=by
  have e:col (hs.map (v5 z)) (kt + j) = col (hs.map (Q1 1)) j:=by
    unfold col
    rw [List.map_map,List.map_map]
    refine List.map_congr_left fun g hg=>?_
    show (v5 z g).getD (kt + j) 0 = (Q1 1 g).getD j 0
    have:=hk g hg
    unfold v5
    rw [Y0,List.length_map,if_neg (by lia),if_pos (by lia),this.1,Nat.add_sub_cancel_left]; rfl
  rw [e]; rfl
theorem a6C {ws:List Int} (hw:hs.length = ws.length) (t:Nat):p7 (col (hs.map (v5 z)) (kt + kg + t)) ws = (G6 z).getD t 0 * ws.sum:=by
  have e:col (hs.map (v5 z)) (kt + kg + t) = hs.map fun _=>(G6 z).getD t 0:=by
    unfold col
    rw [List.map_map]
    refine List.map_congr_left fun g hg=>?_
    show (v5 z g).getD (kt + kg + t) 0 = _
    have:=hk g hg
    unfold v5
    rw [Y0,List.length_map,if_neg (by lia),if_neg (by lia),this.1,this.2,Nat.add_sub_cancel_left]
  rw [e,a2a _ _ _ hw]
end
structure b3z (z:Str) (hs:List i5) (h:i5) (S:Lp.Bo) (kt kg:Nat) (ws:List Int):Prop where
  lw:ws.length = hs.length
  nn:∀ x ∈ ws,0 <= x/\Big 20000 x
  size:a2u z ws.sum S.d
  takes:∀ j,j < kt->I0 hs ws 0 j <= h.1.getD j 0 * S.T (mE hs) (qE z h)
  gives:∀ j,j < kg->h.2.getD j 0 * S.d <= I0 hs ws 1 j
  pos:0 < S.T (mE hs) (qE z h)
  le:h ∈ hs->S.T (mE hs) (qE z h) <= S.d
  fair:∀ g ∈ hs,J5 g (pgA h (m4 (mE hs) (qE z h) S)) (psA z h (m4 (mE hs) (qE z h) S)) <= Z7 g (ptA h (m4 (mE hs) (qE z h) S))
  pays:Z7 h (ptA h (m4 (mE hs) (qE z h) S)) = S.d
  earns:J5 h (pgA h (m4 (mE hs) (qE z h) S)) (psA z h (m4 (mE hs) (qE z h) S)) = S.T (mE hs) (qE z h)
  pr:PrN (ptA h (m4 (mE hs) (qE z h) S)) (pgA h (m4 (mE hs) (qE z h) S)) (psA z h (m4 (mE hs) (qE z h) S)) S.d kt kg
  sign:a0R z (psA z h (m4 (mE hs) (qE z h) S))
theorem a5f {z:Str} {xs:List Int} (hz:Y9 z) (nn:∀ x ∈ xs,0 <= x):a0R z (p7 xs (G6 z)):=by
  rcases hz with rfl | rfl | rfl | rfl
  . have:p7 xs (G6 "any") = 0:=by show (List.zipWith _ xs []).sum = 0; simp
    rw [this]; exact ⟨fun _=>Int.le_refl _,fun _=>Int.le_refl _⟩
  . exact ⟨fun h=>absurd h (by decide),fun h=>absurd h (by decide)⟩
  . refine ⟨fun _=>?_,fun h=>absurd h (by decide)⟩
    show (List.zipWith _ xs [-1]).sum <= 0
    cases xs with
    | nil=>simp
    | cons x r=>have:=nn x (.head _); simp; lia
  . refine ⟨fun h=>absurd h (by decide),fun _=>?_⟩
    show 0 <= (List.zipWith _ xs [1]).sum
    cases xs with
    | nil=>simp
    | cons x r=>have:=nn x (.head _); simp; lia
theorem a7n {z:Str} {xs:List Int} (h:∀ x ∈ xs,Big 4000 x) (hl:xs.length <= 200):Big 5000 (p7 xs (G6 z)):=by
  have:∀ y ∈ G6 z,Big 100 y:=fun y hy=>Nat.lt_of_le_of_lt (a0J z y hy) (Nat.pow_lt_pow_right (by decide) (by decide))
  exact (a9n (a6V h this) (by rw [List.length_zipWith]; lia)).mono (by decide)
theorem a4K {z:Str} {hs:List i5} {h:i5} {S:Lp.Bo} {far:Int} {kt kg:Nat} (hz:Y9 z) (B:Best z hs h S) (hG:∀ g ∈ hs,HG far kt kg g) (gh:HG far kt kg h) (kt1:1 <= kt) (kt4:kt <= 20) (kg4:kg <= 20) :
    b3z z hs h S kt kg ((E5 (mE hs) (qE z h) S).take hs.length):=by
  obtain ⟨O,hn,sz⟩:=B
  have hk:∀ g ∈ hs,g.1.length = kt/\g.2.length = kg:=fun g hg=>⟨(hG g hg).lt,(hG g hg).lg⟩
  have sg:=a0B z
  generalize hm:mE hs = m at *
  generalize hq:qE z h = q at *
  have hm':m = hs.length + 1:=hm.symm
  have hq':q = kt + kg + (G6 z).length:=by rw [<- hq]; show h.1.length + h.2.length + _ = _; rw [gh.lt,gh.lg]
  replace O:Lp.Of m q (P7 (A2 z hs h)) (C6 (V1 hs)) (C6 (E8 z h)) S:=by rw [hm',<- hq]; exact O
  have lr:(A2 z hs h).length = m:=by unfold A2; simp [hm']
  have lrow:∀ g ∈ hs,(v5 z g).length = q:=fun g hg=>by unfold v5; simp [(hk g hg).1,(hk g hg).2,hq']; lia
  have lpaid:(J3 z h).length = q:=by unfold J3; simp [gh.lt,gh.lg,hq']; lia
  have lgoal:(E8 z h).length = q:=by unfold E8; simp [gh.lt,gh.lg,hq']; lia
  have lb:(V1 hs).length = m:=by unfold V1; simp [hm']
  have la:(m4 m q S).length = q:=by unfold m4; simp
  have lw:(E5 m q S).length = m:=by unfold E5; simp
  have hsp:E5 m q S = (E5 m q S).take hs.length ++ [Lp.valOut m q S (q + hs.length)]:=by rw [hm']; exact a6p
  generalize hws:(E5 m q S).take hs.length = ws at *
  generalize hwn:Lp.valOut m q S (q + hs.length) = wn at *
  have lws:ws.length = hs.length:=by rw [<- hws,List.length_take,lw]; lia
  have wnn:∀ x ∈ ws,0 <= x/\Big 20000 x:=fun x hx=>by
    have hx':x ∈ E5 m q S:=by rw [hsp]; exact List.mem_append_left _ hx
    refine ⟨b0p hn x hx',?_⟩
    unfold E5 at hx'
    obtain ⟨k,hk',rfl⟩:=List.mem_map.mp hx'
    exact (a8N O sz (by have:=List.mem_range.mp hk'; lia)).mono (by decide)
  have pos:=O.w.pos
  have eT:wn = S.T m q:=by
    have:=a8C O lb
    rw [hsp] at this
    unfold V1 at this
    rw [W7 (by rw [List.length_replicate]; exact lws.symm),S2] at this
    lia
  have colA:∀ j,p7 (col (A2 z hs h) j) (E5 m q S) = p7 (col (hs.map (v5 z)) j) ws + (J3 z h).getD j 0 * wn:=fun j=>by
    rw [hsp]
    unfold A2
    rw [a7U,W7 (by unfold col; rw [List.length_map,List.length_map,lws])]
  have tk:∀ j,j < kt->I0 hs ws 0 j <= h.1.getD j 0 * wn:=fun j hj=>by
    have:=a2z O hn lr (j:=j) (by lia)
    rw [colA,a6s hk ws hj] at this
    unfold E8 J3 at this
    rw [Y0,Y0,List.length_replicate,if_pos (by rw [gh.lt]; lia),if_pos (by rw [gh.lt]; lia),N3] at this
    lia
  have gv:∀ j,j < kg->h.2.getD j 0 * S.d <= I0 hs ws 1 j:=fun j hj=>by
    have:=a2z O hn lr (j:=kt + j) (by lia)
    rw [colA,a6d hk ws hj] at this
    unfold E8 J3 at this
    rw [Y0,Y0,List.length_replicate,List.length_replicate,gh.lt,gh.lg,if_neg (by lia),if_pos (by lia),if_neg (by lia),if_pos (by lia),Nat.add_sub_cancel_left,N3] at this
    lia
  have szc:∀ t,t < (G6 z).length->(G6 z).getD t 0 * S.d <= (G6 z).getD t 0 * ws.sum:=fun t ht=>by
    have:=a2z O hn lr (j:=kt + kg + t) (by lia)
    rw [colA,a6C hk lws.symm t] at this
    unfold E8 J3 at this
    rw [Y0,Y0,List.length_replicate,List.length_replicate,gh.lt,gh.lg,if_neg (by lia),if_neg (by lia),if_neg (by lia),if_neg (by lia),Nat.add_sub_cancel_left,N3] at this
    lia
  have size:a2u z ws.sum S.d:=by
    rcases hz with rfl | rfl | rfl | rfl
    . exact ⟨fun h=>absurd h (by decide),fun h=>absurd h (by decide)⟩
    . have s0:(1:Int) * S.d <= 1 * ws.sum:=szc 0 (by decide)
      have s1:(-1:Int) * S.d <= -1 * ws.sum:=szc 1 (by decide)
      exact ⟨fun _=>by lia,fun _=>by lia⟩
    . have s1:(-1:Int) * S.d <= -1 * ws.sum:=szc 0 (by decide)
      exact ⟨fun _=>by lia,fun h=>absurd h (by decide)⟩
    . have s0:(1:Int) * S.d <= 1 * ws.sum:=szc 0 (by decide)
      exact ⟨fun h=>absurd h (by decide),fun _=>by lia⟩
  have posT:0 < wn:=by
    obtain ⟨y,hy,y0⟩:=gh.p
    obtain ⟨j,hj⟩:=List.getElem?_of_mem hy
    have hjl:j < kg:=by have:=(List.getElem?_eq_some_iff.mp hj).1; rw [gh.lg] at this; exact this
    have yD:h.2.getD j 0 = y:=by rw [List.getD_eq_getElem?_getD,hj]; rfl
    have g1:=gv j hjl
    rw [yD] at g1
    have g2:0 < I0 hs ws 1 j:=Int.lt_of_lt_of_le (Int.mul_pos y0 pos) g1
    have nnc:∀ x ∈ col (hs.map (Q1 1)) j,0 <= x:=fun x hx=>by
      unfold col at hx
      obtain ⟨r,hr,rfl⟩:=List.mem_map.mp hx
      obtain ⟨g,hg,rfl⟩:=List.mem_map.mp hr
      have hg':=hG g hg
      have hl:j < (Q1 1 g).length:=by show j < g.2.length; rw [hg'.lg]; exact hjl
      rw [List.getD_eq_getElem?_getD,List.getElem?_eq_getElem hl]
      exact (hg'.g _ (List.getElem_mem hl)).1
    obtain ⟨k,hk1,hk2⟩:=a1n nnc (fun x hx=>(wnn x hx).1) g2
    have pc:∀ x ∈ col (hs.map (Q1 0)) 0,0 < x:=fun x hx=>by
      unfold col at hx
      obtain ⟨r,hr,rfl⟩:=List.mem_map.mp hx
      obtain ⟨g,hg,rfl⟩:=List.mem_map.mp hr
      have hg':=hG g hg
      have hl:0 < (Q1 0 g).length:=by show 0 < g.1.length; rw [hg'.lt]; lia
      rw [List.getD_eq_getElem?_getD,List.getElem?_eq_getElem hl]
      have:=(hg'.t _ (List.getElem_mem hl)).1
      show 0 < (Q1 0 g)[0]
      lia
    have g3:0 < I0 hs ws 0 0:=a0P pc (fun x hx=>(wnn x hx).1) (by unfold col; rw [List.length_map,List.length_map,lws]) ⟨k,hk1,hk2⟩
    have g4:=tk 0 (by lia)
    have hl:0 < h.1.length:=by rw [gh.lt]; lia
    have h0:1 <= h.1.getD 0 0:=by
      rw [List.getD_eq_getElem?_getD,List.getElem?_eq_getElem hl]
      exact (gh.t _ (List.getElem_mem hl)).1
    have g5:0 < h.1.getD 0 0 * wn:=Int.lt_of_lt_of_le g3 g4
    by_cases hw:0 < wn
    . exact hw
    . have:=Int.mul_nonneg (show 0 <= h.1.getD 0 0 by lia) (show 0 <= -wn by lia)
      rw [Int.mul_neg] at this
      lia
  have fair:∀ g ∈ hs,J5 g (pgA h (m4 m q S)) (psA z h (m4 m q S)) <= Z7 g (ptA h (m4 m q S)):=fun g hg=>by
    obtain ⟨k,hk'⟩:=List.getElem?_of_mem hg
    have hkl:=(List.getElem?_eq_some_iff.mp hk').1
    have hr:(A2 z hs h)[k]? = some (v5 z g):=by
      unfold A2
      rw [List.getElem?_append_left (by rw [List.length_map]; exact hkl),List.getElem?_map,hk']; rfl
    have:=a2y O (i:=k) (by lia) hr (lrow g hg)
    rw [a4Q (h:=h) (by rw [(hk g hg).1,gh.lt]) (by rw [(hk g hg).2,gh.lg])] at this
    unfold V1 at this
    rw [y9,List.length_replicate,if_pos hkl,N3,Int.zero_mul] at this
    lia
  have hr:(A2 z hs h)[hs.length]? = some (J3 z h):=by
    unfold A2
    rw [List.getElem?_append_right (by rw [List.length_map]; exact Nat.le_refl _),List.length_map,Nat.sub_self]; rfl
  have pays:Z7 h (ptA h (m4 m q S)) = S.d:=by
    have:=a3T O hn (i:=hs.length) (by lia) hr lpaid (by rw [hwn]; exact posT)
    rw [a7B] at this
    unfold V1 at this
    rw [y9,List.length_replicate,if_neg (by lia),Nat.sub_self] at this
    rw [this]
    exact Int.one_mul _
  have earns:J5 h (pgA h (m4 m q S)) (psA z h (m4 m q S)) = S.T m q:=by rw [<- a6P]; exact a3m O lgoal
  have anb:∀ x ∈ m4 m q S,0 <= x/\Big 4000 x:=fun x hx=>by
    refine ⟨a5A O x hx,?_⟩
    unfold m4 at hx
    obtain ⟨k,hk',rfl⟩:=List.mem_map.mp hx
    exact a8z O sz (List.mem_range.mp hk')
  have d4:S.d < 2 ^ 4000:=by
    have h1:S.d.natAbs < 2 ^ 4000:=sz.2
    have h3:S.d = (S.d.natAbs:Int):=by lia
    rw [h3]
    exact_mod_cast h1
  refine ⟨lws,wnn,size,fun j hj=>?_,gv,?_,?_,?_,?_,?_,?_,?_⟩
  . rw [hm,hq,<- eT]; exact tk j hj
  . rw [hm,hq,<- eT]; exact posT
  . intro hin; rw [hm,hq,<- earns,<- pays]; exact fair h hin
  . rw [hm,hq]; exact fair
  . rw [hm,hq]; exact pays
  . rw [hm,hq]; exact earns
  . rw [hm,hq]
    refine ⟨?_,?_,fun x hx=>?_,fun x hx=>?_,?_,pos,d4⟩
    . rw [List.length_take,la,gh.lt]; lia
    . rw [List.length_take,List.length_drop,la,gh.lt,gh.lg]; lia
    . have:=anb x (List.mem_of_mem_take hx)
      exact ⟨this.1,this.2.mono (by decide)⟩
    . have:=anb x (List.mem_of_mem_drop (List.mem_of_mem_take hx))
      exact ⟨this.1,this.2.mono (by decide)⟩
    . exact a7n (fun x hx=>(anb x (List.mem_of_mem_drop hx)).2) (by rw [List.length_drop,la]; lia)
  . rw [hm,hq]
    exact a5f hz fun x hx=>(anb x (List.mem_of_mem_drop hx)).1
end Rim
namespace L2
open PySem PySem.Spec PyProof.Rows
theorem a5R {P:Program} {w:World} {K:W.Frag} {mg mb:Str->Option Value} {CX:CXT} {k:Nat} {fa a:Addr} {fd:FuncData} {x:Str} {sp:Sp} {s₁:Shared} {vs:List Value} {ns:List Int} {Ps:List Addr}
    (KX:K.In s₁.heap) (hns:s₁.heap.Ns mainGlobals mg) (hb:s₁.heap.Ns builtinsNs mb) (hbb:∀ x:Str,x ≠ "__name__"->mb x = bootBuiltins x) (hlim:s₁.heap.NoLimit) (hg:s₁.gens = #[])
    (ha:s₁.heap.get? a = some { cls:=.type "list",data:=.seq vs.toArray }) (hi:IntsAre vs ns) (hl:ns.length <= sizeLine) (hr:Room k callerA)
    (hT:∀ p ∈ Ps,∃ c,s₁.heap.TableAt c p #[]) (hKP:∀ p ∈ Ps,K.lookup p = none) (BM:O1 mg s₁.heap)
    (F:∀ base:Heap,K.In base->base.Ns mainGlobals mg->O1 mg base->FnOk P w K mg base CX k fa fd [x] sp) (hbind:∀ (s:Shared) (u:Value),BindsTo s fd ⟨[u],[]⟩ [(x,u)])
    (hsp:∀ H:Hp,(∀ p ∈ Ps,H p = some (.tbl #[]))->SqL K H a (ns.map V.int)->sp [.ref a] H (fun v _=>v = .bl true) fun _ _ _=>False)
    (hCX:∀ H e s',CX [] H s₁ (fun _ _ _=>False) e s'->False) :
    codeAny (model P w) callerA (.call (.ref fa) ⟨[.ref a],[]⟩) (fun r s'=>r = .ok (.ret (.bool true))/\OldK s₁.heap s'.heap/\s'.os = s₁.os/\AllBare s'.gens) s₁:=by
  have rv:=a1L hi
  have lenV:=hi.length
  have tabObj:∀ p ∈ Ps,s₁.heap.get? p = some { cls:=.none,data:=.fields #[] }:=fun p hp=>by
    obtain ⟨c,z⟩:=hT p hp
    exact z.2
  have core:∀ H:Hp,(∀ b,H b = none \/ (∃ o xs,H b = some (.frz o (.lst xs))) \/ (b ∈ Ps/\H b = some (.tbl #[])))->(∀ p ∈ Ps,H p = some (.tbl #[]))->SqL K H a (ns.map V.int)->HOk P w H s₁.heap->(∀ b,H b ≠ none->b = a \/ b ∈ Ps)->(H a ≠ none->K.lookup a = none) →
      codeAny (model P w) callerA (.call (.ref fa) ⟨[.ref a],[]⟩) (fun r s'=>r = .ok (.ret (.bool true))/\OldK s₁.heap s'.heap/\s'.os = s₁.os/\AllBare s'.gens) s₁:=by
    intro H hO hP hS hok hA hK
    have base_of:∀ {b:Addr} {o:Obj},s₁.heap.get? b = some o->H b = none->(a1G s₁.heap H).get? b = some o:=fun e n=>a6z e n
    have noA:∀ {b:Addr} {o:Obj} {es:Array DictEntry} {ep:Nat},s₁.heap.get? b = some o->o.data = .dict es ep->H b = none:=fun {b o es ep} e d=>by
      cases q:H b with
      | none=>rfl
      | some u =>
        rcases hA b (by rw [q]; simp) with e' | e'
        . subst e'
          rw [ha] at e; cases e
          have d':Data.seq vs.toArray _ = Data.dict es ep:=d
          cases d'
        . rw [tabObj b e'] at e; cases e
          have d':Data.fields #[] = Data.dict es ep:=d
          cases d'
    have nsK:∀ {b:Addr} {m:Str->Option Value},s₁.heap.Ns b m->(a1G s₁.heap H).Ns b m:=fun {b m} ⟨o,es,ep,e,d,r⟩=>⟨o,es,ep,base_of e (noA e d),d,r⟩
    have hKb:K.In (a1G s₁.heap H):=fun b o e=>base_of (KX b o e) (by
      cases q:H b with
      | none=>rfl
      | some u =>
        rcases hA b (by rw [q]; simp) with e' | e'
        . subst e'
          rw [hK (by rw [q]; simp)] at e; cases e
        . rw [hKP b e'] at e; cases e)
    have hM:Mod K mg (a1G s₁.heap H):=⟨hKb,nsK hns,⟨mb,nsK hb,hbb⟩,let ⟨mc,h1,h2⟩:=hlim; ⟨mc,nsK h1,h2⟩⟩
    have BM':O1 mg (a1G s₁.heap H):=by
      obtain ⟨bm,ob,b1,b2,b3,b4,b5,b6⟩:=BM
      refine ⟨bm,ob,b1,b2,base_of b3 ?_,b4,b5,b6⟩
      cases q:H bm with
      | none=>rfl
      | some u =>
        rcases hA bm (by rw [q]; simp) with e' | e'
        . subst e'
          rw [ha] at b3; cases b3; exact absurd b4 (by intro z; injection z with z; exact absurd z (by decide))
        . rw [tabObj bm e'] at b3; cases b3; cases b4
    have e0:Env0 P w K mg (a1G s₁.heap H) callerA [] s₁ H:=⟨rfl,hM,fun b o e=>a9B e,Nat.le_of_eq (a6n _ _),trivial,fun b hb=>absurd (show b ∈ ([]:List Addr) from hb) (by simp),hok,.of_eq hg⟩
    refine codeAny_mono ((F _ hKb (nsK hns) BM').run callerA [] s₁ H ⟨[.ref a],[]⟩ [.ref a] [.ref a] _ _ hr e0 (hbind s₁ (.ref a)) (.cons rfl .nil) (hsp H hP hS)) fun r s' h=>?_
    cases r with
    | error e=>exact (hCX H e s' h).elim
    | ok fl =>
      cases fl with
      | next=>exact False.elim h
      | brk=>exact False.elim h
      | cont=>exact False.elim h
      | ret u =>
        obtain ⟨v,H',os,bare,un,hok',r',q⟩:=h
        have q':v = .bl true:=q
        subst q'
        obtain rfl:u = Value.bool true:=r'
        refine ⟨rfl,⟨fun b o e=>?_,fun b o e=>un.there b o e (by simp)⟩,os,bare⟩
        rcases hO b with q | ⟨ob,xs,z⟩ | ⟨hbP,z⟩
        . exact .inl (un.keep b o e q (by intro z; exact absurd (show b ∈ ([]:List Addr) from z) (by simp)) (by simp))
        . have z2:=un.frzs b ob _ z
          obtain ⟨e1,_⟩:=hok b _ z
          obtain ⟨e2,_⟩:=hok' b _ z2
          rw [e] at e1; cases e1
          exact .inl e2
        . obtain ⟨more,z2⟩:=un.tbls b _ z
          have e2:s'.heap.get? b = some { cls:=.none,data:=.fields (#[] ++ more) }:=hok' b _ z2
          rw [tabObj b hbP] at e; cases e
          obtain ⟨c,ht⟩:=hT b hbP
          exact .inr (.inl ⟨ht.isCodeTable,rfl,#[],more,rfl,e2⟩)
  have aP:a ∉ Ps:=fun z=>by
    have:=tabObj a z
    rw [ha] at this; cases this
  cases hk:K.lookup a with
  | some o =>
    have e:=KX a o hk
    rw [ha] at e
    cases e
    refine core (fun b=>if b ∈ Ps then some (.tbl #[]) else none) (fun b=>?_) (fun p hp=>if_pos hp) (.inr ⟨_,vs.toArray,_,hk,rfl,rfl,rfl,by rw [List.size_toArray,lenV]; exact hl,by simpa using rv⟩) (fun b u z=>?_) (fun b z=>?_) fun z=>absurd (if_neg aP) z
    . by_cases hb:b ∈ Ps
      . exact .inr (.inr ⟨hb,if_pos hb⟩)
      . exact .inl (if_neg hb)
    . by_cases hb:b ∈ Ps
      . have z':=(if_pos hb).symm.trans z
        cases z'
        exact tabObj b hb
      . have z':=(if_neg hb).symm.trans z
        cases z'
    . by_cases hb:b ∈ Ps
      . exact .inr hb
      . exact absurd (if_neg hb) z
  | none =>
    refine core (fun b=>if b = a then some (.frz { cls:=.type "list",data:=.seq vs.toArray } (.lst (ns.map V.int))) else if b ∈ Ps then some (.tbl #[]) else none) (fun b=>?_) (fun p hp=>?_) (.inl (.inr ⟨{ cls:=.type "list",data:=.seq vs.toArray },if_pos rfl⟩)) (fun b u z=>?_) (fun b z=>?_) fun _=>hk
    . by_cases hb:b = a
      . exact .inr (.inl ⟨_,_,if_pos hb⟩)
      . by_cases hb2:b ∈ Ps
        . exact .inr (.inr ⟨hb2,(if_neg hb).trans (if_pos hb2)⟩)
        . exact .inl ((if_neg hb).trans (if_neg hb2))
    . have hb:p ≠ a:=fun z=>aP (z ▸ hp)
      exact (if_neg hb).trans (if_pos hp)
    . by_cases hb:b = a
      . have z':=(if_pos hb).symm.trans z
        cases z'
        subst hb
        exact ⟨ha,by rw [List.length_map]; exact hl,vs,_,rv,ha⟩
      . by_cases hb2:b ∈ Ps
        . have z':=((if_neg hb).trans (if_pos hb2)).symm.trans z
          cases z'
          exact tabObj b hb2
        . have z':=((if_neg hb).trans (if_neg hb2)).symm.trans z
          cases z'
    . by_cases hb:b = a
      . exact .inl hb
      . by_cases hb2:b ∈ Ps
        . exact .inr hb2
        . exact absurd ((if_neg hb).trans (if_neg hb2)) z
theorem walk_ofT {l:W.OpenLaw} {n k:Nat} {q:Program} {loose:List Str} {XP:(Str->Option Value)->Heap->Prop} {YP:World->Heap->Prop} {d:DefRec} {K:Params->W.Frag} {CX:World->CXT} {sp:World->Sp} {x:Str} {Ts:List (Addr × Addr)}
    (hn:l.most = some n) (hn2:n <= sizeLine) (hdf:d.params.defaults = []) (hr:Room k callerA)
    (hY:∀ (w:World) (h:Heap),YP w h->(K w.params).In h/\∀ t ∈ Ts,h.get? t.2 = some (W.tabObj #[]))
    (hC:∀ (w:World),∀ t ∈ Ts,W.codeHdIn (K w.params) t.1 t.2 = true/\(K w.params).lookup t.2 = none)
    (F:∀ (w:World) (mg:Str->Option Value) (fa:Addr) (h:Heap),(K w.params).In h->h.Ns mainGlobals mg->mg d.name = some (.ref fa) →
      ∃ fd:FuncData,(∀ (s:Shared) (u:Value),BindsTo s fd ⟨[u],[]⟩ [(x,u)]) ∧
        ∀ base:Heap,(K w.params).In base->base.Ns mainGlobals mg->O1 mg base->(∀ t ∈ Ts,W.CodeHd base t.1 t.2)->FnOk l.prog w (K w.params) mg base (CX w) k fa fd [x] (sp w))
    (hsp:∀ (w:World) (H:Hp) (a:Addr) (ns:List Int),ns.length <= n->(∀ t ∈ Ts,H t.2 = some (.tbl #[]))->SqL (K w.params) H a (ns.map V.int)->sp w [.ref a] H (fun v _=>v = .bl true) fun _ _ _=>False)
    (hCX:∀ (w:World) (H:Hp) (s:Shared) (e:Value) (s':Shared),CX w [] H s (fun _ _ _=>False) e s'->False) :
    W.WalkO q loose XP YP l.row.toRowW d [] (fun f vs=>PySem.call f vs):=by
  refine Att.attach_call hn hdf fun w s₀ s₁ mg mb fa o pm cd doc a vs ns G Y ho hd hcd hmg hobj hints hlen hg=>?_
  obtain ⟨KX,hTb⟩:=hY w _ Y
  obtain ⟨fd,hb,hF⟩:=F w mg fa _ KX G.T.g hmg
  have mem:∀ p ∈ Ts.map (·.2),∃ t ∈ Ts,t.2 = p:=fun p hp=>by
    obtain ⟨t,h1,h2⟩:=List.mem_map.mp hp
    exact ⟨t,h1,h2⟩
  refine a5R (Ps:=Ts.map (·.2)) KX G.T.g G.T.b G.T.builtins G.T.nolimit hg hobj hints (Nat.le_trans hlen hn2) hr (fun p hp=>?_) (fun p hp=>?_) G.T.bmain (fun base kb nb bm=>hF base kb nb bm fun t ht=>W.codeHd_of_K kb (hC w t ht).1) hb (fun H hP hS=>hsp w H a ns hlen (fun t ht=>hP _ (List.mem_map_of_mem ht)) hS) fun H e s'=>hCX w H s₁ e s'
  . obtain ⟨t,h1,rfl⟩:=mem p hp
    exact ⟨t.1,(W.codeHd_of_K KX (hC w t h1).1).tab (hTb t h1)⟩
  . obtain ⟨t,h1,rfl⟩:=mem p hp
    exact (hC w t h1).2
end L2
namespace L2
open PySem
theorem a0g {X:Cx} {P:Program} {w:World}:P4 (T3 P w) X E0:=fun _ _ _ _ _ _ _ ⟨_,_,_,_,_,_,_,h⟩=>h.elim
end L2
namespace L2
open PySem
theorem Same.to1 {P:Addr} {H H':Hp} (e:Same H H'):Same1 P H H':=fun b o _ h=>e b o h
theorem Same1.trans {P:Addr} {H H1 H2:Hp} (a:Same1 P H H1) (b:Same1 P H1 H2):Same1 P H H2:=fun c o n h=>b c o n (a c o n h)
theorem Same1.write {P a:Addr} {H H':Hp} {o:HO} (e:Same1 P H H') (h:H a = none):Same1 P H (m5 H' a o):=fun b u n q=>by
  rw [c9 (d7 q h)]; exact e b u n q
theorem Same1.get {P:Addr} {pos:Pos} {qual:Str} {H H':Hp} {b:Addr} {o:HO} (T:LamTab P pos qual H) (e:Same1 P H H') (h:H b = some o) (n:∀ ps,o ≠ .tbl ps):H' b = some o:=e b o (fun z=>by
  subst z
  rcases T with t | ⟨c,t,_⟩
  . rw [h] at t; exact n _ (Option.some.inj t)
  . rw [h] at t; exact n _ (Option.some.inj t)) h
theorem LamTab.write {P a:Addr} {pos:Pos} {qual:Str} {H:Hp} {xs:List V} {o:HO} (T:LamTab P pos qual H) (h:H a = some (.lst xs)):LamTab P pos qual (m5 H a o):=by
  rcases T with e | ⟨c,e1,e2⟩
  . exact .inl (by rw [c9 (fun z=>by rw [z,h] at e; cases e)]; exact e)
  . exact .inr ⟨c,by rw [c9 (fun z=>by rw [z,h] at e1; cases e1)]; exact e1,by rw [c9 (fun z=>by rw [z,h] at e2; cases e2)]; exact e2⟩
end L2
namespace Rim
open PySem L2 Fr
theorem U6:∀ ns:List Int,PyData.depthAll (ns.map PyData.int) <= 3
  | []=>by simp [PyData.depthAll]
  | n :: r=>by
    rw [List.map_cons,PyData.depthAll]
    exact Nat.max_le.mpr ⟨by simp [PyData.depth],U6 r⟩
theorem a3e (h:i5):(Q8 h).depth <= 8:=by
  unfold Q8 a5v
  have h1:=U6 h.1
  have h2:=U6 h.2
  rw [PyData.depth,PyData.depthAll,PyData.depth,PyData.depthAll,PyData.depth,PyData.depthAll]
  lia
theorem a1y:∀ hs:List i5,PyData.depthAll (hs.map Q8) <= 8
  | []=>by simp [PyData.depthAll]
  | h :: r=>by
    rw [List.map_cons,PyData.depthAll]
    exact Nat.max_le.mpr ⟨a3e h,a1y r⟩
theorem O9 {j:Nat} (h:j <= 1000):((j:Int)).natAbs.log2 < 1920:=by
  rw [Int.natAbs_natCast]
  by_cases h0:j = 0
  . subst h0; decide
  . exact Nat.lt_trans ((Nat.log2_lt h0).mpr (Nat.lt_of_le_of_lt h (show 1000 < 2 ^ 10 by decide))) (by decide)
end Rim
namespace Rim
open PySem L2 Fr
section
variable {P:Program} {w:World} {K:W.Frag} {mg:Str->Option Value} {base:Heap} {f Pt d:Addr} {fd:FuncData} {n:Nat} {C:Addr}
end
end Rim
namespace Rim
open PySem L2 Fr
section
variable {P:Program} {w:World} {K:W.Frag} {mg:Str->Option Value} {base:Heap} {f Pt d:Addr} {fd:FuncData} {n:Nat} {C:Addr}
end
end Rim
namespace Rim
open PySem L2 Fr
structure b3T (z:Str) (hs:List i5) (h:i5) (S:Lp.Bo) (kt kg:Nat) (ws:List Int):Prop where
  lw:ws.length = hs.length
  nn:∀ x ∈ ws,0 <= x/\Big 20000 x
  size:a2u z ws.sum (S.T (mE hs) (qE z h))
  takes:∀ j,j < kt->I0 hs ws 0 j <= h.1.getD j 0 * S.T (mE hs) (qE z h)
  gives:∀ j,j < kg->h.2.getD j 0 * S.d <= I0 hs ws 1 j
  pos:0 < S.T (mE hs) (qE z h)
  le:S.T (mE hs) (qE z h) <= S.d
  fair:∀ g ∈ hs,J5 g (pgA h (m4 (mE hs) (qE z h) S)) (psA z h (m4 (mE hs) (qE z h) S)) <= Z7 g (ptA h (m4 (mE hs) (qE z h) S))
  pays:Z7 h (ptA h (m4 (mE hs) (qE z h) S)) - psA z h (m4 (mE hs) (qE z h) S) = S.d
  gvs:p7 h.2 (pgA h (m4 (mE hs) (qE z h) S)) = S.T (mE hs) (qE z h)
  pr:PrN (ptA h (m4 (mE hs) (qE z h) S)) (pgA h (m4 (mE hs) (qE z h) S)) (psA z h (m4 (mE hs) (qE z h) S)) (S.T (mE hs) (qE z h)) kt kg
  sign:a0R z (psA z h (m4 (mE hs) (qE z h) S))
end Rim
namespace Rim
open PySem L2 Fr
section
variable {P:Program} {w:World} {K:W.Frag} {mg:Str->Option Value} {base:Heap} {f Pt d CN:Addr} {fd:FuncData} {n:Nat} {C:Addr}
end
end Rim
namespace Lp
section
variable {m q:Nat} {A:Nat->Nat->Int} {b c:Nat->Int} {S:Bo}
theorem Of.bounded1 (O:Of m q A b c S) {l cc:Nat} (hl:l < m) (hA:∀ j,j < q->A l j = c j) (hc:cc < q) (neg:S.T m cc < 0) (no:∀ i,i < m->¬ 0 < S.T i cc):False:=by
  have K0:=(O.k _).mp (O.w.ray_ker (c:=cc) (by omega))
  obtain ⟨rows,goal⟩:=ker0.mp K0
  have zc:Z3 m S cc (q + m + 1) = 0:=by
    rw [<- O.w.oq]
    exact O.w.ray_out (by omega) (by omega) (by omega)
  have zg:Z3 m S cc (q + m) = - S.T m cc:=by
    rw [<- O.w.im]
    exact O.w.ray_in (by omega) (by omega)
  have nl:0 <= Z3 m S cc (q + l):=by
    rcases O.w.all (q + l) (by omega) with ⟨i,hi,e⟩ | ⟨j,hj,e⟩
    . rw [<- e,O.w.ray_in (by omega) (by omega)]
      have:=no i hi
      omega
    . rw [<- e]
      by_cases hjc:j = cc
      . subst hjc
        rw [Wf.ray_c]
        exact Int.le_of_lt O.w.pos
      . rw [O.w.ray_out (by omega) (by omega) hjc]; exact Int.le_refl _
  have rl:=rows l hl
  rw [zc,Int.mul_zero,Int.add_zero] at rl
  have e:sumTo (fun j=>c j * Z3 m S cc j) q = sumTo (fun j=>A l j * Z3 m S cc j) q:=sum_congr fun j hj=>by rw [hA j hj]
  rw [zg,e] at goal
  omega
end
end Lp
namespace Rim
open PySem L2 Fr
def N6 (z:Str) (g:i5):List Int:=v5 z g ++ [g.2.sum - g.1.sum]
def D5 (z:Str) (h:i5):List Int:=List.replicate (h.1.length + h.2.length + (G6 z).length) 0 ++ [1]
def C9 (z:Str) (hs:List i5) (h:i5):List (List Int):=hs.map (N6 z) ++ [(N6 z h).map (fun x=>-x),D5 z h]
def T4 (hs:List i5):List Int:=List.replicate hs.length 0 ++ [0,1]
abbrev mF (hs:List i5):Nat:=hs.length + 2
abbrev qF (z:Str) (h:i5):Nat:=h.1.length + h.2.length + (G6 z).length + 1
abbrev OfF (z:Str) (hs:List i5) (h:i5) (S:Lp.Bo):Prop:=Lp.Of (mF hs) (qF z h) (P7 (C9 z hs h)) (C6 (T4 hs)) (C6 (D5 z h)) S
def a4M (z:Str) (hs:List i5) (h:i5) (S:Lp.Bo):Prop:=OfF z hs h S/\(∀ j,j < qF z h->¬ S.T (mF hs) j < 0)/\Sz 4000 (mF hs) (qF z h) S
theorem a9K:(["takes","gives"]:List Str).Nodup:=by decide +kernel
theorem b0b:(["row","floor"]:List Str).Nodup:=by decide +kernel
theorem b2i:(["one"]:List Str).Nodup:=by decide +kernel
section
variable {P:Program} {w:World} {K:W.Frag} {mg:Str->Option Value} {base:Heap} {f Pt d:Addr} {fd:FuncData} {n:Nat} {C:Addr}
def a4S (K:W.Frag) (Pt:Addr):Sp:=fun vs H Q _=>∃ (ba:Addr) (xs:List V) (hs:List i5) (i:Nat) (h:i5) (z:Str) (far:Int) (kt kg:Nat),vs = [.ref ba,.int i,.str z]/\Y9 z/\a0a K H ba xs hs far kt kg/\far <= 2 ^ 50/\hs[i]? = some h/\LT Pt H ∧
  ∀ (S:Lp.Bo) (H':Hp) (t aa wa:Addr),a4M z hs h S->Same1 Pt H H'->LT Pt H'->H' t = some (.tup [.int (S.T (mF hs) (qF z h)),.ref aa,.ref wa,.int S.d]) →
    H' aa = some (.lst ((m4 (mF hs) (qF z h) S).map V.int))->H' wa = some (.lst ((E5 (mF hs) (qF z h) S).map V.int))->Q (.ref t) H'
theorem scFl:j3 ["houses","number","sizes","rows","floors","firm","goal"] ["houses","number","sizes"] (h8 a0i):=⟨rfl,rfl,rfl,by decide +kernel,rfl,by decide +kernel,by decide +kernel⟩
set_option maxHeartbeats 4000000 in
noncomputable def flT {cdv:Value} {A:Around} {outer:List Env} {s:Shared} {H:Hp} {E:XK} {f1 f2:Addr} {d1 d2:FuncData} (N:v7 mg) (Cg:V9 P w K mg base n "greatest" ["goal","rows","bounds"] (J9 K C Pt) f1 d1) (Ch:V9 P w K mg base n "house_rows" ["houses","sizes"] (G5 K) f2 d2)
    (hr:Room n (A.deeper (PyProof.Rows.envOfC "greatest_floor" (h8 a0i) s.heap.objs.size f cdv))) :
    { t:TS // PSs (J1 D6 P w K mg base ["houses","number","sizes","rows","floors","firm","goal"] "greatest_floor" (h8 a0i) f cdv A outer s H E).nox (p9 a0i) t } :=
  ⟨_,i4 (m8 (i:=3) scFl.nd rfl (Or.inl rfl) (j7 Ch.ok hr rfl Ch.m Ch.k Ch.b .nil p6 (a0 (pv 0) (a0 (pv 2) d8))))
    (o7 (a1T (i:=4) ["takes","gives"] [] scFl.nd rfl rfl rfl (G1 (pv 0)) (fun _ _ _ _=>P1 K (n:=2) rfl rfl (j9 (j5 (i:=0) a9K rfl (Or.inl rfl)) (j9 (j5 (i:=1) a9K rfl (Or.inl rfl)) y4)))
      (fun _ _ _ _=>i9 Z9 (m9 (a7y K rfl rfl) rfl N.sum PyProof.Rows.boot_sum (a0 (pv 1) d8)) (m9 (a7y K rfl rfl) rfl N.sum PyProof.Rows.boot_sum (a0 (pv 0) d8))))
    (o7 (a1T (i:=3) ["row","floor"] [] scFl.nd rfl rfl rfl (a5z true true K rfl rfl N.zip (a0 (pv 3) (a0 (pv 4) d8))) (fun _ _ _ _=>P1 K (n:=2) rfl rfl (j9 (j5 (i:=0) b0b rfl (Or.inl rfl)) (j9 (j5 (i:=1) b0b rfl (Or.inl rfl)) y4)))
      (fun _ _ _ _=>i9 x4 (pv 0) (r9 (a0 (pv 1) d8))))
    (o7 (a1T (i:=5) ["one"] [] scFl.nd rfl rfl rfl (G1 (j0 i8 (pv 3) (pv 1) (fun _ _=>rfl))) (fun _ _ _ _=>j5 (i:=0) b2i rfl (Or.inl rfl)) (fun _ _ _ _=>L8 E1 (pv 0)))
    (o7 (m8 (i:=6) scFl.nd rfl (Or.inl rfl) (i9 x4 (i9 Q9 (r9 (a0 d9 d8)) (i9 Z9 (m9 j8 rfl N.len PySem.boot_len (a0 (pv 5) d8)) d9)) (r9 (a0 d9 d8))))
    (i7 (m7 (j7 Cg.ok hr rfl Cg.m Cg.k Cg.b .nil p6 (a0 (pv 6) (a0 (i9 x4 (pv 3) (r9 (a0 (pv 5) (a0 (pv 6) d8))))
      (a0 (i9 x4 (i9 Q9 (r9 (a0 d9 d8)) (m9 j8 rfl N.len PySem.boot_len (a0 (pv 0) d8))) (r9 (a0 d9 (a0 d9 d8)))) d8))))))))))⟩
end
end Rim
namespace Rim
open PySem L2 Fr
theorem a2B:∀ {l:List Int} {M:Nat},(∀ x ∈ l,x.natAbs <= M)->l.sum.natAbs <= l.length * M
  | [],_,_=>by simp
  | a :: r,M,h=>by
    have h1:=h a (.head _)
    have h2:=a2B (l:=r) (M:=M) fun x hx=>h x (.tail _ hx)
    rw [List.sum_cons,List.length_cons,Nat.succ_mul]
    omega
theorem a3r {z:Str} {g:i5} {far:Int} {kt kg:Nat} (hg:HG far kt kg g) (hf:far <= 2 ^ 50) (hkt:kt <= 20) (hkg:kg <= 20):∀ x ∈ N6 z g,x.natAbs <= 2 ^ 60:=fun x hx=>by
  have ht:∀ x ∈ g.1,x.natAbs <= 2 ^ 50:=fun x hx=>by have:=hg.t x hx; omega
  have hg':∀ x ∈ g.2,x.natAbs <= 2 ^ 50:=fun x hx=>by have:=hg.g x hx; omega
  have p:(2:Nat) ^ 50 <= 2 ^ 60:=by decide
  unfold N6 v5 at hx
  rcases List.mem_append.mp hx with hx | hx
  . rcases List.mem_append.mp hx with hx | hx
    . rcases List.mem_append.mp hx with hx | hx
      . obtain ⟨y,hy,rfl⟩:=List.mem_map.mp hx
        have:=ht y hy
        rw [Int.natAbs_neg]; omega
      . have:=hg' x hx; omega
    . exact a0J z x hx
  . rw [List.mem_singleton.mp hx]
    have h1:=a2B ht
    have h2:=a2B hg'
    rw [hg.lt] at h1
    rw [hg.lg] at h2
    have h3:kt * 2 ^ 50 <= 20 * 2 ^ 50:=Nat.mul_le_mul_right _ hkt
    have h4:kg * 2 ^ 50 <= 20 * 2 ^ 50:=Nat.mul_le_mul_right _ hkg
    have h5:20 * 2 ^ 50 + 20 * 2 ^ 50 <= (2:Nat) ^ 60:=by decide
    omega
theorem N8 {z:Str} {g:i5}:(N6 z g).length = g.1.length + g.2.length + (G6 z).length + 1:=by unfold N6 v5; simp [Nat.add_assoc]
theorem b1z {z:Str} {hs:List i5} {h:i5} {far:Int} {kt kg:Nat} (hh:HG far kt kg h) (hhs:∀ h ∈ hs,HG far kt kg h) (hf:far <= 2 ^ 50) (hkt:kt <= 20) (hkg:kg <= 20) (q:Nat) :
    ∀ v,Lp.Fits (2 ^ 60) (mF hs + 1) (Lp.Vv (mF hs) q (P7 (C9 z hs h)) (C6 (T4 hs)) (C6 (D5 z h)) v):=by
  have z0:∀ k:Nat,∀ x ∈ List.replicate k (0:Int),x.natAbs <= 2 ^ 60:=fun k x hx=>by rw [(List.mem_replicate.mp hx).2]; decide
  have goal:∀ x ∈ D5 z h,x.natAbs <= 2 ^ 60:=fun x hx=>by
    unfold D5 at hx
    rcases List.mem_append.mp hx with hx | hx
    . exact z0 _ x hx
    . rw [List.mem_singleton.mp hx]; decide
  have rows:∀ r ∈ C9 z hs h,∀ x ∈ r,x.natAbs <= 2 ^ 60:=fun r hr x hx=>by
    unfold C9 at hr
    rcases List.mem_append.mp hr with hr | hr
    . obtain ⟨g,hg,rfl⟩:=List.mem_map.mp hr
      exact a3r (hhs g hg) hf hkt hkg x hx
    . simp only [List.mem_cons,List.not_mem_nil,or_false] at hr
      rcases hr with rfl | rfl
      . obtain ⟨y,hy,rfl⟩:=List.mem_map.mp hx
        have:=a3r (z:=z) hh hf hkt hkg y hy
        rw [Int.natAbs_neg]; exact this
      . exact goal x hx
  have bnds:∀ x ∈ T4 hs,x.natAbs <= 2 ^ 60:=fun x hx=>by
    unfold T4 at hx
    rcases List.mem_append.mp hx with hx | hx
    . exact z0 _ x hx
    . simp only [List.mem_cons,List.not_mem_nil,or_false] at hx
      rcases hx with rfl | rfl <;> decide
  intro v i _
  unfold Lp.Vv
  split
  . split
    . unfold P7
      refine N7 (fun x hx=>?_) v
      rw [List.getD_eq_getElem?_getD] at hx
      cases e:(C9 z hs h)[i]? with
      | none=>rw [e] at hx; cases hx
      | some r=>rw [e] at hx; exact rows r (List.mem_of_getElem? e) x hx
    . split
      . rw [Int.natAbs_neg]; exact N7 goal v
      . exact Nat.zero_le _
  . split
    . split <;> decide
    . split
      . exact N7 bnds i
      . exact Nat.zero_le _
theorem a4G {z:Str} {hs:List i5} {h:i5} (j:Nat):P7 (C9 z hs h) (hs.length + 1) j = C6 (D5 z h) j:=by
  have:(C9 z hs h)[hs.length + 1]? = some (D5 z h):=by
    unfold C9
    rw [List.getElem?_append_right (by simp),List.length_map,Nat.add_sub_cancel_left]; rfl
  rw [S8 this]; rfl
section
variable {P:Program} {w:World} {K:W.Frag} {mg:Str->Option Value} {base:Heap} {f Pt d:Addr} {fd:FuncData} {n:Nat} {C:Addr}
theorem a7X {H':Hp} {rs:List Addr} {hs:List i5} {z:Str} (hl:rs.length = hs.length) (h:∀ (i:Nat) a g,rs[i]? = some a->hs[i]? = some g->H' a = some (.lst ((N6 z g).map V.int))):RowsL K H' (rs.map V.ref) (hs.map (N6 z)):=by
  induction hs generalizing rs with
  | nil =>
    cases rs with
    | nil=>exact .nil
    | cons a r=>simp at hl
  | cons g hs ih =>
    cases rs with
    | nil=>simp at hl
    | cons a r=>exact .cons ⟨a,rfl,SqL.of (h 0 a g rfl rfl)⟩ (ih (by simpa using hl) fun i b g' h1 h2=>h (i + 1) b g' (by simpa using h1) (by simpa using h2))
set_option maxHeartbeats 8000000 in
theorem a8a {f1 f2:Addr} {d1 d2:FuncData} (F:Fun K "greatest_floor" "greatest_floor" a0i f fd) (N:v7 mg) (Cg:V9 P w K mg base n "greatest" ["goal","rows","bounds"] (J9 K C Pt) f1 d1) (Ch:V9 P w K mg base n "house_rows" ["houses","sizes"] (G5 K) f2 d2) :
    FnOk P w K mg base D6 (n + 1) f fd ["houses","number","sizes"] (a4S K Pt):=by
  refine F.ok scFl (fun vs H Q E h=>?_) (fun cdv A outer s H vs Q E hr h=>?_)
  . obtain ⟨ba,xs,hs,i,h,z,far,kt,kg,rfl,_⟩:=h
    rfl
  obtain ⟨ba,xs,hs,i,h,z,far,kt,kg,rfl,hz,B,hf,hh,L,k⟩:=h
  refine ⟨_,(flT N Cg Ch hr).2,?_⟩
  have xl:xs.length = hs.length:=Paired.length B.b
  have few:=B.few
  have k20:=B.t
  have k21:=B.k
  have sg:=a0B z
  have gh:=B.g h (List.mem_of_getElem? hh)
  have hil:i < hs.length:=(List.getElem?_eq_some_iff.mp hh).1
  have s1k:=j6 (show (1000:Nat) <= 1000 from Nat.le_refl _)
  have lrow:∀ g ∈ hs,(N6 z g).length = kt + kg + (G6 z).length + 1:=fun g hg=>by rw [N8,(B.g g hg).lt,(B.g g hg).lg]
  refine ⟨_,rfl,_,rfl,ba,xs,hs,z,kt,kg,rfl,hz,B.l,B.b,by omega,by omega,by omega,fun g hg=>⟨(B.g g hg).lt,(B.g g hg).lg⟩,fun r H1 rs e1 hr1 lr hrs=>?_⟩
  refine ⟨fun σ' H2=>∃ fl:Addr,σ' = [some (.ref ba),some (.int i),some (.str z),some (.ref r),some (.ref fl),none,none]/\Same H1 H2/\H2 fl = some (.lst ((hs.map fun g=>g.2.sum - g.1.sum).map V.int)),?_,?_⟩
  . refine ⟨_,rfl,ba,rfl,⟨_,e1.seq B.l⟩,fun l hl=>?_⟩
    refine a0F (D4 (e1.seq B.l)) hl (by omega) (fun j y _=>∃ g,hs[j]? = some g/\y = .int (g.2.sum - g.1.sum)) (fun _ _ _ _ r _=>r) (fun j x H2 ys N' hx e hl2 hN=>?_) (fun ys H2 e hl2 len pr=>?_)
    . obtain ⟨g,hg,⟨a,ta,ga,rfl,p1,p2,p3⟩⟩:=Paired.at B.b hx
      have e':=e1.trans e
      refine ⟨a,_,rfl,e'.tseq p1,rfl,_,_,rfl,_,_,rfl,rfl,?_,?_⟩
      . refine ⟨by simp,fun k w ek=>?_⟩
        have:¬ k < 2:=fun hk=>by
          unfold blkσ at ek
          rw [List.getElem?_append_left (by simpa using hk),List.getElem?_replicate] at ek
          split at ek <;> cases ek
        rw [List.getElem?_set_ne (by omega),List.getElem?_set_ne (by omega)]; exact ek
      exact ⟨_,rfl,ga,_,rfl,.inr (e'.tseq p3),_,rfl,ta,_,rfl,.inr (e'.tseq p2),_,_,rfl,rfl,hN _ _ (Same.refl _) ⟨g,hg,rfl⟩⟩
    . refine ⟨l,rfl,e,?_⟩
      rw [hl2]
      congr 2
      refine List.ext_getElem? fun j=>?_
      by_cases hj:j < ys.length
      . obtain ⟨g,g1,g2⟩:=pr j _ (List.getElem?_eq_getElem hj)
        rw [List.getElem?_eq_getElem hj,g2,List.getElem?_map,List.getElem?_map,g1]; rfl
      . rw [List.getElem?_eq_none (by omega),List.getElem?_eq_none (by rw [List.length_map,List.length_map]; omega)]
  rintro σ1 H2 ⟨fl,rfl,e2,hfl⟩
  refine ⟨fun σ' H3=>∃ (ra:Addr) (rs':List Addr),σ' = [some (.ref ba),some (.int i),some (.str z),some (.ref ra),some (.ref fl),none,none]/\Same H2 H3/\H3 ra = some (.lst (rs'.map V.ref))/\rs'.length = hs.length/\∀ (j:Nat) a g,rs'[j]? = some a->hs[j]? = some g->H3 a = some (.lst ((N6 z g).map V.int)),?_,?_⟩
  . refine ⟨_,rfl,_,rfl,r,fl,rfl,⟨_,SqL.of (e2 _ _ hr1)⟩,⟨_,SqL.of hfl⟩,fun l hl=>?_⟩
    refine a3Y (b1:=true) (b2:=true) (SqL.of (e2 _ _ hr1)) (SqL.of hfl) hl (by rw [List.length_map,lr]; omega) (fun j y H3=>∃ a g,y = .ref a/\a ≠ l/\hs[j]? = some g/\H3 a = some (.lst ((N6 z g).map V.int)))
      (fun j y H3 H4 ⟨a,g,h1,h2,h3,h4⟩ e=>⟨a,g,h1,h2,h3,e a _ h2 h4⟩) (fun j x y H3 zs N' hx hy e hl2 hN=>?_) (fun zs H3 e hl2 len pr=>?_)
    . obtain ⟨ra,hra,rfl⟩:∃ ra,rs[j]? = some ra/\x = .ref ra:=by
        rw [List.getElem?_map] at hx
        cases q1:rs[j]? with
        | none=>rw [q1] at hx; cases hx
        | some v=>rw [q1] at hx; cases hx; exact ⟨v,rfl,rfl⟩
      have hjl:j < hs.length:=by rw [<- lr]; exact (List.getElem?_eq_some_iff.mp hra).1
      have hg:hs[j]? = some hs[j]:=List.getElem?_eq_getElem hjl
      have hrow:=hrs j ra _ hra hg
      have hyv:y = .int (hs[j].2.sum - hs[j].1.sum):=by
        rw [List.getElem?_map,List.getElem?_map,hg] at hy
        exact (Option.some.inj hy).symm
      subst hyv
      generalize hs[j] = g at *
      have gg:=B.g g (List.mem_of_getElem? hg)
      refine ⟨_,rfl,_,rfl,(by show 1 <= sizeLine; decide),fun a1 h1=>?_⟩
      have n1:ra ≠ a1:=d7 (e _ _ (e2 _ _ hrow)) h1
      refine ⟨ra,a1,_,_,rfl,rfl,(by rw [c9 n1]; exact e _ _ (e2 _ _ hrow)),upd_same,?_,fun a2 h2=>?_⟩
      . rw [List.length_map]
        unfold v5
        simp [gg.lt,gg.lg]
        omega
      have s2:=(Same.new h1 (.lst [V.int (g.2.sum - g.1.sum)])).trans (Same.new h2 (.lst ((v5 z g).map V.int ++ [V.int (g.2.sum - g.1.sum)])))
      refine hN _ _ s2 ⟨a2,g,rfl,fun zz=>?_,hg,?_⟩
      . rw [zz,(Same.new h1 (.lst [V.int (g.2.sum - g.1.sum)])) _ _ hl2] at h2; cases h2
      . rw [upd_same]
        unfold N6
        rw [List.map_append]; rfl
    . have hzs:zs = (zs.map a3f).map V.ref:=by
        rw [List.map_map]
        refine List.ext_getElem? fun j=>?_
        rw [List.getElem?_map]
        cases qj:zs[j]? with
        | none=>rfl
        | some y =>
          obtain ⟨a,_,rfl,_⟩:=pr j y qj
          rfl
      refine ⟨l,zs.map a3f,rfl,e,by rw [hl2]; rw [<- hzs],by rw [List.length_map,len,List.length_map,List.length_map,List.length_map,lr,Nat.min_self],fun j a g hj hg=>?_⟩
      rw [List.getElem?_map] at hj
      cases qj:zs[j]? with
      | none=>rw [qj] at hj; cases hj
      | some y =>
        obtain ⟨a',g',rfl,_,h3,h4⟩:=pr j y qj
        rw [qj] at hj
        have:a' = a:=Option.some.inj hj
        subst this
        rw [hg] at h3
        cases h3
        exact h4
  rintro σ2 H3 ⟨ra,rs',rfl,e3,hra,lr',hrs'⟩
  have hi':i < rs'.length:=by omega
  have hri:rs'[i]? = some rs'[i]:=List.getElem?_eq_getElem hi'
  generalize rs'[i] = ri at hri
  have hrow:=hrs' i ri h hri hh
  refine ⟨fun σ' H4=>∃ fa:Addr,σ' = [some (.ref ba),some (.int i),some (.str z),some (.ref ra),some (.ref fl),some (.ref fa),none]/\Same H3 H4/\H4 fa = some (.lst (((N6 z h).map fun x=>-x).map V.int)),?_,?_⟩
  . refine ⟨_,rfl,_,rfl,ra,_,_,.ref ri,rfl,rfl,SqL.of hra,E4 (by rw [List.getElem?_map,hri]; rfl),ri,rfl,⟨_,SqL.of hrow⟩,fun l hl=>?_⟩
    refine U5 (D4 (SqL.of hrow)) hl (by rw [List.length_map,lrow h (List.mem_of_getElem? hh)]; omega) (fun x=>.int (-(vI x))) (fun j x H' N2 hx2 e2 hN2=>?_) ?_
    . obtain ⟨x',rfl,_⟩:=X5 hx2
      exact ⟨Wk.set (by decide),_,rfl,_,rfl,hN2⟩
    have eg:((N6 z h).map V.int).map (fun x=>V.int (-(vI x))) = ((N6 z h).map fun x=>-x).map V.int:=by rw [List.map_map,List.map_map]; rfl
    rw [eg]
    exact ⟨l,rfl,Same.new hl _,upd_same⟩
  rintro σ3 H4 ⟨fa,rfl,e4,hfa⟩
  have lfa:(((N6 z h).map fun x=>-x).map V.int).length = kt + kg + (G6 z).length + 1:=by rw [List.length_map,List.length_map,lrow h (List.mem_of_getElem? hh)]
  refine ⟨fun σ' H5=>∃ ga:Addr,σ' = [some (.ref ba),some (.int i),some (.str z),some (.ref ra),some (.ref fl),some (.ref fa),some (.ref ga)]/\Same H4 H5/\H5 ga = some (.lst ((D5 z h).map V.int)),?_,?_⟩
  . refine ⟨(by show 1 <= sizeLine; decide),fun a1 h1=>?_⟩
    have s1:=Same.new h1 (.lst [.int 0])
    have ek:((kt + kg + (G6 z).length + 1:Nat):Int) - 1 = ((h.1.length + h.2.length + (G6 z).length:Nat):Int):=by rw [gh.lt,gh.lg]; omega
    refine ⟨_,rfl,fa,_,rfl,.inl (SqL.of (s1 _ _ hfa)),_,_,rfl,rfl,a1,_,_,rfl,rfl,upd_same,by rw [lfa,ek]; omega,by rw [lfa,ek,gh.lt,gh.lg]; omega,by rw [lfa,ek,Int.toNat_natCast,gh.lt,gh.lg]; simp; omega,fun a2 h2=>?_⟩
    rw [lfa,ek,Int.toNat_natCast,N9]
    have s2:=s1.trans (Same.new h2 (.lst ((List.replicate (h.1.length + h.2.length + (G6 z).length) (0:Int)).map V.int)))
    refine ⟨(by show 1 <= sizeLine; decide),fun a3 h3=>?_⟩
    have s3:=s2.trans (Same.new h3 (.lst [.int 1]))
    have n23:a2 ≠ a3:=d7 upd_same h3
    refine ⟨a2,a3,_,_,rfl,rfl,(by rw [c9 n23]; exact upd_same),upd_same,?_,fun a4 h4=>?_⟩
    . rw [List.length_map,List.length_replicate,gh.lt,gh.lg]; simp; omega
    refine ⟨a4,rfl,s3.trans (Same.new h4 _),?_⟩
    rw [upd_same]
    unfold D5
    rw [List.map_append]; rfl
  rintro σ4 H5 ⟨ga,rfl,e5,hga⟩
  have e35:=e4.trans e5
  refine ⟨_,rfl,_,rfl,_,rfl,_,rfl,(by show 2 <= sizeLine; decide),fun a1 h1=>?_⟩
  have s1:=Same.new h1 (.lst [V.ref fa,V.ref ga])
  have nr1:ra ≠ a1:=d7 (e35 _ _ hra) h1
  refine ⟨ra,a1,_,_,rfl,rfl,(by rw [c9 nr1]; exact e35 _ _ hra),upd_same,?_,fun a2 h2=>?_⟩
  . rw [List.length_map,lr']; simp; omega
  have s2:=s1.trans (Same.new h2 (.lst (rs'.map V.ref ++ [V.ref fa,V.ref ga])))
  refine ⟨(by show 1 <= sizeLine; decide),fun a3 h3=>?_⟩
  have s3:=s2.trans (Same.new h3 (.lst [.int 0]))
  have e05:=e1.trans (e2.trans (e3.trans e35))
  refine ⟨_,rfl,ba,_,rfl,.inl ((e05.trans s3).seq B.l),a3,_,_,rfl,rfl,upd_same,by omega,by rw [xl]; omega,by rw [xl,Int.toNat_natCast]; simp; omega,fun a4 h4=>?_⟩
  rw [xl,Int.toNat_natCast,N9]
  have s4:=s3.trans (Same.new h4 (.lst ((List.replicate hs.length (0:Int)).map V.int)))
  refine ⟨(by show 2 <= sizeLine; decide),fun a5 h5=>?_⟩
  have s5:=s4.trans (Same.new h5 (.lst [.int 0,.int 1]))
  have n45:a4 ≠ a5:=d7 upd_same h5
  refine ⟨a4,a5,_,_,rfl,rfl,(by rw [c9 n45]; exact upd_same),upd_same,?_,fun a6 h6=>?_⟩
  . rw [List.length_map,List.length_replicate]; simp; omega
  have s6:=s5.trans (Same.new h6 (.lst ((List.replicate hs.length (0:Int)).map V.int ++ [.int 0,.int 1])))
  have eb:(List.replicate hs.length (0:Int)).map V.int ++ [.int 0,.int 1] = (T4 hs).map V.int:=by unfold T4; rw [List.map_append]; rfl
  have hA:=e05.trans s6
  have g2:=(((Same.new h3 (.lst [.int 0])).trans (Same.new h4 (.lst ((List.replicate hs.length (0:Int)).map V.int)))).trans (Same.new h5 (.lst [.int 0,.int 1]))).trans (Same.new h6 (.lst ((List.replicate hs.length (0:Int)).map V.int ++ [.int 0,.int 1])))
  refine ⟨ga,a2,a6,D5 z h,rs'.map V.ref ++ [V.ref fa,V.ref ga],C9 z hs h,T4 hs,mF hs,qF z h,2 ^ 60,rfl,SqL.of (s6 _ _ hga),SqL.of (g2 _ _ upd_same),?_,?_,?_,?_,?_,?_,by show hs.length + 2 < 900; omega,by show h.1.length + h.2.length + (G6 z).length + 1 < 900; rw [gh.lt,gh.lg]; omega,?_,b1z gh B.g hf k20 k21 _,a9I _ (by show hs.length + 2 < 20; omega),L.same hA,
    fun S H' t' aa wa O hn sz e' L' q1 q2 q3=>k S H' t' aa wa ⟨O,hn,sz⟩ (fun b o hb q'=>e' b o hb (hA b o q')) L' q1 q2 q3,fun S H' c O hc hneg hno e' L'=>(O.bounded1 (l:=hs.length + 1) (by show hs.length + 1 < hs.length + 2; omega) (fun j _=>a4G j) hc hneg hno).elim⟩
  . unfold C9
    refine Paired.app ((a7X (K:=K) lr' hrs').same (e35.trans s6)) (.cons ⟨fa,rfl,SqL.of (s6 _ _ (e5 _ _ hfa))⟩ (.cons ⟨ga,rfl,SqL.of (s6 _ _ hga)⟩ .nil))
  . rw [<- eb]; exact SqL.of upd_same
  . unfold C9; simp
  . unfold T4; simp
  . unfold D5; simp
  . intro r' hr'
    unfold C9 at hr'
    rcases List.mem_append.mp hr' with hr' | hr'
    . obtain ⟨g,hg,rfl⟩:=List.mem_map.mp hr'
      rw [lrow g hg]
      show _ = h.1.length + h.2.length + (G6 z).length + 1
      rw [gh.lt,gh.lg]
    . simp only [List.mem_cons,List.not_mem_nil,or_false] at hr'
      rcases hr' with rfl | rfl
      . rw [List.length_map,N8]
      . unfold D5; simp
  . intro j hj
    unfold C6 T4
    rw [List.getD_eq_getElem?_getD]
    by_cases h':j < hs.length
    . rw [List.getElem?_append_left (by simpa using h'),List.getElem?_replicate,if_pos h']; exact Int.le_refl _
    . rw [List.getElem?_append_right (by simp; omega),List.length_replicate]
      have hj':j < hs.length + 2:=hj
      have:j - hs.length = 0 \/ j - hs.length = 1:=by omega
      rcases this with q' | q' <;> rw [q'] <;> decide
end
end Rim
namespace Rim
open PySem L2 Fr
structure a9H (z:Str) (hs:List i5) (h:i5) (pt pg:List Int) (ps:Int):Prop where
  lt:pt.length = h.1.length
  lg:pg.length = h.2.length
  tp:∀ x ∈ pt,0 < x
  gp:∀ x ∈ pg,0 < x
  sign:a0R z ps
  fair:∀ g ∈ hs,J5 g pg ps <= Z7 g pt
  firm:J5 h pg ps = Z7 h pt
def a2d (z:Str) (hs:List i5) (h:i5):Prop:=∃ pt pg ps,a9H z hs h pt pg ps
theorem a2H:∀ {l x y:List Int},x.length = y.length->p7 l (List.zipWith (· + ·) x y) = p7 l x + p7 l y
  | [],x,y,_=>by simp [p7]
  | a :: l,[],[],_=>by simp [p7]
  | a :: l,b :: x,c :: y,h=>by
    have:=a2H (l:=l) (x:=x) (y:=y) (by simpa using h)
    unfold p7 at *
    simp only [List.zipWith_cons_cons,List.sum_cons]
    rw [this,Int.mul_add]; omega
  | a :: l,[],c :: y,h=>by simp at h
  | a :: l,b :: x,[],h=>by simp at h
theorem a2Z:∀ {l:List Int} {k:Nat} {f:Int},l.length = k->p7 l (List.replicate k f) = l.sum * f
  | [],k,f,_=>by simp [p7]
  | a :: l,0,f,h=>by simp at h
  | a :: l,k + 1,f,h=>by
    have:=a2Z (l:=l) (k:=k) (f:=f) (by simpa using h)
    unfold p7 at *
    rw [List.replicate_succ,List.zipWith_cons_cons,List.sum_cons,this,List.sum_cons,Int.add_mul]
abbrev upL (xs:List Int) (f:Int):List Int:=xs.map (· + f)
theorem a8g {l xs:List Int} {f:Int} (h:l.length = xs.length):p7 l (upL xs f) = p7 l xs + l.sum * f:=by
  have e:upL xs f = List.zipWith (· + ·) xs (List.replicate xs.length f):=by
    unfold upL
    refine List.ext_getElem? fun i=>?_
    by_cases hi:i < xs.length
    . rw [List.getElem?_map,List.getElem?_zipWith,List.getElem?_replicate,if_pos hi,List.getElem?_eq_getElem hi]; rfl
    . rw [List.getElem?_eq_none (by simp; omega),List.getElem?_eq_none (by simp; omega)]
  rw [e,a2H (by simp),a2Z h]
theorem X7 {z:Str} {g h:i5} (h1:g.1.length = h.1.length) (h2:g.2.length = h.2.length) {xs:List Int} {fl:Int} (hl:xs.length = h.1.length + h.2.length + (G6 z).length) :
    p7 (N6 z g) (xs ++ [fl]) = J5 g (upL (pgA h xs) fl) (psA z h xs) - Z7 g (upL (ptA h xs) fl):=by
  unfold N6
  rw [W7 (by unfold v5; simp [h1,h2,hl]; omega),a4Q h1 h2]
  unfold J5 Z7
  have e1:p7 g.2 (upL (pgA h xs) fl) = p7 g.2 (pgA h xs) + g.2.sum * fl:=a8g (by rw [h2,List.length_take,List.length_drop]; omega)
  have e2:p7 g.1 (upL (ptA h xs) fl) = p7 g.1 (ptA h xs) + g.1.sum * fl:=a8g (by rw [h1,List.length_take]; omega)
  dsimp only [p7] at *
  rw [e1,e2,Int.sub_mul]
  omega
theorem a3s {m q:Nat} {S:Lp.Bo}:m4 m (q + 1) S = (m4 m (q + 1) S).take q ++ [Lp.valIn m S (q + 1) q]:=by
  unfold m4
  rw [List.range_succ,List.map_append,List.take_left' (by simp)]; rfl
section
variable {z:Str} {hs:List i5} {h:i5} {S:Lp.Bo} {kt kg i:Nat}
theorem Z8 (xs:List Int) (fl:Int) (hl:xs.length = h.1.length + h.2.length + (G6 z).length):p7 (D5 z h) (xs ++ [fl]) = fl:=by
  unfold D5
  rw [W7 (by simp [hl]),S2,Int.zero_add,Int.one_mul]
theorem a9O (i:Nat) {g:i5} (hg:hs[i]? = some g):(C9 z hs h)[i]? = some (N6 z g):=by
  have hil:i < hs.length:=(List.getElem?_eq_some_iff.mp hg).1
  unfold C9
  rw [List.getElem?_append_left (by rw [List.length_map]; exact hil),List.getElem?_map,hg]; rfl
theorem a9R:(C9 z hs h)[hs.length]? = some ((N6 z h).map fun x=>-x):=by
  unfold C9
  rw [List.getElem?_append_right (by simp),List.length_map,Nat.sub_self]; rfl
theorem a0w (hi:i <= hs.length):(T4 hs).getD i 0 = 0:=by
  unfold T4
  rw [y9,List.length_replicate]
  by_cases h1:i < hs.length
  . rw [if_pos h1,N3]
  . rw [if_neg h1,show i - hs.length = 0 by omega]; rfl
theorem a3M (hz:Y9 z) (B:a4M z hs h S) (hk:∀ g ∈ hs,g.1.length = kt/\g.2.length = kg) (hh:hs[i]? = some h) (hp:0 < S.T (mF hs) (qF z h)) :
    a9H z hs h (upL (ptA h ((m4 (mF hs) (qF z h) S).take (qE z h))) (S.T (mF hs) (qF z h))) (upL (pgA h ((m4 (mF hs) (qF z h) S).take (qE z h))) (S.T (mF hs) (qF z h))) (psA z h ((m4 (mF hs) (qF z h) S).take (qE z h))):=by
  obtain ⟨O,hn,sz⟩:=B
  have kh:=hk h (List.mem_of_getElem? hh)
  have hsp:m4 (mF hs) (qF z h) S = (m4 (mF hs) (qF z h) S).take (qE z h) ++ [Lp.valIn (mF hs) S (qF z h) (qE z h)]:=a3s
  have la:(m4 (mF hs) (qF z h) S).length = qE z h + 1:=by unfold m4; simp
  have lx:((m4 (mF hs) (qF z h) S).take (qE z h)).length = h.1.length + h.2.length + (G6 z).length:=by rw [List.length_take,la]; show min (h.1.length + h.2.length + (G6 z).length) (h.1.length + h.2.length + (G6 z).length + 1) = _; omega
  have nn:=a5A O
  have eT:Lp.valIn (mF hs) S (qF z h) (qE z h) = S.T (mF hs) (qF z h):=by
    have:=a3m O (by unfold D5; simp)
    rw [hsp,Z8 _ _ lx] at this
    exact this
  generalize hxs:(m4 (mF hs) (qF z h) S).take (qE z h) = xs at *
  have xnn:∀ x ∈ xs,0 <= x:=fun x hx=>nn x (by rw [hsp]; exact List.mem_append_left _ hx)
  have fair:∀ g ∈ hs,J5 g (upL (pgA h xs) (S.T (mF hs) (qF z h))) (psA z h xs) <= Z7 g (upL (ptA h xs) (S.T (mF hs) (qF z h))):=fun g hg=>by
    obtain ⟨k,hk'⟩:=List.getElem?_of_mem hg
    have hkl:=(List.getElem?_eq_some_iff.mp hk').1
    have kg':=hk g hg
    have:=a2y O (i:=k) (by show k < hs.length + 2; omega) (a9O k hk') (by rw [N8,kg'.1,kg'.2,kh.1.symm,kh.2.symm])
    rw [hsp,X7 (h:=h) (by rw [kg'.1,kh.1]) (by rw [kg'.2,kh.2]) lx,a0w (by omega),Int.zero_mul,eT] at this
    omega
  refine ⟨by simp [lx]; omega,by simp [lx]; omega,fun x hx=>?_,fun x hx=>?_,a5f hz fun x hx=>xnn x (List.mem_of_mem_drop hx),fair,?_⟩
  . obtain ⟨y,hy,rfl⟩:=List.mem_map.mp hx
    have:=xnn y (List.mem_of_mem_take hy); omega
  . obtain ⟨y,hy,rfl⟩:=List.mem_map.mp hx
    have:=xnn y (List.mem_of_mem_drop (List.mem_of_mem_take hy)); omega
  . have f1:=fair h (List.mem_of_getElem? hh)
    have:=a2y O (i:=hs.length) (by show hs.length < hs.length + 2; omega) a9R (by rw [List.length_map,N8])
    rw [hsp,X8,X7 (h:=h) rfl rfl lx,a0w (Nat.le_refl _),Int.zero_mul,eT] at this
    omega
theorem a3n (hz:Y9 z) (B:a4M z hs h S) (hk:∀ g ∈ hs,g.1.length = kt/\g.2.length = kg) (hh:hs[i]? = some h) (R:a2d z hs h):0 < S.T (mF hs) (qF z h):=by
  obtain ⟨O,hn,sz⟩:=B
  obtain ⟨pt,pg,ps,R⟩:=R
  have kh:=hk h (List.mem_of_getElem? hh)
  obtain ⟨sx,sl,snn,sv⟩:∃ sx:List Int,sx.length = (G6 z).length/\(∀ x ∈ sx,0 <= x)/\p7 sx (G6 z) = ps:=by
    have sg:=R.sign
    rcases hz with rfl | rfl | rfl | rfl
    . have h1:=sg.1 (.inl rfl)
      have h2:=sg.2 (.inl rfl)
      exact ⟨[],rfl,nofun,by show (0:Int) = ps; omega⟩
    . by_cases h0:0 <= ps
      . refine ⟨[ps,0],rfl,fun x hx=>?_,?_⟩
        . simp only [List.mem_cons,List.not_mem_nil,or_false] at hx
          rcases hx with rfl | rfl
          . exact h0
          . exact Int.le_refl _
        . show ps * 1 + (0 * -1 + 0) = ps; omega
      . refine ⟨[0,-ps],rfl,fun x hx=>?_,?_⟩
        . simp only [List.mem_cons,List.not_mem_nil,or_false] at hx
          rcases hx with rfl | rfl
          . exact Int.le_refl _
          . omega
        . show 0 * 1 + (-ps * -1 + 0) = ps; omega
    . have h1:=sg.1 (.inr rfl)
      exact ⟨[-ps],rfl,fun x hx=>by rw [List.mem_singleton.mp hx]; omega,by show -ps * -1 + 0 = ps; omega⟩
    . have h1:=sg.2 (.inr rfl)
      exact ⟨[ps],rfl,fun x hx=>by rw [List.mem_singleton.mp hx]; exact h1,by show ps * 1 + 0 = ps; omega⟩
  have hxl:(pt.map (· - 1) ++ pg.map (· - 1) ++ sx).length = h.1.length + h.2.length + (G6 z).length:=by simp [R.lt,R.lg,sl]; omega
  have e1:upL (ptA h (pt.map (· - 1) ++ pg.map (· - 1) ++ sx)) 1 = pt:=by
    unfold ptA upL
    rw [List.append_assoc,List.take_left' (by simp [R.lt]),List.map_map]
    refine (List.map_congr_left fun x _=>?_).trans (List.map_id _)
    show x - 1 + 1 = x; omega
  have e2:upL (pgA h (pt.map (· - 1) ++ pg.map (· - 1) ++ sx)) 1 = pg:=by
    unfold pgA upL
    rw [List.append_assoc,List.drop_left' (by simp [R.lt]),List.take_left' (by simp [R.lg]),List.map_map]
    refine (List.map_congr_left fun x _=>?_).trans (List.map_id _)
    show x - 1 + 1 = x; omega
  have e3:psA z h (pt.map (· - 1) ++ pg.map (· - 1) ++ sx) = ps:=by
    unfold psA
    rw [List.drop_left' (by simp [R.lt,R.lg])]; exact sv
  generalize hx0:pt.map (· - 1) ++ pg.map (· - 1) ++ sx = xs at *
  have xnn:∀ x ∈ xs ++ [1],0 <= x:=fun x hx=>by
    rcases List.mem_append.mp hx with hx | hx
    . rw [<- hx0] at hx
      rcases List.mem_append.mp hx with hx | hx
      . rcases List.mem_append.mp hx with hx | hx
        . obtain ⟨y,hy,rfl⟩:=List.mem_map.mp hx
          have:=R.tp y hy; omega
        . obtain ⟨y,hy,rfl⟩:=List.mem_map.mp hx
          have:=R.gp y hy; omega
      . exact snn x hx
    . rw [List.mem_singleton.mp hx]; decide
  have lq:(xs ++ [1]).length = qF z h:=by rw [List.length_append,hxl]; rfl
  have toD:∀ {row:List Int} {i:Nat},(C9 z hs h)[i]? = some row->row.length = qF z h->Lp.sumTo (fun j=>P7 (C9 z hs h) i j * (xs ++ [1]).getD j 0) (qF z h) = p7 row (xs ++ [1]):=fun {row i} hr hl=>by
    rw [<- D0 (qF z h) row (xs ++ [1]) hl lq]
    exact Lp.sum_congr fun j _=>by rw [S8 hr]
  have key:=O.weak hn (y:=fun j=>(xs ++ [1]).getD j 0) (e:=1) (fun j hj=>?_) fun k hk'=>?_
  . have eg:Lp.sumTo (fun j=>C6 (D5 z h) j * (xs ++ [1]).getD j 0) (qF z h) = 1:=by
      have:=D0 (qF z h) (D5 z h) (xs ++ [1]) (by unfold D5; simp) lq
      rw [Z8 _ _ hxl] at this
      exact this
    rw [eg] at key
    have:=O.w.pos
    omega
  . rw [List.getD_eq_getElem?_getD,List.getElem?_eq_getElem (by rw [lq]; exact hj)]
    exact xnn _ (List.getElem_mem _)
  . have hk2:k < hs.length + 2:=hk'
    show _ <= C6 (T4 hs) k * 1
    rw [Int.mul_one]
    by_cases c1:k < hs.length
    . have hg:hs[k]? = some hs[k]:=List.getElem?_eq_getElem c1
      have kg':=hk hs[k] (List.getElem_mem c1)
      rw [toD (a9O k hg) (by rw [N8,kg'.1,kg'.2,kh.1.symm,kh.2.symm]),X7 (h:=h) (by rw [kg'.1,kh.1]) (by rw [kg'.2,kh.2]) hxl,e1,e2,e3]
      show _ <= (T4 hs).getD k 0
      rw [a0w (by omega)]
      have:=R.fair hs[k] (List.getElem_mem c1)
      omega
    . by_cases c2:k = hs.length
      . subst c2
        rw [toD a9R (by rw [List.length_map,N8]),X8,X7 (h:=h) rfl rfl hxl,e1,e2,e3]
        show _ <= (T4 hs).getD hs.length 0
        rw [a0w (Nat.le_refl _)]
        have:=R.firm
        omega
      . have c3:k = hs.length + 1:=by omega
        subst c3
        have hr:(C9 z hs h)[hs.length + 1]? = some (D5 z h):=by
          unfold C9
          rw [List.getElem?_append_right (by simp),List.length_map,Nat.add_sub_cancel_left]; rfl
        rw [toD hr (by unfold D5; simp),Z8 _ _ hxl]
        show (1:Int) <= (T4 hs).getD (hs.length + 1) 0
        unfold T4
        rw [y9,List.length_replicate,if_neg (by omega),Nat.add_sub_cancel_left]; decide
theorem a8Q (hz:Y9 z) (B:a4M z hs h S) (hk:∀ g ∈ hs,g.1.length = kt/\g.2.length = kg) (hh:hs[i]? = some h):0 < S.T (mF hs) (qF z h) ↔ a2d z hs h :=
  ⟨fun hp=>⟨_,_,_,a3M hz B hk hh hp⟩,a3n hz B hk hh⟩
end
end Rim
namespace L2
open PySem
section
variable {fr:List Nat} {tc:TT} {σ:St} {H1:Hp} {p:Addr} {D:Hp->Prop} {P:Addr} {pos:Pos} {qual:Str} {n:Nat}
theorem a6R (T:LamTab P pos qual H1) (hp:H1 p = none) (hz:n < sizeLine) (F:Nat->Bool)
    (step:∀ (i:Nat) H ys (N:Bool->Hp->Prop),i < n->Same1 P H1 H->LamTab P pos qual H->H p = some (.lst ys)->(∀ H3,Same1 P H H3->LamTab P pos qual H3->N (F i) H3)->tc ((blkσ 1 fr σ).set 0 (some (.int (i:Int)))) H N)
    (hd:∀ H,Same1 P H1 H->LamTab P pos qual H->H p = some (.lst (((List.range n).filter F).map fun (i:Nat)=>V.int (i:Int)))->D H):lcI 1 fr (D7 0) tc (a3B 0) σ (Itr 0 n) H1 p D:=by
  refine ⟨fun i m ys H=>m = n - i/\i <= n/\ys = ((List.range i).filter F).map (fun (i:Nat)=>V.int (i:Int))/\Same1 P H1 H/\LamTab P pos qual H/\H p = some (.lst ys),⟨n,by simp,Nat.zero_le _,rfl,(Same.new hp _).to1,T.same (Same.new hp _),upd_same⟩,?_⟩
  rintro i m ys H ⟨rfl,hi,rfl,e,L,hH⟩
  by_cases hlt:i < n
  . refine .inr ⟨hlt,fun x H' y=>?_⟩
    obtain ⟨rfl,rfl⟩:=y
    rw [Int.zero_add]
    have tk:(List.range (i + 1)).filter F = (List.range i).filter F ++ [i].filter F:=by rw [List.range_succ,List.filter_append]
    refine ⟨Wk.set (by decide),step i _ _ _ hlt e L hH fun H3 e3 L3=>?_⟩
    have h3:=e3.get L hH nofun
    cases hq:F i with
    | false =>
      rw [if_neg Bool.false_ne_true]
      refine ⟨n - (i + 1),by omega,rfl,hlt,?_,e.trans e3,L3,h3⟩
      rw [tk]; simp [hq]
    | true =>
      rw [if_pos rfl]
      refine ⟨.int (i:Int),?_,h3,?_,n - (i + 1),by omega,rfl,hlt,?_,(e.trans e3).write hp,L3.write h3,upd_same⟩
      . show ((blkσ 1 fr σ).set 0 (some (.int (i:Int))))[0]? = some (some (.int (i:Int)))
        rw [List.getElem?_set_self (by simp [blkσ])]
      . have h1:=List.length_filter_le F (List.range i)
        rw [List.length_range] at h1
        rw [List.length_map]
        omega
      . rw [tk]; simp [hq]
  . have:i = n:=by omega
    subst this
    exact .inl ⟨Nat.le_refl _,hd H e L hH⟩
end
end L2
namespace Rim
open PySem L2 Fr
open Classical in
noncomputable def a1F (z:Str) (hs:List i5):List Nat:=(List.range hs.length).filter fun i=>decide (a2d z hs (hs.getD i ([],[])))
section
variable {P:Program} {w:World} {K:W.Frag} {mg:Str->Option Value} {base:Heap} {f Pt d:Addr} {fd:FuncData} {n:Nat} {C:Addr}
def a5E (K:W.Frag) (Pt:Addr):Sp:=fun vs H Q _=>∃ (ba:Addr) (xs:List V) (hs:List i5) (z:Str) (far:Int) (kt kg:Nat),vs = [.ref ba,.str z]/\Y9 z/\a0a K H ba xs hs far kt kg/\far <= 2 ^ 50/\LT Pt H ∧
  ∀ (H':Hp) (r:Addr),Same1 Pt H H'->LT Pt H'->H r = none->H' r = some (.lst ((a1F z hs).map fun (i:Nat)=>V.int (i:Int)))->Q (.ref r) H'
theorem b3p:j3 ["book","sizes"] ["book","sizes"] (h8 a4a):=⟨rfl,rfl,rfl,by decide +kernel,rfl,by decide +kernel,by decide +kernel⟩
theorem b3k:(["number","book","sizes"]:List Str).Nodup:=by decide +kernel
set_option maxHeartbeats 4000000 in
theorem a7w {f1:Addr} {d1:FuncData} (F:Fun K "rim_of" "rim_of" a4a f fd) (N:v7 mg) (Cf:V9 P w K mg base n "greatest_floor" ["houses","number","sizes"] (a4S K Pt) f1 d1):FnOk P w K mg base D6 (n + 1) f fd ["book","sizes"] (a5E K Pt):=by
  refine F.ok b3p (fun vs H Q E h=>?_) (fun cdv A outer s H vs Q E hr h=>?_)
  . obtain ⟨ba,xs,hs,z,far,kt,kg,rfl,_⟩:=h
    rfl
  obtain ⟨ba,xs,hs,z,far,kt,kg,rfl,hz,B,hf,L,k⟩:=h
  refine ⟨_,i7 (m7 (a8j ["number"] [0,1] rfl (J6 rfl N.range (a0 (m9 j8 rfl N.len PySem.boot_len (a0 (pv 0) d8)) d8)) (fun _ _ _ _=>j5 (i:=0) b3k rfl (Or.inl rfl))
    (fun _ _ _ _=>o4 T6 (j0 (a4z K rfl) (j7 Cf.ok hr rfl Cf.m Cf.k Cf.b .nil p6 (a0 (pv 1) (a0 (pv 0) (a0 (pv 2) d8)))) d9 (fun _ _=>rfl)) d9 (o6 _)) (fun _ _ _ _=>pv 0))),?_⟩
  have xl:xs.length = hs.length:=Paired.length B.b
  have few:=B.few
  have s1k:=j6 (show (1000:Nat) <= 1000 from Nat.le_refl _)
  have hk:∀ g ∈ hs,g.1.length = kt/\g.2.length = kg:=fun g hg=>⟨(B.g g hg).lt,(B.g g hg).lg⟩
  refine ⟨_,rfl,ba,_,rfl,.inl B.l,_,rfl,by omega,by omega,?_⟩
  rw [xl,Int.toNat_natCast]
  intro p hp
  refine a6R (n:=hs.length) L hp (by omega) _ (fun i H2 ys N' hi e L2' hp2 hN=>?_) (fun H2 e L2' hp2=>k H2 p e L2' hp hp2)
  have hh:hs[i]? = some hs[i]:=List.getElem?_eq_getElem hi
  refine ⟨_,rfl,_,rfl,_,rfl,ba,xs,hs,i,hs[i],z,far,kt,kg,rfl,hz,⟨SqL.same1 L e B.l,Bk.same1 L e B.b,B.g,B.far,B.few,B.t,B.k⟩,hf,hh,L2',fun S H3 t aa wa BF e3 L3 ht _ _=>?_⟩
  refine ⟨t,_,0,_,rfl,rfl,SqT.of ht,E4 (j:=0) rfl,_,_,rfl,rfl,_,rfl,?_⟩
  have hd:hs.getD i ([],[]) = hs[i]:=by rw [List.getD_eq_getElem?_getD,hh]; rfl
  have eb:decide (S.T (mF hs) (qF z hs[i]) > 0) = (fun i=>@decide (a2d z hs (hs.getD i ([],[]))) (Classical.propDecidable _)) i:=by
    have:=a8Q hz BF hk hh
    show _ = @decide (a2d z hs (hs.getD i ([],[]))) (Classical.propDecidable _)
    rw [hd]
    by_cases c:0 < S.T (mF hs) (qF z hs[i])
    . have c2:=this.mp c
      rw [decide_eq_true (show S.T (mF hs) (qF z hs[i]) > 0 from c)]
      simp [c2]
    . have c2:¬ a2d z hs hs[i]:=fun q=>c (this.mpr q)
      rw [decide_eq_false (show ¬ S.T (mF hs) (qF z hs[i]) > 0 from c)]
      simp [c2]
  rw [eb]
  exact hN H3 e3 L3
end
end Rim
namespace Rim
open PySem L2 Fr
structure Mx (z:Str) (hs:List i5) (ws:List Int) (D:Int):Prop where
  lw:ws.length = hs.length
  nn:∀ x ∈ ws,0 <= x
  d:0 < D
  size:a2u z ws.sum D
structure Px (z:Str) (hs:List i5) (kt kg:Nat) (pt pg:List Int) (ps:Int):Prop where
  lt:pt.length = kt
  lg:pg.length = kg
  tn:∀ x ∈ pt,0 <= x
  gn:∀ x ∈ pg,0 <= x
  sign:a0R z ps
  fair:∀ g ∈ hs,J5 g pg ps <= Z7 g pt
theorem A4 (a b:Int) (l x:List Int):p7 (a :: l) (b :: x) = a * b + p7 l x:=rfl
theorem a1j {f:i5->List Int} {k:Nat}:∀ {hs:List i5} {ws p:List Int},ws.length = hs.length->(∀ g ∈ hs,(f g).length = k)->p.length = k →
    p7 (hs.map fun g=>p7 (f g) p) ws = p7 ((List.range k).map fun j=>p7 (hs.map fun g=>(f g).getD j 0) ws) p
  | [],ws,p,_,_,hp=>by
    have e:∀ (l:List Nat) (p:List Int),p7 (l.map fun _=>(0:Int)) p = 0:=fun l=>by
      induction l with
      | nil=>intro p; simp [p7]
      | cons a r ih =>
        intro p
        cases p with
        | nil=>simp [p7]
        | cons b p=>rw [List.map_cons,A4,ih p]; omega
    show (0:Int) = _
    rw [show ((List.range k).map fun j=>p7 (([]:List i5).map fun g=>(f g).getD j 0) ws) = (List.range k).map fun _=>(0:Int) from List.map_congr_left fun j _=>by simp [p7],e]
  | g :: hs,[],p,h,_,_=>by simp at h
  | g :: hs,w :: ws,p,h,hk,hp=>by
    have ih:=a1j (f:=f) (k:=k) (hs:=hs) (ws:=ws) (p:=p) (by simpa using h) (fun x hx=>hk x (.tail _ hx)) hp
    rw [List.map_cons,A4,ih]
    have e1:((List.range k).map fun j=>p7 ((g :: hs).map fun g=>(f g).getD j 0) (w :: ws)) = List.zipWith (· + ·) ((f g).map fun x=>x * w) ((List.range k).map fun j=>p7 (hs.map fun g=>(f g).getD j 0) ws):=by
      have lg:=hk g (.head _)
      refine List.ext_getElem? fun j=>?_
      by_cases hj:j < k
      . rw [List.getElem?_map,List.getElem?_range hj,List.getElem?_zipWith,List.getElem?_map,List.getElem?_map,List.getElem?_range hj,List.getElem?_eq_getElem (by rw [lg]; exact hj)]
        simp only [Option.map_some]
        rw [List.map_cons,A4,List.getD_eq_getElem?_getD,List.getElem?_eq_getElem (by rw [lg]; exact hj)]; rfl
      . rw [List.getElem?_eq_none (by simp; omega),List.getElem?_eq_none (by simp; omega)]
    rw [e1,N0 (List.zipWith _ _ _) p,a2H (by simp [hk g (.head _)]),N0 p,N0 p]
    congr 1
    have:∀ (l p:List Int),p7 (l.map fun x=>x * w) p = p7 l p * w:=fun l=>by
      induction l with
      | nil=>intro p; simp [p7]
      | cons a r ih =>
        intro p
        cases p with
        | nil=>simp [p7]
        | cons b p =>
          rw [List.map_cons,A4,A4,ih p,Int.add_mul]
          congr 1
          ac_rfl
    rw [this]
theorem Y2:∀ {l m p:List Int},l.length = m.length->(∀ x ∈ p,0 <= x)->(∀ j,j < l.length->l.getD j 0 <= m.getD j 0)->p7 l p <= p7 m p
  | [],[],p,_,_,_=>Int.le_refl _
  | a :: l,b :: m,[],_,_,_=>Int.le_refl _
  | a :: l,b :: m,c :: p,h,hp,hj=>by
    have ih:=Y2 (l:=l) (m:=m) (p:=p) (by simpa using h) (fun x hx=>hp x (.tail _ hx)) fun j hl=>by
      have:=hj (j + 1) (by simpa using hl)
      simpa using this
    have h0:a <= b:=by simpa using hj 0 (by simp)
    rw [A4,A4]
    have:=Int.mul_le_mul_of_nonneg_right h0 (hp c (.head _))
    omega
  | [],_ :: _,_,h,_,_=>by simp at h
  | _ :: _,[],_,h,_,_=>by simp at h
theorem S5 (s:Int):∀ (l p:List Int),p7 (l.map fun x=>x * s) p = p7 l p * s
  | [],p=>by simp [p7]
  | a :: l,[]=>by simp [p7]
  | a :: l,b :: p=>by
    rw [List.map_cons,A4,A4,S5 s l p,Int.add_mul]
    congr 1
    ac_rfl
section
variable {z:Str} {hs:List i5} {h:i5} {kt kg:Nat} {ws pt pg:List Int} {D ps:Int}
theorem a5k (j i:Nat):I0 hs ws j i = p7 (hs.map fun g=>(Q1 j g).getD i 0) ws:=by
  unfold I0 col
  rw [List.map_map]; rfl
theorem a8n (hz:Y9 z) (M:Mx z hs ws D) (P:Px z hs kt kg pt pg ps) (hk:∀ g ∈ hs,g.1.length = kt/\g.2.length = kg) :
    p7 ((List.range kg).map fun j=>I0 hs ws 1 j) pg + ps * D <= p7 ((List.range kt).map fun j=>I0 hs ws 0 j) pt:=by
  have e0:p7 (hs.map fun g=>Z7 g pt) ws = p7 ((List.range kt).map fun j=>I0 hs ws 0 j) pt:=by
    have:=a1j (f:=fun g=>g.1) (hs:=hs) (ws:=ws) (p:=pt) M.lw (fun g hg=>(hk g hg).1) P.lt
    rw [show (fun j=>I0 hs ws 0 j) = fun j=>p7 (hs.map fun g=>g.1.getD j 0) ws from funext fun j=>a5k 0 j]
    exact this
  have e1:p7 (hs.map fun g=>p7 g.2 pg) ws = p7 ((List.range kg).map fun j=>I0 hs ws 1 j) pg:=by
    have:=a1j (f:=fun g=>g.2) (hs:=hs) (ws:=ws) (p:=pg) M.lw (fun g hg=>(hk g hg).2) P.lg
    rw [show (fun j=>I0 hs ws 1 j) = fun j=>p7 (hs.map fun g=>g.2.getD j 0) ws from funext fun j=>a5k 1 j]
    exact this
  have e2:p7 (hs.map fun g=>J5 g pg ps) ws = p7 (hs.map fun g=>p7 g.2 pg) ws + ps * ws.sum:=by
    have:∀ (hs:List i5) (ws:List Int),hs.length = ws.length->p7 (hs.map fun g=>J5 g pg ps) ws = p7 (hs.map fun g=>p7 g.2 pg) ws + ps * ws.sum:=fun hs=>by
      induction hs with
      | nil =>
        intro ws hl
        rw [List.eq_nil_of_length_eq_zero hl.symm]; simp [p7]
      | cons g r ih =>
        intro ws hl
        cases ws with
        | nil=>simp at hl
        | cons w ws =>
          have:=ih ws (by simpa using hl)
          rw [List.map_cons,List.map_cons,A4,A4,this,List.sum_cons]
          have e:J5 g pg ps = p7 g.2 pg + ps:=rfl
          rw [e,Int.add_mul,Int.mul_add]
          omega
    exact this hs ws M.lw.symm
  have le:p7 (hs.map fun g=>J5 g pg ps) ws <= p7 (hs.map fun g=>Z7 g pt) ws:=by
    refine Y2 (by simp) M.nn fun j hj=>?_
    have hj':j < hs.length:=by simpa using hj
    rw [List.getD_eq_getElem?_getD,List.getD_eq_getElem?_getD,List.getElem?_map,List.getElem?_map,List.getElem?_eq_getElem hj']
    exact P.fair _ (List.getElem_mem hj')
  have sz:ps * D <= ps * ws.sum:=by
    obtain ⟨s1,s2⟩:=M.size
    obtain ⟨g1,g2⟩:=P.sign
    rcases hz with c | c | c | c
    . have:=g1 (.inl c); have:=g2 (.inl c)
      have:ps = 0:=by omega
      rw [this]; simp
    . have a1:=s1 (.inl c)
      have a2:=s2 (.inl c)
      have:ws.sum = D:=by omega
      rw [this]; exact Int.le_refl _
    . have a1:=g1 (.inr c)
      have a2:=s1 (.inr c)
      have:=Int.mul_le_mul_of_nonneg_left a2 (show 0 <= -ps by omega)
      rw [Int.neg_mul,Int.neg_mul] at this
      omega
    . have a1:=g2 (.inr c)
      have a2:=s2 (.inr c)
      exact Int.mul_le_mul_of_nonneg_left a2 a1
  rw [e0,e2,e1] at le
  omega
structure Shr (z:Str) (hs:List i5) (h:i5) (kt kg:Nat) (A B:Int) (ws:List Int) (D:Int):Prop where
  m:Mx z hs ws D
  t:∀ j,j < kt->I0 hs ws 0 j * B <= h.1.getD j 0 * A * D
  g:∀ j,j < kg->h.2.getD j 0 * D <= I0 hs ws 1 j
structure Gro (z:Str) (hs:List i5) (h:i5) (kt kg:Nat) (A B:Int) (ws:List Int) (D:Int):Prop where
  m:Mx z hs ws D
  t:∀ j,j < kt->I0 hs ws 0 j <= h.1.getD j 0 * D
  g:∀ j,j < kg->h.2.getD j 0 * A * D <= I0 hs ws 1 j * B
theorem a3p {k:Nat} {F:Nat->Int} {j:Nat} (h:j < k):((List.range k).map F).getD j 0 = F j:=a0e h
theorem Shr.weak {A B:Int} (hz:Y9 z) (S:Shr z hs h kt kg A B ws D) (P:Px z hs kt kg pt pg ps) (hk:∀ g ∈ hs,g.1.length = kt/\g.2.length = kg) (h1:h.1.length = kt) (h2:h.2.length = kg) (hB:0 < B):J5 h pg ps * B <= A * Z7 h pt:=by
  have L:=a8n hz S.m P hk
  have dp:=S.m.d
  have a1:p7 h.2 pg * D <= p7 ((List.range kg).map fun j=>I0 hs ws 1 j) pg:=by
    rw [<- S5]
    refine Y2 (by simp [h2]) P.gn fun j hj=>?_
    have hj':j < kg:=by simpa [h2] using hj
    rw [a3p hj',List.getD_eq_getElem?_getD,List.getElem?_map,List.getElem?_eq_getElem (by omega)]
    have:=S.g j hj'
    rw [List.getD_eq_getElem?_getD,List.getElem?_eq_getElem (by omega)] at this
    exact this
  have a2:p7 ((List.range kt).map fun j=>I0 hs ws 0 j) pt * B <= p7 h.1 pt * (A * D):=by
    rw [<- S5,<- S5]
    refine Y2 (by simp [h1]) P.tn fun j hj=>?_
    have hj':j < kt:=by simpa using hj
    rw [List.getD_eq_getElem?_getD,List.getElem?_map,List.getElem?_map,List.getElem?_range hj',List.getD_eq_getElem?_getD,List.getElem?_map,List.getElem?_eq_getElem (by omega)]
    have:=S.t j hj'
    rw [List.getD_eq_getElem?_getD,List.getElem?_eq_getElem (by omega)] at this
    show I0 hs ws 0 j * B <= h.1[j] * (A * D)
    rw [<- Int.mul_assoc]; exact this
  refine Int.le_of_mul_le_mul_right (a:=D) ?_ dp
  have e1:J5 h pg ps = p7 h.2 pg + ps:=rfl
  have e2:Z7 h pt = p7 h.1 pt:=rfl
  rw [e1,e2]
  have b1:=Int.mul_le_mul_of_nonneg_right L (Int.le_of_lt hB)
  have b2:=Int.mul_le_mul_of_nonneg_right a1 (Int.le_of_lt hB)
  have x1:(p7 h.2 pg + ps) * B * D = p7 h.2 pg * D * B + ps * D * B:=by rw [Int.add_mul,Int.add_mul]; congr 1 <;> ac_rfl
  have x2:A * p7 h.1 pt * D = p7 h.1 pt * (A * D):=by ac_rfl
  rw [Int.add_mul] at b1
  rw [x1,x2]
  omega
def IsShare (z:Str) (hs:List i5) (h:i5) (kt kg:Nat) (A B:Int):Prop:=0 < B/\(∃ ws D,Shr z hs h kt kg A B ws D)/\∃ pt pg ps,Px z hs kt kg pt pg ps/\0 < Z7 h pt/\J5 h pg ps * B = A * Z7 h pt
theorem IsShare.le {A B A' B':Int} (hz:Y9 z) (I:IsShare z hs h kt kg A B) (hk:∀ g ∈ hs,g.1.length = kt/\g.2.length = kg) (h1:h.1.length = kt) (h2:h.2.length = kg) (hB:0 < B') {ws:List Int} {D:Int} (S:Shr z hs h kt kg A' B' ws D):A * B' <= A' * B:=by
  obtain ⟨b,_,pt,pg,ps,P,pp,e⟩:=I
  have w:=S.weak hz P hk h1 h2 hB
  refine Int.le_of_mul_le_mul_right (a:=Z7 h pt) ?_ pp
  have x:=Int.mul_le_mul_of_nonneg_right w (Int.le_of_lt b)
  have y1:J5 h pg ps * B' * B = J5 h pg ps * B * B':=by ac_rfl
  rw [y1,e] at x
  have y2:A * Z7 h pt * B' = A * B' * Z7 h pt:=by ac_rfl
  have y3:A' * Z7 h pt * B = A' * B * Z7 h pt:=by ac_rfl
  omega
theorem IsShare.eq {A B A' B':Int} (hz:Y9 z) (I:IsShare z hs h kt kg A B) (J:IsShare z hs h kt kg A' B') (hk:∀ g ∈ hs,g.1.length = kt/\g.2.length = kg) (h1:h.1.length = kt) (h2:h.2.length = kg):A * B' = A' * B:=by
  obtain ⟨_,⟨ws,D,S⟩,_⟩:=id J
  obtain ⟨_,⟨ws',D',S'⟩,_⟩:=id I
  have a:=I.le hz hk h1 h2 J.1 S
  have b:=J.le hz hk h1 h2 I.1 S'
  omega
theorem Best.is {S:Lp.Bo} {far:Int} (hz:Y9 z) (B:Best z hs h S) (hG:∀ g ∈ hs,HG far kt kg g) (gh:HG far kt kg h) (kt1:1 <= kt) (kt4:kt <= 20) (kg4:kg <= 20):IsShare z hs h kt kg (S.T (mE hs) (qE z h)) S.d:=by
  have T:=a4K hz B hG gh kt1 kt4 kg4
  have dp:=B.1.w.pos
  refine ⟨dp,⟨_,_,⟨T.lw,fun x hx=>(T.nn x hx).1,dp,T.size⟩,fun j hj=>?_,T.gives⟩,_,_,_,⟨T.pr.lt,T.pr.lg,fun x hx=>(T.pr.bt x hx).1,fun x hx=>(T.pr.bg x hx).1,T.sign,T.fair⟩,by rw [T.pays]; exact dp,by rw [T.pays,T.earns]⟩
  exact Int.mul_le_mul_of_nonneg_right (T.takes j hj) (Int.le_of_lt dp)
end
end Rim
namespace Rim
open PySem L2 Fr
section
variable {z:Str} {hs:List i5} {h:i5} {kt kg i:Nat}
end
end Rim
namespace Rim
open PySem L2 Fr
section
variable {z:Str} {hs hs':List i5} {h:i5} {kt kg:Nat} {far:Int}
end
end Rim
namespace Rim
open PySem L2 Fr
theorem a1i {X:Cx} {l:List Stmt}:PSs X l fun _ _ _=>False:=fun _ _ _ _ _ _ h=>h.elim
structure ShU (z:Str) (hs:List i5) (h:i5) (kt kg:Nat) (A B:Int):Prop where
  s:IsShare z hs h kt kg A B
  a:Big 20000 A
  p:0 < A
  b:0 < B
  c:B < 2 ^ 8000
theorem Best.u {z:Str} {hs:List i5} {h:i5} {kt kg:Nat} {S:Lp.Bo} {far:Int} (hz:Y9 z) (B:Best z hs h S) (hG:∀ g ∈ hs,HG far kt kg g) (gh:HG far kt kg h) (kt1:1 <= kt) (kt4:kt <= 20) (kg4:kg <= 20):ShU z hs h kt kg (S.T (mE hs) (qE z h)) S.d:=by
  have T:=a4K hz B hG gh kt1 kt4 kg4
  obtain ⟨b1,b2⟩:=a5l B
  exact ⟨B.is hz hG gh kt1 kt4 kg4,(B.2.2.1 _ _ (by omega) (by omega)).mono (by decide),T.pos,b1,b2⟩
theorem ShU.fr {z:Str} {hs:List i5} {h:i5} {kt kg:Nat} {A B A' B':Int} {far:Int} (hz:Y9 z) (x:ShU z hs h kt kg A B) (y:IsShare z hs h kt kg A' B') (hG:∀ g ∈ hs,HG far kt kg g) (gh:HG far kt kg h):Fr.low A B = Fr.low A' B' :=
  b0L x.b y.1 (x.s.eq hz y (fun g hg=>⟨(hG g hg).lt,(hG g hg).lg⟩) gh.lt gh.lg)
def E6 {α:Type} (l:List α) (i:Nat):List α:=l.take i ++ l.drop (i + 1)
theorem a3C {α:Type} {l:List α} {i:Nat} {g:α} (h:g ∈ E6 l i):g ∈ l:=by
  rcases List.mem_append.mp h with h | h
  . exact List.mem_of_mem_take h
  . exact List.mem_of_mem_drop h
theorem a1p {α:Type} {l:List α} {i:Nat}:(E6 l i).length <= l.length:=by unfold E6; simp; omega
theorem Paired.take {α β:Type} {F:α->β->Prop}:∀ {l₁:List α} {l₂:List β} (i:Nat),PySem.Paired F l₁ l₂->PySem.Paired F (l₁.take i) (l₂.take i)
  | _,_,0,_=>.nil
  | _,_,_ + 1,.nil=>.nil
  | _,_,i + 1,.cons r t=>.cons r (Paired.take i t)
theorem Paired.drop {α β:Type} {F:α->β->Prop}:∀ {l₁:List α} {l₂:List β} (i:Nat),PySem.Paired F l₁ l₂->PySem.Paired F (l₁.drop i) (l₂.drop i)
  | _,_,0,h=>h
  | _,_,_ + 1,.nil=>.nil
  | _,_,i + 1,.cons _ t=>Paired.drop i t
theorem Paired.app {α β:Type} {F:α->β->Prop}:∀ {l₁ m₁:List α} {l₂ m₂:List β},PySem.Paired F l₁ l₂->PySem.Paired F m₁ m₂->PySem.Paired F (l₁ ++ m₁) (l₂ ++ m₂)
  | _,_,_,_,.nil,h=>h
  | _,_,_,_,.cons r t,h=>.cons r (Paired.app t h)
theorem Bk.out {K:W.Frag} {H:Hp} {xs:List V} {hs:List i5} (i:Nat) (B:Bk K H xs hs):Bk K H (E6 xs i) (E6 hs i):=Paired.app (Paired.take i B) (Paired.drop (i + 1) B)
section
variable {P:Program} {w:World} {K:W.Frag} {mg:Str->Option Value} {base:Heap} {f Pt d CN CB:Addr} {fd:FuncData} {n:Nat} {C:Addr}
def a7M (K:W.Frag) (CN Pt:Addr):Sp:=fun vs H Q E=>∃ (ba:Addr) (xs:List V) (hs:List i5) (number:Int) (z:Str) (far:Int) (kt kg:Nat),vs = [.ref ba,.int number,.str z]/\Y9 z/\a0a K H ba xs hs far kt kg/\1 <= kt/\number.natAbs.log2 < 1920/\LT Pt H ∧
  (∀ (i:Nat) (h:i5) (A B:Int) (H':Hp) (u:V),number = (i:Int)->hs[i]? = some h->ShU z hs h kt kg A B->Same1 Pt H H'->LT Pt H'->FrT H' u (low A B)->Q u H')/\(¬ a1B xs.length number->E (.ref CN) none H)
theorem a6t (F:FnOk P w K mg base (T3 P w) n f fd ["book","number","sizes"] (a0E K CN Pt)):FnOk P w K mg base (T3 P w) n f fd ["book","number","sizes"] (a7M K CN Pt):=F.imp fun vs H Q E h=>by
  obtain ⟨ba,xs,hs,number,z,far,kt,kg,rfl,hz,B,kt1,lm,L,kG,kE⟩:=h
  exact ⟨ba,xs,hs,number,z,far,kt,kg,rfl,hz,B,lm,L,fun i h S H' u hi hh Bs e L' hu=>kG i h _ _ H' u hi hh (Bs.u hz B.g (B.g h (List.mem_of_getElem? hh)) kt1 B.t B.k) e L' hu,kE⟩
def a2j (K:W.Frag) (CN:Addr):Sp:=fun vs H Q E=>∃ (a:Addr) (xs:List V) (m:Int),vs = [.ref a,.int m]/\SqL K H a xs/\xs.length <= 1000/\m.natAbs.log2 < 1920 ∧
  (∀ (i:Nat) (l:Addr) (H':Hp),m = (i:Int)->i < xs.length->Same H H'->H l = none->H' l = some (.lst (E6 xs i))->Q (.ref l) H')/\(¬ a1B xs.length m->E (.ref CN) none H)
theorem b3K:j3 ["houses","number"] ["houses","number"] (h8 a1q):=⟨rfl,rfl,rfl,by decide +kernel,rfl,by decide +kernel,by decide +kernel⟩
theorem a3W {f1:Addr} {d1:FuncData} (F:Fun K "without" "without" a1q f fd) (Ch:a1E P w K mg base n "house_of" ["book","number"] (a5j K CN) f1 d1):FnOk P w K mg base (T3 P w) (n + 1) f fd ["houses","number"] (a2j K CN):=by
  refine F.ok1 b3K (fun vs H Q E h=>?_) (fun cdv A outer s H vs Q E hr h=>?_)
  . obtain ⟨a,xs,m,rfl,_⟩:=h
    rfl
  obtain ⟨a,xs,m,rfl,hS,hl,hm,q,hE⟩:=h
  refine ⟨_,i4 (A3 (j7 Ch.ok hr rfl Ch.m Ch.k Ch.b .nil X9 (a0 (pv 0) (a0 (pv 1) d8))))
    (PSs.nox (i7 (m7 (i9 x4 (A8 D8 (pv 0) P5 (y6 (pv 1))) (A8 D8 (pv 0) (y6 (i9 A5 (pv 1) d9)) P5))))),?_⟩
  refine ⟨_,rfl,_,rfl,a,xs,m,rfl,hS,hm,fun i x hi hx=>?_,hE⟩
  subst hi
  have hil:=(List.getElem?_eq_some_iff.mp hx).1
  refine ⟨_,rfl,_,rfl,_,rfl,a,_,rfl,hS,fun a1 h1=>?_⟩
  rw [a2n _ _ (by omega)]
  have s1:=Same.new h1 (.lst (xs.take i))
  refine ⟨_,rfl,_,rfl,_,_,rfl,rfl,_,rfl,a,_,rfl,s1.seq hS,fun a2 h2=>?_⟩
  rw [show ((i:Int) + 1) = ((i + 1:Nat):Int) by omega,a0T _ _ (by omega)]
  have s2:=Same.new h2 (.lst (xs.drop (i + 1)))
  refine ⟨a1,a2,_,_,rfl,rfl,s2 _ _ upd_same,upd_same,?_,fun p hp=>?_⟩
  . have:=j6 (show (1000:Nat) <= 1000 from Nat.le_refl _)
    simp; omega
  have s3:=Same.new hp (.lst (xs.take i ++ xs.drop (i + 1)))
  refine q i p _ rfl hil ((s1.trans s2).trans s3) ?_ upd_same
  cases e:H p with
  | none=>rfl
  | some o=>rw [s2 _ _ (s1 _ _ e)] at hp; cases hp
end
end Rim
namespace L2
open PySem PySem.Spec PyProof.Rows
theorem a9o {prog:Program} {w:World} {A:Around} {E:Value->Shared->Prop} {s:Shared} {c:Value} {Q:Bool->Shared->Prop} (h:∀ b,Q b s):wpAny (model prog w) A (Builtin.SmallTypes.calledThroughType c) Q E s:=by
  unfold Builtin.SmallTypes.calledThroughType
  exact wpAny_bind (wpAny_stack_any fun st=>wpAny_pure (h _))
section
variable {prog:Program} {w:World} {A:Around} {E:Value->Shared->Prop} {s:Shared}
end
section
variable {b:Bool} {xs:List V} {K:W.Frag} {l:Addr} {fr:List Nat} {te:TE} {σ:St} {H1:Hp} {p:Addr} {D:Hp->Prop}
end
end L2
set_option maxHeartbeats 1000000
namespace L2
open PySem PySem.Spec PyProof.Rows
abbrev O7 (h:Heap) (z ti to:Addr) (f0:Value) (f1:Bool):Prop :=
  h.get? z = some { cls:=.type "zip",dict:=none,data:=.fields #[f0,.bool f1,.bool false,.ref ti,.ref to],slots:=#[] }
def Zf (v:Value):Prop:=v = .none \/ ∃ a:Nat,v = rawInt a
section
variable {prog:Program} {w:World} {A:Around} {E:Value->Shared->Prop} {s:Shared}
theorem a3N {a:Addr} {Q:Option Obj->Shared->Prop} (h:Q (s.heap.get? a) s):wpAny (model prog w) A (loadIfAlive a) Q E s:=fun Γ p _=>by
  show Sem.wp (model prog w) Γ (.loadIfAlive a .pure) _ _ p s
  rw [Sem.wp_loadIfAlive]
  exact h
theorem a5s {z ti to:Addr} {f0:Value} {f1:Bool} {Q:Bool->Shared->Prop} (q0:O7 s.heap z ti to f0 f1) (z0:Zf f0) (h1:Q true s) (h2:∀ h',O7 h' z ti to f0 true->Heap.SameBut z s.heap h'->Q false { s with heap:=h' }) :
    wpAny (model prog w) A (Builtin.SmallTypes.ownedTupleIsFree (.ref z)) Q E s:=by
  unfold Builtin.SmallTypes.ownedTupleIsFree
  refine wpAny_bind (wpAny_field q0 rfl (x:=f0) rfl ?_)
  rcases z0 with rfl | ⟨a,rfl⟩
  . exact wpAny_pure h1
  . show wpAny _ _ (loadIfAlive (a:Int).toNat >>= _) _ _ s
    refine wpAny_bind (a3N ?_)
    cases hg:s.heap.get? (a:Int).toNat with
    | none=>exact wpAny_pure h1
    | some o =>
      show wpAny _ _ (field (.ref z) 1 >>= _) _ _ s
      refine wpAny_bind (wpAny_field q0 rfl (x:=.bool f1) rfl ?_)
      cases f1 with
      | true=>exact wpAny_pure (h2 s.heap q0 ⟨rfl,fun _ _=>rfl⟩)
      | false =>
        show wpAny _ _ (setField (.ref z) 1 (.bool true) >>= _) _ _ s
        exact wpAny_bind (wpAny_setField_rec q0 (by simp) fun u1 z1 s1=>wpAny_pure (h2 u1 z1 s1))
theorem a8A {b1 b2:Bool} {z ti to j1 j2 t1 t2:Addr} {k1 k2:Nat} {f0:Value} {f1:Bool} {xs ys:Array Value} {x y a b:Value} {Q:Value->Shared->Prop} (D:ZipApart z ti to j1 j2 t1 t2)
    (q0:O7 s.heap z ti to f0 f1) (z0:Zf f0) (p1:IsPair s.heap ti (.ref j1) (.ref j2)) (p2:IsPair s.heap to a b)
    (i1:ItB b1 s.heap j1 t1 k1) (i2:ItB b2 s.heap j2 t2 k2) (l1:IsB b1 s.heap t1 xs) (l2:IsB b2 s.heap t2 ys) (ex:xs[k1]? = some x) (ey:ys[k2]? = some y)
    (q:∀ h' f0' f1' a' b',O7 h' z ti to f0' f1'->Zf f0'->IsPair h' to a' b'->ItB b1 h' j1 t1 (k1 + 1)->ItB b2 h' j2 t2 (k2 + 1)->IsPair h' s.heap.objs.size x y->h'.objs.size = s.heap.objs.size + 1 →
      (∀ c o,c ≠ z->c ≠ to->c ≠ j1->c ≠ j2->s.heap.get? c = some o->h'.get? c = some o)->Q (.ref s.heap.objs.size) { s with heap:=h' }) :
    wpAny (model prog w) A (Builtin.«zip.__next__» ⟨[.ref z],[]⟩) (fun fin s'=>∃ v,fin = .done (.ret v)/\Q v s') E s:=by
  show wpAny _ _ (field (.ref z) 2 >>= _) _ _ _
  refine wpAny_bind (wpAny_field q0 rfl (x:=.bool false) rfl (show wpAny _ _ (field (.ref z) 3 >>= _) _ _ _ from wpAny_bind (wpAny_field q0 rfl (x:=.ref ti) rfl (wpAny_bind (wpAny_seqItems p1 rfl ?_)))))
  show wpAny _ _ (do let free <- Builtin.SmallTypes.ownedTupleIsFree (.ref z); _) _ _ _
  refine wpAny_bind (a5s q0 z0 ?_ fun v1 z1 s1=>?_)
  . simp only [if_true]
    refine wpAny_bind (wpAny_rule (wpAny_bind (wpAny_field q0 rfl (x:=.ref to) rfl (wpAny_bind (wpAny_setField_rec q0 (by simp) fun u1 z1 s1=>?_)))))
    have z1':O7 u1 z ti to .ellipsis f1:=z1
    refine wpAny_bind ?_
    simp only [List.zipIdx_cons,List.zipIdx_nil,List.forIn_cons,List.forIn_nil]
    refine wpAny_bind (wpAny_bind (wpAny_onRaise (show wpAny _ _ (Builtin.SmallTypes.nextOf (.ref j1) >>= _) _ _ _ from wpAny_bind (D9 (i1.extBut s1.extBut D.i1z) (l1.extBut s1.extBut D.l1z) ex fun u2 j1' s2=>wpAny_pure ?_))))
    have to2:IsPair u2 to a b:=s2.extBut _ _ D.TOi1 (s1.extBut _ _ D.TOz p2)
    refine wpAny_bind (wpAny_seqItems to2 rfl (wpAny_bind (wpAny_updateSeq_pair to2 fun u3 to3 s3=>wpAny_bind (wpAny_letGo (wpAny_pure ?_)))))
    have to3':IsPair u3 to x b:=to3
    refine wpAny_bind (wpAny_bind (wpAny_onRaise (show wpAny _ _ (Builtin.SmallTypes.nextOf (.ref j2) >>= _) _ _ _ from wpAny_bind (D9 (((i2.extBut s1.extBut D.i2z).extBut s2.extBut D.i12.symm).extBut s3.extBut D.TOi2.symm)
      (((l2.extBut s1.extBut D.l2z).extBut s2.extBut D.l2i1).extBut s3.extBut D.l2TO) ey fun u4 j2' s4=>wpAny_pure ?_))))
    have to4:IsPair u4 to x b:=s4.extBut _ _ D.TOi2 to3'
    refine wpAny_bind (wpAny_seqItems to4 rfl (wpAny_bind (wpAny_updateSeq_pair to4 fun u5 to5 s5=>wpAny_bind (wpAny_letGo (wpAny_pure (wpAny_pure ?_))))))
    have to5':IsPair u5 to x y:=to5
    refine wpAny_bind (wpAny_seqItems to5' rfl (wpAny_bind (wpAny_newTuple ?_)))
    have sz:u5.objs.size = s.heap.objs.size:=by rw [s5.1,s4.1,s3.1,s2.1,s1.1]
    have z5:O7 u5 z ti to .ellipsis f1:=s5.extBut _ _ D.TOz.symm (s4.extBut _ _ D.i2z.symm (s3.extBut _ _ D.TOz.symm (s2.extBut _ _ D.i1z.symm z1')))
    have kp:∀ c o,c ≠ z->c ≠ to->c ≠ j1->c ≠ j2->s.heap.get? c = some o->u5.get? c = some o:=fun c o n1 n2 n3 n4 e=>s5.extBut _ _ n2 (s4.extBut _ _ n4 (s3.extBut _ _ n2 (s2.extBut _ _ n3 (s1.extBut _ _ n1 e))))
    have a1:ItB b1 u5 j1 t1 (k1 + 1):=((j1'.extBut s3.extBut D.TOi1.symm).extBut s4.extBut D.i12).extBut s5.extBut D.TOi1.symm
    have a2:ItB b2 u5 j2 t2 (k2 + 1):=j2'.extBut s5.extBut D.TOi2.symm
    have zl:z < u5.objs.size:=Heap.lt_size z5
    show wpAny _ _ (do let r <- Builtin.SmallTypes.ownedTupleHandOut (.ref z) (.ref u5.objs.size); _) _ _ _
    unfold Builtin.SmallTypes.ownedTupleHandOut
    have z6:O7 (u5.push { cls:=.type "tuple",data:=.seq #[x,y] }) z ti to .ellipsis f1:=Heap.get?_push_of_some _ z5
    refine wpAny_bind (wpAny_bind (wpAny_setField_rec z6 (by simp) fun u7 z7 s7=>?_))
    have z7':O7 u7 z ti to (rawInt u5.objs.size) f1:=z7
    refine wpAny_setField_rec z7' (by simp) fun u8 z8 s8=>?_
    have z8':O7 u8 z ti to (rawInt u5.objs.size) false:=z8
    have up:∀ c o,c ≠ z->u5.get? c = some o->u8.get? c = some o:=fun c o n1 e=>s8.extBut _ _ n1 (s7.extBut _ _ n1 (Heap.get?_push_of_some _ e))
    have nt8:IsPair u8 u5.objs.size x y:=s8.extBut _ _ (Nat.ne_of_gt zl) (s7.extBut _ _ (Nat.ne_of_gt zl) (Heap.get?_push_size _ rfl))
    have sz8:u8.objs.size = s.heap.objs.size + 1:=by rw [s8.1,s7.1,Heap.size_push,sz]
    rw [sz] at z8' nt8
    refine wpAny_pure ⟨_,rfl,?_⟩
    show Q (.ref u5.objs.size) _
    rw [sz]
    exact q u8 _ _ _ _ z8' (.inr ⟨_,rfl⟩) (up _ _ D.TOz to5') (ItB.at' a1 fun o e=>up _ o D.i1z e) (ItB.at' a2 fun o e=>up _ o D.i2z e) nt8 sz8 fun c o n1 n2 n3 n4 e=>up c o n1 (kp c o n1 n2 n3 n4 e)
  . simp only [Bool.false_eq_true,if_false]
    rw [List.forIn_toArray]
    simp only [List.forIn_cons,List.forIn_nil]
    refine wpAny_bind (wpAny_bind (wpAny_bind (wpAny_holding (show wpAny _ _ (Builtin.SmallTypes.nextOf (.ref j1) >>= _) _ _ _ from wpAny_bind (D9 (i1.extBut s1.extBut D.i1z) (l1.extBut s1.extBut D.l1z) ex fun u2 j1' s2=>wpAny_pure ?_)))))
    refine wpAny_pure ?_
    refine wpAny_bind (wpAny_bind (wpAny_holding (show wpAny _ _ (Builtin.SmallTypes.nextOf (.ref j2) >>= _) _ _ _ from wpAny_bind (D9 ((i2.extBut s1.extBut D.i2z).extBut s2.extBut D.i12.symm) ((l2.extBut s1.extBut D.l2z).extBut s2.extBut D.l2i1) ey fun u3 j2' s3=>wpAny_pure ?_))))
    refine wpAny_pure (wpAny_pure (wpAny_bind (wpAny_newTuple ?_ (by show 2 <= sizeLine; decide))))
    have sz:u3.objs.size = s.heap.objs.size:=by rw [s3.1,s2.1,s1.1]
    have z3:O7 u3 z ti to f0 true:=s3.extBut _ _ D.i2z.symm (s2.extBut _ _ D.i1z.symm z1)
    have kp:∀ c o,c ≠ z->c ≠ j1->c ≠ j2->s.heap.get? c = some o->u3.get? c = some o:=fun c o n1 n3 n4 e=>s3.extBut _ _ n4 (s2.extBut _ _ n3 (s1.extBut _ _ n1 e))
    have a1:ItB b1 u3 j1 t1 (k1 + 1):=j1'.extBut s3.extBut D.i12
    have up:∀ c o,u3.get? c = some o->(u3.push { cls:=.type "tuple",data:=.seq #[x,y] }).get? c = some o:=fun c o e=>Heap.get?_push_of_some _ e
    have nt:IsPair (u3.push { cls:=.type "tuple",data:=.seq #[x,y] }) s.heap.objs.size x y:=by rw [<- sz]; exact Heap.get?_push_size _ rfl
    have sz8:(u3.push { cls:=.type "tuple",data:=.seq #[x,y] }).objs.size = s.heap.objs.size + 1:=by rw [Heap.size_push,sz]
    refine wpAny_pure ⟨_,rfl,?_⟩
    show Q (.ref u3.objs.size) _
    rw [sz]
    exact q _ f0 true a b (up _ _ z3) z0 (up _ _ (kp _ _ D.TOz D.TOi1 D.TOi2 p2)) (ItB.at' a1 fun o e=>up _ o e) (ItB.at' j2' fun o e=>up _ o e) nt sz8 fun c o n1 _ n3 n4 e=>up _ _ (kp c o n1 n3 n4 e)
theorem b0m {b1 b2:Bool} {z ti to j1 j2 t1 t2:Addr} {k1 k2:Nat} {f0:Value} {f1:Bool} {xs ys:Array Value} {a b:Value} {Q:PySem.Fin->Shared->Prop} (hh:A.handled = none) (D:ZipApart z ti to j1 j2 t1 t2)
    (q0:O7 s.heap z ti to f0 f1) (z0:Zf f0) (p1:IsPair s.heap ti (.ref j1) (.ref j2)) (p2:IsPair s.heap to a b)
    (i1:ItB b1 s.heap j1 t1 k1) (i2:ItB b2 s.heap j2 t2 k2) (l1:IsB b1 s.heap t1 xs) (l2:IsB b2 s.heap t2 ys) (en:xs[k1]? = none \/ ys[k2]? = none)
    (q:∀ h' e,(∀ c o,c ≠ z->c ≠ to->c ≠ j1->c ≠ j2->s.heap.get? c = some o->h'.get? c = some o)->(∃ o,h'.get? e = some o/\o.cls = .type "StopIteration")->E (.ref e) { s with heap:=h' }) :
    wpAny (model prog w) A (Builtin.«zip.__next__» ⟨[.ref z],[]⟩) Q E s:=by
  show wpAny _ _ (field (.ref z) 2 >>= _) _ _ _
  refine wpAny_bind (wpAny_field q0 rfl (x:=.bool false) rfl (show wpAny _ _ (field (.ref z) 3 >>= _) _ _ _ from wpAny_bind (wpAny_field q0 rfl (x:=.ref ti) rfl (wpAny_bind (wpAny_seqItems p1 rfl ?_)))))
  show wpAny _ _ (do let free <- Builtin.SmallTypes.ownedTupleIsFree (.ref z); _) _ _ _
  refine wpAny_bind (a5s q0 z0 ?_ fun v1 z1 s1=>?_)
  . simp only [if_true]
    refine wpAny_bind (wpAny_rule (wpAny_bind (wpAny_field q0 rfl (x:=.ref to) rfl (wpAny_bind (wpAny_setField_rec q0 (by simp) fun u1 z1 s1=>?_)))))
    have z1':O7 u1 z ti to .ellipsis f1:=z1
    refine wpAny_bind ?_
    simp only [List.zipIdx_cons,List.zipIdx_nil,List.forIn_cons,List.forIn_nil]
    cases ex:xs[k1]? with
    | none =>
      refine wpAny_bind (wpAny_bind (wpAny_onRaise (show wpAny _ _ (Builtin.SmallTypes.nextOf (.ref j1) >>= _) _ _ _ from wpAny_bind (S4 hh (i1.extBut s1.extBut D.i1z) (l1.extBut s1.extBut D.l1z) ex fun u2 e s2 ⟨oe,e1,e2⟩=>?_))))
      have z2:O7 u2 z ti to .ellipsis f1:=s2 _ _ D.i1z.symm z1'
      have ne:e ≠ z:=fun c=>by subst c; rw [z2] at e1; cases e1; simp at e2
      exact wpAny_setField_rec z2 (by simp) fun u3 _ s3=>q u3 e (fun c o n1 _ n3 _ m=>s3.extBut _ _ n1 (s2 _ _ n3 (s1.extBut _ _ n1 m))) ⟨oe,s3.extBut _ _ ne e1,e2⟩
    | some x =>
      have ey:ys[k2]? = none:=by
        rcases en with m | m
        . rw [ex] at m; cases m
        . exact m
      refine wpAny_bind (wpAny_bind (wpAny_onRaise (show wpAny _ _ (Builtin.SmallTypes.nextOf (.ref j1) >>= _) _ _ _ from wpAny_bind (D9 (i1.extBut s1.extBut D.i1z) (l1.extBut s1.extBut D.l1z) ex fun u2 j1' s2=>wpAny_pure ?_))))
      have to2:IsPair u2 to a b:=s2.extBut _ _ D.TOi1 (s1.extBut _ _ D.TOz p2)
      refine wpAny_bind (wpAny_seqItems to2 rfl (wpAny_bind (wpAny_updateSeq_pair to2 fun u3 to3 s3=>wpAny_bind (wpAny_letGo (wpAny_pure ?_)))))
      refine wpAny_bind (wpAny_bind (wpAny_onRaise (show wpAny _ _ (Builtin.SmallTypes.nextOf (.ref j2) >>= _) _ _ _ from wpAny_bind (S4 hh (((i2.extBut s1.extBut D.i2z).extBut s2.extBut D.i12.symm).extBut s3.extBut D.TOi2.symm)
        (((l2.extBut s1.extBut D.l2z).extBut s2.extBut D.l2i1).extBut s3.extBut D.l2TO) ey fun u4 e s4 ⟨oe,e1,e2⟩=>?_))))
      have z4:O7 u4 z ti to .ellipsis f1:=s4 _ _ D.i2z.symm (s3.extBut _ _ D.TOz.symm (s2.extBut _ _ D.i1z.symm z1'))
      have ne:e ≠ z:=fun c=>by subst c; rw [z4] at e1; cases e1; simp at e2
      exact wpAny_setField_rec z4 (by simp) fun u5 _ s5=>q u5 e (fun c o n1 n2 n3 n4 m=>s5.extBut _ _ n1 (s4 _ _ n4 (s3.extBut _ _ n2 (s2.extBut _ _ n3 (s1.extBut _ _ n1 m))))) ⟨oe,s5.extBut _ _ ne e1,e2⟩
  . simp only [Bool.false_eq_true,if_false]
    rw [List.forIn_toArray]
    simp only [List.forIn_cons,List.forIn_nil]
    cases ex:xs[k1]? with
    | none =>
      exact wpAny_bind (wpAny_bind (wpAny_bind (wpAny_holding (show wpAny _ _ (Builtin.SmallTypes.nextOf (.ref j1) >>= _) _ _ _ from wpAny_bind (S4 hh (i1.extBut s1.extBut D.i1z) (l1.extBut s1.extBut D.l1z) ex fun u2 e s2 r=>q u2 e (fun c o n1 _ n3 _ m=>s2 _ _ n3 (s1.extBut _ _ n1 m)) r)))))
    | some x =>
      have ey:ys[k2]? = none:=by
        rcases en with m | m
        . rw [ex] at m; cases m
        . exact m
      refine wpAny_bind (wpAny_bind (wpAny_bind (wpAny_holding (show wpAny _ _ (Builtin.SmallTypes.nextOf (.ref j1) >>= _) _ _ _ from wpAny_bind (D9 (i1.extBut s1.extBut D.i1z) (l1.extBut s1.extBut D.l1z) ex fun u2 j1' s2=>wpAny_pure ?_)))))
      refine wpAny_pure ?_
      exact wpAny_bind (wpAny_bind (wpAny_holding (show wpAny _ _ (Builtin.SmallTypes.nextOf (.ref j2) >>= _) _ _ _ from wpAny_bind (S4 hh ((i2.extBut s1.extBut D.i2z).extBut s2.extBut D.i12.symm) ((l2.extBut s1.extBut D.l2z).extBut s2.extBut D.l2i1) ey fun u3 e s3 r=>q u3 e (fun c o n1 _ n3 n4 m=>s3 _ _ n4 (s2.extBut _ _ n3 (s1.extBut _ _ n1 m))) r))))
theorem a9b {b1 b2:Bool} {z ti to j1 j2 t1 t2:Addr} {k1 k2:Nat} {f0:Value} {f1:Bool} {xs ys:Array Value} {x y a b:Value} {Q:Value->Shared->Prop} (D:ZipApart z ti to j1 j2 t1 t2)
    (q0:O7 s.heap z ti to f0 f1) (z0:Zf f0) (p1:IsPair s.heap ti (.ref j1) (.ref j2)) (p2:IsPair s.heap to a b)
    (i1:ItB b1 s.heap j1 t1 k1) (i2:ItB b2 s.heap j2 t2 k2) (l1:IsB b1 s.heap t1 xs) (l2:IsB b2 s.heap t2 ys) (ex:xs[k1]? = some x) (ey:ys[k2]? = some y)
    (q:∀ h' f0' f1' a' b',O7 h' z ti to f0' f1'->Zf f0'->IsPair h' to a' b'->ItB b1 h' j1 t1 (k1 + 1)->ItB b2 h' j2 t2 (k2 + 1)->IsPair h' s.heap.objs.size x y->h'.objs.size = s.heap.objs.size + 1 →
      (∀ c o,c ≠ z->c ≠ to->c ≠ j1->c ≠ j2->s.heap.get? c = some o->h'.get? c = some o)->Q (.ref s.heap.objs.size) { s with heap:=h' }) :
    wpAny (model prog w) A (Builtin.SmallTypes.nextOf (.ref z)) Q E s:=by
  have ty:s.TypeIs (.ref z) "zip":=⟨_,q0,rfl⟩
  unfold Builtin.SmallTypes.nextOf
  exact wpAny_bind (wpAny_callSpecial?_slot (name:=Str.ofString "__next__") ty F.slot_zip_next (wpAny_call_entry F.slot_zip_next ty F.entry_zip_next
    (a8A D q0 z0 p1 p2 i1 i2 l1 l2 ex ey fun h' f0' f1' a' b' c1 c2 c3 c4 c5 c6 c7 c8=>wpAny_pure (q h' f0' f1' a' b' c1 c2 c3 c4 c5 c6 c7 c8)) (F.args_zip_next_1 _)))
theorem a9c {b1 b2:Bool} {z ti to j1 j2 t1 t2:Addr} {k1 k2:Nat} {f0:Value} {f1:Bool} {xs ys:Array Value} {a b:Value} {Q:Value->Shared->Prop} (hh:A.handled = none) (D:ZipApart z ti to j1 j2 t1 t2)
    (q0:O7 s.heap z ti to f0 f1) (z0:Zf f0) (p1:IsPair s.heap ti (.ref j1) (.ref j2)) (p2:IsPair s.heap to a b)
    (i1:ItB b1 s.heap j1 t1 k1) (i2:ItB b2 s.heap j2 t2 k2) (l1:IsB b1 s.heap t1 xs) (l2:IsB b2 s.heap t2 ys) (en:xs[k1]? = none \/ ys[k2]? = none)
    (q:∀ h' e,(∀ c o,c ≠ z->c ≠ to->c ≠ j1->c ≠ j2->s.heap.get? c = some o->h'.get? c = some o)->(∃ o,h'.get? e = some o/\o.cls = .type "StopIteration")->E (.ref e) { s with heap:=h' }) :
    wpAny (model prog w) A (Builtin.SmallTypes.nextOf (.ref z)) Q E s:=by
  have ty:s.TypeIs (.ref z) "zip":=⟨_,q0,rfl⟩
  unfold Builtin.SmallTypes.nextOf
  exact wpAny_bind (wpAny_callSpecial?_slot (name:=Str.ofString "__next__") ty F.slot_zip_next (wpAny_call_entry F.slot_zip_next ty F.entry_zip_next
    (b0m hh D q0 z0 p1 p2 i1 i2 l1 l2 en q) (F.args_zip_next_1 _)))
theorem a8v {e it:Addr} {i:Nat} {old:Value} {G:Value->Heap->Prop} {Q:Option Value->Shared->Prop} (he:IsEnum s.heap e it i old)
    (hn:∀ (Q':Value->Shared->Prop) (E':Value->Shared->Prop),(∀ x h',IsEnum h' e it i old->G x h'->Q' x { s with heap:=h' })->wpAny (model prog w) A.in1 (Builtin.SmallTypes.nextOf (.ref it)) Q' E' s)
    (hQ:∀ x h1 h' tk,G x h1->IsEnumOut h' e it ((i:Int) + 1) x h1.objs.size->h'.get? h1.objs.size = some { cls:=.type "tuple",data:=.seq #[.int i tk,x] }->(∀ b o,b ≠ e->h1.get? b = some o->h'.get? b = some o)->Q (some (.ref h1.objs.size)) { s with heap:=h',toks:=tk + 1 }) :
    wpAny (model prog w) A (pyNext (.ref e)) Q E s:=by
  have hT:s.TypeIs (.ref e) "enumerate":=⟨_,he,rfl⟩
  unfold pyNext
  refine wpAny_bind (wpAny_attempt (wpAny_callSpecial?_slot (name:=Str.ofString "__next__") hT F.slot_enumerate_next (wpAny_call_entry F.slot_enumerate_next hT F.entry_enumerate_next ?_ (F.args_enumerate_next_1 _))))
  show wpAny _ _ (field (.ref e) 2 >>= _) _ _ _
  refine wpAny_bind (wpAny_field he rfl (x:=.ref it) rfl ?_)
  refine wpAny_bind (hn _ _ fun x h1 he1 g=>?_)
  obtain ⟨hp,gg,d,tk,os⟩:=s
  show wpAny _ _ (field (.ref e) 3 >>= _) _ _ ⟨h1,gg,d,tk,os⟩
  refine wpAny_bind (wpAny_field he1 rfl (x:=rawInt i) rfl ?_)
  show wpAny _ _ (field (.ref e) 4 >>= _) _ _ ⟨h1,gg,d,tk,os⟩
  refine wpAny_bind (wpAny_field he1 rfl (x:=.none) rfl ?_)
  show wpAny _ _ (mkInt i >>= _) _ _ ⟨h1,gg,d,tk,os⟩
  refine wpAny_bind (wpAny_mkInt ?_)
  show wpAny _ _ (setField (.ref e) 3 (rawInt ((i:Int) + 1)) >>= _) _ _ ⟨h1,gg,d,tk + 1,os⟩
  refine wpAny_bind (wpAny_setField_rec he1 (by simp) fun h2 he2 s2=>?_)
  have he2':IsEnum h2 e it ((i:Int) + 1) old:=he2
  show wpAny _ _ (setField (.ref e) 4 .none >>= _) _ _ ⟨h2,gg,d,tk + 1,os⟩
  refine wpAny_bind (wpAny_setField_rec he2' (by simp) fun h3 he3 s3=>?_)
  have he3':IsEnum h3 e it ((i:Int) + 1) old:=he3
  show wpAny _ _ (newTuple [.int i tk,x] >>= _) _ _ ⟨h3,gg,d,tk + 1,os⟩
  refine wpAny_bind (wpAny_newTuple ?_)
  have he4:IsEnum (h3.push { cls:=.type "tuple",data:=.seq #[.int i tk,x] }) e it ((i:Int) + 1) old:=Heap.get?_push_of_some _ he3'
  have sz:h3.objs.size = h1.objs.size:=by rw [s3.1,s2.1]
  have el:e < h1.objs.size:=Heap.lt_size he1
  have tt:(h3.push { cls:=.type "tuple",data:=.seq #[.int i tk,x] }).get? h1.objs.size = some { cls:=.type "tuple",data:=.seq #[.int i tk,x] }:=by rw [<- sz]; exact Heap.get?_push_size _ rfl
  have kp:∀ b o,b ≠ e->h1.get? b = some o->(h3.push { cls:=.type "tuple",data:=.seq #[.int i tk,x] }).get? b = some o:=fun b o nb q=>Heap.get?_push_of_some _ (s3.extBut b o nb (s2.extBut b o nb q))
  show wpAny _ _ (Builtin.SmallTypes.ownedTupleIsFree (.ref e) >>= _) _ _ ⟨h3.push { cls:=.type "tuple",data:=.seq #[.int i tk,x] },gg,d,tk + 1,os⟩
  rw [sz]
  generalize h3.push { cls:=.type "tuple",data:=.seq #[.int i tk,x] } = h4 at *
  refine wpAny_bind ?_
  unfold Builtin.SmallTypes.ownedTupleIsFree
  refine wpAny_bind (wpAny_field he4 rfl (x:=.none) rfl (wpAny_pure ?_))
  simp only [if_true]
  refine wpAny_bind (wpAny_rule (wpAny_bind (wpAny_field he4 rfl (x:=old) rfl (wpAny_bind (wpAny_setField_rec he4 (by simp) fun h5 he5 s5=>?_)))))
  have he5':IsEnum h5 e it ((i:Int) + 1) x:=he5
  show wpAny _ _ (Builtin.SmallTypes.ownedTupleHandOut (.ref e) (.ref h1.objs.size) >>= _) _ _ ⟨h5,gg,d,tk + 1,os⟩
  refine wpAny_bind ?_
  unfold Builtin.SmallTypes.ownedTupleHandOut
  refine wpAny_bind (wpAny_setField_rec he5' (by simp) fun h6 he6 s6=>?_)
  have he6':IsEnumOut h6 e it ((i:Int) + 1) x h1.objs.size:=he6
  refine wpAny_setField_rec he6' (by simp) fun h7 he7 s7=>?_
  have he7':IsEnumOut h7 e it ((i:Int) + 1) x h1.objs.size:=he7
  have up:∀ b o,b ≠ e->h4.get? b = some o->h7.get? b = some o:=fun b o nb q=>s7.extBut b o nb (s6.extBut b o nb (s5.extBut b o nb q))
  exact wpAny_bind (wpAny_letGo (wpAny_pure ⟨_,rfl,wpAny_pure (hQ x h1 h7 tk g he7' (up _ _ (Nat.ne_of_gt el) tt) fun b o nb q=>up b o nb (kp b o nb q))⟩))
theorem b0Y {e it:Addr} {i:Int} {old:Value} {Q:Option Value->Shared->Prop} (he:IsEnum s.heap e it i old)
    (hn:∀ (Q':Value->Shared->Prop) (E':Value->Shared->Prop),(∀ h' x,(∃ o,h'.get? x = some o/\o.cls = .type "StopIteration")->Q none { s with heap:=h' }->E' (.ref x) { s with heap:=h' })->wpAny (model prog w) A.in1 (Builtin.SmallTypes.nextOf (.ref it)) Q' E' s) :
    wpAny (model prog w) A (pyNext (.ref e)) Q E s:=by
  have hT:s.TypeIs (.ref e) "enumerate":=⟨_,he,rfl⟩
  unfold pyNext
  refine wpAny_bind (wpAny_attempt (wpAny_callSpecial?_slot (name:=Str.ofString "__next__") hT F.slot_enumerate_next (wpAny_call_entry F.slot_enumerate_next hT F.entry_enumerate_next ?_ (F.args_enumerate_next_1 _))))
  show wpAny _ _ (field (.ref e) 2 >>= _) _ _ _
  refine wpAny_bind (wpAny_field he rfl (x:=.ref it) rfl ?_)
  refine wpAny_bind (hn _ _ fun h' x ⟨o,ho,hc⟩ q=>?_)
  exact wpAny_bind (wpAny_isInstance (T:="StopIteration") (b:=true) ⟨o,ho,hc⟩ isSubtype_stop (wpAny_pure q))
end
def Itz (b1 b2:Bool) (K:W.Frag) (l1 l2:Addr):It :=
  ⟨(Itg b1 b2 K l1 l2).go,
   fun i H x H'=>∃ p r a b,H r = none/\(m5 H r (.tup [a,b])) p = none/\x = .ref p/\H' = m5 (m5 H r (.tup [a,b])) p (.tup [.int (i:Int),.ref r])/\∀ xs ys,SqB b1 K H l1 xs->SqB b2 K H l2 ys->xs[i]? = some a/\ys[i]? = some b,
   (Itg b1 b2 K l1 l2).stop⟩
theorem a9k {b1 b2:Bool} {P:Program} {w:World} {K:W.Frag} {elts:List Expr} {x1:Nat} {pos:Pos} {e z ti to j1 j2 l1 l2:Addr} (D:ZipApart z ti to j1 j2 l1 l2) (hne:∀ c ∈ [z,ti,to,j1,j2,l1,l2],c ≠ e) :
    a4B P w K (.Tuple elts x1 pos) (Itz b1 b2 K l1 l2) [e,z,ti,to,j1,j2] e (fun i h=>(∃ old,IsEnum h e z (i:Int) old)/\(∃ f0 f1,O7 h z ti to f0 f1/\Zf f0)/\IsPair h ti (.ref j1) (.ref j2)/\(∃ a b,IsPair h to a b)/\ItB b1 h j1 l1 i/\ItB b2 h j2 l2 i) where
  mem:=by simp
  obj:=fun i h st c hb=>by
    obtain ⟨⟨old,he⟩,⟨f0,f1,hz,z0⟩,hti,⟨a,b,hto⟩,h1,h2⟩:=st
    obtain ⟨o1,e1,v1,d1⟩:=h1.obj
    obtain ⟨o2,e2,v2,d2⟩:=h2.obj
    simp only [List.mem_cons,List.not_mem_nil,or_false] at hb
    rcases hb with rfl | rfl | rfl | rfl | rfl | rfl
    . exact ⟨_,he,fun v q=>by cases q⟩
    . exact ⟨_,hz,fun v q=>by cases q⟩
    . exact ⟨_,hti,fun v q=>by cases q⟩
    . exact ⟨_,hto,fun v q=>by cases q⟩
    . exact ⟨o1,e1,fun v q=>by rw [d1] at q; cases q⟩
    . exact ⟨o2,e2,fun v q=>by rw [d2] at q; cases q⟩
  keep:=fun i h h' st k=>by
    obtain ⟨⟨old,he⟩,⟨f0,f1,hz,z0⟩,hti,⟨a,b,hto⟩,h1,h2⟩:=st
    exact ⟨⟨old,k e (by simp) _ he⟩,⟨f0,f1,k z (by simp) _ hz,z0⟩,k ti (by simp) _ hti,⟨a,b,k to (by simp) _ hto⟩,ItB.at' h1 fun o q=>k j1 (by simp) o q,ItB.at' h2 fun o q=>k j2 (by simp) o q⟩
  item:=by
    intro X hP hw hK hc i pins s σ H E I hf st hg
    subst hP hw hK
    obtain ⟨xs,ys,x,y,hq1,hq2,hx,hy⟩:=hg
    obtain ⟨⟨old,he⟩,⟨f0,f1,hz,z0⟩,hti,⟨a,b,hto⟩,h1,h2⟩:=st
    obtain ⟨its1,rv1,p1,_⟩:=I.sqB hq1
    obtain ⟨its2,rv2,p2,_⟩:=I.sqB hq2
    obtain ⟨u1,hu1,ru1⟩:=rv1.get hx
    obtain ⟨u2,hu2,ru2⟩:=rv2.get hy
    have nE:∀ {c:Addr},c ∈ [z,ti,to,j1,j2,l1,l2]->c ≠ e:=fun hb=>hne _ hb
    refine a8v (it:=z) (G:=fun v h'=>v = .ref s.heap.objs.size/\(∃ f0 f1,O7 h' z ti to f0 f1/\Zf f0)/\(∃ a b,IsPair h' to a b)/\ItB b1 h' j1 l1 (i + 1)/\ItB b2 h' j2 l2 (i + 1)/\IsPair h' s.heap.objs.size u1 u2/\h'.objs.size = s.heap.objs.size + 1/\IsEnum h' e z i old ∧
      ∀ c o,c ≠ z->c ≠ to->c ≠ j1->c ≠ j2->s.heap.get? c = some o->h'.get? c = some o) he (fun Q' E' k=>a9b D hz z0 hti hto h1 h2 p1 p2 (x:=u1) (y:=u2) (by simpa using hu1) (by simpa using hu2) fun h' f0' f1' a' b' c1 c2 c3 c4 c5 c6 c7 c8=>?_) ?_
    . have he':IsEnum h' e z i old:=c8 e _ (nE (by simp)).symm (nE (by simp)).symm (nE (by simp)).symm (nE (by simp)).symm he
      exact k _ h' he' ⟨rfl,⟨f0',f1',c1,c2⟩,⟨a',b',c3⟩,c4,c5,c6,c7,he',c8⟩
    . rintro v g1 h' tk ⟨rfl,⟨f0',f1',c1,c2⟩,⟨a',b',c3⟩,c4,c5,c6,c7,he1,c8⟩ hout htup kp
      refine ⟨_,rfl,wpAny_letOwnedTupleGo_enum (s:={ s with heap:=h',toks:=tk + 1 }) hout fun h'' he'' hs''=>?_⟩
      have inS:∀ b ∈ [e,z,ti,to,j1,j2],∃ o,s.heap.get? b = some o:=fun b hb=>by
        obtain ⟨o1,e1,_⟩:=h1.obj
        obtain ⟨o2,e2,_⟩:=h2.obj
        simp only [List.mem_cons,List.not_mem_nil,or_false] at hb
        rcases hb with rfl | rfl | rfl | rfl | rfl | rfl
        . exact ⟨_,he⟩
        . exact ⟨_,hz⟩
        . exact ⟨_,hti⟩
        . exact ⟨_,hto⟩
        . exact ⟨_,e1⟩
        . exact ⟨_,e2⟩
      have neT:∀ b ∈ [e,z,ti,to,j1,j2],b ≠ s.heap.objs.size:=fun b hb q=>by
        obtain ⟨o,ho⟩:=inS b hb
        exact absurd (Heap.lt_size ho) (by rw [q]; exact Nat.lt_irrefl _)
      have gti:g1.get? ti = _:=c8 ti _ D.TIz D.TITO D.TIi1 D.TIi2 hti
      have I1:Inv X pins σ (m5 H s.heap.objs.size (.tup [x,y])) { s with heap:=g1 }:=by
        refine I.turnedLaid (h':=g1) (fp:=[e,z,ti,to,j1,j2]) hf (fun c o hb q=>?_) (fun c hb=>?_) (Nat.le_refl _) (by show 2 <= sizeLine; decide) (show Vals [x,y] [u1,u2] from .cons ru1 (.cons ru2 .nil)) ⟨_,c6,rfl,0,rfl⟩
        . simp only [List.mem_cons,List.not_mem_nil,or_false,not_or] at hb
          exact c8 c o hb.2.1 hb.2.2.2.1 hb.2.2.2.2.1 hb.2.2.2.2.2 q
        . obtain ⟨o1,e1,_⟩:=c4.obj
          obtain ⟨o2,e2,_⟩:=c5.obj
          simp only [List.mem_cons,List.not_mem_nil,or_false] at hb
          rcases hb with rfl | rfl | rfl | rfl | rfl | rfl
          . exact ⟨_,he1⟩
          . exact ⟨_,c1⟩
          . exact ⟨_,gti⟩
          . exact ⟨_,c3⟩
          . exact ⟨_,e1⟩
          . exact ⟨_,e2⟩
      have hf1:∀ b ∈ [e,z,ti,to,j1,j2],P3 X pins (m5 H s.heap.objs.size (.tup [x,y])) b:=fun b hb=>⟨by rw [c9 (neT b hb)]; exact (hf b hb).1,(hf b hb).2⟩
      have el1:e < g1.objs.size:=Heap.lt_size he1
      have up:∀ c o,c ≠ e->g1.get? c = some o->h''.get? c = some o:=fun c o nc q=>hs''.extBut c o nc (kp c o nc q)
      have neT2:∀ b ∈ [e,z,ti,to,j1,j2],b ≠ g1.objs.size:=fun b hb q=>by
        obtain ⟨o,ho⟩:=inS b hb
        exact absurd (Heap.lt_size ho) (by rw [q,c7]; exact Nat.not_lt.mpr (Nat.le_succ _))
      have I2:Inv X pins σ (m5 (m5 H s.heap.objs.size (.tup [x,y])) g1.objs.size (.tup [.int (i:Int),.ref s.heap.objs.size])) { s with heap:=h'',toks:=tk + 1 }:=by
        refine (Inv.tok (I1.turnedLaid (h':=h'') (fp:=[e,z,ti,to,j1,j2]) hf1 (fun c o hb q=>?_) (fun c hb=>?_) (Nat.le_refl _) (by show 2 <= sizeLine; decide) (show Vals [.int (i:Int),.ref s.heap.objs.size] [Value.int (i:Int) tk,.ref s.heap.objs.size] from .cons ⟨_,rfl⟩ (.cons rfl .nil)) ⟨_,hs''.extBut _ _ (Nat.ne_of_gt el1) htup,rfl,0,rfl⟩) _)
        . simp only [List.mem_cons,List.not_mem_nil,or_false,not_or] at hb
          exact up c o hb.1 q
        . obtain ⟨o1,e1,_⟩:=c4.obj
          obtain ⟨o2,e2,_⟩:=c5.obj
          simp only [List.mem_cons,List.not_mem_nil,or_false] at hb
          rcases hb with rfl | rfl | rfl | rfl | rfl | rfl
          . exact ⟨_,he''⟩
          . exact ⟨_,up _ _ (nE (by simp)) c1⟩
          . exact ⟨_,up _ _ (nE (by simp)) gti⟩
          . exact ⟨_,up _ _ (nE (by simp)) c3⟩
          . exact ⟨_,up _ _ (nE (by simp)) e1⟩
          . exact ⟨_,up _ _ (nE (by simp)) e2⟩
      refine ⟨.ref g1.objs.size,_,I2,rfl,⟨g1.objs.size,s.heap.objs.size,x,y,I.fresh,I1.fresh,rfl,rfl,fun xs' ys' q1 q2=>?_⟩,⟨⟨_,he''⟩,⟨f0',f1',up _ _ (nE (by simp)) c1,c2⟩,up _ _ (nE (by simp)) gti,⟨a',b',up _ _ (nE (by simp)) c3⟩,ItB.at' c4 fun o q=>up _ o (nE (by simp)) q,ItB.at' c5 fun o q=>up _ o (nE (by simp)) q⟩,fun c hb=>?_⟩
      . rw [I.sqB_inj q1 hq1,I.sqB_inj q2 hq2]; exact ⟨hx,hy⟩
      . rw [c9 (neT2 c hb),c9 (neT c hb)]; exact (hf c hb).1
  done:=by
    intro X hP hw hK hc i pins s σ H E I hf st hg
    subst hP hw hK
    obtain ⟨xs,ys,hq1,hq2,hend⟩:=hg
    obtain ⟨⟨old,he⟩,⟨f0,f1,hz,z0⟩,hti,⟨a,b,hto⟩,h1,h2⟩:=st
    obtain ⟨its1,rv1,p1,_⟩:=I.sqB hq1
    obtain ⟨its2,rv2,p2,_⟩:=I.sqB hq2
    have hl1:=rv1.length
    have hl2:=rv2.length
    refine b0Y he fun Q' E' k=>a9c (show X.A.in1.handled = none from I.ok.hd hc) D hz z0 hti hto h1 h2 p1 p2 (by
      rcases hend with q | q
      . exact .inl (by simp; omega)
      . exact .inr (by simp; omega)) fun h' x kk r=>k h' x r ⟨rfl,I.turnedAll hf fun c o hb q=>?_⟩
    simp only [List.mem_cons,List.not_mem_nil,or_false,not_or] at hb
    exact kk c o hb.2.1 hb.2.2.2.1 hb.2.2.2.2.1 hb.2.2.2.2.2 q
  self:=fun _ _ _ _ _ st h=>by
    obtain ⟨⟨old,he⟩,_⟩:=st
    exact wpAny_pyIter_enum he h
abbrev ez1 (h:Heap) (z:Addr):Heap:=h.push { cls:=.type "enumerate",data:=.fields #[.none,.bool false,.ref z,rawInt 0,.none,.none] }
theorem b0d (z ti to:Addr) :
    Meets (Builtin.«enumerate.__new__» ⟨[.type "enumerate",.ref z],[]⟩) (fun _ R s=>IsZip s.heap z ti to .none/\R (.ok (.ret (.ref s.heap.objs.size))) { s with heap:=ez1 s.heap z }) :=
  .of_wp fun prog w A R s h=>by
    obtain ⟨hp,g,d,tk,os⟩:=s
    obtain ⟨e1,h⟩:=h
    have hsub:=sub_enumerate
    have m1:IsZip (Shared.heap ⟨hp,g,d,tk,os⟩) z ti to .none:=e1
    wp_walk using wpAny_pyIter_zip m1,a9o
    intro c
    cases c
    . wp_walk using wpAny_pyIter_zip m1
      exact ⟨_,rfl,h⟩
    . wp_walk using wpAny_pyIter_zip m1
      exact ⟨_,rfl,h⟩
section
variable {prog:Program} {w:World} {A:Around} {E:Value->Shared->Prop} {s:Shared}
theorem a9l {z ti to:Addr} {Q:Value->Shared->Prop} (l1:IsZip s.heap z ti to .none)
    (q:∀ h',IsEnum h' s.heap.objs.size z 0 .none->(∀ c o,s.heap.get? c = some o->h'.get? c = some o)->Q (.ref s.heap.objs.size) { s with heap:=h' }) :
    wpAny (model prog w) A (call (.type "enumerate") [.ref z]) Q E s:=by
  refine callType_new F.called_enumerate (by decide) (F.typeCall_enumerate_1 _) (F.newCall_enumerate_1 _) (fun ob=>F.args_object_init_2 ob _) F.entry_enumerate_new (b0d z ti to) ⟨l1,?_⟩
  have p1:(ez1 s.heap z).get? s.heap.objs.size = some _:=Heap.get?_push_size _ rfl
  exact ⟨⟨_,p1,rfl⟩,q _ p1 fun c o m=>Heap.get?_push_of_some _ m⟩
end
def iEz (b1 b2:Bool) (K:W.Frag) (ta:TA):TI:=fun σ H R=>ta σ H fun vs H1=>∃ l1 l2,vs = [.ref l1,.ref l2]/\(∃ xs,SqB b1 K H1 l1 xs)/\(∃ ys,SqB b2 K H1 l2 ys)/\R (Itz b1 b2 K l1 l2) H1
theorem b2w (b1 b2:Bool) (K:W.Frag) {X:Cx} {a b:Expr} {ta:TA} {p pos p2 pos2 pos':Pos} {elts:List Expr} {x1:Nat} (hK:X.K = K) (hg:Gl X "enumerate") (hm:X.mg "enumerate" = none) (hg2:Gl X "zip") (hm2:X.mg "zip" = none) (ha:PA X [a,b] ta)
    (hs:starEach [a,b] X.env = [(false,eval a X.env),(false,eval b X.env)]:=by rfl) (hs2:starEach [b] X.env = [(false,eval b X.env)]:=by rfl)
    (hs3:starEach [.Call (.Name "zip" p2) [a,b] [] pos2] X.env = [(false,eval (.Call (.Name "zip" p2) [a,b] [] pos2) X.env)]:=by rfl) (hs4:starEach ([]:List Expr) X.env = []:=by rfl) :
    PI X (.Tuple elts x1 pos') (.Call (.Name "enumerate" p) [.Call (.Name "zip" p2) [a,b] [] pos2] [] pos) (iEz b1 b2 K ta):=by
  subst hK
  intro pins s σ H R I h
  refine Call_ (P2 I hg hm boot_enumerate (PyProof.Rows.callWith_type1 ?_ (by rw [hs3,hs4]) (by rw [hs4]; rfl)))
  rw [hs3]
  show wpAny _ _ (spliced ((false,eval (.Call (.Name "zip" p2) [a,b] [] pos2) X.env) :: [])) _ _ s
  refine Calls.spliced_cons ?_
  refine Call_ (P2 I hg2 hm2 boot_zip (PyProof.Rows.callWith_type1 (v8 (ha pos2 pins s σ H _ I h) fun us s1 ⟨vs,H1,I1,r1,q1⟩=>?_) (by rw [hs,hs2]) (by rw [hs2]; rfl)))
  obtain ⟨l1,l2,e,⟨xs,q1⟩,⟨ys,q2⟩,q⟩:=q1
  subst e
  obtain ⟨u1,u2,rfl,ru1,ru2⟩:=a3G r1
  cases ru1
  cases ru2
  obtain ⟨its1,rv1,p1,_⟩:=I1.sqB q1
  obtain ⟨its2,rv2,p2,_⟩:=I1.sqB q2
  refine a5F p1 p2 fun h1 z1 z2 z3 z4 z5 k1=>?_
  refine wpAny_pure ?_
  refine a9l z1 fun h2 e1 k2=>?_
  have I2:Inv X pins σ H1 { s1 with heap:=h2 }:=I1.kept (t':=s1.toks) fun c o m=>k2 c o (k1 c o m)
  refine wpAny_pyIter_enum e1 ?_
  have D:ZipApart (s1.heap.objs.size + 4) (s1.heap.objs.size + 2) (s1.heap.objs.size + 3) s1.heap.objs.size (s1.heap.objs.size + 1) l1 l2:=a7Q _ _ _ p1.lt p2.lt
  have z1s:s1.heap.objs.size + 4 < h1.objs.size:=Heap.lt_size z1
  have lt1:=p1.lt
  have lt2:=p2.lt
  refine ⟨h1.objs.size,[h1.objs.size,s1.heap.objs.size + 4,s1.heap.objs.size + 2,s1.heap.objs.size + 3,s1.heap.objs.size,s1.heap.objs.size + 1],_,_,H1,rfl,I2,a9k D (fun c hb z0=>?_),⟨⟨_,e1⟩,⟨_,_,k2 _ _ z1,.inl rfl⟩,k2 _ _ z2,⟨_,_,k2 _ _ z3⟩,ItB.at' z4 fun o m=>k2 _ o m,ItB.at' z5 fun o m=>k2 _ o m⟩,fun b hb=>?_,q⟩
  . simp only [List.mem_cons,List.not_mem_nil,or_false] at hb
    have:c < h1.objs.size:=by
      rcases hb with rfl | rfl | rfl | rfl | rfl | rfl | rfl
      . exact z1s
      . exact Nat.lt_of_le_of_lt (by omega) z1s
      . exact Nat.lt_of_le_of_lt (by omega) z1s
      . exact Nat.lt_of_le_of_lt (by omega) z1s
      . exact Nat.lt_of_le_of_lt (by omega) z1s
      . exact Nat.lt_of_lt_of_le lt1 (Nat.le_of_lt (Nat.lt_of_le_of_lt (by omega) z1s))
      . exact Nat.lt_of_lt_of_le lt2 (Nat.le_of_lt (Nat.lt_of_le_of_lt (by omega) z1s))
    rw [z0] at this
    exact Nat.lt_irrefl _ this
  . have hb':s1.heap.objs.size <= b:=by
      simp only [List.mem_cons,List.not_mem_nil,or_false] at hb
      rcases hb with rfl | rfl | rfl | rfl | rfl | rfl
      . exact Nat.le_of_lt (Nat.lt_of_le_of_lt (by omega) z1s)
      . exact Nat.le_add_right _ _
      . exact Nat.le_add_right _ _
      . exact Nat.le_add_right _ _
      . exact Nat.le_refl _
      . exact Nat.le_add_right _ _
    exact I1.fpOk hb' (I1.hok.fresh hb')
end L2
namespace L2
open PySem PySem.Spec PyProof.Rows
def ChAt (H:Hp) (xs ys:List V) (is:List Nat) (ts:List V):Prop:=Paired (fun (i:Nat) v=>∃ t x y,v = V.ref t/\xs[i]? = some x/\ys[i]? = some y/\H t = some (.tup [.int (i:Int),x,y])) is ts
theorem ChAt.same {H H':Hp} {xs ys:List V} {is:List Nat} {ts:List V} (h:ChAt H xs ys is ts) (e:∀ b zs,H b = some (.tup zs)->H' b = some (.tup zs)):ChAt H' xs ys is ts:=by
  induction h with
  | nil=>exact .nil
  | cons r _ ih =>
    obtain ⟨t,x,y,h1,h2,h3,h4⟩:=r
    exact .cons ⟨t,x,y,h1,h2,h3,e _ _ h4⟩ ih
theorem ChAt.snoc {H:Hp} {xs ys:List V} {is:List Nat} {ts:List V} {i:Nat} {t:Addr} {x y:V} (h:ChAt H xs ys is ts) (h2:xs[i]? = some x) (h3:ys[i]? = some y) (h4:H t = some (.tup [.int (i:Int),x,y])):ChAt H xs ys (is ++ [i]) (ts ++ [.ref t]):=by
  induction h with
  | nil=>exact .cons ⟨t,x,y,rfl,h2,h3,h4⟩ .nil
  | cons r _ ih=>exact .cons r ih
section
variable {b1 b2:Bool} {xs ys:List V} {K:W.Frag} {l1 l2:Addr} {fr:List Nat} {tc:TT} {σ:St} {H1:Hp} {p:Addr} {D:Hp->Prop}
theorem a8U {n:Nat} {fr:List Nat} {σ:St} {i j k:Nat} {u v x:V} (hi:i < n) (hj:j < n) (hk:k < n):Wk (blkσ n fr σ) ((((blkσ n fr σ).set i (some v)).set j (some u)).set k (some x)):=by
  refine ⟨by simp,fun m w e=>?_⟩
  have:¬ m < n:=fun hm=>by
    unfold blkσ at e
    rw [List.getElem?_append_left (by simpa using hm),List.getElem?_replicate] at e
    split at e <;> cases e
  rw [List.getElem?_set_ne (by omega),List.getElem?_set_ne (by omega),List.getElem?_set_ne (by omega)]; exact e
theorem b2c (h1:SqB b1 K H1 l1 xs) (h2:SqB b2 K H1 l2 ys) (hp:H1 p = none) (hz:xs.length < sizeLine) (q:Nat->Bool)
    (step:∀ (i:Nat) x y H (N:Bool->Hp->Prop),xs[i]? = some x->ys[i]? = some y->Same H1 H->N (q i) H->tc ((((blkσ 3 fr σ).set 0 (some (.int (i:Int)))).set 1 (some x)).set 2 (some y)) H N)
    (hd:∀ ts H,Same H1 H->H p = some (.lst ts)->ChAt H xs ys ((List.range (min xs.length ys.length)).filter q) ts->D H) :
    lcI 3 fr (a3k K 2 (N5 (D7 0) (N5 (a3k K 2 (N5 (D7 1) (N5 (D7 2) a4e))) a4e))) tc (b1C (a3h (a3B 0) (a3h (a3B 1) (a3h (a3B 2) a8f)))) σ (Itz b1 b2 K l1 l2) H1 p D:=by
  refine ⟨fun i m ts H=>m = min xs.length ys.length - i/\i <= min xs.length ys.length/\Same H1 H/\H p = some (.lst ts)/\ChAt H xs ys ((List.range i).filter q) ts,⟨_,rfl,Nat.zero_le _,Same.new hp _,upd_same,.nil⟩,?_⟩
  rintro i m ts H ⟨rfl,hi,e,hH,ch⟩
  by_cases hlt:i < min xs.length ys.length
  . have hx:xs[i]? = some xs[i]:=List.getElem?_eq_getElem (by omega)
    have hy:ys[i]? = some ys[i]:=List.getElem?_eq_getElem (by omega)
    refine .inr ⟨⟨xs,ys,_,_,e.sqB h1,e.sqB h2,hx,hy⟩,fun u H' yl=>?_⟩
    obtain ⟨pp,r,a,b,hr,hpp,rfl,rfl,hab⟩:=yl
    obtain ⟨ha,hb⟩:=hab xs ys (e.sqB h1) (e.sqB h2)
    have s1:=Same.new hr (.tup [a,b])
    have s2:=Same.new hpp (.tup [.int (i:Int),.ref r])
    have s12:=s1.trans s2
    have tk:(List.range (i + 1)).filter q = (List.range i).filter q ++ [i].filter q:=by rw [List.range_succ,List.filter_append]
    refine ⟨pp,_,rfl,SqT.of upd_same,rfl,_,_,rfl,_,_,rfl,⟨r,_,rfl,SqT.of (s2 _ _ upd_same),rfl,_,_,rfl,_,_,rfl,rfl,?_⟩⟩
    refine ⟨rfl,a8U (by decide) (by decide) (by decide),step i a b _ _ ha hb (e.trans s12) ?_⟩
    have h3:=s12 _ _ hH
    have ch3:=ch.same fun b zs k=>s12 b _ k
    cases hq:q i with
    | false =>
      rw [if_neg Bool.false_ne_true]
      refine ⟨_,?_,rfl,hlt,e.trans s12,h3,?_⟩
      . omega
      . rw [tk]; simpa [hq] using ch3
    | true =>
      rw [if_pos rfl]
      have ln:ts.length = ((List.range i).filter q).length:=ch.length.symm
      have l2':=List.length_filter_le q (List.range i)
      rw [List.length_range] at l2'
      refine ⟨.int (i:Int),?_,a,?_,b,?_,(by show 3 <= sizeLine; decide),fun t ht=>?_⟩
      . rw [List.getElem?_set_ne (by omega),List.getElem?_set_ne (by omega),List.getElem?_set_self (by simp [blkσ])]
      . rw [List.getElem?_set_ne (by omega),List.getElem?_set_self (by simp [blkσ])]
      . rw [List.getElem?_set_self (by simp [blkσ])]
      have s3:=Same.new ht (.tup [.int (i:Int),a,b])
      have h4:=s3 _ _ h3
      refine ⟨h4,by omega,_,?_,rfl,hlt,((e.trans s12).trans s3).write hp,upd_same,?_⟩
      . omega
      . rw [tk]
        have ch4:=ch3.same fun b zs k=>s3 b _ k
        have:=(ch4.snoc ha hb (upd_same (H:=m5 (m5 H r (.tup [a,b])) pp (.tup [.int (i:Int),.ref r])) (a:=t) (o:=.tup [.int (i:Int),a,b])))
        have fin:=this.same (H':=m5 (m5 (m5 (m5 H r (.tup [a,b])) pp (.tup [.int (i:Int),.ref r])) t (.tup [.int (i:Int),a,b])) p (.lst (ts ++ [.ref t]))) fun c zs k=>by rw [c9 (w6 k h4 nofun)]; exact k
        simpa [hq] using fin
  . have:i = min xs.length ys.length:=by omega
    subst this
    refine .inl ⟨⟨xs,ys,e.sqB h1,e.sqB h2,by omega⟩,hd ts H e hH ch⟩
end
end L2
namespace L2
open PySem PySem.Spec PyProof.Rows
abbrev TJ:=St->Hp->(Hp->Prop)->Prop
def PJ (X:Cx) (es:List Expr) (t:TJ):Prop :=
  ∀ (pins:List (Addr × Obj)) (s:Shared) (σ:St) (H:Hp) (out:Str) (Q:Hp->Prop),Inv X pins σ H s->out.length + 2000 * es.length <= 100000->t σ H Q →
    wpAny (model X.prog X.w) X.A (joinParts out (evalEach es X.env)) (fun u s'=>∃ x tk H',u = Value.str x tk/\Inv X pins σ H' s'/\Q H') X.xe s
section
variable {X:Cx} {e:Expr} {es:List Expr} {te:TE} {t:TJ} {a:Str} {j:Nat} {p1 p2 p3:Pos}
theorem a8e:PJ X [] fun _ H Q=>Q H:=by
  intro pins s σ H out Q I hl h
  refine joinParts_nilE (joinParts_nil ⟨_,_,H,rfl,I.tok _,h⟩ ?_)
  rw [sizeLine_eq]
  simp at hl
  omega
theorem a1k (h:PJ X es t) (ha:a.length <= 1000:=by decide):PJ X (.Constant (.str a) j p1 :: es) t:=by
  intro pins s σ H out Q I hl ht
  refine joinParts_consE (joinParts_cons ?_)
  refine v8 (U4 pins s σ H (fun v H'=>v = .str a/\H' = H) I ⟨rfl,rfl⟩) fun u s1 ⟨v,H1,I1,r,hv,hH⟩=>?_
  subst hv; subst hH
  obtain ⟨tk,rfl⟩:=r
  simp only [List.length_cons] at hl
  have e0:(out ++ a).length = out.length + a.length:=strLen_append ..
  exact ⟨by rw [e0,sizeLine_eq]; omega,h pins s1 σ H1 (out ++ a) Q I1 (by rw [e0]; omega) ht⟩
theorem a4I (he:PE X e te) (h:PJ X es t):PJ X (.FormattedValue e (-1) none p2 :: es) fun σ H Q=>te σ H fun v H1=>∃ i:Int,v = .int i/\i.natAbs.log2 < 1920/\t σ H1 Q:=by
  intro pins s σ H out Q I hl ht
  refine joinParts_consE (joinParts_cons (FormattedValue_plain ?_))
  refine v8 (he pins s σ H _ I ht) fun u s2 ⟨v,H2,I2,r,i,hv,hi,q⟩=>?_
  subst hv
  obtain ⟨tk2,rfl⟩:=r
  refine formatField_int_small hi ?_
  simp only [List.length_cons] at hl
  have h1:=int_text_length_le (a:=i) (k:=1920) (by decide) hi
  have e0:(out ++ Str.ofString (toString i)).length = out.length + (toString i).length:=by rw [strLen_append,PySem.ofString_length]
  have hle:(toString i).length <= 2000:=by omega
  exact ⟨by rw [e0,sizeLine_eq]; omega,h pins _ σ H2 _ Q (I2.tok _) (by rw [e0]; omega) q⟩
def tFg (t:TJ):TE:=fun σ H Q=>t σ H fun H1=>∀ x,Q (.str x) H1
theorem a3d {v1 v2:Expr} (h:PJ X (v1 :: v2 :: es) t) (hl:es.length <= 20:=by decide):PE X (.JoinedStr (v1 :: v2 :: es) p3) (tFg t):=by
  intro pins s σ H Q I ht
  refine JoinedStr_many ?_
  refine v8 (h pins s σ H Str.empty _ I ?_ ht) fun u s' ⟨x,tk,H',e1,I',q⟩=>?_
  . show 0 + 2000 * (es.length + 1 + 1) <= 100000
    omega
  . subst e1
    exact ⟨.str x,H',I',⟨_,rfl⟩,q x⟩
end
end L2
namespace L2
open PySem
theorem b0N (K:W.Frag) {X:Cx} {k:Nat} (h:X.K = K) (hr:Room k X.A):V4 X (compareOp .NotEq) (b2e K):=by subst h; exact a2r hr
end L2
namespace Rim
open PySem L2 Fr
theorem A6 {α β:Type} {F:α->β->Prop}:∀ {l:List α} {l':List β} {i:Nat} {a:α},PySem.Paired F l l'->l[i]? = some a->∃ b,l'[i]? = some b/\F a b
  | _,_,_,_,.nil,e=>by simp at e
  | _,_,0,_,.cons r _,e=>by simp at e; subst e; exact ⟨_,rfl,r⟩
  | _,_,i + 1,x,.cons _ t,e=>by
    obtain ⟨b,h1,h2⟩:=A6 (i:=i) (a:=x) t (by simpa using e)
    exact ⟨b,by simpa using h1,h2⟩
def a2J (l:Int) (ns:List Int):Prop:=∀ x ∈ ns,l <= x/\x <= 1000000000
def GoodK (h:i5) (m n:Int):Prop:=((h.1.length:Int) = m/\a2J 1 h.1)/\((h.2.length:Int) = n/\a2J 0 h.2)/\∃ x ∈ h.2,0 < x
def O4 (h:i5):Prop:=h.1.length <= 1000/\h.2.length <= 1000
theorem GoodK.hg {h:i5} {kt kg:Nat} (g:GoodK h kt kg):HG (10 ^ 9) kt kg h:=⟨by have:=g.1.1; omega,by have:=g.2.1.1; omega,fun x hx=>⟨(g.1.2 x hx).1,(g.1.2 x hx).2⟩,fun x hx=>⟨(g.2.1.2 x hx).1,(g.2.1.2 x hx).2⟩,g.2.2⟩
section
variable {P:Program} {w:World} {K:W.Frag} {mg:Str->Option Value} {base:Heap} {f CN CB CT:Addr} {fd:FuncData} {n:Nat}
theorem a0Q {X:Cx}:G4 X (.builtin "isinstance") (fun vs H Q=>∃ a xs n b,vs = [.ref a,.ty n]/\SqT X.K H a xs/\W.kitOne X.K (.type "tuple") (.type n) = some b/\Q (.bl b) H):=by
  intro pins s σ H vs us Q I r h
  obtain ⟨a,xs,n,b,rfl,hs,e,q⟩:=h
  obtain ⟨u,v,rfl,ru,rv⟩:=a3G r
  cases rv
  cases (show u = Value.ref a from ru)
  have hx:∃ o,s.heap.get? a = some o/\o.cls = .type "tuple":=by
    rcases hs with hs | ⟨o,its,n,h1,h2,_⟩
    . obtain ⟨_,_,_,p⟩:=(show ObjOk X.prog X.w H s.heap a (.tup xs) from hs.ok I.hok)
      obtain ⟨o,h1,h2,_⟩:=p
      exact ⟨o,h1,h2⟩
    . exact ⟨o,I.kIn a o h1,h2⟩
  exact W.kia_one W.kitx_tuple I.kIn hx e (fun z=>nomatch z) fun tk=>⟨.bl b,H,I.tok _,rfl,q⟩
def a6M:Sp:=fun vs H Q _=>∃ i:Int,vs = [.int i]/\Q (.bl true) H
theorem b0F:j3 ["thing"] ["thing"] (h8 V6):=⟨rfl,rfl,rfl,by decide +kernel,rfl,by decide +kernel,by decide +kernel⟩
theorem a8Y (F:Fun K "is_whole" "is_whole" V6 f fd) (T:v7 mg):FnOk P w K mg base D6 (n + 1) f fd ["thing"] a6M:=by
  refine F.ok b0F (fun vs H Q E h=>?_) (fun cdv A outer s H vs Q E hr h=>?_)
  . obtain ⟨i,rfl,_⟩:=h
    rfl
  obtain ⟨i,rfl,q⟩:=h
  refine ⟨_,i7 (m7 (a4r (m9 a0m rfl T.isi PyProof.Rows.boot_isinstance (a0 (pv 0) (a0 (a0I (v:=.ty "int") rfl T.int PyProof.Rows.boot_int rfl) d8)))
    (a4q (b1k (m9 a0m rfl T.isi PyProof.Rows.boot_isinstance (a0 (pv 0) (a0 (a0I (v:=.ty "bool") rfl T.bool PyProof.Rows.boot_bool rfl) d8))))))),?_⟩
  refine ⟨_,rfl,_,_,"int",true,rfl,.int i,a1t _,_,rfl,a0r ?_⟩
  exact ⟨_,rfl,_,_,"bool",false,rfl,.int i,a2o,_,rfl,q⟩
def a7R (K:W.Frag):Sp:=fun vs H Q _=>∃ (a:Addr) (ns:List Int) (m l:Int),vs = [.ref a,.int m,.int l]/\SqT K H a (ns.map V.int)/\ns.length <= 1000 ∧
  ∀ (b:Bool) (H':Hp),Same H H'->(b = true ↔ ((ns.length:Int) = m/\a2J l ns))->Q (.bl b) H'
theorem b0h:j3 ["thing","many","least"] ["thing","many","least"] (h8 M5):=⟨rfl,rfl,rfl,by decide +kernel,rfl,by decide +kernel,by decide +kernel⟩
theorem b0W:(["amount","least"]:List Str).Nodup:=by decide +kernel
theorem a6y {N:VK} {b b':Bool} {H:Hp} (h:N (.bl b) H) (e:b' = b):N (.bl b') H:=by rw [e]; exact h
theorem a9A {g:Addr} {gd:FuncData} (F:Fun K "are_amounts" "are_amounts" M5 f fd) (T:v7 mg) (C:∃ t,mg "MOST_AMOUNT" = some (.int 1000000000 t)) (G:Cal P w K mg base n "is_whole" ["thing"] a6M g gd):FnOk P w K mg base D6 (n + 1) f fd ["thing","many","least"] (a7R K):=by
  refine F.ok b0h (fun vs H Q E h=>?_) (fun cdv A outer s H vs Q E hr h=>?_)
  . obtain ⟨a,ns,m,l,rfl,_⟩:=h
    rfl
  obtain ⟨a,ns,m,l,rfl,hS,hz,q⟩:=h
  obtain ⟨tm,hma⟩:=C
  refine ⟨_,i4 (x8 (PW.pt (a7j (Y8 (Z1 (m9 a0Q rfl T.isi PyProof.Rows.boot_isinstance (a0 (pv 0) (a0 (a0I (v:=.ty "tuple") rfl T.tuple PyProof.Rows.boot_tuple rfl) d8))))) (a4f (o4 a7D (m9 j8 rfl T.len PySem.boot_len (a0 (pv 0) d8)) (pv 1) (o6 _))))) (i7 (m7 a7E)) r6)
    (i7 (m7 (m9 (a7L rfl) rfl T.all PyProof.Rows.boot_all (a0
      (T7 ["amount"] [2] rfl (a4C (pv 0)) (fun _ _ _ _=>j5 (i:=0) b0W rfl (Or.inl rfl))
        (fun _ _ _ _=>a4r (j7 G.ok hr rfl G.m G.k G.b .nil p6 (a0 (pv 0) d8)) (a4q (a8p a6I a6I (pv 1) (pv 0) (X4 (v:=.int 1000000000) rfl hma ⟨_,rfl⟩))))) d8)))),?_⟩
  have hl:(ns.map V.int).length = ns.length:=List.length_map _
  refine ⟨_,rfl,a,_,"tuple",true,rfl,hS,a1t _,_,rfl,X6 ?_⟩
  refine ⟨_,rfl,a,_,rfl,.inr hS,_,rfl,rfl,_,rfl,?_⟩
  refine C3 (fun c=>?_) (fun c=>?_)
  . refine q _ _ (Same.refl _) ?_
    have c':¬ (ns.length:Int) = m:=fun h=>by simp [h] at c
    simp [c']
  . have c':(ns.length:Int) = m:=by simpa using c
    refine ⟨_,rfl,a,rfl,⟨_,hS⟩,fun p hp=>?_⟩
    refine U5 (a1o hS) hp (by rw [hl]; exact j6 hz) (fun x=>.bl (decide (l <= vI x/\vI x <= 1000000000))) (fun i x H' N hx e hN=>?_) ?_
    . obtain ⟨k,rfl⟩:=K4 hx
      refine ⟨Wk.set (by decide),_,rfl,k,rfl,_,rfl,a0r ?_⟩
      refine ⟨_,rfl,_,rfl,_,_,rfl,rfl,_,rfl,?_⟩
      refine C3 (fun c=>?_) (fun c=>?_)
      . have c1:l <= k:=of_decide_eq_true c
        refine ⟨_,_,rfl,rfl,?_⟩
        exact a6y hN (by simp [vI,c1])
      . have c1:¬ l <= k:=of_decide_eq_false (Bool.eq_false_iff.mpr c)
        exact a6y hN (by simp [vI,c1])
    . refine ⟨p,ns.map (fun i=>decide (l <= i/\i <= 1000000000)),rfl,.inl (SqL.of (by rw [upd_same,List.map_map,List.map_map]; rfl)),?_⟩
      refine q _ _ (Same.new hp _) ?_
      rw [List.all_map,List.all_eq_true]
      constructor
      . intro z
        exact ⟨c',fun x hx=>by simpa using z x hx⟩
      . intro z x hx
        simpa using z.2 x hx
def a8d (K:W.Frag):Sp:=fun vs H Q _=>∃ (v:V) (h:i5) (m n:Int),vs = [v,.int m,.int n]/\HS K H v h/\O4 h ∧
  ∀ (b:Bool) (H':Hp),Same H H'->(b = true ↔ GoodK h m n)->Q (.bl b) H'
theorem scIsHK:j3 ["thing","many_takes","many_gives","takes","gives"] ["thing","many_takes","many_gives"] (h8 V5):=⟨rfl,rfl,rfl,by decide +kernel,rfl,by decide +kernel,by decide +kernel⟩
theorem b0k:(["give"]:List Str).Nodup:=by decide +kernel
theorem a9C {g:Addr} {gd:FuncData} (F:Fun K "is_house" "is_house" V5 f fd) (T:v7 mg) (G:Cal P w K mg base n "are_amounts" ["thing","many","least"] (a7R K) g gd) :
    FnOk P w K mg base D6 (n + 1) f fd ["thing","many_takes","many_gives"] (a8d K):=by
  refine F.ok scIsHK (fun vs H Q E h=>?_) (fun cdv A outer s H vs Q E hr h=>?_)
  . obtain ⟨v,h,m,l,rfl,_⟩:=h
    rfl
  obtain ⟨v,h,m,l,rfl,⟨a,t,gv,rfl,h0,h1,h2⟩,⟨hz1,hz2⟩,q⟩:=h
  refine ⟨_,i4 (x8 (PW.pt (a7j (Y8 (Z1 (m9 a0Q rfl T.isi PyProof.Rows.boot_isinstance (a0 (pv 0) (a0 (a0I (v:=.ty "tuple") rfl T.tuple PyProof.Rows.boot_tuple rfl) d8))))) (a4f (o4 a7D (m9 j8 rfl T.len PySem.boot_len (a0 (pv 0) d8)) d9 (o6 _))))) (i7 (m7 a7E)) r6)
    (i4 (M8 (pv 0) (V0 rfl (j9 (j5 (i:=3) scIsHK.nd rfl (Or.inl rfl)) (j9 (j5 (i:=4) scIsHK.nd rfl (Or.inl rfl)) y4))))
    (i4 (x8 (Y8 (PW.pt (a0c (Z1 (j7 G.ok hr rfl G.m G.k G.b .nil p6 (a0 (pv 3) (a0 (pv 1) (a0 d9 d8))))) (R8 (Z1 (j7 G.ok hr rfl G.m G.k G.b .nil p6 (a0 (pv 4) (a0 (pv 2) (a0 d9 d8)))))))))
      (i7 (m7 a7E)) r6)
    (i7 (m7 (m9 (a6Q rfl) rfl T.any PyProof.Rows.boot_any (a0 (T7 ["give"] [] rfl (a4C (pv 4)) (fun _ _ _ _=>j5 (i:=0) b0k rfl (Or.inl rfl)) (fun _ _ _ _=>P0 T6 (pv 0) d9 (o6 _))) d8)))))),?_⟩
  refine ⟨_,rfl,a,_,"tuple",true,rfl,h0,a1t _,_,rfl,X6 ?_⟩
  refine ⟨_,rfl,a,_,rfl,.inr h0,rfl,_,rfl,b2f rfl ?_⟩
  refine ⟨_,rfl,a,_,rfl,h0,rfl,_,_,rfl,_,_,rfl,rfl,?_⟩
  refine ⟨_,rfl,_,rfl,t,h.1,m,1,rfl,h1,hz1,fun b1 H1 e1 i1=>⟨_,rfl,?_⟩⟩
  refine C3 (fun c1=>?_) (fun c1=>?_)
  . refine ⟨_,rfl,_,rfl,gv,h.2,l,0,rfl,e1.tseq h2,hz2,fun b2 H2 e2 i2=>⟨_,rfl,?_⟩⟩
    refine C3 (fun c2=>?_) (fun c2=>?_)
    . refine q _ _ (e1.trans e2) ?_
      have:¬ b2 = true:=by simpa using c2
      constructor
      . intro z; cases z
      . intro z; exact absurd (i2.mpr z.2.1) this
    . have c2':b2 = true:=by simpa using c2
      have e12:=e1.trans e2
      have hl:(h.2.map V.int).length = h.2.length:=List.length_map _
      refine ⟨_,rfl,gv,rfl,⟨_,e12.tseq h2⟩,fun p hp=>?_⟩
      refine U5 (a1o (e12.tseq h2)) hp (by rw [hl]; exact j6 hz2) (fun x=>.bl (decide (0 < vI x))) (fun i x H' N hx e hN=>?_) ?_
      . obtain ⟨k,rfl⟩:=K4 hx
        exact ⟨Wk.set (by decide),_,rfl,_,_,rfl,rfl,hN⟩
      . refine ⟨p,h.2.map (fun i=>decide (0 < i)),rfl,.inl (SqL.of (by rw [upd_same,List.map_map,List.map_map]; rfl)),?_⟩
        refine q _ _ (e12.trans (Same.new hp _)) ?_
        rw [List.any_map,List.any_eq_true]
        constructor
        . rintro ⟨x,hx,z⟩
          exact ⟨i1.mp c1,i2.mp c2',x,hx,by simpa using z⟩
        . rintro ⟨_,_,x,hx,z⟩
          exact ⟨x,hx,by simpa using z⟩
  . refine a0r ?_
    refine q _ _ e1 ?_
    constructor
    . intro z; cases z
    . intro z; exact absurd (i1.mpr z.1) c1
def a1f (K:W.Frag) (CB:Addr):Sp:=fun vs H Q E=>∃ (v:V) (h:i5) (m n:Int),vs = [v,.int m,.int n]/\HS K H v h/\O4 h/\m.natAbs.log2 < 1920/\n.natAbs.log2 < 1920 ∧
  (GoodK h m n->∀ H',Same H H'->Q .non H')/\(¬ GoodK h m n->∀ H',Same H H'->E (.ref CB) none H')
theorem a6v:j3 ["thing","many_takes","many_gives"] ["thing","many_takes","many_gives"] (h8 K5):=⟨rfl,rfl,rfl,by decide +kernel,rfl,by decide +kernel,by decide +kernel⟩
theorem a6a {g:Addr} {gd:FuncData} (F:Fun K "refuse_unfit" "refuse_unfit" K5 f fd) (kB:a2C K CB) (mB:mg "NoBook" = some (.ref CB)) (G:Cal P w K mg base n "is_house" ["thing","many_takes","many_gives"] (a8d K) g gd) :
    FnOk P w K mg base (T3 P w) (n + 1) f fd ["thing","many_takes","many_gives"] (a1f K CB):=by
  refine F.ok1 a6v (fun vs H Q E h=>?_) (fun cdv A outer s H vs Q E hr h=>?_)
  . obtain ⟨v,h,m,l,rfl,_⟩:=h
    rfl
  obtain ⟨v,h,m,l,rfl,hH,hz,hm,hl,q,hE⟩:=h
  refine ⟨_,i7 (x8 (Y8 (Z1 (j7 G.ok hr rfl G.m G.k G.b .nil p6 (a0 (pv 0) (a0 (pv 1) (a0 (pv 2) d8)))))) (i7 (Y3 kB rfl mB hr.hd (a0 (a3d (a1k (a4I (pv 1) (a1k (a4I (pv 2) (a1k a8e)))))) d8))) r6),?_⟩
  refine ⟨_,rfl,_,rfl,_,rfl,v,h,m,l,rfl,hH,hz,fun b H1 e1 i1=>⟨_,rfl,?_⟩⟩
  cases b with
  | true=>exact X6 (q (i1.mp rfl) H1 e1)
  | false =>
    refine a0r ?_
    exact ⟨_,rfl,m,rfl,hm,_,rfl,l,rfl,hl,fun x=>⟨(by show 1 <= 1000; decide),hE (fun z=>by have:=i1.mpr z; cases this) H1 e1⟩⟩
def a1X (K:W.Frag) (CB CT:Addr):Sp:=fun vs H Q E=>∃ (l:Addr) (v:V) (xs:List V) (h:i5) (m n:Int),vs = [.ref l,v,.int m,.int n]/\H l = some (.lst xs)/\xs.length <= 1000/\HS K H v h/\O4 h/\m.natAbs.log2 < 1920/\n.natAbs.log2 < 1920 ∧
  (GoodK h m n->xs.length < 16->∀ (r:Addr) (H':Hp),Same H H'->H r = none->H' r = some (.lst (xs ++ [v]))->Q (.ref r) H')/\(¬ GoodK h m n->∀ H',Same H H'->E (.ref CB) none H')/\(GoodK h m n->16 <= xs.length->∀ H',Same H H'->E (.ref CT) none H')
theorem a6f:j3 ["houses","house","many_takes","many_gives"] ["houses","house","many_takes","many_gives"] (h8 G9):=⟨rfl,rfl,rfl,by decide +kernel,rfl,by decide +kernel,by decide +kernel⟩
theorem a4p {g:Addr} {gd:FuncData} (F:Fun K "with_one_more" "with_one_more" G9 f fd) (T:v7 mg) (kT:a2C K CT) (mT:mg "TooMany" = some (.ref CT)) (C:∃ t,mg "MOST_HOUSES" = some (.int 16 t))
    (G:a1E P w K mg base n "refuse_unfit" ["thing","many_takes","many_gives"] (a1f K CB) g gd):FnOk P w K mg base (T3 P w) (n + 1) f fd ["houses","house","many_takes","many_gives"] (a1X K CB CT):=by
  refine F.ok1 a6f (fun vs H Q E h=>?_) (fun cdv A outer s H vs Q E hr h=>?_)
  . obtain ⟨l,v,xs,h,m,n,rfl,_⟩:=h
    rfl
  obtain ⟨l,v,xs,h,m,k,rfl,hl,hz,hH,hs,hm,hk,q,hB,hT⟩:=h
  obtain ⟨tm,hmh⟩:=C
  refine ⟨_,i4 (A3 (j7 G.ok hr rfl G.m G.k G.b .nil X9 (a0 (pv 1) (a0 (pv 2) (a0 (pv 3) d8)))))
    (i4 (x8 (o4 a6B (m9 j8 rfl T.len PySem.boot_len (a0 (pv 0) d8)) (X4 (v:=.int 16) rfl hmh ⟨_,rfl⟩) (o6 _)) (i7 (Y3 kT rfl mT hr.hd (a0 (a3d (a1k (a4I (X4 (v:=.int 16) rfl hmh ⟨_,rfl⟩) (a1k a8e)))) d8))) r6)
    (PSs.nox (i7 (m7 (i9 x4 (pv 0) (r9 (a0 (pv 1) d8))))))),?_⟩
  refine ⟨_,rfl,_,rfl,_,rfl,v,h,m,k,rfl,hH,hs,hm,hk,fun g1 H1 e1=>?_,hB⟩
  refine ⟨_,rfl,l,xs,rfl,.inl (SqL.of (e1 _ _ hl)),_,_,rfl,rfl,_,rfl,?_⟩
  refine C3 (fun c=>?_) (fun c=>?_)
  . have c':16 <= xs.length:=by have:=of_decide_eq_true c; omega
    exact ⟨16,rfl,by decide,fun x=>⟨(by show 1 <= 1000; decide),hT g1 c' H1 e1⟩⟩
  . have c':xs.length < 16:=by have:=of_decide_eq_false (Bool.eq_false_iff.mpr c); omega
    refine ⟨_,rfl,_,rfl,(by show 1 <= sizeLine; decide),fun b1 hb1=>?_⟩
    have s2:=Same.new hb1 (.lst [v])
    refine ⟨l,b1,_,_,rfl,rfl,s2 _ _ (e1 _ _ hl),upd_same,?_,fun p hp=>?_⟩
    . have:=j6 (show (1000:Nat) <= 1000 from Nat.le_refl _)
      simp; omega
    have s3:=Same.new hp (.lst (xs ++ [v]))
    refine q g1 c' p _ (e1.trans (s2.trans s3)) ?_ upd_same
    exact (e1.trans s2).free hp
def a2m (K:W.Frag) (CN CB:Addr):Sp:=fun vs H Q E=>∃ (l:Addr) (v:V) (xs:List V) (h:i5) (num m n:Int),vs = [.ref l,.int num,v,.int m,.int n]/\H l = some (.lst xs)/\xs.length <= 1000/\HS K H v h/\O4 h/\num.natAbs.log2 < 1920/\m.natAbs.log2 < 1920/\n.natAbs.log2 < 1920 ∧
  (∀ i:Nat,num = (i:Int)->i < xs.length->GoodK h m n->∀ (r:Addr) (H':Hp),Same H H'->H r = none->H' r = some (.lst ((xs.take i ++ [v]) ++ xs.drop (i + 1)))->Q (.ref r) H')/\(¬ a1B xs.length num->∀ H',Same H H'->E (.ref CN) none H') ∧
  (a1B xs.length num->¬ GoodK h m n->∀ H',Same H H'->E (.ref CB) none H')
theorem a5S:j3 ["houses","number","house","many_takes","many_gives"] ["houses","number","house","many_takes","many_gives"] (h8 J8):=⟨rfl,rfl,rfl,by decide +kernel,rfl,by decide +kernel,by decide +kernel⟩
theorem a4J {g g2:Addr} {gd gd2:FuncData} (F:Fun K "with_another" "with_another" J8 f fd) (Ch:a1E P w K mg base n "house_of" ["book","number"] (a5j K CN) g2 gd2)
    (G:a1E P w K mg base n "refuse_unfit" ["thing","many_takes","many_gives"] (a1f K CB) g gd):FnOk P w K mg base (T3 P w) (n + 1) f fd ["houses","number","house","many_takes","many_gives"] (a2m K CN CB):=by
  refine F.ok1 a5S (fun vs H Q E h=>?_) (fun cdv A outer s H vs Q E hr h=>?_)
  . obtain ⟨l,v,xs,h,num,m,n,rfl,_⟩:=h
    rfl
  obtain ⟨l,v,xs,h,num,m,k,rfl,hl,hz,hH,hs,hn,hm,hk,q,hN,hB⟩:=h
  refine ⟨_,i4 (A3 (j7 Ch.ok hr rfl Ch.m Ch.k Ch.b .nil X9 (a0 (pv 0) (a0 (pv 1) d8))))
    (i4 (A3 (j7 G.ok hr rfl G.m G.k G.b .nil X9 (a0 (pv 2) (a0 (pv 3) (a0 (pv 4) d8)))))
    (PSs.nox (i7 (m7 (i9 x4 (i9 x4 (A8 D8 (pv 0) P5 (y6 (pv 1))) (r9 (a0 (pv 2) d8))) (A8 D8 (pv 0) (y6 (i9 A5 (pv 1) d9)) P5)))))),?_⟩
  refine ⟨_,rfl,_,rfl,l,xs,num,rfl,SqL.of hl,hn,fun i x hi hx=>?_,fun bad=>hN bad H (Same.refl _)⟩
  subst hi
  have hil:=(List.getElem?_eq_some_iff.mp hx).1
  refine ⟨_,rfl,_,rfl,_,rfl,v,h,m,k,rfl,hH,hs,hm,hk,fun g1 H1 e1=>?_,fun bad H1 e1=>hB ⟨by omega,by omega⟩ bad H1 e1⟩
  have small:=j6 (show (1000:Nat) <= 1000 from Nat.le_refl _)
  refine ⟨_,rfl,_,rfl,_,rfl,l,_,rfl,SqL.of (e1 _ _ hl),fun a1 h1=>?_⟩
  rw [a2n _ _ (by omega)]
  have s1:=Same.new h1 (.lst (xs.take i))
  refine ⟨_,rfl,(by show 1 <= sizeLine; decide),fun a2 h2=>?_⟩
  have s2:=Same.new h2 (.lst [v])
  refine ⟨a1,a2,_,_,rfl,rfl,s2 _ _ upd_same,upd_same,by simp; omega,fun a3 h3=>?_⟩
  have s3:=Same.new h3 (.lst (xs.take i ++ [v]))
  have s13:=s1.trans (s2.trans s3)
  refine ⟨_,rfl,_,rfl,_,_,rfl,rfl,_,rfl,l,_,rfl,SqL.of (s13 _ _ (e1 _ _ hl)),fun a4 h4=>?_⟩
  rw [show ((i:Int) + 1) = ((i + 1:Nat):Int) by omega,a0T _ _ (by omega)]
  have s4:=Same.new h4 (.lst (xs.drop (i + 1)))
  refine ⟨a3,a4,_,_,rfl,rfl,s4 _ _ upd_same,upd_same,by simp; omega,fun p hp=>?_⟩
  have s5:=Same.new hp (.lst ((xs.take i ++ [v]) ++ xs.drop (i + 1)))
  have all:=e1.trans (s13.trans s4)
  exact q i rfl hil g1 p _ (all.trans s5) (all.free hp) upd_same
theorem b1F:j3 ["ahead","behind"] ["ahead","behind"] (h8 Z4):=⟨rfl,rfl,rfl,by decide +kernel,rfl,by decide +kernel,by decide +kernel⟩
theorem a6U:(["number","was","now"]:List Str).Nodup:=by decide +kernel
abbrev FrL (K:W.Frag) (H:Hp):List V->List Q2->Prop:=PySem.Paired fun v q=>FrV K H v q
def chI (ps qs:List Q2):List Nat:=(List.range (min ps.length qs.length)).filter fun i=>decide (ps.getD i (0,0) ≠ qs.getD i (0,0))
def a5G (K:W.Frag):Sp:=fun vs H Q _=>∃ (l1 l2:Addr) (xs ys:List V) (ps qs:List Q2),vs = [.ref l1,.ref l2]/\SqL K H l1 xs/\SqL K H l2 ys/\FrL K H xs ps/\FrL K H ys qs/\xs.length <= 1000 ∧
  ∀ (l:Addr) (ts:List V) (H':Hp),Same H H'->H l = none->H' l = some (.lst ts)->ChAt H' xs ys (chI ps qs) ts->Q (.ref l) H'
theorem b2r (x y:Q2):PyData.eqv (dF x) (dF y) = decide (x = y):=by
  unfold dF
  rw [PyData.eqv,PyData.eqvAll,PyData.eqvAll,PyData.eqvAll,PyData.eqv,PyData.eqv,Bool.and_true]
  obtain ⟨a,b⟩:=x
  obtain ⟨c,d⟩:=y
  by_cases h1:a = c
  . by_cases h2:b = d
    . subst h1 h2; simp
    . simp [h1,h2]
  . simp [h1]
set_option maxHeartbeats 1000000 in
theorem a4l (F:Fun K "changes" "changes" Z4 f fd) (T:v7 mg):FnOk P w K mg base D6 (n + 1) f fd ["ahead","behind"] (a5G K):=by
  refine F.ok b1F (fun vs H Q E h=>?_) (fun cdv A outer s H vs Q E hr h=>?_)
  . obtain ⟨l1,l2,xs,ys,ps,qs,rfl,_⟩:=h
    rfl
  obtain ⟨l1,l2,xs,ys,ps,qs,rfl,h1,h2,f1,f2,hz,q⟩:=h
  refine ⟨_,i7 (m7 (a8j ["number","was","now"] [] rfl (b2w true true K rfl rfl T.enum rfl T.zip (a0 (pv 0) (a0 (pv 1) d8)))
      (fun _ _ _ _=>P1 K (n:=2) rfl rfl (j9 (j5 (i:=0) a6U rfl (Or.inl rfl)) (j9 (P1 K (n:=2) rfl rfl (j9 (j5 (i:=1) a6U rfl (Or.inl rfl)) (j9 (j5 (i:=2) a6U rfl (Or.inl rfl)) y4))) y4)))
      (fun _ _ _ _=>o4 (b0N K rfl hr) (pv 1) (pv 2) (o6 _)) (fun _ _ _ _=>M7 (a0 (pv 0) (a0 (pv 1) (a0 (pv 2) d8)))))),?_⟩
  have lp:xs.length = ps.length:=f1.length
  have lq:ys.length = qs.length:=f2.length
  refine ⟨_,rfl,_,rfl,l1,l2,rfl,⟨_,h1⟩,⟨_,h2⟩,fun p hp=>?_⟩
  refine b2c (b1:=true) (b2:=true) h1 h2 hp (j6 hz) (fun i=>decide (ps.getD i (0,0) ≠ qs.getD i (0,0))) (fun i x y H' N hx hy e hN=>?_) (fun ts H' e hp' ch=>?_)
  . obtain ⟨pq,e1,r1⟩:=A6 f1 hx
    obtain ⟨qq,e2,r2⟩:=A6 f2 hy
    have g1:ps.getD i (0,0) = pq:=by rw [List.getD_eq_getElem?_getD,e1]; rfl
    have g2:qs.getD i (0,0) = qq:=by rw [List.getD_eq_getElem?_getD,e2]; rfl
    rw [g1,g2] at hN
    refine ⟨_,rfl,_,rfl,dF pq,dF qq,FrV.dp (FrV.same e r1),FrV.dp (FrV.same e r2),a1H _,a1H _,Nat.le_trans (Nat.min_le_left _ _) (b1J _),_,rfl,?_⟩
    rw [b2r]
    have:(!decide (pq = qq)) = decide (pq ≠ qq):=by simp
    rw [this]
    exact hN
  . rw [lp,lq] at ch
    exact q p ts H' e hp hp' ch
end
end Rim
namespace L2
open PySem PySem.Spec PyProof.Rows
def b3L (K:W.Frag) (ta:TE) (f:Str):TG:=fun v σ H Q=>ta σ H fun x H2=>∃ a C dx fs,x = .ref a/\H2 a = some (.ins C dx fs)/\Cls K C/\NoAttr K C f/\fs.length < 1000/\Q σ (m5 H2 a (.ins C dx (K8 f v fs)))
theorem W5 {M:Model} {A:Around} {E:Value->Shared->Prop} {s:Shared} {env:Env} {o:Expr} {attr:Str} {pos':Pos} {v:Value} {Q:Unit->Shared->Prop}
    (h:wpAny M A (eval o env) (fun ov s₂=>wpAny M A (setAttr ov attr v) Q E s₂) E s):wpAny M A (assign (.Attribute o attr pos') env v) Q E s:=fun Γ p hΓ=>by
  simp only [assign_Attribute,Sem.wp_bind',Sem.wp_holding,Sem.wp_cmd_standAt,Sem.wp_release,Sem.wp_pure']
  exact Sem.wp_mono M Γ _ (fun ov _ s₂ h₂=>h₂ Γ _ hΓ) (fun _ _ _ h'=>h') _ _ (h Γ _ hΓ)
theorem a6N {X:Cx} {o:Expr} {f:Str} {pos:Pos} {ta:TE} (ha:PE X o ta):PG X (.Attribute o f pos) (b3L X.K ta f):=by
  intro pins s σ H v u Q I r h
  refine W5 (v8 (ha pins s σ H _ I h) fun ov s2 ⟨x,H2,I2,rx,a,C,dx,fs,ex,ea,c,n,l,q2⟩=>?_)
  subst ex
  obtain rfl:ov = Value.ref a:=rx
  exact a0K I2 ea c n l r fun s3 I3=>⟨σ,_,I3,q2⟩
end L2
namespace Rim
open PySem L2 Fr
end Rim
namespace L2
open PySem
def a5t (o:Option HO):Prop:=∀ u,o = some u->(∀ zs,u ≠ .tup zs)/\∀ a b,u ≠ .frz a b
structure Fr0 (X:Addr->Prop) (H H':Hp):Prop where
  k:∀ b o,¬ X b->H b = some o->H' b = some o
  m:∀ x,X x->a5t (H x)
section
variable {X:Addr->Prop} {H H':Hp} {K:W.Frag} {a:Addr} {xs:List V}
theorem Fr0.tup (e:Fr0 X H H') (h:H a = some (.tup xs)):H' a = some (.tup xs):=e.k a _ (fun x=>(e.m a x _ h).1 xs rfl) h
theorem Fr0.seqT (e:Fr0 X H H') (h:SqT K H a xs):SqT K H' a xs:=by
  rcases h with (h | ⟨o,h⟩) | h
  . exact .inl (.inl (e.tup h))
  . exact .inl (.inr ⟨o,e.k a _ (fun x=>(e.m a x _ h).2 _ _ rfl) h⟩)
  . exact .inr h
theorem B1 {o:Option HO} {xs:List V} (h:o = some (.lst xs)):a5t o:=fun u e=>by
  rw [h] at e
  obtain rfl:=Option.some.inj e
  exact ⟨fun zs z=>HO.noConfusion z,fun a b z=>HO.noConfusion z⟩
theorem N1 {o:Option HO} {C dx:Addr} {fs:List (Str × V)} (h:o = some (.ins C dx fs)):a5t o:=fun u e=>by
  rw [h] at e
  obtain rfl:=Option.some.inj e
  exact ⟨fun zs z=>HO.noConfusion z,fun a b z=>HO.noConfusion z⟩
theorem S3 {P:Addr} {pos:Pos} {qual:Str} {H:Hp} (T:LamTab P pos qual H):a5t (H P):=fun u e=>by
  rcases T with t | ⟨c,t,_⟩ <;> (rw [t] at e; obtain rfl:=Option.some.inj e; exact ⟨fun zs z=>HO.noConfusion z,fun a b z=>HO.noConfusion z⟩)
end
end L2
namespace Rim
open PySem L2 Fr
theorem HS.fr0 {X:Addr->Prop} {K:W.Frag} {H H':Hp} {v:V} {h:i5} (e:Fr0 X H H') (x:HS K H v h):HS K H' v h:=by
  obtain ⟨a,t,g,h0,h1,h2,h3⟩:=x
  exact ⟨a,t,g,h0,e.seqT h1,e.seqT h2,e.seqT h3⟩
theorem Bk.fr0 {X:Addr->Prop} {K:W.Frag} {H H':Hp} {vs:List V} {hs:List i5} (e:Fr0 X H H') (x:Bk K H vs hs):Bk K H' vs hs:=Paired.imp' (fun _ _ r=>HS.fr0 e r) x
theorem FrT.fr0 {X:Addr->Prop} {H H':Hp} {v:V} {q:Q2} (e:Fr0 X H H') (x:FrT H v q):FrT H' v q:=by
  obtain ⟨a,rfl,h⟩:=x
  exact ⟨a,rfl,e.tup h⟩
abbrev KFs (kt kg:Nat) (z:Str) (ta wa pa:Addr):List (Str × V):=[("many_takes",.int (kt:Int)),("many_gives",.int (kg:Int)),("sizes",.str z),("there",.ref ta),("worth",.ref wa),("past",.ref pa)]
structure TK (K:W.Frag) (C:Addr):Prop where
  cl:Cls K C
  nT:NoAttr K C "many_takes"
  nG:NoAttr K C "many_gives"
  nS:NoAttr K C "sizes"
  nH:NoAttr K C "there"
  nW:NoAttr K C "worth"
  nP:NoAttr K C "past"
abbrev T9:=List i5 × List Q2
def LevAt (K:W.Frag) (H:Hp) (lo:List Addr) (ta wa:Addr) (L:T9):Prop:=ta ∈ lo/\wa ∈ lo/\(∃ xs,H ta = some (.lst xs)/\Bk K H xs L.1)/\∃ ys,H wa = some (.lst ys)/\PySem.Paired (FrT H) ys L.2
def PastAt (K:W.Frag) (H:Hp) (lo:List Addr):List V->List T9->Prop:=PySem.Paired fun v L=>∃ t ta wa,v = .ref t/\H t = some (.tup [.ref ta,.ref wa])/\LevAt K H lo ta wa L
structure KpAt (K:W.Frag) (C:Addr) (H:Hp) (p:Addr) (kt kg:Nat) (z:Str) (L:T9) (past:List T9) (pa:Addr) (lo:List Addr):Prop where
  no:pa ∉ lo
  ls:∀ b ∈ lo,∃ xs,H b = some (.lst xs)
  ex:∃ dx ta wa pv,H p = some (.ins C dx (KFs kt kg z ta wa pa))/\LevAt K H lo ta wa L/\H pa = some (.lst pv)/\PastAt K H lo pv past
theorem LevAt.fr0 {X:Addr->Prop} {K:W.Frag} {H H':Hp} {lo lo':List Addr} {ta wa:Addr} {L:T9} (e:Fr0 X H H') (n:∀ b ∈ lo,¬ X b) (s:∀ b ∈ lo,b ∈ lo') (h:LevAt K H lo ta wa L):LevAt K H' lo' ta wa L:=by
  obtain ⟨h1,h2,⟨xs,h3,h4⟩,ys,h5,h6⟩:=h
  exact ⟨s _ h1,s _ h2,⟨xs,e.k _ _ (n _ h1) h3,h4.fr0 e⟩,ys,e.k _ _ (n _ h2) h5,Paired.imp' (fun _ _ r=>FrT.fr0 e r) h6⟩
theorem PastAt.fr0 {X:Addr->Prop} {K:W.Frag} {H H':Hp} {lo lo':List Addr} {pv:List V} {past:List T9} (e:Fr0 X H H') (n:∀ b ∈ lo,¬ X b) (s:∀ b ∈ lo,b ∈ lo') (h:PastAt K H lo pv past):PastAt K H' lo' pv past :=
  Paired.imp' (fun _ _ ⟨t,ta,wa,h1,h2,h3⟩=>⟨t,ta,wa,h1,e.tup h2,h3.fr0 e n s⟩) h
theorem KpAt.fr0 {X:Addr->Prop} {K:W.Frag} {C:Addr} {H H':Hp} {p:Addr} {kt kg:Nat} {z:Str} {L:T9} {past:List T9} {pa:Addr} {lo:List Addr} (e:Fr0 X H H') (n:∀ b ∈ lo,¬ X b) (np:¬ X p) (na:¬ X pa) (h:KpAt K C H p kt kg z L past pa lo):KpAt K C H' p kt kg z L past pa lo:=by
  obtain ⟨dx,ta,wa,pv,h1,h2,h3,h4⟩:=h.ex
  exact ⟨h.no,fun b hb=>by obtain ⟨xs,q⟩:=h.ls b hb; exact ⟨xs,e.k _ _ (n b hb) q⟩,dx,ta,wa,pv,e.k _ _ np h1,h2.fr0 e n (fun _ h=>h),e.k _ _ na h3,h4.fr0 e n (fun _ h=>h)⟩
theorem KpAt.same {K:W.Frag} {C:Addr} {H H':Hp} {p:Addr} {kt kg:Nat} {z:Str} {L:T9} {past:List T9} {pa:Addr} {lo:List Addr} (e:Same H H') (h:KpAt K C H p kt kg z L past pa lo):KpAt K C H' p kt kg z L past pa lo :=
  h.fr0 (X:=fun _=>False) ⟨fun b o _ q=>e b o q,fun _ x=>x.elim⟩ (fun _ _ x=>x) (fun x=>x) fun x=>x
def Shs (z:Str) (hs:List i5) (kt kg:Nat) (qs:List Q2):Prop:=qs.length = hs.length/\∀ (i:Nat) (h:i5) (q:Q2),hs[i]? = some h->qs[i]? = some q->∃ A B,ShU z hs h kt kg A B/\q = low A B
section
variable {P:Program} {w:World} {K:W.Frag} {mg:Str->Option Value} {base:Heap} {f C CN CB CT CL Pt:Addr} {fd:FuncData} {n:Nat}
def a2S (K:W.Frag) (C:Addr):Sp:=fun vs H Q _=>∃ (p dx:Addr) (kt kg:Nat) (z:Str),vs = [.ref p,.int (kt:Int),.int (kg:Int),.str z]/\H p = some (.ins C dx []) ∧
  ∀ (H':Hp) (pa:Addr) (lo:List Addr),KpAt K C H' p kt kg z ([],[]) [] pa lo->(∀ b o,b ≠ p->H b = some o->H' b = some o)->H pa = none->(∀ b ∈ lo,H b = none)->Q .non H'
theorem a9e:j3 ["self","takes","gives","sizes"] ["self","takes","gives","sizes"] (h8 G8):=⟨rfl,rfl,rfl,by decide +kernel,rfl,by decide +kernel,by decide +kernel⟩
set_option maxHeartbeats 1000000 in
theorem a7g (F:Fun K "__init__" "Kept.__init__" G8 f fd) (T:TK K C):FnOk P w K mg base D6 (n + 1) f fd ["self","takes","gives","sizes"] (a2S K C):=by
  refine F.ok a9e (fun vs H Q E h=>?_) (fun cdv A outer s H vs Q E hr h=>?_)
  . obtain ⟨p,dx,kt,kg,z,rfl,_⟩:=h
    rfl
  obtain ⟨p,dx,kt,kg,z,rfl,hp,q⟩:=h
  refine ⟨_,i4 (C8 (pv 0) (pv 1) rfl) (i4 (C8 (pv 0) (pv 2) rfl) (i4 (C8 (pv 0) (pv 3) rfl) (i4 (C8 (pv 0) (r9 d8) rfl) (i4 (C8 (pv 0) (r9 d8) rfl) (i7 (C8 (pv 0) (r9 d8) rfl)))))),?_⟩
  refine ⟨_,rfl,_,rfl,p,C,dx,_,rfl,hp,T.cl,T.nT,(by show 0 < 1000; decide),?_⟩
  refine ⟨_,rfl,_,rfl,p,C,dx,_,rfl,upd_same,T.cl,T.nG,(by show 1 < 1000; decide),?_⟩
  rw [L6]
  refine ⟨_,rfl,_,rfl,p,C,dx,_,rfl,upd_same,T.cl,T.nS,(by show 2 < 1000; decide),?_⟩
  rw [L6]
  refine ⟨(by show 0 <= sizeLine; decide),fun ta hta=>?_⟩
  have n1:p ≠ ta:=d7 upd_same hta
  refine ⟨_,rfl,p,C,dx,_,rfl,by rw [c9 n1]; exact upd_same,T.cl,T.nH,(by show 3 < 1000; decide),?_⟩
  refine ⟨(by show 0 <= sizeLine; decide),fun wa hwa=>?_⟩
  have n2:p ≠ wa:=d7 upd_same hwa
  refine ⟨_,rfl,p,C,dx,_,rfl,by rw [c9 n2]; exact upd_same,T.cl,T.nW,(by show 4 < 1000; decide),?_⟩
  refine ⟨(by show 0 <= sizeLine; decide),fun pa hpa=>?_⟩
  have n3:p ≠ pa:=d7 upd_same hpa
  refine ⟨_,rfl,p,C,dx,_,rfl,by rw [c9 n3]; exact upd_same,T.cl,T.nP,(by show 5 < 1000; decide),?_⟩
  have w1:wa ≠ ta:=fun z0=>by
    subst z0
    rw [c9 n2.symm,upd_same] at hwa; cases hwa
  have w2:pa ≠ wa:=fun z0=>by
    subst z0
    rw [c9 n3.symm,upd_same] at hpa; cases hpa
  have w3:pa ≠ ta:=fun z0=>by
    subst z0
    rw [c9 n3.symm,c9 w1.symm,c9 n3.symm,upd_same] at hpa; cases hpa
  have f1:H ta = none:=by rw [c9 n1.symm] at hta; exact hta
  have f2:H wa = none:=by rw [c9 n2.symm,c9 w1,c9 n2.symm] at hwa; exact hwa
  have f3:H pa = none:=by rw [c9 n3.symm,c9 w2,c9 n3.symm,c9 w3,c9 n3.symm] at hpa; exact hpa
  refine q _ pa [ta,wa] ⟨?_,fun b hb=>?_,dx,ta,wa,[],upd_same,⟨.head _,.tail _ (.head _),⟨[],?_,.nil⟩,[],?_,.nil⟩,?_,.nil⟩ (fun b o hb e=>?_) f3 fun b hb=>?_
  . intro hb
    rcases List.mem_cons.mp hb with z0 | hb
    . exact w3 z0
    . exact w2 (List.mem_singleton.mp hb)
  . rcases List.mem_cons.mp hb with rfl | hb
    . exact ⟨[],by rw [c9 n1.symm,c9 w3.symm,c9 n1.symm,c9 w1.symm,c9 n1.symm,upd_same]⟩
    . rw [List.mem_singleton.mp hb]
      exact ⟨[],by rw [c9 n2.symm,c9 w2.symm,c9 n2.symm,upd_same]⟩
  . rw [c9 n1.symm,c9 w3.symm,c9 n1.symm,c9 w1.symm,c9 n1.symm,upd_same]
  . rw [c9 n2.symm,c9 w2.symm,c9 n2.symm,upd_same]
  . rw [c9 n3.symm,upd_same]
  . rw [c9 hb,c9 (d7 e f3),c9 hb,c9 (d7 e f2),c9 hb,c9 (d7 e f1),c9 hb]; exact e
  . rcases List.mem_cons.mp hb with rfl | hb
    . exact f1
    . rw [List.mem_singleton.mp hb]; exact f2
def Left (Pt p pa:Addr) (H H':Hp):Prop:=∀ b o,b ≠ p->b ≠ Pt->b ≠ pa->H b = some o->H' b = some o
structure Fit (z:Str) (kt kg:Nat):Prop where
  z:Y9 z
  t1:1 <= kt
  t4:kt <= 4
  g4:kg <= 4
def a0v (K:W.Frag) (C Pt:Addr):Sp:=fun vs H Q _=>∃ (p ha pa:Addr) (kt kg:Nat) (z:Str) (L:T9) (past:List T9) (lo:List Addr) (xs:List V) (hs:List i5),vs = [.ref p,.ref ha]/\KpAt K C H p kt kg z L past pa lo/\Fit z kt kg/\H ha = some (.lst xs)/\Bk K H xs hs/\(∀ g ∈ hs,HG (10 ^ 9) kt kg g)/\hs.length <= 16 ∧
  ha ≠ pa/\past.length <= 1000/\LT Pt H ∧
  ∀ (H':Hp) (wa:Addr) (qs:List Q2),KpAt K C H' p kt kg z (hs,qs) (past ++ [L]) pa (ha :: wa :: lo)->Shs z hs kt kg qs->H wa = none->Left Pt p pa H H'->LT Pt H'->Q .non H'
theorem scTurnK:j3 ["self","houses","worth"] ["self","houses"] (h8 x6):=⟨rfl,rfl,rfl,by decide +kernel,rfl,by decide +kernel,by decide +kernel⟩
theorem a8I:(["number","self","houses"]:List Str).Nodup:=by decide +kernel
set_option maxHeartbeats 2000000 in
noncomputable def b2F {cdv:Value} {A:Around} {outer:List Env} {s:Shared} {H:Hp} {E:XK} {f1:Addr} {d1:FuncData} (T:v7 mg) (Cs:a1E P w K mg base n "share" ["book","number","sizes"] (a0E K CN Pt) f1 d1) (hr:Room n (A.deeper (PyProof.Rows.envOfC "Kept.turn_to" (h8 x6) s.heap.objs.size f cdv))) :
    { t:TS // PSs (J1 D6 P w K mg base ["self","houses","worth"] "Kept.turn_to" (h8 x6) f cdv A outer s H E).nox (p9 x6) t } :=
  ⟨_,o7 (a1T (i:=2) ["number"] [0,1] scTurnK.nd rfl rfl rfl (J6 rfl T.range (a0 (m9 j8 rfl T.len PySem.boot_len (a0 (pv 1) d8)) d8)) (fun _ _ _ _=>j5 (i:=0) a8I rfl (Or.inl rfl))
      (fun _ _ _ _=>j7 (a6t Cs.ok) hr rfl Cs.m Cs.k Cs.b .nil a0g (a0 (pv 2) (a0 (pv 0) (a0 (a0C K rfl (pv 1) rfl) d8)))))
    (i4 (A3 (a1N PySem.F.plainAttrs_list PySem.F.slot_list_append PySem.F.type_list_append E9 (j4 (pv 0) rfl) (a0 (M7 (a0 (j4 (pv 0) rfl) (a0 (j4 (pv 0) rfl) d8))) d8)))
    (i4 (C8 (pv 0) (pv 1) rfl)
    (i7 (C8 (pv 0) (pv 2) rfl))))⟩
end
end Rim
namespace L2
open PySem
theorem LamTab.ne {P:Addr} {pos:Pos} {qual:Str} {H:Hp} {b:Addr} {o:HO} (T:LamTab P pos qual H) (h:H b = some o) (n:∀ ps,o ≠ .tbl ps):b ≠ P:=fun z=>by
  subst z
  rcases T with t | ⟨c,t,_⟩
  . rw [h] at t; exact n _ (Option.some.inj t)
  . rw [h] at t; exact n _ (Option.some.inj t)
section
variable {fr:List Nat} {te:TE} {σ:St} {H1:Hp} {p:Addr} {D:Hp->Prop} {P:Addr} {pos:Pos} {qual:Str} {n:Nat}
theorem a8u (T:LamTab P pos qual H1) (hp:H1 p = none) (hz:n < sizeLine) (R:Nat->V->Hp->Prop)
    (hR:∀ i y H H',LamTab P pos qual H->(∃ zs,H p = some (.lst zs))->R i y H->(∀ b o,b ≠ p->b ≠ P->H b = some o->H' b = some o)->R i y H')
    (step:∀ (i:Nat) H ys (N:VK),i < n->Same1 P H1 H->LamTab P pos qual H->H p = some (.lst ys)->(∀ v H3,Same1 P H H3->LamTab P pos qual H3->R i v H3->N v H3)->te ((blkσ 1 fr σ).set 0 (some (.int (i:Int)))) H N)
    (hd:∀ ys H,Same1 P H1 H->LamTab P pos qual H->H p = some (.lst ys)->ys.length = n->(∀ i y,ys[i]? = some y->R i y H)->D H):lcW 1 fr (D7 0) te σ (Itr 0 n) H1 p D:=by
  refine ⟨fun i m ys H=>m = n - i/\i <= n/\Same1 P H1 H/\LamTab P pos qual H/\H p = some (.lst ys)/\ys.length = i/\∀ j y,ys[j]? = some y->R j y H,⟨n,by simp,Nat.zero_le _,(Same.new hp _).to1,T.same (Same.new hp _),upd_same,rfl,fun j y e=>by simp at e⟩,?_⟩
  rintro i m ys H ⟨rfl,hi,e,L,hH,len,pr⟩
  by_cases hlt:i < n
  . refine .inr ⟨hlt,fun x H' y=>?_⟩
    obtain ⟨rfl,rfl⟩:=y
    rw [Int.zero_add]
    refine ⟨Wk.set (by decide),step i _ _ _ hlt e L hH fun v H3 e3 L3 r3=>?_⟩
    have h3:=e3.get L hH nofun
    refine ⟨h3,by omega,n - (i + 1),by omega,rfl,hlt,(e.trans e3).write hp,L3.write h3,upd_same,by rw [List.length_append,len]; rfl,fun j y ey=>?_⟩
    have up:∀ b o,b ≠ p->b ≠ P->H3 b = some o->m5 H3 p (.lst (ys ++ [v])) b = some o:=fun b o hb _ q=>by rw [c9 hb]; exact q
    by_cases hj:j < ys.length
    . rw [List.getElem?_append_left hj] at ey
      exact hR j y _ _ L ⟨_,hH⟩ (pr j y ey) fun b o hb hP q=>up b o hb hP (e3 _ _ hP q)
    . rw [List.getElem?_append_right (by omega)] at ey
      have hj':j - ys.length = 0:=by
        cases q:j - ys.length with
        | zero=>rfl
        | succ k=>rw [q] at ey; simp at ey
      rw [hj'] at ey
      have:j = i:=by omega
      subst this
      simp at ey
      subst ey
      exact hR j v _ _ L3 ⟨_,h3⟩ r3 up
  . have:i = n:=by omega
    subst this
    exact .inl ⟨Nat.le_refl _,hd ys H e L hH len pr⟩
end
end L2
namespace Rim
open PySem L2 Fr
section
variable {P:Program} {w:World} {K:W.Frag} {mg:Str->Option Value} {base:Heap} {f C CN CB CT CL Pt:Addr} {fd:FuncData} {n:Nat}
theorem b1p {H:Hp} {ys:List V} {R:Nat->Q2->Prop}:(∀ (i:Nat) y,ys[i]? = some y->∃ q,R i q/\FrT H y q)->∃ qs:List Q2,PySem.Paired (FrT H) ys qs/\∀ (i:Nat) q,qs[i]? = some q->R i q:=by
  induction ys generalizing R with
  | nil=>exact fun _=>⟨[],.nil,fun i q e=>by simp at e⟩
  | cons y ys ih =>
    intro h
    obtain ⟨q,r,hq⟩:=h 0 y rfl
    obtain ⟨qs,p,k⟩:=ih (R:=fun i q=>R (i + 1) q) fun i z e=>h (i + 1) z (by simpa using e)
    refine ⟨q :: qs,.cons hq p,fun i q' e=>?_⟩
    cases i with
    | zero=>simp at e; subst e; exact r
    | succ i=>exact k i q' (by simpa using e)
set_option maxHeartbeats 4000000 in
theorem a7z {f1:Addr} {d1:FuncData} (F:Fun K "turn_to" "Kept.turn_to" x6 f fd) (T:v7 mg) (TKd:TK K C) (Cs:a1E P w K mg base n "share" ["book","number","sizes"] (a0E K CN Pt) f1 d1) :
    FnOk P w K mg base D6 (n + 1) f fd ["self","houses"] (a0v K C Pt):=by
  refine F.ok scTurnK (fun vs H Q E h=>?_) (fun cdv A outer s H vs Q E hr h=>?_)
  . obtain ⟨p,ha,pa,kt,kg,z,L,past,lo,xs,hs,rfl,_⟩:=h
    rfl
  obtain ⟨p,ha,pa,kt,kg,z,L,past,lo,xs,hs,rfl,KP,ft,hha,hB,hG,h16,nha,hpl,LTH,q⟩:=h
  refine ⟨_,(b2F T Cs hr).2,?_⟩
  obtain ⟨dx,ta,wa,pv,hp,hlv,hpa,hps⟩:=KP.ex
  have xl:xs.length = hs.length:=Paired.length hB
  have small:=j6 (show xs.length <= 1000 by omega)
  refine ⟨fun σ' H'=>∃ wl ys qs,σ' = [some (.ref p),some (.ref ha),some (.ref wl)]/\Same1 Pt H H'/\LT Pt H'/\H wl = none/\H' wl = some (.lst ys)/\PySem.Paired (FrT H') ys qs/\Shs z hs kt kg qs,?_,?_⟩
  . refine ⟨_,rfl,ha,_,rfl,.inl (SqL.of hha),_,rfl,by omega,by omega,fun wl hwl=>?_⟩
    refine a8u (P:=Pt) (pos:=a6x) (qual:=b2b) LTH hwl small (fun i y H'=>∃ q h A B,(hs[i]? = some h/\ShU z hs h kt kg A B/\q = low A B)/\FrT H' y q) (fun i y H1 H2 L1 hz r k=>?_) (fun i H1 ys N' hi e1 L1 hp1 hN=>?_) (fun ys H1 e1 L1 hp1 len pr=>?_)
    . obtain ⟨zs,hzs⟩:=hz
      obtain ⟨q,h,A,B,x,a,rfl,r⟩:=r
      exact ⟨q,h,A,B,x,a,rfl,k _ _ (w6 r hzs nofun) (L1.ne r nofun) r⟩
    . have bin:a0a K H1 ha xs hs (10 ^ 9) kt kg:=⟨SqL.of (e1.get LTH hha nofun),Bk.same1 LTH e1 hB,hG,by decide,h16,by have:=ft.t4; omega,by have:=ft.g4; omega⟩
      refine ⟨_,rfl,_,rfl,_,rfl,p,C,dx,_,_,rfl,e1.get LTH hp nofun,TKd.cl,TKd.nS,rfl,ha,xs,hs,(i:Int),z,10 ^ 9,kt,kg,rfl,ft.z,bin,ft.t1,O9 (by omega),L1,fun i' h' A' B' H7 u' hi' hh' X' e7 L7 hu'=>?_,fun bad=>absurd ⟨by omega,by omega⟩ bad⟩
      have:i' = i:=by omega
      subst this
      exact hN _ _ e7 L7 ⟨_,h',A',B',⟨hh',X',rfl⟩,hu'⟩
    . obtain ⟨qs,pq,kq⟩:=b1p (H:=H1) (ys:=ys) (R:=fun i q=>∃ h A B,hs[i]? = some h/\ShU z hs h kt kg A B/\q = low A B) fun i y e=>by
        obtain ⟨q,h,A,B,x,r⟩:=pr i y e
        exact ⟨q,⟨h,A,B,x⟩,r⟩
      refine ⟨wl,ys,qs,rfl,e1,L1,hwl,hp1,pq,by rw [<- pq.length,len,xl]; simp,fun i h q hh hq=>?_⟩
      obtain ⟨h',A,B,hh',X,e⟩:=kq i q hq
      rw [hh] at hh'; cases hh'
      exact ⟨A,B,X,e⟩
  intro σ1 H1 hM_; refine R7 fun G_ hG_=>?_; obtain ⟨wl,ys,qs,rfl,e1,L1,hwl,hwl1,pq,sh⟩:=hM_; subst hG_
  have g1:∀ {b:Addr} {o:HO},H b = some o->(∀ ps,o ≠ .tbl ps)->H1 b = some o:=fun h n=>e1.get LTH h n
  have hp1:=g1 hp nofun
  have hpa1:=g1 hpa nofun
  refine ⟨_,rfl,p,C,dx,_,_,rfl,hp1,TKd.cl,TKd.nP,rfl,.inl ⟨rfl,_,SqL.of hpa1⟩,?_⟩
  refine ⟨_,rfl,p,C,dx,_,_,rfl,hp1,TKd.cl,TKd.nH,rfl,_,rfl,p,C,dx,_,_,rfl,hp1,TKd.cl,TKd.nW,rfl,(by show 2 <= sizeLine; decide),fun t ht=>?_⟩
  have s2:=Same.new ht (.tup [V.ref ta,V.ref wa])
  have lpv:pv.length = past.length:=hps.length
  refine ⟨pa,_,_,rfl,rfl,s2 _ _ hpa1,Nat.lt_of_le_of_lt (show pv.length <= 1000 by omega) (by decide),?_⟩
  have npp:p ≠ pa:=w6 hp hpa nofun
  refine ⟨_,rfl,_,rfl,p,C,dx,_,rfl,by rw [c9 npp]; exact s2 _ _ hp1,TKd.cl,TKd.nH,(by show 6 < 1000; decide),?_⟩
  refine ⟨_,rfl,_,rfl,p,C,dx,_,rfl,upd_same,TKd.cl,TKd.nW,(by show 6 < 1000; decide),?_⟩
  rw [L6]
  have nt:t ≠ pa:=(d7 hpa1 ht).symm
  have ntp:t ≠ p:=(d7 hp1 ht).symm
  have nwp:wl ≠ p:=w6 hwl1 hp1 nofun
  have nwa:wl ≠ pa:=fun z0=>by subst z0; rw [hpa] at hwl; cases hwl
  have nwt:wl ≠ t:=d7 hwl1 ht
  have nhp:ha ≠ p:=w6 hha hp nofun
  have hha1:=g1 hha nofun
  have fr:Fr0 (fun b=>b = p \/ b = pa \/ b = Pt) H (m5 (m5 (m5 H1 t (HO.tup [V.ref ta,V.ref wa])) pa (HO.lst (pv ++ [V.ref t]))) p (HO.ins C dx (K8 "worth" (V.ref wl) (K8 "there" (V.ref ha) (KFs kt kg z ta wa pa))))):=by
    refine ⟨fun b o hx e=>?_,fun x hx=>?_⟩
    . have n1:b ≠ p:=fun z=>hx (.inl z)
      have n2:b ≠ pa:=fun z=>hx (.inr (.inl z))
      have n3:b ≠ Pt:=fun z=>hx (.inr (.inr z))
      rw [c9 n1,c9 n2]
      exact s2 _ _ (e1 _ _ n3 e)
    . rcases hx with rfl | rfl | rfl
      . exact N1 hp
      . exact B1 hpa
      . exact S3 LTH
  have fr1:Fr0 (fun b=>b = p \/ b = pa) H1 (m5 (m5 (m5 H1 t (HO.tup [V.ref ta,V.ref wa])) pa (HO.lst (pv ++ [V.ref t]))) p (HO.ins C dx (K8 "worth" (V.ref wl) (K8 "there" (V.ref ha) (KFs kt kg z ta wa pa))))):=by
    refine ⟨fun b o hx e=>?_,fun x hx=>?_⟩
    . rw [c9 fun z=>hx (.inl z),c9 fun z=>hx (.inr z)]
      exact s2 _ _ e
    . rcases hx with rfl | rfl
      . exact N1 hp1
      . exact B1 hpa1
  have nlo:∀ b ∈ lo,¬ (b = p \/ b = pa \/ b = Pt):=fun b hb hx=>by
    obtain ⟨zs,hz⟩:=KP.ls b hb
    rcases hx with rfl | rfl | rfl
    . rw [hp] at hz; cases hz
    . exact KP.no hb
    . exact LTH.ne hz nofun rfl
  refine q _ wl qs ⟨?_,fun b hb=>?_,dx,ha,wl,pv ++ [.ref t],upd_same,⟨.head _,.tail _ (.head _),⟨xs,fr.k _ _ ?_ hha,hB.fr0 fr⟩,ys,fr1.k _ _ ?_ hwl1,Paired.imp' (fun _ _ r=>FrT.fr0 fr1 r) pq⟩,?_,?_⟩ sh hwl (fun b o n1 n2 n3 e=>fr.k b o (fun hx=>hx.elim n1 fun hx=>hx.elim n3 n2) e) ?_
  . intro hb
    rcases List.mem_cons.mp hb with z0 | hb
    . exact nha z0.symm
    . rcases List.mem_cons.mp hb with z0 | hb
      . exact nwa z0.symm
      . exact KP.no hb
  . rcases List.mem_cons.mp hb with rfl | hb
    . exact ⟨xs,fr1.k _ _ (fun hx=>hx.elim nhp nha) hha1⟩
    . rcases List.mem_cons.mp hb with rfl | hb
      . exact ⟨ys,fr1.k _ _ (fun hx=>hx.elim nwp nwa) hwl1⟩
      . obtain ⟨zs,hz⟩:=KP.ls b hb
        exact ⟨zs,fr.k _ _ (nlo b hb) hz⟩
  . exact fun hx=>hx.elim nhp fun hx=>hx.elim nha (LTH.ne hha nofun)
  . exact fun hx=>hx.elim nwp nwa
  . rw [c9 npp.symm,upd_same]
  . refine Paired.app (hps.fr0 fr nlo fun b hb=>.tail _ (.tail _ hb)) (.cons ⟨t,ta,wa,rfl,?_,hlv.fr0 fr nlo fun b hb=>.tail _ (.tail _ hb)⟩ .nil)
    rw [c9 ntp,c9 nt,upd_same]
  . have L2:LT Pt (m5 H1 t (HO.tup [V.ref ta,V.ref wa])):=L1.same s2
    have L3:=L2.write (o:=.lst (pv ++ [V.ref t])) (s2 _ _ hpa1)
    rcases L3 with x | ⟨c,x,y⟩
    . exact .inl (by rw [c9 (fun z0=>by rw [z0,c9 npp,s2 _ _ hp1] at x; cases x)]; exact x)
    . exact .inr ⟨c,by rw [c9 (fun z0=>by rw [z0,c9 npp,s2 _ _ hp1] at x; cases x)]; exact x,by rw [c9 (fun z0=>by rw [z0,c9 npp,s2 _ _ hp1] at y; cases y)]; exact y⟩
end
end Rim
namespace HT
open PySem PySem.Spec PyProof.Rows L2
section
variable {prog:Program} {w:World} {A:Around} {E:Value->Shared->Prop} {s:Shared}
end
end HT
namespace L2
open PySem PySem.Spec PyProof.Rows
section
variable {X:Cx}
theorem a6E (xs:List V) (h:xs ≠ []):C5 xs none (some (-1)) = xs.take (xs.length - 1)/\C5 xs (some (-1)) none = xs.drop (xs.length - 1):=by
  have hl:0 < xs.length:=List.length_pos_iff.mpr h
  have e:∀ d,HT.sIx xs.length d (some (-1)) = xs.length - 1:=fun d=>by
    show (if (-1:Int) < 0 then ((-1:Int) + (xs.length:Int)).toNat else min (-1:Int).toNat xs.length) = _
    rw [if_pos (by decide)]; omega
  constructor
  . unfold C5
    rw [e,HT.sIx_none,List.drop_zero,Nat.sub_zero]
  . unfold C5
    rw [e,HT.sIx_none,List.take_of_length_le]
    rw [List.length_drop]; omega
end
end L2
namespace Rim
open PySem L2 Fr
def ChgL (K:W.Frag) (H:Hp) (l:Addr) (ps qs:List Q2):Prop:=∃ xs ys ts,FrL K H xs ps/\FrL K H ys qs/\H l = some (.lst ts)/\ChAt H xs ys (chI ps qs) ts
structure K3 (P:Program) (w:World) (K:W.Frag) (mg:Str->Option Value) (base:Heap) (CX:CXT) (n:Nat) (C:Addr) (m:Str) (ps:List Str) (sp:Sp) (f:Addr) (fd:FuncData):Prop where
  ok:FnOk P w K mg base CX n f fd ps sp
  bd:Binds K fd ps []
  me:a8o K C m f
section
variable {P:Program} {w:World} {K:W.Frag} {mg:Str->Option Value} {base:Heap} {f C CN CB CT CL Pt:Addr} {fd:FuncData} {n:Nat}
theorem FrL.same {H H':Hp} {xs:List V} {ps:List Q2} (e:Same H H') (h:FrL K H xs ps):FrL K H' xs ps:=Paired.imp' (fun _ _ r=>FrV.same e r) h
theorem P8 {H:Hp} {xs:List V} {ps:List Q2} (h:PySem.Paired (FrT H) xs ps):FrL K H xs ps:=Paired.imp' (fun _ _ r=>FrT.v r) h
theorem A9 {α β:Type} {F:α->β->Prop} {l:List α} {l':List β} (h:PySem.Paired F l l'):l.length = l'.length:=h.length
theorem Left.free {p pa x:Addr} {H H':Hp} (l:Left Pt p pa H H') (hp:H' p ≠ none) (hpa:H' pa ≠ none) (T:LT Pt H') (h:H' x = none):H x = none:=by
  cases q:H x with
  | none=>rfl
  | some o =>
    have n1:x ≠ p:=fun z=>hp (z ▸ h)
    have n2:x ≠ pa:=fun z=>hpa (z ▸ h)
    have n3:x ≠ Pt:=fun z=>by
      subst z
      rcases T with t | ⟨c,t,_⟩ <;> (rw [h] at t; cases t)
    rw [l x o n1 n3 n2 q] at h; cases h
theorem U3 {α:Type} {l:List α} {k:Nat} (h:l.length = k + 1):∃ a x,l = a ++ [x]/\a.length = k:=by
  refine ⟨l.dropLast,l.getLast (by intro z; rw [z] at h; simp at h),(List.dropLast_concat_getLast _).symm,by rw [List.length_dropLast]; omega⟩
theorem Q5 {α β:Type} {F:α->β->Prop}:∀ {a:List α} {b:List β} {x:α} {y:β},PySem.Paired F (a ++ [x]) (b ++ [y])->PySem.Paired F a b/\F x y
  | [],[],_,_,.cons r _=>⟨.nil,r⟩
  | [],_ :: b,_,_,.cons _ t=>by have:=t.length; simp at this
  | _ :: a,[],_,_,.cons _ t=>by have:=t.length; simp at this
  | _ :: a,_ :: b,_,_,.cons r t=>by
    obtain ⟨h1,h2⟩:=Q5 t
    exact ⟨.cons r h1,h2⟩
theorem a5Y {H H':Hp} {xs ys:List V} {is:List Nat} {ts:List V} (e:Same H H') (h:ChAt H xs ys is ts):ChAt H' xs ys is ts:=h.same fun b zs q=>e b _ q
def a2V (K:W.Frag) (C CB CT Pt:Addr):Sp:=fun vs H Q E=>∃ (p pa:Addr) (v:V) (h:i5) (kt kg:Nat) (z:Str) (L:T9) (past:List T9) (lo:List Addr),vs = [.ref p,v]/\KpAt K C H p kt kg z L past pa lo/\Fit z kt kg/\HS K H v h/\O4 h/\(∀ g ∈ L.1,HG (10 ^ 9) kt kg g)/\L.1.length <= 16/\L.2.length = L.1.length ∧
  past.length <= 1000/\LT Pt H ∧
  (GoodK h kt kg->L.1.length < 16->∀ (H':Hp) (ha wa r cl:Addr) (u:V) (qs:List Q2) (x:Q2),KpAt K C H' p kt kg z (L.1 ++ [h],qs ++ [x]) (past ++ [L]) pa (ha :: wa :: lo)->Shs z (L.1 ++ [h]) kt kg (qs ++ [x])->H ha = none->H wa = none->Left Pt p pa H H'->LT Pt H' →
    H r = none->H' r = some (.tup [u,.ref cl])->FrT H' u x->H cl = none->ChgL K H' cl L.2 qs->cl ≠ ha->cl ≠ wa->Q (.ref r) H') ∧
  (¬ GoodK h kt kg->∀ H',Same H H'->E (.ref CB) none H')/\(GoodK h kt kg->16 <= L.1.length->∀ H',Same H H'->E (.ref CT) none H')
theorem scComeK:j3 ["self","house","ahead"] ["self","house"] (h8 Q6):=⟨rfl,rfl,rfl,by decide +kernel,rfl,by decide +kernel,by decide +kernel⟩
set_option maxHeartbeats 2000000 in
theorem a7r {f1 f2 f3:Addr} {d1 d2 d3:FuncData} (F:Fun K "come" "Kept.come" Q6 f fd) (TKd:TK K C) (Ct:K3 P w K mg base D6 n C "turn_to" ["self","houses"] (a0v K C Pt) f1 d1)
    (Co:a1E P w K mg base n "with_one_more" ["houses","house","many_takes","many_gives"] (a1X K CB CT) f2 d2) (Cc:Cal P w K mg base n "changes" ["ahead","behind"] (a5G K) f3 d3) :
    FnOk P w K mg base (T3 P w) (n + 1) f fd ["self","house"] (a2V K C CB CT Pt):=by
  refine F.ok1 scComeK (fun vs H Q E h=>?_) (fun cdv A outer s H vs Q E hr h=>?_)
  . obtain ⟨p,pa,v,h,kt,kg,z,L,past,lo,rfl,_⟩:=h
    rfl
  obtain ⟨p,pa,v,h,kt,kg,z,L,past,lo,rfl,KP,ft,hH,hs,hG,h16,hql,hpl,LTH,q,hB,hT⟩:=h
  refine ⟨_,i4 (m8 (i:=2) scComeK.nd rfl (Or.inl rfl) (j4 (pv 0) rfl))
    (i4 (A3 (G2 (pv 0) TKd.cl Ct.me Ct.ok hr Ct.bd .nil p6 (a0 (j7 Co.ok hr rfl Co.m Co.k Co.b .nil X9 (a0 (j4 (pv 0) rfl) (a0 (pv 1) (a0 (j4 (pv 0) rfl) (a0 (j4 (pv 0) rfl) d8))))) d8)))
    (PSs.nox (i7 (m7 (M7 (a0 (j0 i8 (j4 (pv 0) rfl) (L8 E1 d9) (fun _ _=>rfl)) (a0 (j7 Cc.ok hr rfl Cc.m Cc.k Cc.b .nil p6 (a0 (pv 2) (a0 (A8 D8 (j4 (pv 0) rfl) P5 (y6 (L8 E1 d9))) d8))) d8))))))),?_⟩
  obtain ⟨dx,ta,wa,pv0,hp,hlv,hpa,hps⟩:=KP.ex
  obtain ⟨lv1,lv2,⟨xs,hta,hxs⟩,ys,hwa,hys⟩:=hlv
  have xl:xs.length = L.1.length:=Paired.length hxs
  refine ⟨_,rfl,p,C,dx,_,_,rfl,hp,TKd.cl,TKd.nW,rfl,?_⟩
  refine ⟨_,rfl,p,dx,_,rfl,hp,rfl,?_⟩
  refine ⟨_,rfl,p,C,dx,_,_,rfl,hp,TKd.cl,TKd.nH,rfl,_,rfl,_,rfl,p,C,dx,_,_,rfl,hp,TKd.cl,TKd.nT,rfl,_,rfl,p,C,dx,_,_,rfl,hp,TKd.cl,TKd.nG,rfl,?_⟩
  refine ⟨ta,v,xs,h,(kt:Int),(kg:Int),rfl,hta,by omega,hH,hs,O9 (by have:=ft.t4; omega),O9 (by have:=ft.g4; omega),fun g1 l16 r H1 e1 hr0 hr1=>?_,fun bad H1 e1=>hB bad H1 e1,fun g1 l16 H1 e1=>hT g1 (by omega) H1 e1⟩
  have nrpa:r ≠ pa:=fun z0=>by subst z0; rw [hpa] at hr0; cases hr0
  have gh:=g1.hg
  refine ⟨p,r,pa,kt,kg,z,L,past,lo,xs ++ [v],L.1 ++ [h],rfl,KP.same e1,ft,hr1,Paired.app (Bk.same e1 hxs) (.cons (hH.same e1) .nil),fun g hg=>?_,by rw [List.length_append,List.length_singleton]; omega,nrpa,hpl,LTH.same e1,fun H2 wl qs KP2 sh hwl lf L2=>?_⟩
  . rcases List.mem_append.mp hg with hg | hg
    . exact hG g hg
    . rw [List.mem_singleton.mp hg]; exact gh
  have lf0:Left Pt p pa H H2:=fun b o n1 n2 n3 q0=>lf b o n1 n2 n3 (e1 _ _ q0)
  have qlen:qs.length = L.1.length + 1:=by rw [sh.1,List.length_append]; rfl
  obtain ⟨qs0,x,rfl,ql0⟩:=U3 qlen
  obtain ⟨dx2,ta2,wa2,pv2,hp2,⟨m1,m2,_,ys2,hwa2,hys2⟩,hpa2,_⟩:=KP2.ex
  have yl2:ys2.length = L.1.length + 1:=by rw [A9 hys2,qlen]
  obtain ⟨ys0,u,rfl,yl0⟩:=U3 yl2
  obtain ⟨hy0,hu⟩:=Q5 hys2
  have nwp:wa ≠ p:=w6 hwa hp nofun
  have nwa:wa ≠ pa:=fun z0=>KP.no (z0 ▸ lv2)
  have nwt:wa ≠ Pt:=LTH.ne hwa nofun
  have hwa':H2 wa = some (.lst ys):=lf0 wa _ nwp nwt nwa hwa
  have hys':PySem.Paired (FrT H2) ys L.2:=Paired.imp' (fun v q ⟨a,h1,h2⟩=>⟨a,h1,lf0 a _ (w6 h2 hp nofun) (LTH.ne h2 nofun) (w6 h2 hpa nofun) h2⟩) hys
  have yl:ys.length = L.2.length:=A9 hys
  refine ⟨_,rfl,p,C,dx2,_,_,rfl,hp2,TKd.cl,TKd.nW,rfl,_,rfl,wa2,_,_,_,rfl,rfl,SqL.of hwa2,a8h ys0 u,?_⟩
  refine ⟨_,rfl,_,rfl,p,C,dx2,_,_,rfl,hp2,TKd.cl,TKd.nW,rfl,_,rfl,_,rfl,wa2,_,rfl,SqL.of hwa2,fun c0 hc0=>?_⟩
  rw [(a6E (ys0 ++ [u]) (by simp)).1]
  have ec:(ys0 ++ [u]).take ((ys0 ++ [u]).length - 1) = ys0:=by simp
  rw [ec]
  have s3:=Same.new hc0 (.lst ys0)
  refine ⟨wa,c0,ys,ys0,L.2,qs0,rfl,SqL.of (s3 _ _ hwa'),SqL.of upd_same,FrL.same s3 (P8 hys'),FrL.same s3 (P8 hy0),by omega,fun cl ts H4 e4 hcl0 hcl ch=>?_⟩
  refine ⟨(by show 2 <= sizeLine; decide),fun rt hrt=>?_⟩
  have s5:=Same.new hrt (.tup [u,V.ref cl])
  have s25:=s3.trans (e4.trans s5)
  have free:∀ {b:Addr},H2 b = none->H b = none:=fun h=>e1.free (lf.free (by rw [hp2]; nofun) (by rw [hpa2]; nofun) L2 h)
  have hclN:H2 cl = none:=s3.free hcl0
  have hrtN:H2 rt = none:=(s3.trans e4).free hrt
  have ncl:∀ b ∈ r :: wl :: lo,cl ≠ b:=fun b hb z0=>by
    subst z0
    obtain ⟨zs,hz⟩:=KP2.ls cl hb
    rw [hz] at hclN; cases hclN
  refine q g1 (by omega) _ r wl rt cl u qs0 x (KP2.same s25) sh hr0 (e1.free hwl) (fun b o n1 n2 n3 q0=>s25 _ _ (lf0 b o n1 n2 n3 q0)) (L2.same s25) (free hrtN) upd_same (hu.same s25) (free hclN) ?_ (ncl r (.head _)) (ncl wl (.tail _ (.head _)))
  exact ⟨ys,ys0,ts,FrL.same s25 (P8 hys'),FrL.same s25 (P8 hy0),s5 _ _ hcl,a5Y s5 ch⟩
end
end Rim
namespace Rim
open PySem L2 Fr
theorem a0L {α β:Type} {F:α->β->Prop} {a:List α} {b:List β} (i:Nat) (h:PySem.Paired F a b):PySem.Paired F (E6 a i) (E6 b i):=Paired.app (Paired.take i h) (Paired.drop (i + 1) h)
section
variable {P:Program} {w:World} {K:W.Frag} {mg:Str->Option Value} {base:Heap} {f C CN CB CT CL Pt:Addr} {fd:FuncData} {n:Nat}
def a5C (K:W.Frag) (C CN Pt:Addr):Sp:=fun vs H Q E=>∃ (p pa:Addr) (num:Int) (kt kg:Nat) (z:Str) (L:T9) (past:List T9) (lo:List Addr),vs = [.ref p,.int num]/\KpAt K C H p kt kg z L past pa lo/\Fit z kt kg/\(∀ g ∈ L.1,HG (10 ^ 9) kt kg g)/\L.1.length <= 16/\L.2.length = L.1.length ∧
  past.length <= 1000/\num.natAbs.log2 < 1920/\LT Pt H ∧
  (∀ i:Nat,num = (i:Int)->i < L.1.length->∀ (H':Hp) (ha wa cl:Addr) (qs:List Q2),KpAt K C H' p kt kg z (E6 L.1 i,qs) (past ++ [L]) pa (ha :: wa :: lo)->Shs z (E6 L.1 i) kt kg qs->H ha = none->H wa = none->Left Pt p pa H H'->LT Pt H' →
    H cl = none->ChgL K H' cl (E6 L.2 i) qs->cl ≠ ha->cl ≠ wa->Q (.ref cl) H') ∧
  (¬ a1B L.1.length num->∀ H',Same H H'->E (.ref CN) none H')
theorem scGoK:j3 ["self","number","houses","ahead"] ["self","number"] (h8 a0b):=⟨rfl,rfl,rfl,by decide +kernel,rfl,by decide +kernel,by decide +kernel⟩
set_option maxHeartbeats 2000000 in
theorem b0V {f1 f2 f3:Addr} {d1 d2 d3:FuncData} (F:Fun K "go" "Kept.go" a0b f fd) (TKd:TK K C) (Ct:K3 P w K mg base D6 n C "turn_to" ["self","houses"] (a0v K C Pt) f1 d1)
    (Cw:a1E P w K mg base n "without" ["houses","number"] (a2j K CN) f2 d2) (Cc:Cal P w K mg base n "changes" ["ahead","behind"] (a5G K) f3 d3) :
    FnOk P w K mg base (T3 P w) (n + 1) f fd ["self","number"] (a5C K C CN Pt):=by
  refine F.ok1 scGoK (fun vs H Q E h=>?_) (fun cdv A outer s H vs Q E hr h=>?_)
  . obtain ⟨p,pa,num,kt,kg,z,L,past,lo,rfl,_⟩:=h
    rfl
  obtain ⟨p,pa,num,kt,kg,z,L,past,lo,rfl,KP,ft,hG,h16,hql,hpl,lm,LTH,q,hN⟩:=h
  refine ⟨_,i4 (m8 (i:=2) scGoK.nd rfl (Or.inl rfl) (j7 Cw.ok hr rfl Cw.m Cw.k Cw.b .nil X9 (a0 (j4 (pv 0) rfl) (a0 (pv 1) d8))))
    (i4 (m8 (i:=3) scGoK.nd rfl (Or.inl rfl) (j7 Cw.ok hr rfl Cw.m Cw.k Cw.b .nil X9 (a0 (j4 (pv 0) rfl) (a0 (pv 1) d8))))
    (PSs.nox (i4 (A3 (G2 (pv 0) TKd.cl Ct.me Ct.ok hr Ct.bd .nil p6 (a0 (pv 2) d8)))
    (i7 (m7 (j7 Cc.ok hr rfl Cc.m Cc.k Cc.b .nil p6 (a0 (pv 3) (a0 (j4 (pv 0) rfl) d8)))))))),?_⟩
  obtain ⟨dx,ta,wa,pv0,hp,hlv,hpa,hps⟩:=KP.ex
  obtain ⟨lv1,lv2,⟨xs,hta,hxs⟩,ys,hwa,hys⟩:=hlv
  have xl:xs.length = L.1.length:=Paired.length hxs
  have yl:ys.length = L.2.length:=A9 hys
  refine ⟨_,rfl,p,C,dx,_,_,rfl,hp,TKd.cl,TKd.nH,rfl,_,rfl,ta,xs,num,rfl,SqL.of hta,by omega,lm,fun i r H1 hi hil e1 hr0 hr1=>?_,fun bad=>hN (by rw [<- xl]; exact bad) H (Same.refl _)⟩
  subst hi
  refine ⟨_,rfl,p,C,dx,_,_,rfl,e1 _ _ hp,TKd.cl,TKd.nW,rfl,_,rfl,wa,ys,(i:Int),rfl,SqL.of (e1 _ _ hwa),by omega,lm,fun i' r2 H2 hi' _ e2 hr20 hr21=>?_,fun bad=>absurd ⟨by omega,by omega⟩ bad⟩
  have:i' = i:=by omega
  subst this
  have e12:=e1.trans e2
  have nrpa:r ≠ pa:=fun z0=>by subst z0; rw [hpa] at hr0; cases hr0
  refine ⟨_,rfl,p,dx,_,rfl,e12 _ _ hp,rfl,_,rfl,?_⟩
  refine ⟨p,r,pa,kt,kg,z,L,past,lo,E6 xs i',E6 L.1 i',rfl,KP.same e12,ft,e2 _ _ hr1,Bk.same e12 (hxs.out i'),fun g hg=>hG g (a3C hg),Nat.le_trans a1p h16,nrpa,hpl,LTH.same e12,fun H3 wl qs KP2 sh hwl lf L2=>?_⟩
  have lf0:Left Pt p pa H H3:=fun b o n1 n2 n3 q0=>lf b o n1 n2 n3 (e12 _ _ q0)
  obtain ⟨dx2,ta2,wa2,pv2,hp2,⟨m1,m2,_,ys2,hwa2,hys2⟩,hpa2,_⟩:=KP2.ex
  have nr2p:r2 ≠ p:=w6 hr21 (e12 _ _ hp) nofun
  have nr2a:r2 ≠ pa:=fun z0=>by subst z0; rw [e1 _ _ hpa] at hr20; cases hr20
  have nr2t:r2 ≠ Pt:=(LTH.same e12).ne hr21 nofun
  have hr23:H3 r2 = some (.lst (E6 ys i')):=lf r2 _ nr2p nr2t nr2a hr21
  have hys':PySem.Paired (FrT H3) ys L.2:=Paired.imp' (fun v q ⟨a,h1,h2⟩=>⟨a,h1,lf0 a _ (w6 h2 hp nofun) (LTH.ne h2 nofun) (w6 h2 hpa nofun) h2⟩) hys
  have ll:(E6 ys i').length <= 1000:=Nat.le_trans a1p (by omega)
  refine ⟨_,rfl,_,rfl,p,C,dx2,_,_,rfl,hp2,TKd.cl,TKd.nW,rfl,r2,wa2,E6 ys i',ys2,E6 L.2 i',qs,rfl,SqL.of hr23,SqL.of hwa2,P8 (a0L i' hys'),P8 hys2,ll,fun cl ts H4 e4 hcl0 hcl ch=>?_⟩
  have free:∀ {b:Addr},H3 b = none->H b = none:=fun h=>e12.free (lf.free (by rw [hp2]; nofun) (by rw [hpa2]; nofun) L2 h)
  have ncl:∀ b ∈ r :: wl :: lo,cl ≠ b:=fun b hb z0=>by
    subst z0
    obtain ⟨zs,hz⟩:=KP2.ls cl hb
    rw [hz] at hcl0; cases hcl0
  exact q i' rfl (by omega) H4 r wl cl qs (KP2.same e4) sh hr0 (e12.free hwl) (fun b o n1 n2 n3 q0=>e4 _ _ (lf0 b o n1 n2 n3 q0)) (L2.same e4) (free hcl0) ⟨_,_,ts,FrL.same e4 (P8 (a0L i' hys')),FrL.same e4 (P8 hys2),hcl,ch⟩ (ncl r (.head _)) (ncl wl (.tail _ (.head _)))
def a0d {α:Type} (l:List α) (i:Nat) (x:α):List α:=(l.take i ++ [x]) ++ l.drop (i + 1)
def a1w (K:W.Frag) (C CN CB Pt:Addr):Sp:=fun vs H Q E=>∃ (p pa:Addr) (num:Int) (v:V) (h:i5) (kt kg:Nat) (z:Str) (L:T9) (past:List T9) (lo:List Addr),vs = [.ref p,.int num,v]/\KpAt K C H p kt kg z L past pa lo/\Fit z kt kg/\HS K H v h/\O4 h/\(∀ g ∈ L.1,HG (10 ^ 9) kt kg g)/\L.1.length <= 16/\L.2.length = L.1.length ∧
  past.length <= 1000/\num.natAbs.log2 < 1920/\LT Pt H ∧
  (∀ i:Nat,num = (i:Int)->i < L.1.length->GoodK h kt kg->∀ (H':Hp) (ha wa cl:Addr) (qs:List Q2),KpAt K C H' p kt kg z (a0d L.1 i h,qs) (past ++ [L]) pa (ha :: wa :: lo)->Shs z (a0d L.1 i h) kt kg qs->H ha = none->H wa = none->Left Pt p pa H H'->LT Pt H' →
    H cl = none->ChgL K H' cl L.2 qs->cl ≠ ha->cl ≠ wa->Q (.ref cl) H') ∧
  (¬ a1B L.1.length num->∀ H',Same H H'->E (.ref CN) none H')/\(a1B L.1.length num->¬ GoodK h kt kg->∀ H',Same H H'->E (.ref CB) none H')
theorem scAlterK:j3 ["self","number","house","ahead"] ["self","number","house"] (h8 O6):=⟨rfl,rfl,rfl,by decide +kernel,rfl,by decide +kernel,by decide +kernel⟩
theorem a3c {α:Type} {l:List α} {i:Nat} {x g:α} (h:g ∈ a0d l i x):g = x \/ g ∈ l:=by
  unfold a0d at h
  simp only [List.mem_append,List.mem_singleton] at h
  rcases h with (h | h) | h
  . exact .inr (List.mem_of_mem_take h)
  . exact .inl h
  . exact .inr (List.mem_of_mem_drop h)
theorem a3a {α:Type} {l:List α} {i:Nat} {x:α} (h:i < l.length):(a0d l i x).length = l.length:=by unfold a0d; simp; omega
set_option maxHeartbeats 2000000 in
theorem a5Z {f1 f2 f3:Addr} {d1 d2 d3:FuncData} (F:Fun K "alter" "Kept.alter" O6 f fd) (TKd:TK K C) (Ct:K3 P w K mg base D6 n C "turn_to" ["self","houses"] (a0v K C Pt) f1 d1)
    (Ca:a1E P w K mg base n "with_another" ["houses","number","house","many_takes","many_gives"] (a2m K CN CB) f2 d2) (Cc:Cal P w K mg base n "changes" ["ahead","behind"] (a5G K) f3 d3) :
    FnOk P w K mg base (T3 P w) (n + 1) f fd ["self","number","house"] (a1w K C CN CB Pt):=by
  refine F.ok1 scAlterK (fun vs H Q E h=>?_) (fun cdv A outer s H vs Q E hr h=>?_)
  . obtain ⟨p,pa,num,v,h,kt,kg,z,L,past,lo,rfl,_⟩:=h
    rfl
  obtain ⟨p,pa,num,v,h,kt,kg,z,L,past,lo,rfl,KP,ft,hH,hs,hG,h16,hql,hpl,lm,LTH,q,hN,hB⟩:=h
  refine ⟨_,i4 (m8 (i:=3) scAlterK.nd rfl (Or.inl rfl) (j4 (pv 0) rfl))
    (i4 (A3 (G2 (pv 0) TKd.cl Ct.me Ct.ok hr Ct.bd .nil p6 (a0 (j7 Ca.ok hr rfl Ca.m Ca.k Ca.b .nil X9 (a0 (j4 (pv 0) rfl) (a0 (pv 1) (a0 (pv 2) (a0 (j4 (pv 0) rfl) (a0 (j4 (pv 0) rfl) d8)))))) d8)))
    (PSs.nox (i7 (m7 (j7 Cc.ok hr rfl Cc.m Cc.k Cc.b .nil p6 (a0 (pv 3) (a0 (j4 (pv 0) rfl) d8))))))),?_⟩
  obtain ⟨dx,ta,wa,pv0,hp,hlv,hpa,hps⟩:=KP.ex
  obtain ⟨lv1,lv2,⟨xs,hta,hxs⟩,ys,hwa,hys⟩:=hlv
  have xl:xs.length = L.1.length:=Paired.length hxs
  have yl:ys.length = L.2.length:=A9 hys
  refine ⟨_,rfl,p,C,dx,_,_,rfl,hp,TKd.cl,TKd.nW,rfl,?_⟩
  refine ⟨_,rfl,p,dx,_,rfl,hp,rfl,?_⟩
  refine ⟨_,rfl,p,C,dx,_,_,rfl,hp,TKd.cl,TKd.nH,rfl,_,rfl,_,rfl,_,rfl,p,C,dx,_,_,rfl,hp,TKd.cl,TKd.nT,rfl,_,rfl,p,C,dx,_,_,rfl,hp,TKd.cl,TKd.nG,rfl,?_⟩
  refine ⟨ta,v,xs,h,num,(kt:Int),(kg:Int),rfl,hta,by omega,hH,hs,lm,O9 (by have:=ft.t4; omega),O9 (by have:=ft.g4; omega),fun i hi hil g1 r H1 e1 hr0 hr1=>?_,fun bad H1 e1=>hN (by rw [<- xl]; exact bad) H1 e1,fun gd bad H1 e1=>hB (by rw [<- xl]; exact gd) bad H1 e1⟩
  subst hi
  have nrpa:r ≠ pa:=fun z0=>by subst z0; rw [hpa] at hr0; cases hr0
  refine ⟨p,r,pa,kt,kg,z,L,past,lo,_,a0d L.1 i h,rfl,KP.same e1,ft,hr1,Paired.app (Paired.app (Paired.take i (Bk.same e1 hxs)) (.cons (hH.same e1) .nil)) (Paired.drop (i + 1) (Bk.same e1 hxs)),fun g hg=>?_,by rw [a3a (by omega)]; exact h16,nrpa,hpl,LTH.same e1,fun H3 wl qs KP2 sh hwl lf L2=>?_⟩
  . rcases a3c hg with rfl | hg
    . exact g1.hg
    . exact hG g hg
  have lf0:Left Pt p pa H H3:=fun b o n1 n2 n3 q0=>lf b o n1 n2 n3 (e1 _ _ q0)
  obtain ⟨dx2,ta2,wa2,pv2,hp2,⟨m1,m2,_,ys2,hwa2,hys2⟩,hpa2,_⟩:=KP2.ex
  have nwp:wa ≠ p:=w6 hwa hp nofun
  have nwa:wa ≠ pa:=fun z0=>KP.no (z0 ▸ lv2)
  have nwt:wa ≠ Pt:=LTH.ne hwa nofun
  have hwa':H3 wa = some (.lst ys):=lf0 wa _ nwp nwt nwa hwa
  have hys':PySem.Paired (FrT H3) ys L.2:=Paired.imp' (fun v q ⟨a,h1,h2⟩=>⟨a,h1,lf0 a _ (w6 h2 hp nofun) (LTH.ne h2 nofun) (w6 h2 hpa nofun) h2⟩) hys
  refine ⟨_,rfl,_,rfl,p,C,dx2,_,_,rfl,hp2,TKd.cl,TKd.nW,rfl,wa,wa2,ys,ys2,L.2,qs,rfl,SqL.of hwa',SqL.of hwa2,P8 hys',P8 hys2,by omega,fun cl ts H4 e4 hcl0 hcl ch=>?_⟩
  have free:∀ {b:Addr},H3 b = none->H b = none:=fun h=>e1.free (lf.free (by rw [hp2]; nofun) (by rw [hpa2]; nofun) L2 h)
  have ncl:∀ b ∈ r :: wl :: lo,cl ≠ b:=fun b hb z0=>by
    subst z0
    obtain ⟨zs,hz⟩:=KP2.ls cl hb
    rw [hz] at hcl0; cases hcl0
  exact q i rfl (by omega) g1 H4 r wl cl qs (KP2.same e4) sh hr0 (e1.free hwl) (fun b o n1 n2 n3 q0=>e4 _ _ (lf0 b o n1 n2 n3 q0)) (L2.same e4) (free hcl0) ⟨_,_,ts,FrL.same e4 (P8 hys'),FrL.same e4 (P8 hys2),hcl,ch⟩ (ncl r (.head _)) (ncl wl (.tail _ (.head _)))
def a2M (K:W.Frag) (C CL Pt:Addr):Sp:=fun vs H Q E=>∃ (p pa:Addr) (kt kg:Nat) (z:Str) (L:T9) (past:List T9) (lo:List Addr),vs = [.ref p]/\KpAt K C H p kt kg z L past pa lo/\LT Pt H ∧
  (∀ (L0:T9) (past0:List T9) (H':Hp),past = past0 ++ [L0]->KpAt K C H' p kt kg z L0 past0 pa lo->Left Pt p pa H H'->LT Pt H'->Q .non H')/\(past = []->∀ H',Same H H'->E (.ref CL) none H')
theorem a9a:j3 ["self"] ["self"] (h8 R3):=⟨rfl,rfl,rfl,by decide +kernel,rfl,by decide +kernel,by decide +kernel⟩
theorem LamTab.writeI {Pt:Addr} {H:Hp} {p C dx:Addr} {fs:List (Str × V)} {o:HO} (T:LT Pt H) (h:H p = some (.ins C dx fs)):LT Pt (m5 H p o):=by
  rcases T with x | ⟨c,x,y⟩
  . exact .inl (by rw [c9 (fun z0=>by rw [z0,h] at x; cases x)]; exact x)
  . exact .inr ⟨c,by rw [c9 (fun z0=>by rw [z0,h] at x; cases x)]; exact x,by rw [c9 (fun z0=>by rw [z0,h] at y; cases y)]; exact y⟩
set_option maxHeartbeats 2000000 in
theorem a7m (F:Fun K "back" "Kept.back" R3 f fd) (TKd:TK K C) (kL:a2C K CL) (mL:mg "NothingLeft" = some (.ref CL)):FnOk P w K mg base (T3 P w) (n + 1) f fd ["self"] (a2M K C CL Pt):=by
  refine F.ok1 a9a (fun vs H Q E h=>?_) (fun cdv A outer s H vs Q E hr h=>?_)
  . obtain ⟨p,pa,kt,kg,z,L,past,lo,rfl,_⟩:=h
    rfl
  obtain ⟨p,pa,kt,kg,z,L,past,lo,rfl,KP,LTH,q,hL⟩:=h
  refine ⟨_,i4 (x8 (Y8 (a6S (j4 (pv 0) rfl) (fun _=>rfl))) (i7 (Y3 kL rfl mL hr.hd (a0 U4 d8))) r6)
    (PSs.nox (i7 (M8 (b1o PySem.F.plainAttrs_list PySem.F.slot_list_pop PySem.F.type_list_pop b1h (j4 (pv 0) rfl)) (V0 rfl (j9 (a6N (pv 0)) (j9 (a6N (pv 0)) y4)))))),?_⟩
  obtain ⟨dx,ta,wa,pv0,hp,hlv,hpa,hps⟩:=KP.ex
  have lpv:pv0.length = past.length:=A9 hps
  refine ⟨_,rfl,p,C,dx,_,_,rfl,hp,TKd.cl,TKd.nP,rfl,_,.inl ⟨_,SqL.of hpa,rfl⟩,?_⟩
  rcases List.eq_nil_or_concat past with e | ⟨past0,L0,e⟩
  . subst e
    have:pv0 = []:=List.eq_nil_of_length_eq_zero (by simpa using lpv)
    subst this
    refine a0r ?_
    exact ⟨(by show 1 <= 1000; decide),hL rfl H (Same.refl _)⟩
  . rw [List.concat_eq_append] at e
    subst e
    obtain ⟨pv1,v,rfl,l1⟩:=U3 (l:=pv0) (k:=past0.length) (by rw [lpv]; simp)
    obtain ⟨hps1,t,ta0,wa0,rfl,ht,hl0⟩:=Q5 hps
    have ne0:(!(pv1 ++ [V.ref t]).isEmpty) = true:=by simp
    rw [ne0]
    refine X6 ?_
    have gl:(pv1 ++ [V.ref t])[(pv1 ++ [V.ref t]).length - 1]? = some (V.ref t):=by simp
    refine ⟨_,rfl,p,C,dx,_,_,rfl,hp,TKd.cl,TKd.nP,rfl,.inl ⟨rfl,_,SqL.of hpa⟩,pa,_,_,rfl,rfl,hpa,gl,?_⟩
    have npp:p ≠ pa:=w6 hp hpa nofun
    have ntp:t ≠ p:=w6 ht hp nofun
    have nta:t ≠ pa:=w6 ht hpa nofun
    refine ⟨t,_,rfl,SqT.of (by rw [c9 nta]; exact ht),rfl,_,_,rfl,⟨_,rfl,p,C,dx,_,rfl,by rw [c9 npp]; exact hp,TKd.cl,TKd.nH,(by show 6 < 1000; decide),_,_,rfl,⟨_,rfl,p,C,dx,_,rfl,upd_same,TKd.cl,TKd.nW,(by show 6 < 1000; decide),rfl,?_⟩⟩⟩
    rw [L6]
    have ed:(pv1 ++ [V.ref t]).dropLast = pv1:=by simp
    rw [ed]
    have fr:Fr0 (fun b=>b = p \/ b = pa) H (m5 (m5 H pa (HO.lst pv1)) p (HO.ins C dx (K8 "worth" (V.ref wa0) (K8 "there" (V.ref ta0) (KFs kt kg z ta wa pa))))):=by
      refine ⟨fun b o hx e=>?_,fun x hx=>?_⟩
      . rw [c9 fun z=>hx (.inl z),c9 fun z=>hx (.inr z)]; exact e
      . rcases hx with rfl | rfl
        . exact N1 hp
        . exact B1 hpa
    have nlo:∀ b ∈ lo,¬ (b = p \/ b = pa):=fun b hb hx=>by
      obtain ⟨zs,hz⟩:=KP.ls b hb
      rcases hx with rfl | rfl
      . rw [hp] at hz; cases hz
      . exact KP.no hb
    refine q L0 past0 _ (by simp) ⟨KP.no,fun b hb=>?_,dx,ta0,wa0,pv1,upd_same,hl0.fr0 fr nlo fun _ h=>h,by rw [c9 npp.symm,upd_same],PastAt.fr0 fr nlo (fun _ h=>h) hps1⟩ (fun b o n1 n2 n3 e=>fr.k b o (fun hx=>hx.elim n1 n3) e) ?_
    . obtain ⟨zs,hz⟩:=KP.ls b hb
      exact ⟨zs,fr.k _ _ (nlo b hb) hz⟩
    . exact LamTab.writeI (LTH.write hpa) (by rw [c9 npp]; exact hp)
def Y4 (K:W.Frag) (C:Addr):Sp:=fun vs H Q _=>∃ (p pa:Addr) (kt kg:Nat) (z:Str) (L:T9) (past:List T9) (lo:List Addr),vs = [.ref p]/\KpAt K C H p kt kg z L past pa lo ∧
  ∀ (l:Addr) (xs:List V) (H':Hp),Same H H'->H l = none->H' l = some (.lst xs)->Bk K H' xs L.1->Q (.ref l) H'
theorem a5W:j3 ["self"] ["self"] (h8 M4):=⟨rfl,rfl,rfl,by decide +kernel,rfl,by decide +kernel,by decide +kernel⟩
theorem a4o (F:Fun K "houses" "Kept.houses" M4 f fd) (T:v7 mg) (TKd:TK K C):FnOk P w K mg base D6 (n + 1) f fd ["self"] (Y4 K C):=by
  refine F.ok a5W (fun vs H Q E h=>?_) (fun cdv A outer s H vs Q E hr h=>?_)
  . obtain ⟨p,pa,kt,kg,z,L,past,lo,rfl,_⟩:=h
    rfl
  obtain ⟨p,pa,kt,kg,z,L,past,lo,rfl,KP,q⟩:=h
  refine ⟨_,i7 (m7 (u0 x9 rfl T.list PyProof.Rows.boot_list (a0 (j4 (pv 0) rfl) d8))),?_⟩
  obtain ⟨dx,ta,wa,pv0,hp,⟨lv1,lv2,⟨xs,hta,hxs⟩,ys,hwa,hys⟩,hpa,hps⟩:=KP.ex
  refine ⟨_,rfl,p,C,dx,_,_,rfl,hp,TKd.cl,TKd.nH,rfl,ta,xs,rfl,.inl (SqL.of hta),fun l hl=>?_⟩
  have s1:=Same.new hl (.lst xs)
  exact q l xs _ s1 hl upd_same (Bk.same s1 hxs)
end
end Rim
namespace L2
open PySem
mutual
inductive Dq (K:W.Frag) (H:Hp) (F:Addr->Prop):V->PyData->Prop
  | non:Dq K H F .non .none
  | int (i:Int):Dq K H F (.int i) (.int i)
  | lst {a:Addr} {xs:List V} {ds:List PyData}:F a->H a = some (.lst xs)->Dqs K H F xs ds->Dq K H F (.ref a) (.list ds)
  | tup {a:Addr} {xs:List V} {ds:List PyData}:SqT K H a xs->Dqs K H F xs ds->Dq K H F (.ref a) (.tuple ds)
inductive Dqs (K:W.Frag) (H:Hp) (F:Addr->Prop):List V->List PyData->Prop
  | nil:Dqs K H F [] []
  | cons {x:V} {xs:List V} {d:PyData} {ds:List PyData}:Dq K H F x d->Dqs K H F xs ds->Dqs K H F (x :: xs) (d :: ds)
end
section
variable {K:W.Frag} {H H':Hp} {F F':Addr->Prop}
mutual
theorem Dq.dp:∀ {x:V} {d:PyData},Dq K H F x d->Dp K H x d
  | _,_,.non=>.non
  | _,_,.int i=>.int i
  | _,_,.lst _ h r=>.lst (SqL.of h) (Dqs.dp r)
  | _,_,.tup h r=>.tup h (Dqs.dp r)
theorem Dqs.dp:∀ {xs:List V} {ds:List PyData},Dqs K H F xs ds->Dps K H xs ds
  | _,_,.nil=>.nil
  | _,_,.cons a r=>.cons (Dq.dp a) (Dqs.dp r)
end
mutual
theorem Dq.go {X:Addr->Prop} (e:Fr0 X H H') (k:∀ a xs,F a->H a = some (.lst xs)->F' a/\¬ X a):∀ {x:V} {d:PyData},Dq K H F x d->Dq K H' F' x d
  | _,_,.non=>.non
  | _,_,.int i=>.int i
  | _,_,.lst f h r=>.lst (k _ _ f h).1 (e.k _ _ (k _ _ f h).2 h) (Dqs.go e k r)
  | _,_,.tup h r=>.tup (e.seqT h) (Dqs.go e k r)
theorem Dqs.go {X:Addr->Prop} (e:Fr0 X H H') (k:∀ a xs,F a->H a = some (.lst xs)->F' a/\¬ X a):∀ {xs:List V} {ds:List PyData},Dqs K H F xs ds->Dqs K H' F' xs ds
  | _,_,.nil=>.nil
  | _,_,.cons a r=>.cons (Dq.go e k a) (Dqs.go e k r)
end
theorem Same.fr0 (e:Same H H'):Fr0 (fun _=>False) H H':=⟨fun b o _ q=>e b o q,fun _ x=>x.elim⟩
theorem Dq.same (e:Same H H') (k:∀ a,F a->F' a) {x:V} {d:PyData} (h:Dq K H F x d):Dq K H' F' x d:=h.go e.fr0 fun a _ f _=>⟨k a f,fun z=>z⟩
theorem Dqs.same (e:Same H H') (k:∀ a,F a->F' a) {x:List V} {d:List PyData} (h:Dqs K H F x d):Dqs K H' F' x d:=h.go e.fr0 fun a _ f _=>⟨k a f,fun z=>z⟩
theorem a3V {α:Type} {R:V->α->Prop} {g:α->PyData} (r:∀ v a,R v a->Dq K H F v (g a)):∀ {vs:List V} {as:List α},PySem.Paired R vs as->Dqs K H F vs (as.map g)
  | _,_,.nil=>.nil
  | _,_,.cons x t=>.cons (r _ _ x) (a3V r t)
theorem a1c:∀ ns:List Int,Dqs K H F (ns.map V.int) (ns.map PyData.int)
  | []=>.nil
  | n :: ns=>.cons (.int n) (a1c ns)
end
end L2
namespace Rim
open PySem L2 Fr
section
variable {P:Program} {w:World} {K:W.Frag} {mg:Str->Option Value} {base:Heap} {f C CN CB CT CL Pt:Addr} {fd:FuncData} {n:Nat}
theorem b2B {H:Hp} {F:Addr->Prop} {v:V} {h:i5} (x:HS K H v h):Dq K H F v (Q8 h):=by
  obtain ⟨a,t,g,rfl,h0,h1,h2⟩:=x
  exact .tup h0 (.cons (.tup h1 (a1c _)) (.cons (.tup h2 (a1c _)) .nil))
theorem a8k {H:Hp} {F:Addr->Prop} {v:V} {q:Q2} (x:FrT H v q):Dq K H F v (dF q):=by
  obtain ⟨a,rfl,h⟩:=x
  exact .tup (SqT.of h) (.cons (.int _) (.cons (.int _) .nil))
theorem a7v {H:Hp} {F:Addr->Prop} {v:V} {q:Q2} (x:FrV K H v q):Dq K H F v (dF q):=by
  obtain ⟨a,rfl,h⟩:=x
  exact .tup h (.cons (.int _) (.cons (.int _) .nil))
def a1R (K:W.Frag) (C:Addr):Sp:=fun vs H Q _=>∃ (p pa:Addr) (kt kg:Nat) (z:Str) (L:T9) (past:List T9) (lo:List Addr),vs = [.ref p]/\KpAt K C H p kt kg z L past pa lo ∧
  ∀ (l:Addr) (ys:List V) (H':Hp),Same H H'->H l = none->H' l = some (.lst ys)->PySem.Paired (FrT H') ys L.2->Q (.ref l) H'
theorem a5T:j3 ["self"] ["self"] (h8 M2):=⟨rfl,rfl,rfl,by decide +kernel,rfl,by decide +kernel,by decide +kernel⟩
theorem a4n (F:Fun K "shares" "Kept.shares" M2 f fd) (T:v7 mg) (TKd:TK K C):FnOk P w K mg base D6 (n + 1) f fd ["self"] (a1R K C):=by
  refine F.ok a5T (fun vs H Q E h=>?_) (fun cdv A outer s H vs Q E hr h=>?_)
  . obtain ⟨p,pa,kt,kg,z,L,past,lo,rfl,_⟩:=h
    rfl
  obtain ⟨p,pa,kt,kg,z,L,past,lo,rfl,KP,q⟩:=h
  refine ⟨_,i7 (m7 (u0 x9 rfl T.list PyProof.Rows.boot_list (a0 (j4 (pv 0) rfl) d8))),?_⟩
  obtain ⟨dx,ta,wa,pv0,hp,⟨lv1,lv2,⟨xs,hta,hxs⟩,ys,hwa,hys⟩,hpa,hps⟩:=KP.ex
  refine ⟨_,rfl,p,C,dx,_,_,rfl,hp,TKd.cl,TKd.nW,rfl,wa,ys,rfl,.inl (SqL.of hwa),fun l hl=>?_⟩
  have s1:=Same.new hl (.lst ys)
  exact q l ys _ s1 hl upd_same (Paired.imp' (fun _ _ r=>r.same s1) hys)
def a6J (K:W.Frag) (C Pt:Addr):Sp:=fun vs H Q _=>∃ (p pa:Addr) (kt kg:Nat) (z:Str) (L:T9) (past:List T9) (lo:List Addr),vs = [.ref p]/\KpAt K C H p kt kg z L past pa lo/\Fit z kt kg/\(∀ g ∈ L.1,HG (10 ^ 9) kt kg g)/\L.1.length <= 16/\LT Pt H ∧
  ∀ (H':Hp) (r:Addr),Same1 Pt H H'->LT Pt H'->H r = none->H' r = some (.lst ((a1F z L.1).map fun (i:Nat)=>V.int (i:Int)))->Q (.ref r) H'
theorem b0x:j3 ["self"] ["self"] (h8 U8):=⟨rfl,rfl,rfl,by decide +kernel,rfl,by decide +kernel,by decide +kernel⟩
theorem a8y {f1:Addr} {d1:FuncData} (F:Fun K "rim" "Kept.rim" U8 f fd) (TKd:TK K C) (Cr:V9 P w K mg base n "rim_of" ["book","sizes"] (a5E K Pt) f1 d1):FnOk P w K mg base D6 (n + 1) f fd ["self"] (a6J K C Pt):=by
  refine F.ok b0x (fun vs H Q E h=>?_) (fun cdv A outer s H vs Q E hr h=>?_)
  . obtain ⟨p,pa,kt,kg,z,L,past,lo,rfl,_⟩:=h
    rfl
  obtain ⟨p,pa,kt,kg,z,L,past,lo,rfl,KP,ft,hG,h16,LTH,q⟩:=h
  refine ⟨_,i7 (m7 (j7 Cr.ok hr rfl Cr.m Cr.k Cr.b .nil p6 (a0 (j4 (pv 0) rfl) (a0 (j4 (pv 0) rfl) d8)))),?_⟩
  obtain ⟨dx,ta,wa,pv0,hp,⟨lv1,lv2,⟨xs,hta,hxs⟩,ys,hwa,hys⟩,hpa,hps⟩:=KP.ex
  refine ⟨_,rfl,p,C,dx,_,_,rfl,hp,TKd.cl,TKd.nH,rfl,_,rfl,p,C,dx,_,_,rfl,hp,TKd.cl,TKd.nS,rfl,?_⟩
  exact ⟨ta,xs,L.1,z,10 ^ 9,kt,kg,rfl,ft.z,⟨SqL.of hta,hxs,hG,by decide,h16,by have:=ft.t4; omega,by have:=ft.g4; omega⟩,by decide,LTH,q⟩
theorem Shs.uniq {z:Str} {hs:List i5} {kt kg:Nat} {qs qs':List Q2} (hz:Y9 z) (hG:∀ g ∈ hs,HG (10 ^ 9) kt kg g) (a:Shs z hs kt kg qs) (b:Shs z hs kt kg qs'):qs = qs':=by
  refine List.ext_getElem (by rw [a.1,b.1]) fun i h1 h2=>?_
  have hi:i < hs.length:=by rw [<- a.1]; exact h1
  obtain ⟨A,B,x,e⟩:=a.2 i hs[i] qs[i] (List.getElem?_eq_getElem hi) (List.getElem?_eq_getElem h1)
  obtain ⟨A',B',x',e'⟩:=b.2 i hs[i] qs'[i] (List.getElem?_eq_getElem hi) (List.getElem?_eq_getElem h2)
  rw [e,e']
  exact x.fr hz x'.s hG (hG _ (List.getElem_mem hi))
open Classical in
noncomputable def T5 (z:Str) (kt kg:Nat) (hs:List i5):List Q2:=if h:∃ qs,Shs z hs kt kg qs then Classical.choose h else []
theorem Shs.q {z:Str} {hs:List i5} {kt kg:Nat} {qs:List Q2} (hz:Y9 z) (hG:∀ g ∈ hs,HG (10 ^ 9) kt kg g) (a:Shs z hs kt kg qs):qs = T5 z kt kg hs:=by
  have h:∃ qs,Shs z hs kt kg qs:=⟨_,a⟩
  unfold T5
  rw [dif_pos h]
  exact a.uniq hz hG (Classical.choose_spec h)
theorem a5b {z:Str} {kt kg:Nat}:T5 z kt kg [] = []:=by
  unfold T5
  split
  . next h=>exact List.eq_nil_of_length_eq_zero (Classical.choose_spec h).1
  . rfl
noncomputable def lv (z:Str) (kt kg:Nat) (hs:List i5):T9:=(hs,T5 z kt kg hs)
noncomputable def a0q (ps qs:List Q2):PyData:=.list ((chI ps qs).map fun (i:Nat)=>.tuple [.int (i:Int),dF (ps.getD i (0,0)),dF (qs.getD i (0,0))])
theorem ChgL.dq {H:Hp} {F:Addr->Prop} {l:Addr} {ps qs:List Q2} (h:ChgL K H l ps qs) (hF:F l):Dq K H F (.ref l) (a0q ps qs):=by
  obtain ⟨xs,ys,ts,h1,h2,h3,h4⟩:=h
  refine .lst hF h3 ?_
  have:∀ {is:List Nat} {ts:List V},ChAt H xs ys is ts->Dqs K H F ts (is.map fun (i:Nat)=>.tuple [.int (i:Int),dF (ps.getD i (0,0)),dF (qs.getD i (0,0))]):=by
    intro is ts h
    induction h with
    | nil=>exact .nil
    | @cons i v is ts r _ ih =>
      obtain ⟨t,x,y,rfl,ex,ey,ht⟩:=r
      obtain ⟨p,e1,r1⟩:=A6 h1 ex
      obtain ⟨q,e2,r2⟩:=A6 h2 ey
      have g1:ps.getD i (0,0) = p:=by rw [List.getD_eq_getElem?_getD,e1]; rfl
      have g2:qs.getD i (0,0) = q:=by rw [List.getD_eq_getElem?_getD,e2]; rfl
      refine .cons (.tup (SqT.of ht) (.cons (.int _) (.cons ?_ (.cons ?_ .nil)))) ih
      . rw [g1]; exact a7v r1
      . rw [g2]; exact a7v r2
  exact this h4
noncomputable def U0 (z:Str) (kt kg:Nat) (hs:List i5):PyData:=.list [.list (hs.map Q8),.list ((T5 z kt kg hs).map dF),.list ((a1F z hs).map fun (i:Nat)=>.int (i:Int))]
end
end Rim
namespace L2
open PySem PySem.Spec PyProof.Rows
section
variable {X:Cx} {CX:CXT} {k:Nat} {f C:Addr} {fd:FuncData} {ps:List Str} {sp:Sp} {EX:St->XK} {m:Str} {pos apos:Pos} {o e:Expr} {es:List Expr} {ta:TE} {t:TA}
end
end L2
namespace L2
open PySem
def b1S (t:TT):TT:=fun σ H Q=>∃ M:Bool->Hp->Prop,t σ H M/\∀ b H',M b H'->Q b H'
theorem a2t {X:Cx} {e:Expr} {t:TT} (h:PT X e t):PT X e (b1S t):=fun pins s σ H Q I ⟨M,h1,h2⟩=>v8 (h pins s σ H M I h1) fun b s' ⟨H',I',q⟩=>⟨H',I',h2 b H' q⟩
end L2
namespace Rim
open PySem L2 Fr
section
variable {K:W.Frag} {C Pt:Addr} {H H':Hp} {p pa:Addr} {lo:List Addr} {kt kg:Nat} {z:Str} {L:T9} {past:List T9}
theorem W2 (T:LT Pt H) (e:Same1 Pt H H'):Fr0 (fun b=>b = Pt) H H':=⟨fun b o n h=>e b o n h,fun x hx=>by subst hx; exact S3 T⟩
theorem KpAt.same1 (T:LT Pt H) (e:Same1 Pt H H') (h:KpAt K C H p kt kg z L past pa lo):KpAt K C H' p kt kg z L past pa lo:=by
  obtain ⟨dx,ta,wa,pv0,hp,_,hpa,_⟩:=h.ex
  refine h.fr0 (W2 T e) (fun b hb=>?_) (T.ne hp nofun) (T.ne hpa nofun)
  obtain ⟨zs,hz⟩:=h.ls b hb
  exact T.ne hz nofun
theorem b2z {x:Addr} (e:Same1 Pt H H') (T:LT Pt H') (h:H' x = none):H x = none:=by
  cases q:H x with
  | none=>rfl
  | some o =>
    have n3:x ≠ Pt:=fun z=>by
      subst z
      rcases T with t | ⟨c,t,_⟩ <;> (rw [h] at t; cases t)
    rw [e x o n3 q] at h; cases h
end
structure Dd where
  d:Int
  pk:Int
  h:i5
  lf:Int
abbrev KS:=List i5 × List (List i5)
def atD (S:KS) (d:Dd):Nat:=(d.pk % (S.1.length:Int)).toNat
def stp (S:KS) (d:Dd):KS :=
  if d.d = 1/\0 < S.1.length then (E6 S.1 (atD S d),S.2 ++ [S.1])
  else if d.d = 2/\0 < S.1.length then (a0d S.1 (atD S d) d.h,S.2 ++ [S.1])
  else if d.d = 3/\0 < d.lf then (S.2.getLastD [],S.2.dropLast)
  else if S.1.length = 16 then (E6 S.1 (atD S d),S.2 ++ [S.1])
  else (S.1 ++ [d.h],S.2 ++ [S.1])
noncomputable def otD (z:Str) (kt kg:Nat) (S:KS) (d:Dd):PyData :=
  if d.d = 1/\0 < S.1.length then a0q (E6 (T5 z kt kg S.1) (atD S d)) (T5 z kt kg (E6 S.1 (atD S d)))
  else if d.d = 2/\0 < S.1.length then a0q (T5 z kt kg S.1) (T5 z kt kg (a0d S.1 (atD S d) d.h))
  else if d.d = 3/\0 < d.lf then .none
  else if S.1.length = 16 then a0q (E6 (T5 z kt kg S.1) (atD S d)) (T5 z kt kg (E6 S.1 (atD S d)))
  else .tuple [dF ((T5 z kt kg (S.1 ++ [d.h])).getLastD (0,0)),a0q (T5 z kt kg S.1) (T5 z kt kg (S.1 ++ [d.h])).dropLast]
structure OkK (z:Str) (kt kg:Nat) (hs:List i5):Prop where
  m:hs.length <= 16
  g:∀ g ∈ hs,HG (10 ^ 9) kt kg g
  l:(T5 z kt kg hs).length = hs.length
abbrev OkS (z:Str) (kt kg:Nat) (S:KS):Prop:=∀ hs ∈ S.2 ++ [S.1],OkK z kt kg hs
abbrev KpS (K:W.Frag) (C:Addr) (H:Hp) (p:Addr) (kt kg:Nat) (z:Str) (S:KS) (pa:Addr) (lo:List Addr):Prop:=KpAt K C H p kt kg z (lv z kt kg S.1) (S.2.map (lv z kt kg)) pa lo
theorem a0y (ps qs:List Q2):(a0q ps qs).canLay0 = true:=by
  unfold a0q
  rw [PyData.canLay0]
  generalize chI ps qs = is
  induction is with
  | nil=>rw [List.map_nil,PyData.canLayAll0]
  | cons i is ih =>
    rw [List.map_cons,PyData.canLayAll0,ih,PyData.canLay0,PyData.canLayAll0,PyData.canLayAll0,PyData.canLayAll0,PyData.canLayAll0,a1H,a1H,PyData.canLay0]; rfl
theorem a2s (q:Q2):(dF q).depth <= 5:=by
  unfold dF
  simp [PyData.depth,PyData.depthAll]
theorem a4R (ps qs:List Q2):(a0q ps qs).depth <= 20:=by
  unfold a0q
  rw [PyData.depth]
  generalize chI ps qs = is
  have:PyData.depthAll (is.map fun (i:Nat)=>PyData.tuple [.int (i:Int),dF (ps.getD i (0,0)),dF (qs.getD i (0,0))]) <= 10:=by
    induction is with
    | nil=>rw [List.map_nil]; simp [PyData.depthAll]
    | cons i is ih =>
      rw [List.map_cons,PyData.depthAll]
      refine Nat.max_le.mpr ⟨?_,ih⟩
      have a:=a2s (ps.getD i (0,0))
      have b:=a2s (qs.getD i (0,0))
      rw [PyData.depth]
      simp only [PyData.depthAll,PyData.depth]
      omega
  omega
theorem b0T (z:Str) (kt kg:Nat) (S:KS) (d:Dd):(otD z kt kg S d).canLay0 = true:=by
  unfold otD
  split
  . exact a0y _ _
  split
  . exact a0y _ _
  split
  . rw [PyData.canLay0]
  split
  . exact a0y _ _
  . rw [PyData.canLay0,PyData.canLayAll0,PyData.canLayAll0,PyData.canLayAll0,a1H,a0y]; rfl
theorem b0M (z:Str) (kt kg:Nat) (S:KS) (d:Dd):(otD z kt kg S d).depth <= 60:=by
  unfold otD
  have k:=fun a b=>Nat.le_trans (a4R a b) (show 20 <= 60 by decide)
  split
  . exact k _ _
  split
  . exact k _ _
  split
  . simp [PyData.depth]
  split
  . exact k _ _
  . rw [PyData.depth]
    simp only [PyData.depthAll]
    have a:=a2s ((T5 z kt kg (S.1 ++ [d.h])).getLastD (0,0))
    have b:=a4R (T5 z kt kg S.1) (T5 z kt kg (S.1 ++ [d.h])).dropLast
    omega
theorem a0X (z:Str) (kt kg:Nat) (hs:List i5):(U0 z kt kg hs).canLay0 = true:=by
  unfold U0
  have a:PyData.canLayAll0 ((T5 z kt kg hs).map dF) = true:=by
    generalize T5 z kt kg hs = l
    induction l with
    | nil=>rw [List.map_nil,PyData.canLayAll0]
    | cons x l ih=>rw [List.map_cons,PyData.canLayAll0,a1H,ih]; rfl
  have b:PyData.canLayAll0 ((a1F z hs).map fun (i:Nat)=>PyData.int (i:Int)) = true:=by
    generalize a1F z hs = l
    induction l with
    | nil=>rw [List.map_nil,PyData.canLayAll0]
    | cons x l ih=>rw [List.map_cons,PyData.canLayAll0,PyData.canLay0,ih]; rfl
  rw [PyData.canLay0,PyData.canLayAll0,PyData.canLayAll0,PyData.canLayAll0,PyData.canLayAll0,PyData.canLay0,PyData.canLay0,PyData.canLay0,a,b,a3H]; rfl
theorem a0Y (z:Str) (kt kg:Nat) (hs:List i5):(U0 z kt kg hs).depth <= 60:=by
  unfold U0
  have a:PyData.depthAll ((T5 z kt kg hs).map dF) <= 5:=by
    generalize T5 z kt kg hs = l
    induction l with
    | nil=>rw [List.map_nil]; simp [PyData.depthAll]
    | cons x l ih=>rw [List.map_cons,PyData.depthAll]; exact Nat.max_le.mpr ⟨a2s x,ih⟩
  have b:PyData.depthAll ((a1F z hs).map fun (i:Nat)=>PyData.int (i:Int)) <= 5:=by
    generalize a1F z hs = l
    induction l with
    | nil=>rw [List.map_nil]; simp [PyData.depthAll]
    | cons x l ih=>rw [List.map_cons,PyData.depthAll]; exact Nat.max_le.mpr ⟨by simp [PyData.depth],ih⟩
  have c:=a1y hs
  simp only [PyData.depth,PyData.depthAll]
  omega
section
variable {P:Program} {w:World} {K:W.Frag} {mg:Str->Option Value} {base:Heap} {f C Pt:Addr} {fd:FuncData} {n:Nat}
def a7O (K:W.Frag) (C Pt:Addr):Sp:=fun vs H Q _=>∃ (p pa:Addr) (kt kg:Nat) (z:Str) (hs:List i5) (past:List T9) (lo:List Addr),vs = [.ref p]/\KpAt K C H p kt kg z (lv z kt kg hs) past pa lo/\Fit z kt kg/\OkK z kt kg hs/\LT Pt H ∧
  ∀ (s:Addr) (H':Hp),Same1 Pt H H'->LT Pt H'->Dq K H' (fun a=>H a = none) (.ref s) (U0 z kt kg hs)->Q (.ref s) H'
theorem b0U:j3 ["kept"] ["kept"] (h8 M3):=⟨rfl,rfl,rfl,by decide +kernel,rfl,by decide +kernel,by decide +kernel⟩
set_option maxHeartbeats 2000000 in
theorem a8F {f1 f2 f3:Addr} {d1 d2 d3:FuncData} (F:Fun K "_law_a_seen" "_law_a_seen" M3 f fd) (TKd:TK K C) (Ch:K3 P w K mg base D6 n C "houses" ["self"] (Y4 K C) f1 d1) (Cs:K3 P w K mg base D6 n C "shares" ["self"] (a1R K C) f2 d2) (Cr:K3 P w K mg base D6 n C "rim" ["self"] (a6J K C Pt) f3 d3) :
    FnOk P w K mg base D6 (n + 1) f fd ["kept"] (a7O K C Pt):=by
  refine F.ok b0U (fun vs H Q E h=>?_) (fun cdv A outer s H vs Q E hr h=>?_)
  . obtain ⟨p,pa,kt,kg,z,hs,past,lo,rfl,_⟩:=h
    rfl
  obtain ⟨p,pa,kt,kg,z,hs,past,lo,rfl,KP,ft,ok,LTH,q⟩:=h
  refine ⟨_,i7 (m7 (r9 (a0 (C2 (pv 0) TKd.cl Ch.me Ch.ok hr Ch.bd .nil p6) (a0 (C2 (pv 0) TKd.cl Cs.me Cs.ok hr Cs.bd .nil p6) (a0 (C2 (pv 0) TKd.cl Cr.me Cr.ok hr Cr.bd .nil p6) d8))))),?_⟩
  obtain ⟨dx,ta,wa,pv0,hp,_,hpa,_⟩:=KP.ex
  refine ⟨_,rfl,p,dx,_,rfl,hp,rfl,p,pa,kt,kg,z,_,past,lo,rfl,KP,fun l1 xs H1 e1 hl1 h1 b1=>?_⟩
  refine ⟨_,rfl,p,dx,_,rfl,e1 _ _ hp,rfl,p,pa,kt,kg,z,_,past,lo,rfl,KP.same e1,fun l2 ys H2 e2 hl2 h2 b2=>?_⟩
  have e12:=e1.trans e2
  refine ⟨_,rfl,p,dx,_,rfl,e12 _ _ hp,rfl,p,pa,kt,kg,z,_,past,lo,rfl,KP.same e12,ft,ok.g,ok.m,LTH.same e12,fun H3 l3 e3 L3 hl3 h3=>?_⟩
  refine ⟨(by show 3 <= sizeLine; decide),fun s0 hs0=>?_⟩
  have s4:=Same.new hs0 (.lst [V.ref l1,V.ref l2,V.ref l3])
  have L2:=LTH.same e12
  have fr3:=W2 L2 e3
  have s13:Same1 Pt H (m5 H3 s0 (.lst [V.ref l1,V.ref l2,V.ref l3])):=fun b o nb h=>s4 _ _ (e3 _ _ nb (e12 _ _ h))
  refine q s0 _ s13 (L3.same s4) (.lst (e12.free (b2z e3 L3 hs0)) upd_same (.cons (.lst hl1 (s4 _ _ (fr3.k _ _ (L2.ne (e2 _ _ h1) nofun) (e2 _ _ h1))) ?_) (.cons (.lst (e1.free hl2) (s4 _ _ (fr3.k _ _ (L2.ne h2 nofun) h2)) ?_) (.cons (.lst (e12.free hl3) (s4 _ _ h3) ?_) .nil))))
  . exact a3V (fun v a r=>b2B r) (Bk.same s4 ((Bk.same e2 b1).fr0 fr3))
  . exact a3V (fun v a r=>a8k ((FrT.fr0 fr3 r).same s4)) b2
  . show Dqs K _ _ ((a1F z hs).map fun (i:Nat)=>V.int (i:Int)) ((a1F z hs).map fun (i:Nat)=>PyData.int (i:Int))
    generalize a1F z hs = l
    induction l with
    | nil=>exact .nil
    | cons x l ih=>exact .cons (.int _) ih
def DdAt (K:W.Frag) (H:Hp) (v:V) (d:Dd):Prop:=∃ t hv,v = .ref t/\H t = some (.tup [.int d.d,.int d.pk,hv,.int d.lf])/\HS K H hv d.h
def lfs (n:Nat) (d:Dd):Nat:=if d.d = 3/\0 < n then n - 1 else n + 1
def lfN (ds:List Dd):Nat:=ds.foldl lfs 0
def a9U (K:W.Frag):Sp:=fun vs H Q _=>∃ (l:Addr) (xs:List V) (ds:List Dd),vs = [.ref l]/\H l = some (.lst xs)/\PySem.Paired (DdAt K H) xs ds/\ds.length <= 1000/\∀ H',Same H H'->Q (.int (lfN ds:Int)) H'
theorem scLft:j3 ["deeds","left","deed"] ["deeds"] (h8 M9):=⟨rfl,rfl,rfl,by decide +kernel,rfl,by decide +kernel,by decide +kernel⟩
theorem a9Y (ds:List Dd):lfN ds <= ds.length:=by
  have:∀ (ds:List Dd) (n:Nat),ds.foldl lfs n <= n + ds.length:=by
    intro ds
    induction ds with
    | nil=>intro n; simp
    | cons d ds ih =>
      intro n
      have:=ih (lfs n d)
      have k:lfs n d <= n + 1:=by unfold lfs; split <;> omega
      simp only [List.foldl_cons,List.length_cons]
      omega
  have:=this ds 0
  unfold lfN
  omega
theorem DdAt.same {H H':Hp} {v:V} {d:Dd} (e:Same H H') (h:DdAt K H v d):DdAt K H' v d:=by
  obtain ⟨t,hv,h1,h2,h3⟩:=h
  exact ⟨t,hv,h1,e _ _ h2,h3.same e⟩
theorem DdAt.fr0 {X:Addr->Prop} {H H':Hp} {v:V} {d:Dd} (e:Fr0 X H H') (h:DdAt K H v d):DdAt K H' v d:=by
  obtain ⟨t,hv,h1,h2,h3⟩:=h
  exact ⟨t,hv,h1,e.tup h2,h3.fr0 e⟩
set_option maxHeartbeats 2000000 in
theorem b1l (F:Fun K "_law_a_left" "_law_a_left" M9 f fd) (T:v7 mg):FnOk P w K mg base D6 (n + 1) f fd ["deeds"] (a9U K):=by
  refine F.ok scLft (fun vs H Q E h=>?_) (fun cdv A outer s H vs Q E hr h=>?_)
  . obtain ⟨l,xs,ds,rfl,_⟩:=h
    rfl
  obtain ⟨l,xs,ds,rfl,hl,hds,hz,q⟩:=h
  refine ⟨_,i4 (m8 (i:=1) scLft.nd rfl (Or.inl rfl) d9)
    (o7 (V2 PassesOwn.never rfl (G1 (pv 0)) (j5 (i:=2) scLft.nd rfl (Or.inl rfl))
      (i7 (m8 (i:=1) scLft.nd rfl (Or.inl rfl) (i9 A5 (pv 1) (j0 i8 (r9 (a0 d9 (a0 (L8 E1 d9) d8))) (u0 a2h rfl T.int PyProof.Rows.boot_int (a0 (a4r (P0 X0 (j0 C7 (pv 2) d9 (fun _ _=>rfl)) d9 (o6 _)) (a4q (P0 T6 (pv 1) d9 (o6 _)))) d8)) (fun _ _=>rfl))))))
    (i7 (m7 (pv 1)))),?_⟩
  have xl:xs.length = ds.length:=A9 hds
  refine ⟨fun σ' H'=>∃ o2,σ' = [some (.ref l),some (.int (lfN ds:Int)),o2]/\Same H H',?_,?_⟩
  . refine ⟨_,rfl,l,rfl,⟨_,SqL.of hl⟩,?_⟩
    refine a3J (xs:=xs) (fun i σ H'=>∃ o2,σ = [some (.ref l),some (.int (lfN (ds.take i):Int)),o2]/\Same H H') ⟨_,rfl,Same.refl _⟩ (fun i σ H' _ ⟨o2,_,e⟩=>SqL.of (e _ _ hl)) ?_ ?_
    . rintro i x σ H1 hx ⟨o2,rfl,e1⟩
      obtain ⟨d,hd,t,hv,rfl,ht,_⟩:=A6 hds hx
      have nx:lfN (ds.take (i + 1)) = lfs (lfN (ds.take i)) d:=by
        obtain ⟨hi,he⟩:=List.getElem?_eq_some_iff.mp hd
        unfold lfN
        rw [List.take_succ,hd,List.foldl_append]
        rfl
      generalize lfN (ds.take i) = m at *
      refine ⟨_,rfl,1,rfl,(by show 2 <= sizeLine; decide),fun l2 hl2=>?_⟩
      have s2:=e1.trans (Same.new hl2 (.lst [V.int 1,V.int (-1)]))
      refine ⟨_,rfl,t,_,0,_,rfl,rfl,SqT.of (s2 _ _ ht),rfl,rfl,_,rfl,?_⟩
      refine C3 (fun c=>?_) (fun c=>?_)
      . have c1:d.d = 3:=by simpa using c
        refine ⟨_,rfl,_,_,rfl,rfl,.inr ⟨_,rfl,?_⟩⟩
        by_cases c2:0 < m
        . refine ⟨l2,_,1,_,rfl,?_,SqL.of upd_same,rfl,_,_,rfl,rfl,?_⟩
          . rw [if_pos (by simp; omega)]
          refine ⟨some (V.ref t),?_,s2⟩
          rw [nx]
          unfold lfs
          rw [if_pos ⟨c1,c2⟩]
          show _ = [some (V.ref l),some (V.int ((m - 1:Nat):Int)),some (V.ref t)]
          rw [show ((m - 1:Nat):Int) = (m:Int) + -1 by omega]
          rfl
        . refine ⟨l2,_,0,_,rfl,?_,SqL.of upd_same,rfl,_,_,rfl,rfl,?_⟩
          . rw [if_neg (by simp; omega)]
          refine ⟨some (V.ref t),?_,s2⟩
          rw [nx]
          unfold lfs
          rw [if_neg (fun z=>c2 z.2)]
          rfl
      . have c1:¬ d.d = 3:=by simpa using c
        refine .inr ⟨_,rfl,?_⟩
        refine ⟨l2,_,0,_,rfl,rfl,SqL.of upd_same,rfl,_,_,rfl,rfl,?_⟩
        refine ⟨some (V.ref t),?_,s2⟩
        rw [nx]
        unfold lfs
        rw [if_neg (fun z=>c1 z.1)]
        rfl
    . rintro σ H1 ⟨o2,rfl,e1⟩
      exact ⟨o2,by rw [xl,List.take_length],e1⟩
  rintro _ H1 ⟨o2,rfl,e1⟩
  exact ⟨_,rfl,q H1 e1⟩
def a7C (K:W.Frag) (C Pt:Addr):Sp:=fun vs H Q _=>∃ (p pa:Addr) (v:V) (d:Dd) (kt kg:Nat) (z:Str) (S:KS) (lo:List Addr),vs = [.ref p,.int (S.1.length:Int),v]/\DdAt K H v d/\GoodK d.h kt kg/\O4 d.h/\0 <= d.pk/\d.pk < 1000/\KpS K C H p kt kg z S pa lo/\Fit z kt kg/\OkS z kt kg S/\S.2.length <= 1000/\(0 < d.lf->S.2 ≠ [])/\LT Pt H ∧
  ∀ (u:V) (H':Hp) (lo':List Addr),KpS K C H' p kt kg z (stp S d) pa lo'->OkS z kt kg (stp S d)->Left Pt p pa H H'->LT Pt H'->(∀ b ∈ lo',b ∈ lo \/ H b = none)->Dq K H' (fun a=>H a = none) u (otD z kt kg S d)->Q u H'
theorem b1a:j3 ["kept","many","deed"] ["kept","many","deed"] (h8 D3):=⟨rfl,rfl,rfl,by decide +kernel,rfl,by decide +kernel,by decide +kernel⟩
set_option maxHeartbeats 8000000 in
noncomputable def b1T {cdv:Value} {A:Around} {outer:List Env} {s:Shared} {H:Hp} {E:XK} {cB cH cM cL f1 f2 f3 f4:Addr} {d1 d2 d3 d4:FuncData} (TKd:TK K C) (Cg:K3 P w K mg base (T3 P w) n C "go" ["self","number"] (a5C K C cH Pt) f1 d1) (Ca:K3 P w K mg base (T3 P w) n C "alter" ["self","number","house"] (a1w K C cH cB Pt) f2 d2) (Cb:K3 P w K mg base (T3 P w) n C "back" ["self"] (a2M K C cL Pt) f4 d4) (Cc:K3 P w K mg base (T3 P w) n C "come" ["self","house"] (a2V K C cB cM Pt) f3 d3)
    (hr:Room n (A.deeper (PyProof.Rows.envOfC "_law_done" (h8 D3) s.heap.objs.size f cdv))) :
    { t:TS // PSs (J1 D6 P w K mg base ["kept","many","deed"] "_law_done" (h8 D3) f cdv A outer s H E).nox (p9 D3) t } :=
  ⟨_,i4 (x8 (a2t (PW.pt (a0c (o4 X0 (j0 C7 (pv 2) d9 (fun _ _=>rfl)) d9 (o6 _)) (R8 (o4 T6 (pv 1) d9 (o6 _))))))
      (i7 (m7 (G2 (pv 0) TKd.cl Cg.me Cg.ok hr Cg.bd .nil a0g (a0 (i9 A0 (j0 C7 (pv 2) d9 (fun _ _=>rfl)) (pv 1)) d8)))) r6)
    (i4 (x8 (a2t (PW.pt (a0c (o4 X0 (j0 C7 (pv 2) d9 (fun _ _=>rfl)) d9 (o6 _)) (R8 (o4 T6 (pv 1) d9 (o6 _))))))
      (i7 (m7 (G2 (pv 0) TKd.cl Ca.me Ca.ok hr Ca.bd .nil a0g (a0 (i9 A0 (j0 C7 (pv 2) d9 (fun _ _=>rfl)) (pv 1)) (a0 (j0 C7 (pv 2) d9 (fun _ _=>rfl)) d8))))) r6)
    (i4 (x8 (a2t (PW.pt (a0c (o4 X0 (j0 C7 (pv 2) d9 (fun _ _=>rfl)) d9 (o6 _)) (R8 (o4 T6 (j0 C7 (pv 2) d9 (fun _ _=>rfl)) d9 (o6 _))))))
      (i7 (m7 (C2 (pv 0) TKd.cl Cb.me Cb.ok hr Cb.bd .nil a0g))) r6)
    (i4 (x8 (o4 X0 (pv 1) d9 (o6 _)) (i7 (m7 (G2 (pv 0) TKd.cl Cg.me Cg.ok hr Cg.bd .nil a0g (a0 (i9 A0 (j0 C7 (pv 2) d9 (fun _ _=>rfl)) (pv 1)) d8)))) r6)
    (i7 (m7 (G2 (pv 0) TKd.cl Cc.me Cc.ok hr Cc.bd .nil a0g (a0 (j0 C7 (pv 2) d9 (fun _ _=>rfl)) d8)))))))⟩
theorem a5B {S:KS} {d:Dd} (h:0 < S.1.length):d.pk % (S.1.length:Int) = ((atD S d:Nat):Int)/\atD S d < S.1.length:=by
  have a1:=Int.emod_nonneg d.pk (show (S.1.length:Int) ≠ 0 by omega)
  have a2:=Int.emod_lt_of_pos d.pk (show (0:Int) < (S.1.length:Int) by omega)
  unfold atD
  omega
theorem a0S {z:Str} {kt kg:Nat} {S:KS} {hs:List i5} (o:OkS z kt kg S) (h:OkK z kt kg hs):OkS z kt kg (hs,S.2 ++ [S.1]):=fun g hg=>by
  rcases List.mem_append.mp hg with hg | hg
  . exact o g hg
  . rw [List.mem_singleton.mp hg]; exact h
theorem a3X {H:Hp} {ha wa:Addr} {lo:List Addr} (h1:H ha = none) (h2:H wa = none):∀ b ∈ ha :: wa :: lo,b ∈ lo \/ H b = none:=fun b hb=>by
  rcases List.mem_cons.mp hb with rfl | hb
  . exact .inr h1
  . rcases List.mem_cons.mp hb with rfl | hb
    . exact .inr h2
    . exact .inl hb
set_option maxHeartbeats 8000000 in
theorem a8H {cB cH cM cL f1 f2 f3 f4:Addr} {d1 d2 d3 d4:FuncData} (F:Fun K "_law_done" "_law_done" D3 f fd) (TKd:TK K C) (Cg:K3 P w K mg base (T3 P w) n C "go" ["self","number"] (a5C K C cH Pt) f1 d1) (Ca:K3 P w K mg base (T3 P w) n C "alter" ["self","number","house"] (a1w K C cH cB Pt) f2 d2) (Cb:K3 P w K mg base (T3 P w) n C "back" ["self"] (a2M K C cL Pt) f4 d4) (Cc:K3 P w K mg base (T3 P w) n C "come" ["self","house"] (a2V K C cB cM Pt) f3 d3) :
    FnOk P w K mg base D6 (n + 1) f fd ["kept","many","deed"] (a7C K C Pt):=by
  refine F.ok b1a (fun vs H Q E h=>?_) (fun cdv A outer s H vs Q E hr h=>?_)
  . obtain ⟨p,pa,v,d,kt,kg,z,S,lo,rfl,_⟩:=h
    rfl
  obtain ⟨p,pa,v,d,kt,kg,z,S,lo,rfl,⟨t,hv,rfl,ht,hH⟩,gk,sk,pk0,pk1,KP,ft,ok,hpl,hb,LTH,q⟩:=h
  refine ⟨_,(b1T TKd Cg Ca Cb Cc hr).2,?_⟩
  obtain ⟨dx,ta,wa,pv0,hp,_,hpa,_⟩:=KP.ex
  have ok1:OkK z kt kg S.1:=ok S.1 (List.mem_append_right _ (.head _))
  have hpl':(S.2.map (lv z kt kg)).length <= 1000:=by rw [List.length_map]; exact hpl
  have goes:0 < S.1.length->stp S d = (E6 S.1 (atD S d),S.2 ++ [S.1])->otD z kt kg S d = a0q (E6 (T5 z kt kg S.1) (atD S d)) (T5 z kt kg (E6 S.1 (atD S d)))->a5C K C cH Pt [.ref p,.int (d.pk % (S.1.length:Int))] H Q E0:=by
    intro c1 es eo
    obtain ⟨ei,hi⟩:=a5B (d:=d) c1
    refine ⟨p,pa,_,kt,kg,z,lv z kt kg S.1,S.2.map (lv z kt kg),lo,rfl,KP,ft,ok1.g,ok1.m,ok1.l,hpl',by rw [ei]; exact O9 (by have:=ok1.m; omega),LTH,fun i hi' hil H' ha wa' cl qs KP2 sh n1 n2 lf L2 n3 ch _ _=>?_,fun bad=>absurd ⟨by omega,by show _ < ((lv z kt kg S.1).1.length:Int); rw [ei]; exact Int.ofNat_lt.mpr hi⟩ bad⟩
    have:i = atD S d:=by omega
    subst this
    have hG:∀ g ∈ E6 S.1 (atD S d),HG (10 ^ 9) kt kg g:=fun g hg=>ok1.g g (a3C hg)
    have eq:=sh.q ft.z hG
    have okn:OkK z kt kg (E6 S.1 (atD S d)):=⟨Nat.le_trans a1p ok1.m,hG,by rw [<- eq]; exact sh.1⟩
    subst eq
    refine q _ H' _ ?_ ?_ lf L2 (a3X n1 n2) ?_
    . rw [es]
      show KpAt _ _ _ _ _ _ _ _ ((S.2 ++ [S.1]).map (lv z kt kg)) _ _
      rw [List.map_append]
      exact KP2
    . rw [es]; exact a0S ok okn
    . rw [eo]; exact ch.dq n3
  refine ⟨fun b H1=>H = H1/\(b = true ↔ (d.d = 1/\0 < S.1.length)),?_,?_⟩
  . refine ⟨_,rfl,t,_,0,_,rfl,rfl,SqT.of ht,rfl,rfl,_,rfl,?_⟩
    refine C3 (fun c=>?_) (fun c=>?_)
    . exact ⟨_,rfl,_,_,rfl,rfl,_,rfl,rfl,by simp at c; simp [c]⟩
    . exact ⟨rfl,by simp at c; simp [c]⟩
  rintro b _ ⟨rfl,c1⟩
  cases b with
  | true =>
    have c:=c1.mp rfl
    refine a0r ⟨_,rfl,p,dx,_,rfl,hp,rfl,_,rfl,t,_,1,_,rfl,rfl,SqT.of ht,rfl,_,rfl,_,_,rfl,rfl,(by show (0:Int) < (S.1.length:Int); omega),?_⟩
    exact goes c.2 (by unfold stp; rw [if_pos c]) (by unfold otD; rw [if_pos c])
  | false =>
  have n1:¬ (d.d = 1/\0 < S.1.length):=fun z=>by have:=c1.mpr z; cases this
  refine X6 ?_
  refine ⟨fun b H1=>H = H1/\(b = true ↔ (d.d = 2/\0 < S.1.length)),?_,?_⟩
  . refine ⟨_,rfl,t,_,0,_,rfl,rfl,SqT.of ht,rfl,rfl,_,rfl,?_⟩
    refine C3 (fun c=>?_) (fun c=>?_)
    . exact ⟨_,rfl,_,_,rfl,rfl,_,rfl,rfl,by simp at c; simp [c]⟩
    . exact ⟨rfl,by simp at c; simp [c]⟩
  rintro b _ ⟨rfl,c2⟩
  cases b with
  | true =>
    have c:=c2.mp rfl
    obtain ⟨ei,hi⟩:=a5B (d:=d) c.2
    have es:stp S d = (a0d S.1 (atD S d) d.h,S.2 ++ [S.1]):=by unfold stp; rw [if_neg n1,if_pos c]
    have eo:otD z kt kg S d = a0q (T5 z kt kg S.1) (T5 z kt kg (a0d S.1 (atD S d) d.h)):=by unfold otD; rw [if_neg n1,if_pos c]
    refine a0r ⟨_,rfl,p,dx,_,rfl,hp,rfl,_,rfl,t,_,1,_,rfl,rfl,SqT.of ht,rfl,_,rfl,_,_,rfl,rfl,(by show (0:Int) < (S.1.length:Int); omega),_,rfl,t,_,2,_,rfl,rfl,SqT.of ht,rfl,?_⟩
    refine ⟨p,pa,_,hv,d.h,kt,kg,z,lv z kt kg S.1,S.2.map (lv z kt kg),lo,rfl,KP,ft,hH,sk,ok1.g,ok1.m,ok1.l,hpl',by rw [ei]; exact O9 (by have:=ok1.m; omega),LTH,fun i hi' hil _ H' ha wa' cl qs KP2 sh n1 n2 lf L2 n3 ch _ _=>?_,fun bad=>absurd ⟨by omega,by show _ < ((lv z kt kg S.1).1.length:Int); rw [ei]; exact Int.ofNat_lt.mpr hi⟩ bad,fun _ bad=>absurd gk bad⟩
    have:i = atD S d:=by omega
    subst this
    have hG:∀ g ∈ a0d S.1 (atD S d) d.h,HG (10 ^ 9) kt kg g:=fun g hg=>by
      rcases a3c hg with rfl | hg
      . exact gk.hg
      . exact ok1.g g hg
    have eq:=sh.q ft.z hG
    have okn:OkK z kt kg (a0d S.1 (atD S d) d.h):=⟨by rw [a3a hi]; exact ok1.m,hG,by rw [<- eq]; exact sh.1⟩
    subst eq
    refine q _ H' _ ?_ ?_ lf L2 (a3X n1 n2) ?_
    . rw [es]
      show KpAt _ _ _ _ _ _ _ _ ((S.2 ++ [S.1]).map (lv z kt kg)) _ _
      rw [List.map_append]
      exact KP2
    . rw [es]; exact a0S ok okn
    . rw [eo]; exact ch.dq n3
  | false =>
  have n2:¬ (d.d = 2/\0 < S.1.length):=fun z=>by have:=c2.mpr z; cases this
  refine X6 ?_
  refine ⟨fun b H1=>H = H1/\(b = true ↔ (d.d = 3/\0 < d.lf)),?_,?_⟩
  . refine ⟨_,rfl,t,_,0,_,rfl,rfl,SqT.of ht,rfl,rfl,_,rfl,?_⟩
    refine C3 (fun c=>?_) (fun c=>?_)
    . exact ⟨_,rfl,t,_,3,_,rfl,rfl,SqT.of ht,rfl,_,_,rfl,rfl,_,rfl,rfl,by simp at c; simp [c]⟩
    . exact ⟨rfl,by simp at c; simp [c]⟩
  rintro b _ ⟨rfl,c3⟩
  cases b with
  | true =>
    have c:=c3.mp rfl
    have es:stp S d = (S.2.getLastD [],S.2.dropLast):=by unfold stp; rw [if_neg n1,if_neg n2,if_pos c]
    have eo:otD z kt kg S d = .none:=by unfold otD; rw [if_neg n1,if_neg n2,if_pos c]
    have ne:=hb c.2
    refine a0r ⟨_,rfl,p,dx,_,rfl,hp,rfl,?_⟩
    refine ⟨p,pa,kt,kg,z,_,_,lo,rfl,KP,LTH,fun L0 past0 H' ep KP2 lf L2=>?_,fun e=>absurd (List.map_eq_nil_iff.mp e) ne⟩
    rcases List.eq_nil_or_concat S.2 with e | ⟨pp,h0,e⟩
    . exact absurd e ne
    rw [List.concat_eq_append] at e
    have ep':=ep
    rw [e,List.map_append] at ep'
    obtain ⟨i1,i2⟩:=List.append_inj' ep' rfl
    simp at i2
    subst i2
    subst i1
    have e1:stp S d = (h0,pp):=by rw [es,e]; simp
    refine q _ H' lo ?_ ?_ lf L2 (fun b hb=>.inl hb) (by rw [eo]; exact .non)
    . rw [e1]; exact KP2
    . rw [e1]
      intro g hg
      refine ok g ?_
      rw [e]
      exact List.mem_append_left _ hg
  | false =>
  have n3:¬ (d.d = 3/\0 < d.lf):=fun z=>by have:=c3.mpr z; cases this
  refine X6 ⟨_,rfl,rfl,_,rfl,?_⟩
  refine C3 (fun c=>?_) (fun c=>?_)
  . have c':S.1.length = 16:=by simp at c; omega
    refine ⟨_,rfl,p,dx,_,rfl,hp,rfl,_,rfl,t,_,1,_,rfl,rfl,SqT.of ht,rfl,_,rfl,_,_,rfl,rfl,(by show (0:Int) < (S.1.length:Int); omega),?_⟩
    exact goes (by omega) (by unfold stp; rw [if_neg n1,if_neg n2,if_neg n3,if_pos c']) (by unfold otD; rw [if_neg n1,if_neg n2,if_neg n3,if_pos c'])
  have c':¬ S.1.length = 16:=by simp at c; omega
  have l16:S.1.length < 16:=by have:=ok1.m; omega
  have es:stp S d = (S.1 ++ [d.h],S.2 ++ [S.1]):=by unfold stp; rw [if_neg n1,if_neg n2,if_neg n3,if_neg c']
  have eo:otD z kt kg S d = .tuple [dF ((T5 z kt kg (S.1 ++ [d.h])).getLastD (0,0)),a0q (T5 z kt kg S.1) (T5 z kt kg (S.1 ++ [d.h])).dropLast]:=by unfold otD; rw [if_neg n1,if_neg n2,if_neg n3,if_neg c']
  refine ⟨_,rfl,p,dx,_,rfl,hp,rfl,_,rfl,t,_,2,_,rfl,rfl,SqT.of ht,rfl,?_⟩
  refine ⟨p,pa,hv,d.h,kt,kg,z,lv z kt kg S.1,S.2.map (lv z kt kg),lo,rfl,KP,ft,hH,sk,ok1.g,ok1.m,ok1.l,hpl',LTH,fun _ _ H' ha wa' r cl u qs x KP2 sh n1 n2 lf L2 n4 hr hu n5 ch _ _=>?_,fun bad=>absurd gk bad,fun _ bad=>absurd bad (by show ¬ 16 <= S.1.length; omega)⟩
  have hG:∀ g ∈ S.1 ++ [d.h],HG (10 ^ 9) kt kg g:=fun g hg=>by
    rcases List.mem_append.mp hg with hg | hg
    . exact ok1.g g hg
    . rw [List.mem_singleton.mp hg]; exact gk.hg
  have eq:=Shs.q ft.z hG sh
  have okn:OkK z kt kg (S.1 ++ [d.h]):=⟨by simp; omega,hG,by rw [<- eq]; exact sh.1⟩
  refine q _ H' _ ?_ ?_ lf L2 (a3X n1 n2) ?_
  . rw [es]
    show KpAt _ _ _ _ _ _ _ (S.1 ++ [d.h],T5 z kt kg (S.1 ++ [d.h])) ((S.2 ++ [S.1]).map (lv z kt kg)) _ _
    rw [List.map_append,<- eq]
    exact KP2
  . rw [es]; exact a0S ok okn
  . rw [eo,<- eq]
    have g1:(qs ++ [x]).getLastD (0,0) = x:=by simp
    have g2:(qs ++ [x]).dropLast = qs:=by simp
    rw [g1,g2]
    exact .tup (SqT.of hr) (.cons (a8k hu) (.cons (ch.dq n5) .nil))
end
end Rim
namespace Rim
open PySem L2 Fr
section
variable {P:Program} {w:World} {K:W.Frag} {mg:Str->Option Value} {base:Heap} {f C Pt:Addr} {fd:FuncData} {n:Nat}
abbrev b2H:List Str:=["script","heads","counts","sizes","both","third","deeds","told","cell","picks","k","takes","house","deed","seen","found","due"]
theorem scLaw:j3 b2H ["script"] (h8 W4):=⟨rfl,rfl,rfl,by decide +kernel,rfl,by decide +kernel,by decide +kernel⟩
structure Calls (P:Program) (w:World) (K:W.Frag) (mg:Str->Option Value) (base:Heap) (n:Nat) (C Pt:Addr) (a1 a2 a3 a4 a5 a6:Addr) (d1 d2 d3 d4 d5 d6:FuncData):Prop where
  ce:Cal P w K mg base n "_law_cell_at" ["script","k"] (a7o K) a1 d1
  dw:Cal P w K mg base n "_law_draws" ["cell","many","base"] (a5d K) a2 d2
  ho:K3 P w K mg base D6 n C "houses" ["self"] (Y4 K C) a3 d3
  lf:Cal P w K mg base n "_law_a_left" ["deeds"] (a9U K) a4 d4
  se:Cal P w K mg base n "_law_a_seen" ["kept"] (a7O K C Pt) a5 d5
  dn:Cal P w K mg base n "_law_done" ["kept","many","deed"] (a7C K C Pt) a6 d6
structure a9F (P:Program) (w:World) (K:W.Frag) (mg:Str->Option Value) (base:Heap) (C fi:Addr) (di:FuncData):Prop where
  mak:Mk K C fi
  ok:∀ m:Nat,FnOk P w K mg base D6 (m + 1) fi di ["self","takes","gives","sizes"] (a2S K C)
  bd:Binds K di ["self","takes","gives","sizes"] []
  m:mg "Kept" = some (.ref C)
abbrev b1O (P:Program) (w:World) (K:W.Frag) (mg:Str->Option Value) (base:Heap) (f:Addr) (cdv:Value) (A:Around) (outer:List Env) (s:Shared) (H:Hp) (E:XK):Cx:=(J1 D6 P w K mg base b2H "law" (h8 W4) f cdv A outer s H E).nox
variable {cdv:Value} {A:Around} {outer:List Env} {s:Shared} {H:Hp} {E:XK} {a1 a2 a3 a4 a5 a6 fi:Addr} {d1 d2 d3 d4 d5 d6 di:FuncData}
abbrev nth (i:Nat):Stmt:=(p9 W4).getD i (.Pass ⟨0,0,0,0⟩)
theorem b1e:(["head"]:List Str).Nodup:=by decide +kernel
theorem a7q:(["pick"]:List Str).Nodup:=by decide +kernel
theorem ndK:(["k","counts","sizes"]:List Str).Nodup:=by decide +kernel
set_option maxHeartbeats 8000000 in
noncomputable def b1b (T:v7 mg) (TKd:TK K C) (Cs:Calls P w K mg base n C Pt a1 a2 a3 a4 a5 a6 d1 d2 d3 d4 d5 d6) (hr:Room n (A.deeper (PyProof.Rows.envOfC "law" (h8 W4) s.heap.objs.size f cdv))):{ t:TS // PS (b1O P w K mg base f cdv A outer s H E) (nth 8) t } :=
  ⟨_,V2 PassesOwn.never rfl (G1 (i9 x4 (r9 (a0 (j7 Cs.ce.ok hr rfl Cs.ce.m Cs.ce.k Cs.ce.b .nil p6 (a0 (pv 0) (a0 d9 d8))) d8)) (A8 D8 (pv 0) (y6 d9) (y6 d9)))) (j5 (i:=8) scLaw.nd rfl (Or.inl rfl))
    (o7 (m8 (i:=9) scLaw.nd rfl (Or.inl rfl) (j7 Cs.dw.ok hr rfl Cs.dw.m Cs.dw.k Cs.dw.b .nil p6 (a0 (pv 8) (a0 d9 (a0 d9 d8)))))
    (o7 (m8 (i:=10) scLaw.nd rfl (Or.inl rfl) (i9 A0 (j0 i8 (pv 9) d9 (fun _ _=>rfl)) d9))
    (o7 (m8 (i:=11) scLaw.nd rfl (Or.inl rfl) (u0 U2 rfl T.tuple PyProof.Rows.boot_tuple (a0 (T7 ["pick"] [] rfl (G1 (A8 D8 (pv 9) (y6 d9) (y6 (i9 A5 d9 (j0 C7 (j0 i8 (pv 2) (pv 10) (fun _ _=>rfl)) d9 (fun _ _=>rfl)))))) (fun _ _ _ _=>j5 (i:=0) a7q rfl (Or.inl rfl)) (fun _ _ _ _=>i9 A5 d9 (i9 A0 (pv 0) d9))) d8)))
    (o7 (m8 (i:=12) scLaw.nd rfl (Or.inl rfl) (M7 (a0 (pv 11) (a0 (u0 U2 rfl T.tuple PyProof.Rows.boot_tuple (a0 (T7 ["pick"] [] rfl (G1 (A8 D8 (pv 9) (y6 d9) (y6 (i9 A5 d9 (j0 C7 (j0 i8 (pv 2) (pv 10) (fun _ _=>rfl)) d9 (fun _ _=>rfl)))))) (fun _ _ _ _=>j5 (i:=0) a7q rfl (Or.inl rfl)) (fun _ _ _ _=>i9 A5 d9 (i9 A0 (pv 0) d9))) d8)) d8))))
    (o7 (m8 (i:=13) scLaw.nd rfl (Or.inl rfl) (M7 (a0 (i9 A0 (j0 i8 (pv 9) d9 (fun _ _=>rfl)) d9) (a0 (j0 i8 (pv 9) d9 (fun _ _=>rfl)) (a0 (pv 12) (a0 (j7 Cs.lf.ok hr rfl Cs.lf.m Cs.lf.k Cs.lf.b .nil p6 (a0 (j0 i8 (pv 6) (pv 10) (fun _ _=>rfl)) d8)) d8))))))
    (o7 (m8 (i:=14) scLaw.nd rfl (Or.inl rfl) (j7 Cs.se.ok hr rfl Cs.se.m Cs.se.k Cs.se.b .nil p6 (a0 (j0 i8 (pv 4) (i9 Z9 d9 (pv 10)) (fun _ _=>rfl)) d8)))
    (o7 (m8 (i:=15) scLaw.nd rfl (Or.inl rfl) (j7 Cs.dn.ok hr rfl Cs.dn.m Cs.dn.k Cs.dn.b .nil p6 (a0 (j0 i8 (pv 4) (pv 10) (fun _ _=>rfl)) (a0 (m9 j8 rfl T.len PySem.boot_len (a0 (C2 (j0 i8 (pv 4) (pv 10) (fun _ _=>rfl)) TKd.cl Cs.ho.me Cs.ho.ok hr Cs.ho.bd .nil p6) d8)) (a0 (pv 13) d8)))))
    (o7 (A3 (a1N PySem.F.plainAttrs_list PySem.F.slot_list_append PySem.F.type_list_append E9 (j0 i8 (pv 6) (pv 10) (fun _ _=>rfl)) (a0 (pv 13) d8)))
    (o7 (x8 (o4 X0 (pv 10) d9 (o6 _)) (i7 (A3 (a1N PySem.F.plainAttrs_list PySem.F.slot_list_append PySem.F.type_list_append E9 (pv 7) (a0 (pv 15) d8)))) r6)
    (o7 (x8 (o4 (a2r hr) (j7 Cs.se.ok hr rfl Cs.se.m Cs.se.k Cs.se.b .nil p6 (a0 (j0 i8 (pv 4) (i9 Z9 d9 (pv 10)) (fun _ _=>rfl)) d8)) (pv 14) (o6 _)) a1i r6)
    (i7 (x8 (o4 (a2r hr) (j7 Cs.se.ok hr rfl Cs.se.m Cs.se.k Cs.se.b .nil p6 (a0 (j0 i8 (pv 4) (pv 10) (fun _ _=>rfl)) d8)) (j7 Cs.se.ok hr rfl Cs.se.m Cs.se.k Cs.se.b .nil p6 (a0 (j0 i8 (pv 4) (pv 10) (fun _ _=>rfl)) d8)) (o6 _)) a1i r6))))))))))))⟩
set_option maxHeartbeats 8000000 in
noncomputable def b3u (T:v7 mg) (TKd:TK K C) (M:a9F P w K mg base C fi di) (Cs:Calls P w K mg base (n + 2) C Pt a1 a2 a3 a4 a5 a6 d1 d2 d3 d4 d5 d6) (hr:Room (n + 2) (A.deeper (PyProof.Rows.envOfC "law" (h8 W4) s.heap.objs.size f cdv))):{ t:TS // PSs (b1O P w K mg base f cdv A outer s H E) (p9 W4) t } :=
  ⟨_,i4 (m8 (i:=1) scLaw.nd rfl (Or.inl rfl) (j7 Cs.dw.ok hr rfl Cs.dw.m Cs.dw.k Cs.dw.b .nil p6 (a0 (j7 Cs.ce.ok hr rfl Cs.ce.m Cs.ce.k Cs.ce.b .nil p6 (a0 (pv 0) (a0 d9 d8))) (a0 d9 (a0 d9 d8)))))
    (o7 (m8 (i:=2) scLaw.nd rfl (Or.inr rfl) (r9 (a0 (M7 (a0 (i9 A5 d9 (i9 A0 (j0 i8 (pv 1) d9 (fun _ _=>rfl)) d9)) (a0 (i9 A5 d9 (i9 A0 (j0 i8 (pv 1) d9 (fun _ _=>rfl)) d9)) d8))) (a0 (M7 (a0 (i9 A5 d9 (i9 A0 (j0 i8 (pv 1) d9 (fun _ _=>rfl)) d9)) (a0 (i9 A5 d9 (i9 A0 (j0 i8 (pv 1) d9 (fun _ _=>rfl)) d9)) d8))) d8))))
    (o7 (x8 (o4 X0 (i9 A0 (j0 i8 (pv 1) d9 (fun _ _=>rfl)) d9) d9 (o6 _)) (i7 (M8 (j0 i8 (pv 2) d9 (fun _ _=>rfl)) (V8 (pv 2) d9 K6))) r6)
    (o7 (m8 (i:=3) scLaw.nd rfl (Or.inr rfl) (T7 ["head"] [] rfl (G1 (A8 D8 (pv 1) (y6 d9) (y6 d9))) (fun _ _ _ _=>j5 (i:=0) b1e rfl (Or.inl rfl)) (fun _ _ _ _=>j0 (V3 K rfl) (r9 (a0 U4 (a0 U4 (a0 U4 (a0 U4 d8))))) (i9 A0 (pv 0) d9) (fun _ _=>rfl))))
    (o7 (a1T (i:=4) ["k"] [2,3] scLaw.nd rfl rfl rfl (J6 rfl T.range (a0 d9 d8)) (fun _ _ _ _=>j5 (i:=0) ndK rfl (Or.inl rfl)) (fun _ _ _ _=>a2Q M.mak (M.ok n) hr rfl M.m M.bd .nil p6 (a0 (j0 (a4z K rfl) (j0 (V3 K rfl) (pv 1) (pv 0) (fun _ _=>rfl)) d9 (fun _ _=>rfl)) (a0 (j0 (a4z K rfl) (j0 (V3 K rfl) (pv 1) (pv 0) (fun _ _=>rfl)) d9 (fun _ _=>rfl)) (a0 (j0 (V3 K rfl) (pv 2) (pv 0) (fun _ _=>rfl)) d8)))))
    (o7 (m8 (i:=5) scLaw.nd rfl (Or.inl rfl) (a2Q M.mak (M.ok n) hr rfl M.m M.bd .nil p6 (a0 (j0 C7 (j0 i8 (pv 2) d9 (fun _ _=>rfl)) d9 (fun _ _=>rfl)) (a0 (j0 C7 (j0 i8 (pv 2) d9 (fun _ _=>rfl)) d9 (fun _ _=>rfl)) (a0 (j0 i8 (pv 3) d9 (fun _ _=>rfl)) d8)))))
    (i4 (m8 (i:=6) scLaw.nd rfl (Or.inl rfl) (r9 (a0 (r9 d8) (a0 (r9 d8) d8))))
    (o7 (m8 (i:=7) scLaw.nd rfl (Or.inl rfl) (r9 d8))
    (o7 (b1b T TKd Cs hr).2
    (o7 (V2 PassesOwn.never rfl (a5z true true K rfl rfl T.zip (a0 (j0 i8 (pv 6) d9 (fun _ _=>rfl)) (a0 (pv 7) d8))) (V0 rfl (j9 (j5 (i:=13) scLaw.nd rfl (Or.inl rfl)) (j9 (j5 (i:=16) scLaw.nd rfl (Or.inl rfl)) y4)))
      (i7 (x8 (o4 (a2r hr) (j7 Cs.dn.ok hr rfl Cs.dn.m Cs.dn.k Cs.dn.b .nil p6 (a0 (pv 5) (a0 (m9 j8 rfl T.len PySem.boot_len (a0 (C2 (pv 5) TKd.cl Cs.ho.me Cs.ho.ok hr Cs.ho.bd .nil p6) d8)) (a0 (pv 13) d8)))) (pv 16) (o6 _)) a1i r6)))
    (i7 (m7 (P0 (b0j hr) (j7 Cs.se.ok hr rfl Cs.se.m Cs.se.k Cs.se.b .nil p6 (a0 (pv 5) d8)) (j7 Cs.se.ok hr rfl Cs.se.m Cs.se.k Cs.se.b .nil p6 (a0 (j0 i8 (pv 4) d9 (fun _ _=>rfl)) d8)) (o6 _)))))))))))))⟩
end
end Rim
namespace L2
open PySem
section
variable {fr:List Nat} {te:TE} {σ:St} {H1:Hp} {p:Addr} {D:Hp->Prop}
theorem b1g (R0:V->Hp->Prop) (R1:V->V->Hp->Prop)
    (s0:∀ N:VK,(∀ v H3,R0 v H3->H3 p = some (.lst [])->N v H3)->te ((blkσ 1 fr σ).set 0 (some (.int 0))) (m5 H1 p (.lst [])) N)
    (s1:∀ v0 H2 (N:VK),R0 v0 H2->H2 p = some (.lst [])->(∀ v H3,R1 v0 v H3->H3 p = some (.lst [v0])->N v H3)->te ((blkσ 1 fr σ).set 0 (some (.int 1))) (m5 H2 p (.lst [v0])) N)
    (hd:∀ v0 v1 H3,R1 v0 v1 H3->H3 p = some (.lst [v0])->D (m5 H3 p (.lst [v0,v1]))):lcW 1 fr (D7 0) te σ (Itr 0 2) H1 p D:=by
  refine ⟨fun i m ys H=>(i = 0/\m = 2/\ys = []/\H = m5 H1 p (.lst [])) \/ (i = 1/\m = 1/\∃ v0 H2,ys = [v0]/\R0 v0 H2/\H2 p = some (.lst [])/\H = m5 H2 p (.lst [v0])) \/ (i = 2/\m = 0/\∃ v0 v1 H3,ys = [v0,v1]/\R1 v0 v1 H3/\H3 p = some (.lst [v0])/\H = m5 H3 p (.lst [v0,v1])),⟨2,.inl ⟨rfl,rfl,rfl,rfl⟩⟩,?_⟩
  rintro i m ys H (⟨rfl,rfl,rfl,rfl⟩ | ⟨rfl,rfl,v0,H2,rfl,r0,h2,rfl⟩ | ⟨rfl,rfl,v0,v1,H3,rfl,r1,h3,rfl⟩)
  . refine .inr ⟨(by show 0 < 2; decide),fun x H' y=>?_⟩
    obtain ⟨rfl,rfl⟩:=y
    refine ⟨Wk.set (by decide),s0 _ fun v H3 r h=>⟨h,by decide,1,by decide,.inr (.inl ⟨rfl,rfl,v,H3,rfl,r,h,rfl⟩)⟩⟩
  . refine .inr ⟨(by show 1 < 2; decide),fun x H' y=>?_⟩
    obtain ⟨rfl,rfl⟩:=y
    refine ⟨Wk.set (by decide),s1 v0 H2 _ r0 h2 fun v H3 r h=>⟨h,(by show 1 < sizeLine; decide),0,by decide,.inr (.inr ⟨rfl,rfl,v0,v,H3,rfl,r,h,rfl⟩)⟩⟩
  . exact .inl ⟨Nat.le_refl _,hd v0 v1 H3 r1 h3⟩
end
end L2
namespace Rim
open PySem L2 Fr
theorem a9u {xs:List V} {lo hi:Option Int} {v:V} (h:v ∈ C5 xs lo hi):v ∈ xs:=List.mem_of_mem_drop (List.mem_of_mem_take h)
theorem made {K:W.Frag} {C:Addr} {H:Hp} {Q:VK} {kt kg:Nat} {z:Str} {E:XK} (h:∀ p pa lo H',Same H H'->H p = none->H pa = none->(∀ b ∈ lo,H b = none)->KpAt K C H' p kt kg z ([],[]) [] pa lo->Q (.ref p) H') :
    ∀ x dx:Addr,H x = none->H dx = none->dx ≠ x->a2S K C [.ref x,.int (kt:Int),.int (kg:Int),.str z] (m5 (m5 H dx (.own x)) x (.ins C dx [])) (fun v H'=>v = .non/\Q (.ref x) H') E:=by
  intro x dx hx hdx nd
  have sx:∀ b o,H b = some o->(m5 (m5 H dx (.own x)) x (.ins C dx [])) b = some o:=fun b o q0=>by rw [c9 (d7 q0 hx),c9 (d7 q0 hdx)]; exact q0
  have fr:∀ b,(m5 (m5 H dx (.own x)) x (.ins C dx [])) b = none->H b = none:=fun b hb=>by
    cases q:H b with
    | none=>rfl
    | some o=>rw [sx b o q] at hb; cases hb
  exact ⟨x,dx,kt,kg,z,rfl,upd_same,fun H4 pa lo KP k f1 f2=>⟨rfl,h x pa lo H4 (fun b o q0=>k b o (d7 q0 hx) (sx b o q0)) hx (fr _ f1) (fun b hb=>fr b (f2 b hb)) KP⟩⟩
theorem Dqs.len {K:W.Frag} {H:Hp} {F:Addr->Prop}:∀ {xs:List V} {ds:List PyData},Dqs K H F xs ds->xs.length = ds.length
  | _,_,.nil=>rfl
  | _,_,.cons _ r=>by rw [List.length_cons,List.length_cons,Dqs.len r]
theorem Dqs.app {K:W.Frag} {H:Hp} {F:Addr->Prop}:∀ {xs ys:List V} {ds es:List PyData},Dqs K H F xs ds->Dqs K H F ys es->Dqs K H F (xs ++ ys) (ds ++ es)
  | _,_,_,_,.nil,q=>q
  | _,_,_,_,.cons a r,q=>.cons a (Dqs.app r q)
theorem a5u {K:W.Frag} {H:Hp} {F:Addr->Prop}:∀ {xs:List V} {ds:List PyData} {i:Nat} {x:V},Dqs K H F xs ds->xs[i]? = some x->∃ d,ds[i]? = some d/\Dq K H F x d
  | _,_,_,_,.nil,e=>by simp at e
  | _,_,0,_,.cons a _,e=>by simp at e; subst e; exact ⟨_,rfl,a⟩
  | _,_,i + 1,_,.cons _ r,e=>by
    obtain ⟨d,h1,h2⟩:=a5u (i:=i) r (by simpa using e)
    exact ⟨d,by simpa using h1,h2⟩
def run (ds:List Dd):KS:=ds.foldl stp ([],[])
noncomputable def outs (z:Str) (kt kg:Nat):KS->List Dd->List PyData
  | _,[]=>[]
  | S,d :: ds=>otD z kt kg S d :: outs z kt kg (stp S d) ds
theorem a1d {ds:List Dd} {d:Dd}:run (ds ++ [d]) = stp (run ds) d:=by unfold run; rw [List.foldl_append]; rfl
theorem a2g {z:Str} {kt kg:Nat} {d:Dd}:∀ {ds:List Dd} {S:KS},outs z kt kg S (ds ++ [d]) = outs z kt kg S ds ++ [otD z kt kg (ds.foldl stp S) d]
  | [],S=>rfl
  | e :: ds,S=>by
    rw [List.cons_append,outs,outs,a2g (ds:=ds)]; rfl
theorem a5o {z:Str} {kt kg:Nat} {d:Dd}:∀ {ds:List Dd} {S:KS} {j:Nat},ds[j]? = some d->(outs z kt kg S ds)[j]? = some (otD z kt kg ((ds.take j).foldl stp S) d)
  | [],S,j,h=>by simp at h
  | e :: ds,S,0,h=>by simp at h; subst h; rfl
  | e :: ds,S,j + 1,h=>by
    rw [outs,List.getElem?_cons_succ,a5o (ds:=ds) (by simpa using h)]; rfl
theorem a1u {z:Str} {kt kg:Nat}:∀ {ds:List Dd} {S:KS},(outs z kt kg S ds).length = ds.length
  | [],S=>rfl
  | e :: ds,S=>by rw [outs,List.length_cons,a1u]; rfl
structure Gd (kt kg:Nat) (d:Dd):Prop where
  g:GoodK d.h kt kg
  s:O4 d.h
  p0:0 <= d.pk
  p1:d.pk < 1000
def Val (kt kg:Nat) (ds:List Dd):Prop:=∀ (j:Nat) (d:Dd),ds[j]? = some d->d.lf = (lfN (ds.take j):Int)/\Gd kt kg d
theorem a8c {ds:List Dd} {d:Dd}:lfN (ds ++ [d]) = lfs (lfN ds) d:=by unfold lfN; rw [List.foldl_append]; rfl
theorem Val.snoc {kt kg:Nat} {ds:List Dd} {d:Dd} (v:Val kt kg ds) (h1:d.lf = (lfN ds:Int)) (h2:Gd kt kg d):Val kt kg (ds ++ [d]):=fun j e he=>by
  by_cases hj:j < ds.length
  . rw [List.getElem?_append_left hj] at he
    rw [List.take_append_of_le_length (by omega)]
    exact v j e he
  . rw [List.getElem?_append_right (by omega)] at he
    have hj':j - ds.length = 0:=by
      cases q:j - ds.length with
      | zero=>rfl
      | succ k=>rw [q] at he; simp at he
    rw [hj'] at he
    simp at he
    subst he
    have:j = ds.length:=by omega
    subst this
    rw [List.take_left']
    . exact ⟨h1,h2⟩
    . rfl
theorem a1K {α:Type} {l:List α} {j:Nat} {x:α} (h:l[j]? = some x):l.take (j + 1) = l.take j ++ [x]:=by rw [List.take_succ,h]; rfl
theorem a3Z {kt kg:Nat} {ds:List Dd} (v:Val kt kg ds):∀ j,j <= ds.length->(run (ds.take j)).2.length = lfN (ds.take j)
  | 0,_=>rfl
  | j + 1,hj=>by
    have hd:ds[j]? = some ds[j]:=List.getElem?_eq_getElem (by omega)
    obtain ⟨h1,_⟩:=v j _ hd
    have ih:=a3Z v j (by omega)
    rw [a1K hd,a1d,a8c]
    generalize ds[j] = d at *
    generalize run (ds.take j) = S at *
    generalize lfN (ds.take j) = m at *
    unfold stp lfs
    by_cases c1:d.d = 1/\0 < S.1.length
    . rw [if_pos c1,if_neg (by rintro ⟨z,_⟩; omega),List.length_append,ih]; rfl
    rw [if_neg c1]
    by_cases c2:d.d = 2/\0 < S.1.length
    . rw [if_pos c2,if_neg (by rintro ⟨z,_⟩; omega),List.length_append,ih]; rfl
    rw [if_neg c2]
    by_cases c3:d.d = 3/\0 < d.lf
    . rw [if_pos c3,if_pos ⟨c3.1,by omega⟩,List.length_dropLast,ih]
    rw [if_neg c3,if_neg (show ¬ (d.d = 3/\0 < m) from fun ⟨z,zz⟩=>c3 ⟨z,by omega⟩)]
    by_cases c4:S.1.length = 16
    . rw [if_pos c4,List.length_append,ih]; rfl
    . rw [if_neg c4,List.length_append,ih]; rfl
theorem a7a {kt kg:Nat} {ds:List Dd} (v:Val kt kg ds):(run ds).2.length = lfN ds:=by
  have:=a3Z v ds.length (Nat.le_refl _)
  rwa [List.take_length] at this
structure Kq where
  p:Addr
  pa:Addr
  kt:Nat
  kg:Nat
  z:Str
def KO (K:W.Frag) (C:Addr) (H:Hp) (Ws:List Addr) (o:Kq) (S:KS):Prop:=∃ lo,KpS K C H o.p o.kt o.kg o.z S o.pa lo/\(∀ b ∈ lo,b ∉ Ws)/\OkS o.z o.kt o.kg S
structure Sx (Ws:List Addr) (x y u:Kq) (dx dy tl:Addr):Prop where
  xy:x.pa ≠ y.pa
  xu:x.pa ≠ u.pa
  yu:y.pa ≠ u.pa
  xdx:x.pa ≠ dx
  xdy:x.pa ≠ dy
  xt:x.pa ≠ tl
  ydx:y.pa ≠ dx
  ydy:y.pa ≠ dy
  yt:y.pa ≠ tl
  udx:u.pa ≠ dx
  udy:u.pa ≠ dy
  ut:u.pa ≠ tl
  dd:dx ≠ dy
  dxt:dx ≠ tl
  dyt:dy ≠ tl
  pxy:x.p ≠ y.p
  pxu:x.p ≠ u.p
  pyu:y.p ≠ u.p
  wx:x.pa ∈ Ws
  wy:y.pa ∈ Ws
  wu:u.pa ∈ Ws
  wdx:dx ∈ Ws
  wdy:dy ∈ Ws
  wt:tl ∈ Ws
  all:∀ b ∈ Ws,b = x.pa \/ b = y.pa \/ b = u.pa \/ b = dx \/ b = dy \/ b = tl
  fx:Fit x.z x.kt x.kg
  fy:Fit y.z y.kt y.kg
  fu:Fit u.z u.kt u.kg
  t3x:x.kt <= 3
  t3y:y.kt <= 3
  g1x:1 <= x.kg
  g3x:x.kg <= 3
  g1y:1 <= y.kg
  g3y:y.kg <= 3
section
variable {K:W.Frag} {C Pt:Addr} {H H':Hp} {Ws:List Addr} {o x y u:Kq} {S Sx':KS} {dx dy tl:Addr}
theorem Sx.swap (s:Sx Ws x y u dx dy tl):Sx Ws y x u dy dx tl :=
  ⟨s.xy.symm,s.yu,s.xu,s.ydy,s.ydx,s.yt,s.xdy,s.xdx,s.xt,s.udy,s.udx,s.ut,s.dd.symm,s.dyt,s.dxt,s.pxy.symm,s.pyu,s.pxu,s.wy,s.wx,s.wu,s.wdy,s.wdx,s.wt,fun b hb=>by
    rcases s.all b hb with h | h | h | h | h | h <;> simp [h],s.fy,s.fx,s.fu,s.t3y,s.t3x,s.g1y,s.g3y,s.g1x,s.g3x⟩
theorem KO.p' (k:KO K C H Ws o S):∃ dx fs,H o.p = some (.ins C dx fs):=by
  obtain ⟨lo,kp,_⟩:=k
  obtain ⟨dx,_,_,pv,h,_⟩:=kp.ex
  exact ⟨dx,_,h⟩
theorem KO.pa' (k:KO K C H Ws o S):∃ pv,H o.pa = some (.lst pv):=by
  obtain ⟨lo,kp,_⟩:=k
  obtain ⟨dx,_,_,pv,_,_,h,_⟩:=kp.ex
  exact ⟨pv,h⟩
theorem KO.new {lo:List Addr} (k:KpAt K C H o.p o.kt o.kg o.z ([],[]) [] o.pa lo) (n:∀ b ∈ lo,b ∉ Ws):KO K C H Ws o ([],[]):=by
  refine ⟨lo,?_,n,fun hs h=>?_⟩
  . show KpAt K C H o.p o.kt o.kg o.z ([],T5 o.z o.kt o.kg []) [] o.pa lo
    rw [a5b]; exact k
  . have:hs = []:=by simpa using h
    subst this
    exact ⟨by decide,(fun g hg=>nomatch hg),(by rw [a5b]; rfl)⟩
theorem KO.same (e:Same H H') (k:KO K C H Ws o S):KO K C H' Ws o S:=by
  obtain ⟨lo,kp,n,ok⟩:=k
  exact ⟨lo,kp.same e,n,ok⟩
theorem KO.same1 (T:LT Pt H) (e:Same1 Pt H H') (k:KO K C H Ws o S):KO K C H' Ws o S:=by
  obtain ⟨lo,kp,n,ok⟩:=k
  exact ⟨lo,kp.same1 T e,n,ok⟩
theorem KO.other (T:LT Pt H) (k:KO K C H Ws o S) (kx:KO K C H Ws x Sx') (np:o.p ≠ x.p) (na:o.pa ≠ x.pa) (wx:x.pa ∈ Ws) (lf:Left Pt x.p x.pa H H'):KO K C H' Ws o S:=by
  obtain ⟨dx,fs,hx⟩:=kx.p'
  obtain ⟨pv,hxa⟩:=kx.pa'
  obtain ⟨do',fo,hp⟩:=k.p'
  obtain ⟨pvo,hpa⟩:=k.pa'
  obtain ⟨lo,kp,n,ok⟩:=k
  have fr:Fr0 (fun b=>b = x.p \/ b = x.pa \/ b = Pt) H H':=⟨fun b o hx e=>lf b o (fun z=>hx (.inl z)) (fun z=>hx (.inr (.inr z))) (fun z=>hx (.inr (.inl z))) e,fun x hx=>by
    rcases hx with rfl | rfl | rfl
    . exact N1 ‹_›
    . exact B1 hxa
    . exact S3 T⟩
  refine ⟨lo,kp.fr0 fr (fun b hb hX=>?_) (fun hX=>?_) (fun hX=>?_),n,ok⟩
  . obtain ⟨zs,hz⟩:=kp.ls b hb
    rcases hX with rfl | rfl | rfl
    . rw [hx] at hz; cases hz
    . exact n _ hb wx
    . exact T.ne hz nofun rfl
  . rcases hX with z | z | z
    . exact np z
    . rw [z,hxa] at hp; cases hp
    . exact T.ne hp nofun z
  . rcases hX with z | z | z
    . rw [z,hx] at hpa; cases hpa
    . exact na z
    . exact T.ne hpa nofun z
theorem KO.write {w:Addr} {vs ws:List V} (k:KO K C H Ws o S) (hw:H w = some (.lst vs)) (ww:w ∈ Ws) (nw:o.pa ≠ w):KO K C (m5 H w (.lst ws)) Ws o S:=by
  obtain ⟨do',fo,hp⟩:=k.p'
  obtain ⟨lo,kp,n,ok⟩:=k
  have fr:Fr0 (fun b=>b = w) H (m5 H w (.lst ws)):=⟨fun b o hx e=>by rw [c9 hx]; exact e,fun x hx=>by subst hx; exact B1 hw⟩
  exact ⟨lo,kp.fr0 fr (fun b hb hX=>n b hb (hX ▸ ww)) (fun z=>by rw [z,hw] at hp; cases hp) nw,n,ok⟩
def Tr (Ws:List Addr) (H H':Hp):Prop:=∃ X:Addr->Prop,Fr0 X H H'/\∀ b xs,b ∉ Ws->H b = some (.lst xs)->¬ X b
theorem Tr.same (e:Same H H'):Tr Ws H H':=⟨_,e.fr0,fun _ _ _ _ z=>z⟩
theorem Tr.same1 (T:LT Pt H) (e:Same1 Pt H H'):Tr Ws H H':=⟨_,W2 T e,fun b xs _ h z=>T.ne h nofun z⟩
theorem Tr.left (T:LT Pt H) (kx:KO K C H Ws x Sx') (wx:x.pa ∈ Ws) (lf:Left Pt x.p x.pa H H'):Tr Ws H H':=by
  obtain ⟨dx,fs,hx⟩:=kx.p'
  obtain ⟨pv,hxa⟩:=kx.pa'
  refine ⟨fun b=>b = x.p \/ b = x.pa \/ b = Pt,⟨fun b o hx e=>lf b o (fun z=>hx (.inl z)) (fun z=>hx (.inr (.inr z))) (fun z=>hx (.inr (.inl z))) e,fun x hx=>by
    rcases hx with rfl | rfl | rfl
    . exact N1 ‹_›
    . exact B1 hxa
    . exact S3 T⟩,fun b xs n h z=>?_⟩
  rcases z with rfl | rfl | rfl
  . rw [hx] at h; cases h
  . exact n wx
  . exact T.ne h nofun rfl
theorem Tr.write {w:Addr} {vs ws:List V} (hw:H w = some (.lst vs)) (ww:w ∈ Ws):Tr Ws H (m5 H w (.lst ws)) :=
  ⟨fun b=>b = w,⟨fun b o hx e=>by rw [c9 hx]; exact e,fun x hx=>by subst hx; exact B1 hw⟩,fun b xs n h z=>n (z ▸ ww)⟩
theorem Tr.lst (t:Tr Ws H H') {b:Addr} {xs:List V} (n:b ∉ Ws) (h:H b = some (.lst xs)):H' b = some (.lst xs):=by
  obtain ⟨X,e,k⟩:=t
  exact e.k _ _ (k b xs n h) h
theorem Tr.tup (t:Tr Ws H H') {b:Addr} {xs:List V} (h:H b = some (.tup xs)):H' b = some (.tup xs):=by
  obtain ⟨X,e,k⟩:=t
  exact e.tup h
theorem Tr.dd (t:Tr Ws H H') {xs:List V} {ds:List Dd} (h:PySem.Paired (DdAt K H) xs ds):PySem.Paired (DdAt K H') xs ds:=by
  obtain ⟨X,e,k⟩:=t
  exact Paired.imp' (fun _ _ r=>r.fr0 e) h
theorem Tr.da (t:Tr Ws H H') {v:V} {d:Dd} (h:DdAt K H v d):DdAt K H' v d:=by
  obtain ⟨X,e,k⟩:=t
  exact h.fr0 e
theorem Tr.dq (t:Tr Ws H H') {v:V} {d:PyData} (h:Dq K H (fun a=>a ∉ Ws) v d):Dq K H' (fun a=>a ∉ Ws) v d:=by
  obtain ⟨X,e,k⟩:=t
  exact h.go e fun a xs f q=>⟨f,k a xs f q⟩
theorem Tr.dqs (t:Tr Ws H H') {v:List V} {d:List PyData} (h:Dqs K H (fun a=>a ∉ Ws) v d):Dqs K H' (fun a=>a ∉ Ws) v d:=by
  obtain ⟨X,e,k⟩:=t
  exact h.go e fun a xs f q=>⟨f,k a xs f q⟩
structure Stt (H:Hp) (Ws:List Addr) (x y:Kq) (dx dy bl dl ca cl c0 c1:Addr) (cv:List V):Prop where
  b:H bl = some (.lst [.ref x.p,.ref y.p])
  d:H dl = some (.lst [.ref dx,.ref dy])
  c:H ca = some (.lst [.ref c0,.ref c1])
  l:H cl = some (.lst cv)
  t0:H c0 = some (.tup [.int (x.kt:Int),.int (x.kg:Int)])
  t1:H c1 = some (.tup [.int (y.kt:Int),.int (y.kg:Int)])
  nb:bl ∉ Ws
  nd:dl ∉ Ws
  nc:ca ∉ Ws
  nl:cl ∉ Ws
theorem Stt.tr {bl dl ca cl c0 c1:Addr} {cv:List V} (t:Tr Ws H H') (s:Stt H Ws x y dx dy bl dl ca cl c0 c1 cv):Stt H' Ws x y dx dy bl dl ca cl c0 c1 cv :=
  ⟨t.lst s.nb s.b,t.lst s.nd s.d,t.lst s.nc s.c,t.lst s.nl s.l,t.tup s.t0,t.tup s.t1,s.nb,s.nd,s.nc,s.nl⟩
structure Inv2 (K:W.Frag) (C Pt:Addr) (H:Hp) (Ws:List Addr) (x y u:Kq) (dx dy:Addr) (es fs:List Dd):Prop where
  lt:LT Pt H
  kx:KO K C H Ws x (run es)
  ky:KO K C H Ws y (run fs)
  ku:KO K C H Ws u ([],[])
  lx:∃ xs,H dx = some (.lst xs)/\PySem.Paired (DdAt K H) xs es
  ly:∃ xs,H dy = some (.lst xs)/\PySem.Paired (DdAt K H) xs fs
  vx:Val x.kt x.kg es
  vy:Val y.kt y.kg fs
theorem Inv2.swap {es fs:List Dd} (i:Inv2 K C Pt H Ws x y u dx dy es fs):Inv2 K C Pt H Ws y x u dy dx fs es:=⟨i.lt,i.ky,i.kx,i.ku,i.ly,i.lx,i.vy,i.vx⟩
def TLd (K:W.Frag) (H:Hp) (Ws:List Addr) (tl:Addr) (os:List PyData):Prop:=∃ us,H tl = some (.lst us)/\Dqs K H (fun a=>a ∉ Ws) us os
theorem Inv2.same {es fs:List Dd} (e:Same H H') (i:Inv2 K C Pt H Ws x y u dx dy es fs):Inv2 K C Pt H' Ws x y u dx dy es fs:=by
  obtain ⟨xs,h1,h2⟩:=i.lx
  obtain ⟨ys,h3,h4⟩:=i.ly
  exact ⟨i.lt.same e,i.kx.same e,i.ky.same e,i.ku.same e,⟨xs,e _ _ h1,Paired.imp' (fun _ _ r=>r.same e) h2⟩,⟨ys,e _ _ h3,Paired.imp' (fun _ _ r=>r.same e) h4⟩,i.vx,i.vy⟩
theorem Inv2.same1 {es fs:List Dd} (e:Same1 Pt H H') (L:LT Pt H') (i:Inv2 K C Pt H Ws x y u dx dy es fs):Inv2 K C Pt H' Ws x y u dx dy es fs:=by
  obtain ⟨xs,h1,h2⟩:=i.lx
  obtain ⟨ys,h3,h4⟩:=i.ly
  have t:Tr Ws H H':=Tr.same1 i.lt e
  exact ⟨L,i.kx.same1 i.lt e,i.ky.same1 i.lt e,i.ku.same1 i.lt e,⟨xs,e _ _ (i.lt.ne h1 nofun) h1,t.dd h2⟩,⟨ys,e _ _ (i.lt.ne h3 nofun) h3,t.dd h4⟩,i.vx,i.vy⟩
theorem TLd.same {os:List PyData} (e:Same H H') (t:TLd K H Ws tl os):TLd K H' Ws tl os:=by
  obtain ⟨us,h1,h2⟩:=t
  exact ⟨us,e _ _ h1,h2.same e fun _ z=>z⟩
theorem TLd.same1 {os:List PyData} (T:LT Pt H) (e:Same1 Pt H H') (t:TLd K H Ws tl os):TLd K H' Ws tl os:=by
  obtain ⟨us,h1,h2⟩:=t
  exact ⟨us,e _ _ (T.ne h1 nofun) h1,(Tr.same1 T e).dqs h2⟩
theorem Inv2.fresh {es fs:List Dd} {os:List PyData} (s:Sx Ws x y u dx dy tl) (i:Inv2 K C Pt H Ws x y u dx dy es fs) (t:TLd K H Ws tl os) {b:Addr} (h:H b = none):b ∉ Ws:=fun hb=>by
  obtain ⟨_,h1⟩:=i.kx.pa'
  obtain ⟨_,h2⟩:=i.ky.pa'
  obtain ⟨_,h3⟩:=i.ku.pa'
  obtain ⟨_,h4,_⟩:=i.lx
  obtain ⟨_,h5,_⟩:=i.ly
  obtain ⟨_,h6,_⟩:=t
  rcases s.all b hb with rfl | rfl | rfl | rfl | rfl | rfl
  . rw [h1] at h; cases h
  . rw [h2] at h; cases h
  . rw [h3] at h; cases h
  . rw [h4] at h; cases h
  . rw [h5] at h; cases h
  . rw [h6] at h; cases h
structure Bn (K:W.Frag) (C Pt:Addr) (H:Hp) (Ws:List Addr) (X Y u:Kq) (dX dY:Addr) (EX EY:List Dd) (tl:Addr) (os:List PyData) (x y:Kq) (d0 d1 bl dl ca cl c0 c1:Addr) (cv:List V):Prop where
  i:Inv2 K C Pt H Ws X Y u dX dY EX EY
  t:TLd K H Ws tl os
  s:Stt H Ws x y d0 d1 bl dl ca cl c0 c1 cv
section
variable {X Y:Kq} {dX dY:Addr} {EX EY:List Dd} {os:List PyData} {d0 d1 bl dl ca cl c0 c1:Addr} {cv:List V}
theorem Bn.same (e:Same H H') (b:Bn K C Pt H Ws X Y u dX dY EX EY tl os x y d0 d1 bl dl ca cl c0 c1 cv):Bn K C Pt H' Ws X Y u dX dY EX EY tl os x y d0 d1 bl dl ca cl c0 c1 cv:=⟨b.i.same e,b.t.same e,b.s.tr (Tr.same e)⟩
theorem Bn.same1 (e:Same1 Pt H H') (L:LT Pt H') (b:Bn K C Pt H Ws X Y u dX dY EX EY tl os x y d0 d1 bl dl ca cl c0 c1 cv):Bn K C Pt H' Ws X Y u dX dY EX EY tl os x y d0 d1 bl dl ca cl c0 c1 cv:=⟨b.i.same1 e L,b.t.same1 b.i.lt e,b.s.tr (Tr.same1 b.i.lt e)⟩
end
theorem b1i {kt kg:Nat} {ds:List Dd} (v:Val kt kg ds):(run ds).2.length <= ds.length:=by rw [a7a v]; exact a9Y ds
end
end Rim
namespace Rim
open PySem L2 Fr
section
variable {P:Program} {w:World} {K:W.Frag} {mg:Str->Option Value} {base:Heap} {f C Pt:Addr} {fd:FuncData} {n:Nat}
def a4Z (K:W.Frag) (Pt:Addr):Sp:=fun vs H Q _=>∃ (a:Addr) (ns:List Int),vs = [.ref a]/\SqL K H a (ns.map V.int)/\ns.length <= 63/\LT Pt H/\∀ H',Q (.bl true) H'
abbrev b1f:List V:=[V.str "any",V.str "one",V.str "less",V.str "more"]
theorem b0w {i:Int} (h0:0 <= i) (h4:i < 4):∃ z,X3 b1f i = some (.str z)/\Y9 z:=by
  have:i = 0 \/ i = 1 \/ i = 2 \/ i = 3:=by omega
  rcases this with rfl | rfl | rfl | rfl
  . exact ⟨"any",rfl,.inl rfl⟩
  . exact ⟨"one",rfl,.inr (.inl rfl)⟩
  . exact ⟨"less",rfl,.inr (.inr (.inl rfl))⟩
  . exact ⟨"more",rfl,.inr (.inr (.inr rfl))⟩
theorem a4Y {v:Int} (h:0 <= v):∃ k:Nat,1 + v % 3 = (k:Int)/\1 <= k/\k <= 3:=⟨(1 + v % 3).toNat,by omega,by omega,by omega⟩
set_option maxHeartbeats 16000000 in
theorem b0I {a1 a2 a3 a4 a5 a6 fi:Addr} {d1 d2 d3 d4 d5 d6 di:FuncData} (F:Fun K "law" "law" W4 f fd) (T:v7 mg) (TKd:TK K C) (M:a9F P w K mg base C fi di) (Cs:Calls P w K mg base (n + 2) C Pt a1 a2 a3 a4 a5 a6 d1 d2 d3 d4 d5 d6) :
    FnOk P w K mg base D6 (n + 3) f fd ["script"] (a4Z K Pt):=by
  refine F.ok scLaw (fun vs H Q E h=>?_) (fun cdv A outer s H vs Q E hr h=>?_)
  . obtain ⟨a,ns,rfl,_⟩:=h
    rfl
  obtain ⟨a,ns,rfl,hS,h63,LTH,q⟩:=h
  refine ⟨_,(b3u T TKd M Cs hr).2,?_⟩
  refine ⟨_,rfl,a,ns,0,rfl,hS,by decide,fun c0=>?_⟩
  refine ⟨_,8,1000,rfl,by decide,by decide,by decide,fun hd H1 ds e1 hhd ld bd=>?_⟩
  have at8:∀ k:Nat,k < 8->∃ v,v ∈ ds/\X3 (ds.map V.int) (k:Int) = some (.int v):=fun k hk=>a5n (by omega) (by omega)
  have L1:=LTH.same e1
  have hS1:=e1.seq hS
  refine ⟨fun σ' H'=>∃ ca ca0 ca1 k0 g0 k1 g1,σ' = [some (.ref a),some (.ref hd),some (.ref ca),none,none,none,none,none,none,none,none,none,none,none,none,none,none]/\Same H1 H'/\H' ca = some (.lst [.ref ca0,.ref ca1])/\H' ca0 = some (.tup [.int ((k0:Nat):Int),.int ((g0:Nat):Int)])/\H' ca1 = some (.tup [.int ((k1:Nat):Int),.int ((g1:Nat):Int)])/\(1 <= k0/\k0 <= 3/\1 <= g0/\g0 <= 3)/\(1 <= k1/\k1 <= 3/\1 <= g1/\g1 <= 3),?_,?_⟩
  . obtain ⟨v0,m0,i0⟩:=at8 0 (by decide)
    obtain ⟨v1,m1,i1⟩:=at8 1 (by decide)
    obtain ⟨v2,m2,i2⟩:=at8 2 (by decide)
    obtain ⟨v3,m3,i3⟩:=at8 3 (by decide)
    obtain ⟨k0,e0,k01,k03⟩:=a4Y (bd v0 m0).1
    obtain ⟨g0,f0,g01,g03⟩:=a4Y (bd v1 m1).1
    obtain ⟨k1,e1',k11,k13⟩:=a4Y (bd v2 m2).1
    obtain ⟨g1,f1,g11,g13⟩:=a4Y (bd v3 m3).1
    refine ⟨_,rfl,hd,_,0,_,rfl,rfl,SqL.of hhd,i0,_,_,rfl,rfl,(by show (0:Int) < 3; decide),_,_,rfl,rfl,_,rfl,hd,_,1,_,rfl,rfl,SqL.of hhd,i1,_,_,rfl,rfl,(by show (0:Int) < 3; decide),_,_,rfl,rfl,(by show 2 <= sizeLine; decide),fun t0 ht0=>?_⟩
    have s0:=Same.new ht0 (.tup [V.int (1 + v0 % 3),V.int (1 + v1 % 3)])
    refine ⟨_,rfl,hd,_,2,_,rfl,rfl,SqL.of (s0 _ _ hhd),i2,_,_,rfl,rfl,(by show (0:Int) < 3; decide),_,_,rfl,rfl,_,rfl,hd,_,3,_,rfl,rfl,SqL.of (s0 _ _ hhd),i3,_,_,rfl,rfl,(by show (0:Int) < 3; decide),_,_,rfl,rfl,(by show 2 <= sizeLine; decide),fun t1 ht1=>?_⟩
    have s1:=Same.new ht1 (.tup [V.int (1 + v2 % 3),V.int (1 + v3 % 3)])
    refine ⟨(by show 2 <= sizeLine; decide),fun ca hca=>?_⟩
    have s2:=Same.new hca (.lst [V.ref t0,V.ref t1])
    refine ⟨ca,t0,t1,k0,g0,k1,g1,rfl,s0.trans (s1.trans s2),upd_same,?_,?_,⟨k01,k03,g01,g03⟩,k11,k13,g11,g13⟩
    . rw [<- e0,<- f0]; exact s2 _ _ (s1 _ _ upd_same)
    . rw [<- e1',<- f1]; exact s2 _ _ upd_same
  intro σ2 H2 hM_; refine R7 fun G_ hG_=>?_; obtain ⟨ca,ca0,ca1,k0,g0,k1,g1,rfl,e2,hca,ht0,ht1,b0,b1⟩:=hM_; subst hG_
  have hhd2:=e2 _ _ hhd
  have L2:=L1.same e2
  refine ⟨fun σ' H'=>∃ ca1 k1 g1,σ' = [some (.ref a),some (.ref hd),some (.ref ca),none,none,none,none,none,none,none,none,none,none,none,none,none,none]/\H' hd = some (.lst (ds.map V.int))/\SqL K H' a (ns.map V.int)/\LT Pt H'/\H' ca = some (.lst [.ref ca0,.ref ca1])/\H' ca0 = some (.tup [.int ((k0:Nat):Int),.int ((g0:Nat):Int)])/\H' ca1 = some (.tup [.int ((k1:Nat):Int),.int ((g1:Nat):Int)])/\(1 <= k1/\k1 <= 3/\1 <= g1/\g1 <= 3),?_,?_⟩
  . obtain ⟨v6,m6,i6⟩:=at8 6 (by decide)
    refine ⟨_,rfl,hd,_,6,_,rfl,rfl,SqL.of hhd2,i6,_,_,rfl,rfl,(by show (0:Int) < 2; decide),rfl,_,rfl,?_⟩
    refine C3 (fun c=>?_) (fun c=>?_)
    . refine ⟨_,rfl,ca,_,0,_,rfl,rfl,SqL.of hca,rfl,_,rfl,ca,_,1,1,rfl,rfl,hca,rfl,?_⟩
      refine ⟨ca0,k0,g0,rfl,?_,?_,?_,upd_same,?_,?_,b0⟩
      . rw [c9 (fun z=>by rw [z,hca] at hhd2; have:=Option.some.inj hhd2; injection this with this; have:=congrArg List.length this; simp at this; omega)]; exact hhd2
      . rcases e2.seq hS1 with (h | ⟨o,h⟩) | h
        . refine .inl (.inl ?_)
          rw [c9 (fun z=>by
            rw [z,hca] at h; have:=Option.some.inj h; injection this with this
            match ns,this with
            | x :: _,this=>simp at this)]
          exact h
        . exact .inl (.inr ⟨o,by rw [c9 (w6 h hca nofun)]; exact h⟩)
        . exact .inr h
      . exact L2.write hca
      . rw [c9 (w6 ht0 hca nofun)]; exact ht0
      . rw [c9 (w6 ht0 hca nofun)]; exact ht0
    . exact ⟨ca1,k1,g1,rfl,hhd2,e2.seq hS1,L2,hca,ht0,ht1,b1⟩
  intro σ3 H3 hM_; refine R7 fun G_ hG_=>?_; obtain ⟨ca1,k1,g1,rfl,hhd3,hS3,L3,hca,ht0,ht1,b1⟩:=hM_; subst hG_
  refine ⟨fun σ' H'=>∃ sz z0 z1,σ' = [some (.ref a),some (.ref hd),some (.ref ca),some (.ref sz),none,none,none,none,none,none,none,none,none,none,none,none,none]/\Same H3 H'/\H' sz = some (.lst [.str z0,.str z1])/\Y9 z0/\Y9 z1,?_,?_⟩
  . have hc46:C5 (ds.map V.int) (some 4) (some 6) = ((ds.drop 4).take 2).map V.int:=by
      rw [show (some (4:Int)) = some ((4:Nat):Int) from rfl,show (some (6:Int)) = some ((6:Nat):Int) from rfl,a2p _ 4 6 (by omega) (by rw [List.length_map]; omega),<- List.map_drop,<- List.map_take]
    refine ⟨_,rfl,_,rfl,_,rfl,hd,_,rfl,SqL.of hhd3,fun sl hsl=>?_⟩
    rw [hc46]
    have s1:=Same.new hsl (.lst (((ds.drop 4).take 2).map V.int))
    have l2:(((ds.drop 4).take 2).map V.int).length = 2:=by simp; omega
    refine ⟨sl,rfl,⟨_,SqL.of upd_same⟩,fun sz hsz=>?_⟩
    refine a0F (D4 (SqL.of upd_same)) hsz (by rw [l2]; decide) (fun _ y _=>∃ z,y = .str z/\Y9 z) (fun i y H H' r _=>r) (fun i x H4 ys N hx e4 hsz4 hN=>?_) (fun ys H4 e4 hsz4 len pr=>?_)
    . obtain ⟨k,rfl⟩:=K4 hx
      refine ⟨Wk.set (by decide),(by show 4 <= sizeLine; decide),fun fl hfl=>?_⟩
      have s5:=Same.new hfl (.lst b1f)
      obtain ⟨z,hz1,hz2⟩:=b0w (i:=k % 4) (by omega) (by omega)
      refine ⟨_,rfl,_,_,rfl,rfl,(by show (0:Int) < 4; decide),fl,b1f,_,_,rfl,rfl,SqL.of upd_same,hz1,?_⟩
      exact hN _ _ s5 ⟨z,rfl,hz2⟩
    . rw [l2] at len
      match ys,len with
      | [y0,y1],_ =>
        obtain ⟨z0,rfl,hz0⟩:=pr 0 _ rfl
        obtain ⟨z1,rfl,hz1⟩:=pr 1 _ rfl
        exact ⟨sz,z0,z1,rfl,s1.trans e4,hsz4,hz0,hz1⟩
  intro σ4 H4 hM_; refine R7 fun G_ hG_=>?_; obtain ⟨sz,z0,z1,rfl,e4,hsz,hz0,hz1⟩:=hM_; subst hG_
  have hca4:=e4 _ _ hca
  have ht04:=e4 _ _ ht0
  have ht14:=e4 _ _ ht1
  have L4:=L3.same e4
  have hS4:=e4.seq hS3
  refine ⟨fun σ' H'=>∃ bl p0 p1 pa0 pa1 lo0 lo1,σ' = [some (.ref a),some (.ref hd),some (.ref ca),some (.ref sz),some (.ref bl),none,none,none,none,none,none,none,none,none,none,none,none]/\Same H4 H'/\H' bl = some (.lst [.ref p0,.ref p1])/\KpAt K C H' p0 k0 g0 z0 ([],[]) [] pa0 lo0/\KpAt K C H' p1 k1 g1 z1 ([],[]) [] pa1 lo1/\p0 ≠ p1/\pa0 ≠ pa1/\bl ≠ pa0/\bl ≠ pa1/\pa0 ∉ lo1/\pa1 ∉ lo0/\H4 pa0 = none/\H4 pa1 = none,?_,?_⟩
  . refine ⟨2,rfl,by omega,by omega,fun bl hbl=>?_⟩
    have s5:=Same.new hbl (.lst [])
    refine b1g (fun v H'=>∃ p pa lo,v = .ref p/\Same (m5 H4 bl (.lst [])) H'/\H4 pa = none/\KpAt K C H' p k0 g0 z0 ([],[]) [] pa lo/\bl ∉ lo/\bl ≠ pa) (fun v0 v1 H'=>∃ p0 p1 pa0 pa1 lo0 lo1,v0 = .ref p0/\v1 = .ref p1/\(∀ b o,b ≠ bl->H4 b = some o->H' b = some o)/\KpAt K C H' p0 k0 g0 z0 ([],[]) [] pa0 lo0/\KpAt K C H' p1 k1 g1 z1 ([],[]) [] pa1 lo1/\p0 ≠ p1/\pa0 ≠ pa1/\bl ≠ pa0/\bl ≠ pa1/\pa0 ∉ lo1/\pa1 ∉ lo0/\bl ∉ lo0/\bl ∉ lo1/\H4 pa0 = none/\H4 pa1 = none) (fun N hN=>?_) (fun v0 H5 N hR h5 hN=>?_) (fun v0 v1 H5 hR h5=>?_)
    . refine ⟨_,rfl,_,rfl,ca,_,0,_,rfl,rfl,SqL.of (s5 _ _ hca4),rfl,ca0,_,0,_,rfl,rfl,SqT.of (s5 _ _ ht04),rfl,_,rfl,_,rfl,ca,_,0,_,rfl,rfl,SqL.of (s5 _ _ hca4),rfl,ca0,_,1,_,rfl,rfl,SqT.of (s5 _ _ ht04),rfl,_,rfl,_,rfl,sz,_,0,_,rfl,rfl,SqL.of (s5 _ _ hsz),rfl,?_⟩
      refine made fun p pa lo H' e6 n1 n2 n3 KP=>hN _ _ ⟨p,pa,lo,rfl,e6,s5.free n2,KP,fun hb=>?_,fun z=>?_⟩ (e6 _ _ upd_same)
      . have:=n3 _ hb; rw [upd_same] at this; cases this
      . rw [<- z,upd_same] at n2; cases n2
    . obtain ⟨p,pa,lo,rfl,e6,n2,KP,nb1,nb2⟩:=hR
      have g6:∀ {b:Addr} {o:HO},H4 b = some o->(m5 H5 bl (.lst [V.ref p])) b = some o:=fun {b o} h=>by
        rw [c9 (d7 h hbl)]; exact e6 _ _ (s5 _ _ h)
      have KP6:KpAt K C (m5 H5 bl (.lst [V.ref p])) p k0 g0 z0 ([],[]) [] pa lo:=by
        obtain ⟨dx,ta,wa,pv0,hp,_,hpa,_⟩:=KP.ex
        exact KP.fr0 (X:=fun b=>b = bl) ⟨fun b o hx e=>by rw [c9 hx]; exact e,fun x hx=>by subst hx; exact B1 h5⟩ (fun b hb z=>nb1 (z ▸ hb)) (fun z=>by rw [z,h5] at hp; cases hp) fun z=>nb2 z.symm
      refine ⟨_,rfl,_,rfl,ca,_,1,_,rfl,rfl,SqL.of (g6 hca4),rfl,ca1,_,0,_,rfl,rfl,SqT.of (g6 ht14),rfl,_,rfl,_,rfl,ca,_,1,_,rfl,rfl,SqL.of (g6 hca4),rfl,ca1,_,1,_,rfl,rfl,SqT.of (g6 ht14),rfl,_,rfl,_,rfl,sz,_,1,_,rfl,rfl,SqL.of (g6 hsz),rfl,?_⟩
      obtain ⟨dx,ta,wa,pv0,hp,_,hpa,_⟩:=KP6.ex
      refine made fun p' pa' lo' H' e7 m1 m2 m3 KP'=>hN _ _ ⟨p,p',pa,pa',lo,lo',rfl,rfl,fun b o hb h=>e7 _ _ (g6 h),KP6.same e7,KP',fun z=>?_,fun z=>?_,nb2,fun z=>?_,fun z=>?_,fun z=>?_,nb1,fun z=>?_,n2,?_⟩ (e7 _ _ upd_same)
      . rw [<- z,hp] at m1; cases m1
      . rw [<- z,hpa] at m2; cases m2
      . rw [<- z,upd_same] at m2; cases m2
      . have:=m3 _ z; rw [hpa] at this; cases this
      . obtain ⟨zs,hz⟩:=KP6.ls _ z; rw [hz] at m2; cases m2
      . have:=m3 _ z; rw [upd_same] at this; cases this
      . cases q:H4 pa' with
        | none=>rfl
        | some o=>rw [g6 q] at m2; cases m2
    . obtain ⟨p0,p1,pa0,pa1,lo0,lo1,rfl,rfl,k5,KP0,KP1,np,npa,n0,n1,x1,x2,y0,y1,f0,f1⟩:=hR
      have up:∀ {p pa:Addr} {lo:List Addr} {kt kg:Nat} {z:Str},KpAt K C H5 p kt kg z ([],[]) [] pa lo->bl ≠ pa->bl ∉ lo->KpAt K C (m5 H5 bl (.lst [V.ref p0,V.ref p1])) p kt kg z ([],[]) [] pa lo:=fun KP nb2 nb1=>by
        obtain ⟨dx,ta,wa,pv0,hp,_,hpa,_⟩:=KP.ex
        exact KP.fr0 (X:=fun b=>b = bl) ⟨fun b o hx e=>by rw [c9 hx]; exact e,fun x hx=>by subst hx; exact B1 h5⟩ (fun b hb z=>nb1 (z ▸ hb)) (fun z=>by rw [z,h5] at hp; cases hp) fun z=>nb2 z.symm
      exact ⟨bl,p0,p1,pa0,pa1,lo0,lo1,rfl,fun b o h=>by rw [c9 (d7 h hbl)]; exact k5 b o (d7 h hbl) h,upd_same,up KP0 n0 y0,up KP1 n1 y1,np,npa,n0,n1,x1,x2,f0,f1⟩
  intro σ5 H5 hM_; refine R7 fun G_ hG_=>?_; obtain ⟨bl,p0,p1,pa0,pa1,lo0,lo1,rfl,e5,hbl,KP0,KP1,np,npa,nb0,nb1,x1,x2,f0,f1⟩:=hM_; subst hG_
  have g5:∀ {b:Addr} {o:HO},H4 b = some o->H5 b = some o:=fun h=>e5 _ _ h
  refine ⟨fun σ' H'=>∃ p2 pa2 lo2,σ' = [some (.ref a),some (.ref hd),some (.ref ca),some (.ref sz),some (.ref bl),some (.ref p2),none,none,none,none,none,none,none,none,none,none,none]/\Same H5 H'/\H5 p2 = none/\H5 pa2 = none/\(∀ b ∈ lo2,H5 b = none)/\KpAt K C H' p2 k0 g0 z0 ([],[]) [] pa2 lo2,?_,?_⟩
  . refine ⟨_,rfl,ca,_,0,_,rfl,rfl,SqL.of (g5 hca4),rfl,ca0,_,0,_,rfl,rfl,SqT.of (g5 ht04),rfl,_,rfl,ca,_,0,_,rfl,rfl,SqL.of (g5 hca4),rfl,ca0,_,1,_,rfl,rfl,SqT.of (g5 ht04),rfl,_,rfl,sz,_,0,_,rfl,rfl,SqL.of (g5 hsz),rfl,?_⟩
    refine made (K:=K) (C:=C) (H:=H5) (kt:=k0) (kg:=g0) (z:=z0) (E:=E0) (Q:=fun v H'=>∃ p2 pa2 lo2,[some (.ref a),some (.ref hd),some (.ref ca),some (.ref sz),some (.ref bl),some v,none,none,none,none,none,none,none,none,none,none,none] = [some (.ref a),some (.ref hd),some (.ref ca),some (.ref sz),some (.ref bl),some (.ref p2),none,none,none,none,none,none,none,none,none,none,none]/\Same H5 H'/\H5 p2 = none/\H5 pa2 = none/\(∀ b ∈ lo2,H5 b = none)/\KpAt K C H' p2 k0 g0 z0 ([],[]) [] pa2 lo2) ?_
    intro p pa lo H' e6 n1 n2 n3 KP
    exact ⟨p,pa,lo,rfl,e6,n1,n2,n3,KP⟩
  intro σ6 H6 hM_; refine R7 fun G_ hG_=>?_; obtain ⟨p2,pa2,lo2,rfl,e6,y1,y2,y3,KP2⟩:=hM_; subst hG_
  refine ⟨(by show 0 <= sizeLine; decide),fun d0 hd0=>⟨(by show 0 <= sizeLine; decide),fun d1 hd1=>⟨(by show 2 <= sizeLine; decide),fun dl hdl=>?_⟩⟩⟩
  refine ⟨fun σ' H'=>∃ x y u d0 d1 dl tl Ws,σ' = [some (.ref a),some (.ref hd),some (.ref ca),some (.ref sz),some (.ref bl),some (.ref u.p),some (.ref dl),some (.ref tl),none,none,none,none,none,none,none,none,none]/\Sx Ws x y u d0 d1 tl/\Inv2 K C Pt H' Ws x y u d0 d1 [] []/\TLd K H' Ws tl []/\(H' bl = some (.lst [.ref x.p,.ref y.p])/\bl ∉ Ws)/\(H' dl = some (.lst [.ref d0,.ref d1])/\dl ∉ Ws)/\(H' ca = some (.lst [.ref ca0,.ref ca1])/\ca ∉ Ws)/\H' ca0 = some (.tup [.int (x.kt:Int),.int (x.kg:Int)])/\H' ca1 = some (.tup [.int (y.kt:Int),.int (y.kg:Int)])/\SqL K H' a (ns.map V.int)/\u.kt = x.kt/\u.kg = x.kg/\u.z = x.z,?_,?_⟩
  . refine ⟨(by show 0 <= sizeLine; decide),fun tl htl=>?_⟩
    have s0:=Same.new hd0 (.lst [])
    have s1:=Same.new hd1 (.lst [])
    have s2:=Same.new hdl (.lst [V.ref d0,V.ref d1])
    have s3:=Same.new htl (.lst [])
    have q0:=(s1.trans (s2.trans s3)) _ _ (upd_same (H:=H6) (a:=d0) (o:=.lst []))
    have q1:=(s2.trans s3) _ _ (upd_same (H:=m5 H6 d0 (.lst [])) (a:=d1) (o:=.lst []))
    have q2:=s3 _ _ (upd_same (H:=m5 (m5 H6 d0 (.lst [])) d1 (.lst [])) (a:=dl) (o:=.lst [V.ref d0,V.ref d1]))
    have q3:=upd_same (H:=m5 (m5 (m5 H6 d0 (.lst [])) d1 (.lst [])) dl (.lst [V.ref d0,V.ref d1])) (a:=tl) (o:=.lst [])
    have f1:H6 d1 = none:=s0.free hd1
    have f2:H6 dl = none:=(s0.trans s1).free hdl
    have f3:H6 tl = none:=(s0.trans (s1.trans s2)).free htl
    have n01:d0 ≠ d1:=d7 upd_same hd1
    have n02:d0 ≠ dl:=d7 (s1 _ _ upd_same) hdl
    have n12:d1 ≠ dl:=d7 upd_same hdl
    have n03:d0 ≠ tl:=d7 (s2 _ _ (s1 _ _ upd_same)) htl
    have n13:d1 ≠ tl:=d7 (s2 _ _ upd_same) htl
    have n23:dl ≠ tl:=d7 upd_same htl
    have s6:=s0.trans (s1.trans (s2.trans s3))
    generalize m5 (m5 (m5 (m5 H6 d0 (.lst [])) d1 (.lst [])) dl (.lst [V.ref d0,V.ref d1])) tl (.lst []) = H7 at *
    obtain ⟨dx0,ta0,wa0,pv0,hp0,_,hpa0,_⟩:=KP0.ex
    obtain ⟨dx1,ta1,wa1,pv1,hp1,_,hpa1,_⟩:=KP1.ex
    obtain ⟨dx2,ta2,wa2,pv2,hp2,_,hpa2,_⟩:=KP2.ex
    have old:∀ {b:Addr} {o:HO},H5 b = some o->b ≠ pa2/\b ≠ d0/\b ≠ d1/\b ≠ tl/\b ≠ dl:=fun h=>⟨d7 h y2,d7 (e6 _ _ h) hd0,d7 (e6 _ _ h) f1,d7 (e6 _ _ h) f3,d7 (e6 _ _ h) f2⟩
    have old6:∀ {b:Addr} {o:HO},H6 b = some o->b ≠ d0/\b ≠ d1/\b ≠ tl/\b ≠ dl:=fun h=>⟨d7 h hd0,d7 h f1,d7 h f3,d7 h f2⟩
    have notW:∀ {b:Addr},b ≠ pa0->b ≠ pa1->b ≠ pa2->b ≠ d0->b ≠ d1->b ≠ tl->b ∉ [pa0,pa1,pa2,d0,d1,tl]:=fun a b c d e f=>by simp [a,b,c,d,e,f]
    obtain ⟨o01,o02,o03,o04,o05⟩:=old hpa0
    obtain ⟨o11,o12,o13,o14,o15⟩:=old hpa1
    obtain ⟨o21,o22,o23,o24⟩:=old6 hpa2
    have hca6:=e6 _ _ (g5 hca4)
    refine ⟨⟨p0,pa0,k0,g0,z0⟩,⟨p1,pa1,k1,g1,z1⟩,⟨p2,pa2,k0,g0,z0⟩,d0,d1,dl,tl,[pa0,pa1,pa2,d0,d1,tl],rfl,⟨npa,o01,o11,o02,o03,o04,o12,o13,o14,o21,o22,o23,n01,n03,n13,np,fun z=>?_,fun z=>?_,by simp,by simp,by simp,by simp,by simp,by simp,fun b hb=>by simpa using hb,⟨hz0,b0.1,Nat.le_trans b0.2.1 (by decide),Nat.le_trans b0.2.2.2 (by decide)⟩,⟨hz1,b1.1,Nat.le_trans b1.2.1 (by decide),Nat.le_trans b1.2.2.2 (by decide)⟩,⟨hz0,b0.1,Nat.le_trans b0.2.1 (by decide),Nat.le_trans b0.2.2.2 (by decide)⟩,b0.2.1,b1.2.1,b0.2.2.1,b0.2.2.2,b1.2.2.1,b1.2.2.2⟩,⟨((L4.same e5).same e6).same s6,KO.new (lo:=lo0) (KP0.same (e6.trans s6)) fun b hb=>?_,KO.new (lo:=lo1) (KP1.same (e6.trans s6)) fun b hb=>?_,KO.new (lo:=lo2) (KP2.same s6) fun b hb=>?_,⟨[],q0,.nil⟩,⟨[],q1,.nil⟩,fun j d h=>by simp at h,fun j d h=>by simp at h⟩,⟨[],q3,.nil⟩,⟨s6 _ _ (e6 _ _ hbl),?_⟩,⟨q2,?_⟩,⟨s6 _ _ hca6,?_⟩,s6 _ _ (e6 _ _ (g5 ht04)),s6 _ _ (e6 _ _ (g5 ht14)),s6.seq (e6.seq (e5.seq hS4)),rfl,rfl,rfl⟩
    . rw [show p0 = p2 from z,y1] at hp0; cases hp0
    . rw [show p1 = p2 from z,y1] at hp1; cases hp1
    . obtain ⟨zs,hz⟩:=KP0.ls b hb
      obtain ⟨r1,r2,r3,r4,_⟩:=old hz
      exact notW (fun z=>KP0.no (z ▸ hb)) (fun z=>x2 (z ▸ hb)) r1 r2 r3 r4
    . obtain ⟨zs,hz⟩:=KP1.ls b hb
      obtain ⟨r1,r2,r3,r4,_⟩:=old hz
      exact notW (fun z=>x1 (z ▸ hb)) (fun z=>KP1.no (z ▸ hb)) r1 r2 r3 r4
    . obtain ⟨zs,hz⟩:=KP2.ls b hb
      obtain ⟨r2,r3,r4,_⟩:=old6 hz
      have hn:=y3 b hb
      exact notW (d7 hpa0 hn).symm (d7 hpa1 hn).symm (fun z=>KP2.no (z ▸ hb)) r2 r3 r4
    . obtain ⟨r1,r2,r3,r4,_⟩:=old hbl
      exact notW nb0 nb1 r1 r2 r3 r4
    . exact notW o05.symm o15.symm o24.symm n02.symm n12.symm n23
    . obtain ⟨r1,r2,r3,r4,_⟩:=old (g5 hca4)
      exact notW (d7 hca4 f0) (d7 hca4 ‹H4 pa1 = none›) r1 r2 r3 r4
  intro σ7 H7 hM_; refine R7 fun G_ hG_=>?_; obtain ⟨x,y,u,d0,d1,dl,tl,Ws,rfl,sx,iv,td,⟨hbl,nbl⟩,⟨hdl,ndl⟩,⟨hca,nca⟩,ht0,ht1,hS7,eu1,eu2,eu3⟩:=hM_; subst hG_
  refine ⟨fun σ' H'=>∃ o8 o9 o10 o11 o12 o13 o14 o15 es fs cl cv,σ' = [some (.ref a),some (.ref hd),some (.ref ca),some (.ref sz),some (.ref bl),some (.ref u.p),some (.ref dl),some (.ref tl),o8,o9,o10,o11,o12,o13,o14,o15,none]/\Bn K C Pt H' Ws x y u d0 d1 es fs tl (outs x.z x.kt x.kg ([],[]) es) x y d0 d1 bl dl ca cl ca0 ca1 cv/\es.length <= 64,?_,?_⟩
  . refine ⟨_,rfl,a,ns,2,rfl,hS7,by decide,fun c0=>?_⟩
    refine ⟨(by show 1 <= sizeLine; decide),fun l0 hl0=>?_⟩
    have f0:=Same.new hl0 (.lst [V.int c0])
    refine ⟨_,rfl,_,rfl,_,rfl,a,_,rfl,f0.seq hS7,fun l1 hl1=>?_⟩
    have lc:=a0n (ns.map V.int) (some 3) (some 22)
    rw [List.length_map] at lc
    have mc:∀ v ∈ C5 (ns.map V.int) (some 3) (some 22),∃ c,v = .int c:=fun v hv=>by
      obtain ⟨c,_,rfl⟩:=List.mem_map.mp (a9u hv)
      exact ⟨c,rfl⟩
    generalize C5 (ns.map V.int) (some 3) (some 22) = cs at *
    have f1:=Same.new hl1 (.lst cs)
    have small:=j6 (show (1000:Nat) <= 1000 from Nat.le_refl _)
    refine ⟨l0,l1,_,_,rfl,rfl,f1 _ _ upd_same,upd_same,by show 1 + cs.length <= sizeLine; omega,fun cl hcl=>?_⟩
    have f2:=Same.new hcl (.lst ([V.int c0] ++ cs))
    refine ⟨cl,rfl,⟨_,SqL.of upd_same⟩,?_⟩
    have e8:=f0.trans (f1.trans f2)
    have itn:∀ (i:Nat) (x:V),([V.int c0] ++ cs)[i]? = some x->∃ c,x = .int c:=fun i x hx=>by
      rcases List.mem_append.mp (List.mem_of_getElem? hx) with z | z
      . exact ⟨c0,List.mem_singleton.mp z⟩
      . exact mc x z
    have lcl:([V.int c0] ++ cs).length <= 64:=by simp; omega
    have ncl:cl ∉ Ws:=iv.fresh sx td ((f0.trans f1).free hcl)
    have B0:Bn K C Pt _ Ws x y u d0 d1 [] [] tl (outs x.z x.kt x.kg ([],[]) []) x y d0 d1 bl dl ca cl ca0 ca1 ([V.int c0] ++ cs):=⟨iv.same e8,td.same e8,⟨e8 _ _ hbl,e8 _ _ hdl,e8 _ _ hca,upd_same,e8 _ _ ht0,e8 _ _ ht1,nbl,ndl,nca,ncl⟩⟩
    generalize [V.int c0] ++ cs = cv at *
    refine a3J (xs:=cv) (fun i σ H'=>∃ o8 o9 o10 o11 o12 o13 o14 o15 es fs,σ = [some (.ref a),some (.ref hd),some (.ref ca),some (.ref sz),some (.ref bl),some (.ref u.p),some (.ref dl),some (.ref tl),o8,o9,o10,o11,o12,o13,o14,o15,none]/\Bn K C Pt H' Ws x y u d0 d1 es fs tl (outs x.z x.kt x.kg ([],[]) es) x y d0 d1 bl dl ca cl ca0 ca1 cv/\es.length + fs.length = i)
      ⟨_,_,_,_,_,_,_,_,[],[],rfl,B0,rfl⟩ (fun i σ H' _ ⟨_,_,_,_,_,_,_,_,_,_,_,b,_⟩=>SqL.of b.s.l) ?_ ?_
    rotate_left
    . rintro σ H8 ⟨o8,o9,o10,o11,o12,o13,o14,o15,es,fs,rfl,b,l⟩
      exact ⟨o8,o9,o10,o11,o12,o13,o14,o15,es,fs,cl,cv,rfl,b,by omega⟩
    rintro i xc σ H8 hx ⟨o8,o9,o10,o11,o12,o13,o14,o15,es,fs,rfl,B8,len⟩
    have hil:i < cv.length:=(List.getElem?_eq_some_iff.mp hx).1
    obtain ⟨c,rfl⟩:=itn i xc hx
    refine ⟨fun σ' H'=>∃ (pk:Addr) (ps:List Int),σ' = [some (.ref a),some (.ref hd),some (.ref ca),some (.ref sz),some (.ref bl),some (.ref u.p),some (.ref dl),some (.ref tl),some (.int c),some (.ref pk),o10,o11,o12,o13,o14,o15,none]/\Bn K C Pt H' Ws x y u d0 d1 es fs tl (outs x.z x.kt x.kg ([],[]) es) x y d0 d1 bl dl ca cl ca0 ca1 cv/\H' pk = some (.lst (ps.map V.int))/\ps.length = 12/\∀ d ∈ ps,0 <= d/\d < 1000,?_,?_⟩
    . refine ⟨_,rfl,c,12,1000,rfl,by decide,by decide,by decide,fun pk H9 ps e9 hpk lp bp=>?_⟩
      exact ⟨pk,ps,rfl,B8.same e9,hpk,lp,bp⟩
    intro σ9 H9 hM_; refine R7 fun G_ hG_=>?_; obtain ⟨pk,ps,rfl,B9,hpk,lp,bp⟩:=hM_; subst hG_
    have at12:∀ k:Nat,k < 12->∃ v,v ∈ ps/\X3 (ps.map V.int) (k:Int) = some (.int v):=fun k hk=>a5n (by omega) (by omega)
    refine ⟨fun σ' H'=>∃ kk:Int,(kk = 0 \/ kk = 1)/\σ' = [some (.ref a),some (.ref hd),some (.ref ca),some (.ref sz),some (.ref bl),some (.ref u.p),some (.ref dl),some (.ref tl),some (.int c),some (.ref pk),some (.int kk),o11,o12,o13,o14,o15,none]/\H9 = H',?_,?_⟩
    . obtain ⟨v0,m0,i0⟩:=at12 0 (by decide)
      have:=bp v0 m0
      refine ⟨_,rfl,pk,_,0,_,rfl,rfl,SqL.of hpk,i0,_,_,rfl,rfl,(by show (0:Int) < 2; decide),v0 % 2,by omega,rfl,rfl⟩
    rintro _ _ ⟨kk,hkk,rfl,rfl⟩
    have sel:∃ X Y dX dY EX EY cX,((kk = 0/\X = x/\Y = y/\dX = d0/\dY = d1/\EX = es/\EY = fs) \/ (kk = 1/\X = y/\Y = x/\dX = d1/\dY = d0/\EX = fs/\EY = es))/\Sx Ws X Y u dX dY tl/\Inv2 K C Pt H9 Ws X Y u dX dY EX EY/\X3 [V.ref x.p,V.ref y.p] kk = some (V.ref X.p)/\X3 [V.ref x.p,V.ref y.p] (1 - kk) = some (V.ref Y.p)/\X3 [V.ref d0,V.ref d1] kk = some (V.ref dX)/\X3 [V.ref ca0,V.ref ca1] kk = some (V.ref cX)/\H9 cX = some (.tup [.int (X.kt:Int),.int (X.kg:Int)])/\EX.length + EY.length = i:=by
      rcases hkk with rfl | rfl
      . exact ⟨x,y,d0,d1,es,fs,ca0,.inl ⟨rfl,rfl,rfl,rfl,rfl,rfl,rfl⟩,sx,B9.i,rfl,rfl,rfl,rfl,B9.s.t0,len⟩
      . exact ⟨y,x,d1,d0,fs,es,ca1,.inr ⟨rfl,rfl,rfl,rfl,rfl,rfl,rfl⟩,sx.swap,B9.i.swap,rfl,rfl,rfl,rfl,B9.s.t1,by omega⟩
    obtain ⟨X,Y,dX,dY,EX,EY,cX,hk,sX,IX,iB,iB',iD,iC,hcX,lenX⟩:=sel
    have BX:Bn K C Pt H9 Ws X Y u dX dY EX EY tl (outs x.z x.kt x.kg ([],[]) es) x y d0 d1 bl dl ca cl ca0 ca1 cv:=⟨IX,B9.t,B9.s⟩
    refine ⟨fun σ' H'=>∃ (ta:Addr) (tN:List Int),σ' = [some (.ref a),some (.ref hd),some (.ref ca),some (.ref sz),some (.ref bl),some (.ref u.p),some (.ref dl),some (.ref tl),some (.int c),some (.ref pk),some (.int kk),some (.ref ta),o12,o13,o14,o15,none]/\Same H9 H'/\H' ta = some (.tup (tN.map V.int))/\tN.length = X.kt/\∀ v ∈ tN,1 <= v/\v <= 20,?_,?_⟩
    . have hkt:=sX.t3x
      have hc1:C5 (ps.map V.int) (some 4) (some (4 + (X.kt:Int))) = ((ps.drop 4).take X.kt).map V.int:=by
        rw [show (some (4:Int)) = some ((4:Nat):Int) from rfl,show (some (4 + (X.kt:Int))) = some ((4 + X.kt:Nat):Int) by congr 1,a2p _ 4 (4 + X.kt) (by omega) (by rw [List.length_map]; omega),<- List.map_drop,Nat.add_sub_cancel_left,<- List.map_take]
      refine ⟨_,rfl,_,rfl,_,rfl,_,rfl,ca,_,kk,_,rfl,rfl,SqL.of BX.s.c,iC,cX,_,0,_,rfl,rfl,SqT.of hcX,rfl,_,_,rfl,rfl,_,rfl,pk,_,rfl,SqL.of hpk,fun sl hsl=>?_⟩
      dsimp only
      rw [hc1]
      have s1:=Same.new hsl (.lst (((ps.drop 4).take X.kt).map V.int))
      have ll:((ps.drop 4).take X.kt).length = X.kt:=by simp; omega
      refine ⟨sl,rfl,⟨_,SqL.of upd_same⟩,fun r hr=>?_⟩
      refine U5 (D4 (SqL.of upd_same)) hr (by rw [List.length_map,ll]; exact j6 (by omega)) (fun x=>.int (1 + vI x % 20)) (fun i x H' N hx e hN=>?_) ?_
      . obtain ⟨k,rfl⟩:=K4 hx
        exact ⟨Wk.set (by decide),_,rfl,_,_,rfl,rfl,(by show (0:Int) < 20; decide),_,_,rfl,rfl,hN⟩
      . have em:(((ps.drop 4).take X.kt).map V.int).map (fun x=>V.int (1 + vI x % 20)) = (((ps.drop 4).take X.kt).map (fun i=>1 + i % 20)).map V.int:=by rw [List.map_map,List.map_map]; rfl
        rw [em]
        have s2:=Same.new hr (.lst ((((ps.drop 4).take X.kt).map (fun i=>1 + i % 20)).map V.int))
        refine ⟨r,_,rfl,.inl ⟨SqL.of upd_same,fun ta hta=>?_⟩⟩
        refine ⟨ta,((ps.drop 4).take X.kt).map (fun i=>1 + i % 20),rfl,s1.trans (s2.trans (Same.new hta _)),upd_same,by rw [List.length_map,ll],fun v hv=>?_⟩
        obtain ⟨i,_,rfl⟩:=List.mem_map.mp hv
        omega
    rintro _ H10 ⟨ta,tN,rfl,e10,hta,ltN,btN⟩
    have B10:=BX.same e10
    have hpk10:=e10 _ _ hpk
    have hcX10:=e10 _ _ hcX
    refine ⟨fun σ' H'=>∃ (hv:V) (h:i5),σ' = [some (.ref a),some (.ref hd),some (.ref ca),some (.ref sz),some (.ref bl),some (.ref u.p),some (.ref dl),some (.ref tl),some (.int c),some (.ref pk),some (.int kk),some (.ref ta),some hv,o13,o14,o15,none]/\Same H10 H'/\HS K H' hv h/\GoodK h X.kt X.kg/\O4 h,?_,?_⟩
    . have hkg:=sX.g3x
      have hkt:=sX.t3x
      have hc1:C5 (ps.map V.int) (some 8) (some (8 + (X.kg:Int))) = ((ps.drop 8).take X.kg).map V.int:=by
        rw [show (some (8:Int)) = some ((8:Nat):Int) from rfl,show (some (8 + (X.kg:Int))) = some ((8 + X.kg:Nat):Int) by congr 1,a2p _ 8 (8 + X.kg) (by omega) (by rw [List.length_map]; omega),<- List.map_drop,Nat.add_sub_cancel_left,<- List.map_take]
      refine ⟨_,rfl,_,rfl,_,rfl,_,rfl,_,rfl,ca,_,kk,_,rfl,rfl,SqL.of B10.s.c,iC,cX,_,1,_,rfl,rfl,SqT.of hcX10,rfl,_,_,rfl,rfl,_,rfl,pk,_,rfl,SqL.of hpk10,fun sl hsl=>?_⟩
      dsimp only
      rw [hc1]
      have s1:=Same.new hsl (.lst (((ps.drop 8).take X.kg).map V.int))
      have ll:((ps.drop 8).take X.kg).length = X.kg:=by simp; omega
      refine ⟨sl,rfl,⟨_,SqL.of upd_same⟩,fun r hr=>?_⟩
      refine U5 (D4 (SqL.of upd_same)) hr (by rw [List.length_map,ll]; exact j6 (by omega)) (fun x=>.int (1 + vI x % 20)) (fun i x H' N hx e hN=>?_) ?_
      . obtain ⟨k,rfl⟩:=K4 hx
        exact ⟨Wk.set (by decide),_,rfl,_,_,rfl,rfl,(by show (0:Int) < 20; decide),_,_,rfl,rfl,hN⟩
      . have em:(((ps.drop 8).take X.kg).map V.int).map (fun x=>V.int (1 + vI x % 20)) = (((ps.drop 8).take X.kg).map (fun i=>1 + i % 20)).map V.int:=by rw [List.map_map,List.map_map]; rfl
        rw [em]
        have lgN:(((ps.drop 8).take X.kg).map (fun i=>1 + i % 20)).length = X.kg:=by rw [List.length_map,ll]
        have bgN:∀ v ∈ ((ps.drop 8).take X.kg).map (fun i=>1 + i % 20),1 <= v/\v <= 20:=fun v hv=>by
          obtain ⟨i,_,rfl⟩:=List.mem_map.mp hv
          omega
        generalize ((ps.drop 8).take X.kg).map (fun i=>1 + i % 20) = gN at *
        have s2:=Same.new hr (.lst (gN.map V.int))
        refine ⟨r,_,rfl,.inl ⟨SqL.of upd_same,fun ga hga=>?_⟩⟩
        have s3:=Same.new hga (.tup (gN.map V.int))
        refine ⟨(by show 2 <= sizeLine; decide),fun hv hhv=>?_⟩
        have s4:=Same.new hhv (.tup [V.ref ta,V.ref ga])
        have e14:=s1.trans (s2.trans (s3.trans s4))
        refine ⟨.ref hv,(tN,gN),rfl,e14,⟨hv,ta,ga,rfl,SqT.of upd_same,SqT.of (e14 _ _ hta),SqT.of (s4 _ _ upd_same)⟩,⟨⟨by rw [ltN],fun v hv=>?_⟩,⟨by rw [lgN],fun v hv=>?_⟩,?_⟩,?_,?_⟩
        . have:=btN v hv; omega
        . have:=bgN v hv; omega
        . match gN,lgN,bgN with
          | [],l,_=>have:=sX.g1x; simp at l; omega
          | v :: _,_,b=>exact ⟨v,.head _,by have:=b v (.head _); omega⟩
        . show tN.length <= 1000; omega
        . show gN.length <= 1000; omega
    rintro _ H11 ⟨hv,hh,rfl,e11,hHS,gk,sk⟩
    have B11:=B10.same e11
    have hpk11:=e11 _ _ hpk10
    refine ⟨fun σ' H'=>∃ (dt:Addr) (d:Dd),σ' = [some (.ref a),some (.ref hd),some (.ref ca),some (.ref sz),some (.ref bl),some (.ref u.p),some (.ref dl),some (.ref tl),some (.int c),some (.ref pk),some (.int kk),some (.ref ta),some hv,some (.ref dt),o14,o15,none]/\Same H11 H'/\DdAt K H' (.ref dt) d/\Gd X.kt X.kg d/\d.lf = (lfN EX:Int),?_,?_⟩
    . obtain ⟨v1,m1,i1⟩:=at12 1 (by decide)
      obtain ⟨v2,m2,i2⟩:=at12 2 (by decide)
      have b2:=bp v2 m2
      obtain ⟨lxs,hlx,plx⟩:=B11.i.lx
      refine ⟨_,rfl,pk,_,1,_,rfl,rfl,SqL.of hpk11,i1,_,_,rfl,rfl,(by show (0:Int) < 4; decide),_,rfl,pk,_,2,_,rfl,rfl,SqL.of hpk11,i2,_,rfl,_,rfl,_,rfl,dl,_,kk,_,rfl,rfl,SqL.of B11.s.d,iD,dX,lxs,EX,rfl,hlx,plx,by omega,fun H12 e12=>?_⟩
      refine ⟨(by show 4 <= sizeLine; decide),fun dt hdt=>?_⟩
      have s13:=Same.new hdt (.tup [V.int (v1 % 4),V.int v2,hv,V.int (lfN EX:Int)])
      exact ⟨dt,⟨v1 % 4,v2,hh,(lfN EX:Int)⟩,rfl,e12.trans s13,⟨dt,hv,rfl,upd_same,hHS.same (e12.trans s13)⟩,⟨gk,sk,b2.1,b2.2⟩,rfl⟩
    rintro _ H12 ⟨dt,d,rfl,e12,hdt,gd,elf⟩
    have B12:=B11.same e12
    have okY:OkK Y.z Y.kt Y.kg (run EY).1:=by
      obtain ⟨lo,kp,nlo,ok⟩:=B12.i.ky
      exact ok _ (List.mem_append_right _ (.head _))
    refine ⟨fun σ' H'=>∃ (sn:Addr),σ' = [some (.ref a),some (.ref hd),some (.ref ca),some (.ref sz),some (.ref bl),some (.ref u.p),some (.ref dl),some (.ref tl),some (.int c),some (.ref pk),some (.int kk),some (.ref ta),some hv,some (.ref dt),some (.ref sn),o15,none]/\Bn K C Pt H' Ws X Y u dX dY EX EY tl (outs x.z x.kt x.kg ([],[]) es) x y d0 d1 bl dl ca cl ca0 ca1 cv/\DdAt K H' (.ref dt) d/\Dq K H' (fun a=>a ∉ Ws) (.ref sn) (U0 Y.z Y.kt Y.kg (run EY).1),?_,?_⟩
    . obtain ⟨lo,kp,nlo,ok⟩:=B12.i.ky
      refine ⟨_,rfl,_,rfl,_,_,rfl,rfl,bl,_,1 - kk,_,rfl,rfl,SqL.of B12.s.b,iB',Y.p,Y.pa,Y.kt,Y.kg,Y.z,(run EY).1,_,lo,rfl,kp,sX.fy,okY,B12.i.lt,fun sn H13 e13 L13 hsn=>?_⟩
      exact ⟨sn,rfl,B12.same1 e13 L13,(Tr.same1 (Ws:=Ws) B12.i.lt e13).da hdt,hsn.same (Same.refl _) fun a h=>B12.i.fresh sX B12.t h⟩
    rintro _ H13 ⟨sn,rfl,B13,hdt13,hsn⟩
    refine ⟨fun σ' H'=>∃ (fv:V),σ' = [some (.ref a),some (.ref hd),some (.ref ca),some (.ref sz),some (.ref bl),some (.ref u.p),some (.ref dl),some (.ref tl),some (.int c),some (.ref pk),some (.int kk),some (.ref ta),some hv,some (.ref dt),some (.ref sn),some fv,none]/\LT Pt H'/\KO K C H' Ws X (stp (run EX) d)/\KO K C H' Ws Y (run EY)/\KO K C H' Ws u ([],[])/\(∃ xs,H' dX = some (.lst xs)/\PySem.Paired (DdAt K H') xs EX)/\(∃ xs,H' dY = some (.lst xs)/\PySem.Paired (DdAt K H') xs EY)/\TLd K H' Ws tl (outs x.z x.kt x.kg ([],[]) es)/\Stt H' Ws x y d0 d1 bl dl ca cl ca0 ca1 cv/\DdAt K H' (.ref dt) d/\Dq K H' (fun a=>a ∉ Ws) (.ref sn) (U0 Y.z Y.kt Y.kg (run EY).1)/\Dq K H' (fun a=>a ∉ Ws) fv (otD X.z X.kt X.kg (run EX) d),?_,?_⟩
    . obtain ⟨lo,kp,nlo,ok⟩:=B13.i.kx
      obtain ⟨dx9,ta9,wa9,pv9,hp9,_,hpa9,_⟩:=kp.ex
      refine ⟨_,rfl,_,rfl,bl,_,kk,_,rfl,rfl,SqL.of B13.s.b,iB,?_⟩
      refine ⟨_,rfl,_,rfl,bl,_,kk,_,rfl,rfl,SqL.of B13.s.b,iB,X.p,dx9,_,rfl,hp9,rfl,X.p,X.pa,X.kt,X.kg,X.z,_,_,lo,rfl,kp,fun hl hxs H14 e14 hl0 hl1 hB14=>?_⟩
      refine ⟨hl,hxs,rfl,.inl (SqL.of hl1),_,rfl,?_⟩
      have lhx:hxs.length = (run EX).1.length:=Paired.length hB14
      have B14:=B13.same e14
      have vle:=b1i B14.i.vx
      refine ⟨X.p,X.pa,.ref dt,d,X.kt,X.kg,X.z,run EX,lo,by rw [lhx]; rfl,hdt13.same e14,gd.g,gd.s,gd.p0,gd.p1,kp.same e14,sX.fx,ok,by omega,fun hlf=>?_,B14.i.lt,fun fv H15 lo' KP15 ok15 lf15 L15 hlo hq=>?_⟩
      . intro z
        have:=a7a B14.i.vx
        rw [z] at this
        have e0:lfN EX = 0:=this.symm
        rw [elf,e0] at hlf
        exact absurd hlf (by decide)
      have kx14:KO K C H14 Ws X (run EX):=B14.i.kx
      have tr:=Tr.left B14.i.lt kx14 sX.wx lf15
      have hp14:=e14 _ _ hp9
      obtain ⟨lxs,hlx,plx⟩:=B14.i.lx
      obtain ⟨lys,hly,ply⟩:=B14.i.ly
      obtain ⟨us,hus,qus⟩:=B14.t
      have keep:∀ {b:Addr} {xs:List V},H14 b = some (.lst xs)->b ≠ X.pa->H15 b = some (.lst xs):=fun h nb=>lf15 _ _ (w6 h hp14 nofun) (B14.i.lt.ne h nofun) nb h
      refine ⟨fv,rfl,L15,⟨lo',KP15,fun b hb=>(hlo b hb).elim (nlo b) fun h=>B14.i.fresh sX B14.t h,ok15⟩,B14.i.ky.other B14.i.lt kx14 sX.pxy.symm sX.xy.symm sX.wx lf15,B14.i.ku.other B14.i.lt kx14 sX.pxu.symm sX.xu.symm sX.wx lf15,⟨lxs,keep hlx sX.xdx.symm,tr.dd plx⟩,⟨lys,keep hly sX.xdy.symm,tr.dd ply⟩,⟨us,keep hus sX.xt.symm,tr.dqs qus⟩,B14.s.tr tr,tr.da (hdt13.same e14),tr.dq (hsn.same e14 fun _ z=>z),hq.same (Same.refl _) fun a h=>B14.i.fresh sX B14.t h⟩
    rintro _ H15 ⟨fv,rfl,L15,kX15,kY15,ku15,⟨lxs,hlx,plx⟩,⟨lys,hly,ply⟩,td15,st15,hdt15,hsn15,hfv15⟩
    have llx:lxs.length = EX.length:=A9 plx
    refine ⟨fun σ' H'=>σ' = [some (.ref a),some (.ref hd),some (.ref ca),some (.ref sz),some (.ref bl),some (.ref u.p),some (.ref dl),some (.ref tl),some (.int c),some (.ref pk),some (.int kk),some (.ref ta),some hv,some (.ref dt),some (.ref sn),some fv,none]/\Bn K C Pt H' Ws X Y u dX dY (EX ++ [d]) EY tl (outs x.z x.kt x.kg ([],[]) es) x y d0 d1 bl dl ca cl ca0 ca1 cv/\Dq K H' (fun a=>a ∉ Ws) (.ref sn) (U0 Y.z Y.kt Y.kg (run EY).1)/\Dq K H' (fun a=>a ∉ Ws) fv (otD X.z X.kt X.kg (run EX) d),?_,?_⟩
    . refine ⟨_,rfl,_,rfl,dl,_,kk,_,rfl,rfl,SqL.of st15.d,iD,.inl ⟨rfl,_,SqL.of hlx⟩,_,rfl,dX,_,_,rfl,rfl,hlx,Nat.lt_of_le_of_lt (show lxs.length <= 1000 by omega) small,?_⟩
      have tr:Tr Ws H15 (m5 H15 dX (.lst (lxs ++ [V.ref dt]))):=Tr.write hlx sX.wdx
      obtain ⟨us,hus,qus⟩:=td15
      have hp:∃ e f,H15 X.p = some (.ins C e f):=kX15.p'
      refine ⟨rfl,⟨⟨L15.write hlx,?_,kY15.write hlx sX.wdx sX.ydx,ku15.write hlx sX.wdx sX.udx,⟨_,upd_same,Paired.app (tr.dd plx) (.cons (tr.da hdt15) .nil)⟩,⟨lys,by rw [c9 sX.dd.symm]; exact hly,tr.dd ply⟩,B13.i.vx.snoc elf gd,B13.i.vy⟩,⟨us,by rw [c9 sX.dxt.symm]; exact hus,tr.dqs qus⟩,st15.tr tr⟩,tr.dq hsn15,tr.dq hfv15⟩
      rw [a1d]
      exact kX15.write hlx sX.wdx sX.xdx
    rintro _ H16 ⟨rfl,B16,hsn16,hfv16⟩
    refine ⟨fun σ' H'=>∃ es' fs',((kk = 0/\X = x/\Y = y/\dX = d0/\dY = d1/\EX ++ [d] = es'/\EY = fs') \/ (kk = 1/\X = y/\Y = x/\dX = d1/\dY = d0/\EX ++ [d] = fs'/\EY = es'))/\σ' = [some (.ref a),some (.ref hd),some (.ref ca),some (.ref sz),some (.ref bl),some (.ref u.p),some (.ref dl),some (.ref tl),some (.int c),some (.ref pk),some (.int kk),some (.ref ta),some hv,some (.ref dt),some (.ref sn),some fv,none]/\Bn K C Pt H' Ws X Y u dX dY (EX ++ [d]) EY tl (outs x.z x.kt x.kg ([],[]) es') x y d0 d1 bl dl ca cl ca0 ca1 cv/\Dq K H' (fun a=>a ∉ Ws) (.ref sn) (U0 Y.z Y.kt Y.kg (run EY).1),?_,?_⟩
    . refine ⟨_,rfl,rfl,_,rfl,?_⟩
      rcases hk with ⟨rfl,rfl,rfl,rfl,rfl,rfl,rfl⟩ | ⟨rfl,rfl,rfl,rfl,rfl,rfl,rfl⟩
      . refine a0r ?_
        obtain ⟨us,hus,qus⟩:=B16.t
        have lus:us.length = EX.length:=by rw [Dqs.len qus,a1u]
        refine ⟨_,rfl,.inl ⟨rfl,_,SqL.of hus⟩,_,rfl,tl,_,_,rfl,rfl,hus,Nat.lt_of_le_of_lt (show us.length <= 1000 by omega) small,?_⟩
        have tr:Tr Ws H16 (m5 H16 tl (.lst (us ++ [fv]))):=Tr.write hus sX.wt
        obtain ⟨lxs6,hlx6,plx6⟩:=B16.i.lx
        obtain ⟨lys6,hly6,ply6⟩:=B16.i.ly
        refine ⟨EX ++ [d],EY,.inl ⟨rfl,rfl,rfl,rfl,rfl,rfl,rfl⟩,rfl,⟨⟨B16.i.lt.write hus,B16.i.kx.write hus sX.wt sX.xt,B16.i.ky.write hus sX.wt sX.yt,B16.i.ku.write hus sX.wt sX.ut,⟨_,by rw [c9 sX.dxt]; exact hlx6,tr.dd plx6⟩,⟨_,by rw [c9 sX.dyt]; exact hly6,tr.dd ply6⟩,B16.i.vx,B16.i.vy⟩,⟨_,upd_same,?_⟩,B16.s.tr tr⟩,tr.dq hsn16⟩
        rw [a2g]
        exact Dqs.app (tr.dqs qus) (.cons (tr.dq hfv16) .nil)
      . exact X6 ⟨EY,EX ++ [d],.inr ⟨rfl,rfl,rfl,rfl,rfl,rfl,rfl⟩,rfl,B16,hsn16⟩
    rintro _ H17 ⟨es',fs',hk',rfl,B17,hsn17⟩
    refine ⟨fun σ' H'=>σ' = [some (.ref a),some (.ref hd),some (.ref ca),some (.ref sz),some (.ref bl),some (.ref u.p),some (.ref dl),some (.ref tl),some (.int c),some (.ref pk),some (.int kk),some (.ref ta),some hv,some (.ref dt),some (.ref sn),some fv,none]/\Bn K C Pt H' Ws X Y u dX dY (EX ++ [d]) EY tl (outs x.z x.kt x.kg ([],[]) es') x y d0 d1 bl dl ca cl ca0 ca1 cv,?_,?_⟩
    . obtain ⟨lo,kp,nlo,ok⟩:=B17.i.ky
      refine ⟨_,rfl,_,rfl,_,_,rfl,rfl,bl,_,1 - kk,_,rfl,rfl,SqL.of B17.s.b,iB',Y.p,Y.pa,Y.kt,Y.kg,Y.z,(run EY).1,_,lo,rfl,kp,sX.fy,okY,B17.i.lt,fun s2 H18 e18 L18 hs2=>?_⟩
      have ly:=a0X Y.z Y.kt Y.kg (run EY).1
      refine ⟨_,rfl,_,_,hs2.dp,((Tr.same1 (Ws:=Ws) B17.i.lt e18).dq hsn17).dp,ly,ly,Nat.le_trans (Nat.min_le_left _ _) (a0Y _ _ _ _),_,rfl,?_⟩
      rw [R4 _ ly]
      exact X6 ⟨rfl,B17.same1 e18 L18⟩
    rintro _ H18 ⟨rfl,B18⟩
    obtain ⟨lo,kp,nlo,ok⟩:=B18.i.kx
    have okX:OkK X.z X.kt X.kg (run (EX ++ [d])).1:=ok _ (List.mem_append_right _ (.head _))
    refine ⟨_,rfl,_,rfl,bl,_,kk,_,rfl,rfl,SqL.of B18.s.b,iB,X.p,X.pa,X.kt,X.kg,X.z,(run (EX ++ [d])).1,_,lo,rfl,kp,sX.fx,okX,B18.i.lt,fun s1 H19 e19 L19 hs1=>?_⟩
    have B19:=B18.same1 e19 L19
    obtain ⟨lo9,kp9,nlo9,ok9⟩:=B19.i.kx
    refine ⟨_,rfl,_,rfl,bl,_,kk,_,rfl,rfl,SqL.of B19.s.b,iB,X.p,X.pa,X.kt,X.kg,X.z,(run (EX ++ [d])).1,_,lo9,rfl,kp9,sX.fx,okX,B19.i.lt,fun s2 H20 e20 L20 hs2=>?_⟩
    have lx:=a0X X.z X.kt X.kg (run (EX ++ [d])).1
    have hs1':Dq K H20 (fun a=>a ∉ Ws) (.ref s1) (U0 X.z X.kt X.kg (run (EX ++ [d])).1):=(Tr.same1 (Ws:=Ws) B19.i.lt e20).dq (hs1.same (Same.refl _) fun a h=>B18.i.fresh sX B18.t h)
    refine ⟨_,_,hs1'.dp,hs2.dp,lx,lx,Nat.le_trans (Nat.min_le_left _ _) (a0Y _ _ _ _),_,rfl,?_⟩
    rw [R4 _ lx]
    have B20:=B19.same1 e20 L20
    refine X6 ?_
    refine ⟨_,_,_,_,_,_,_,_,es',fs',rfl,?_,?_⟩
    . rcases hk' with ⟨_,rfl,rfl,rfl,rfl,rfl,rfl⟩ | ⟨_,rfl,rfl,rfl,rfl,rfl,rfl⟩
      . exact B20
      . exact ⟨B20.i.swap,B20.t,B20.s⟩
    . rcases hk' with ⟨_,rfl,rfl,rfl,rfl,rfl,rfl⟩ | ⟨_,rfl,rfl,rfl,rfl,rfl,rfl⟩
      . rw [List.length_append,List.length_singleton]; omega
      . rw [List.length_append,List.length_singleton]; omega
  intro σ8 H8 hM_; refine R7 fun G_ hG_=>?_; obtain ⟨o8,o9,o10,o11,o12,o13,o14,o15,es,fs,cl,cv,rfl,B8,les⟩:=hM_; subst hG_
  obtain ⟨lxs,hlx,plx⟩:=B8.i.lx
  obtain ⟨lys,hly,ply⟩:=B8.i.ly
  obtain ⟨us,hus,qus⟩:=B8.t
  have llx:lxs.length = es.length:=A9 plx
  have lus:us.length = es.length:=by rw [Dqs.len qus,a1u]
  have vx:=B8.i.vx
  refine ⟨fun σ' H'=>∃ o13 o16,σ' = [some (.ref a),some (.ref hd),some (.ref ca),some (.ref sz),some (.ref bl),some (.ref u.p),some (.ref dl),some (.ref tl),o8,o9,o10,o11,o12,o13,o14,o15,o16]/\LT Pt H'/\KO K C H' Ws x (run es)/\KO K C H' Ws y (run fs)/\KO K C H' Ws u (run (es.take es.length))/\H' d0 = some (.lst lxs)/\PySem.Paired (DdAt K H') lxs es/\(∃ xs,H' d1 = some (.lst xs))/\H' tl = some (.lst us)/\Dqs K H' (fun a=>a ∉ Ws) us (outs x.z x.kt x.kg ([],[]) es)/\H' bl = some (.lst [.ref x.p,.ref y.p]),?_,?_⟩
  . refine ⟨_,rfl,dl,_,0,_,rfl,rfl,SqL.of B8.s.d,rfl,_,rfl,d0,tl,rfl,⟨_,SqL.of hlx⟩,⟨_,SqL.of hus⟩,?_⟩
    refine b1d (b1:=true) (b2:=true) (xs:=lxs) (ys:=us) (i1:=13) (i2:=16) (fun j σ H'=>∃ o13 o16,σ = [some (.ref a),some (.ref hd),some (.ref ca),some (.ref sz),some (.ref bl),some (.ref u.p),some (.ref dl),some (.ref tl),o8,o9,o10,o11,o12,o13,o14,o15,o16]/\LT Pt H'/\KO K C H' Ws x (run es)/\KO K C H' Ws y (run fs)/\KO K C H' Ws u (run (es.take j))/\H' d0 = some (.lst lxs)/\PySem.Paired (DdAt K H') lxs es/\(∃ xs,H' d1 = some (.lst xs))/\H' tl = some (.lst us)/\Dqs K H' (fun a=>a ∉ Ws) us (outs x.z x.kt x.kg ([],[]) es)/\H' bl = some (.lst [.ref x.p,.ref y.p]))
      ⟨_,_,rfl,B8.i.lt,B8.i.kx,B8.i.ky,B8.i.ku,hlx,plx,⟨_,hly⟩,hus,qus,B8.s.b⟩ (fun j σ H' ⟨_,_,_,_,_,_,_,h1,_,_,h2,_⟩=>⟨SqL.of h1,SqL.of h2⟩) ?_ ?_
    rotate_left
    . rintro σ H9 ⟨o13,o16,rfl,r⟩
      rw [llx,lus,Nat.min_self] at r
      exact ⟨o13,o16,rfl,r⟩
    rintro j v due σ H9 qq hxj hyj ⟨o13',o16',rfl,LT9,kx9,ky9,ku9,hlx9,plx9,⟨zs9,hly9⟩,hus9,qus9,hb9⟩ hqq
    have s10:=Same.new hqq (.tup [v,due])
    generalize m5 H9 qq (.tup [v,due]) = H10 at *
    obtain ⟨d,hdj,hdd⟩:=A6 plx9 hxj
    obtain ⟨dd,hddj,hdq⟩:=a5u qus9 hyj
    rw [a5o hdj] at hddj
    obtain rfl:=Option.some.inj hddj
    obtain ⟨elf,gd⟩:=vx j d hdj
    have hjl:j < es.length:=(List.getElem?_eq_some_iff.mp hdj).1
    have lfr:=a3Z vx j (by omega)
    have lfl:=a9Y (es.take j)
    have ltk:(es.take j).length <= es.length:=by rw [List.length_take]; omega
    have LT10:=LT9.same s10
    have ku10:=ku9.same s10
    have kx10:=kx9.same s10
    have ky10:=ky9.same s10
    have fresh:∀ {H:Hp} {b:Addr},Same H10 H->H b = none->b ∉ Ws:=fun {H b} e h hb=>by
      have h:=e.free h
      obtain ⟨_,h1⟩:=kx10.pa'
      obtain ⟨_,h2⟩:=ky10.pa'
      obtain ⟨_,h3⟩:=ku10.pa'
      rcases sx.all b hb with rfl | rfl | rfl | rfl | rfl | rfl
      . rw [h1] at h; cases h
      . rw [h2] at h; cases h
      . rw [h3] at h; cases h
      . rw [s10 _ _ hlx9] at h; cases h
      . rw [s10 _ _ hly9] at h; cases h
      . rw [s10 _ _ hus9] at h; cases h
    obtain ⟨lo,kp,nlo,ok⟩:=id ku10
    obtain ⟨dx9,ta9,wa9,pv9,hp9,_,hpa9,_⟩:=kp.ex
    refine ⟨_,rfl,_,rfl,u.p,dx9,_,rfl,hp9,rfl,u.p,u.pa,u.kt,u.kg,u.z,_,_,lo,rfl,kp,fun hl hxs H14 e14 hl0 hl1 hB14=>?_⟩
    refine ⟨hl,hxs,rfl,.inl (SqL.of hl1),_,rfl,?_⟩
    have lhx:hxs.length = (run (es.take j)).1.length:=Paired.length hB14
    rw [<- eu1,<- eu2] at gd
    have hdd14:=(hdd.same s10).same e14
    refine ⟨u.p,u.pa,v,d,u.kt,u.kg,u.z,run (es.take j),lo,by rw [lhx]; rfl,hdd14,gd.g,gd.s,gd.p0,gd.p1,kp.same e14,sx.fu,ok,by omega,fun hlf=>?_,LT10.same e14,fun fv H15 lo' KP15 ok15 lf15 L15 hlo hq=>?_⟩
    . intro z
      rw [z] at lfr
      have e0:lfN (es.take j) = 0:=lfr.symm
      rw [elf,e0] at hlf
      exact absurd hlf (by decide)
    have LT14:=LT10.same e14
    have ku14:=ku10.same e14
    have tr:=Tr.left LT14 ku14 sx.wu lf15
    have e914:=s10.trans e14
    have keep:∀ {b:Addr} {xs:List V},H9 b = some (.lst xs)->b ≠ u.pa->H15 b = some (.lst xs):=fun h nb=>lf15 _ _ (w6 (e914 _ _ h) (e14 _ _ hp9) nofun) (LT14.ne (e914 _ _ h) nofun) nb (e914 _ _ h)
    have hdue:Dq K H15 (fun a=>a ∉ Ws) due _:=tr.dq (hdq.same e914 fun _ z=>z)
    rw [eu1,eu2,eu3] at hq
    have ly:=b0T x.z x.kt x.kg (run (es.take j)) d
    refine ⟨_,rfl,_,_,hq.dp,hdue.dp,ly,ly,Nat.le_trans (Nat.min_le_left _ _) (b0M _ _ _ _ _),_,rfl,?_⟩
    rw [show (es.take j).foldl stp ([],[]) = run (es.take j) from rfl,R4 _ ly]
    refine X6 ⟨_,_,rfl,L15,(kx10.same e14).other LT14 ku14 sx.pxu sx.xu sx.wu lf15,(ky10.same e14).other LT14 ku14 sx.pyu sx.yu sx.wu lf15,?_,keep hlx9 sx.udx.symm,tr.dd (Paired.imp' (fun _ _ r=>r.same e914) plx9),⟨_,keep hly9 sx.udy.symm⟩,keep hus9 sx.ut.symm,tr.dqs (qus9.same e914 fun _ z=>z),tr.lst nbl (e914 _ _ hb9)⟩
    rw [a1K hdj,a1d]
    exact ⟨lo',KP15,fun b hb=>(hlo b hb).elim (nlo b) fun h=>fresh e14 h,ok15⟩
  rintro _ H9 ⟨o13',o16',rfl,LT9,kx9,ky9,ku9,hlx9,plx9,⟨zs9,hly9⟩,hus9,qus9,hb9⟩
  rw [List.take_length] at ku9
  obtain ⟨lo,kp,nlo,ok⟩:=id ku9
  have oku:OkK u.z u.kt u.kg (run es).1:=ok _ (List.mem_append_right _ (.head _))
  refine ⟨_,rfl,u.p,u.pa,u.kt,u.kg,u.z,(run es).1,_,lo,rfl,kp,sx.fu,oku,LT9,fun s1 H10 e10 L10 hs1=>?_⟩
  obtain ⟨lo2,kp2,nlo2,ok2⟩:=kx9.same1 LT9 e10
  have okx:OkK x.z x.kt x.kg (run es).1:=ok2 _ (List.mem_append_right _ (.head _))
  have hb10:H10 bl = some (.lst [.ref x.p,.ref y.p]):=e10 _ _ (LT9.ne hb9 nofun) hb9
  refine ⟨_,rfl,bl,_,0,_,rfl,rfl,SqL.of hb10,rfl,x.p,x.pa,x.kt,x.kg,x.z,(run es).1,_,lo2,rfl,kp2,sx.fx,okx,L10,fun s2 H11 e11 L11 hs2=>?_⟩
  have hs1':Dq K H11 (fun a=>H9 a = none) (.ref s1) _:=hs1.go (F':=fun a=>H9 a = none) (W2 L10 e11) fun a xs f h=>⟨f,L10.ne h nofun⟩
  rw [eu1,eu2,eu3] at hs1'
  have ly:=a0X x.z x.kt x.kg (run es).1
  refine ⟨_,_,hs1'.dp,hs2.dp,ly,ly,Nat.le_trans (Nat.min_le_left _ _) (a0Y _ _ _ _),?_⟩
  rw [R4 _ ly]
  exact q _
end
end Rim
namespace L2
open PySem PySem.W
theorem a2L {K:Frag} {C:Addr} {B:List Value} {nid:String} (q:excIn K C B nid = true):∃ nm qn N bs bm hdct sn sub ab col dd k0 k1 k2 k3 k5,K.lookup C = some (excClassObj nm qn C N bs bm hdct sn sub ab col dd k0 k1 k2 k3 k5 nid)/\nsOkIn K N = true/\nsIn K N "__init__" = some none/\tailIn K B bm = true:=by
  unfold excIn at q
  split at q
  . rename_i e1 e2 e3 lk
    split at q
    . rename_i C' bm w0 w1 w2 w3 nn w5 em es
      simp only [Bool.and_eq_true,beq_iff_eq,Bool.not_eq_true'] at q
      obtain ⟨⟨⟨⟨⟨u1,u2⟩,u3⟩,u4⟩,u5⟩,u6⟩:=q
      cases u1
      cases u2
      obtain ⟨n1,n2,n3,n4,n5,n6,n7,n8,n9,n10,n11⟩:=e2
      obtain ⟨ls⟩:=e3
      replace em:n3 = _:=em
      replace u3:n11 = false:=u3
      replace es:ls = _:=es
      subst em u3 es
      exact ⟨n1,n5,n4,n2,bm,n6,n7,n8,n9,n10,e1,w0,w1,w2,w3,w5,lk,u5,u6,u4⟩
    . cases q
  . cases q
def FunI (K:Frag) (x qual:Str) (st:Stmt) (f:Addr) (cd:Value):Prop:=∃ oc od kV dc pm an ct sl,K.lookup f = some ⟨oc,od,.func (fnOf x qual (B7 st) (p9 st) (h8 st) .none kV dc pm an cd ct),sl⟩/\codeIn K cd qual = true/\keepIn K (.ref f) = true
theorem fun_in {K:Frag} {x qual:Str} {st:Stmt} {f:Addr} {cd oc kV dc pm ct:Value} {od an:Option Addr} {sl:Array (Option Value)} (l:K.lookup f = some ⟨oc,od,.func (fnOf x qual (B7 st) (p9 st) (h8 st) .none kV dc pm an cd ct),sl⟩) (c:codeIn K cd qual = true) (k:keepIn K (.ref f) = true):FunI K x qual st f cd:=⟨_,_,_,_,_,_,_,_,l,c,k⟩
theorem FunI.fn {K:Frag} {x qual:Str} {st:Stmt} {f:Addr} {cd:Value} (h:FunI K x qual st f cd):∃ fd,Fun K x qual st f fd/\fd.code = cd/\keepIn K (.ref f) = true:=by
  obtain ⟨_,_,_,_,_,_,_,_,l,c,k⟩:=h
  exact ⟨_,a6w l c k,rfl,k⟩
theorem Fun.b1 {K:Frag} {x qual:Str} {st:Stmt} {f:Addr} {fd:FuncData} {p0:Str} (F:Fun K x qual st f fd) (h:∀ (kV doc pm:Value) (an:Option Addr) (cdv ct v0:Value),bindArgs (fnOf x qual (B7 st) (p9 st) (h8 st) .none kV doc pm an cdv ct) ⟨[v0],[]⟩ = pure [(p0,v0)]):Binds K fd [p0] [] :=
  F.binds fun a b c d e g us hl=>match us,hl with | [v0],_=>h a b c d e g v0
theorem Fun.b2 {K:Frag} {x qual:Str} {st:Stmt} {f:Addr} {fd:FuncData} {p0 p1:Str} (F:Fun K x qual st f fd) (h:∀ (kV doc pm:Value) (an:Option Addr) (cdv ct v0 v1:Value),bindArgs (fnOf x qual (B7 st) (p9 st) (h8 st) .none kV doc pm an cdv ct) ⟨[v0,v1],[]⟩ = pure [(p0,v0),(p1,v1)]):Binds K fd [p0,p1] [] :=
  F.binds fun a b c d e g us hl=>match us,hl with | [v0,v1],_=>h a b c d e g v0 v1
theorem Fun.b3 {K:Frag} {x qual:Str} {st:Stmt} {f:Addr} {fd:FuncData} {p0 p1 p2:Str} (F:Fun K x qual st f fd) (h:∀ (kV doc pm:Value) (an:Option Addr) (cdv ct v0 v1 v2:Value),bindArgs (fnOf x qual (B7 st) (p9 st) (h8 st) .none kV doc pm an cdv ct) ⟨[v0,v1,v2],[]⟩ = pure [(p0,v0),(p1,v1),(p2,v2)]):Binds K fd [p0,p1,p2] [] :=
  F.binds fun a b c d e g us hl=>match us,hl with | [v0,v1,v2],_=>h a b c d e g v0 v1 v2
theorem Fun.b4 {K:Frag} {x qual:Str} {st:Stmt} {f:Addr} {fd:FuncData} {p0 p1 p2 p3:Str} (F:Fun K x qual st f fd) (h:∀ (kV doc pm:Value) (an:Option Addr) (cdv ct v0 v1 v2 v3:Value),bindArgs (fnOf x qual (B7 st) (p9 st) (h8 st) .none kV doc pm an cdv ct) ⟨[v0,v1,v2,v3],[]⟩ = pure [(p0,v0),(p1,v1),(p2,v2),(p3,v3)]):Binds K fd [p0,p1,p2,p3] [] :=
  F.binds fun a b c d e g us hl=>match us,hl with | [v0,v1,v2,v3],_=>h a b c d e g v0 v1 v2 v3
theorem Fun.b5 {K:Frag} {x qual:Str} {st:Stmt} {f:Addr} {fd:FuncData} {p0 p1 p2 p3 p4:Str} (F:Fun K x qual st f fd) (h:∀ (kV doc pm:Value) (an:Option Addr) (cdv ct v0 v1 v2 v3 v4:Value),bindArgs (fnOf x qual (B7 st) (p9 st) (h8 st) .none kV doc pm an cdv ct) ⟨[v0,v1,v2,v3,v4],[]⟩ = pure [(p0,v0),(p1,v1),(p2,v2),(p3,v3),(p4,v4)]):Binds K fd [p0,p1,p2,p3,p4] [] :=
  F.binds fun a b c d e g us hl=>match us,hl with | [v0,v1,v2,v3,v4],_=>h a b c d e g v0 v1 v2 v3 v4
end L2
namespace Rim
open PySem L2 Fr
set_option maxHeartbeats 16000000 in
theorem all_mk {l:W.OpenLaw} {w:World} {K:W.Frag} {h:Heap} {mg:Str->Option Value} {fa:Addr} {Ct Pt:Addr} (X:K.In h) (G:h.Ns mainGlobals mg) (hfa:mg "law" = some (.ref fa))
    {f1 f2 f3 f4 f5 f6 f7 f8 f9 f10 f11 f12 f13 f14 f15 f16 f17 f18 f19 f20 f21 f22 f23 f24 f25 f26 f27 f28 f29 f30 f31 f32 f33 f34 f35 f36 f37 f38 f39 f40 f41 CB CK dS tS0 tS1 tS2 tS3 cE_NoHouse cE_NoBook cE_TooMany cE_NothingLeft:Addr} {cd1 cd2 cd3 cd4 cd5 cd6 cd7 cd9 cd10 cd11 cd12 cd13 cd14 cd15 cd16 cd17 cd18 cd19 cd20 cd21 cd22 cd23 cd24 cd25 cd26 cd27 cd28 cd29 cd30 cd31 cd32 cd33 cd34 cd35 cd36 cd37 cd38 cd39 cd40 ocL kVL dcL pmL cdL ctL:Value} {odL anL:Option Addr} {slL:Array (Option Value)} {odS0 odS1 odS2 odS3:Option Addr} {slS0 slS1 slS2 slS3:Array (Option Value)} {eS:Array DictEntry} {nS nS0 nS1 nS2 nS3:Nat} {tkA tkB tkC tkD:Tok} {tkC_MOST_AMOUNT:Tok} {tkC_MOST_HOUSES:Tok}
    (aK:W.nsIn K mainGlobals "Kept" = some (some (.ref CK)))
    (aB:W.nsIn K mainGlobals "Board" = some (some (.ref CB)))
    (a1:W.findIn K (.ref CK) "__init__" = some (some (.ref f1)))
    (l1:FunI K "__init__" "Kept.__init__" G8 f1 cd1)
    (n1:W.isFn K (.ref f1) = true)
    (a2:W.nsIn K mainGlobals "_law_cell_at" = some (some (.ref f2)))
    (l2:FunI K "_law_cell_at" "_law_cell_at" a8m f2 cd2)
    (a3:W.nsIn K mainGlobals "_law_draws" = some (some (.ref f3)))
    (l3:FunI K "_law_draws" "_law_draws" a4d f3 cd3)
    (a4:W.findIn K (.ref CK) "houses" = some (some (.ref f4)))
    (l4:FunI K "houses" "Kept.houses" M4 f4 cd4)
    (n4:W.isFn K (.ref f4) = true)
    (a5:W.nsIn K mainGlobals "_law_a_left" = some (some (.ref f5)))
    (l5:FunI K "_law_a_left" "_law_a_left" M9 f5 cd5)
    (a6:W.findIn K (.ref CK) "shares" = some (some (.ref f6)))
    (l6:FunI K "shares" "Kept.shares" M2 f6 cd6)
    (n6:W.isFn K (.ref f6) = true)
    (a7:W.findIn K (.ref CB) "__init__" = some (some (.ref f7)))
    (l7:FunI K "__init__" "Board.__init__" a3u f7 cd7)
    (n7:W.isFn K (.ref f7) = true)
    (a8:W.findIn K (.ref CB) "coming" = some (some (.ref f8)))
    (l8:FunI K "coming" "Board.coming" a2P f8 (.ref Ct))
    (n8:W.isFn K (.ref f8) = true)
    (a9:W.findIn K (.ref CB) "is_ahead" = some (some (.ref f9)))
    (l9:FunI K "is_ahead" "Board.is_ahead" a4v f9 cd9)
    (n9:W.isFn K (.ref f9) = true)
    (a10:W.findIn K (.ref CB) "going" = some (some (.ref f10)))
    (l10:FunI K "going" "Board.going" a4b f10 cd10)
    (n10:W.isFn K (.ref f10) = true)
    (a11:W.nsIn K mainGlobals "swept" = some (some (.ref f11)))
    (l11:FunI K "swept" "swept" a4y f11 cd11)
    (a12:W.findIn K (.ref CB) "exchange" = some (some (.ref f12)))
    (l12:FunI K "exchange" "Board.exchange" J7 f12 cd12)
    (n12:W.isFn K (.ref f12) = true)
    (a13:W.findIn K (.ref CB) "amounts" = some (some (.ref f13)))
    (l13:FunI K "amounts" "Board.amounts" a8i f13 cd13)
    (n13:W.isFn K (.ref f13) = true)
    (a14:W.findIn K (.ref CB) "weights" = some (some (.ref f14)))
    (l14:FunI K "weights" "Board.weights" b0t f14 cd14)
    (n14:W.isFn K (.ref f14) = true)
    (a15:W.nsIn K mainGlobals "greatest" = some (some (.ref f15)))
    (l15:FunI K "greatest" "greatest" F0 f15 cd15)
    (a16:W.nsIn K mainGlobals "house_rows" = some (some (.ref f16)))
    (l16:FunI K "house_rows" "house_rows" K7 f16 cd16)
    (a17:W.nsIn K mainGlobals "greatest_floor" = some (some (.ref f17)))
    (l17:FunI K "greatest_floor" "greatest_floor" a0i f17 cd17)
    (a18:W.nsIn K mainGlobals "rim_of" = some (some (.ref f18)))
    (l18:FunI K "rim_of" "rim_of" a4a f18 cd18)
    (a19:W.findIn K (.ref CK) "rim" = some (some (.ref f19)))
    (l19:FunI K "rim" "Kept.rim" U8 f19 cd19)
    (n19:W.isFn K (.ref f19) = true)
    (a20:W.nsIn K mainGlobals "_law_a_seen" = some (some (.ref f20)))
    (l20:FunI K "_law_a_seen" "_law_a_seen" M3 f20 cd20)
    (a21:W.nsIn K mainGlobals "house_of" = some (some (.ref f21)))
    (l21:FunI K "house_of" "house_of" b0P f21 cd21)
    (a22:W.nsIn K mainGlobals "greatest_earned" = some (some (.ref f22)))
    (l22:FunI K "greatest_earned" "greatest_earned" T0 f22 cd22)
    (a23:W.nsIn K mainGlobals "common_divisor" = some (some (.ref f23)))
    (l23:FunI K "common_divisor" "common_divisor" b0D f23 cd23)
    (a24:W.nsIn K mainGlobals "lowest" = some (some (.ref f24)))
    (l24:FunI K "lowest" "lowest" b0E f24 cd24)
    (a25:W.nsIn K mainGlobals "held_against" = some (some (.ref f25)))
    (l25:FunI K "held_against" "held_against" a6Z f25 cd25)
    (a26:W.nsIn K mainGlobals "share" = some (some (.ref f26)))
    (l26:FunI K "share" "share" a4H f26 cd26)
    (a27:W.findIn K (.ref CK) "turn_to" = some (some (.ref f27)))
    (l27:FunI K "turn_to" "Kept.turn_to" x6 f27 cd27)
    (n27:W.isFn K (.ref f27) = true)
    (a28:W.nsIn K mainGlobals "without" = some (some (.ref f28)))
    (l28:FunI K "without" "without" a1q f28 cd28)
    (a29:W.nsIn K mainGlobals "changes" = some (some (.ref f29)))
    (l29:FunI K "changes" "changes" Z4 f29 cd29)
    (a30:W.findIn K (.ref CK) "go" = some (some (.ref f30)))
    (l30:FunI K "go" "Kept.go" a0b f30 cd30)
    (n30:W.isFn K (.ref f30) = true)
    (a31:W.nsIn K mainGlobals "is_whole" = some (some (.ref f31)))
    (l31:FunI K "is_whole" "is_whole" V6 f31 cd31)
    (a32:W.nsIn K mainGlobals "are_amounts" = some (some (.ref f32)))
    (l32:FunI K "are_amounts" "are_amounts" M5 f32 cd32)
    (a33:W.nsIn K mainGlobals "is_house" = some (some (.ref f33)))
    (l33:FunI K "is_house" "is_house" V5 f33 cd33)
    (a34:W.nsIn K mainGlobals "refuse_unfit" = some (some (.ref f34)))
    (l34:FunI K "refuse_unfit" "refuse_unfit" K5 f34 cd34)
    (a35:W.nsIn K mainGlobals "with_another" = some (some (.ref f35)))
    (l35:FunI K "with_another" "with_another" J8 f35 cd35)
    (a36:W.findIn K (.ref CK) "alter" = some (some (.ref f36)))
    (l36:FunI K "alter" "Kept.alter" O6 f36 cd36)
    (n36:W.isFn K (.ref f36) = true)
    (a37:W.findIn K (.ref CK) "back" = some (some (.ref f37)))
    (l37:FunI K "back" "Kept.back" R3 f37 cd37)
    (n37:W.isFn K (.ref f37) = true)
    (a38:W.nsIn K mainGlobals "with_one_more" = some (some (.ref f38)))
    (l38:FunI K "with_one_more" "with_one_more" G9 f38 cd38)
    (a39:W.findIn K (.ref CK) "come" = some (some (.ref f39)))
    (l39:FunI K "come" "Kept.come" Q6 f39 cd39)
    (n39:W.isFn K (.ref f39) = true)
    (a40:W.nsIn K mainGlobals "_law_done" = some (some (.ref f40)))
    (l40:FunI K "_law_done" "_law_done" D3 f40 cd40)
    (a41:W.nsIn K mainGlobals "law" = some (some (.ref f41)))
    (l41:K.lookup f41 = some ⟨ocL,odL,.func (W.fnOf "law" "law" (B7 W4) (p9 W4) (h8 W4) .none kVL dcL pmL anL cdL ctL),slL⟩)
    (c41:W.codeIn K cdL "law" = true)
    (k41:W.keepIn K (.ref f41) = true)
    (z1:W.nsIn K mainGlobals "len" = some none)
    (z2:W.nsIn K mainGlobals "all" = some none)
    (z3:W.nsIn K mainGlobals "any" = some none)
    (z4:W.nsIn K mainGlobals "max" = some none)
    (z5:W.nsIn K mainGlobals "min" = some none)
    (z6:W.nsIn K mainGlobals "sum" = some none)
    (z7:W.nsIn K mainGlobals "tuple" = some none)
    (z8:W.nsIn K mainGlobals "list" = some none)
    (z9:W.nsIn K mainGlobals "int" = some none)
    (z10:W.nsIn K mainGlobals "bool" = some none)
    (z11:W.nsIn K mainGlobals "range" = some none)
    (z12:W.nsIn K mainGlobals "isinstance" = some none)
    (z13:W.nsIn K mainGlobals "abs" = some none)
    (z14:W.nsIn K mainGlobals "zip" = some none)
    (z15:W.nsIn K mainGlobals "enumerate" = some none)
    (z16:W.nsIn K mainGlobals "ValueError" = some none)
    (z17:W.nsIn K mainGlobals "sorted" = some none)
    (bp:W.plainGet K CB Str.empty = true)
    (bh:W.hasDictIn K CB = true)
    (bo:W.plainOver K CB = true)
    (bs:W.findIn K (.ref CB) "__setattr__" = some (some (.builtin "object.__setattr__")))
    (b_many:W.findIn K (.ref CB) "many" = some none)
    (b_scale:W.findIn K (.ref CB) "scale" = some none)
    (b_cells:W.findIn K (.ref CB) "cells" = some none)
    (b_outs:W.findIn K (.ref CB) "outs" = some none)
    (b_ins:W.findIn K (.ref CB) "ins" = some none)
    (bm:W.makesIn K CB = true)
    (bk:W.keepIn K (.ref CB) = true)
    (kp:W.plainGet K CK Str.empty = true)
    (kh:W.hasDictIn K CK = true)
    (ko:W.plainOver K CK = true)
    (ks:W.findIn K (.ref CK) "__setattr__" = some (some (.builtin "object.__setattr__")))
    (k_many_takes:W.findIn K (.ref CK) "many_takes" = some none)
    (k_many_gives:W.findIn K (.ref CK) "many_gives" = some none)
    (k_sizes:W.findIn K (.ref CK) "sizes" = some none)
    (k_there:W.findIn K (.ref CK) "there" = some none)
    (k_worth:W.findIn K (.ref CK) "worth" = some none)
    (k_past:W.findIn K (.ref CK) "past" = some none)
    (km:W.makesIn K CK = true)
    (kk:W.keepIn K (.ref CK) = true)
    (s1:W.nsIn K mainGlobals "SIZE_SIGNS" = some (some (.ref dS)))
    (s3:K.lookup dS = some ⟨.type "dict",none,.dict eS nS,#[]⟩)
    (s4:W.KeysLit w.params eS.toList)
    (sa0:W.nsIn K dS "any" = some (some (.ref tS0)))
    (sb0:K.lookup tS0 = some ⟨.type "tuple",odS0,.seq #[] nS0,slS0⟩)
    (sa1:W.nsIn K dS "one" = some (some (.ref tS1)))
    (sb1:K.lookup tS1 = some ⟨.type "tuple",odS1,.seq #[.int 1 tkA,.int (-1) tkB] nS1,slS1⟩)
    (sa2:W.nsIn K dS "less" = some (some (.ref tS2)))
    (sb2:K.lookup tS2 = some ⟨.type "tuple",odS2,.seq #[.int (-1) tkC] nS2,slS2⟩)
    (sa3:W.nsIn K dS "more" = some (some (.ref tS3)))
    (sb3:K.lookup tS3 = some ⟨.type "tuple",odS3,.seq #[.int 1 tkD] nS3,slS3⟩)
    (xmNoHouse:W.nsIn K mainGlobals "NoHouse" = some (some (.ref cE_NoHouse)))
    (xoNoHouse:W.excIn K cE_NoHouse [.type "ValueError",.type "Exception",.type "BaseException",.type "object"] "ValueError.__new__" = true)
    (xgaNoHouse:W.findIn K (.ref cE_NoHouse) "__getattribute__" = some (some (.builtin "BaseException.__getattribute__")))
    (xgnNoHouse:W.findIn K (.ref cE_NoHouse) "__getattr__" = some none)
    (xcaNoHouse:W.findIn K (.ref cE_NoHouse) "__class__" = some (some (.builtin "object.__class__")))
    (xmoNoHouse:W.mroIn K cE_NoHouse (.type "object") = some true)
    (xmbNoHouse:W.mroIn K cE_NoHouse (.type "BaseException") = some true)
    (xmNoBook:W.nsIn K mainGlobals "NoBook" = some (some (.ref cE_NoBook)))
    (xoNoBook:W.excIn K cE_NoBook [.type "ValueError",.type "Exception",.type "BaseException",.type "object"] "ValueError.__new__" = true)
    (xgaNoBook:W.findIn K (.ref cE_NoBook) "__getattribute__" = some (some (.builtin "BaseException.__getattribute__")))
    (xgnNoBook:W.findIn K (.ref cE_NoBook) "__getattr__" = some none)
    (xcaNoBook:W.findIn K (.ref cE_NoBook) "__class__" = some (some (.builtin "object.__class__")))
    (xmoNoBook:W.mroIn K cE_NoBook (.type "object") = some true)
    (xmbNoBook:W.mroIn K cE_NoBook (.type "BaseException") = some true)
    (xmTooMany:W.nsIn K mainGlobals "TooMany" = some (some (.ref cE_TooMany)))
    (xoTooMany:W.excIn K cE_TooMany [.type "ValueError",.type "Exception",.type "BaseException",.type "object"] "ValueError.__new__" = true)
    (xgaTooMany:W.findIn K (.ref cE_TooMany) "__getattribute__" = some (some (.builtin "BaseException.__getattribute__")))
    (xgnTooMany:W.findIn K (.ref cE_TooMany) "__getattr__" = some none)
    (xcaTooMany:W.findIn K (.ref cE_TooMany) "__class__" = some (some (.builtin "object.__class__")))
    (xmoTooMany:W.mroIn K cE_TooMany (.type "object") = some true)
    (xmbTooMany:W.mroIn K cE_TooMany (.type "BaseException") = some true)
    (xmNothingLeft:W.nsIn K mainGlobals "NothingLeft" = some (some (.ref cE_NothingLeft)))
    (xoNothingLeft:W.excIn K cE_NothingLeft [.type "ValueError",.type "Exception",.type "BaseException",.type "object"] "ValueError.__new__" = true)
    (xgaNothingLeft:W.findIn K (.ref cE_NothingLeft) "__getattribute__" = some (some (.builtin "BaseException.__getattribute__")))
    (xgnNothingLeft:W.findIn K (.ref cE_NothingLeft) "__getattr__" = some none)
    (xcaNothingLeft:W.findIn K (.ref cE_NothingLeft) "__class__" = some (some (.builtin "object.__class__")))
    (xmoNothingLeft:W.mroIn K cE_NothingLeft (.type "object") = some true)
    (xmbNothingLeft:W.mroIn K cE_NothingLeft (.type "BaseException") = some true)
    (cmMOST_AMOUNT:W.nsIn K mainGlobals "MOST_AMOUNT" = some (some (.int 1000000000 tkC_MOST_AMOUNT)))
    (cmMOST_HOUSES:W.nsIn K mainGlobals "MOST_HOUSES" = some (some (.int 16 tkC_MOST_HOUSES)))
   :∃ fd:FuncData,(∀ (s:Shared) (v:Value),BindsTo s fd ⟨[v],[]⟩ [("script",v)])/\∀ base:Heap,K.In base->base.Ns mainGlobals mg->O1 mg base->(∀ t ∈ [(Ct,Pt)],W.CodeHd base t.1 t.2)->FnOk l.prog w K mg base D6 12 fa fd ["script"] (a4Z K Pt):=by
  have e:=hfa.symm.trans (W.mg_of X G a41)
  cases e
  obtain ⟨_,F1,hc1,k1⟩:=l1.fn
  obtain ⟨_,F2,hc2,k2⟩:=l2.fn
  obtain ⟨_,F3,hc3,k3⟩:=l3.fn
  obtain ⟨_,F4,hc4,k4⟩:=l4.fn
  obtain ⟨_,F5,hc5,k5⟩:=l5.fn
  obtain ⟨_,F6,hc6,k6⟩:=l6.fn
  obtain ⟨_,F7,hc7,k7⟩:=l7.fn
  obtain ⟨_,F8,hc8,k8⟩:=l8.fn
  obtain ⟨_,F9,hc9,k9⟩:=l9.fn
  obtain ⟨_,F10,hc10,k10⟩:=l10.fn
  obtain ⟨_,F11,hc11,k11⟩:=l11.fn
  obtain ⟨_,F12,hc12,k12⟩:=l12.fn
  obtain ⟨_,F13,hc13,k13⟩:=l13.fn
  obtain ⟨_,F14,hc14,k14⟩:=l14.fn
  obtain ⟨_,F15,hc15,k15⟩:=l15.fn
  obtain ⟨_,F16,hc16,k16⟩:=l16.fn
  obtain ⟨_,F17,hc17,k17⟩:=l17.fn
  obtain ⟨_,F18,hc18,k18⟩:=l18.fn
  obtain ⟨_,F19,hc19,k19⟩:=l19.fn
  obtain ⟨_,F20,hc20,k20⟩:=l20.fn
  obtain ⟨_,F21,hc21,k21⟩:=l21.fn
  obtain ⟨_,F22,hc22,k22⟩:=l22.fn
  obtain ⟨_,F23,hc23,k23⟩:=l23.fn
  obtain ⟨_,F24,hc24,k24⟩:=l24.fn
  obtain ⟨_,F25,hc25,k25⟩:=l25.fn
  obtain ⟨_,F26,hc26,k26⟩:=l26.fn
  obtain ⟨_,F27,hc27,k27⟩:=l27.fn
  obtain ⟨_,F28,hc28,k28⟩:=l28.fn
  obtain ⟨_,F29,hc29,k29⟩:=l29.fn
  obtain ⟨_,F30,hc30,k30⟩:=l30.fn
  obtain ⟨_,F31,hc31,k31⟩:=l31.fn
  obtain ⟨_,F32,hc32,k32⟩:=l32.fn
  obtain ⟨_,F33,hc33,k33⟩:=l33.fn
  obtain ⟨_,F34,hc34,k34⟩:=l34.fn
  obtain ⟨_,F35,hc35,k35⟩:=l35.fn
  obtain ⟨_,F36,hc36,k36⟩:=l36.fn
  obtain ⟨_,F37,hc37,k37⟩:=l37.fn
  obtain ⟨_,F38,hc38,k38⟩:=l38.fn
  obtain ⟨_,F39,hc39,k39⟩:=l39.fn
  obtain ⟨_,F40,hc40,k40⟩:=l40.fn
  have F41:=a6w (st:=W4) l41 c41 k41
  have b1:Binds K _ ["self","takes","gives","sizes"] []:=F1.b4 fun _ _ _ _ _ _ _ _ _ _=>rfl
  have b2:Binds K _ ["script","k"] []:=F2.b2 fun _ _ _ _ _ _ _ _=>rfl
  have b3:Binds K _ ["cell","many","base"] []:=F3.b3 fun _ _ _ _ _ _ _ _ _=>rfl
  have b4:Binds K _ ["self"] []:=F4.b1 fun _ _ _ _ _ _ _=>rfl
  have b5:Binds K _ ["deeds"] []:=F5.b1 fun _ _ _ _ _ _ _=>rfl
  have b6:Binds K _ ["self"] []:=F6.b1 fun _ _ _ _ _ _ _=>rfl
  have b7:Binds K _ ["self","goal","rows","bounds"] []:=F7.b4 fun _ _ _ _ _ _ _ _ _ _=>rfl
  have b8:Binds K _ ["self"] []:=F8.b1 fun _ _ _ _ _ _ _=>rfl
  have b9:Binds K _ ["self","row","other","column"] []:=F9.b4 fun _ _ _ _ _ _ _ _ _ _=>rfl
  have b10:Binds K _ ["self","column"] []:=F10.b2 fun _ _ _ _ _ _ _ _=>rfl
  have b11:Binds K _ ["cells","lead","column","scale"] []:=F11.b4 fun _ _ _ _ _ _ _ _ _ _=>rfl
  have b12:Binds K _ ["self","row","column"] []:=F12.b3 fun _ _ _ _ _ _ _ _ _=>rfl
  have b13:Binds K _ ["self"] []:=F13.b1 fun _ _ _ _ _ _ _=>rfl
  have b14:Binds K _ ["self"] []:=F14.b1 fun _ _ _ _ _ _ _=>rfl
  have b15:Binds K _ ["goal","rows","bounds"] []:=F15.b3 fun _ _ _ _ _ _ _ _ _=>rfl
  have b16:Binds K _ ["houses","sizes"] []:=F16.b2 fun _ _ _ _ _ _ _ _=>rfl
  have b17:Binds K _ ["houses","number","sizes"] []:=F17.b3 fun _ _ _ _ _ _ _ _ _=>rfl
  have b18:Binds K _ ["book","sizes"] []:=F18.b2 fun _ _ _ _ _ _ _ _=>rfl
  have b19:Binds K _ ["self"] []:=F19.b1 fun _ _ _ _ _ _ _=>rfl
  have b20:Binds K _ ["kept"] []:=F20.b1 fun _ _ _ _ _ _ _=>rfl
  have b21:Binds K _ ["book","number"] []:=F21.b2 fun _ _ _ _ _ _ _ _=>rfl
  have b22:Binds K _ ["houses","house","sizes"] []:=F22.b3 fun _ _ _ _ _ _ _ _ _=>rfl
  have b23:Binds K _ ["one","other"] []:=F23.b2 fun _ _ _ _ _ _ _ _=>rfl
  have b24:Binds K _ ["top","bottom"] []:=F24.b2 fun _ _ _ _ _ _ _ _=>rfl
  have b25:Binds K _ ["houses","house","sizes"] []:=F25.b3 fun _ _ _ _ _ _ _ _ _=>rfl
  have b26:Binds K _ ["book","number","sizes"] []:=F26.b3 fun _ _ _ _ _ _ _ _ _=>rfl
  have b27:Binds K _ ["self","houses"] []:=F27.b2 fun _ _ _ _ _ _ _ _=>rfl
  have b28:Binds K _ ["houses","number"] []:=F28.b2 fun _ _ _ _ _ _ _ _=>rfl
  have b29:Binds K _ ["ahead","behind"] []:=F29.b2 fun _ _ _ _ _ _ _ _=>rfl
  have b30:Binds K _ ["self","number"] []:=F30.b2 fun _ _ _ _ _ _ _ _=>rfl
  have b31:Binds K _ ["thing"] []:=F31.b1 fun _ _ _ _ _ _ _=>rfl
  have b32:Binds K _ ["thing","many","least"] []:=F32.b3 fun _ _ _ _ _ _ _ _ _=>rfl
  have b33:Binds K _ ["thing","many_takes","many_gives"] []:=F33.b3 fun _ _ _ _ _ _ _ _ _=>rfl
  have b34:Binds K _ ["thing","many_takes","many_gives"] []:=F34.b3 fun _ _ _ _ _ _ _ _ _=>rfl
  have b35:Binds K _ ["houses","number","house","many_takes","many_gives"] []:=F35.b5 fun _ _ _ _ _ _ _ _ _ _ _=>rfl
  have b36:Binds K _ ["self","number","house"] []:=F36.b3 fun _ _ _ _ _ _ _ _ _=>rfl
  have b37:Binds K _ ["self"] []:=F37.b1 fun _ _ _ _ _ _ _=>rfl
  have b38:Binds K _ ["houses","house","many_takes","many_gives"] []:=F38.b4 fun _ _ _ _ _ _ _ _ _ _=>rfl
  have b39:Binds K _ ["self","house"] []:=F39.b2 fun _ _ _ _ _ _ _ _=>rfl
  have b40:Binds K _ ["kept","many","deed"] []:=F40.b3 fun _ _ _ _ _ _ _ _ _=>rfl
  have T:v7 mg:=⟨W.mg_none_of X G z1,W.mg_none_of X G z2,W.mg_none_of X G z3,W.mg_none_of X G z4,W.mg_none_of X G z5,W.mg_none_of X G z6,W.mg_none_of X G z7,W.mg_none_of X G z8,W.mg_none_of X G z9,W.mg_none_of X G z10,W.mg_none_of X G z11,W.mg_none_of X G z12,W.mg_none_of X G z13,W.mg_none_of X G z14,W.mg_none_of X G z15,W.mg_none_of X G z16,W.mg_none_of X G z17⟩
  have TBd:TB K CB:=⟨⟨bp,bh,bo,bs⟩,b_many,b_scale,b_cells,b_outs,b_ins⟩
  have TKd:TK K CK:=⟨⟨kp,kh,ko,ks⟩,k_many_takes,k_many_gives,k_sizes,k_there,k_worth,k_past⟩
  have SG:Sg K w.params mg dS:=⟨W.mg_of X G s1,⟨_,_,s3,s4⟩,fun z hz=>by
    rcases hz with rfl | rfl | rfl | rfl
    . exact ⟨_,sa0,fun H=>.inr ⟨_,_,_,sb0,rfl,rfl,(by show 0 <= sizeLine; decide),.nil⟩⟩
    . exact ⟨_,sa1,fun H=>.inr ⟨_,_,_,sb1,rfl,rfl,(by show 2 <= sizeLine; decide),.cons ⟨_,rfl⟩ (.cons ⟨_,rfl⟩ .nil)⟩⟩
    . exact ⟨_,sa2,fun H=>.inr ⟨_,_,_,sb2,rfl,rfl,(by show 1 <= sizeLine; decide),.cons ⟨_,rfl⟩ .nil⟩⟩
    . exact ⟨_,sa3,fun H=>.inr ⟨_,_,_,sb3,rfl,rfl,(by show 1 <= sizeLine; decide),.cons ⟨_,rfl⟩ .nil⟩⟩
    ⟩
  have C_MOST_AMOUNT:∃ t,mg "MOST_AMOUNT" = some (.int 1000000000 t):=⟨_,W.mg_of X G cmMOST_AMOUNT⟩
  have C_MOST_HOUSES:∃ t,mg "MOST_HOUSES" = some (.int 16 t):=⟨_,W.mg_of X G cmMOST_HOUSES⟩
  have k_NoHouse:a2C K cE_NoHouse:=⟨a2L xoNoHouse,xgaNoHouse,xgnNoHouse,xcaNoHouse,xmoNoHouse,xmbNoHouse⟩
  have m_NoHouse:=W.mg_of X G xmNoHouse
  have k_NoBook:a2C K cE_NoBook:=⟨a2L xoNoBook,xgaNoBook,xgnNoBook,xcaNoBook,xmoNoBook,xmbNoBook⟩
  have m_NoBook:=W.mg_of X G xmNoBook
  have k_TooMany:a2C K cE_TooMany:=⟨a2L xoTooMany,xgaTooMany,xgnTooMany,xcaTooMany,xmoTooMany,xmbTooMany⟩
  have m_TooMany:=W.mg_of X G xmTooMany
  have k_NothingLeft:a2C K cE_NothingLeft:=⟨a2L xoNothingLeft,xgaNothingLeft,xgnNothingLeft,xcaNothingLeft,xmoNothingLeft,xmbNothingLeft⟩
  have m_NothingLeft:=W.mg_of X G xmNothingLeft
  refine ⟨W.fnOf "law" "law" (B7 W4) (p9 W4) (h8 W4) .none kVL dcL pmL anL cdL ctL,fun s v=>.of_eq rfl,fun base _ _ BM hCH=>?_⟩
  have g1:=fun n:Nat=>a7g (mg:=mg) (P:=l.prog) (w:=w) (base:=base) (n:=n) F1 TKd
  have g2:=fun n:Nat=>a9j (mg:=mg) (P:=l.prog) (w:=w) (base:=base) (n:=n) F2 T
  have g3:=fun n:Nat=>a7G (mg:=mg) (P:=l.prog) (w:=w) (base:=base) (n:=n) F3 T
  have g4:=fun n:Nat=>a4o (mg:=mg) (P:=l.prog) (w:=w) (base:=base) (n:=n) F4 T TKd
  have g5:=fun n:Nat=>b1l (mg:=mg) (P:=l.prog) (w:=w) (base:=base) (n:=n) F5 T
  have g6:=fun n:Nat=>a4n (mg:=mg) (P:=l.prog) (w:=w) (base:=base) (n:=n) F6 T TKd
  have g7:=fun n:Nat=>a9i (mg:=mg) (P:=l.prog) (w:=w) (base:=base) (n:=n) F7 T TBd
  have g8:=fun n:Nat=>a5O (mg:=mg) (P:=l.prog) (w:=w) (base:=base) (n:=n) F8 hc8 (hCH _ (.head _)) BM T TBd
  have g9:=fun n:Nat=>a7l (mg:=mg) (P:=l.prog) (w:=w) (base:=base) (n:=n) F9 TBd
  have g10:=fun n:Nat=>a7Z (mg:=mg) (P:=l.prog) (w:=w) (base:=base) F10 T TBd ⟨g9 (n + 0),b9,⟨a9,n9,k9⟩⟩
  have g11:=fun n:Nat=>a7F (mg:=mg) (P:=l.prog) (w:=w) (base:=base) (n:=n) F11 T
  have g12:=fun n:Nat=>a3l (mg:=mg) (P:=l.prog) (w:=w) (base:=base) F12 TBd ⟨g11 (n + 0),b11,k11,(W.mg_of X G a11)⟩
  have g13:=fun n:Nat=>a9x (mg:=mg) (P:=l.prog) (w:=w) (base:=base) (n:=n) F13 T TBd
  have g14:=fun n:Nat=>b0o (mg:=mg) (P:=l.prog) (w:=w) (base:=base) (n:=n) F14 T TBd
  have g15:=fun n:Nat=>a3D (mg:=mg) (P:=l.prog) (w:=w) (base:=base) F15 TBd ⟨⟨bm,a7,n7,bk⟩,g7 (n + 2),b7,W.mg_of X G aB,⟨g8 (n + 0),b8,⟨a8,n8,k8⟩⟩,⟨g10 (n + 1),b10,⟨a10,n10,k10⟩⟩,⟨g12 (n + 1),b12,⟨a12,n12,k12⟩⟩,⟨g13 (n + 2),b13,⟨a13,n13,k13⟩⟩,⟨g14 (n + 2),b14,⟨a14,n14,k14⟩⟩⟩
  have g16:=fun n:Nat=>a2R (mg:=mg) (P:=l.prog) (w:=w) (base:=base) (n:=n) F16 T SG
  have g17:=fun n:Nat=>a8a (mg:=mg) (P:=l.prog) (w:=w) (base:=base) F17 T ⟨g15 (n + 0),b15,k15,(W.mg_of X G a15)⟩ ⟨g16 (n + 4),b16,k16,(W.mg_of X G a16)⟩
  have g18:=fun n:Nat=>a7w (mg:=mg) (P:=l.prog) (w:=w) (base:=base) F18 T ⟨g17 (n + 0),b17,k17,(W.mg_of X G a17)⟩
  have g19:=fun n:Nat=>a8y (mg:=mg) (P:=l.prog) (w:=w) (base:=base) F19 TKd ⟨g18 (n + 0),b18,k18,(W.mg_of X G a18)⟩
  have g20:=fun n:Nat=>a8F (mg:=mg) (P:=l.prog) (w:=w) (base:=base) F20 TKd ⟨g4 (n + 7),b4,⟨a4,n4,k4⟩⟩ ⟨g6 (n + 7),b6,⟨a6,n6,k6⟩⟩ ⟨g19 (n + 0),b19,⟨a19,n19,k19⟩⟩
  have g21:=fun n:Nat=>b0l (mg:=mg) (P:=l.prog) (w:=w) (base:=base) (n:=n) F21 T k_NoHouse m_NoHouse
  have g22:=fun n:Nat=>a6r (mg:=mg) (P:=l.prog) (w:=w) (base:=base) F22 T SG ⟨g15 (n + 0),b15,k15,(W.mg_of X G a15)⟩ ⟨g16 (n + 4),b16,k16,(W.mg_of X G a16)⟩
  have g23:=fun n:Nat=>b0B (mg:=mg) (P:=l.prog) (w:=w) (base:=base) (n:=n) F23 T
  have g24:=fun n:Nat=>b0s (mg:=mg) (P:=l.prog) (w:=w) (base:=base) F24 T ⟨g23 (n + 0),b23,k23,(W.mg_of X G a23)⟩
  have g25:=fun n:Nat=>a8J (mg:=mg) (P:=l.prog) (w:=w) (base:=base) F25 ⟨g22 (n + 0),b22,k22,(W.mg_of X G a22)⟩ ⟨g24 (n + 4),b24,k24,(W.mg_of X G a24)⟩
  have g26:=fun n:Nat=>a6T (mg:=mg) (P:=l.prog) (w:=w) (base:=base) F26 ⟨g21 (n + 6),b21,k21,(W.mg_of X G a21)⟩ ⟨g25 (n + 0),b25,k25,(W.mg_of X G a25)⟩
  have g27:=fun n:Nat=>a7z (mg:=mg) (P:=l.prog) (w:=w) (base:=base) F27 T TKd ⟨g26 (n + 0),b26,k26,(W.mg_of X G a26)⟩
  have g28:=fun n:Nat=>a3W (mg:=mg) (P:=l.prog) (w:=w) (base:=base) F28 ⟨g21 (n + 0),b21,k21,(W.mg_of X G a21)⟩
  have g29:=fun n:Nat=>a4l (mg:=mg) (P:=l.prog) (w:=w) (base:=base) (n:=n) F29 T
  have g30:=fun n:Nat=>b0V (mg:=mg) (P:=l.prog) (w:=w) (base:=base) F30 TKd ⟨g27 (n + 0),b27,⟨a27,n27,k27⟩⟩ ⟨g28 (n + 7),b28,k28,(W.mg_of X G a28)⟩ ⟨g29 (n + 8),b29,k29,(W.mg_of X G a29)⟩
  have g31:=fun n:Nat=>a8Y (mg:=mg) (P:=l.prog) (w:=w) (base:=base) (n:=n) F31 T
  have g32:=fun n:Nat=>a9A (mg:=mg) (P:=l.prog) (w:=w) (base:=base) F32 T C_MOST_AMOUNT ⟨g31 (n + 0),b31,k31,(W.mg_of X G a31)⟩
  have g33:=fun n:Nat=>a9C (mg:=mg) (P:=l.prog) (w:=w) (base:=base) F33 T ⟨g32 (n + 0),b32,k32,(W.mg_of X G a32)⟩
  have g34:=fun n:Nat=>a6a (mg:=mg) (P:=l.prog) (w:=w) (base:=base) F34 k_NoBook m_NoBook ⟨g33 (n + 0),b33,k33,(W.mg_of X G a33)⟩
  have g35:=fun n:Nat=>a4J (mg:=mg) (P:=l.prog) (w:=w) (base:=base) F35 ⟨g21 (n + 3),b21,k21,(W.mg_of X G a21)⟩ ⟨g34 (n + 0),b34,k34,(W.mg_of X G a34)⟩
  have g36:=fun n:Nat=>a5Z (mg:=mg) (P:=l.prog) (w:=w) (base:=base) F36 TKd ⟨g27 (n + 0),b27,⟨a27,n27,k27⟩⟩ ⟨g35 (n + 4),b35,k35,(W.mg_of X G a35)⟩ ⟨g29 (n + 8),b29,k29,(W.mg_of X G a29)⟩
  have g37:=fun n:Nat=>a7m (Pt:=Pt) (mg:=mg) (P:=l.prog) (w:=w) (base:=base) (n:=n) F37 TKd k_NothingLeft m_NothingLeft
  have g38:=fun n:Nat=>a4p (mg:=mg) (P:=l.prog) (w:=w) (base:=base) F38 T k_TooMany m_TooMany C_MOST_HOUSES ⟨g34 (n + 0),b34,k34,(W.mg_of X G a34)⟩
  have g39:=fun n:Nat=>a7r (mg:=mg) (P:=l.prog) (w:=w) (base:=base) F39 TKd ⟨g27 (n + 0),b27,⟨a27,n27,k27⟩⟩ ⟨g38 (n + 4),b38,k38,(W.mg_of X G a38)⟩ ⟨g29 (n + 8),b29,k29,(W.mg_of X G a29)⟩
  have g40:=fun n:Nat=>a8H (mg:=mg) (P:=l.prog) (w:=w) (base:=base) F40 TKd ⟨g30 (n + 0),b30,⟨a30,n30,k30⟩⟩ ⟨g36 (n + 0),b36,⟨a36,n36,k36⟩⟩ ⟨g37 (n + 9),b37,⟨a37,n37,k37⟩⟩ ⟨g39 (n + 0),b39,⟨a39,n39,k39⟩⟩
  exact b0I F41 T TKd ⟨⟨km,a1,n1,kk⟩,g1,b1,W.mg_of X G aK⟩ ⟨⟨g2 10,b2,k2,(W.mg_of X G a2)⟩,⟨g3 10,b3,k3,(W.mg_of X G a3)⟩,⟨g4 10,b4,⟨a4,n4,k4⟩⟩,⟨g5 10,b5,k5,(W.mg_of X G a5)⟩,⟨g20 2,b20,k20,(W.mg_of X G a20)⟩,⟨g40 0,b40,k40,(W.mg_of X G a40)⟩⟩
end Rim
def PySem.W.Fast.tw11877723535989054335:Nat:=0
def PySem.W.Fast.tw15864185120173033321:Nat:=0
def PySem.W.Fast.tw9326753401981235212:Nat:=0
def PySem.W.Fast.tw15492337692921797213:Nat:=0
def PySem.W.Fast.tw2033353465978866599:Nat:=0
def PySem.W.Fast.tw14883157501268191876:Nat:=0
def PySem.W.Fast.tw13224040581319153137:Nat:=0
def PySem.W.Fast.tw17904901551097236977:Nat:=0
def PySem.W.Fast.tw11747019508932676832:Nat:=0
def PySem.W.Fast.tw10447970665237371479:Nat:=0
def PySem.W.Fast.tw18116344001696614129:Nat:=0
def PySem.W.Fast.tw10840819471824099321:Nat:=0
def PySem.W.Fast.tw6367944223491516416:Nat:=0
def PySem.W.Fast.tw793357392432167410:Nat:=0
def PySem.W.Fast.tw5771399952019761879:Nat:=0
def PySem.W.Fast.tw2081527648975492018:Nat:=0
def PySem.W.Fast.tw11618693723049227267:Nat:=0
def PySem.W.Fast.tw18156936600222030696:Nat:=0
def PySem.W.Fast.tw5192512326899814496:Nat:=0
def PySem.W.Fast.tw418924444223137010:Nat:=0
def PySem.W.Fast.tw14343211381957031802:Nat:=0
def PySem.W.Fast.tw15662019669314235460:Nat:=0
def PySem.W.Fast.tw3335504604688293249:Nat:=0
def PySem.W.Fast.tw13584393810184062809:Nat:=0
def PySem.W.Fast.tw8648936650672867037:Nat:=0
def PySem.W.Fast.tw5618948666414569094:Nat:=0
def PySem.W.Fast.tw3185202904228745015:Nat:=0
def PySem.W.Fast.tw2282075001775491864:Nat:=0
def PySem.W.Fast.tw17418380011434891236:Nat:=0
def PySem.W.Fast.tw10579814635127020203:Nat:=0
def PySem.W.Fast.tw12338005734510267013:Nat:=0
def PySem.W.Fast.tw15175723445112632501:Nat:=0
def PySem.W.Fast.tw2434114616046926573:Nat:=0
def PySem.W.Fast.tw9164109221606431159:Nat:=0
def PySem.W.Fast.tw7668273948008750918:Nat:=0
def PySem.W.Fast.tw17968167744399429255:Nat:=0
def PySem.W.Fast.tw10533491690985727780:Nat:=0
def PySem.W.Fast.tw6777613547196849820:Nat:=0
def PySem.W.Fast.tw9369769067139095923:Nat:=0
def PySem.W.Fast.tw7573154161242118432:Nat:=0
def PySem.W.Fast.tw13927179631543486667:Nat:=0
def PySem.W.Fast.tw12566550092053991767:Nat:=0
def PySem.W.Fast.tw14467426188083510412:Nat:=0
def PySem.W.Fast.tw12507934425567391740:Nat:=0
def PySem.W.Fast.tw432878795484477740:Nat:=0
def PySem.W.Fast.tw14533287221768752004:Nat:=0
def PySem.W.Fast.tw10865441888511158572:Nat:=0
def PySem.W.Fast.tw14178675297209489647:Nat:=0
def PySem.W.Fast.tw16797783201847324546:Nat:=0
def PySem.W.Fast.tw8115785998539708814:Nat:=0
def PySem.W.Fast.tw18082847654279051178:Nat:=0
def PySem.W.Fast.tw7894363751264540689:Nat:=0
def PySem.W.Fast.tw8008053452785475946:Nat:=0
def PySem.W.Fast.tw11787508431725691457:Nat:=0
def PySem.W.Fast.tw14698511373873968375:Nat:=0
def PySem.W.Fast.tw15951046371810754448:Nat:=0
def PySem.W.Fast.tw224878060928041592:Nat:=0
def PySem.W.Fast.tw10323426353109778590:Nat:=0
def PySem.W.Fast.tw16610899319791732794:Nat:=0
def PySem.W.Fast.tw9938890872553120979:Nat:=0
def PySem.W.Fast.tw7589698393961809005:Nat:=0
def PySem.W.Fast.tw8673405954335055337:Nat:=0
def PySem.W.Fast.tw15064590343759634691:Nat:=0
def PySem.W.Fast.tw9916151297878394536:Nat:=0
def PySem.W.Fast.tw17732045040030596943:Nat:=0
def PySem.W.Fast.tw1936352207077133683:Nat:=0
def PySem.W.Fast.tw8096744619410964272:Nat:=0
def PySem.W.Fast.tw6634024980714469559:Nat:=0
def PySem.W.Fast.tw11377004754696422980:Nat:=0
def PySem.W.Fast.tw17814614564282662817:Nat:=0
def PySem.W.Fast.tw17136174178648612809:Nat:=0
def PySem.W.Fast.tw14387134647957704284:Nat:=0
def PySem.W.Fast.tw18352234813066574019:Nat:=0
def PySem.W.Fast.tw14352606394703027549:Nat:=0
def PySem.W.Fast.tw16997624186923425966:Nat:=0
def PySem.W.Fast.tw721245719455096940:Nat:=0
def PySem.W.Fast.tw12022815260253489402:Nat:=0
def PySem.W.Fast.tw4812897059970175960:Nat:=0
def PySem.W.Fast.tw11359236970903791132:Nat:=0
def PySem.W.Fast.tw9406327243071705865:Nat:=0
def PySem.W.Fast.tw18143020262395545987:Nat:=0
def PySem.W.Fast.tw6264111271555058246:Nat:=0
def PySem.W.Fast.tw15630729912934238911:Nat:=0
def PySem.W.Fast.tw10392734941807984679:Nat:=0
def PySem.W.Fast.tw1292915729569532195:Nat:=0
def PySem.W.Fast.tw4876431949677969835:Nat:=0
def PySem.W.Fast.tw10971486119604934844:Nat:=0
def PySem.W.Fast.tw14065343797351629381:Nat:=0
def PySem.W.Fast.tw16224513241340038038:Nat:=0
def PySem.W.Fast.tw7047939993241696714:Nat:=0
namespace Rim
open PySem L2 Fr
theorem walk {l:W.OpenLaw} {q:Program} {loose:List Str} {XP:(Str->Option Value)->Heap->Prop} {YP:World->Heap->Prop} {d:DefRec} {K:Params->W.Frag} {Ct Pt:Addr} (hn:l.most = some 63) (hdf:d.params.defaults = [])
    (hY:∀ (w:World) (h:Heap),YP w h->(K w.params).In h/\∀ t ∈ [(Ct,Pt)],h.get? t.2 = some (W.tabObj #[]))
    (hC:∀ (w:World),∀ t ∈ [(Ct,Pt)],W.codeHdIn (K w.params) t.1 t.2 = true/\(K w.params).lookup t.2 = none)
    (F:∀ (w:World) (mg:Str->Option Value) (fa:Addr) (h:Heap),(K w.params).In h->h.Ns mainGlobals mg->mg d.name = some (.ref fa) →
      ∃ fd:FuncData,(∀ (s:Shared) (u:Value),BindsTo s fd ⟨[u],[]⟩ [("script",u)])/\∀ base:Heap,(K w.params).In base->base.Ns mainGlobals mg->O1 mg base->(∀ t ∈ [(Ct,Pt)],W.CodeHd base t.1 t.2)->FnOk l.prog w (K w.params) mg base D6 12 fa fd ["script"] (a4Z (K w.params) Pt)) :
    W.WalkO q loose XP YP l.row.toRowW d [] (fun f vs=>PySem.call f vs) :=
  L2.walk_ofT (n:=63) (k:=12) (x:="script") (Ts:=[(Ct,Pt)]) (CX:=fun _=>D6) (sp:=fun w=>a4Z (K w.params) Pt) hn (by decide) hdf ⟨rfl,by decide,by decide⟩ hY hC F (fun _ _ a ns hl hT hS=>⟨a,ns,rfl,hS,hl,.inl (hT _ (.head _)),fun _=>rfl⟩) fun _ _ _ _ _ z=>z
end Rim
open PySem PySem.W PyProof.Rows
set_option maxRecDepth 100000 in
set_option maxHeartbeats 0 in
theorem PySem.Challenge.cw_rimhouse_k32_whole_two_kept_holds : PySem.Challenge.rw_rimhouse_k32_whole_two_kept.Holds := by
  w_on; o_law; km_head; (case hw=>w_witness2)
  k_fill
  refine' Rim.walk (l:=PySem.Challenge.rw_rimhouse_k32_whole_two_kept) (Ct:=_) (Pt:=160) rfl rfl ?Y ?C ?F
  case Y=>exact fun w h Y=>⟨W.km_in_of Y,fun t ht=>by rw [List.mem_singleton.mp ht]; exact W.km_tabs_of Y _ (.head _)⟩
  case F =>
    intro w mg fa h KX G hmg
    refine' Rim.all_mk KX G hmg ?aK ?aB ?a1 ?l1 ?n1 ?a2 ?l2 ?a3 ?l3 ?a4 ?l4 ?n4 ?a5 ?l5 ?a6 ?l6 ?n6 ?a7 ?l7 ?n7 ?a8 ?l8 ?n8 ?a9 ?l9 ?n9 ?a10 ?l10 ?n10 ?a11 ?l11 ?a12 ?l12 ?n12 ?a13 ?l13 ?n13 ?a14 ?l14 ?n14 ?a15 ?l15 ?a16 ?l16 ?a17 ?l17 ?a18 ?l18 ?a19 ?l19 ?n19 ?a20 ?l20 ?a21 ?l21 ?a22 ?l22 ?a23 ?l23 ?a24 ?l24 ?a25 ?l25 ?a26 ?l26 ?a27 ?l27 ?n27 ?a28 ?l28 ?a29 ?l29 ?a30 ?l30 ?n30 ?a31 ?l31 ?a32 ?l32 ?a33 ?l33 ?a34 ?l34 ?a35 ?l35 ?a36 ?l36 ?n36 ?a37 ?l37 ?n37 ?a38 ?l38 ?a39 ?l39 ?n39 ?a40 ?l40 ?a41 ?l41 ?c41 ?k41 ?z1 ?z2 ?z3 ?z4 ?z5 ?z6 ?z7 ?z8 ?z9 ?z10 ?z11 ?z12 ?z13 ?z14 ?z15 ?z16 ?z17 ?bp ?bh ?bo ?bs ?b_many ?b_scale ?b_cells ?b_outs ?b_ins ?bm ?bk ?kp ?kh ?ko ?ks ?k_many_takes ?k_many_gives ?k_sizes ?k_there ?k_worth ?k_past ?km ?kk ?s1 ?s3 ?s4 ?sa0 ?sb0 ?sa1 ?sb1 ?sa2 ?sb2 ?sa3 ?sb3 ?xmNoHouse ?xoNoHouse ?xgaNoHouse ?xgnNoHouse ?xcaNoHouse ?xmoNoHouse ?xmbNoHouse ?xmNoBook ?xoNoBook ?xgaNoBook ?xgnNoBook ?xcaNoBook ?xmoNoBook ?xmbNoBook ?xmTooMany ?xoTooMany ?xgaTooMany ?xgnTooMany ?xcaTooMany ?xmoTooMany ?xmbTooMany ?xmNothingLeft ?xoNothingLeft ?xgaNothingLeft ?xgnNothingLeft ?xcaNothingLeft ?xmoNothingLeft ?xmbNothingLeft ?cmMOST_AMOUNT ?cmMOST_HOUSES
    (case aK=>k_is)
    (case aB=>k_is)
    (case a1=>k_is)
    (case l1=>(refine' L2.fun_in ?l ?c ?k; (case l=>k_is); (case c=>k_is); (case k=>k_is)))
    (case n1=>k_is)
    (case a2=>k_is)
    (case l2=>(refine' L2.fun_in ?l ?c ?k; (case l=>k_is); (case c=>k_is); (case k=>k_is)))
    (case a3=>k_is)
    (case l3=>(refine' L2.fun_in ?l ?c ?k; (case l=>k_is); (case c=>k_is); (case k=>k_is)))
    (case a4=>k_is)
    (case l4=>(refine' L2.fun_in ?l ?c ?k; (case l=>k_is); (case c=>k_is); (case k=>k_is)))
    (case n4=>k_is)
    (case a5=>k_is)
    (case l5=>(refine' L2.fun_in ?l ?c ?k; (case l=>k_is); (case c=>k_is); (case k=>k_is)))
    (case a6=>k_is)
    (case l6=>(refine' L2.fun_in ?l ?c ?k; (case l=>k_is); (case c=>k_is); (case k=>k_is)))
    (case n6=>k_is)
    (case a7=>k_is)
    (case l7=>(refine' L2.fun_in ?l ?c ?k; (case l=>k_is); (case c=>k_is); (case k=>k_is)))
    (case n7=>k_is)
    (case a8=>k_is)
    (case l8=>(refine' L2.fun_in ?l ?c ?k; (case l=>k_is); (case c=>k_is); (case k=>k_is)))
    (case n8=>k_is)
    (case a9=>k_is)
    (case l9=>(refine' L2.fun_in ?l ?c ?k; (case l=>k_is); (case c=>k_is); (case k=>k_is)))
    (case n9=>k_is)
    (case a10=>k_is)
    (case l10=>(refine' L2.fun_in ?l ?c ?k; (case l=>k_is); (case c=>k_is); (case k=>k_is)))
    (case n10=>k_is)
    (case a11=>k_is)
    (case l11=>(refine' L2.fun_in ?l ?c ?k; (case l=>k_is); (case c=>k_is); (case k=>k_is)))
    (case a12=>k_is)
    (case l12=>(refine' L2.fun_in ?l ?c ?k; (case l=>k_is); (case c=>k_is); (case k=>k_is)))
    (case n12=>k_is)
    (case a13=>k_is)
    (case l13=>(refine' L2.fun_in ?l ?c ?k; (case l=>k_is); (case c=>k_is); (case k=>k_is)))
    (case n13=>k_is)
    (case a14=>k_is)
    (case l14=>(refine' L2.fun_in ?l ?c ?k; (case l=>k_is); (case c=>k_is); (case k=>k_is)))
    (case n14=>k_is)
    (case a15=>k_is)
    (case l15=>(refine' L2.fun_in ?l ?c ?k; (case l=>k_is); (case c=>k_is); (case k=>k_is)))
    (case a16=>k_is)
    (case l16=>(refine' L2.fun_in ?l ?c ?k; (case l=>k_is); (case c=>k_is); (case k=>k_is)))
    (case a17=>k_is)
    (case l17=>(refine' L2.fun_in ?l ?c ?k; (case l=>k_is); (case c=>k_is); (case k=>k_is)))
    (case a18=>k_is)
    (case l18=>(refine' L2.fun_in ?l ?c ?k; (case l=>k_is); (case c=>k_is); (case k=>k_is)))
    (case a19=>k_is)
    (case l19=>(refine' L2.fun_in ?l ?c ?k; (case l=>k_is); (case c=>k_is); (case k=>k_is)))
    (case n19=>k_is)
    (case a20=>k_is)
    (case l20=>(refine' L2.fun_in ?l ?c ?k; (case l=>k_is); (case c=>k_is); (case k=>k_is)))
    (case a21=>k_is)
    (case l21=>(refine' L2.fun_in ?l ?c ?k; (case l=>k_is); (case c=>k_is); (case k=>k_is)))
    (case a22=>k_is)
    (case l22=>(refine' L2.fun_in ?l ?c ?k; (case l=>k_is); (case c=>k_is); (case k=>k_is)))
    (case a23=>k_is)
    (case l23=>(refine' L2.fun_in ?l ?c ?k; (case l=>k_is); (case c=>k_is); (case k=>k_is)))
    (case a24=>k_is)
    (case l24=>(refine' L2.fun_in ?l ?c ?k; (case l=>k_is); (case c=>k_is); (case k=>k_is)))
    (case a25=>k_is)
    (case l25=>(refine' L2.fun_in ?l ?c ?k; (case l=>k_is); (case c=>k_is); (case k=>k_is)))
    (case a26=>k_is)
    (case l26=>(refine' L2.fun_in ?l ?c ?k; (case l=>k_is); (case c=>k_is); (case k=>k_is)))
    (case a27=>k_is)
    (case l27=>(refine' L2.fun_in ?l ?c ?k; (case l=>k_is); (case c=>k_is); (case k=>k_is)))
    (case n27=>k_is)
    (case a28=>k_is)
    (case l28=>(refine' L2.fun_in ?l ?c ?k; (case l=>k_is); (case c=>k_is); (case k=>k_is)))
    (case a29=>k_is)
    (case l29=>(refine' L2.fun_in ?l ?c ?k; (case l=>k_is); (case c=>k_is); (case k=>k_is)))
    (case a30=>k_is)
    (case l30=>(refine' L2.fun_in ?l ?c ?k; (case l=>k_is); (case c=>k_is); (case k=>k_is)))
    (case n30=>k_is)
    (case a31=>k_is)
    (case l31=>(refine' L2.fun_in ?l ?c ?k; (case l=>k_is); (case c=>k_is); (case k=>k_is)))
    (case a32=>k_is)
    (case l32=>(refine' L2.fun_in ?l ?c ?k; (case l=>k_is); (case c=>k_is); (case k=>k_is)))
    (case a33=>k_is)
    (case l33=>(refine' L2.fun_in ?l ?c ?k; (case l=>k_is); (case c=>k_is); (case k=>k_is)))
    (case a34=>k_is)
    (case l34=>(refine' L2.fun_in ?l ?c ?k; (case l=>k_is); (case c=>k_is); (case k=>k_is)))
    (case a35=>k_is)
    (case l35=>(refine' L2.fun_in ?l ?c ?k; (case l=>k_is); (case c=>k_is); (case k=>k_is)))
    (case a36=>k_is)
    (case l36=>(refine' L2.fun_in ?l ?c ?k; (case l=>k_is); (case c=>k_is); (case k=>k_is)))
    (case n36=>k_is)
    (case a37=>k_is)
    (case l37=>(refine' L2.fun_in ?l ?c ?k; (case l=>k_is); (case c=>k_is); (case k=>k_is)))
    (case n37=>k_is)
    (case a38=>k_is)
    (case l38=>(refine' L2.fun_in ?l ?c ?k; (case l=>k_is); (case c=>k_is); (case k=>k_is)))
    (case a39=>k_is)
    (case l39=>(refine' L2.fun_in ?l ?c ?k; (case l=>k_is); (case c=>k_is); (case k=>k_is)))
    (case n39=>k_is)
    (case a40=>k_is)
    (case l40=>(refine' L2.fun_in ?l ?c ?k; (case l=>k_is); (case c=>k_is); (case k=>k_is)))
    (case a41=>k_is)
    (case l41=>k_is)
    (case c41=>k_is)
    (case k41=>k_is)
    (case z1=>k_is)
    (case z2=>k_is)
    (case z3=>k_is)
    (case z4=>k_is)
    (case z5=>k_is)
    (case z6=>k_is)
    (case z7=>k_is)
    (case z8=>k_is)
    (case z9=>k_is)
    (case z10=>k_is)
    (case z11=>k_is)
    (case z12=>k_is)
    (case z13=>k_is)
    (case z14=>k_is)
    (case z15=>k_is)
    (case z16=>k_is)
    (case z17=>k_is)
    (case bp=>k_is)
    (case bh=>k_is)
    (case bo=>k_is)
    (case bs=>k_is)
    (case b_many=>k_is)
    (case b_scale=>k_is)
    (case b_cells=>k_is)
    (case b_outs=>k_is)
    (case b_ins=>k_is)
    (case bm=>k_is)
    (case bk=>k_is)
    (case kp=>k_is)
    (case kh=>k_is)
    (case ko=>k_is)
    (case ks=>k_is)
    (case k_many_takes=>k_is)
    (case k_many_gives=>k_is)
    (case k_sizes=>k_is)
    (case k_there=>k_is)
    (case k_worth=>k_is)
    (case k_past=>k_is)
    (case km=>k_is)
    (case kk=>k_is)
    (case s1=>k_is)
    (case s3=>k_is)
    (case s4=>k_keys)
    (case sa0=>k_is)
    (case sb0=>k_is)
    (case sa1=>k_is)
    (case sb1=>k_is)
    (case sa2=>k_is)
    (case sb2=>k_is)
    (case sa3=>k_is)
    (case sb3=>k_is)
    (case xmNoHouse=>k_is)
    (case xoNoHouse=>k_exc)
    (case xgaNoHouse=>k_is)
    (case xgnNoHouse=>k_is)
    (case xcaNoHouse=>k_is)
    (case xmoNoHouse=>k_is)
    (case xmbNoHouse=>k_is)
    (case xmNoBook=>k_is)
    (case xoNoBook=>k_exc)
    (case xgaNoBook=>k_is)
    (case xgnNoBook=>k_is)
    (case xcaNoBook=>k_is)
    (case xmoNoBook=>k_is)
    (case xmbNoBook=>k_is)
    (case xmTooMany=>k_is)
    (case xoTooMany=>k_exc)
    (case xgaTooMany=>k_is)
    (case xgnTooMany=>k_is)
    (case xcaTooMany=>k_is)
    (case xmoTooMany=>k_is)
    (case xmbTooMany=>k_is)
    (case xmNothingLeft=>k_is)
    (case xoNothingLeft=>k_exc)
    (case xgaNothingLeft=>k_is)
    (case xgnNothingLeft=>k_is)
    (case xcaNothingLeft=>k_is)
    (case xmoNothingLeft=>k_is)
    (case xmbNothingLeft=>k_is)
    (case cmMOST_AMOUNT=>k_is)
    (case cmMOST_HOUSES=>k_is)
  case C=>exact fun w t ht=>by rw [List.mem_singleton.mp ht]; exact ⟨by kernel_rfl,by kernel_rfl⟩
