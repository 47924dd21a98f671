import PyProof.Rows.All
import Wide.All
import OpenK.AllK
import Wide.FinOn
import Lean
import PyProof.EqAt
import PyProof.EqKinds
import PyProof.TupleCall
import PyProof.NeData
import PyProof.ZipIter
import PyProof.EnumMake
import PyProof.EnumFor
import KE.KMinKey
import KE.KUnpack
import KE.KNestM
import PyProof.AssignAttr
import PyProof.ListMulRoad
import PyProof.AutoSeq1
import PyProof.FactsAll.tuple_2
import KE.KLam
import PySem.Challenge.RW_rimhouse_k33_hundreds_of_kept_deeds
set_option Elab.async false
set_option linter.all false
set_option maxRecDepth 100000
namespace L2
open PySem PySem.Spec PyProof.Rows
abbrev Key := Sum Int Str
def a8J : Key -> Value -> Bool
  | .inl k, v => Value.isInt k v
  | .inr x, v => Value.isStrOf x v
def b1Z (w : World) : Key -> Int
  | .inl k => hashInt k
  | .inr x => hashStr w x
theorem v9 : ∀ {k : Key} {v : Value}, a8J k v = true -> (∃ i t, k = Sum.inl i /\ v = Value.int i t) \/ (∃ x t, k = Sum.inr x /\ v = Value.str x t)
  | .inl i, v, h => by
    obtain ⟨t, e⟩ := Value.isInt_shape (k := i) (v := v) h
    exact .inl ⟨i, t, rfl, e⟩
  | .inr x, v, h => by
    obtain ⟨t, e⟩ := Value.isStrOf_shape (x := x) (v := v) h
    exact .inr ⟨x, t, rfl, e⟩
theorem a9P (a b : Int) : decide ((Sum.inl a : Key) = Sum.inl b) = (a == b) := by
  by_cases e : a = b
  . subst e; simp
  . have h : ¬ (Sum.inl a : Key) = Sum.inl b := fun q => e (Sum.inl.inj q)
    rw [decide_eq_false h]
    exact (beq_eq_false_iff_ne.mpr e).symm
theorem b0i (a b : Str) : decide ((Sum.inr a : Key) = Sum.inr b) = decide (a = b) := by
  by_cases e : a = b
  . subst e; simp
  . have h : ¬ (Sum.inr a : Key) = Sum.inr b := fun q => e (Sum.inr.inj q)
    rw [decide_eq_false h, decide_eq_false e]
theorem a9G (a : Int) (b : Str) : decide ((Sum.inl a : Key) = Sum.inr b) = false := decide_eq_false (fun q => nomatch q)
theorem a9m (a : Str) (b : Int) : decide ((Sum.inr a : Key) = Sum.inl b) = false := decide_eq_false (fun q => nomatch q)
def a2c (prog : Program) (w : World) : PySem.KeyKind prog w Key where
  is := a8J
  hash := b1Z w
  inj := fun v a b ha hb => by
    rcases v9 ha with ⟨i, t, rfl, rfl⟩ | ⟨x, t, rfl, rfl⟩
    . rcases v9 hb with ⟨j, u, rfl, e⟩ | ⟨y, u, rfl, e⟩
      . injection e with e1 _; rw [e1]
      . exact nomatch e
    . rcases v9 hb with ⟨j, u, rfl, e⟩ | ⟨y, u, rfl, e⟩
      . exact nomatch e
      . injection e with e1 _; rw [e1]
  byValue := fun k v h => by
    rcases v9 h with ⟨i, t, rfl, rfl⟩ | ⟨x, t, rfl, rfl⟩ <;> rfl
  pyHash := fun hv h => by
    rcases v9 hv with ⟨i, t, rfl, rfl⟩ | ⟨x, t, rfl, rfl⟩
    . exact wpAny_pyHash_int h
    . exact wpAny_pyHash_str h
  eqBool := fun hu hv h => by
    rcases v9 hu with ⟨i, t, rfl, rfl⟩ | ⟨x, t, rfl, rfl⟩
    . rcases v9 hv with ⟨j, u, rfl, rfl⟩ | ⟨y, u, rfl, rfl⟩
      . rw [a9P] at h; exact wpAny_eqBool_int h
      . rw [a9G] at h; exact SeqAt.EqAt.int_str i t y u _ _ _ _ h
    . rcases v9 hv with ⟨j, u, rfl, rfl⟩ | ⟨y, u, rfl, rfl⟩
      . rw [a9m] at h; exact SeqAt.EqAt.str_int x t j u _ _ _ _ h
      . rw [b0i] at h; exact wpAny_eqBool_str h
  «strs» := fun k x t v h => by
    rcases v9 h with ⟨i, u, rfl, e⟩ | ⟨y, u, rfl, e⟩
    . exact nomatch e
    . injection e with e1 _
      subst e1
      cases v <;> rfl
end L2
namespace L2
open PySem PySem.Spec PyProof.Rows
inductive V where
  | non | bl (b : Bool) | int (i : Int) | str (x : Str) | byt (b : Array UInt8) | flt (b : UInt64) | ref (a : Addr) | ty (n : String)
  deriving DecidableEq
def RelV : V -> Value -> Prop
  | .non, u => u = Value.none
  | .bl b, u => u = Value.bool b
  | .int i, u => ∃ t, u = Value.int i t
  | .str x, u => ∃ t, u = Value.str x t
  | .byt b, u => ∃ t, u = Value.bytes b t
  | .flt b, u => ∃ t, u = Value.float b t
  | .ref a, u => u = Value.ref a
  | .ty n, u => u = Value.type n
abbrev Vals : List V -> List Value -> Prop := Paired RelV
theorem Vals.length {xs : List V} {us : List Value} (r : Vals xs us) : xs.length = us.length := Paired.length r
theorem Vals.get : ∀ {xs : List V} {us : List Value} {i : Nat} {x : V}, Vals xs us -> xs[i]? = some x -> ∃ u, us[i]? = some u /\ RelV x u
  | _, _, _, _, .nil, e => by simp at e
  | _, _, 0, _, .cons r _, e => by simp at e; subst e; exact ⟨_, rfl, r⟩
  | _, _, i + 1, x, .cons _ t, e => by
    obtain ⟨u, h1, h2⟩ := Vals.get (i := i) (x := x) t (by simpa using e)
    exact ⟨u, by simpa using h1, h2⟩
theorem Vals.set {x : V} {u : Value} (r : RelV x u) : ∀ {xs : List V} {us : List Value} (i : Nat), Vals xs us -> Vals (xs.set i x) (us.set i u)
  | _, _, _, .nil => .nil
  | _, _, 0, .cons _ t => .cons r t
  | _, _, i + 1, .cons q t => .cons q (Vals.set r i t)
theorem Vals.append : ∀ {xs ys : List V} {us ws : List Value}, Vals xs us -> Vals ys ws -> Vals (xs ++ ys) (us ++ ws)
  | _, _, _, _, .nil, s => s
  | _, _, _, _, .cons r t, s => .cons r (Vals.append t s)
theorem Vals.take : ∀ {xs : List V} {us : List Value} (n : Nat), Vals xs us -> Vals (xs.take n) (us.take n)
  | _, _, 0, _ => .nil
  | _, _, _ + 1, .nil => .nil
  | _, _, n + 1, .cons r t => .cons r (Vals.take n t)
theorem Vals.drop : ∀ {xs : List V} {us : List Value} (n : Nat), Vals xs us -> Vals (xs.drop n) (us.drop n)
  | _, _, 0, r => r
  | _, _, _ + 1, .nil => .nil
  | _, _, n + 1, .cons _ t => Vals.drop n t
theorem Vals.none_of : ∀ {xs : List V} {us : List Value} {i : Nat}, Vals xs us -> xs[i]? = none -> us[i]? = none := fun {xs us i} r e => by
  have h1 := r.length
  have h2 : xs.length <= i := List.getElem?_eq_none_iff.mp e
  exact List.getElem?_eq_none_iff.mpr (by omega)
def RelO : Option V -> Option Value -> Prop
  | some v, some u => RelV v u
  | none, none => True
  | _, _ => False
def KV {κ : Type} : List (κ × V) -> List (κ × Value) -> Prop := Paired fun (p : κ × V) (q : κ × Value) => p.1 = q.1 /\ RelV p.2 q.2
def kV : Key -> V
  | .inl i => .int i
  | .inr x => .str x
inductive HO where
  /-- a list -/
  | lst (xs : List V)
  /-- a tuple (never changes) -/
  | tup (xs : List V)
  /-- a dict whose keys are ints and texts; one whose keys are tuples of ints and texts (the empty one is both) -/
  | dK (kvs : List (Key × V)) | dT (kvs : List (List Key × V))
  /-- a set of ints: its members, its size -/
  | set (S : Int -> Bool) (n : Nat)
  /-- an instance of the class at C, its dict at dx, its attributes -/
  | ins (C dx : Addr) (fs : List (Str × V))
  /-- the dict of the instance at x -/
  | own (x : Addr)
  /-- the dict of an exception -/
  | xd (fs : List (Str × V))
  /-- a bound method, f of x -/
  | met (f x : Addr)
  /-- a range object lo, lo + 1, .. below hi -/
  | rng (lo hi : Int)
  /-- a thing that is known to the object (the script; a dict while a loop walks it): read, never written while it is so -/
  | frz (o : Obj) (u : HO)
  /-- a code object's table -/
  | tbl (ps : Array Value)
  /-- any other thing, by what is true of its one object (a def of one's own: SetO a S n := HO.ext fun h => ..) -/
  | ext (φ : Heap -> Prop)
abbrev Hp := Addr -> Option HO
def j9 (H : Hp) (a : Addr) (o : HO) : Hp := fun b => if b = a then some o else H b
theorem upd_same {H : Hp} {a : Addr} {o : HO} : j9 H a o a = some o := by unfold j9; rw [if_pos rfl]
theorem c9 {H : Hp} {a b : Addr} {o : HO} (h : b ≠ a) : j9 H a o b = H b := by unfold j9; rw [if_neg h]
theorem K4 {H : Hp} {a : Addr} {o u : HO} : j9 (j9 H a o) a u = j9 H a u := by
  funext b; unfold j9; split <;> rfl
theorem t7 {H : Hp} {a b : Addr} {o u : HO} (h : H a = some o) (h' : H b = some u) (d : o ≠ u) : a ≠ b := by
  intro e; subst e; rw [h] at h'; exact d (Option.some.inj h')
theorem d0 {H : Hp} {a b : Addr} {o : HO} (h : H a = some o) (h' : H b = none) : a ≠ b := by
  intro e; subst e; rw [h] at h'; cases h'
section
variable (P : Program) (w : World)
def ObjOk (H : Hp) (h : Heap) (a : Addr) : HO -> Prop
  | .lst xs => xs.length <= sizeLine /\ ∃ (its : List Value) (n : Nat), Vals xs its /\ h.get? a = some { cls := .type "list", data := .seq its.toArray n }
  | .tup xs => xs.length <= sizeLine /\ ∃ its : List Value, Vals xs its /\ IsTup h a its.toArray
  | .dK kvs => kvs.length <= sizeLine /\ (a == sysModules) = false /\ ∃ vs, KV kvs vs /\ h.DictOf (a2c P w) a vs
  | .dT kvs => kvs.length <= sizeLine /\ (a == sysModules) = false /\ ∃ xs : List (List Key × Addr × Value),
      Paired (fun (p : List Key × V) (q : List Key × Addr × Value) => p.1 = q.1 /\ H q.2.1 = some (.tup (p.1.map kV)) /\ RelV p.2 q.2.2) kvs xs ∧
      ∃ o es ep, h.get? a = some o /\ o.ExactDict /\ o.data = .dict es ep /\ es.toList = xs.map (entryOfKey (tupleKind (a2c P w))) /\ (xs.map (·.1)).Nodup
  | .set S n => h.SetOf (intKind P w) a S n
  | .ins C dx fs => H dx = some (.own a) /\ fs.length <= 1000 /\ dx ≠ a /\ h.get? a = some (W.instObj C dx) ∧
      ∃ mA, h.Ns1 dx mA /\ (∀ f, RelO (fs.lookup f) (mA f)) /\ PySem.Within mA (fs.map (·.1))
  | .own _ => ∃ o, h.get? a = some o
  | .xd fs => ∃ mA, h.Ns1 a mA /\ ∀ f, RelO (fs.lookup f) (mA f)
  | .rng lo hi => ∃ t u v, h.get? a = some { cls := .type "range", data := .fields #[.int lo t, .int hi u, .int 1 v] }
  | .frz o u => h.get? a = some o /\ ObjOk H h a u
  | .tbl ps => h.get? a = some { cls := .none, data := .fields ps }
  | .met f x => h.get? a = some (W.methodObj (.ref f) (.ref x))
  | .ext φ => φ h /\ (∃ o, h.get? a = some o) /\ ∀ h1 h2 : Heap, φ h1 -> (∀ o, h1.get? a = some o -> h2.get? a = some o) -> φ h2
def HOk (H : Hp) (h : Heap) : Prop := ∀ a o, H a = some o -> ObjOk P w H h a o
end
section
variable {P : Program} {w : World} {H H' : Hp} {h h' : Heap} {a : Addr} {o : HO}
theorem ObjOk.lt (x : ObjOk P w H h a o) : a < h.objs.size := by
  cases o with
  | lst xs => obtain ⟨_, _, _, _, e⟩ := x; exact Heap.lt_size e
  | tup xs => obtain ⟨_, _, _, p⟩ := x; exact p.lt
  | dK kvs => obtain ⟨_, _, _, _, o, _, _, e, _⟩ := x; exact Heap.lt_size e
  | dT kvs => obtain ⟨_, _, _, _, o, _, _, e, _⟩ := x; exact Heap.lt_size e
  | set S n => obtain ⟨o, _, _, _, e, _⟩ := x; exact Heap.lt_size e
  | ins C dx fs => obtain ⟨_, _, _, e, _⟩ := x; exact Heap.lt_size e
  | own y => obtain ⟨_, e⟩ := x; exact Heap.lt_size e
  | xd fs => obtain ⟨_, ⟨_, _, _, e, _⟩, _⟩ := x; exact Heap.lt_size e
  | rng lo hi => obtain ⟨_, _, _, e⟩ := x; exact Heap.lt_size e
  | frz ob u => obtain ⟨e, _⟩ := x; exact Heap.lt_size e
  | tbl ps => exact Heap.lt_size (show h.get? a = some _ from x)
  | met f y => exact Heap.lt_size (show h.get? a = some _ from x)
  | ext φ => obtain ⟨_, ⟨_, e⟩, _⟩ := x; exact Heap.lt_size e
theorem Paired.mapP {α β : Type} {F G : α -> β -> Prop} : ∀ {l₁ : List α} {l₂ : List β}, Paired F l₁ l₂ -> (∀ a b, F a b -> G a b) -> Paired G l₁ l₂
  | _, _, .nil, _ => .nil
  | _, _, .cons r t, f => .cons (f _ _ r) (Paired.mapP t f)
theorem Paired.imp' {α β : Type} {F G : α -> β -> Prop} (f : ∀ a b, F a b -> G a b) {l₁ : List α} {l₂ : List β} (r : Paired F l₁ l₂) : Paired G l₁ l₂ := Paired.mapP r f
theorem ObjOk.stay (x : ObjOk P w H h a o) (k : ∀ b u, (b = a \/ H b = some (.own a)) -> h.get? b = some u -> h'.get? b = some u)
    (ho : ∀ b, H b = some (.own a) -> H' b = some (.own a)) (ht : ∀ b xs, H b = some (.tup xs) -> H' b = some (.tup xs)) : ObjOk P w H' h' a o := by
  induction o with
  | lst xs => obtain ⟨z, its, n, r, e⟩ := x; exact ⟨z, its, n, r, k _ _ (.inl rfl) e⟩
  | tup xs => obtain ⟨z, its, r, ob, e, c⟩ := x; exact ⟨z, its, r, ob, k _ _ (.inl rfl) e, c⟩
  | dK kvs => obtain ⟨z, y, vs, r, ob, es, ep, e, c⟩ := x; exact ⟨z, y, vs, r, ob, es, ep, k _ _ (.inl rfl) e, c⟩
  | dT kvs =>
    obtain ⟨z, y, xs, r, ob, es, ep, e, c⟩ := x
    exact ⟨z, y, xs, Paired.mapP r fun p q z => ⟨z.1, ht _ _ z.2.1, z.2.2⟩, ob, es, ep, k _ _ (.inl rfl) e, c⟩
  | set S n => obtain ⟨ob, es, ep, t, e, c⟩ := x; exact ⟨ob, es, ep, t, k _ _ (.inl rfl) e, c⟩
  | ins C dx fs =>
    obtain ⟨d, z, ne, e, mA, ⟨od, es, ep, e2, c⟩, r⟩ := x
    exact ⟨ho _ d, z, ne, k _ _ (.inl rfl) e, mA, ⟨od, es, ep, k _ _ (.inr d) e2, c⟩, r⟩
  | own y => obtain ⟨ob, e⟩ := x; exact ⟨ob, k _ _ (.inl rfl) e⟩
  | xd fs => obtain ⟨mA, ⟨od, es, ep, e, c⟩, r⟩ := x; exact ⟨mA, ⟨od, es, ep, k _ _ (.inl rfl) e, c⟩, r⟩
  | rng lo hi => obtain ⟨t, u, v, e⟩ := x; exact ⟨t, u, v, k _ _ (.inl rfl) e⟩
  | frz ob u ih => obtain ⟨e, q⟩ := x; exact ⟨k _ _ (.inl rfl) e, ih q⟩
  | tbl ps =>
    have e : h.get? a = some { cls := .none, data := .fields ps } := x
    show h'.get? a = some { cls := .none, data := .fields ps }
    exact k a _ (.inl rfl) e
  | met f y =>
    have e : h.get? a = some (W.methodObj (.ref f) (.ref y)) := x
    show h'.get? a = some (W.methodObj (.ref f) (.ref y))
    exact k a _ (.inl rfl) e
  | ext φ => obtain ⟨p, ⟨o, e⟩, st⟩ := x; exact ⟨st _ _ p fun o q => k _ _ (.inl rfl) q, ⟨o, k _ _ (.inl rfl) e⟩, st⟩
theorem HOk.lt (x : HOk P w H h) (e : H a = some o) : a < h.objs.size := (x a o e).lt
theorem HOk.fresh (x : HOk P w H h) (e : h.objs.size <= a) : H a = none := by
  cases q : H a with
  | none => rfl
  | some u => exact absurd (Nat.lt_of_lt_of_le (x.lt q) e) (Nat.lt_irrefl _)
theorem HOk.kept (x : HOk P w H h) (k : ∀ b u, h.get? b = some u -> h'.get? b = some u) : HOk P w H h' := fun a o e =>
  (x a o e).stay (fun b u _ q => k b u q) (fun _ q => q) fun _ _ q => q
theorem HOk.laid (x : HOk P w H h) (k : ∀ b u, h.get? b = some u -> h'.get? b = some u) (hp : h.objs.size <= a) (new : ObjOk P w (j9 H a o) h' a o) : HOk P w (j9 H a o) h' := fun b u e => by
  have hn := x.fresh hp
  by_cases hb : b = a
  . subst hb; rw [upd_same] at e; cases e; exact new
  . rw [c9 hb] at e
    exact (x b u e).stay (fun c v _ q => k c v q) (fun c q => by rw [c9 (d0 q hn)]; exact q) fun c xs q => by rw [c9 (d0 q hn)]; exact q
end
def Rd (H : Hp) (a : Addr) (u : HO) : Prop := H a = some u \/ ∃ o, H a = some (.frz o u)
theorem Rd.ok {P : Program} {w : World} {H : Hp} {h : Heap} {a : Addr} {u : HO} (r : Rd H a u) (x : HOk P w H h) : ObjOk P w H h a u := by
  rcases r with r | ⟨o, r⟩
  . exact x a u r
  . obtain ⟨_, q⟩ := x a _ r
    exact q
def Mut : Option HO -> Prop
  | some (.lst _) => True
  | some (.dK _) => True
  | some (.dT _) => True
  | some (.set _ _) => True
  | some (.ins _ _ _) => True
  | some (.ext _) => True
  | _ => False
section
variable {P : Program} {w : World} {H : Hp} {h h' : Heap} {x e : Addr} {o' : HO}
theorem HOk.write (ok : HOk P w H h) (mu : Mut (H x)) (he : e = x \/ H e = some (.own x)) (k : ∀ b u, b ≠ e -> h.get? b = some u -> h'.get? b = some u) (heo : ∃ u, h'.get? e = some u)
    (new : ObjOk P w (j9 H x o') h' x o') : HOk P w (j9 H x o') h' := fun b u q => by
  have nown : ∀ c y, H c = some (.own y) -> c ≠ x := fun c y r z => by subst z; rw [r] at mu; exact mu
  have ntup : ∀ c xs, H c = some (.tup xs) -> c ≠ x := fun c xs r z => by subst z; rw [r] at mu; exact mu
  by_cases hb : b = x
  . subst hb; rw [upd_same] at q; cases q; exact new
  . rw [c9 hb] at q
    by_cases hbe : b = e
    . have q' : H b = some (.own x) := by
        rcases he with z | z
        . exact absurd (hbe.trans z) hb
        . rw [hbe]; exact z
      rw [q] at q'; cases q'
      obtain ⟨v, hv⟩ := heo
      exact ⟨v, by rw [hbe]; exact hv⟩
    . refine (ok b u q).stay (fun c v hc r => k c v ?_ r) (fun c r => by rw [c9 (nown c b r)]; exact r) fun c xs r => by rw [c9 (ntup c xs r)]; exact r
      rcases hc with rfl | hc
      . exact hbe
      . rintro rfl
        rcases he with z | z
        . exact nown c b hc z
        . rw [hc] at z; cases z; exact hb rfl
end
structure Un (fs ex : List Addr) (H H' : Hp) (h h' : Heap) : Prop where
  keep : ∀ b o, h.get? b = some o -> H b = none -> b ∉ fs -> b ∉ ex -> h'.get? b = some o
  slot : ∀ b o, h.get? b = some o -> H b = none -> b ∈ fs -> b ∉ ex -> ∃ sl, h'.get? b = some { o with slots := sl }
  free : ∀ b o, h.get? b = some o -> H b = none -> b ∉ ex -> H' b = none
  there : ∀ b o, h.get? b = some o -> b ∉ ex -> ∃ o', h'.get? b = some o'
  tups : ∀ b xs, H b = some (.tup xs) -> H' b = some (.tup xs)
  frzs : ∀ b o u, H b = some (.frz o u) -> H' b = some (.frz o u)
  tbls : ∀ b ps, H b = some (.tbl ps) -> ∃ more, H' b = some (.tbl (ps ++ more))
section
variable {fs fs' ex ex' : List Addr} {H H1 H2 : Hp} {h h1 h2 h' : Heap} {a x e : Addr} {o : HO}
theorem Un.any (u : Un fs ex H H1 h h1) {b : Addr} {ob : Obj} (q : h.get? b = some ob) (n : H b = none) (hx : b ∉ ex) : ∃ sl, h1.get? b = some { ob with slots := sl } := by
  by_cases hb : b ∈ fs
  . exact u.slot b ob q n hb hx
  . exact ⟨ob.slots, u.keep b ob q n hb hx⟩
theorem Un.kept (k : ∀ b u, h.get? b = some u -> h'.get? b = some u) : Un fs ex H H h h' :=
  ⟨fun b ob q _ _ _ => k b ob q, fun b ob q _ _ _ => ⟨ob.slots, k b ob q⟩, fun _ _ _ n _ => n, fun b ob q _ => ⟨ob, k b ob q⟩, fun _ _ q => q, fun _ _ _ q => q, fun _ ps q => ⟨#[], by rw [q]; simp⟩⟩
theorem Un.refl : Un fs ex H H h h := Un.kept fun _ _ q => q
theorem Un.laid (k : ∀ b u, h.get? b = some u -> h'.get? b = some u) (hp : h.objs.size <= a) (hn : H a = none) : Un fs ex H (j9 H a o) h h' where
  keep := fun b u q _ _ _ => k b u q
  slot := fun b u q _ _ _ => ⟨u.slots, k b u q⟩
  free := fun b u q n _ => by rw [c9 (Nat.ne_of_lt (Nat.lt_of_lt_of_le (Heap.lt_size q) hp))]; exact n
  there := fun b u q _ => ⟨u, k b u q⟩
  tups := fun b xs q => by rw [c9 (d0 q hn)]; exact q
  frzs := fun b u xs q => by rw [c9 (d0 q hn)]; exact q
  tbls := fun b ps q => ⟨#[], by rw [c9 (d0 q hn), q]; simp⟩
theorem Un.write (mu : Mut (H x)) (he : e = x \/ H e = some (.own x)) (k : ∀ b u, b ≠ e -> h.get? b = some u -> h'.get? b = some u) (heo : ∃ u, h'.get? e = some u) : Un fs ex H (j9 H x o) h h' := by
  have hx : ∀ b, H b = none -> b ≠ x := fun b n z => by subst z; rw [n] at mu; exact mu
  have hb : ∀ b, H b = none -> b ≠ e := fun b n z => by
    subst z
    rcases he with r | r
    . exact hx b n r
    . rw [n] at r; cases r
  have hm : ∀ b u, H b = some u -> ¬ Mut (some u) -> b ≠ x := fun b u q nm z => by subst z; rw [q] at mu; exact nm mu
  refine ⟨fun b u q n _ _ => k b u (hb b n) q, fun b u q n _ _ => ⟨u.slots, k b u (hb b n) q⟩, fun b u q n _ => by rw [c9 (hx b n)]; exact n, fun b u q _ => ?_,
    fun b xs q => by rw [c9 (hm b _ q fun z => z)]; exact q, fun b u xs q => by rw [c9 (hm b _ q fun z => z)]; exact q, fun b ps q => ⟨#[], by rw [c9 (hm b _ q fun z => z), q]; simp⟩⟩
  by_cases hbe : b = e
  . subst hbe; exact heo
  . exact ⟨u, k b u hbe q⟩
end
def trk (h : Heap) (H : Hp) : List Addr := (List.range h.objs.size).filter fun a => (H a).isSome
def a1j (h : Heap) (H : Hp) : Heap := W.hideAll h (trk h H)
theorem a4Y (h : Heap) (H : Hp) : (a1j h H).objs.size = h.objs.size := W.hideAll_size _ _
theorem a6l {h : Heap} {H : Hp} {b : Addr} {o : Obj} (e : h.get? b = some o) (n : H b = none) : (a1j h H).get? b = some o :=
  W.hideAll_get _ e fun hm => by
    have q : (H b).isSome = true := (List.mem_filter.mp hm).2
    rw [n] at q; simp at q
theorem a8D {h : Heap} {H : Hp} {b : Addr} {o : Obj} (e : (a1j h H).get? b = some o) : h.get? b = some o /\ H b = none := by
  have e' : h.get? b = some o := W.of_hideAll (trk h H) e
  refine ⟨e', ?_⟩
  cases q : H b with
  | none => rfl
  | some x =>
    have hm : b ∈ trk h H := List.mem_filter.mpr ⟨List.mem_range.mpr (Heap.lt_size e'), by simp [q]⟩
    have z : (a1j h H).get? b = none := W.hideAll_none (trk h H) hm
    rw [z] at e; cases e
def a8B (g h : Heap) (L : Addr) : List (Addr × Obj) := (List.range h.objs.size).filterMap fun a => if a = L \/ (g.get? a).isSome = true then none else (h.get? a).map fun o => (a, o)
def rest (g h : Heap) (L d : Addr) : List (Addr × Obj) := (a8B g h L).filter fun p => decide (p.1 ≠ d)
end L2
namespace L2
open PySem PySem.Spec PyProof.Rows
structure Mod (K : W.Frag) (mg : Str -> Option Value) (base : Heap) : Prop where
  kin : K.In base
  glob : base.Ns mainGlobals mg
  blt : ∃ mb, base.Ns builtinsNs mb /\ ∀ x : Str, x ≠ "__name__" -> mb x = bootBuiltins x
  nolimit : base.NoLimit
structure Cx where
  prog : Program
  w : World
  K : W.Frag
  mg : Str -> Option Value
  base : Heap
  A : Around
  N : List Str
  s₀ : Shared
  H₀ : Hp
  env : Env
  outer : List Env
  stack : List Env
  ex : List Addr
  fn : Str -> Bool
  calm : Bool
  pn : List (Addr × Obj)
  xe : Value -> Shared -> Prop
def frs (l : List Env) : List Addr := l.filterMap (·.frame)
abbrev Cx.fs (X : Cx) : List Addr := frs X.outer
def Vis (sc : Scope) (x : Str) : Prop := sc.names.lookup x = some .local \/ sc.names.lookup x = some .cell \/ sc.names.lookup x = some .free
def Loc (sc : Scope) (x : Str) : Prop := sc.names.lookup x = some .local \/ sc.names.lookup x = some .cell
def b2l (env : Env) (h : Heap) (m : Str -> Option Value) (x : Str) (u : Value) : Prop :=
  (env.kindOf x = some .local /\ m x = some u) \/ ((env.kindOf x = some .cell \/ env.kindOf x = some .free) /\ ∃ c, env.cells.lookup x = some c /\ h.IsCell c (some u))
structure Cx.Ok (X : Cx) : Prop where
  mod : Mod X.K X.mg X.base
  kind : X.env.scope.kind = .function
  glob : X.env.globals = mainGlobals
  blt : X.env.builtins = builtinsNs
  above : X.s₀.heap.objs.size <= X.env.locals
  inj : ∀ x y c, X.env.cells.lookup x = some c -> X.env.cells.lookup y = some c -> x = y
  has : ∀ x, (X.env.kindOf x = some .cell \/ X.env.kindOf x = some .free) -> ∃ c, X.env.cells.lookup x = some c
  cab : ∀ x c, X.fn x = true -> X.env.cells.lookup x = some c -> X.s₀.heap.objs.size <= c
  hd : X.calm = true -> X.A.handled = none
  frames : X.A.frames = some X.stack
  stk : X.stack = X.outer \/ (X.stack = X.env :: X.outer /\ X.env.frame = some X.env.locals)
  exf : ∀ b ∈ X.ex, b ≠ X.env.locals /\ ∀ x c, X.env.cells.lookup x = some c -> c ≠ b
  bs : ∀ b o, X.base.get? b = some o -> X.s₀.heap.get? b = some o /\ X.H₀ b = none
  bsz : X.base.objs.size <= X.s₀.heap.objs.size
  noex : ∀ b o, X.base.get? b = some o -> b ∉ X.ex
  exfs : ∀ b ∈ X.ex, b ∉ X.fs
  funs : X.s₀.heap.FunFrames X.base X.outer
  frf : ∀ b ∈ X.fs, X.H₀ b = none
structure Inv (X : Cx) (pins : List (Addr × Obj)) (σ : List (Option V)) (H : Hp) (s : Shared) : Prop where
  ok : X.Ok
  os : s.os = X.s₀.os
  bare : AllBare s.gens
  base : Un X.fs X.ex X.H₀ H X.s₀.heap s.heap
  loc : ∃ m, s.heap.Ns X.env.locals m /\ ∀ (i : Nat) (x : Str) (v : V), X.N[i]? = some x -> σ[i]? = some (some v) -> Vis X.env.scope x -> ∃ u, RelV v u /\ b2l X.env s.heap m x u
  cell : ∀ x c, X.env.cells.lookup x = some c -> ∃ v, s.heap.IsCell c v
  free : H X.env.locals = none
  freeC : ∀ x c, X.env.cells.lookup x = some c -> H c = none
  pin : ∀ p ∈ X.pn ++ pins, s.heap.get? p.1 = some p.2 /\ H p.1 = none /\ p.1 ≠ X.env.locals /\ p.1 ∉ X.fs /\ ∀ v, p.2.data ≠ .cell v
  hok : HOk X.prog X.w H s.heap
  len : σ.length = X.N.length
section
variable {X : Cx} {pins : List (Addr × Obj)} {σ : List (Option V)} {H H' : Hp} {s : Shared} {h' : Heap}
theorem Cx.Ok.nofr (ok : X.Ok) {b : Addr} {o : Obj} (e : X.base.get? b = some o) : b ∉ X.fs := fun hb => by
  have := (ok.funs.mem hb).1
  rw [e] at this; cases this
theorem Inv.bs (I : Inv X pins σ H s) : ∀ b o, X.base.get? b = some o -> s.heap.get? b = some o /\ H b = none := fun b o e =>
  ⟨I.base.keep b o (I.ok.bs b o e).1 (I.ok.bs b o e).2 (I.ok.nofr e) (I.ok.noex b o e), I.base.free b o (I.ok.bs b o e).1 (I.ok.bs b o e).2 (I.ok.noex b o e)⟩
theorem Inv.bk (I : Inv X pins σ H s) : ∀ b o, X.base.get? b = some o -> s.heap.get? b = some o := fun b o e => (I.bs b o e).1
theorem Inv.mod (I : Inv X pins σ H s) : Mod X.K X.mg X.base := I.ok.mod
theorem Inv.kIn (I : Inv X pins σ H s) : X.K.In s.heap := I.ok.mod.kin.keeps I.bk
theorem Inv.nolimit (I : Inv X pins σ H s) : s.heap.NoLimit := I.ok.mod.nolimit.keeps I.bk
theorem Inv.fr (I : Inv X pins σ H s) : ∃ m, Fr X.base X.env.locals s.heap m :=
  let ⟨m, hn, _⟩ := I.loc
  ⟨m, hn, I.bk, Nat.le_trans I.ok.bsz I.ok.above⟩
theorem Inv.lt (I : Inv X pins σ H s) : X.env.locals < s.heap.objs.size := let ⟨_, hn, _⟩ := I.loc; hn.lt
theorem Inv.sz (I : Inv X pins σ H s) : X.s₀.heap.objs.size <= s.heap.objs.size := Nat.le_trans I.ok.above (Nat.le_of_lt I.lt)
theorem Inv.nofs (I : Inv X pins σ H s) {a : Addr} (h : s.heap.objs.size <= a) : a ∉ X.fs := fun hb => by
  obtain ⟨_, o, ho, _⟩ := I.ok.funs.mem hb
  exact absurd (Nat.lt_of_lt_of_le (Heap.lt_size ho) (Nat.le_trans I.sz h)) (Nat.lt_irrefl _)
theorem Inv.cne (I : Inv X pins σ H s) : ∀ x c, X.env.cells.lookup x = some c -> c ≠ X.env.locals := fun x c e z => by
  obtain ⟨v, o, ho, hd⟩ := I.cell x c e
  obtain ⟨m, ⟨o', es, ep, ho', hd', _⟩, _⟩ := I.loc
  rw [z, ho'] at ho; cases ho; rw [hd'] at hd; cases hd
theorem Inv.funs (I : Inv X pins σ H s) : s.heap.FunFrames X.base X.outer := by
  have all : ∀ (l : List Env), (∀ b ∈ frs l, b ∈ X.fs) -> X.s₀.heap.FunFrames X.base l -> s.heap.FunFrames X.base l := by
    intro l
    induction l with
    | nil => intro _ _; trivial
    | cons env r ih =>
      intro hs hl
      obtain ⟨hk, ⟨L, o, hf, hn, ho, hd⟩, hr⟩ := hl
      have hL : L ∈ X.fs := hs L (by unfold frs; rw [List.filterMap_cons, hf]; exact List.mem_cons_self)
      obtain ⟨sl, e⟩ := I.base.slot L o ho (I.ok.frf L hL) hL fun z => I.ok.exfs L z hL
      exact ⟨hk, ⟨L, _, hf, hn, e, hd⟩, ih (fun b hb => hs b (by unfold frs; rw [List.filterMap_cons, hf]; exact List.mem_cons_of_mem _ hb)) hr⟩
  exact all X.outer (fun _ hb => hb) I.ok.funs
theorem Inv.stack (I : Inv X pins σ H s) : s.heap.FunFrames X.base X.stack := by
  rcases I.ok.stk with e | ⟨e, hf⟩
  . rw [e]; exact I.funs
  . rw [e]
    obtain ⟨m, hn, _⟩ := I.loc
    refine .cons (by rw [I.ok.kind]; decide) hf hn ?_ I.funs
    exact Heap.get?_none_of_le (Nat.le_trans I.ok.bsz I.ok.above)
theorem Inv.stkSub (I : Inv X pins σ H s) : ∀ b ∈ frs X.stack, b ∈ X.env.locals :: X.fs := fun b hb => by
  rcases I.ok.stk with e | ⟨e, hf⟩
  . rw [e] at hb; exact List.mem_cons_of_mem _ hb
  . rw [e] at hb
    unfold frs at hb
    rw [List.filterMap_cons, hf] at hb
    exact hb
theorem Inv.stkFree (I : Inv X pins σ H s) : ∀ b ∈ frs X.stack, H b = none := fun b hb => by
  rcases List.mem_cons.mp (I.stkSub b hb) with e | hb
  . rw [e]; exact I.free
  . obtain ⟨_, o, ho, _⟩ := I.ok.funs.mem hb
    exact I.base.free b o ho (I.ok.frf b hb) fun z => I.ok.exfs b z hb
theorem Inv.step {g' : Array GenState} {t' : Nat} {d' : Drawn} {ch : List Addr} (I : Inv X pins σ H s)
    (hch : ∀ b ∈ ch, (b ∈ X.ex \/ X.s₀.heap.objs.size <= b) /\ b ≠ X.env.locals /\ (∀ x c, X.env.cells.lookup x = some c -> c ≠ b) /\ ∀ p ∈ X.pn ++ pins, p.1 ≠ b)
    (keep : ∀ b o, b ≠ X.env.locals -> b ∉ X.fs -> b ∉ ch -> s.heap.get? b = some o -> H b = none -> h'.get? b = some o)
    (slot : ∀ b o, b ≠ X.env.locals -> b ∈ X.fs -> b ∉ ch -> s.heap.get? b = some o -> H b = none -> ∃ sl, h'.get? b = some { o with slots := sl }) (free : ∀ b o, b ∉ ch -> s.heap.get? b = some o -> H b = none -> H' b = none)
    (there : ∀ b o, b ∉ ch -> s.heap.get? b = some o -> ∃ o', h'.get? b = some o')
    (tups : ∀ b xs, H b = some (.tup xs) -> H' b = some (.tup xs)) (frzs : ∀ b o u, H b = some (.frz o u) -> H' b = some (.frz o u)) (tbls : ∀ b ps, H b = some (.tbl ps) -> ∃ more, H' b = some (.tbl (ps ++ more)))
    (ns : ∀ m, s.heap.Ns X.env.locals m -> h'.Ns X.env.locals m) (hok : HOk X.prog X.w H' h') (hg : AllBare g') :
    Inv X pins σ H' { s with heap := h', gens := g', drawn := d', toks := t' } := by
  have neL : ∀ b o, X.s₀.heap.get? b = some o -> b ≠ X.env.locals := fun b o e => Nat.ne_of_lt (Nat.lt_of_lt_of_le (Heap.lt_size e) I.ok.above)
  have neC : ∀ b o, X.s₀.heap.get? b = some o -> b ∉ X.ex -> b ∉ ch := fun b o e hx hb => by
    rcases (hch b hb).1 with z | z
    . exact hx z
    . exact absurd (Nat.lt_of_lt_of_le (Heap.lt_size e) z) (Nat.lt_irrefl _)
  have cellK : ∀ x c, X.env.cells.lookup x = some c -> ∀ v, s.heap.IsCell c v -> h'.IsCell c v := fun x c e v ⟨o, ho, hd⟩ => by
    have nch : c ∉ ch := fun z => (hch c z).2.2.1 x c e rfl
    by_cases hc : c ∈ X.fs
    . obtain ⟨sl, q⟩ := slot c o (I.cne x c e) hc nch ho (I.freeC x c e)
      exact ⟨_, q, hd⟩
    . exact ⟨o, keep c o (I.cne x c e) hc nch ho (I.freeC x c e), hd⟩
  refine ⟨I.ok, I.os, hg, ⟨fun b o e n hb hx => ?_, fun b o e n hb hx => ?_, fun b o e n hx => ?_, fun b o e hx => ?_, fun b xs e => tups b xs (I.base.tups b xs e), fun b o xs e => frzs b o xs (I.base.frzs b o xs e), fun b ps e => ?_⟩, ?_, fun x c e => ?_, ?_, fun x c e => ?_, fun p hp => ?_, hok, I.len⟩
  . exact keep b o (neL b o e) hb (neC b o e hx) (I.base.keep b o e n hb hx) (I.base.free b o e n hx)
  . obtain ⟨sl, e1⟩ := I.base.slot b o e n hb hx
    obtain ⟨sl', e2⟩ := slot b _ (neL b o e) hb (neC b o e hx) e1 (I.base.free b o e n hx)
    exact ⟨sl', e2⟩
  . obtain ⟨o', e1⟩ := I.base.there b o e hx
    exact free b o' (neC b o e hx) e1 (I.base.free b o e n hx)
  . obtain ⟨o', e1⟩ := I.base.there b o e hx
    exact there b o' (neC b o e hx) e1
  . obtain ⟨m1, e1⟩ := I.base.tbls b ps e
    obtain ⟨m2, e2⟩ := tbls b _ e1
    exact ⟨m1 ++ m2, by rw [e2, Array.append_assoc]⟩
  . obtain ⟨m, hn, hl⟩ := I.loc
    refine ⟨m, ns m hn, fun i x v e1 e2 e3 => ?_⟩
    obtain ⟨u, r, l⟩ := hl i x v e1 e2 e3
    refine ⟨u, r, ?_⟩
    rcases l with l | ⟨k, c, e, z⟩
    . exact .inl l
    . exact .inr ⟨k, c, e, cellK x c e _ z⟩
  . obtain ⟨v, z⟩ := I.cell x c e
    exact ⟨v, cellK x c e v z⟩
  . obtain ⟨m, ⟨o, _, _, ho, _⟩, _⟩ := I.loc
    exact free _ o (fun z => (hch _ z).2.1 rfl) ho I.free
  . obtain ⟨v, o, ho, hd⟩ := I.cell x c e
    exact free c o (fun z => (hch c z).2.2.1 x c e rfl) ho (I.freeC x c e)
  . obtain ⟨e, n, ne, nf, d⟩ := I.pin p hp
    have nch : p.1 ∉ ch := fun z => (hch p.1 z).2.2.2 p hp rfl
    exact ⟨keep p.1 p.2 ne nf nch e n, free p.1 p.2 nch e n, ne, nf, d⟩
theorem Inv.un {t' : Nat} (I : Inv X pins σ H s) (u : Un X.fs [] H H' s.heap h') (hok : HOk X.prog X.w H' h') : Inv X pins σ H' { s with heap := h', toks := t' } := by
  obtain ⟨m, ⟨o, es, ep, ho, r⟩, _⟩ := id I.loc
  obtain ⟨sl, hL⟩ := u.any ho I.free (by simp)
  exact I.step (g' := s.gens) (d' := s.drawn) (ch := []) (fun _ z => nomatch z) (fun b o _ hb _ e n => u.keep b o e n hb (by simp)) (fun b o _ hb _ e n => u.slot b o e n hb (by simp)) (fun b o _ e n => u.free b o e n (by simp)) (fun b o _ e => u.there b o e (by simp)) u.tups u.frzs u.tbls (fun m' hm => by
    obtain ⟨o', es', ep', ho', r'⟩ := hm
    rw [ho] at ho'; cases ho'
    exact ⟨_, es', ep', hL, r'⟩) hok I.bare
theorem Inv.call {g' : Array GenState} {t' : Nat} {d' : Drawn} {ch : List Addr} (I : Inv X pins σ H s) (u : Un (frs X.stack) ch H H' s.heap h') (hok : HOk X.prog X.w H' h') (hg : AllBare g')
    (hch : ∀ b ∈ ch, (b ∈ X.ex \/ X.s₀.heap.objs.size <= b) /\ b ≠ X.env.locals /\ (∀ x c, X.env.cells.lookup x = some c -> c ≠ b) /\ ∀ p ∈ X.pn ++ pins, p.1 ≠ b) :
    Inv X pins σ H' { s with heap := h', gens := g', drawn := d', toks := t' } := by
  obtain ⟨m, ⟨o, es, ep, ho, r⟩, _⟩ := id I.loc
  obtain ⟨sl, hL⟩ := u.any ho I.free fun z => (hch _ z).2.1 rfl
  exact I.step (ch := ch) hch (fun b o hL hb hc e n => u.keep b o e n (fun z => (List.mem_cons.mp (I.stkSub b z)).elim hL hb) hc) (fun b o _ _ hc e n => u.any e n hc) (fun b o hc e n => u.free b o e n hc) (fun b o hc e => u.there b o e hc) u.tups u.frzs u.tbls (fun m' hm => by
    obtain ⟨o', es', ep', ho', r'⟩ := hm
    rw [ho] at ho'; cases ho'
    exact ⟨_, es', ep', hL, r'⟩) hok hg
theorem Inv.turned {t' : Nat} {it : Addr} (I : Inv X pins σ H s) (k : ∀ b o, b ≠ it -> s.heap.get? b = some o -> h'.get? b = some o) (hn : H it = none) (hL : it ≠ X.env.locals)
    (h1 : it ∈ X.ex \/ X.s₀.heap.objs.size <= it) (h2 : ∀ x c, X.env.cells.lookup x = some c -> c ≠ it) (h3 : ∀ p ∈ X.pn ++ pins, p.1 ≠ it) : Inv X pins σ H { s with heap := h', toks := t' } := by
  have nit : ∀ b u, H b = some u -> b ≠ it := fun b u e z => by rw [z, hn] at e; cases e
  refine I.step (g' := s.gens) (d' := s.drawn) (ch := [it]) (fun b hb => ?_) (fun b o _ _ hc e _ => k b o (fun z => hc (by simp [z])) e) (fun b o _ _ hc e _ => ⟨o.slots, k b o (fun z => hc (by simp [z])) e⟩) (fun _ _ _ _ n => n)
    (fun b o hc e => ⟨o, k b o (fun z => hc (by simp [z])) e⟩) (fun _ _ e => e) (fun _ _ _ e => e) (fun b ps e => ⟨#[], by rw [e]; simp⟩) (fun m hm => ?_) (fun b u e => ?_) I.bare
  . have e : b = it := by simpa using hb
    subst e
    exact ⟨h1, hL, h2, h3⟩
  . obtain ⟨o, es, ep, ho, r⟩ := hm
    exact ⟨o, es, ep, k _ o (Ne.symm hL) ho, r⟩
  . refine (I.hok b u e).stay (fun c v hc q => k c v ?_ q) (fun _ q => q) fun _ _ q => q
    rcases hc with z | z
    . rw [z]; exact nit b u e
    . exact nit c _ z
theorem Inv.tok (I : Inv X pins σ H s) (t : Nat) : Inv X pins σ H { s with toks := t } := I.un (h' := s.heap) (t' := t) Un.refl I.hok
theorem Inv.kept {t' : Nat} (I : Inv X pins σ H s) (k : ∀ b u, s.heap.get? b = some u -> h'.get? b = some u) : Inv X pins σ H { s with heap := h', toks := t' } := I.un (Un.kept k) (I.hok.kept k)
theorem Inv.laid {a : Addr} {o : HO} {t' : Nat} (I : Inv X pins σ H s) (k : ∀ b u, s.heap.get? b = some u -> h'.get? b = some u) (hp : s.heap.objs.size <= a) (new : ObjOk X.prog X.w (j9 H a o) h' a o) :
    Inv X pins σ (j9 H a o) { s with heap := h', toks := t' } := I.un (Un.laid k hp (I.hok.fresh hp)) (I.hok.laid k hp new)
theorem Inv.write {x e : Addr} {o : HO} {t' : Nat} (I : Inv X pins σ H s) (mu : Mut (H x)) (he : e = x \/ H e = some (.own x)) (k : ∀ b u, b ≠ e -> s.heap.get? b = some u -> h'.get? b = some u) (heo : ∃ u, h'.get? e = some u)
    (new : ObjOk X.prog X.w (j9 H x o) h' x o) : Inv X pins σ (j9 H x o) { s with heap := h', toks := t' } := I.un (Un.write mu he k heo) (I.hok.write mu he k heo new)
theorem Inv.weak {σ' : List (Option V)} (I : Inv X pins σ H s) (hl : σ'.length = σ.length) (w : ∀ (i : Nat) v, σ'[i]? = some (some v) -> σ[i]? = some (some v)) : Inv X pins σ' H s :=
  ⟨I.ok, I.os, I.bare, I.base, let ⟨m, hn, hl'⟩ := I.loc; ⟨m, hn, fun i x v e1 e2 e3 => hl' i x v e1 (w i v e2) e3⟩, I.cell, I.free, I.freeC, I.pin, I.hok, hl.trans I.len⟩
theorem Inv.pins_of {pins' : List (Addr × Obj)} (I : Inv X pins σ H s) (h : ∀ p ∈ pins', s.heap.get? p.1 = some p.2 /\ H p.1 = none /\ p.1 ≠ X.env.locals /\ p.1 ∉ X.fs /\ ∀ v, p.2.data ≠ .cell v) : Inv X pins' σ H s :=
  ⟨I.ok, I.os, I.bare, I.base, I.loc, I.cell, I.free, I.freeC, fun p hp => (List.mem_append.mp hp).elim (fun z => I.pin p (List.mem_append_left _ z)) (h p), I.hok, I.len⟩
theorem a1d {N : List Str} (hN : N.Nodup) {i j : Nat} {x : Str} (a : N[i]? = some x) (b : N[j]? = some x) : i = j := by
  obtain ⟨h1, e1⟩ := List.getElem?_eq_some_iff.mp a
  obtain ⟨h2, e2⟩ := List.getElem?_eq_some_iff.mp b
  exact (List.getElem_inj hN).mp (e1.trans e2.symm)
theorem Z2 {M : Model} {A : Around} {E : Value -> Shared -> Prop} {i : Nat} {x : Str} {v : V} {u : Value} {Q : Unit -> Shared -> Prop} (I : Inv X pins σ H s) (hN : X.N.Nodup) (hi : X.N[i]? = some x) (hx : Loc X.env.scope x) (r : RelV v u)
    (h : ∀ s', Inv X pins (σ.set i (some v)) H s' -> (∃ a, Heap.SameBut a s.heap s'.heap /\ (a = X.env.locals \/ X.env.cells.lookup x = some a)) -> Q () s') (hf : X.fn x = true \/ X.env.scope.names.lookup x = some .local := by first | exact .inl rfl | exact .inr rfl | assumption) : wpAny M A (storeName X.env x u) Q E s := by
  obtain ⟨m, hn, hl⟩ := id I.loc
  have hcls : (X.env.scope.kind == .class || (X.env.scope.kind == .module && X.env.locals != X.env.globals)) = false := by rw [I.ok.kind]; rfl
  have hiσ : i < σ.length := by rw [I.len]; exact (List.getElem?_eq_some_iff.mp hi).1
  have cne := I.cne
  have tracked : ∀ {a : Addr} {h' : Heap}, (∃ o, s.heap.get? a = some o /\ H a = none) -> Heap.SameBut a s.heap h' -> HOk X.prog X.w H h' := fun {a h'} ha hs b ob e => by
    obtain ⟨_, _, hfree⟩ := ha
    refine (I.hok b ob e).stay (fun c w' hc q => (hs.2 c ?_).trans q) (fun _ q => q) fun _ _ q => q
    rintro rfl
    rcases hc with rfl | hc
    . rw [hfree] at e; cases e
    . rw [hfree] at hc; cases hc
  rcases hx with hk | hk
  . refine wpAny_storeName_local hk hn (fun h' hn' hs => ?_) hcls
    obtain ⟨oL, _, _, hoL, _⟩ := id hn
    refine h _ ⟨I.ok, I.os, I.bare, ⟨fun b o e n hb hx => ?_, fun b o e n hb hx => ?_, I.base.free, fun b o e hx => ?_, I.base.tups, I.base.frzs, I.base.tbls⟩, ⟨_, hn', fun j y v' e1 e2 e3 => ?_⟩, fun y c e => ?_, I.free, I.freeC, fun p hp => ?_, tracked ⟨oL, hoL, I.free⟩ hs, by simpa using I.len⟩ ⟨_, hs, .inl rfl⟩
    . exact (hs.2 b (Nat.ne_of_lt (Nat.lt_of_lt_of_le (Heap.lt_size e) I.ok.above))).trans (I.base.keep b o e n hb hx)
    . obtain ⟨sl, e1⟩ := I.base.slot b o e n hb hx
      exact ⟨sl, (hs.2 b (Nat.ne_of_lt (Nat.lt_of_lt_of_le (Heap.lt_size e) I.ok.above))).trans e1⟩
    . obtain ⟨o', e1⟩ := I.base.there b o e hx
      exact ⟨o', (hs.2 b (Nat.ne_of_lt (Nat.lt_of_lt_of_le (Heap.lt_size e) I.ok.above))).trans e1⟩
    . by_cases hj : j = i
      . subst hj
        rw [hi] at e1; cases e1
        rw [List.getElem?_set_self hiσ] at e2
        cases e2
        exact ⟨u, r, .inl ⟨hk, by simp⟩⟩
      . rw [List.getElem?_set_ne (Ne.symm hj)] at e2
        obtain ⟨u', r', q⟩ := hl j y v' e1 e2 e3
        refine ⟨u', r', ?_⟩
        rcases q with ⟨k, e⟩ | ⟨k, c, e, z⟩
        . refine .inl ⟨k, ?_⟩
          have : y ≠ x := fun e => hj (a1d hN e1 (e ▸ hi))
          simp [this, e]
        . exact .inr ⟨k, c, e, z.sameBut hs (cne y c e)⟩
    . obtain ⟨w', z⟩ := I.cell y c e
      exact ⟨w', z.sameBut hs (cne y c e)⟩
    . obtain ⟨e, n, ne, nf, d⟩ := I.pin p hp
      exact ⟨(hs.2 p.1 ne).trans e, n, ne, nf, d⟩
  . have hfn : X.fn x = true := by
      rcases hf with z | z
      . exact z
      . rw [z] at hk; cases hk
    obtain ⟨c, hc⟩ := I.ok.has x (.inl hk)
    obtain ⟨w', z⟩ := I.cell x c hc
    refine wpAny_storeName_cell I.ok.kind hk hc z (fun h' hc' hs => ?_)
    obtain ⟨oc, hoc, hocd⟩ := id z
    refine h { s with heap := h' } ⟨I.ok, I.os, I.bare, ⟨fun b o e n hb hx => ?_, fun b o e n hb hx => ?_, I.base.free, fun b o e hx => ?_, I.base.tups, I.base.frzs, I.base.tbls⟩, ⟨m, hn.sameBut hs (Ne.symm (cne x c hc)), fun j y v' e1 e2 e3 => ?_⟩, fun y c' e => ?_, I.free, I.freeC, fun p hp => ?_, tracked ⟨oc, hoc, I.freeC x c hc⟩ hs, by simpa using I.len⟩ ⟨c, hs, .inr hc⟩
    . exact (hs.2 b (Nat.ne_of_lt (Nat.lt_of_lt_of_le (Heap.lt_size e) (I.ok.cab x c hfn hc)))).trans (I.base.keep b o e n hb hx)
    . obtain ⟨sl, e1⟩ := I.base.slot b o e n hb hx
      exact ⟨sl, (hs.2 b (Nat.ne_of_lt (Nat.lt_of_lt_of_le (Heap.lt_size e) (I.ok.cab x c hfn hc)))).trans e1⟩
    . obtain ⟨o', e1⟩ := I.base.there b o e hx
      exact ⟨o', (hs.2 b (Nat.ne_of_lt (Nat.lt_of_lt_of_le (Heap.lt_size e) (I.ok.cab x c hfn hc)))).trans e1⟩
    . by_cases hj : j = i
      . subst hj
        rw [hi] at e1; cases e1
        rw [List.getElem?_set_self hiσ] at e2
        cases e2
        exact ⟨u, r, .inr ⟨.inl hk, c, hc, hc'⟩⟩
      . rw [List.getElem?_set_ne (Ne.symm hj)] at e2
        obtain ⟨u', r', q⟩ := hl j y v' e1 e2 e3
        refine ⟨u', r', ?_⟩
        rcases q with q | ⟨k, c', e, z'⟩
        . exact .inl q
        . refine .inr ⟨k, c', e, z'.sameBut hs ?_⟩
          rintro rfl
          exact hj (a1d hN e1 (I.ok.inj _ _ _ e hc ▸ hi))
    . by_cases hcc : c' = c
      . subst hcc; exact ⟨_, hc'⟩
      . obtain ⟨w2, z2⟩ := I.cell y c' e
        exact ⟨w2, z2.sameBut hs hcc⟩
    . obtain ⟨e, n, ne, nf, d⟩ := I.pin p hp
      refine ⟨(hs.2 p.1 ?_).trans e, n, ne, nf, d⟩
      intro q
      rw [q, hoc] at e
      have q' : oc = p.2 := Option.some.inj e
      exact d w' (by rw [<- q']; exact hocd)
theorem Q7 {M : Model} {A : Around} {E : Value -> Shared -> Prop} {i : Nat} {x : Str} {v : V} {u : Value} {Q : Unit -> Shared -> Prop} (I : Inv X pins σ H s) (hN : X.N.Nodup) (hi : X.N[i]? = some x) (hx : Loc X.env.scope x) (r : RelV v u)
    (h : ∀ s', Inv X pins (σ.set i (some v)) H s' -> Q () s') (hf : X.fn x = true \/ X.env.scope.names.lookup x = some .local := by first | exact .inl rfl | exact .inr rfl | assumption) : wpAny M A (storeName X.env x u) Q E s :=
  Z2 I hN hi hx r (fun s' I' _ => h s' I') hf
theorem Inv.call' {s' : Shared} {ch : List Addr} (I : Inv X pins σ H s) (ho : s'.os = s.os) (u : Un (frs X.stack) ch H H' s.heap s'.heap) (hok : HOk X.prog X.w H' s'.heap) (hg : AllBare s'.gens)
    (hch : ∀ b ∈ ch, (b ∈ X.ex \/ X.s₀.heap.objs.size <= b) /\ b ≠ X.env.locals /\ (∀ x c, X.env.cells.lookup x = some c -> c ≠ b) /\ ∀ p ∈ X.pn ++ pins, p.1 ≠ b) : Inv X pins σ H' s' := by
  obtain ⟨h', g', d', t', o'⟩ := s'
  have e : o' = s.os := ho
  subst e
  exact I.call (g' := g') (t' := t') (d' := d') u hok hg hch
end
abbrev XK := Value -> Option Addr -> Hp -> Prop
abbrev St := List (Option V)
abbrev VK := V -> Hp -> Prop
abbrev TE := St -> Hp -> VK -> Prop
abbrev TT := St -> Hp -> (Bool -> Hp -> Prop) -> Prop
abbrev TA := St -> Hp -> (List V -> Hp -> Prop) -> Prop
structure Ends where
  nx : St -> Hp -> Prop
  rt : VK
  bk : St -> Hp -> Prop := fun _ _ => False
  ct : St -> Hp -> Prop := fun _ _ => False
abbrev TS := Ends -> St -> Hp -> Prop
def EP (X : Cx) (pins : List (Addr × Obj)) (σ : St) (Q : VK) (u : Value) (s' : Shared) : Prop := ∃ v H', Inv X pins σ H' s' /\ RelV v u /\ Q v H'
def TP (X : Cx) (pins : List (Addr × Obj)) (σ : St) (Q : Bool -> Hp -> Prop) (b : Bool) (s' : Shared) : Prop := ∃ H', Inv X pins σ H' s' /\ Q b H'
def AP (X : Cx) (pins : List (Addr × Obj)) (σ : St) (Q : List V -> Hp -> Prop) (us : List Value) (s' : Shared) : Prop := ∃ vs H', Inv X pins σ H' s' /\ Vals vs us /\ Q vs H'
def SP (X : Cx) (pins : List (Addr × Obj)) (D : Ends) (f : Flow) (s' : Shared) : Prop :=
  match f with
  | .next => ∃ σ' H', Inv X pins σ' H' s' /\ D.nx σ' H'
  | .brk => ∃ σ' H', Inv X pins σ' H' s' /\ D.bk σ' H'
  | .cont => ∃ σ' H', Inv X pins σ' H' s' /\ D.ct σ' H'
  | .ret u => ∃ v σ' H', Inv X pins σ' H' s' /\ RelV v u /\ D.rt v H'
def PE (X : Cx) (e : Expr) (t : TE) : Prop :=
  ∀ (pins : List (Addr × Obj)) (s : Shared) (σ : St) (H : Hp) (Q : VK), Inv X pins σ H s -> t σ H Q -> wpAny (model X.prog X.w) X.A (eval e X.env) (EP X pins σ Q) X.xe s
def PT (X : Cx) (e : Expr) (t : TT) : Prop :=
  ∀ (pins : List (Addr × Obj)) (s : Shared) (σ : St) (H : Hp) (Q : Bool -> Hp -> Prop), Inv X pins σ H s -> t σ H Q -> wpAny (model X.prog X.w) X.A (isTrue e X.env (eval e X.env)) (TP X pins σ Q) X.xe s
def PW (X : Cx) (e : Expr) (t : TT) : Prop :=
  ∀ (whole : Sem Value) (pins : List (Addr × Obj)) (s : Shared) (σ : St) (H : Hp) (Q : Bool -> Hp -> Prop), Inv X pins σ H s -> t σ H Q -> wpAny (model X.prog X.w) X.A (isTrue e X.env whole) (TP X pins σ Q) X.xe s
theorem PW.pt {X : Cx} {e : Expr} {t : TT} (h : PW X e t) : PT X e t := h _
def PA (X : Cx) (es : List Expr) (t : TA) : Prop :=
  ∀ (pos : Pos) (pins : List (Addr × Obj)) (s : Shared) (σ : St) (H : Hp) (Q : List V -> Hp -> Prop), Inv X pins σ H s -> t σ H Q -> wpAny (model X.prog X.w) X.A (spliced (backTo pos (starEach es X.env))) (AP X pins σ Q) X.xe s
def PS (X : Cx) (st : Stmt) (t : TS) : Prop :=
  ∀ (pins : List (Addr × Obj)) (s : Shared) (σ : St) (H : Hp) (D : Ends), Inv X pins σ H s -> t D σ H -> wpAny (model X.prog X.w) X.A (exec st X.env) (SP X pins D) X.xe s
def PSs (X : Cx) (st : List Stmt) (t : TS) : Prop :=
  ∀ (pins : List (Addr × Obj)) (s : Shared) (σ : St) (H : Hp) (D : Ends), Inv X pins σ H s -> t D σ H -> wpAny (model X.prog X.w) X.A (execs st X.env) (SP X pins D) X.xe s
theorem t8 {α : Type} {t : Sem α} {Q Q' : α -> Shared -> Prop} {M : Model} {A : Around} {E : Value -> Shared -> Prop} {s : Shared} (h : wpAny M A t Q E s) (hQ : ∀ a s, Q a s -> Q' a s) : wpAny M A t Q' E s := wpAny_mono h hQ fun _ _ x => x
end L2
namespace L2
open PySem PySem.Spec PyProof.Rows
section
variable {X : Cx}
theorem bin {a b : Expr} {ta tb : TE} (ha : PE X a ta) (hb : PE X b tb) {pins : List (Addr × Obj)} {s : Shared} {σ : St} {H : Hp} {R : V -> V -> Hp -> Prop} (I : Inv X pins σ H s) (h : ta σ H fun x H1 => tb σ H1 fun y H2 => R x y H2)
    {α : Type} {Q : α -> Shared -> Prop} {f : Value -> Value -> Sem α}
    (hf : ∀ v u s2 x y H2, Inv X pins σ H2 s2 -> RelV x v -> RelV y u -> R x y H2 -> wpAny (model X.prog X.w) X.A (f v u) Q X.xe s2) :
    wpAny (model X.prog X.w) X.A (eval a X.env) (fun v s₁ => wpAny (model X.prog X.w) X.A (eval b X.env) (fun u s₂ => wpAny (model X.prog X.w) X.A (f v u) Q X.xe s₂) X.xe s₁) X.xe s := by
  refine t8 (ha pins s σ H _ I h) fun v s1 ⟨x, H1, I1, r1, q1⟩ => ?_
  refine t8 (hb pins s1 σ H1 _ I1 q1) fun u s2 ⟨y, H2, I2, r2, q2⟩ => ?_
  exact hf v u s2 x y H2 I2 r1 r2 q2
def a3E (i : Nat) : TE := fun σ H Q => ∃ v, σ[i]? = some (some v) /\ Q v H
def tC (v : V) : TE := fun _ H Q => Q v H
theorem a9t {i : Nat} {x : Str} {pos : Pos} (hN : X.N[i]? = some x) (hv : Vis X.env.scope x) (hd : (x == ("__debug__" : Str)) = false := by decide) (hcd : (x == ("__classdict__" : Str)) = false := by decide) : PE X (.Name x pos) (a3E i) := by
  intro pins s σ H Q I h
  obtain ⟨v, e, h⟩ := h
  obtain ⟨m, hn, hl⟩ := I.loc
  obtain ⟨u, r, l⟩ := hl i x v hN e hv
  have fin : EP X pins σ Q u s := ⟨v, H, I, r, h⟩
  rcases l with ⟨hk, hm⟩ | ⟨hk, c, hc, hcell⟩
  . exact wpAny_Name (wpAny_loadName_local I.ok.kind hk hn hm fin) hd
  . rcases hk with hk | hk
    . exact wpAny_Name (wpAny_loadName_cell I.ok.kind hk hc hcell fin) hd
    . exact wpAny_Name (wpAny_loadName_free I.ok.kind hk hc hcell fin hcd) hd
theorem e8 {i j pos} : PE X (.Constant (.int i) j pos) (tC (.int i)) := fun _ _ _ H _ I h => wpAny_Constant_int ⟨.int i, H, I.tok _, ⟨_, rfl⟩, h⟩
theorem a3S {b j pos} : PE X (.Constant (.bool b) j pos) (tC (.bl b)) := fun _ _ _ H _ I h => Constant_bool ⟨.bl b, H, I, rfl, h⟩
theorem J6 {j pos} : PE X (.Constant .none j pos) (tC .non) := fun _ _ _ H _ I h => Constant_none ⟨.non, H, I, rfl, h⟩
theorem B7 {x j pos} : PE X (.Constant (.str x) j pos) (tC (.str x)) := fun _ _ _ H _ I h => Calls.Constant_str ⟨.str x, H, I.tok _, ⟨_, rfl⟩, h⟩
def Gl (X : Cx) (x : Str) : Prop := X.env.kindOf x = some .globalImplicit
theorem R7 {E : Value -> Shared -> Prop} {pins : List (Addr × Obj)} {s : Shared} {σ : St} {H : Hp} {x : Str} {u : Value} {pos : Pos} {Q : Value -> Shared -> Prop} (I : Inv X pins σ H s) (hg : Gl X x) (hm : X.mg x = some u) (h : Q u s)
    (hd : (x == ("__debug__" : Str)) = false := by decide) : wpAny (model X.prog X.w) X.A (eval (.Name x pos) X.env) Q E s :=
  Calls.Name_function_global I.ok.kind hg (Calls.loadGlobal_global (by rw [I.ok.glob]; exact I.mod.glob.keeps I.bk) hm h) hd
theorem O3 {E : Value -> Shared -> Prop} {pins : List (Addr × Obj)} {s : Shared} {σ : St} {H : Hp} {x : Str} {u : Value} {pos : Pos} {Q : Value -> Shared -> Prop} (I : Inv X pins σ H s) (hg : Gl X x) (hm : X.mg x = none) (hv : bootBuiltins x = some u) (h : Q u s)
    (hn : x ≠ "__name__" := by decide) (hd : (x == ("__debug__" : Str)) = false := by decide) : wpAny (model X.prog X.w) X.A (eval (.Name x pos) X.env) Q E s := by
  obtain ⟨mb, h1, h2⟩ := I.mod.blt
  exact Calls.Name_function_global I.ok.kind hg (Calls.loadGlobal_builtin (by rw [I.ok.glob]; exact I.mod.glob.keeps I.bk) hm (by rw [I.ok.blt]; exact h1.keeps I.bk) ((h2 x hn).trans hv) h) hd
theorem C5 {x : Str} {v : V} {u : Value} {pos : Pos} (hg : Gl X x) (hm : X.mg x = some u) (r : RelV v u) (hd : (x == ("__debug__" : Str)) = false := by decide) : PE X (.Name x pos) (tC v) :=
  fun _ _ _ H _ I h => R7 I hg hm ⟨v, H, I, r, h⟩ hd
theorem W8 {x : Str} {v : V} {u : Value} {pos : Pos} (hg : Gl X x) (hm : X.mg x = none) (hv : bootBuiltins x = some u) (r : RelV v u) (hn : x ≠ "__name__" := by decide) (hd : (x == ("__debug__" : Str)) = false := by decide) : PE X (.Name x pos) (tC v) :=
  fun _ _ _ H _ I h => O3 I hg hm hv ⟨v, H, I, r, h⟩ hn hd
variable {a b : Expr} {ta tb : TE} {pos : Pos}
def tB (t : TE) : TT := fun σ H Q => t σ H fun x H1 => ∃ c, x = .bl c /\ Q c H1
theorem X8 {e : Expr} {t : TE} (h : PE X e t) (he : ∀ whole, isTrue e X.env whole = (do let v <- whole; standAt e.pos; holding [v] (truthy v)) := by intro _; rfl) : PT X e (tB t) := by
  intro pins s σ H Q I hw
  refine isTrue_plain (t8 (h pins s σ H _ I hw) fun v s1 ⟨x, H1, I1, r1, q1⟩ => ?_) (he _)
  obtain ⟨d, rfl, q⟩ := q1
  cases r1
  exact wpAny_truthy_bool ⟨H1, I1, q⟩
variable {tA tB' : TT} {rest : List Expr}
def b2g (t u : TT) : TT := fun σ H Q => t σ H fun c H1 => if c = true then u σ H1 Q else Q false H1
def tOr (t u : TT) : TT := fun σ H Q => t σ H fun c H1 => if c = true then Q true H1 else u σ H1 Q
def b1P (t : TT) : TT := fun σ H Q => t σ H fun c H1 => Q (!c) H1
theorem O7 (ha : PT X a tA) : PW X (.BoolOp .And [a] pos) tA := by
  intro wh pins s σ H Q I h
  refine isTrue_and (t8 (ha pins s σ H Q I h) fun c s1 e => ?_)
  cases c with
  | true => exact isTrue_and_nil e
  | false => exact e
theorem a0Y (ha : PT X a tA) : PW X (.BoolOp .Or [a] pos) tA := by
  intro wh pins s σ H Q I h
  refine isTrue_or (t8 (ha pins s σ H Q I h) fun c s1 e => ?_)
  cases c with
  | false => exact isTrue_or_nil e
  | true => exact e
theorem T8 (ha : PT X a tA) (hb : PW X (.BoolOp .And (b :: rest) pos) tB') : PW X (.BoolOp .And (a :: b :: rest) pos) (b2g tA tB') := by
  intro wh pins s σ H Q I h
  refine isTrue_and (t8 (ha pins s σ H _ I h) fun c s1 ⟨H1, I1, q1⟩ => ?_)
  cases c with
  | true => exact hb wh pins s1 σ H1 Q I1 q1
  | false => exact ⟨H1, I1, q1⟩
theorem a2t (ha : PT X a tA) (hb : PW X (.BoolOp .Or (b :: rest) pos) tB') : PW X (.BoolOp .Or (a :: b :: rest) pos) (tOr tA tB') := by
  intro wh pins s σ H Q I h
  refine isTrue_or (t8 (ha pins s σ H _ I h) fun c s1 ⟨H1, I1, q1⟩ => ?_)
  cases c with
  | true => exact ⟨H1, I1, q1⟩
  | false => exact hb wh pins s1 σ H1 Q I1 q1
theorem Y3 (ha : PT X a tA) : PT X (.UnaryOp .Not a pos) (b1P tA) := by
  intro pins s σ H Q I h
  exact isTrue_not (ha pins s σ H (fun c H1 => Q (!c) H1) I h)
def b1j (ta tb : TE) : TE := fun σ H Q => ta σ H fun x H1 => ∃ c, x = .bl c /\ if c = true then tb σ H1 Q else Q (.bl false) H1
def b1s (ta : TE) : TE := fun σ H Q => ta σ H fun x H1 => ∃ c, x = .bl c /\ Q (.bl (!c)) H1
theorem a6V {op} {t : TE} (h : PE X a t) : PE X (.BoolOp op [a] pos) t := fun pins s σ H Q I hw => BoolOp_one (h pins s σ H Q I hw)
theorem a6b (ha : PE X a ta) (hb : PE X (.BoolOp .And (b :: rest) pos) tb) : PE X (.BoolOp .And (a :: b :: rest) pos) (b1j ta tb) := by
  intro pins s σ H Q I h
  refine BoolOp_and (t8 (ha pins s σ H _ I h) fun v s1 ⟨x, H1, I1, r1, q1⟩ => ?_)
  obtain ⟨c, rfl, q1⟩ := q1
  cases r1
  refine wpAny_truthy_bool ?_
  cases c with
  | true => exact hb pins s1 σ H1 Q I1 q1
  | false => exact ⟨.bl false, H1, I1, rfl, q1⟩
theorem a9N (ha : PE X a ta) : PE X (.UnaryOp .Not a pos) (b1s ta) := by
  intro pins s σ H Q I h
  refine UnaryOp_ (t8 (ha pins s σ H _ I h) fun v s1 ⟨x, H1, I1, r1, q1⟩ => ?_)
  obtain ⟨c, rfl, q1⟩ := q1
  cases r1
  exact not_of (wpAny_truthy_bool ⟨.bl (!c), H1, I1, rfl, q1⟩)
end
end L2
namespace L2
open PySem PySem.Spec PyProof.Rows
def SqL (K : W.Frag) (H : Hp) (a : Addr) (xs : List V) : Prop :=
  Rd H a (.lst xs) ∨
    ∃ (o : Obj) (its : Array Value) (n : Nat), K.lookup a = some o /\ o.cls = .type "list" /\ o.dict = none /\ o.data = .seq its n /\ its.size <= sizeLine /\ Vals xs its.toList
def SqT (K : W.Frag) (H : Hp) (a : Addr) (xs : List V) : Prop :=
  Rd H a (.tup xs) ∨
    ∃ (o : Obj) (its : Array Value) (n : Nat), K.lookup a = some o /\ o.cls = .type "tuple" /\ o.data = .seq its n /\ its.size <= sizeLine /\ Vals xs its.toList
def b2e : Value -> Option V
  | .none => some .non
  | .bool b => some (.bl b)
  | .int i _ => some (.int i)
  | .str x _ => some (.str x)
  | .bytes b _ => some (.byt b)
  | .float b _ => some (.flt b)
  | .ref a => some (.ref a)
  | .type n => some (.ty n)
  | _ => none
theorem RelV.abs {x : V} {u : Value} (r : RelV x u) : b2e u = some x := by
  cases x with
  | non => cases r; rfl
  | bl _ => cases r; rfl
  | int _ => obtain ⟨t, rfl⟩ := r; rfl
  | str _ => obtain ⟨t, rfl⟩ := r; rfl
  | byt _ => obtain ⟨t, rfl⟩ := r; rfl
  | flt _ => obtain ⟨t, rfl⟩ := r; rfl
  | ref _ => cases r; rfl
  | ty _ => cases r; rfl
theorem RelV.inj {x y : V} {u : Value} (r : RelV x u) (q : RelV y u) : x = y := Option.some.inj (r.abs.symm.trans q.abs)
theorem Vals.inj : ∀ {xs ys : List V} {us : List Value}, Vals xs us -> Vals ys us -> xs = ys
  | _, _, _, .nil, .nil => rfl
  | _, _, _, .cons r t, .cons r' t' => by rw [r.inj r', Vals.inj t t']
section
variable {X : Cx} {pins : List (Addr × Obj)} {σ : St} {H : Hp} {s : Shared} {a : Addr} {xs ys : List V}
theorem SqL.of {K : W.Frag} (h : H a = some (.lst xs)) : SqL K H a xs := .inl (.inl h)
theorem SqT.of {K : W.Frag} (h : H a = some (.tup xs)) : SqT K H a xs := .inl (.inl h)
theorem Inv.list (I : Inv X pins σ H s) (h : SqL X.K H a xs) : ∃ its : List Value, Vals xs its /\ PlainL s.heap a its.toArray /\ xs.length <= sizeLine := by
  rcases h with h | ⟨o, its, n, hk, hc, hd, hs, hz, r⟩
  . obtain ⟨z, its, n, r, e⟩ := h.ok I.hok
    exact ⟨its, r, ⟨_, n, e, rfl, rfl, rfl⟩, z⟩
  . refine ⟨its.toList, r, ⟨o, n, I.kIn a o hk, hc, hd, by simpa using hs⟩, ?_⟩
    have e := r.length
    simp only [Array.length_toList] at e
    omega
theorem Inv.tuple (I : Inv X pins σ H s) (h : SqT X.K H a xs) : ∃ its : List Value, Vals xs its /\ IsTup s.heap a its.toArray /\ xs.length <= sizeLine := by
  rcases h with h | ⟨o, its, n, hk, hc, hs, hz, r⟩
  . obtain ⟨z, its, r, p⟩ := h.ok I.hok
    exact ⟨its, r, p, z⟩
  . refine ⟨its.toList, r, ⟨o, I.kIn a o hk, hc, n, by simpa using hs⟩, ?_⟩
    have e := r.length
    simp only [Array.length_toList] at e
    omega
theorem Inv.list_inj (I : Inv X pins σ H s) (h : SqL X.K H a xs) (h' : SqL X.K H a ys) : xs = ys := by
  obtain ⟨its, r, ⟨o, n, e, _, _, d⟩, _⟩ := I.list h
  obtain ⟨its', r', ⟨o', n', e', _, _, d'⟩, _⟩ := I.list h'
  rw [e] at e'; cases e'
  rw [d] at d'
  injection d' with d1 _
  have : its = its' := by simpa using congrArg Array.toList d1
  subst this
  exact r.inj r'
theorem Inv.tuple_inj (I : Inv X pins σ H s) (h : SqT X.K H a xs) (h' : SqT X.K H a ys) : xs = ys := by
  obtain ⟨its, r, ⟨o, e, _, n, d⟩, _⟩ := I.tuple h
  obtain ⟨its', r', ⟨o', e', _, n', d'⟩, _⟩ := I.tuple h'
  rw [e] at e'; cases e'
  rw [d] at d'
  injection d' with d1 _
  have : its = its' := by simpa using congrArg Array.toList d1
  subst this
  exact r.inj r'
end
abbrev Cx.wish (X : Cx) (E : Value -> Shared -> Prop) : Cx := { X with xe := E }
abbrev Cx.nox (X : Cx) : Cx := X.wish fun _ _ => False
theorem Cx.Ok.wish {X : Cx} (ok : X.Ok) (E : Value -> Shared -> Prop) : (X.wish E).Ok :=
  ⟨ok.mod, ok.kind, ok.glob, ok.blt, ok.above, ok.inj, ok.has, ok.cab, ok.hd, ok.frames, ok.stk, ok.exf, ok.bs, ok.bsz, ok.noex, ok.exfs, ok.funs, ok.frf⟩
theorem Cx.Ok.unwish {X : Cx} {E : Value -> Shared -> Prop} (ok : (X.wish E).Ok) : X.Ok :=
  ⟨ok.mod, ok.kind, ok.glob, ok.blt, ok.above, ok.inj, ok.has, ok.cab, ok.hd, ok.frames, ok.stk, ok.exf, ok.bs, ok.bsz, ok.noex, ok.exfs, ok.funs, ok.frf⟩
section
variable {X : Cx} {pins : List (Addr × Obj)} {σ : St} {H : Hp} {s : Shared} {E : Value -> Shared -> Prop}
theorem Inv.wish (I : Inv X pins σ H s) (E : Value -> Shared -> Prop) : Inv (X.wish E) pins σ H s := ⟨I.ok.wish E, I.os, I.bare, I.base, I.loc, I.cell, I.free, I.freeC, I.pin, I.hok, I.len⟩
theorem Inv.unwish (I : Inv (X.wish E) pins σ H s) : Inv X pins σ H s := ⟨I.ok.unwish, I.os, I.bare, I.base, I.loc, I.cell, I.free, I.freeC, I.pin, I.hok, I.len⟩
theorem SP.unwish {D : Ends} {f : Flow} {s' : Shared} (h : SP (X.wish E) pins D f s') : SP X pins D f s' := by
  cases f with
  | next => obtain ⟨σ', H', I, q⟩ := h; exact ⟨σ', H', I.unwish, q⟩
  | brk => obtain ⟨σ', H', I, q⟩ := h; exact ⟨σ', H', I.unwish, q⟩
  | cont => obtain ⟨σ', H', I, q⟩ := h; exact ⟨σ', H', I.unwish, q⟩
  | ret u => obtain ⟨v, σ', H', I, r, q⟩ := h; exact ⟨v, σ', H', I.unwish, r, q⟩
theorem PSs.nox {st : List Stmt} {t : TS} (h : PSs X.nox st t) : PSs X st t := fun pins s σ H D I hw =>
  wpAny_mono (h pins s σ H D (I.wish _) hw) (fun _ _ q => q.unwish) fun _ _ z => False.elim z
end
section
variable {X : Cx} {st : Stmt} {rest : List Stmt} {t u : TS} {e : Expr} {te : TE} {pos : Pos}
def b1o : TS := fun D σ H => D.nx σ H
def b2s (t u : TS) : TS := fun D σ H => t { D with nx := u D } σ H
theorem o4 : PSs X [] b1o := fun _ _ σ H _ I h => wpAny_execs_nil ⟨σ, H, I, h⟩
theorem d8 (h1 : PS X st t) (h2 : PSs X rest u) : PSs X (st :: rest) (b2s t u) := by
  intro pins s σ H D I h
  refine wpAny_execs_cons (t8 (h1 pins s σ H { D with nx := u D } I h) fun f s1 q => ?_)
  cases f with
  | next =>
    obtain ⟨σ', H', I', q⟩ := q
    exact h2 pins s1 σ' H' D I' q
  | ret v => exact q
  | brk => exact q
  | cont => exact q
theorem g0 (h1 : PS X st t) : PSs X [st] t := by
  intro pins s σ H D I h
  refine wpAny_execs_cons (t8 (h1 pins s σ H D I h) fun f s1 q => ?_)
  cases f with
  | next => exact wpAny_execs_nil q
  | ret v => exact q
  | brk => exact q
  | cont => exact q
theorem Inv.quiet {pins : List (Addr × Obj)} {σ : St} {H : Hp} {s : Shared} (I : Inv X pins σ H s) : interactive X.env = false := by simp [interactive, I.ok.kind]
def b0s (te : TE) : TS := fun D σ H => te σ H fun _ H1 => D.nx σ H1
theorem u0 (he : PE X e te) (hs : swapsWith e none pos.line X.env = pure false := by rfl) : PS X (.Expr e pos) (b0s te) := by
  intro pins s σ H D I h
  exact wpAny_Expr_any (t8 (he pins s σ H _ I h) fun v s1 ⟨x, H1, I1, r1, q1⟩ => ⟨σ, H1, I1, q1⟩) I.quiet hs
def b1O (te : TE) : TS := fun D σ H => te σ H D.rt
theorem m6 (he : PE X e te) : PS X (.Return (some e) pos) (b1O te) := by
  intro pins s σ H D I h
  exact wpAny_Return_some (t8 (he pins s σ H _ I h) fun v s1 ⟨x, H1, I1, r1, q1⟩ => ⟨x, σ, H1, I1, r1, q1⟩)
def b2x (c : TT) (t u : TS) : TS := fun D σ H => c σ H fun b H1 => if b = true then t D σ H1 else u D σ H1
theorem v6 {c : Expr} {a b : List Stmt} {tc : TT} (hc : PT X c tc) (ha : PSs X a t) (hb : PSs X b u) : PS X (.If c a b pos) (b2x tc t u) := by
  intro pins s σ H D I h
  refine wpAny_If (t8 (hc pins s σ H _ I h) fun d s1 ⟨H1, I1, q1⟩ => ?_)
  cases d with
  | true => exact ha pins s1 σ H1 D I1 q1
  | false => exact hb pins s1 σ H1 D I1 q1
def a9u : TS := fun _ _ _ => False
theorem a1n {sts : List Stmt} : PSs X sts a9u := fun _ _ _ _ _ _ h => h.elim
end
abbrev TG := V -> St -> Hp -> (St -> Hp -> Prop) -> Prop
abbrev TGs := List V -> St -> Hp -> (St -> Hp -> Prop) -> Prop
def PG (X : Cx) (target : Expr) (t : TG) : Prop :=
  ∀ (pins : List (Addr × Obj)) (s : Shared) (σ : St) (H : Hp) (v : V) (u : Value) (Q : St -> Hp -> Prop), Inv X pins σ H s -> RelV v u -> t v σ H Q →
    wpAny (model X.prog X.w) X.A (assign target X.env u) (fun _ s' => ∃ σ' H', Inv X pins σ' H' s' /\ Q σ' H') X.xe s
def PGs (X : Cx) (ts : List Expr) (t : TGs) : Prop :=
  ∀ (pins : List (Addr × Obj)) (s : Shared) (σ : St) (H : Hp) (vs : List V) (us : List Value) (Q : St -> Hp -> Prop), Inv X pins σ H s -> Vals vs us -> t vs σ H Q →
    wpAny (model X.prog X.w) X.A (assignInOrder ((assignEach ts X.env).map (·.2)) us) (fun _ s' => ∃ σ' H', Inv X pins σ' H' s' /\ Q σ' H') X.xe s
abbrev b0f := V -> V -> V -> Hp -> (Hp -> Prop) -> Prop
def b0K (X : Cx) (t : b0f) : Prop :=
  ∀ (pins : List (Addr × Obj)) (s : Shared) (σ : St) (H : Hp) (o i v : V) (ov iv u : Value) (Q : Hp -> Prop), Inv X pins σ H s -> RelV o ov -> RelV i iv -> RelV v u -> t o i v H Q →
    wpAny (model X.prog X.w) X.A (setItem ov iv u) (fun _ s' => ∃ H', Inv X pins σ H' s' /\ Q H') X.xe s
section
variable {X : Cx} {pos : Pos}
def J3 (i : Nat) : TG := fun v σ H Q => Q (σ.set i (some v)) H
theorem m5 {i : Nat} {x : Str} (hN : X.N.Nodup) (hi : X.N[i]? = some x) (hx : Loc X.env.scope x) (hf : X.fn x = true \/ X.env.scope.names.lookup x = some .local := by first | exact .inl rfl | exact .inr rfl | assumption) : PG X (.Name x pos) (J3 i) := by
  intro pins s σ H v u Q I r h
  exact wpAny_assign_Name (Q7 I hN hi hx r (fun s' I' => ⟨_, H, I', h⟩) hf)
def a4R : TGs := fun vs σ H Q => vs = [] /\ Q σ H
def Q6 (t : TG) (u : TGs) : TGs := fun vs σ H Q => ∃ v r, vs = v :: r /\ t v σ H fun σ' H' => u r σ' H' Q
theorem A9 : PGs X [] a4R := by
  intro pins s σ H vs us Q I r h
  obtain ⟨e, h⟩ := h
  subst e
  cases r
  exact assignInOrder_nil ⟨σ, H, I, h⟩
theorem m7 {e : Expr} {es : List Expr} {t : TG} {u : TGs} (h1 : PG X e t) (h2 : PGs X es u)
    (hs : (assignEach (e :: es) X.env).map (·.2) = assign e X.env :: (assignEach es X.env).map (·.2) := by rfl) : PGs X (e :: es) (Q6 t u) := by
  intro pins s σ H vs us Q I r h
  obtain ⟨v, vr, e1, h⟩ := h
  subst e1
  cases r with
  | cons r rr =>
    rw [hs]
    refine assignInOrder_cons (t8 (h1 pins s σ H _ _ _ I r h) fun _ s1 ⟨σ1, H1, I1, q1⟩ => ?_)
    exact h2 pins s1 σ1 H1 _ _ Q I1 rr q1
def a3I (K : W.Frag) (n : Nat) (t : TGs) : TG := fun v σ H Q => ∃ a xs, v = .ref a /\ SqT K H a xs /\ xs.length = n /\ t xs σ H Q
theorem X7 {es : List Expr} {k : Nat} {t : TGs} {n : Nat} (hc : X.calm = true) (h : PGs X es t)
    (hn : (assignEach es X.env).length = n := by rfl) (hst : (assignEach es X.env).findIdx? (·.1) = none := by rfl) : PG X (.Tuple es k pos) (a3I X.K n t) := by
  intro pins s σ H v u Q I r hw
  obtain ⟨a, xs, e1, hq, hl, hw⟩ := hw
  subst e1
  cases r
  obtain ⟨its, rv, ht, hz⟩ := I.tuple hq
  refine assign_Tuple_tuple (I.ok.hd hc) ht (by simp [hn, <- hl, rv.length]) hst fun h' hx => ?_
  have I1 : Inv X pins σ H { s with heap := h' } := I.kept (t' := s.toks) fun b o e => hx b o (Nat.ne_of_lt (Heap.lt_size e)) e
  exact h pins _ σ H xs _ Q I1 (by simpa using rv) hw
def b2z (to ti : TE) (t : b0f) : TG := fun v σ H Q => to σ H fun o H1 => ti σ H1 fun i H2 => t o i v H2 fun H3 => Q σ H3
theorem X6 {o i : Expr} {to ti : TE} {t : b0f} (ho : PE X o to) (hi : PE X i ti) (hs : b0K X t)
    (ha : ∀ v, assign (.Subscript o i pos) X.env v = (do
      let ov <- holding [v] (eval o X.env)
      let iv <- holding [v, ov] (eval i X.env)
      standAt pos
      holding [v, ov, iv] (setItem ov iv v)
      release [v, ov, iv] []) := by intro _; rfl) : PG X (.Subscript o i pos) (b2z to ti t) := by
  intro pins s σ H v u Q I r h
  rw [ha]
  refine wpAny_bind (wpAny_holding (t8 (ho pins s σ H _ I h) fun ov s1 ⟨x, H1, I1, r1, q1⟩ => ?_))
  refine wpAny_bind (wpAny_holding (t8 (hi pins s1 σ H1 _ I1 q1) fun iv s2 ⟨y, H2, I2, r2, q2⟩ => ?_))
  refine wpAny_bind (wpAny_standAt (wpAny_bind (wpAny_holding (t8 (hs pins s2 σ H2 x y v ov iv u _ I2 r1 r2 r q2) fun _ s3 ⟨H3, I3, q3⟩ => ?_))))
  exact wpAny_release ⟨σ, H3, I3, q3⟩
def a4L (te : TE) (g : TG) : TS := fun D σ H => te σ H fun x H1 => g x σ H1 D.nx
theorem M6 {tg e : Expr} {te : TE} {g : TG} (he : PE X e te) (hg : PG X tg g) (hs : swapsWithSole [tg] e pos.line X.env = pure false := by rfl) (hw : swappedStores [tg] e X.env = pure none := by rfl)
    (h1 : (assignEach [tg] X.env).map (·.2) = [assign tg X.env] := by rfl) : PS X (.Assign [tg] e pos) (a4L te g) := by
  intro pins s σ H D I h
  refine wpAny_Assign_stores (t8 (he pins s σ H _ I h) fun v s1 ⟨x, H1, I1, r1, q1⟩ => ?_) hs hw
  rw [h1]
  exact t8 (hg pins s1 σ H1 x v _ I1 r1 q1) fun _ s2 q => q
theorem l0 {i : Nat} {x : Str} {e : Expr} {te : TE} {pos' : Pos} (hN : X.N.Nodup) (hi : X.N[i]? = some x) (hx : Loc X.env.scope x) (he : PE X e te) (hs : swapsWith e (some (.Name x pos')) pos.line X.env = pure false := by rfl) (hf : X.fn x = true \/ X.env.scope.names.lookup x = some .local := by first | exact .inl rfl | exact .inr rfl | assumption) :
    PS X (.Assign [.Name x pos'] e pos) (a4L te (J3 i)) := by
  intro pins s σ H D I h
  refine wpAny_Assign_Name (t8 (he pins s σ H _ I h) fun v s1 ⟨y, H1, I1, r1, q1⟩ => ?_) hs
  exact Q7 I1 hN hi hx r1 (fun s2 I2 => ⟨_, H1, I2, q1⟩) hf
def b2h (i j : Nat) (ta : TA) : TS := fun D σ H => ta σ H fun vs H1 => ∃ v w, vs = [v, w] /\ D.nx ((σ.set i (some v)).set j (some w)) H1
theorem a9g {i j : Nat} {x y : Str} {a b : Expr} {ta : TA} {px py pt : Pos} {kt k2 pt2} (hc : X.calm = true) (hN : X.N.Nodup) (hi : X.N[i]? = some x) (hj : X.N[j]? = some y) (hij : i ≠ j)
    (hx : X.env.scope.names.lookup x = some .local) (hy : X.env.scope.names.lookup y = some .local) (ha : PA X [a, b] ta)
    (hw : swappedStores [.Tuple [.Name x px, .Name y py] kt pt] (.Tuple [a, b] k2 pt2) X.env = pure (some [x, y]))
    (hs : swapsWithSole [.Tuple [.Name x px, .Name y py] kt pt] (.Tuple [a, b] k2 pt2) pos.line X.env = pure false := by rfl) :
    PS X (.Assign [.Tuple [.Name x px, .Name y py] kt pt] (.Tuple [a, b] k2 pt2) pos) (b2h i j ta) := by
  intro pins s σ H D I h
  rw [exec_Assign_arm]
  refine wpAny_bind (wpAny_standAt ?_)
  rw [hs]
  refine wpAny_bind (wpAny_pure ?_)
  rw [if_neg (by decide)]
  refine wpAny_bind (Tuple_ (t8 (ha _ pins s σ H _ I h) fun us s1 ⟨vs, H1, I1, r1, q1⟩ => ?_))
  obtain ⟨v, w, e1, q1⟩ := q1
  subst e1
  obtain ⟨u1, u2, rfl, rv, rw'⟩ : ∃ u1 u2, us = [u1, u2] /\ RelV v u1 /\ RelV w u2 := by
    cases r1 with
    | cons p q =>
      cases q with
      | cons p' q' =>
        cases q'
        exact ⟨_, _, rfl, p, p'⟩
  refine wpAny_newObj_type ?_ (by show 2 <= sizeLine; decide)
  have I2 : Inv X pins σ H1 { s1 with heap := s1.heap.push { cls := .type "tuple", data := .seq [u1, u2].toArray } } := I1.kept (t' := s1.toks) fun b o e => Heap.get?_push_of_some _ e
  rw [hw]
  refine wpAny_bind (wpAny_pure ?_)
  show wpAny (model X.prog X.w) X.A (do rule "assign.swapped-stores"; let items <- unpackItems (.ref s1.heap.objs.size) 2 none; assignInOrder [fun v => bindName X.env y v, fun v => bindName X.env x v] items.reverse; pure Flow.next) _ _ _
  refine wpAny_bind (wpAny_rule (wpAny_bind (unpackItems_tuple (items := #[u1, u2]) (I.ok.hd hc) (IsTup.new s1.heap _) fun h' hx' => ?_)))
  have I3 := I2.kept (h' := h') (t' := s1.toks) fun b o e => hx' b o (Nat.ne_of_lt (Heap.lt_size e)) e
  show wpAny _ _ (assignInOrder [fun v => bindName X.env y v, fun v => bindName X.env x v] [u2, u1] >>= fun _ => pure Flow.next) _ _ _
  refine wpAny_bind (assignInOrder_cons (wpAny_bindName (Q7 I3 hN hj (.inl hy) rw' (fun s2 I4 => ?_) (.inr hy))))
  refine assignInOrder_cons (wpAny_bindName (Q7 I4 hN hi (.inl hx) rv (fun s3 I5 => assignInOrder_nil (wpAny_pure ?_)) (.inr hx)))
  rw [List.set_comm _ _ (Ne.symm hij)] at I5
  exact ⟨_, H1, I5, q1⟩
end
section
variable {X : Cx} {pos : Pos}
def a6Z (c : TT) (tb : TS) : TS := fun D σ H => ∃ W : Nat -> St -> Hp -> Prop, (∃ m, W m σ H) /\ ∀ m σ H, W m σ H →
  c σ H fun b H1 => if b = true then ∃ N : St -> Hp -> Prop, (∀ σ' H', N σ' H' -> ∃ m', m' < m /\ W m' σ' H') /\ tb { D with nx := N, ct := N, bk := D.nx } σ H1 else D.nx σ H1
theorem a0u {c : Expr} {body : List Stmt} {tc : TT} {tb : TS} (hp : PassesOwn (model X.prog X.w) X.A X.env X.xe) (hc : PT X c tc) (hb : PSs X body tb) : PS X (.While c body [] pos) (a6Z tc tb) := by
  intro pins s σ H D I h
  obtain ⟨W, ⟨m0, w0⟩, turn⟩ := h
  refine wpAny_While (codeAny_whileLoop (fun n s' => ∃ σ' H', Inv X pins σ' H' s' /\ W n σ' H') ?_ m0 ⟨σ, H, I, w0⟩)
  rintro n s1 ⟨σ1, H1, I1, w1⟩
  refine wpAny_passesOwn hp (t8 (hc pins s1 σ1 H1 _ I1 (turn n σ1 H1 w1)) fun b s2 ⟨H2, I2, q2⟩ => ?_)
  cases b with
  | true =>
    obtain ⟨N, hN, q2⟩ := q2
    rw [if_pos rfl]
    refine wpAny_passesOwn hp (t8 (hb pins s2 σ1 H2 _ I2 q2) fun f s3 q3 => ?_)
    cases f with
    | next =>
      obtain ⟨σ3, H3, I3, n3⟩ := q3
      obtain ⟨m', hm, w3⟩ := hN σ3 H3 n3
      exact ⟨m', hm, σ3, H3, I3, w3⟩
    | cont =>
      obtain ⟨σ3, H3, I3, n3⟩ := q3
      obtain ⟨m', hm, w3⟩ := hN σ3 H3 n3
      exact ⟨m', hm, σ3, H3, I3, w3⟩
    | brk => exact q3
    | ret v => exact q3
  | false =>
    rw [if_neg Bool.false_ne_true]
    exact wpAny_execs_nil ⟨σ1, H2, I2, q2⟩
end
structure It where
  go : Nat -> Hp -> Prop
  yld : Nat -> Hp -> V -> Hp -> Prop
  stop : Nat -> Hp -> Prop
def N0 (X : Cx) (pins : List (Addr × Obj)) (H : Hp) (b : Addr) : Prop :=
  H b = none /\ b ≠ X.env.locals /\ b ∉ X.fs /\ (b ∈ X.ex \/ X.s₀.heap.objs.size <= b) /\ (∀ x c, X.env.cells.lookup x = some c -> c ≠ b) /\ ∀ p ∈ X.pn ++ pins, p.1 ≠ b
theorem Inv.fpOk {X : Cx} {pins : List (Addr × Obj)} {σ : St} {H H' : Hp} {s : Shared} {b : Addr} (I : Inv X pins σ H s) (hb : s.heap.objs.size <= b) (hn : H' b = none) : N0 X pins H' b := by
  refine ⟨hn, Nat.ne_of_gt (Nat.lt_of_lt_of_le I.lt hb), I.nofs hb, .inr (Nat.le_trans I.sz hb), fun x c e z => ?_, fun p hp z => ?_⟩
  . obtain ⟨v, q⟩ := I.cell x c e
    exact absurd (Nat.lt_of_lt_of_le q.lt (by rw [z]; exact hb)) (Nat.lt_irrefl _)
  . exact absurd (Nat.lt_of_lt_of_le (Heap.lt_size (I.pin p hp).1) (by rw [z]; exact hb)) (Nat.lt_irrefl _)
structure a3h (P : Program) (w : World) (K : W.Frag) (tg : Expr) (J : It) (fp : List Addr) (it : Addr) (tn : Nat -> Heap -> Prop) : Prop where
  mem : it ∈ fp
  obj : ∀ i h, tn i h -> ∀ b ∈ fp, ∃ o, h.get? b = some o /\ ∀ v, o.data ≠ .cell v
  keep : ∀ i h h', tn i h -> (∀ b ∈ fp, ∀ o, h.get? b = some o -> h'.get? b = some o) -> tn i h'
  item : ∀ (X : Cx), X.prog = P -> X.w = w -> X.K = K -> X.calm = true -> ∀ (i : Nat) (pins : List (Addr × Obj)) (s : Shared) (σ : St) (H : Hp) (E : Value -> Shared -> Prop), Inv X pins σ H s -> (∀ b ∈ fp, N0 X pins H b) -> tn i s.heap -> J.go i H →
    wpAny (model P w) X.A (pyNext (.ref it)) (fun r s1 => ∃ u, r = some u ∧
      wpAny (model P w) X.A (letOwnedTupleGo tg (.ref it) u) (fun _ s2 => ∃ x H', Inv X pins σ H' s2 /\ RelV x u /\ J.yld i H x H' /\ tn (i + 1) s2.heap /\ ∀ b ∈ fp, H' b = none) E s1) E s
  done : ∀ (X : Cx), X.prog = P -> X.w = w -> X.K = K -> X.calm = true -> ∀ (i : Nat) (pins : List (Addr × Obj)) (s : Shared) (σ : St) (H : Hp) (E : Value -> Shared -> Prop), Inv X pins σ H s -> (∀ b ∈ fp, N0 X pins H b) -> tn i s.heap -> J.stop i H →
    wpAny (model P w) X.A (pyNext (.ref it)) (fun r s1 => r = none /\ Inv X pins σ H s1) E s
  self : ∀ (A : Around) (i : Nat) (s : Shared) (Q : Value -> Shared -> Prop) (E : Value -> Shared -> Prop), tn i s.heap -> Q (.ref it) s -> wpAny (model P w) A (pyIter (.ref it)) Q E s
abbrev TI := St -> Hp -> (It -> Hp -> Prop) -> Prop
def PIE (X : Cx) (pins : List (Addr × Obj)) (σ : St) (tg : Expr) (R : It -> Hp -> Prop) (itv : Value) (s2 : Shared) : Prop :=
  ∃ (it : Addr) (fp : List Addr) (tn : Nat -> Heap -> Prop) (J : It) (H' : Hp), itv = .ref it /\ Inv X pins σ H' s2 /\ a3h X.prog X.w X.K tg J fp it tn /\ tn 0 s2.heap /\ (∀ b ∈ fp, N0 X pins H' b) /\ R J H'
def PI (X : Cx) (tg iter : Expr) (wi : TI) : Prop :=
  ∀ (pins : List (Addr × Obj)) (s : Shared) (σ : St) (H : Hp) (R : It -> Hp -> Prop), Inv X pins σ H s -> wi σ H R →
    wpAny (model X.prog X.w) X.A (eval iter X.env) (fun v s1 => wpAny (model X.prog X.w) X.A (pyIter v) (PIE X pins σ tg R) X.xe s1) X.xe s
theorem a6O {M : Model} {A : Around} {E : Value -> Shared -> Prop} {s : Shared} {tg : Expr} {it : Addr} {u : Value} {o : Obj} {n : String} {vs : Array Value} {Q : Unit -> Shared -> Prop} (ho : s.heap.get? it = some o) (hc : o.cls = .type n) (hd : o.data = .fields vs)
    (hn : ["enumerate", "zip", "dict_itemiterator", "dict_reverseitemiterator", "odict_iterator", "itertools.zip_longest", "itertools.pairwise"].contains n = false) (hQ : Q () s) : wpAny M A (letOwnedTupleGo tg (.ref it) u) Q E s := by
  unfold letOwnedTupleGo
  cases tg <;> first
    | exact wpAny_pure hQ
    | (cases u <;> first
        | exact wpAny_pure hQ
        | (refine wpAny_bind (wpAny_load ho ?_)
           rw [hc, hd]
           show wpAny M A (if (["enumerate", "zip", "dict_itemiterator", "dict_reverseitemiterator", "odict_iterator", "itertools.zip_longest", "itertools.pairwise"].contains n && vs[0]? == some (rawInt _)) = true then _ else _) Q E s
           rw [if_neg (by intro h; rw [hn, Bool.false_and] at h; cases h)]
           exact wpAny_pure hQ))
def Itl (K : W.Frag) (a : Addr) : It :=
  ⟨fun i H => ∃ xs x, SqL K H a xs /\ xs[i]? = some x, fun i H x H' => H' = H /\ ∀ xs, SqL K H a xs -> xs[i]? = some x, fun i H => ∃ xs, SqL K H a xs /\ xs.length <= i⟩
def Itt (K : W.Frag) (a : Addr) : It :=
  ⟨fun i H => ∃ xs x, SqT K H a xs /\ xs[i]? = some x, fun i H x H' => H' = H /\ ∀ xs, SqT K H a xs -> xs[i]? = some x, fun i H => ∃ xs, SqT K H a xs /\ xs.length <= i⟩
def Itr (lo : Int) (n : Nat) : It := ⟨fun i _ => i < n, fun i H x H' => H' = H /\ x = .int (lo + i), fun i _ => n <= i⟩
theorem a4P {P : Program} {w : World} {K : W.Frag} {tg : Expr} (a it : Addr) : a3h P w K tg (Itl K a) [it] it (fun i h => h.IsListIter it a i) where
  mem := by simp
  obj := fun i h st b hb => by
    have e : b = it := by simpa using hb
    subst e
    obtain ⟨o, e, c, d⟩ := st
    exact ⟨o, e, fun v z => by rw [d] at z; cases z⟩
  keep := fun i h h' st k => st.at fun o e => k it (by simp) o e
  item := by
    intro X hP hw hK hc i pins s σ H E I hf st hg
    subst hP hw hK
    obtain ⟨xs, x, hq, hx⟩ := hg
    obtain ⟨its, rv, p, hz⟩ := I.list hq
    obtain ⟨u, hu, ru⟩ := rv.get hx
    obtain ⟨f0, f1, f2, f3, f4, f5⟩ := hf it (by simp)
    refine wpAny_pyNext_list_item st p.isList (x := u) (by simpa using hu) fun h' st' sb => ?_
    have I1 : Inv X pins σ H { s with heap := h' } := I.turned (t' := s.toks) (fun b o hb e => (sb.2 b hb).trans e) f0 f1 f3 f4 f5
    obtain ⟨o, e, c, d⟩ := id st'
    exact ⟨u, rfl, a6O (s := { s with heap := h' }) e c d (by decide) ⟨x, H, I1, ru, ⟨rfl, fun ys hy => by rw [I.list_inj hy hq]; exact hx⟩, st', fun b hb => (hf b hb).1⟩⟩
  done := by
    intro X hP hw hK hc i pins s σ H E I hf st hg
    subst hP hw hK
    obtain ⟨xs, hq, hx⟩ := hg
    obtain ⟨its, rv, p, hz⟩ := I.list hq
    obtain ⟨f0, f1, f2, f3, f4, f5⟩ := hf it (by simp)
    have hl := rv.length
    exact wpAny_pyNext_list_end (I.ok.hd hc) st p.isList (by simp; omega) fun h' eb => ⟨rfl, I.turned (t' := s.toks) (fun b o hb e => eb b o hb e) f0 f1 f3 f4 f5⟩
  self := fun _ _ _ _ _ st h => wpAny_pyIter_listiter st h
theorem a3a {P : Program} {w : World} {K : W.Frag} {tg : Expr} (a it : Addr) : a3h P w K tg (Itt K a) [it] it (fun i h => h.IsTupleIter it a i) where
  mem := by simp
  obj := fun i h st b hb => by
    have e : b = it := by simpa using hb
    subst e
    obtain ⟨o, e, c, d⟩ := st
    exact ⟨o, e, fun v z => by rw [d] at z; cases z⟩
  keep := fun i h h' st k => st.at fun o e => k it (by simp) o e
  item := by
    intro X hP hw hK hc i pins s σ H E I hf st hg
    subst hP hw hK
    obtain ⟨xs, x, hq, hx⟩ := hg
    obtain ⟨its, rv, p, hz⟩ := I.tuple hq
    obtain ⟨u, hu, ru⟩ := rv.get hx
    obtain ⟨f0, f1, f2, f3, f4, f5⟩ := hf it (by simp)
    refine wpAny_pyNext_tuple_item st (show s.heap.IsTuple a its.toArray from p) (x := u) (by simpa using hu) fun h' st' sb => ?_
    have I1 : Inv X pins σ H { s with heap := h' } := I.turned (t' := s.toks) (fun b o hb e => (sb.2 b hb).trans e) f0 f1 f3 f4 f5
    obtain ⟨o, e, c, d⟩ := id st'
    exact ⟨u, rfl, a6O (s := { s with heap := h' }) e c d (by decide) ⟨x, H, I1, ru, ⟨rfl, fun ys hy => by rw [I.tuple_inj hy hq]; exact hx⟩, st', fun b hb => (hf b hb).1⟩⟩
  done := by
    intro X hP hw hK hc i pins s σ H E I hf st hg
    subst hP hw hK
    obtain ⟨xs, hq, hx⟩ := hg
    obtain ⟨its, rv, p, hz⟩ := I.tuple hq
    obtain ⟨f0, f1, f2, f3, f4, f5⟩ := hf it (by simp)
    have hl := rv.length
    exact wpAny_pyNext_tuple_end (I.ok.hd hc) st (show s.heap.IsTuple a its.toArray from p) (by simp; omega) fun h' eb => ⟨rfl, I.turned (t' := s.toks) (fun b o hb e => eb b o hb e) f0 f1 f3 f4 f5⟩
  self := fun _ _ _ _ _ st h => wpAny_pyIter_tupleiter st h
theorem a3B {P : Program} {w : World} {K : W.Frag} {tg : Expr} (it : Addr) (lo : Int) (n : Nat) : a3h P w K tg (Itr lo n) [it] it (fun i h => IsRangeIter h it (lo + (i : Nat) * 1) ((n : Int) - (i : Nat)) 1) where
  mem := by simp
  obj := fun i h st b hb => by
    have e : b = it := by simpa using hb
    subst e
    exact ⟨_, st, fun v z => by
      have z' : Data.fields _ = Data.cell v := z
      cases z'⟩
  keep := fun i h h' st k => k it (by simp) _ st
  item := by
    intro X hP hw hK hc i pins s σ H E I hf st hg
    subst hP hw hK
    obtain ⟨f0, f1, f2, f3, f4, f5⟩ := hf it (by simp)
    have W := Walks.range (prog := X.prog) (w := X.w) (I.ok.hd hc) it lo 1 n
    refine W.item i s _ _ hg st fun v h' tk hv st' kk => ?_
    obtain ⟨t, rfl⟩ := hv
    have I1 : Inv X pins σ H { s with heap := h', toks := tk } := I.turned (fun b o hb e => kk b o (by simpa using hb) e) f0 f1 f3 f4 f5
    refine ⟨_, rfl, a6O (s := { s with heap := h', toks := tk }) (n := "range_iterator") st' rfl rfl (by decide) ⟨.int (lo + i), H, I1, ⟨t, ?_⟩, ⟨rfl, rfl⟩, st', fun b hb => (hf b hb).1⟩⟩
    rw [Int.mul_one]
  done := by
    intro X hP hw hK hc i pins s σ H E I hf st hg
    subst hP hw hK
    obtain ⟨f0, f1, f2, f3, f4, f5⟩ := hf it (by simp)
    exact wpAny_pyNext_range_end (I.ok.hd hc) st (by have : n <= i := hg; omega) fun h' eb => ⟨rfl, I.turned (t' := s.toks) (fun b o hb e => eb b o hb e) f0 f1 f3 f4 f5⟩
  self := fun _ _ _ _ _ st h => wpAny_pyIter_rangeiter st h
end L2
namespace L2
open PySem PySem.Spec PyProof.Rows
section
variable {X : Cx} {tg : Expr}
def b0x (K : W.Frag) (tl : TE) : TI := fun σ H R => tl σ H fun x H1 => ∃ a, x = .ref a /\ (∃ xs, SqL K H1 a xs) /\ R (Itl K a) H1
def b0I (K : W.Frag) (tl : TE) : TI := fun σ H R => tl σ H fun x H1 => ∃ a, x = .ref a /\ (∃ xs, SqT K H1 a xs) /\ R (Itt K a) H1
theorem V5 {l : Expr} {tl : TE} (hl : PE X l tl) : PI X tg l (b0x X.K tl) := by
  intro pins s σ H R I h
  refine t8 (hl pins s σ H _ I h) fun v s1 ⟨x, H1, I1, r1, q1⟩ => ?_
  obtain ⟨a, e, ⟨xs, hq⟩, q⟩ := q1
  subst e
  cases r1
  obtain ⟨its, rv, p, hz⟩ := I1.list hq
  refine wpAny_pyIter_list p.isList ?_
  refine ⟨s1.heap.objs.size, [s1.heap.objs.size], _, _, H1, rfl, I1.kept (t' := s1.toks) fun b o e => Heap.get?_push_of_some _ e, a4P a _, ⟨_, Heap.get?_push_size _ rfl, rfl, rfl⟩, fun b hb => ?_, q⟩
  have e : b = s1.heap.objs.size := by simpa using hb
  subst e
  exact I1.fpOk (Nat.le_refl _) (I1.hok.fresh (Nat.le_refl _))
theorem a3b {l : Expr} {tl : TE} (hl : PE X l tl) : PI X tg l (b0I X.K tl) := by
  intro pins s σ H R I h
  refine t8 (hl pins s σ H _ I h) fun v s1 ⟨x, H1, I1, r1, q1⟩ => ?_
  obtain ⟨a, e, ⟨xs, hq⟩, q⟩ := q1
  subst e
  cases r1
  obtain ⟨its, rv, p, hz⟩ := I1.tuple hq
  refine wpAny_pyIter_tuple (show s1.heap.IsTuple a its.toArray from p) ?_
  refine ⟨s1.heap.objs.size, [s1.heap.objs.size], _, _, H1, rfl, I1.kept (t' := s1.toks) fun b o e => Heap.get?_push_of_some _ e, a3a a _, ⟨_, Heap.get?_push_size _ rfl, rfl, rfl⟩, fun b hb => ?_, q⟩
  have e : b = s1.heap.objs.size := by simpa using hb
  subst e
  exact I1.fpOk (Nat.le_refl _) (I1.hok.fresh (Nat.le_refl _))
theorem a6Y {pins : List (Addr × Obj)} {σ : St} {H : Hp} {s : Shared} {R : It -> Hp -> Prop} {E : Value -> Shared -> Prop} {lo hi : Int} {t u v : Tok} {tk : Nat} (I : Inv X pins σ H s) (h1 : -(2 ^ 62) <= lo) (h2 : lo < 2 ^ 62) (h3 : -(2 ^ 62) <= hi) (h4 : hi < 2 ^ 62)
    (q : R (Itr lo (hi - lo).toNat) H) : wpAny (model X.prog X.w) X.A (pyIter (.ref s.heap.objs.size)) (PIE X pins σ tg R) E { s with heap := s.heap.push { cls := .type "range", data := .fields #[.int lo t, .int hi u, .int 1 v] }, toks := tk } := by
  refine wpAny_pyIter_range (IsRange.new ..) (small_one h1 h2 h3 h4) ?_
  have I1 : Inv X pins σ H { s with heap := s.heap.push { cls := .type "range", data := .fields #[.int lo t, .int hi u, .int 1 v] }, toks := tk } := I.kept fun b o e => Heap.get?_push_of_some _ e
  refine ⟨(s.heap.push { cls := .type "range", data := .fields #[.int lo t, .int hi u, .int 1 v] }).objs.size, [(s.heap.push { cls := .type "range", data := .fields #[.int lo t, .int hi u, .int 1 v] }).objs.size], _, _, H, rfl,
    I1.kept (t' := tk) fun b o e => Heap.get?_push_of_some _ e, a3B _ lo (hi - lo).toNat, ?_, fun b hb => ?_, q⟩
  . have e1 : lo + ((0 : Nat) : Int) * 1 = lo := by simp
    have e2 : (((hi - lo).toNat : Nat) : Int) - ((0 : Nat) : Int) = Builtin.Range.rangeSize lo hi 1 := by rw [rangeSize_one]; split <;> omega
    show IsRangeIter _ _ (lo + ((0 : Nat) : Int) * 1) ((((hi - lo).toNat : Nat) : Int) - ((0 : Nat) : Int)) 1
    rw [e1, e2]
    exact Heap.get?_push_size _ rfl
  . have e : b = (s.heap.push { cls := .type "range", data := .fields #[.int lo t, .int hi u, .int 1 v] }).objs.size := by simpa using hb
    subst e
    exact I1.fpOk (Nat.le_refl _) (I1.hok.fresh (Nat.le_refl _))
def b0w (ta : TA) : TI := fun σ H R => ta σ H fun vs H1 => ∃ j : Int, vs = [.int j] /\ -(2 ^ 62) <= j /\ j < 2 ^ 62 /\ R (Itr 0 j.toNat) H1
theorem M5 {a : Expr} {ta : TA} {p pos : Pos} (hg : Gl X "range") (hm : X.mg "range" = none) (ha : PA X [a] ta) (hs : starEach [a] X.env = [(false, eval a X.env)] := by rfl) : PI X tg (.Call (.Name "range" p) [a] [] pos) (b0w ta) := by
  intro pins s σ H R I h
  refine Call_ (O3 I hg hm boot_range (PyProof.Rows.callWith_type1 (t8 (ha pos pins s σ H _ I h) fun us s1 ⟨vs, H1, I1, r1, q1⟩ => ?_) hs rfl))
  obtain ⟨j, e, q1, q2, q⟩ := q1
  subst e
  cases r1 with
  | cons r rr =>
    cases rr
    obtain ⟨t, rfl⟩ := r
    exact call_range_1 (a6Y I1 (by omega) (by omega) q1 q2 (by simpa using q))
def a9E (wi : TI) (g : TG) (tb : TS) : TS := fun D σ H => wi σ H fun J H1 => ∃ W : Nat -> Nat -> St -> Hp -> Prop, (∃ m, W 0 m σ H1) /\ ∀ i m σ H, W i m σ H →
  (J.stop i H /\ D.nx σ H) \/ (J.go i H /\ ∃ N : St -> Hp -> Prop, (∀ σ' H', N σ' H' -> ∃ m', m' < m /\ W (i + 1) m' σ' H') /\ ∀ x H', J.yld i H x H' -> g x σ H' fun σ2 H2 => tb { D with nx := N, ct := N, bk := D.nx } σ2 H2)
def a0F (fp : List Addr) (h : Heap) : List (Addr × Obj) := fp.filterMap fun b => (h.get? b).map fun o => (b, o)
theorem O2 {fp : List Addr} {h : Heap} {b : Addr} {o : Obj} (hb : b ∈ fp) (e : h.get? b = some o) : (b, o) ∈ a0F fp h := List.mem_filterMap.mpr ⟨b, hb, by rw [e]; rfl⟩
theorem a5k {fp : List Addr} {h : Heap} {p : Addr × Obj} (hp : p ∈ a0F fp h) : p.1 ∈ fp /\ h.get? p.1 = some p.2 := by
  obtain ⟨b, hb, e⟩ := List.mem_filterMap.mp hp
  cases q : h.get? b with
  | none => rw [q] at e; cases e
  | some o =>
    rw [q] at e
    have e' : (b, o) = p := Option.some.inj e
    subst e'
    exact ⟨hb, q⟩
theorem Inv.pinned {pins : List (Addr × Obj)} {σ : St} {H : Hp} {s : Shared} {fp : List Addr} (I : Inv X pins σ H s) (hf : ∀ b ∈ fp, N0 X pins H b) (ho : ∀ b ∈ fp, ∃ o, s.heap.get? b = some o /\ ∀ v, o.data ≠ .cell v) : Inv X (pins ++ a0F fp s.heap) σ H s :=
  I.pins_of fun p hp => (List.mem_append.mp hp).elim (fun z => I.pin p (List.mem_append_right _ z)) fun z => by
    obtain ⟨hb, e⟩ := a5k z
    obtain ⟨f0, f1, f2, _⟩ := hf p.1 hb
    obtain ⟨o, e', d⟩ := ho p.1 hb
    rw [e] at e'; cases e'
    exact ⟨e, f0, f1, f2, d⟩
theorem Inv.unpinned {pins pl : List (Addr × Obj)} {σ : St} {H : Hp} {s : Shared} (I : Inv X (pins ++ pl) σ H s) : Inv X pins σ H s := I.pins_of fun p hp => I.pin p (List.mem_append_right _ (List.mem_append_left _ hp))
theorem Y5 {iter : Expr} {body : List Stmt} {wi : TI} {g : TG} {tb : TS} {pos : Pos} (hp : PassesOwn (model X.prog X.w) X.A X.env X.xe) (hc : X.calm = true) (hi : PI X tg iter wi) (hg : PG X tg g) (hb : PSs X body tb)
    (hs : ∀ x, foldedSetIterable iter X.env x = pure x := by intro _; rfl) : PS X (.For tg iter body [] pos) (a9E wi g tb) := by
  intro pins s σ H D I h
  refine wpAny_For (t8 (hi pins s σ H _ I h) fun v s1 h1 => t8 h1 fun itv s2 h2 => ?_) hs
  obtain ⟨it, fp, tn, J, H2, e, I2, T, st2, f2, W, ⟨m0, w0⟩, turn⟩ := h2
  subst e
  -- what stays true of the iterator's objects through the loop
  have stat : ∀ {H' : Hp}, (∀ b ∈ fp, H' b = none) -> ∀ b ∈ fp, N0 X pins H' b := fun hn b hb => ⟨hn b hb, (f2 b hb).2⟩
  refine codeAny_forLoop_any (fun n s' => ∃ i σ' H', Inv X pins σ' H' s' /\ tn i s'.heap /\ (∀ b ∈ fp, H' b = none) /\ W i n σ' H') ?_ m0 ⟨0, σ, H2, I2, st2, fun b hb => (f2 b hb).1, w0⟩
  rintro n s3 ⟨i, σ3, H3, I3, st3, fr3, w3⟩
  rcases turn i n σ3 H3 w3 with ⟨stop, qn⟩ | ⟨go, N, hN, step⟩
  . refine wpAny_passesOwn hp (t8 (T.done X rfl rfl rfl hc i pins s3 σ3 H3 X.xe I3 (stat fr3) st3 stop) fun r s4 ⟨hr, I4⟩ => ?_)
    subst hr
    exact wpAny_execs_nil ⟨σ3, H3, I4, qn⟩
  . refine wpAny_passesOwn hp (t8 (T.item X rfl rfl rfl hc i pins s3 σ3 H3 X.xe I3 (stat fr3) st3 go) fun r s4 ⟨u, hr, h4⟩ => ?_)
    subst hr
    refine wpAny_passesOwn hp (t8 h4 fun _ s5 ⟨x, H5, I5, r5, y5, st5, fr5⟩ => ?_)
    have I5' := I5.pinned (stat fr5) (T.obj _ _ st5)
    refine wpAny_passesOwn hp (t8 (hg _ s5 σ3 H5 x u _ I5' r5 (step x H5 y5)) fun _ s6 ⟨σ6, H6, I6, q6⟩ => ?_)
    refine wpAny_passesOwn hp (t8 (hb _ s6 σ6 H6 _ I6 q6) fun f s7 q7 => ?_)
    have again : ∀ {σ7 : St} {H7 : Hp}, Inv X (pins ++ a0F fp s5.heap) σ7 H7 s7 -> N σ7 H7 -> ∃ m, m < n /\ ∃ i σ' H', Inv X pins σ' H' s7 /\ tn i s7.heap /\ (∀ b ∈ fp, H' b = none) /\ W i m σ' H' := fun {σ7 H7} I7 n7 => by
      obtain ⟨m', hm, w7⟩ := hN σ7 H7 n7
      refine ⟨m', hm, i + 1, σ7, H7, I7.unpinned, T.keep _ _ _ st5 fun b hb o e => (I7.pin (b, o) (List.mem_append_right _ (List.mem_append_right _ (O2 hb e)))).1, fun b hb => ?_, w7⟩
      obtain ⟨o, e, d⟩ := T.obj _ _ st5 b hb
      exact (I7.pin (b, o) (List.mem_append_right _ (List.mem_append_right _ (O2 hb e)))).2.1
    cases f with
    | next => obtain ⟨σ7, H7, I7, n7⟩ := q7; exact again I7 n7
    | cont => obtain ⟨σ7, H7, I7, n7⟩ := q7; exact again I7 n7
    | brk => obtain ⟨σ7, H7, I7, q7⟩ := q7; exact ⟨σ7, H7, I7.unpinned, q7⟩
    | ret v => obtain ⟨x7, σ7, H7, I7, r7, q7⟩ := q7; exact ⟨x7, σ7, H7, I7.unpinned, r7, q7⟩
end
theorem a5M {K : W.Frag} {a : Addr} {xs : List V} {g : TG} {tb : TS} {D : Ends} {σ : St} {H : Hp} (Pv : Nat -> St -> Hp -> Prop) (h0 : Pv 0 σ H) (hl : ∀ i σ H, i <= xs.length -> Pv i σ H -> SqL K H a xs)
    (hs : ∀ i x σ H, xs[i]? = some x -> Pv i σ H -> g x σ H fun σ2 H2 => tb { D with nx := Pv (i + 1), ct := Pv (i + 1), bk := D.nx } σ2 H2) (hd : ∀ σ H, Pv xs.length σ H -> D.nx σ H) :
    ∃ W : Nat -> Nat -> St -> Hp -> Prop, (∃ m, W 0 m σ H) /\ ∀ i m σ H, W i m σ H →
      ((Itl K a).stop i H /\ D.nx σ H) \/ ((Itl K a).go i H /\ ∃ N : St -> Hp -> Prop, (∀ σ' H', N σ' H' -> ∃ m', m' < m /\ W (i + 1) m' σ' H') /\ ∀ x H', (Itl K a).yld i H x H' -> g x σ H' fun σ2 H2 => tb { D with nx := N, ct := N, bk := D.nx } σ2 H2) := by
  refine ⟨fun i m σ H => m = xs.length - i /\ i <= xs.length /\ Pv i σ H, ⟨xs.length, by simp, Nat.zero_le _, h0⟩, ?_⟩
  rintro i m σ H ⟨rfl, hi, p⟩
  have q := hl i σ H hi p
  by_cases hlt : i < xs.length
  . refine .inr ⟨⟨xs, xs[i], q, by simp [hlt]⟩, Pv (i + 1), fun σ' H' p' => ⟨xs.length - (i + 1), by omega, rfl, hlt, p'⟩, fun x H' y => ?_⟩
    obtain ⟨e, y⟩ := y
    subst e
    exact hs i x σ _ (y xs q) p
  . have e : i = xs.length := by omega
    subst e
    exact .inl ⟨⟨xs, q, Nat.le_refl _⟩, hd σ H p⟩
theorem Y8 {lo : Int} {n : Nat} {g : TG} {tb : TS} {D : Ends} {σ : St} {H : Hp} (Pv : Nat -> St -> Hp -> Prop) (h0 : Pv 0 σ H)
    (hs : ∀ i σ H, i < n -> Pv i σ H -> g (.int (lo + i)) σ H fun σ2 H2 => tb { D with nx := Pv (i + 1), ct := Pv (i + 1), bk := D.nx } σ2 H2) (hd : ∀ σ H, Pv n σ H -> D.nx σ H) :
    ∃ W : Nat -> Nat -> St -> Hp -> Prop, (∃ m, W 0 m σ H) /\ ∀ i m σ H, W i m σ H →
      ((Itr lo n).stop i H /\ D.nx σ H) \/ ((Itr lo n).go i H /\ ∃ N : St -> Hp -> Prop, (∀ σ' H', N σ' H' -> ∃ m', m' < m /\ W (i + 1) m' σ' H') /\ ∀ x H', (Itr lo n).yld i H x H' -> g x σ H' fun σ2 H2 => tb { D with nx := N, ct := N, bk := D.nx } σ2 H2) := by
  refine ⟨fun i m σ H => m = n - i /\ i <= n /\ Pv i σ H, ⟨n, by simp, Nat.zero_le _, h0⟩, ?_⟩
  rintro i m σ H ⟨rfl, hi, p⟩
  by_cases hlt : i < n
  . refine .inr ⟨hlt, Pv (i + 1), fun σ' H' p' => ⟨n - (i + 1), by omega, rfl, hlt, p'⟩, fun x H' y => ?_⟩
    obtain ⟨e, y⟩ := y
    subst e y
    exact hs i σ _ hlt p
  . have e : i = n := by omega
    subst e
    exact .inl ⟨Nat.le_refl _, hd σ H p⟩
theorem a6q {c : TT} {tb : TS} {D : Ends} {σ : St} {H : Hp} (Pv : St -> Hp -> Prop) (μ : St -> Hp -> Nat) (h0 : Pv σ H)
    (hs : ∀ σ H, Pv σ H -> c σ H fun b H1 => if b = true then tb { D with nx := fun σ' H' => Pv σ' H' /\ μ σ' H' < μ σ H, ct := fun σ' H' => Pv σ' H' /\ μ σ' H' < μ σ H, bk := D.nx } σ H1 else D.nx σ H1)
    (mono : ∀ σ H Q Q', (∀ b H1, Q b H1 -> Q' b H1) -> c σ H Q -> c σ H Q') : a6Z c tb D σ H := by
  refine ⟨fun m σ H => m = μ σ H /\ Pv σ H, ⟨_, rfl, h0⟩, ?_⟩
  rintro m σ H ⟨rfl, p⟩
  refine mono σ H _ _ (fun b H1 q => ?_) (hs σ H p)
  cases b with
  | true => exact ⟨_, fun σ' H' ⟨p', l⟩ => ⟨_, l, rfl, p'⟩, q⟩
  | false => exact q
end L2
namespace L2
open PySem PySem.Spec PyProof.Rows
abbrev R2 := V -> V -> Hp -> VK -> Prop
def T9 (X : Cx) (f : Value -> Value -> Sem Value) (r : R2) : Prop :=
  ∀ (pins : List (Addr × Obj)) (s : Shared) (σ : St) (H : Hp) (x y : V) (v u : Value) (Q : VK), Inv X pins σ H s -> RelV x v -> RelV y u -> r x y H Q →
    wpAny (model X.prog X.w) X.A (f v u) (EP X pins σ Q) X.xe s
def UnR (X : Cx) (f : Value -> Sem Value) (r : V -> Hp -> VK -> Prop) : Prop :=
  ∀ (pins : List (Addr × Obj)) (s : Shared) (σ : St) (H : Hp) (x : V) (v : Value) (Q : VK), Inv X pins σ H s -> RelV x v -> r x H Q →
    wpAny (model X.prog X.w) X.A (f v) (EP X pins σ Q) X.xe s
def G6 (X : Cx) (f : Value) (r : List V -> Hp -> VK -> Prop) : Prop :=
  ∀ (pins : List (Addr × Obj)) (s : Shared) (σ : St) (H : Hp) (xs : List V) (us : List Value) (Q : VK), Inv X pins σ H s -> Vals xs us -> r xs H Q →
    wpAny (model X.prog X.w) X.A (call f us) (EP X pins σ Q) X.xe s
def b2c (X : Cx) (r : V -> Hp -> (Bool -> Hp -> Prop) -> Prop) : Prop :=
  ∀ (pins : List (Addr × Obj)) (s : Shared) (σ : St) (H : Hp) (x : V) (v : Value) (Q : Bool -> Hp -> Prop), Inv X pins σ H s -> RelV x v -> r x H Q →
    wpAny (model X.prog X.w) X.A (truthy v) (TP X pins σ Q) X.xe s
def tOp (r : R2) (ta tb : TE) : TE := fun σ H Q => ta σ H fun x H1 => tb σ H1 fun y H2 => r x y H2 Q
def tUn (r : V -> Hp -> VK -> Prop) (ta : TE) : TE := fun σ H Q => ta σ H fun x H1 => r x H1 Q
def rI (C : Int -> Int -> Prop) (g : Int -> Int -> V) : R2 := fun x y H Q => ∃ i j, x = .int i /\ y = .int j /\ C i j /\ Q (g i j) H
def rI0 (g : Int -> Int -> V) : R2 := fun x y H Q => ∃ i j, x = .int i /\ y = .int j /\ Q (g i j) H
def rU (g : Int -> V) : V -> Hp -> VK -> Prop := fun x H Q => ∃ i, x = .int i /\ Q (g i) H
section
variable {X : Cx} {a b c : Expr} {ta tb tc : TE} {pos : Pos}
theorem a9A (ha : PE X a ta) (hb : PE X b tb) {pins : List (Addr × Obj)} {s : Shared} {σ : St} {H : Hp} {R : V -> V -> Hp -> Prop} (I : Inv X pins σ H s)
    (h : ta σ H fun x H1 => tb σ H1 fun y H2 => R x y H2) {Q : Value -> Shared -> Prop} {f : Value -> Value -> Sem Value}
    (hf : ∀ v u s2 x y H2, Inv X pins σ H2 s2 -> RelV x v -> RelV y u -> R x y H2 -> wpAny (model X.prog X.w) X.A (f v u) Q X.xe s2) :
    wpAny (model X.prog X.w) X.A (eval a X.env) (fun v s₁ => wpAny (model X.prog X.w) X.A (eval b X.env) (fun u s₂ => wpAny (model X.prog X.w) X.A (f v u) Q X.xe s₂) X.xe s₁) X.xe s := by
  refine t8 (ha pins s σ H _ I h) fun v s1 ⟨x, H1, I1, r1, q1⟩ => ?_
  refine t8 (hb pins s1 σ H1 _ I1 q1) fun u s2 ⟨y, H2, I2, r2, q2⟩ => ?_
  exact hf v u s2 x y H2 I2 r1 r2 q2
theorem i7 {op : Operator} {r : R2} (ho : T9 X (binaryOp op) r) (ha : PE X a ta) (hb : PE X b tb) : PE X (.BinOp a op b pos) (tOp r ta tb) := by
  intro pins s σ H Q I h
  exact wpAny_BinOp (a9A ha hb I h fun v u s2 x y H2 I2 rx ry q => ho pins s2 σ H2 x y v u Q I2 rx ry q)
theorem J8 {op : UnaryOp} {r : V -> Hp -> VK -> Prop} (ho : UnR X (unaryOp op) r) (ha : PE X a ta) : PE X (.UnaryOp op a pos) (tUn r ta) := by
  intro pins s σ H Q I h
  exact UnaryOp_ (t8 (ha pins s σ H _ I h) fun v s1 ⟨x, H1, I1, r1, q1⟩ => ho pins s1 σ H1 x v Q I1 r1 q1)
theorem opI {f : Value -> Value -> Sem Value} {C : Int -> Int -> Prop} {g : Int -> Int -> Int}
    (rule : ∀ (i j : Int) (t u : Tok) (s : Shared) (Q : Value -> Shared -> Prop) (E : Value -> Shared -> Prop), C i j -> Q (.int (g i j) s.toks) { s with toks := s.toks + 1 } -> wpAny (model X.prog X.w) X.A (f (.int i t) (.int j u)) Q E s) :
    T9 X f (rI C fun i j => .int (g i j)) := by
  intro pins s σ H x y v u Q I rx ry h
  obtain ⟨i, j, rfl, rfl, hc, q⟩ := h
  obtain ⟨t, rfl⟩ := rx
  obtain ⟨t', rfl⟩ := ry
  exact rule i j t t' s _ _ hc ⟨.int (g i j), H, I.tok _, ⟨_, rfl⟩, q⟩
theorem b0H {f : Value -> Value -> Sem Value} {g : Int -> Int -> Int}
    (rule : ∀ (i j : Int) (t u : Tok) (s : Shared) (Q : Value -> Shared -> Prop) (E : Value -> Shared -> Prop), Q (.int (g i j) s.toks) { s with toks := s.toks + 1 } -> wpAny (model X.prog X.w) X.A (f (.int i t) (.int j u)) Q E s) :
    T9 X f (rI0 fun i j => .int (g i j)) := by
  intro pins s σ H x y v u Q I rx ry h
  obtain ⟨i, j, rfl, rfl, q⟩ := h
  obtain ⟨t, rfl⟩ := rx
  obtain ⟨t', rfl⟩ := ry
  exact rule i j t t' s _ _ ⟨.int (g i j), H, I.tok _, ⟨_, rfl⟩, q⟩
theorem a7S {f : Value -> Value -> Sem Value} {g : Int -> Int -> Bool}
    (rule : ∀ (i j : Int) (t u : Tok) (s : Shared) (Q : Value -> Shared -> Prop) (E : Value -> Shared -> Prop), Q (.bool (g i j)) s -> wpAny (model X.prog X.w) X.A (f (.int i t) (.int j u)) Q E s) :
    T9 X f (rI0 fun i j => .bl (g i j)) := by
  intro pins s σ H x y v u Q I rx ry h
  obtain ⟨i, j, rfl, rfl, q⟩ := h
  obtain ⟨t, rfl⟩ := rx
  obtain ⟨t', rfl⟩ := ry
  exact rule i j t t' s _ _ ⟨.bl (g i j), H, I, rfl, q⟩
def b2a (i j : Int) : Prop := 0 < j /\ j < 1073741824
def b2u (i j : Int) : Prop := 0 <= j /\ j <= 1000000 /\ i.natAbs < 2 ^ 64
def CMul (i j : Int) : Prop := (-(2 ^ 64) < i /\ i < 2 ^ 64) \/ (-(2 ^ 64) < j /\ j < 2 ^ 64)
theorem CMul.ok {i j : Int} (h : CMul i j) : IntMulOk i j := by
  rcases h with ⟨h1, h2⟩ | ⟨h1, h2⟩
  . exact .of_left (intBits_le_64 h1 h2)
  . exact .of_right (intBits_le_64 h1 h2)
theorem y8 : T9 X (binaryOp .Add) (rI0 fun i j => .int (i + j)) := b0H fun _ _ _ _ _ _ _ q => add_int q
theorem a6W : T9 X (binaryOp .Sub) (rI0 fun i j => .int (i - j)) := b0H fun _ _ _ _ _ _ _ q => sub_int q
theorem a3J : T9 X (binaryOp .Mult) (rI CMul fun i j => .int (i * j)) := opI fun _ _ _ _ _ _ _ hc q => mul_int q hc.ok
theorem V7 : T9 X (binaryOp .FloorDiv) (rI b2a fun i j => .int (i / j)) := opI fun i j _ _ _ _ _ hc q => by
  have h1 : (0 : Int) < j := hc.1
  have h2 : j < 1073741824 := hc.2
  exact floordiv_int (by omega) (by rw [Int.fdiv_eq_ediv_of_nonneg i (by omega)]; exact q) (.inl (PyProof.noPylong_small (by omega)))
theorem x6 : T9 X (binaryOp .Mod) (rI (fun _ j => 0 < j) fun i j => .int (i % j)) := opI fun i j _ _ _ _ _ hc q => by
  have h1 : (0 : Int) < j := hc
  exact mod_int' (by omega) (by rw [Int.fmod_eq_emod_of_nonneg i (by omega)]; exact q)
theorem a5U : T9 X (binaryOp .Pow) (rI b2u fun i j => .int (i ^ j.toNat)) := opI fun _ _ _ _ _ _ _ hc q => pow_int_small hc.1 hc.2.1 hc.2.2 q
theorem unI {f : Value -> Sem Value} {g : Int -> Int}
    (rule : ∀ (i : Int) (t : Tok) (s : Shared) (Q : Value -> Shared -> Prop) (E : Value -> Shared -> Prop), Q (.int (g i) s.toks) { s with toks := s.toks + 1 } -> wpAny (model X.prog X.w) X.A (f (.int i t)) Q E s) :
    UnR X f (rU fun i => .int (g i)) := by
  intro pins s σ H x v Q I rx h
  obtain ⟨i, rfl, q⟩ := h
  obtain ⟨t, rfl⟩ := rx
  exact rule i t s _ _ ⟨.int (g i), H, I.tok _, ⟨_, rfl⟩, q⟩
theorem C2 : UnR X (unaryOp .USub) (rU fun i => .int (-i)) := unI fun _ _ _ _ _ q => neg_int q
end
def b1t : V -> V -> Bool
  | .non, .non => true | .non, .int _ => true | .int _, .non => true | .non, .bl _ => true | .bl _, .non => true | .non, .str _ => true | .str _, .non => true
  | .int _, .int _ => true | .bl _, .bl _ => true | .str _, .str _ => true | .byt _, .byt _ => true
  | .int _, .str _ => true | .str _, .int _ => true | .bl _, .str _ => true | .str _, .bl _ => true
  | _, _ => false
def rEq : R2 := fun x y H Q => b1t x y = true /\ Q (.bl (decide (x = y))) H
def rNe : R2 := fun x y H Q => b1t x y = true /\ Q (.bl (!decide (x = y))) H
theorem a4d {i j : Int} : decide (V.int i = V.int j) = (i == j) := by
  rw [Bool.eq_iff_iff]
  simp
theorem a6X {i j : Bool} : decide (V.bl i = V.bl j) = (i == j) := by
  rw [Bool.eq_iff_iff]
  simp
theorem a4x {i j : Str} : decide (V.str i = V.str j) = (i == j) := by
  rw [Bool.eq_iff_iff]
  simp
theorem a3Y {i j : Array UInt8} : decide (V.byt i = V.byt j) = (i.toList == j.toList) := by
  rw [Bool.eq_iff_iff]
  cases i
  cases j
  simp
section
variable {X : Cx} {a b c : Expr} {ta tb tc : TE} {pos : Pos}
theorem p8 {pins : List (Addr × Obj)} {σ : St} {H : Hp} {s : Shared} {Q : VK} {k k' : Bool} (I : Inv X pins σ H s) (q : Q (.bl k) H) (e : k = k') : EP X pins σ Q (.bool k') s := by
  subst e
  exact ⟨.bl k, H, I, rfl, q⟩
theorem T3 : T9 X (compareOp .Eq) rEq := by
  intro pins s σ H x y v u Q I rx ry h
  obtain ⟨hs, q⟩ := h
  cases x with
  | non =>
    cases rx
    cases y with
    | non => cases ry; exact PySem.EqNone.eq_none_none (p8 I q (by simp))
    | bl j => cases ry; exact PySem.EqNone.eq_none_bool (p8 I q (by simp))
    | int j => obtain ⟨t', rfl⟩ := ry; exact PySem.EqNone.eq_none_int (p8 I q (by simp))
    | str j => obtain ⟨t', rfl⟩ := ry; exact PySem.EqNone.eq_none_str (p8 I q (by simp))
    | _ => exact absurd (show false = true from hs) Bool.false_ne_true
  | bl i =>
    cases rx
    cases y with
    | non => cases ry; exact PySem.EqNone.eq_bool_none (p8 I q (by simp))
    | bl j => cases ry; exact eq_bool (p8 I q a6X)
    | str j => obtain ⟨t', rfl⟩ := ry; exact PySem.EqMixed.eq_bool_str (p8 I q (by simp))
    | _ => exact absurd (show false = true from hs) Bool.false_ne_true
  | int i =>
    obtain ⟨t, rfl⟩ := rx
    cases y with
    | non => cases ry; exact PySem.EqNone.eq_int_none (p8 I q (by simp))
    | int j => obtain ⟨t', rfl⟩ := ry; exact eq_int (p8 I q a4d)
    | str j => obtain ⟨t', rfl⟩ := ry; exact PySem.EqMixed.eq_int_str (p8 I q (by simp))
    | _ => exact absurd (show false = true from hs) Bool.false_ne_true
  | str i =>
    obtain ⟨t, rfl⟩ := rx
    cases y with
    | non => cases ry; exact PySem.EqNone.eq_str_none (p8 I q (by simp))
    | bl j => cases ry; exact PySem.EqMixed.eq_str_bool (p8 I q (by simp))
    | int j => obtain ⟨t', rfl⟩ := ry; exact PySem.EqMixed.eq_str_int (p8 I q (by simp))
    | str j => obtain ⟨t', rfl⟩ := ry; exact eq_str (p8 I q a4x)
    | _ => exact absurd (show false = true from hs) Bool.false_ne_true
  | byt i =>
    obtain ⟨t, rfl⟩ := rx
    cases y with
    | byt j => obtain ⟨t', rfl⟩ := ry; exact W.eq_bytes (p8 I q a3Y)
    | _ => exact absurd (show false = true from hs) Bool.false_ne_true
  | _ => cases y <;> exact absurd (show false = true from hs) Bool.false_ne_true
theorem a6p : T9 X (compareOp .NotEq) rNe := by
  intro pins s σ H x y v u Q I rx ry h
  obtain ⟨hs, q⟩ := h
  cases x with
  | non =>
    cases rx
    cases y with
    | non => cases ry; exact PySem.EqNone.ne_none_none (p8 I q (by simp))
    | bl j => cases ry; exact PySem.EqNone.ne_none_bool (p8 I q (by simp))
    | int j => obtain ⟨t', rfl⟩ := ry; exact PySem.EqNone.ne_none_int (p8 I q (by simp))
    | str j => obtain ⟨t', rfl⟩ := ry; exact PySem.EqNone.ne_none_str (p8 I q (by simp))
    | _ => exact absurd (show false = true from hs) Bool.false_ne_true
  | bl i =>
    cases rx
    cases y with
    | non => cases ry; exact PySem.EqNone.ne_bool_none (p8 I q (by simp))
    | bl j => cases ry; exact ne_bool (p8 I q (congrArg not a6X))
    | str j => obtain ⟨t', rfl⟩ := ry; exact PySem.EqMixed.ne_bool_str (p8 I q (by simp))
    | _ => exact absurd (show false = true from hs) Bool.false_ne_true
  | int i =>
    obtain ⟨t, rfl⟩ := rx
    cases y with
    | non => cases ry; exact PySem.EqNone.ne_int_none (p8 I q (by simp))
    | int j => obtain ⟨t', rfl⟩ := ry; exact ne_int (p8 I q (congrArg not a4d))
    | str j => obtain ⟨t', rfl⟩ := ry; exact PySem.EqMixed.ne_int_str (p8 I q (by simp))
    | _ => exact absurd (show false = true from hs) Bool.false_ne_true
  | str i =>
    obtain ⟨t, rfl⟩ := rx
    cases y with
    | non => cases ry; exact PySem.EqNone.ne_str_none (p8 I q (by simp))
    | bl j => cases ry; exact PySem.EqMixed.ne_str_bool (p8 I q (by simp))
    | int j => obtain ⟨t', rfl⟩ := ry; exact PySem.EqMixed.ne_str_int (p8 I q (by simp))
    | str j => obtain ⟨t', rfl⟩ := ry; exact ne_str (p8 I q (congrArg not a4x))
    | _ => exact absurd (show false = true from hs) Bool.false_ne_true
  | byt i =>
    obtain ⟨t, rfl⟩ := rx
    cases y with
    | byt j => obtain ⟨t', rfl⟩ := ry; exact W.ne_bytes (p8 I q (congrArg not a3Y))
    | _ => exact absurd (show false = true from hs) Bool.false_ne_true
  | _ => cases y <;> exact absurd (show false = true from hs) Bool.false_ne_true
theorem a0y : T9 X (compareOp .Lt) (rI0 fun i j => .bl (decide (i < j))) := a7S fun _ _ _ _ _ _ _ q => lt_int q
theorem a6f : T9 X (compareOp .LtE) (rI0 fun i j => .bl (decide (i <= j))) := a7S fun _ _ _ _ _ _ _ q => le_int q
theorem a0O : T9 X (compareOp .Gt) (rI0 fun i j => .bl (decide (j < i))) := a7S fun _ _ _ _ _ _ _ q => gt_int q
theorem a6Q : T9 X (compareOp .GtE) (rI0 fun i j => .bl (decide (j <= i))) := a7S fun _ _ _ _ _ _ _ q => ge_int q
theorem a1K : T9 X (compareOp .Is) (fun x y H Q => y = .non /\ Q (.bl (decide (x = .non))) H) := by
  intro pins s σ H x y v u Q I rx ry h
  obtain ⟨rfl, q⟩ := h
  cases ry
  refine is_none_gen (p8 I q ?_)
  cases x <;> first
    | (cases rx; rfl)
    | (obtain ⟨t, rfl⟩ := rx; rfl)
theorem a7I : T9 X (compareOp .IsNot) (fun x y H Q => y = .non /\ Q (.bl (!decide (x = .non))) H) := by
  intro pins s σ H x y v u Q I rx ry h
  obtain ⟨rfl, q⟩ := h
  cases ry
  refine isnot_none_gen (p8 I q ?_)
  cases x <;> first
    | (cases rx; rfl)
    | (obtain ⟨t, rfl⟩ := rx; rfl)
theorem j8 (b : Expr) {op : CmpOp} (h : op ≠ .In := by decide) (h2 : op ≠ .NotIn := by decide) : behindInMarks op b = false := by
  have e1 : (op == CmpOp.In) = false := by cases op <;> first | rfl | exact absurd rfl h
  have e2 : (op == CmpOp.NotIn) = false := by cases op <;> first | rfl | exact absurd rfl h2
  cases b <;> simp [behindInMarks, e1, e2]
theorem M8 {op : CmpOp} {r : R2} (ho : T9 X (compareOp op) r) (ha : PE X a ta) (hb : PE X b tb) (hm : behindInMarks op b = false) : PE X (.Compare a [op] [b] pos) (tOp r ta tb) := by
  intro pins s σ H Q I h
  exact wpAny_Compare1 (a9A ha hb I h fun v u s2 x y H2 I2 rx ry q => ho pins s2 σ H2 x y v u Q I2 rx ry q) hm
def a8Z (t : TE) : TT := fun σ H Q => t σ H fun x H' => ∃ k, x = .bl k /\ Q k H'
theorem j4 {op : CmpOp} {r : R2} (ho : T9 X (compareOp op) r) (ha : PE X a ta) (hb : PE X b tb) (hm : behindInMarks op b = false) : PT X (.Compare a [op] [b] pos) (a8Z (tOp r ta tb)) := by
  intro pins s σ H Q I h
  refine wpAny_isTrue_Compare1 (t8 (ha pins s σ H _ I h) fun v s1 ⟨x, H1, I1, r1, q1⟩ => t8 (hb pins s1 σ H1 _ I1 q1) fun u s2 ⟨y, H2, I2, r2, q2⟩ =>
    t8 (ho pins s2 σ H2 x y v u _ I2 r1 r2 q2) fun c s3 ⟨z, H3, I3, r3, k, e, q3⟩ => ?_) hm
  subst e
  cases r3
  exact wpAny_truthy_bool ⟨H3, I3, q3⟩
def a6I (r r' : R2) (ta tb tc : TE) : TE := fun σ H Q => ta σ H fun x H1 => tb σ H1 fun y H2 => r x y H2 fun z H3 => ∃ k, z = .bl k ∧
  (if k = true then tc σ H3 fun w' H4 => r' y w' H4 Q else Q (.bl false) H3)
theorem a5J {op op' : CmpOp} {r r' : R2} (ho : T9 X (compareOp op) r) (ho' : T9 X (compareOp op') r') (ha : PE X a ta) (hb : PE X b tb) (hc : PE X c tc)
    (hm : lastMarks [op, op'] [b, c] = false := by with_unfolding_all rfl) : PE X (.Compare a [op, op'] [b, c] pos) (a6I r r' ta tb tc) := by
  intro pins s σ H Q I h
  refine Compare_chain (t8 (ha pins s σ H _ I h) fun v s1 ⟨x, H1, I1, r1, q1⟩ => chain_link (t8 (hb pins s1 σ H1 _ I1 q1) fun u s2 ⟨y, H2, I2, r2, q2⟩ =>
    t8 (ho pins s2 σ H2 x y v u _ I2 r1 r2 q2) fun d s3 ⟨z, H3, I3, r3, k, e, q3⟩ => ?_)) hm
  subst e
  cases r3
  refine wpAny_truthy_bool ?_
  cases k with
  | false => exact ite_ff ⟨.bl false, H3, I3, rfl, q3⟩
  | true => exact ite_tt (chain_last (t8 (hc pins s3 σ H3 _ I3 q3) fun w' s4 ⟨z', H4, I4, r4, q4⟩ => ho' pins s4 σ H4 y z' u w' Q I4 r2 r4 q4))
theorem a6v {op op' : CmpOp} {r r' : R2} (ho : T9 X (compareOp op) r) (ho' : T9 X (compareOp op') r') (ha : PE X a ta) (hb : PE X b tb) (hc : PE X c tc)
    (hm : lastMarks [op, op'] [b, c] = false := by with_unfolding_all rfl) : PT X (.Compare a [op, op'] [b, c] pos) (a8Z (a6I r r' ta tb tc)) := by
  intro pins s σ H Q I h
  refine isTrue_chain (t8 (ha pins s σ H _ I h) fun v s1 ⟨x, H1, I1, r1, q1⟩ => test_link (t8 (hb pins s1 σ H1 _ I1 q1) fun u s2 ⟨y, H2, I2, r2, q2⟩ =>
    t8 (ho pins s2 σ H2 x y v u _ I2 r1 r2 q2) fun d s3 ⟨z, H3, I3, r3, k, e, q3⟩ => ?_)) hm
  subst e
  cases r3
  refine wpAny_truthy_bool ?_
  cases k with
  | false =>
    obtain ⟨k', e', q'⟩ := q3
    cases e'
    exact ite_ff ⟨H3, I3, q'⟩
  | true =>
    refine ite_tt (test_last (t8 (hc pins s3 σ H3 _ I3 q3) fun w' s4 ⟨z', H4, I4, r4, q4⟩ => t8 (ho' pins s4 σ H4 y z' u w' _ I4 r2 r4 q4) fun d' s5 ⟨z2, H5, I5, r5, k2, e2, q5⟩ => ?_))
    subst e2
    cases r5
    exact wpAny_truthy_bool ⟨H5, I5, q5⟩
def b0y (K : W.Frag) (x : V) (H : Hp) (k : Bool) : Prop :=
  match x with
  | .non => k = false
  | .bl b => k = b
  | .int i => k = (i != 0)
  | .str y => y.length <= sizeLine /\ k = ((y.length : Int) != 0)
  | .byt y => y.size <= sizeLine /\ k = ((y.size : Int) != 0)
  | .ref p => (∃ xs, SqL K H p xs /\ k = !xs.isEmpty) \/ (∃ xs, SqT K H p xs /\ k = !xs.isEmpty) \/ ∃ kvs, H p = some (.dK kvs) /\ k = !kvs.isEmpty
  | _ => False
theorem a3A {κ : Type} {kvs : List (κ × V)} {vs : List (κ × Value)} (r : KV kvs vs) : (!vs.isEmpty) = !kvs.isEmpty := by
  cases r <;> rfl
theorem a1c {xs : List V} {its : List Value} (r : Vals xs its) : (!its.toArray.isEmpty) = !xs.isEmpty := by
  cases r <;> simp
theorem a0G : (sizeLine : Nat) < 2 ^ 63 := by rw [sizeLine_eq]; decide
theorem b0d : b2c X (fun x H Q => ∃ k, b0y X.K x H k /\ Q k H) := by
  intro pins s σ H x v Q I rx h
  obtain ⟨k, e, q⟩ := h
  have hl := a0G
  have hs : sizeLine = 16777216 := sizeLine_eq
  cases x with
  | non =>
    cases rx
    have e' : k = false := e
    subst e'
    exact truthy_none ⟨H, I, q⟩
  | bl b =>
    cases rx
    have e' : k = b := e
    subst e'
    exact wpAny_truthy_bool ⟨H, I, q⟩
  | int i =>
    obtain ⟨t, rfl⟩ := rx
    have e' : k = (i != 0) := e
    subst e'
    exact PySem.P.truthy_int ⟨H, I, q⟩
  | str y =>
    obtain ⟨t, rfl⟩ := rx
    obtain ⟨hy, e'⟩ : y.length <= sizeLine /\ k = ((y.length : Int) != 0) := e
    subst e'
    exact PySem.P.truthy_str (by omega) ⟨H, I.tok _, q⟩
  | byt y =>
    obtain ⟨t, rfl⟩ := rx
    obtain ⟨hy, e'⟩ : y.size <= sizeLine /\ k = ((y.size : Int) != 0) := e
    subst e'
    exact W.truthy_bytes (by omega) ⟨H, I.tok _, q⟩
  | ref p =>
    cases rx
    have e' : (∃ xs, SqL X.K H p xs /\ k = !xs.isEmpty) \/ (∃ xs, SqT X.K H p xs /\ k = !xs.isEmpty) \/ ∃ kvs, H p = some (.dK kvs) /\ k = !kvs.isEmpty := e
    rcases e' with ⟨xs, hx, e'⟩ | ⟨xs, hx, e'⟩ | ⟨kvs, hx, e'⟩
    . subst e'
      obtain ⟨its, r, pl, hz⟩ := I.list hx
      have hlen := r.length
      exact wpAny_truthy_list pl.isList (by simp only [List.size_toArray]; omega) ⟨H, I.tok _, by rw [a1c r]; exact q⟩
    . subst e'
      obtain ⟨its, r, pl, hz⟩ := I.tuple hx
      have hlen := r.length
      exact truthy_tuple pl (by simp only [List.size_toArray]; omega) ⟨H, I.tok _, by rw [a1c r]; exact q⟩
    . subst e'
      obtain ⟨hz, hS, vs, r, m⟩ : kvs.length <= sizeLine /\ (p == sysModules) = false /\ ∃ vs, KV kvs vs /\ s.heap.DictOf (a2c X.prog X.w) p vs := I.hok p _ hx
      have hlen : kvs.length = vs.length := Paired.length r
      exact wpAny_truthy_dict hS m (by omega) ⟨H, I.tok _, by rw [a3A r]; exact q⟩
  | _ => exact (show False from e).elim
theorem a5L (ha : PE X a ta) (he : ∀ whole, isTrue a X.env whole = (do let v <- whole; standAt a.pos; holding [v] (truthy v))) :
    PT X a (fun σ H Q => ta σ H fun x H' => ∃ k, b0y X.K x H' k /\ Q k H') := by
  intro pins s σ H Q I h
  exact isTrue_plain (t8 (ha pins s σ H _ I h) fun v s1 ⟨x, H1, I1, r1, q1⟩ => b0d pins s1 σ H1 x v Q I1 r1 q1) (he _)
theorem P7 {x : V} {us : List Value} (r : Vals [x] us) : ∃ u, us = [u] /\ RelV x u := by
  cases r with
  | cons r1 r2 => cases r2; exact ⟨_, rfl, r1⟩
theorem a1s {x y : V} {us : List Value} (r : Vals [x, y] us) : ∃ u w', us = [u, w'] /\ RelV x u /\ RelV y w' := by
  cases r with
  | cons r1 r2 =>
    cases r2 with
    | cons r3 r4 => cases r4; exact ⟨_, _, rfl, r1, r3⟩
theorem a7k : G6 X (.builtin "abs") (fun xs H Q => ∃ i, xs = [.int i] /\ Q (.int (if i < 0 then -i else i)) H) := by
  intro pins s σ H xs us Q I r h
  obtain ⟨i, rfl, q⟩ := h
  obtain ⟨u, rfl, t, rfl⟩ := P7 r
  exact call_abs_int fun u tk => ⟨.int (if i < 0 then -i else i), H, I.tok _, ⟨_, rfl⟩, q⟩
theorem a1p : G6 X (.type "int") (fun xs H Q => (∃ i, xs = [.int i] /\ Q (.int i) H) \/ ∃ k, xs = [.bl k] /\ Q (.int (if k then 1 else 0)) H) := by
  intro pins s σ H xs us Q I r h
  rcases h with ⟨i, rfl, q⟩ | ⟨k, rfl, q⟩
  . obtain ⟨u, rfl, t, rfl⟩ := P7 r
    exact call_int_int ⟨.int i, H, I, ⟨_, rfl⟩, q⟩
  . obtain ⟨u, rfl, r1⟩ := P7 r
    cases r1
    exact call_int_bool ⟨.int (if k then 1 else 0), H, I.tok _, ⟨_, rfl⟩, q⟩
end
end L2
namespace L2
open PySem PySem.Spec PyProof.Rows
structure ObjM (h : Heap) (x dx C : Addr) (mA : Str -> Option Value) : Prop where
  obj : h.get? x = some (W.instObj C dx)
  ns : h.Ns1 dx mA
  ne : dx ≠ x
theorem a5b {h : Heap} {dx : Addr} {mA : Str -> Option Value} (n : h.Ns1 dx mA) : ∃ od, h.get? dx = some od /\ ∀ name, W.lookIn name od = some (mA name) := by
  obtain ⟨o, es, ep, ho, hd, hk, _, hm⟩ := n
  refine ⟨o, ho, fun name => ?_⟩
  have e := hm name
  unfold nsFind findBy at e
  rw [<- Array.find?_toList] at e
  unfold W.lookIn
  rw [hd]
  dsimp only
  split
  . rename_i y q
    rw [q] at e
    exact congrArg some e
  . rename_i q
    rw [q] at e
    have a : es.toList.any (·.refKey) = false := by
      rw [List.any_eq_false]
      intro y hy
      obtain ⟨z, t, hkey⟩ := hk y (Array.mem_toList_iff.mp hy)
      simp [DictEntry.refKey, hkey]
    have a' : ¬ es.toList.any (·.refKey) = true := by rw [a]; exact Bool.false_ne_true
    rw [if_neg a']
    exact congrArg some e
theorem ObjM.look {h : Heap} {x dx C : Addr} {mA : Str -> Option Value} (I : ObjM h x dx C mA) : ∃ od, W.InstAt h x (W.instObj C dx) C (some od) /\ ∀ name, W.lookIn name od = some (mA name) :=
  let ⟨od, ho, hl⟩ := a5b I.ns
  ⟨od, ⟨I.obj, rfl, rfl, ho⟩, hl⟩
section
variable {prog : Program} {w : World} {A : Around} {E : Value -> Shared -> Prop} {s : Shared} {K : W.Frag} {x dx C f : Addr} {mA : Str -> Option Value} {name : Str} {v : Value}
theorem a7G {expr : Bool} {Q : Value -> Shared -> Prop} (X : K.In s.heap) (I : ObjM s.heap x dx C mA) (hg : W.plainGet K C name = true) (hh : W.hasDictIn K C = true)
    (ha : W.findIn K (.ref C) name = some none) (hv : mA name = some v) (hv' : W.handedIn v = true) (h : Q v { s with toks := s.toks + 1 }) :
    wpAny (model prog w) A (getAttr (.ref x) name expr) Q E s := by
  obtain ⟨od, J, hl⟩ := I.look
  exact W.get_value X J (W.plainGet_of hg).1 (W.findObj_own hh ha rfl (by rw [hl, hv])) hv' h
theorem a5H {pl : Sem Bool} {Q : Value × List Value -> Shared -> Prop} (X : K.In s.heap) (I : ObjM s.heap x dx C mA) (hg : W.plainGet K C name = true)
    (hf : W.findIn K (.ref C) name = some (some (.ref f))) (ht : W.isFn K (.ref f) = true) (hv : mA name = none) (h : Q (.ref f, [.ref x]) s) :
    wpAny (model prog w) A (getMethod (.ref x) name pl) Q E s := by
  obtain ⟨od, J, hl⟩ := I.look
  exact W.method_fn X J (W.plainGet_of hg).1 (W.plainGet_of hg).2 hf (beq_iff_eq.mp ht) (by show (W.lookIn name od).map (·.isSome) = some false; rw [hl, hv]; rfl) h
theorem a7R {ns : List Str} {Q : Unit -> Shared -> Prop} (X : K.In s.heap) (I : ObjM s.heap x dx C mA)
    (hs : W.findIn K (.ref C) "__setattr__" = some (some (.builtin "object.__setattr__"))) (hp : W.plainOver K C = true) (ht : W.takerIn K C name = some none) (hh : W.hasDictIn K C = true)
    (hw : PySem.Within mA ns) (hsz : ns.length <= sizeLine)
    (h : ∀ h', ObjM h' x dx C (fun y => if y = name then some v else mA y) -> Heap.SameBut dx s.heap h' -> Q () { s with heap := h', toks := s.toks + 2 }) :
    wpAny (model prog w) A (setAttr (.ref x) name v) Q E s := by
  obtain ⟨od, J, hl⟩ := I.look
  refine W.set_plain X J hs (W.osa_open (s := { s with toks := s.toks + 1 }) (r := none) X J hp ht fun b => ?_)
  obtain ⟨cd, hc, hd'⟩ := W.any_some hh
  have hx : s.heap.get? x = some ⟨.ref C, some dx, .plain, #[]⟩ := I.obj
  refine wpAny_bind (wpAny_pure (wpAny_bind (wpAny_bind (wpAny_loadPart hx (wpAny_bind (W.Looks.here (s := { s with toks := s.toks + 1 }) (W.looks_clsIn X hc) ?_))))))
  rw [hd']
  refine wpAny_pure (a := some dx) (wpAny_bind (wpAny_pure (wpAny_bind ?_)))
  refine wpAny_nsSet1 (s := { s with toks := s.toks + 1 }) I.ns fun h' hn2 hs2 => ?_
  obtain ⟨oD, esD, epD, hoD, hdD, hcD⟩ := hn2.count (PySem.Within.cons name v hw)
  refine wpAny_bind (wpAny_lookBehind hoD (by rw [hdD]; exact pastItsLine_dict (Nat.le_trans hcD (by rw [List.length_cons]; omega))) ?_)
  exact wpAny_pure (h _ ⟨(hs2.2 _ (Ne.symm I.ne)).trans I.obj, hn2, I.ne⟩ hs2)
theorem a7j {R : Result -> Shared -> Prop} {vs : List Value} {kw : List (Str × Value)} (X : K.In s.heap) (hm : W.makesIn K C = true)
    (hi : W.findIn K (.ref C) "__init__" = some (some (.ref f))) (hf : W.typeIn K (.ref f) = some (.type "function"))
    (h : codeAny (model prog w) (A.under (.builtin "type.__call__" ⟨.ref C :: vs, kw⟩)) (.call (.ref f) ⟨.ref (s.heap.objs.size + 1) :: vs, kw⟩) (W.InitBack (s.heap.objs.size + 1) R)
      { s with heap := (s.heap.push W.emptyDict).push (W.instObj C s.heap.objs.size) }) :
    codeAny (model prog w) A (.call (.ref C) ⟨vs, kw⟩) R s := by
  obtain ⟨hh, g, d, t, os⟩ := s
  exact W.make_core (W.makes_of X hm) (W.looks_findIn X hi) (fun self => W.bind_fn X self hf) (.inl rfl) h
end
def G9 (f : Str) (v : V) : List (Str × V) -> List (Str × V)
  | [] => [(f, v)]
  | (g, x) :: r => if g = f then (g, v) :: r else (g, x) :: G9 f v r
theorem Z8 (f g : Str) (v : V) : ∀ fs : List (Str × V), (G9 f v fs).lookup g = if g = f then some v else fs.lookup g
  | [] => by
    show List.lookup g [(f, v)] = _
    by_cases h : g = f
    . have hb : (g == f) = true := beq_iff_eq.mpr h
      simp only [List.lookup, hb, if_pos h]
    . have hb : (g == f) = false := beq_eq_false_iff_ne.mpr h
      simp only [List.lookup, hb, if_neg h]
  | (k, x) :: r => by
    have ih := Z8 f g v r
    rw [show G9 f v ((k, x) :: r) = (if k = f then (k, v) :: r else (k, x) :: G9 f v r) from rfl]
    by_cases hk : k = f
    . rw [if_pos hk]
      by_cases h : g = k
      . have hb : (g == k) = true := beq_iff_eq.mpr h
        simp only [List.lookup, hb, if_pos (h.trans hk)]
      . have hb : (g == k) = false := beq_eq_false_iff_ne.mpr h
        simp only [List.lookup, hb, if_neg (fun e : g = f => h (e.trans hk.symm))]
    . rw [if_neg hk]
      by_cases h : g = k
      . have hb : (g == k) = true := beq_iff_eq.mpr h
        simp only [List.lookup, hb, if_neg (fun e : g = f => hk (h.symm.trans e))]
      . have hb : (g == k) = false := beq_eq_false_iff_ne.mpr h
        simp only [List.lookup, hb]
        exact ih
theorem Z3 (f : Str) (v : V) : ∀ fs : List (Str × V), f ∈ (G9 f v fs).map (·.1) /\ ∀ g, g ∈ fs.map (·.1) -> g ∈ (G9 f v fs).map (·.1)
  | [] => ⟨by simp [G9], fun g h => by simp at h⟩
  | (k, x) :: r => by
    obtain ⟨i1, i2⟩ := Z3 f v r
    rw [show G9 f v ((k, x) :: r) = (if k = f then (k, v) :: r else (k, x) :: G9 f v r) from rfl]
    by_cases hk : k = f
    . rw [if_pos hk]
      subst hk
      exact ⟨by simp, fun g h => by simpa using h⟩
    . rw [if_neg hk]
      refine ⟨?_, fun g h => ?_⟩
      . rw [List.map_cons]
        exact List.mem_cons_of_mem _ i1
      . rw [List.map_cons] at h ⊢
        rcases List.mem_cons.mp h with e | e
        . exact List.mem_cons.mpr (.inl e)
        . exact List.mem_cons_of_mem _ (i2 g e)
theorem Z7 (f : Str) (v : V) : ∀ fs : List (Str × V), (G9 f v fs).length <= fs.length + 1
  | [] => by simp [G9]
  | (k, x) :: r => by
    have ih := Z7 f v r
    rw [show G9 f v ((k, x) :: r) = (if k = f then (k, v) :: r else (k, x) :: G9 f v r) from rfl]
    by_cases hk : k = f
    . rw [if_pos hk, List.length_cons, List.length_cons]; omega
    . rw [if_neg hk, List.length_cons, List.length_cons]; omega
theorem RelO.some_of {v : V} {o : Option Value} (r : RelO (some v) o) : ∃ u, o = some u /\ RelV v u := by
  cases o with
  | none => exact (show False from r).elim
  | some u => exact ⟨u, rfl, r⟩
theorem RelO.none_of {o : Option Value} (r : RelO none o) : o = none := by
  cases o with
  | none => rfl
  | some u => exact (show False from r).elim
theorem a5z {v : V} {u : Value} (r : RelV v u) : W.handedIn u = true := by
  cases v with
  | non => cases (show u = Value.none from r); rfl
  | bl b => cases (show u = Value.bool b from r); rfl
  | int i => obtain ⟨t, e⟩ := (show ∃ t, u = Value.int i t from r); cases e; rfl
  | str x => obtain ⟨t, e⟩ := (show ∃ t, u = Value.str x t from r); cases e; rfl
  | byt b => obtain ⟨t, e⟩ := (show ∃ t, u = Value.bytes b t from r); cases e; rfl
  | flt b => obtain ⟨t, e⟩ := (show ∃ t, u = Value.float b t from r); cases e; rfl
  | ref a => cases (show u = Value.ref a from r); rfl
  | ty n => cases (show u = Value.type n from r); rfl
section
variable {P : Program} {w : World} {H H' : Hp} {h h' : Heap} {a C dx : Addr} {fs fs' : List (Str × V)}
theorem a0k (hok : HOk P w H h) (e : H a = some (.ins C dx fs)) : ∃ mA, ObjM h a dx C mA /\ (∀ f, RelO (fs.lookup f) (mA f)) /\ PySem.Within mA (fs.map (·.1)) /\ fs.length <= 1000 /\ H dx = some (.own a) := by
  obtain ⟨d, z, ne, ob, mA, n, r, q⟩ := (show ObjOk P w H h a (.ins C dx fs) from hok a _ e)
  exact ⟨mA, ⟨ob, n, ne⟩, r, q, z, d⟩
end
structure Cls (K : W.Frag) (C : Addr) : Prop where
  pg : W.plainGet K C Str.empty = true
  hd : W.hasDictIn K C = true
  po : W.plainOver K C = true
  sa : W.findIn K (.ref C) "__setattr__" = some (some (.builtin "object.__setattr__"))
theorem Cls.get {K : W.Frag} {C : Addr} (c : Cls K C) (f : Str) : W.plainGet K C f = true := c.pg
def NoAttr (K : W.Frag) (C : Addr) (f : Str) : Prop := W.findIn K (.ref C) f = some none
theorem NoAttr.taker {K : W.Frag} {C : Addr} {f : Str} (n : NoAttr K C f) : W.takerIn K C f = some none := by
  unfold W.takerIn
  rw [show W.findIn K (.ref C) f = some none from n]
  rfl
structure Con (K : W.Frag) (C : Addr) (f : Str) (v : V) (u : Value) : Prop where
  at_ : W.findIn K (.ref C) f = some (some u)
  rel : RelV v u
  get : W.specialIn K u "__get__" = some none
  cp : W.copiedNames.contains f = false
structure a3n (K : W.Frag) (C : Addr) (m : Str) (f : Addr) : Prop where
  at_ : W.findIn K (.ref C) m = some (some (.ref f))
  fn : W.isFn K (.ref f) = true
  kp : W.keepIn K (.ref f) = true
section
variable {X : Cx} {pins : List (Addr × Obj)} {σ : St} {H : Hp} {s : Shared} {a C dx : Addr} {fs : List (Str × V)} {f : Str} {v : V} {A : Around} {E : Value -> Shared -> Prop}
theorem a3C {b : Bool} {Q : Value -> Shared -> Prop} (I : Inv X pins σ H s) (e : H a = some (.ins C dx fs)) (c : Cls X.K C) (n : NoAttr X.K C f) (l : fs.lookup f = some v)
    (h : ∀ u s', Inv X pins σ H s' -> RelV v u -> Q u s') : wpAny (model X.prog X.w) A (getAttr (.ref a) f b) Q E s := by
  obtain ⟨mA, O, r, _, _, _⟩ := a0k I.hok e
  obtain ⟨u, hu, ru⟩ := RelO.some_of (v := v) (o := mA f) (by rw [<- l]; exact r f)
  exact a7G I.kIn O (c.get f) c.hd n hu (a5z ru) (h u _ (I.tok _) ru)
theorem M9 {m : Str} {g : Addr} {pl : Sem Bool} {Q : Value × List Value -> Shared -> Prop} (I : Inv X pins σ H s) (e : H a = some (.ins C dx fs)) (c : Cls X.K C) (k : a3n X.K C m g) (l : fs.lookup m = none)
    (h : Q (.ref g, [.ref a]) s) : wpAny (model X.prog X.w) A (getMethod (.ref a) m pl) Q E s := by
  obtain ⟨mA, O, r, _, _, _⟩ := a0k I.hok e
  have hn : mA m = none := RelO.none_of (by rw [<- l]; exact r m)
  exact a5H I.kIn O (c.get m) k.at_ k.fn hn h
theorem a0T {y : V} {u : Value} {Q : Unit -> Shared -> Prop} (I : Inv X pins σ H s) (e : H a = some (.ins C dx fs)) (c : Cls X.K C) (n : NoAttr X.K C f) (hl : fs.length < 1000) (ry : RelV y u)
    (h : ∀ s', Inv X pins σ (j9 H a (.ins C dx (G9 f y fs))) s' -> Q () s') : wpAny (model X.prog X.w) A (setAttr (.ref a) f u) Q E s := by
  obtain ⟨mA, O, r, wi, _, ho⟩ := a0k I.hok e
  have hz : (fs.map (·.1)).length <= sizeLine := by rw [List.length_map, sizeLine_eq]; omega
  refine a7R I.kIn O c.sa c.po n.taker c.hd wi hz fun h' O' sb => h _ ?_
  have hd : ∃ o, h'.get? dx = some o := let ⟨o, _, _, e', _⟩ := O'.ns; ⟨o, e'⟩
  refine I.write (x := a) (e := dx) (by rw [e]; exact True.intro) (.inr ho) (fun b q hb z => (sb.2 b hb).trans z) hd ?_
  refine ⟨by rw [c9 O.ne]; exact ho, ?_, O.ne, O'.obj, _, O'.ns, fun g => ?_, fun g hg => ?_⟩
  . have := Z7 f y fs; omega
  . show RelO ((G9 f y fs).lookup g) (if g = f then some u else mA g)
    rw [Z8]
    by_cases q : g = f
    . rw [if_pos q, if_pos q]; exact ry
    . rw [if_neg q, if_neg q]; exact r g
  . by_cases q : g = f
    . rw [q]; exact (Z3 f y fs).1
    . refine (Z3 f y fs).2 g (wi g fun z => hg ?_)
      show (if g = f then some u else mA g) = none
      rw [if_neg q]; exact z
theorem Inv.made (I : Inv X pins σ H s) : Inv X pins σ (j9 (j9 H s.heap.objs.size (.own (s.heap.objs.size + 1))) (s.heap.objs.size + 1) (.ins C s.heap.objs.size []))
    { s with heap := (s.heap.push W.emptyDict).push (W.instObj C s.heap.objs.size) } := by
  have e1 : (s.heap.push W.emptyDict).get? s.heap.objs.size = some W.emptyDict := Heap.get?_push_size s.heap rfl
  have e2 : ((s.heap.push W.emptyDict).push (W.instObj C s.heap.objs.size)).get? (s.heap.objs.size + 1) = some (W.instObj C s.heap.objs.size) := by
    have := Heap.get?_push_size (s.heap.push W.emptyDict) (o := W.instObj C s.heap.objs.size) rfl
    rwa [Heap.size_push] at this
  have e3 : (s.heap.push W.emptyDict).Ns s.heap.objs.size (fun _ => none) := ⟨W.emptyDict, #[], _, e1, rfl, (fun e he => absurd he (by simp)), fun _ => rfl⟩
  have I1 := I.laid (a := s.heap.objs.size) (o := .own (s.heap.objs.size + 1)) (h' := s.heap.push W.emptyDict) (t' := s.toks) (fun b u q => Heap.get?_push_of_some _ q) (Nat.le_refl _) ⟨_, e1⟩
  refine I1.laid (a := s.heap.objs.size + 1) (o := .ins C s.heap.objs.size []) (t' := s.toks) (fun b u q => Heap.get?_push_of_some _ q) (Nat.le_of_eq (Heap.size_push _ _)) ?_
  have ne : s.heap.objs.size ≠ s.heap.objs.size + 1 := Nat.ne_of_lt (Nat.lt_succ_self _)
  refine ⟨by rw [c9 ne, upd_same], Nat.zero_le _, ne, e2, fun _ => none, (Heap.Ns1.of_empty e3).at fun o q => Heap.get?_push_of_some _ q, fun _ => True.intro, fun y hy => absurd rfl hy⟩
theorem a7E {prog : Program} {w : World} {env : Env} {e : Expr} {f : Str} {pos : Pos} {s : Shared} {Q : Value -> Shared -> Prop} (hb : attributeBase e f env (eval e env) = eval e env)
    (h : wpAny (model prog w) A (eval e env) (fun o s₁ => wpAny (model prog w) A (getAttr o f true) Q E s₁) E s) : wpAny (model prog w) A (eval (.Attribute e f pos) env) Q E s :=
  Attribute_any_ h (by rw [arm_eval_Attribute, hb])
end
def b1v (K : W.Frag) (ta : TE) (f : Str) : TE := fun σ H Q => ta σ H fun x H1 => ∃ a C dx fs v, x = .ref a /\ H1 a = some (.ins C dx fs) /\ Cls K C /\ NoAttr K C f /\ fs.lookup f = some v /\ Q v H1
def b1N (K : W.Frag) (ta tv : TE) (f : Str) : TS := fun D σ H => tv σ H fun y H1 => ta σ H1 fun x H2 => ∃ a C dx fs, x = .ref a /\ H2 a = some (.ins C dx fs) /\ Cls K C /\ NoAttr K C f /\ fs.length < 1000 ∧
  D.nx σ (j9 H2 a (.ins C dx (G9 f y fs)))
section
variable {X : Cx} {o e value : Expr} {f : Str} {pos pos' tpos : Pos} {ta tv : TE}
theorem j3 (he : PE X e ta) (hb : attributeBase e f X.env (eval e X.env) = eval e X.env) : PE X (.Attribute e f pos) (b1v X.K ta f) := by
  intro pins s σ H Q I h
  refine a7E hb (t8 (he pins s σ H _ I h) fun u s1 ⟨x, H1, I1, rx, a, C, dx, fs, v, ex, ea, c, n, l, q⟩ => ?_)
  subst ex
  obtain rfl : u = Value.ref a := rx
  exact a3C I1 ea c n l fun u' s2 I2 ru => ⟨v, H1, I2, ru, q⟩
theorem C3 (ha : PE X o ta) (hv : PE X value tv) (hs : swapsWith value (some (.Attribute o f pos')) pos.line X.env = pure false) : PS X (.Assign [.Attribute o f pos'] value pos) (b1N X.K ta tv f) := by
  intro pins s σ H D I h
  refine plainObj_wpAny_Assign_Attribute (t8 (hv pins s σ H _ I h) fun u s1 ⟨y, H1, I1, ry, q⟩ => t8 (ha pins s1 σ H1 _ I1 q) fun ov s2 ⟨x, H2, I2, rx, a, C, dx, fs, ex, ea, c, n, l, q2⟩ => ?_) hs
  subst ex
  obtain rfl : ov = Value.ref a := rx
  exact a0T I2 ea c n l ry fun s3 I3 => ⟨σ, _, I3, q2⟩
end
section
variable {X : Cx} {pins : List (Addr × Obj)} {σ : St} {H : Hp} {s : Shared} {A : Around} {E : Value -> Shared -> Prop} {Q : Value -> Shared -> Prop} {c : Value} {b : Bool}
inductive Y6 (K : W.Frag) (H : Hp) : V -> Value -> Prop where
  | non : Y6 K H .non (.type "NoneType")
  | bl (x : Bool) : Y6 K H (.bl x) (.type "bool")
  | int (i : Int) : Y6 K H (.int i) (.type "int")
  | str (x : Str) : Y6 K H (.str x) (.type "str")
  | flt (x : UInt64) : Y6 K H (.flt x) (.type "float")
  | lst {a : Addr} {xs : List V} (e : H a = some (.lst xs)) : Y6 K H (.ref a) (.type "list")
  | frz {a : Addr} {o : Obj} {xs : List V} (e : H a = some (.frz o (.lst xs))) : Y6 K H (.ref a) (.type "list")
  | tup {a : Addr} {xs : List V} (e : H a = some (.tup xs)) : Y6 K H (.ref a) (.type "tuple")
  | dK {a : Addr} {kvs : List (Key × V)} (e : H a = some (.dK kvs)) : Y6 K H (.ref a) (.type "dict")
  | dT {a : Addr} {kvs : List (List Key × V)} (e : H a = some (.dT kvs)) : Y6 K H (.ref a) (.type "dict")
  | ins {a C dx : Addr} {fs : List (Str × V)} (e : H a = some (.ins C dx fs)) (cl : Cls K C) (ha : W.findIn K (.ref C) "__class__" = some (some (.builtin "object.__class__")))
      (hn : W.specialIn K (.builtin "object.__class__") "__get__" = some (some (.builtin "getset_descriptor.__get__"))) (htk : W.takesIn K (.builtin "object.__class__") = some true)
      (hm : W.mroIn K C (.type "object") = some true) : Y6 K H (.ref a) (.ref C)
theorem a4J {x : V} {u t : Value} (I : Inv X pins σ H s) (rx : RelV x u) (ty : Y6 X.K H x t) (e : W.kitOne X.K t c = some b) (h : ∀ tk, Q (.bool b) { s with toks := tk }) :
    wpAny (model X.prog X.w) A (call (.builtin "isinstance") [u, c]) Q E s := by
  cases ty with
  | non => cases (show u = Value.none from rx); exact W.kia_one W.kitx_none I.kIn True.intro e (fun z => nomatch z) h
  | bl y => cases (show u = Value.bool y from rx); exact W.kia_one W.kitx_bool I.kIn True.intro e (fun z => nomatch z) h
  | int i => obtain ⟨t, q⟩ := (show ∃ t, u = Value.int i t from rx); cases q; exact W.kia_one W.kitx_int I.kIn True.intro e (fun z => nomatch z) h
  | str y => obtain ⟨t, q⟩ := (show ∃ t, u = Value.str y t from rx); cases q; exact W.kia_one W.kitx_str I.kIn True.intro e (fun z => nomatch z) h
  | flt y => obtain ⟨t, q⟩ := (show ∃ t, u = Value.float y t from rx); cases q; exact W.kia_one W.kitx_float I.kIn True.intro e (fun z => nomatch z) h
  | @lst a xs ea =>
    cases (show u = Value.ref a from rx)
    obtain ⟨_, _, n, _, h1⟩ := (show ObjOk X.prog X.w H s.heap a (.lst xs) from I.hok a _ ea)
    exact W.kia_one W.kitx_list I.kIn ⟨_, h1, rfl⟩ e (fun z => nomatch z) h
  | @frz a ob xs ea =>
    cases (show u = Value.ref a from rx)
    obtain ⟨_, _, _, n, _, h1⟩ := (show ObjOk X.prog X.w H s.heap a (.frz ob (.lst xs)) from I.hok a _ ea)
    exact W.kia_one W.kitx_list I.kIn ⟨_, h1, rfl⟩ e (fun z => nomatch z) h
  | @tup a xs ea =>
    cases (show u = Value.ref a from rx)
    obtain ⟨_, _, _, p⟩ := (show ObjOk X.prog X.w H s.heap a (.tup xs) from I.hok a _ ea)
    obtain ⟨o, h1, h2, _⟩ := p
    exact W.kia_one W.kitx_tuple I.kIn ⟨o, h1, h2⟩ e (fun z => nomatch z) h
  | @dK a kvs ea =>
    cases (show u = Value.ref a from rx)
    obtain ⟨_, _, vs, _, p⟩ := (show ObjOk X.prog X.w H s.heap a (.dK kvs) from I.hok a _ ea)
    obtain ⟨o, es, ep, h1, h2, _⟩ := p
    exact W.kia_one W.kitx_dict I.kIn ⟨o, h1, h2.1⟩ e (fun z => nomatch z) h
  | @dT a kvs ea =>
    cases (show u = Value.ref a from rx)
    obtain ⟨_, _, xs, _, o, es, ep, h1, h2, _⟩ := (show ObjOk X.prog X.w H s.heap a (.dT kvs) from I.hok a _ ea)
    exact W.kia_one W.kitx_dict I.kIn ⟨o, h1, h2.1⟩ e (fun z => nomatch z) h
  | @ins a C dx fs ea cl ha hn htk hm =>
    cases (show u = Value.ref a from rx)
    obtain ⟨mA, O, _⟩ := a0k I.hok ea
    obtain ⟨od, J, _⟩ := O.look
    exact W.kia_one (W.kitx_own (cl.get _) cl.hd ha hn htk hm) I.kIn J e (fun z => nomatch z) h
end
end L2
namespace L2
open PySem PySem.Spec PyProof.Rows
structure Room (k : Nat) (A : Around) : Prop where
  hd : A.handled = none
  dp : A.depth + 3 * k + 5 < recursionLimit
  un : A.units + 16 * k + 200 < cLine
theorem Room.mono {j k : Nat} {A : Around} (r : Room k A) (h : j <= k) : Room j A := ⟨r.hd, by have := r.dp; omega, by have := r.un; omega⟩
theorem Room.deeper {k : Nat} {A : Around} (r : Room (k + 1) A) (env : Env) : Room k (A.deeper env) :=
  ⟨r.hd, by have := r.dp; show A.depth + 1 + 3 * k + 5 < _; omega, by have := r.un; show A.units + 3 + 16 * k + 200 < _; omega⟩
theorem Room.in1 {k : Nat} {A : Around} (r : Room (k + 1) A) : Room k A.in1 :=
  ⟨r.hd, by have := r.dp; show A.depth + 3 * k + 5 < _; omega, by have := r.un; show A.units + 1 + 16 * k + 200 < _; omega⟩
theorem a3j {A : Around} {C : Addr} {us : List Value} {kw : List (Str × Value)} : (A.under (.builtin "type.__call__" ⟨.ref C :: us, kw⟩)).depth = A.depth + 1 := by
  first | rfl | simp [Around.under, Code.weight, Code.isCreation, Code.isGuard, Code.isCaller, Code.frames, Code.isFrame, guardIds]
theorem a2Y {A : Around} {C : Addr} {us : List Value} {kw : List (Str × Value)} : (A.under (.builtin "type.__call__" ⟨.ref C :: us, kw⟩)).units = A.units + 1 := by
  first | rfl | simp [Around.under, Code.cUnits, Code.frames, Code.isFrame]
theorem Room.make {k : Nat} {A : Around} (r : Room (k + 1) A) (C : Addr) (us : List Value) (kw : List (Str × Value)) : Room k (A.under (.builtin "type.__call__" ⟨.ref C :: us, kw⟩)) :=
  ⟨r.hd, by have := r.dp; rw [a3j]; omega, by have := r.un; rw [a2Y]; omega⟩
theorem Room.depth {k : Nat} {A : Around} (r : Room k A) : A.depth < recursionLimit := by have := r.dp; omega
theorem Room.units {k : Nat} {A : Around} (r : Room k A) : A.units + 64 < cLine := by have := r.un; omega
def a1h : TA := fun _ H Q => Q [] H
def T4 (ta : TE) (tr : TA) : TA := fun σ H Q => ta σ H fun x H1 => tr σ H1 fun xs H2 => Q (x :: xs) H2
section
variable {X : Cx} {e : Expr} {es : List Expr} {te : TE} {t : TA} {pos : Pos}
theorem d7 : PA X [] a1h := fun _ _ _ _ H Q I h => Calls.spliced_nil ⟨[], H, I, .nil, h⟩
theorem a0 (ha : PE X e te) (hr : PA X es t) (hs : starEach (e :: es) X.env = (false, eval e X.env) :: starEach es X.env := by rfl) : PA X (e :: es) (T4 te t) := by
  intro pos pins s σ H Q I h
  rw [hs]
  show wpAny _ _ (spliced ((false, eval e X.env) :: backTo pos (starEach es X.env))) _ _ s
  refine Calls.spliced_cons (t8 (ha pins s σ H _ I h) fun u s1 ⟨x, H1, I1, r1, q1⟩ => ?_)
  exact t8 (hr pos pins s1 σ H1 _ I1 q1) fun us s2 ⟨xs, H2, I2, r2, q2⟩ => ⟨x :: xs, H2, I2, .cons r1 r2, q2⟩
def a4Z (t : TA) : TE := fun σ H Q => t σ H fun xs H1 => xs.length <= sizeLine /\ ∀ p, H1 p = none -> Q (.ref p) (j9 H1 p (.tup xs))
def b1M (t : TA) : TE := fun σ H Q => t σ H fun xs H1 => xs.length <= sizeLine /\ ∀ p, H1 p = none -> Q (.ref p) (j9 H1 p (.lst xs))
theorem x5 {x1} (h : PA X es t) : PE X (.Tuple es x1 pos) (a4Z t) := by
  intro pins s σ H Q I hq
  refine wpAny_Tuple_spliced (t8 (h pos pins s σ H _ I hq) fun us s1 ⟨xs, H1, I1, r, z, q⟩ => ⟨by rw [<- r.length]; exact z, ?_⟩)
  have hf : H1 s1.heap.objs.size = none := I1.hok.fresh (Nat.le_refl _)
  refine ⟨.ref s1.heap.objs.size, j9 H1 s1.heap.objs.size (.tup xs), I1.laid (t' := s1.toks) (fun b u e => Heap.get?_push_of_some _ e) (Nat.le_refl _) ?_, rfl, q _ hf⟩
  exact ⟨z, us, r, ⟨_, Heap.get?_push_size _ rfl, rfl, _, rfl⟩⟩
theorem o6 (h : PA X es t) : PE X (.List es pos) (b1M t) := by
  intro pins s σ H Q I hq
  refine wpAny_List_spliced (t8 (h pos pins s σ H _ I hq) fun us s1 ⟨xs, H1, I1, r, z, q⟩ => ⟨by rw [<- r.length]; exact z, ?_⟩)
  have hf : H1 s1.heap.objs.size = none := I1.hok.fresh (Nat.le_refl _)
  refine ⟨.ref s1.heap.objs.size, j9 H1 s1.heap.objs.size (.lst xs), I1.laid (t' := s1.toks) (fun b u e => Heap.get?_push_of_some _ e) (Nat.le_refl _) ?_, rfl, q _ hf⟩
  exact ⟨z, us, 0, r, Heap.get?_push_size _ rfl⟩
end
abbrev Sp := List V -> Hp -> VK -> XK -> Prop
abbrev CXT := List Env -> Hp -> Shared -> XK -> Value -> Shared -> Prop
structure Env0 (P : Program) (w : World) (K : W.Frag) (mg : Str -> Option Value) (base : Heap) (A : Around) (outer : List Env) (s : Shared) (H : Hp) : Prop where
  frames : A.frames = some outer
  mod : Mod K mg base
  bs : ∀ b o, base.get? b = some o -> s.heap.get? b = some o /\ H b = none
  bsz : base.objs.size <= s.heap.objs.size
  funs : s.heap.FunFrames base outer
  frf : ∀ b ∈ frs outer, H b = none
  hok : HOk P w H s.heap
  bare : AllBare s.gens
def CE (outer : List Env) (P : Program) (w : World) (H : Hp) (s : Shared) (Q : VK) (u : Value) (s' : Shared) : Prop :=
  ∃ v H', s'.os = s.os /\ AllBare s'.gens /\ Un (frs outer) [] H H' s.heap s'.heap /\ HOk P w H' s'.heap /\ RelV v u /\ Q v H'
def CR (CX : CXT) (outer : List Env) (P : Program) (w : World) (H : Hp) (s : Shared) (Q : VK) (E : XK) (r : Result) (s' : Shared) : Prop :=
  match r with
  | .ok (.ret u) => CE outer P w H s Q u s'
  | .ok _ => False
  | .error e => CX outer H s E e s'
structure FnOk (P : Program) (w : World) (K : W.Frag) (mg : Str -> Option Value) (base : Heap) (CX : CXT) (k : Nat) (f : Addr) (fd : FuncData) (ps : List Str) (sp : Sp) : Prop where
  len : ∀ vs H Q E, sp vs H Q E -> vs.length = ps.length
  run : ∀ (A : Around) (outer : List Env) (s : Shared) (H : Hp) (args : Args) (us : List Value) (vs : List V) (Q : VK) (E : XK), Room k A -> Env0 P w K mg base A outer s H -> BindsTo s fd args (ps.zip us) -> Vals vs us -> sp vs H Q E →
    codeAny (model P w) A (.call (.ref f) args) (CR CX outer P w H s Q E) s
theorem FnOk.imp {P : Program} {w : World} {K : W.Frag} {mg : Str -> Option Value} {base : Heap} {CX : CXT} {k : Nat} {f : Addr} {fd : FuncData} {ps : List Str} {sp sp' : Sp} (F : FnOk P w K mg base CX k f fd ps sp)
    (h : ∀ vs H Q E, sp' vs H Q E -> sp vs H Q E) : FnOk P w K mg base CX k f fd ps sp' :=
  ⟨fun vs H Q E q => F.len vs H Q E (h _ _ _ _ q), fun A outer s H args us vs Q E hr he hb hv hs => F.run A outer s H args us vs Q E hr he hb hv (h _ _ _ _ hs)⟩
theorem Env0.make {P : Program} {w : World} {K : W.Frag} {mg : Str -> Option Value} {base : Heap} {A : Around} {outer : List Env} {s : Shared} {H : Hp} (e : Env0 P w K mg base A outer s H) (C : Addr) (us : List Value) (kw : List (Str × Value)) :
    Env0 P w K mg base (A.under (.builtin "type.__call__" ⟨.ref C :: us, kw⟩)) outer s H := ⟨by first | exact e.frames | (simpa [Around.under, Code.envs, Code.isFrame, pushEnvs] using e.frames), e.mod, e.bs, e.bsz, e.funs, e.frf, e.hok, e.bare⟩
section
variable {X : Cx} {pins : List (Addr × Obj)} {σ : St} {H : Hp} {s s' : Shared}
theorem Inv.env0 (I : Inv X pins σ H s) : Env0 X.prog X.w X.K X.mg X.base X.A X.stack s H :=
  ⟨I.ok.frames, I.ok.mod, I.bs, Nat.le_trans I.ok.bsz I.sz, I.stack, I.stkFree, I.hok, I.bare⟩
theorem Inv.after {Q : VK} {u : Value} (I : Inv X pins σ H s) (h : CE X.stack X.prog X.w H s Q u s') : EP X pins σ Q u s' := by
  obtain ⟨v, H', os, bare, un, hok, r, q⟩ := h
  obtain ⟨hh, g, d, t, os'⟩ := s'
  obtain rfl : os' = s.os := os
  exact ⟨v, H', I.call (h' := hh) (g' := g) (d' := d) (t' := t) (ch := []) un hok bare (fun b z => absurd z (by simp)), r, q⟩
end
def a8X (sp : Sp) (dvs : List V) (E : XK) (t : TA) : TE := fun σ H Q => t σ H fun vs H1 => sp (vs ++ dvs) H1 Q E
def a8H (C : Addr) (m : Str) (sp : Sp) (dvs : List V) (E : XK) (ta : TE) (t : TA) : TE := fun σ H Q => ta σ H fun x H1 => ∃ a dx fs, x = .ref a /\ H1 a = some (.ins C dx fs) /\ fs.lookup m = none ∧
  t σ H1 fun vs H2 => sp (x :: (vs ++ dvs)) H2 Q E
def b1b (C : Addr) (sp : Sp) (dvs : List V) (E : XK) (t : TA) : TE := fun σ H Q => t σ H fun vs H1 => ∀ x dx, H1 x = none -> H1 dx = none -> dx ≠ x →
  sp (.ref x :: (vs ++ dvs)) (j9 (j9 H1 dx (.own x)) x (.ins C dx [])) (fun v H2 => v = .non /\ Q (.ref x) H2) E
def Binds (K : W.Frag) (fd : FuncData) (ps : List Str) (ds : List Value) : Prop :=
  ∀ (s : Shared) (us : List Value), K.In s.heap -> (us ++ ds).length = ps.length -> BindsTo s fd ⟨us, []⟩ (ps.zip (us ++ ds))
theorem Binds.all {K : W.Frag} {fd : FuncData} {ps : List Str} (h : ∀ us : List Value, us.length = ps.length -> bindArgs fd ⟨us, []⟩ = pure (ps.zip us)) : Binds K fd ps [] := fun s us _ hl => by
  rw [List.append_nil] at hl ⊢
  exact .of_eq (h us hl)
def N6 (CX : CXT) (X : Cx) (E : XK) : Prop := ∀ (pins : List (Addr × Obj)) (σ : St) (H : Hp) (s : Shared) (e : Value) (s' : Shared), Inv X pins σ H s -> CX X.stack H s E e s' -> X.xe e s'
section
variable {X : Cx} {CX : CXT} {k : Nat} {f C : Addr} {fd : FuncData} {ps : List Str} {sp : Sp} {dvs : List V} {ds : List Value} {E : XK} {x m : Str} {p pos apos : Pos} {e o : Expr} {es : List Expr} {ta : TE} {t : TA}
theorem a3H {pins : List (Addr × Obj)} {σ : St} {H : Hp} {s : Shared} {Q : VK} {us : List Value} {vs : List V} (F : FnOk X.prog X.w X.K X.mg X.base CX k f fd ps sp) (hr : Room k X.A) (hb : Binds X.K fd ps ds) (hd : Vals dvs ds) (hx : N6 CX X E)
    (I : Inv X pins σ H s) (r : Vals vs us) (h : sp (vs ++ dvs) H Q E) : wpAny (model X.prog X.w) X.A (call (.ref f) us) (EP X pins σ Q) X.xe s := by
  have r2 : Vals (vs ++ dvs) (us ++ ds) := r.append hd
  have hl : (us ++ ds).length = ps.length := by rw [<- r2.length]; exact F.len _ _ _ _ h
  refine wpAny_call (codeAny_mono (F.run X.A X.stack s H ⟨us, []⟩ (us ++ ds) (vs ++ dvs) Q E hr I.env0 (hb s us I.kIn hl) r2 h) fun r s' hq => ?_)
  cases r with
  | error e => exact hx pins σ H s e s' I hq
  | ok fl =>
    cases fl with
    | ret u => exact I.after hq
    | next => exact False.elim hq
    | brk => exact False.elim hq
    | cont => exact False.elim hq
theorem j6 (F : FnOk X.prog X.w X.K X.mg X.base CX k f fd ps sp) (hr : Room k X.A) (hg : Gl X x) (hm : X.mg x = some (.ref f)) (hk : W.keepIn X.K (.ref f) = true) (hb : Binds X.K fd ps ds) (hd : Vals dvs ds) (hx : N6 CX X E)
    (ha : PA X (e :: es) t) (hdb : (x == ("__debug__" : Str)) = false := by decide) (he : starEach (e :: es) X.env = (false, eval e X.env) :: starEach es X.env := by rfl) (hpl : (backTo pos (starEach es X.env)).any (·.1) = false := by rfl) :
    PE X (.Call (.Name x p) (e :: es) [] pos) (a8X sp dvs E t) := by
  intro pins s σ H Q I h
  refine wpAny_Call_Name_kw (R7 I hg hm ?_ hdb)
  refine W.callWith_K (h₀ := X.base) I.ok.mod.kin hk (t8 (ha pos pins s σ H _ I h) fun us s1 ⟨vs, H1, I1, r, q⟩ => ⟨I1.kIn, ?_⟩) he hpl
  exact a3H F hr hb hd hx I1 r q
theorem G1 {pl : Sem Bool} (he : PE X o ta) (c : Cls X.K C) (hm : a3n X.K C m f) (F : FnOk X.prog X.w X.K X.mg X.base CX k f fd ps sp) (hr : Room k X.A) (hb : Binds X.K fd ps ds) (hd : Vals dvs ds) (hx : N6 CX X E) (ha : PA X (e :: es) t)
    (hst : starEach (e :: es) X.env = (false, eval e X.env) :: starEach es X.env := by rfl) (hpl : (backTo pos (starEach es X.env)).any (·.1) = false := by rfl)
    (ht : eval (.Call (.Attribute o m apos) (e :: es) [] pos) X.env = (do
      let ov <- eval o X.env
      standAt apos.atName
      let (f, first) <- holding [ov] (getMethod ov m pl)
      callWith pos f first (backTo pos (starEach (e :: es) X.env)) (backToKw pos (keywordEach [] X.env))) := by rfl) :
    PE X (.Call (.Attribute o m apos) (e :: es) [] pos) (a8H C m sp dvs E ta t) := by
  intro pins s σ H Q I h
  refine W.methodCall_KW (pl := pl) (t8 (he pins s σ H _ I h) fun u s1 ⟨x, H1, I1, rx, a, dx, fs, ex, ea, l, q⟩ => ?_) ht
  subst ex
  obtain rfl : u = Value.ref a := rx
  refine M9 I1 ea c hm l ?_
  refine W.callWith_K (first := [.ref a]) (h₀ := X.base) I.ok.mod.kin hm.kp (t8 (ha pos pins s1 σ H1 _ I1 q) fun us s2 ⟨vs, H2, I2, r, q2⟩ => ⟨I2.kIn, ?_⟩) hst hpl
  exact a3H (us := .ref a :: us) (vs := .ref a :: vs) F hr hb hd hx I2 (.cons rfl r) q2
theorem D9 {pl : Sem Bool} (he : PE X o ta) (c : Cls X.K C) (hm : a3n X.K C m f) (F : FnOk X.prog X.w X.K X.mg X.base CX k f fd ps sp) (hr : Room k X.A) (hb : Binds X.K fd ps ds) (hd : Vals dvs ds) (hx : N6 CX X E)
    (ht : eval (.Call (.Attribute o m apos) [] [] pos) X.env = (do
      let ov <- eval o X.env
      standAt apos.atName
      let (f, first) <- holding [ov] (getMethod ov m pl)
      callWith pos f first (backTo pos (starEach [] X.env)) (backToKw pos (keywordEach [] X.env))) := by rfl) :
    PE X (.Call (.Attribute o m apos) [] [] pos) (a8H C m sp dvs E ta a1h) := by
  intro pins s σ H Q I h
  refine W.methodCall_KW (pl := pl) (t8 (he pins s σ H _ I h) fun u s1 ⟨x, H1, I1, rx, a, dx, fs, ex, ea, l, q⟩ => ?_) ht
  subst ex
  obtain rfl : u = Value.ref a := rx
  refine M9 I1 ea c hm l ?_
  exact W.callWith_K0 (first := [.ref a]) I1.kIn hm.kp (a3H (us := [.ref a]) (vs := [.ref a]) F hr hb hd hx I1 (.cons rfl .nil) q)
structure Mk (K : W.Frag) (C f : Addr) : Prop where
  makes : W.makesIn K C = true
  init : W.findIn K (.ref C) "__init__" = some (some (.ref f))
  fn : W.isFn K (.ref f) = true
  kp : W.keepIn K (.ref C) = true
theorem a5W {pins : List (Addr × Obj)} {σ : St} {H : Hp} {s : Shared} {Q : VK} {us : List Value} {vs : List V} (M : Mk X.K C f) (F : FnOk X.prog X.w X.K X.mg X.base CX k f fd ps sp) (hr : Room (k + 1) X.A) (hb : Binds X.K fd ps ds) (hd : Vals dvs ds)
    (hx : N6 CX X E) (I : Inv X pins σ H s) (r : Vals vs us)
    (h : ∀ x dx, H x = none -> H dx = none -> dx ≠ x -> sp (.ref x :: (vs ++ dvs)) (j9 (j9 H dx (.own x)) x (.ins C dx [])) (fun v H2 => v = .non /\ Q (.ref x) H2) E) :
    wpAny (model X.prog X.w) X.A (call (.ref C) us) (EP X pins σ Q) X.xe s := by
  have hq := h (s.heap.objs.size + 1) s.heap.objs.size (I.hok.fresh (Nat.le_succ _)) (I.hok.fresh (Nat.le_refl _)) (Nat.ne_of_lt (Nat.lt_succ_self _))
  have I2 := Inv.made (C := C) I
  have r2 : Vals (V.ref (s.heap.objs.size + 1) :: (vs ++ dvs)) (Value.ref (s.heap.objs.size + 1) :: (us ++ ds)) := .cons rfl (r.append hd)
  have hl : (Value.ref (s.heap.objs.size + 1) :: us ++ ds).length = ps.length := by
    have e := r2.length
    rw [F.len _ _ _ _ hq] at e
    exact e.symm
  refine wpAny_call (a7j (f := f) I.kIn M.makes M.init (beq_iff_eq.mp M.fn) (codeAny_mono (F.run _ X.stack _ _ ⟨Value.ref (s.heap.objs.size + 1) :: us, []⟩ (Value.ref (s.heap.objs.size + 1) :: (us ++ ds)) _ _ E (hr.make C us [])
    (I2.env0.make C us []) (hb _ (Value.ref (s.heap.objs.size + 1) :: us) I2.kIn hl) r2 hq) fun r s' hq' => ?_))
  cases r with
  | error e => exact hx pins σ _ _ e s' I2 hq'
  | ok fl =>
    cases fl with
    | ret u =>
      obtain ⟨v, H', I3, rv, ev, q3⟩ := I2.after hq'
      subst ev
      exact ⟨rv, ⟨V.ref (s.heap.objs.size + 1), H', I3, rfl, q3⟩⟩
    | next => exact False.elim hq'
    | brk => exact False.elim hq'
    | cont => exact False.elim hq'
theorem a4m (M : Mk X.K C f) (F : FnOk X.prog X.w X.K X.mg X.base CX k f fd ps sp) (hr : Room (k + 1) X.A) (hg : Gl X x) (hm : X.mg x = some (.ref C)) (hb : Binds X.K fd ps ds) (hd : Vals dvs ds) (hx : N6 CX X E)
    (ha : PA X (e :: es) t) (hdb : (x == ("__debug__" : Str)) = false := by decide) (he : starEach (e :: es) X.env = (false, eval e X.env) :: starEach es X.env := by rfl) (hpl : (backTo pos (starEach es X.env)).any (·.1) = false := by rfl) :
    PE X (.Call (.Name x p) (e :: es) [] pos) (b1b C sp dvs E t) := by
  intro pins s σ H Q I h
  refine wpAny_Call_Name_kw (R7 I hg hm ?_ hdb)
  refine W.callWith_K (h₀ := X.base) I.ok.mod.kin M.kp (t8 (ha pos pins s σ H _ I h) fun us s1 ⟨vs, H1, I1, r, q⟩ => ⟨I1.kIn, ?_⟩) he hpl
  exact a5W M F hr hb hd hx I1 r q
end
section
variable {X : Cx} {CX : CXT} {k : Nat} {f C : Addr} {fd : FuncData} {ps ks : List Str} {sp : Sp} {E : XK} {x m : Str} {p pos apos kpos : Pos} {e o : Expr} {es : List Expr} {kws : List Keyword} {te ta : TE} {t tk : TA} {nm : Option Str}
structure b1W (K : W.Frag) (fd : FuncData) (ps ks : List Str) (g : List Value -> List Value -> List Value) (gV : List V -> List V -> List V) : Prop where
  to : ∀ (s : Shared) (us ws : List Value), K.In s.heap -> (g us ws).length = ps.length -> BindsTo s fd ⟨us, ks.zip ws⟩ (ps.zip (g us ws))
  rel : ∀ {vs : List V} {us : List Value} {zs : List V} {ws : List Value}, Vals vs us -> Vals zs ws -> Vals (gV vs zs) (g us ws)
variable {g : List Value -> List Value -> List Value} {gV : List V -> List V -> List V}
end
structure i8 (N P : List Str) (sc : Scope) : Prop where
  kind : sc.kind = .function
  co : sc.isCoroutine = false
  gen : sc.isGenerator = false
  nd : N.Nodup
  pre : N.take P.length = P
  par : ∀ x ∈ P, sc.names.lookup x = some .local \/ sc.names.lookup x = some .cell
  nofree : ∀ y ∈ sc.names, y.2 ≠ .free
theorem a1u {kindOf : Str -> Option NameKind} {x : Str} : ∀ {binds : List (Str × Value)} {m : Str -> Option Value}, (∀ v, (x, v) ∉ binds) -> bindL kindOf binds m x = m x
  | [], _, _ => rfl
  | (n, v) :: r, m, h => by
    unfold bindL
    rw [a1u fun w hw => h w (List.mem_cons_of_mem _ hw)]
    split
    . have : x ≠ n := by rintro rfl; exact h v List.mem_cons_self
      simp [this]
    . rfl
theorem a1E {kindOf : Str -> Option NameKind} {x : Str} : ∀ {binds : List (Str × Value)} {m : Str -> Option Value}, (∀ v, (x, v) ∉ binds) -> bindC kindOf binds m x = m x
  | [], _, _ => rfl
  | (n, v) :: r, m, h => by
    unfold bindC
    rw [a1E fun w hw => h w (List.mem_cons_of_mem _ hw)]
    split
    . rfl
    . have : x ≠ n := by rintro rfl; exact h v List.mem_cons_self
      simp [this]
theorem a1y {kindOf : Str -> Option NameKind} {x : Str} {v : Value} : ∀ {P : List Str} {vs : List Value} {i : Nat} {m : Str -> Option Value}, P.Nodup -> P[i]? = some x -> vs[i]? = some v -> kindOf x = some .local →
    bindL kindOf (P.zip vs) m x = some v
  | [], _, _, _, _, h, _, _ => by simp at h
  | _ :: _, [], _, _, _, _, h, _ => by simp at h
  | p :: P, w :: vs, 0, m, nd, h1, h2, hk => by
    simp at h1 h2; subst h1; subst h2
    show bindL kindOf ((p, w) :: P.zip vs) m p = _
    unfold bindL
    rw [a1u fun v hv => (List.nodup_cons.mp nd).1 (List.of_mem_zip hv).1, if_pos hk]
    simp
  | p :: P, w :: vs, i + 1, m, nd, h1, h2, hk => by
    show bindL kindOf ((p, w) :: P.zip vs) m x = _
    unfold bindL
    exact a1y (i := i) (List.nodup_cons.mp nd).2 (by simpa using h1) (by simpa using h2) hk
theorem a1o {kindOf : Str -> Option NameKind} {x : Str} {v : Value} : ∀ {P : List Str} {vs : List Value} {i : Nat} {m : Str -> Option Value}, P.Nodup -> P[i]? = some x -> vs[i]? = some v -> kindOf x ≠ some .local →
    bindC kindOf (P.zip vs) m x = some v
  | [], _, _, _, _, h, _, _ => by simp at h
  | _ :: _, [], _, _, _, _, h, _ => by simp at h
  | p :: P, w :: vs, 0, m, nd, h1, h2, hk => by
    simp at h1 h2; subst h1; subst h2
    show bindC kindOf ((p, w) :: P.zip vs) m p = _
    unfold bindC
    rw [a1E fun v hv => (List.nodup_cons.mp nd).1 (List.of_mem_zip hv).1, if_neg hk]
    simp
  | p :: P, w :: vs, i + 1, m, nd, h1, h2, hk => by
    show bindC kindOf ((p, w) :: P.zip vs) m x = _
    unfold bindC
    exact a1o (i := i) (List.nodup_cons.mp nd).2 (by simpa using h1) (by simpa using h2) hk
def E8 (N : List Str) (vs : List V) : St := vs.map some ++ List.replicate (N.length - vs.length) none
def E7 (CX : CXT) (P : Program) (w : World) (K : W.Frag) (mg : Str -> Option Value) (base : Heap) (N : List Str) (qual : Str) (scope : Scope) (f : Addr) (cd : Value) (A : Around) (outer : List Env) (s : Shared) (H : Hp) (E : XK) : Cx where
  prog := P
  w := w
  K := K
  mg := mg
  base := base
  A := A.deeper (envOfC qual scope s.heap.objs.size f cd)
  N := N
  s₀ := s
  H₀ := H
  env := envOfC qual scope s.heap.objs.size f cd
  outer := outer
  stack := envOfC qual scope s.heap.objs.size f cd :: outer
  ex := []
  calm := true
  fn := fun _ => true
  pn := []
  xe := fun e s' => wpAny (model P w) (A.deeper (envOfC qual scope s.heap.objs.size f cd)) (leaving (envOfC qual scope s.heap.objs.size f cd) e) (fun _ s'' => CX outer H s E e s'') (fun e' s'' => CX outer H s E e' s'') s'
theorem a2x {sc : Scope} {n : Nat} {x : Str} (h : sc.names.lookup x = some .cell) : ∃ c, (cellsFrom n sc.names []).lookup x = some c := by
  have q := W.cellsFrom_some sc.names n [] (.inl h)
  exact Option.isSome_iff_exists.mp q
theorem a1C {CX : CXT} {P : Program} {w : World} {K : W.Frag} {mg : Str -> Option Value} {base : Heap} {N ps : List Str} {qual : Str} {scope : Scope} {f : Addr} {cd : Value} {A : Around} {outer : List Env} {s s1 : Shared} {H : Hp} {E : XK} {us : List Value} {vs : List V}
    (S : i8 N ps scope) (hd : A.handled = none) (e0 : Env0 P w K mg base A outer s H) (hl : vs.length = ps.length) (r : Vals vs us)
    (x : InCallC s s.heap.objs.size (bindL (envOfC qual scope s.heap.objs.size f cd).kindOf (ps.zip us) fun _ => none) (cellsFrom (s.heap.objs.size + 1) scope.names []) (bindC (envOfC qual scope s.heap.objs.size f cd).kindOf (ps.zip us) fun _ => none) s1) :
    Inv (E7 CX P w K mg base N qual scope f cd A outer s H E) [] (E8 N vs) H s1 := by
  have hpl : ps.length <= N.length := by have := congrArg List.length S.pre; rw [List.length_take] at this; omega
  obtain ⟨h1, tk, rfl, hk⟩ := x.done
  have noA : ∀ b : Addr, b ∉ (E7 CX P w K mg base N qual scope f cd A outer s H E).ex := fun b z => absurd (show b ∈ ([] : List Addr) from z) (by simp)
  refine ⟨⟨e0.mod, S.kind, rfl, rfl, Nat.le_refl _, fun y z c h1 h2 => ?_, fun y hy => ?_, fun y c _ h => ?_, fun _ => hd, Around.frames_deeper e0.frames, .inr ⟨rfl, rfl⟩, fun b z => absurd z (noA b), e0.bs, e0.bsz, fun b _ _ => noA b, fun b z => absurd z (noA b), e0.funs, e0.frf⟩,
    rfl, e0.bare, Un.kept hk, ⟨_, x.toInCall.ns, fun i y v h1 h2 h3 => ?_⟩, fun y c h => ⟨_, x.cell y c h⟩, e0.hok.fresh (Nat.le_refl _), fun y c h => ?_, fun p hp => absurd (show p ∈ ([] : List (Addr × Obj)) from hp) (by simp), e0.hok.kept hk, ?_⟩
  . exact name_of_addr x.apart (PySem.mem_of_lookup h1) (PySem.mem_of_lookup h2)
  . have hy : scope.names.lookup y = some .cell \/ scope.names.lookup y = some .free := hy
    rcases hy with hy | hy
    . exact a2x hy
    . exact absurd rfl (S.nofree _ (PySem.mem_of_lookup hy))
  . exact Nat.le_of_lt (x.above y c (PySem.mem_of_lookup h))
  . have hi : i < vs.length := by
      unfold E8 at h2
      by_cases hi : i < vs.length
      . exact hi
      . rw [List.getElem?_append_right (by simpa using hi)] at h2
        rw [List.getElem?_replicate] at h2
        split at h2 <;> cases h2
    have ha : vs[i]? = some v := by
      unfold E8 at h2
      rw [List.getElem?_append_left (by simpa using hi), List.getElem?_map] at h2
      cases e : vs[i]? with
      | none => rw [e] at h2; cases h2
      | some a => rw [e] at h2; cases h2; rfl
    obtain ⟨u, hu, rv⟩ := r.get ha
    have hp : ps[i]? = some y := by
      rw [<- S.pre, List.getElem?_take_of_lt (by omega)]; exact h1
    have ndP : ps.Nodup := by rw [<- S.pre]; exact S.nd.sublist (List.take_sublist _ _)
    refine ⟨u, rv, ?_⟩
    rcases S.par y (List.mem_of_getElem? hp) with k | k
    . exact .inl ⟨k, a1y ndP hp hu k⟩
    . obtain ⟨c, e⟩ := a2x (n := s.heap.objs.size + 1) k
      refine .inr ⟨.inl k, c, e, ?_⟩
      have q := x.cell y c e
      rw [a1o ndP hp hu (by show scope.names.lookup y ≠ _; rw [k]; decide)] at q
      exact q
  . exact e0.hok.fresh (Nat.le_of_lt (x.above y c (PySem.mem_of_lookup h)))
  . unfold E8
    show _ = N.length
    rw [List.length_append, List.length_map, List.length_replicate]
    omega
theorem a6E {CX : CXT} {P : Program} {w : World} {K : W.Frag} {mg : Str -> Option Value} {base : Heap} {k : Nat} {f : Addr} {name qual : Str} {params : Arguments} {body : List Stmt} {scope : Scope} {dV kV doc pm cdv ct oc : Value} {an od : Option Addr}
    {osl : Array (Option Value)} {N ps : List Str} {sp : Sp} (lk : K.lookup f = some ⟨oc, od, .func (W.fnOf name qual params body scope dV kV doc pm an cdv ct), osl⟩) (hcd : W.codeIn K cdv qual = true) (S : i8 N ps scope)
    (len : ∀ vs H Q E, sp vs H Q E -> vs.length = ps.length)
    (hbody : ∀ (A : Around) (outer : List Env) (s : Shared) (H : Hp) (vs : List V) (Q : VK) (E : XK), Room k (A.deeper (envOfC qual scope s.heap.objs.size f cdv)) -> sp vs H Q E →
      ∃ t, PSs (E7 CX P w K mg base N qual scope f cdv A outer s H E) body t /\ t { nx := fun _ H' => Q .non H', rt := Q } (E8 N vs) H) :
    FnOk P w K mg base CX (k + 1) f (W.fnOf name qual params body scope dV kV doc pm an cdv ct) ps sp := by
  refine ⟨len, fun A outer s H args us vs Q E hr e0 hb r hsp => ?_⟩
  have hl := len _ _ _ _ hsp
  have KX : K.In s.heap := e0.mod.kin.keeps fun b o e => (e0.bs b o e).1
  have lim : s.heap.NoLimit := e0.mod.nolimit.keeps fun b o e => (e0.bs b o e).1
  have hkind : ∀ y ∈ ps.zip us, scope.names.lookup y.1 = some .local \/ (scope.names.lookup y.1 = some .cell /\ ((cellsFrom (s.heap.objs.size + 1) scope.names []).lookup y.1).isSome = true) := fun ⟨n, v⟩ hy => by
    rcases S.par n (List.of_mem_zip hy).1 with q | q
    . exact .inl q
    . exact .inr ⟨q, W.cellsFrom_some _ _ _ (.inl q)⟩
  refine codeAny_call_function hr.depth (KX _ _ lk) rfl S.co S.gen rfl (W.codeRec_of KX hcd) (hb _ _ _ _ ?_)
  refine wpAny_newFunctionEnv_cells S.kind hkind fun env he s1 x => ?_
  subst he
  refine ⟨lim.keeps x.toInCall.keep, codeAny_func ?_⟩
  obtain ⟨t, ht, hq⟩ := hbody A outer s H vs Q E (hr.deeper _) hsp
  have I : Inv (E7 CX P w K mg base N qual scope f cdv A outer s H E) [] (E8 N vs) H s1 := a1C S hr.hd e0 hl r x
  refine wpAny_mono (ht [] s1 (E8 N vs) H _ I hq) (fun fl s' hs => ?_) fun e s' hs => hs
  have fin : ∀ {σ' : St} {H' : Hp} {v : V} {u : Value}, Inv (E7 CX P w K mg base N qual scope f cdv A outer s H E) [] σ' H' s' -> RelV v u -> Q v H' -> CE outer P w H s Q u s' :=
    fun {σ' H' v u} J rv q => ⟨v, H', J.os, J.bare, J.base, J.hok, rv, q⟩
  cases fl with
  | ret u =>
    obtain ⟨v, σ', H', J, rv, q⟩ := hs
    exact fin J rv q
  | next =>
    obtain ⟨σ', H', J, q⟩ := hs
    exact fin (v := V.non) (u := Value.none) J rfl q
  | brk =>
    obtain ⟨_, _, _, q⟩ := hs
    exact False.elim q
  | cont =>
    obtain ⟨_, _, _, q⟩ := hs
    exact False.elim q
end L2
namespace L2
open PySem PySem.Spec PyProof.Rows
section
variable {X : Cx} {x : Str} {p pos : Pos} {e : Expr} {es : List Expr} {t : TA} {id T : String} {r : List V -> Hp -> VK -> Prop}
def tCB (r : List V -> Hp -> VK -> Prop) (t : TA) : TE := fun σ H Q => t σ H fun vs H1 => r vs H1 Q
theorem j0 (hc : G6 X (.builtin id) r) (hg : Gl X x) (hm : X.mg x = none) (hv : bootBuiltins x = some (.builtin id)) (ha : PA X (e :: es) t) (hn : x ≠ "__name__" := by decide) (hdb : (x == ("__debug__" : Str)) = false := by decide)
    (he : starEach (e :: es) X.env = (false, eval e X.env) :: starEach es X.env := by rfl) (hpl : (backTo pos (starEach es X.env)).any (·.1) = false := by rfl) : PE X (.Call (.Name x p) (e :: es) [] pos) (tCB r t) := by
  intro pins s σ H Q I h
  refine wpAny_Call_Name_kw (O3 I hg hm hv ?_ hn hdb)
  exact PyProof.Rows.callWith_builtin1 (t8 (ha pos pins s σ H _ I h) fun us s1 ⟨vs, H1, I1, r1, q1⟩ => hc pins s1 σ H1 vs us Q I1 r1 q1) he hpl
theorem u9 (hc : G6 X (.type T) r) (hg : Gl X x) (hm : X.mg x = none) (hv : bootBuiltins x = some (.type T)) (ha : PA X (e :: es) t) (hn : x ≠ "__name__" := by decide) (hdb : (x == ("__debug__" : Str)) = false := by decide)
    (he : starEach (e :: es) X.env = (false, eval e X.env) :: starEach es X.env := by rfl) (hpl : (backTo pos (starEach es X.env)).any (·.1) = false := by rfl) : PE X (.Call (.Name x p) (e :: es) [] pos) (tCB r t) := by
  intro pins s σ H Q I h
  refine wpAny_Call_Name_kw (O3 I hg hm hv ?_ hn hdb)
  exact PyProof.Rows.callWith_type1 (t8 (ha pos pins s σ H _ I h) fun us s1 ⟨vs, H1, I1, r1, q1⟩ => hc pins s1 σ H1 vs us Q I1 r1 q1) he hpl
end
end L2
namespace HT
open PySem PyProof.Rows
section
open PySem.SeqAt
open PySem.AutoSeq1 (wpAny_loadPart')
open PySem.MeetsSeq PySem.MeetsSeq2 PySem.MeetsSeq3
end
section
variable {prog : Program} {w : World} {A : Around} {E : Value -> Shared -> Prop} {s : Shared}
def sIx (n d : Nat) : Option Int -> Nat
  | none => d
  | some v => if v < 0 then (v + (n : Int)).toNat else min v.toNat n
theorem sIx_none (n d : Nat) : sIx n d none = d := rfl
theorem sIx_nat (n d k : Nat) : sIx n d (some (k : Int)) = min k n := by
  show (if (k : Int) < 0 then ((k : Int) + (n : Int)).toNat else min (k : Int).toNat n) = min k n
  rw [if_neg (by omega), Int.toNat_natCast]
end
end HT
namespace L2
open PySem PySem.Spec PyProof.Rows
abbrev TO := St -> Hp -> (Option Int -> Hp -> Prop) -> Prop
def PO (X : Cx) (e : Option Expr) (t : TO) : Prop :=
  ∀ (pins : List (Addr × Obj)) (s : Shared) (σ : St) (H : Hp) (Q : Option Int -> Hp -> Prop), Inv X pins σ H s -> t σ H Q →
    wpAny (model X.prog X.w) X.A (evalPart e X.env) (fun u s' => ∃ o H', Inv X pins σ H' s' /\ IsPart u o /\ Q o H') X.xe s
def a7T : TO := fun _ H Q => Q none H
def b0U (t : TE) : TO := fun σ H Q => t σ H fun x H1 => ∃ i, x = .int i /\ Q (some i) H1
section
variable {X : Cx} {e : Expr} {te : TE} {lo hi : Option Expr} {tl th : TO} {pos p2 : Pos}
theorem B1 : PO X none a7T := by
  intro pins s σ H Q I h
  rw [evalPart_none]
  exact wpAny_pure ⟨none, H, I, .none, h⟩
theorem B6 (h : PE X e te) : PO X (some e) (b0U te) := by
  intro pins s σ H Q I hw
  rw [evalPart_some]
  refine t8 (h pins s σ H _ I hw) fun u s1 ⟨x, H1, I1, r1, q1⟩ => ?_
  obtain ⟨i, rfl, q⟩ := q1
  obtain ⟨t, rfl⟩ := r1
  exact ⟨some i, H1, I1, .int i t, q⟩
def SlR (X : Cx) (r : V -> Option Int -> Option Int -> Hp -> VK -> Prop) : Prop :=
  ∀ (pins : List (Addr × Obj)) (s : Shared) (σ : St) (H : Hp) (x : V) (v vl vu : Value) (lo hi : Option Int) (sl : Addr) (Q : VK), Inv X pins σ H s -> RelV x v -> s.heap.IsSliceOf sl vl vu .none -> IsPart vl lo -> IsPart vu hi -> r x lo hi H Q →
    ∃ T id, typeLookup (.type T) "__getitem__" = pure (some (.builtin id)) /\ s.TypeIs v T /\ wpAny (model X.prog X.w) X.A (getItem v (.ref sl)) (EP X pins σ Q) X.xe s
def tSl (r : V -> Option Int -> Option Int -> Hp -> VK -> Prop) (te : TE) (tl th : TO) : TE := fun σ H Q => te σ H fun x H1 => tl σ H1 fun l H2 => th σ H2 fun u H3 => r x l u H3 Q
theorem x9 {r : V -> Option Int -> Option Int -> Hp -> VK -> Prop} (hr : SlR X r) (he : PE X e te) (hl : PO X lo tl) (hu : PO X hi th) : PE X (.Subscript e (.Slice lo hi none p2) pos) (tSl r te tl th) := by
  intro pins s σ H Q I h
  refine Subscript_ (t8 (he pins s σ H _ I h) fun v s1 ⟨x, H1, I1, r1, q1⟩ => ?_)
  refine wpAny_Slice (t8 (hl pins s1 σ H1 _ I1 q1) fun vl s2 ⟨l, H2, I2, pl, q2⟩ => t8 (hu pins s2 σ H2 _ I2 q2) fun vu s3 ⟨u, H3, I3, pu, q3⟩ => ?_)
  rw [evalPart_none]
  refine wpAny_pure ?_
  have I4 : Inv X pins σ H3 { s3 with heap := s3.heap.push { cls := .type "slice", data := .fields #[vl, vu, .none] } } := I3.kept (t' := s3.toks) fun b ob q => Heap.get?_push_of_some _ q
  obtain ⟨T, id, hT, ht, hg⟩ := hr pins { s3 with heap := s3.heap.push { cls := .type "slice", data := .fields #[vl, vu, .none] } } σ H3 x v vl vu l u s3.heap.objs.size Q I4 r1 (Heap.IsSliceOf.new ..) pl pu q3
  show wpAny (model X.prog X.w) X.A (subscriptTail e (.Slice lo hi none p2) v (.ref s3.heap.objs.size)) (EP X pins σ Q) X.xe { s3 with heap := s3.heap.push { cls := .type "slice", data := .fields #[vl, vu, .none] } }
  exact tail_any (ops := [.ref s3.heap.objs.size, v]) ht hT hg (by with_unfolding_all rfl)
def J7 (xs : List V) (lo hi : Option Int) : List V := (xs.drop (HT.sIx xs.length 0 lo)).take (HT.sIx xs.length xs.length hi - HT.sIx xs.length 0 lo)
theorem a2n (xs : List V) (lo hi : Option Int) : (J7 xs lo hi).length <= xs.length := by
  unfold J7
  rw [List.length_take, List.length_drop]
  omega
end
end L2
namespace L2
open PySem PySem.Spec PyProof.Rows
def ixN (n : Nat) (i : Int) : Option Nat := if 0 <= i then (if i < n then some i.toNat else none) else if -(n : Int) <= i then some (i + n).toNat else none
def X3 {α : Type} (xs : List α) (i : Int) : Option α := (ixN xs.length i).bind fun j => xs[j]?
theorem a4p {n : Nat} {i : Int} {j : Nat} (h : ixN n i = some j) : seqIndex? i n = some j /\ j < n /\ -(n : Int) <= i /\ i < n := by
  unfold ixN at h
  by_cases h0 : 0 <= i
  . rw [if_pos h0] at h
    by_cases h1 : i < n
    . rw [if_pos h1] at h
      have e : i.toNat = j := Option.some.inj h
      exact ⟨by rw [seqIndex_of h0 h1, e], by omega, by omega, h1⟩
    . rw [if_neg h1] at h; cases h
  . rw [if_neg h0] at h
    by_cases h1 : -(n : Int) <= i
    . rw [if_pos h1] at h
      have e : (i + n).toNat = j := Option.some.inj h
      exact ⟨by rw [seqIndex_neg (by omega) h1, e], by omega, h1, by omega⟩
    . rw [if_neg h1] at h; cases h
theorem a4g {α : Type} {xs : List α} {i : Int} {v : α} (h : X3 xs i = some v) : ∃ j, seqIndex? i xs.length = some j /\ xs[j]? = some v /\ j < xs.length /\ -(xs.length : Int) <= i /\ i < xs.length := by
  unfold X3 at h
  cases e : ixN xs.length i with
  | none => rw [e] at h; cases h
  | some j =>
    rw [e] at h
    obtain ⟨h1, h2, h3, h4⟩ := a4p e
    exact ⟨j, h1, h, h2, h3, h4⟩
theorem F0 {α : Type} {xs : List α} {j : Nat} {v : α} (h : xs[j]? = some v) : X3 xs (j : Int) = some v := by
  have hj : j < xs.length := (List.getElem?_eq_some_iff.mp h).1
  have e : ixN xs.length (j : Int) = some j := by
    unfold ixN
    rw [if_pos (by omega), if_pos (by omega)]; simp
  unfold X3; rw [e]; exact h
theorem V1 {α : Type} (xs : List α) (v : α) : X3 (xs ++ [v]) (-1) = some v := by
  have hl : (xs ++ [v]).length = xs.length + 1 := by simp
  have e : ixN (xs ++ [v]).length (-1) = some xs.length := by
    unfold ixN
    rw [hl, if_neg (by decide), if_pos (by omega)]
    congr 1
    omega
  unfold X3
  rw [e]
  show (xs ++ [v])[xs.length]? = some v
  simp
def a7A (b : Expr) : Prop := ∀ o i, subscripted b false o i = operate [o, i] (getItem o i)
def IxR (X : Cx) (r : R2) : Prop :=
  ∀ (value slice : Expr) (pins : List (Addr × Obj)) (s : Shared) (σ : St) (H : Hp) (x y : V) (v u : Value) (Q : VK), Inv X pins σ H s -> RelV x v -> RelV y u -> r x y H Q →
    subscripted slice false v u = operate [v, u] (getItem v u) -> wpAny (model X.prog X.w) X.A (subscriptTail value slice v u) (EP X pins σ Q) X.xe s
def MtR (X : Cx) (id : String) (r : V -> List V -> Hp -> VK -> Prop) : Prop :=
  ∀ (pins : List (Addr × Obj)) (s : Shared) (σ : St) (H : Hp) (x : V) (xs : List V) (v : Value) (us : List Value) (Q : VK), Inv X pins σ H s -> RelV x v -> Vals xs us -> r x xs H Q →
    wpAny (model X.prog X.w) X.A (call (.builtin id) (v :: us)) (EP X pins σ Q) X.xe s
section
variable {X : Cx} {a b : Expr} {ta tb : TE} {pos : Pos}
theorem m8 {r : R2} (hr : IxR X r) (ha : PE X a ta) (hb : PE X b tb) (hs : a7A b) : PE X (.Subscript a b pos) (tOp r ta tb) := by
  intro pins s σ H Q I h
  exact Subscript_ (a9A ha hb I h fun v u s2 x y H2 I2 rx ry q => hr a b pins s2 σ H2 x y v u Q I2 rx ry q (hs _ _))
def b1z (K : W.Frag) : R2 := fun x y H Q => ∃ p xs i v, x = .ref p /\ y = .int i /\ SqL K H p xs /\ X3 xs i = some v /\ Q v H
def b2d (K : W.Frag) : R2 := fun x y H Q => ∃ p xs i v, x = .ref p /\ y = .int i /\ SqT K H p xs /\ X3 xs i = some v /\ Q v H
theorem j5 : IxR X (b1z X.K) := by
  intro value slice pins s σ H x y v u Q I rx ry h hs
  obtain ⟨p, xs, i, z, rfl, rfl, hq, he, q⟩ := h
  cases rx
  obtain ⟨t, rfl⟩ := ry
  obtain ⟨its, r, pl, hz⟩ := I.list hq
  obtain ⟨j, h1, h2, h3, h4, h5⟩ := a4g he
  obtain ⟨w, ew, rw'⟩ := r.get h2
  have hl := r.length
  have hn := a0G
  have fin : EP X pins σ Q w s := ⟨z, H, I, rw', q⟩
  by_cases h0 : 0 <= i
  . have hj : i.toNat = j := by
      rw [seqIndex_of h0 h5] at h1
      exact Option.some.inj h1
    exact item_listR pl.isList h0 (by omega) (by rw [hj]; simpa using ew) fin hs
  . have hj : (i + (its.toArray.size : Int)).toNat = j := by
      rw [seqIndex_neg (by omega) h4] at h1
      rw [List.size_toArray, <- hl]
      exact Option.some.inj h1
    exact subscriptTail_builtinR (x := w) pl.isList.typeIs slot_list_getitem.lookup
      (wpAny_getItem_list_neg (Q := fun r s' => r = w /\ EP X pins σ Q r s') pl.isList (by omega) (by rw [List.size_toArray] <;> omega) (by omega) (by rw [hj]; simpa using ew) ⟨rfl, fin⟩) hs
theorem K8 : IxR X (b2d X.K) := by
  intro value slice pins s σ H x y v u Q I rx ry h hs
  obtain ⟨p, xs, i, z, rfl, rfl, hq, he, q⟩ := h
  cases rx
  obtain ⟨t, rfl⟩ := ry
  obtain ⟨its, r, pl, hz⟩ := I.tuple hq
  obtain ⟨j, h1, h2, h3, h4, h5⟩ := a4g he
  obtain ⟨w, ew, rw'⟩ := r.get h2
  have hl := r.length
  have hn := a0G
  have fin : EP X pins σ Q w s := ⟨z, H, I, rw', q⟩
  exact subscriptTail_builtinR (x := w) pl.typeIs slot_tuple_getitem.lookup
    (getItem_tuple (j := j) (Q := fun r s' => r = w /\ EP X pins σ Q r s') pl (by omega) (by omega) (by rw [List.size_toArray, <- hl]; exact h1) (by simpa using ew) ⟨rfl, fin⟩) hs
theorem a3l (its : List Value) (n j : Nat) (u : Value) : Obj.mapSeq (·.setIfInBounds j u) { cls := .type "list", data := .seq its.toArray n } = { cls := .type "list", data := .seq (its.set j u).toArray n } := by
  simp [Obj.mapSeq]
theorem Inv.lst {pins : List (Addr × Obj)} {σ : St} {H : Hp} {s : Shared} {p : Addr} {xs : List V} (I : Inv X pins σ H s) (h : H p = some (.lst xs)) :
    ∃ (its : List Value) (n : Nat), Vals xs its /\ s.heap.get? p = some { cls := .type "list", data := .seq its.toArray n } /\ xs.length <= sizeLine := by
  obtain ⟨z, its, n, r, e⟩ := I.hok p _ h
  exact ⟨its, n, r, e, z⟩
theorem Inv.lstUpd {pins : List (Addr × Obj)} {σ : St} {H : Hp} {s : Shared} {p : Addr} {xs ys : List V} {its its' : List Value} {n n' : Nat} {f : Obj -> Obj} (I : Inv X pins σ H s) (h : H p = some (.lst xs))
    (ho : s.heap.get? p = some { cls := .type "list", data := .seq its.toArray n }) (hf : f { cls := .type "list", data := .seq its.toArray n } = { cls := .type "list", data := .seq its'.toArray n' }) (r : Vals ys its') (hz : ys.length <= sizeLine) (t : Nat) :
    Inv X pins σ (j9 H p (.lst ys)) { s with heap := s.heap.update p f, toks := t } := by
  have e : (s.heap.update p f).get? p = some { cls := .type "list", data := .seq its'.toArray n' } := by
    rw [Heap.get?_update_self f ho (by rw [hf] <;> rfl), hf]
  refine I.write (x := p) (e := p) (by rw [h]; trivial) (.inl rfl) (fun b u hb q => (Heap.get?_update_other _ _ (Ne.symm hb)).trans q) ⟨_, e⟩ ?_
  exact ⟨hz, its', n', r, e⟩
def b0V : V -> V -> V -> Hp -> (Hp -> Prop) -> Prop := fun o i v H Q => ∃ p xs k j, o = .ref p /\ i = .int k /\ H p = some (.lst xs) /\ ixN xs.length k = some j /\ Q (j9 H p (.lst (xs.set j v)))
theorem M3 : b0K X b0V := by
  intro pins s σ H o i v ov iv u Q I ro ri rv h
  obtain ⟨p, xs, k, j, rfl, rfl, hp, hj, q⟩ := h
  cases ro
  obtain ⟨t, rfl⟩ := ri
  obtain ⟨its, n, r, ho, hz⟩ := I.lst hp
  obtain ⟨h1, h2, h3, h4⟩ := a4p hj
  have hl := r.length
  have hn := a0G
  have I' : Inv X pins σ (j9 H p (.lst (xs.set j v))) { s with heap := s.heap.update p (Obj.mapSeq (·.setIfInBounds j u)) } :=
    I.lstUpd hp ho (a3l its n j u) (r.set rv j) (by rw [List.length_set]; exact hz) s.toks
  by_cases h0 : 0 <= k
  . have hk : k.toNat = j := by
      rw [seqIndex_of h0 h4] at h1
      exact Option.some.inj h1
    exact W.ki_setAt ho h0 (by omega) (by rw [List.size_toArray, <- hl]; exact h4) (by rw [hk]; exact ⟨_, I', q⟩)
  . have hk : (k + (its.toArray.size : Int)).toNat = j := by
      rw [seqIndex_neg (by omega) h3] at h1
      rw [List.size_toArray, <- hl]
      exact Option.some.inj h1
    exact W.ki_setBack ho (by omega) (by rw [List.size_toArray, <- hl]; exact h3) (by omega) (by rw [hk]; exact ⟨_, I', q⟩)
theorem a2f (lo hi : Option Int) (n : Nat) : (sliceBounds lo hi none n).1 = ((HT.sIx n 0 lo : Nat) : Int) /\ (sliceBounds lo hi none n).2.1 = ((HT.sIx n n hi : Nat) : Int) /\ (sliceBounds lo hi none n).2.2 = 1 := by
  refine ⟨?_, ?_, rfl⟩
  . cases lo with
    | none => simp [sliceBounds, HT.sIx]
    | some i =>
      simp only [sliceBounds, HT.sIx, Option.getD_none, show (1 : Int) > 0 by decide, if_true]
      by_cases h : i < 0
      . simp only [h, if_true] <;> omega
      . simp only [h, if_false] <;> omega
  . cases hi with
    | none => simp [sliceBounds, HT.sIx]
    | some i =>
      simp only [sliceBounds, HT.sIx, Option.getD_none, show (1 : Int) > 0 by decide, if_true]
      by_cases h : i < 0
      . simp only [h, if_true] <;> omega
      . simp only [h, if_false] <;> omega
theorem a1k (its : List Value) (lo hi : Option Int) : slicePick its.toArray lo hi none = ((its.drop (HT.sIx its.length 0 lo)).take (HT.sIx its.length its.length hi - HT.sIx its.length 0 lo)).toArray := by
  obtain ⟨h1, h2, h3⟩ := a2f lo hi its.toArray.size
  unfold slicePick
  rw [h1, h2, h3]
  simp only [sliceRange_one, pick_run, List.size_toArray] <;> rfl
def b2r (K : W.Frag) : V -> Option Int -> Option Int -> Hp -> VK -> Prop := fun x lo hi H Q => ∃ a xs, x = .ref a /\ SqL K H a xs /\ ∀ p, H p = none -> Q (.ref p) (j9 H p (.lst (J7 xs lo hi)))
theorem A8 : SlR X (b2r X.K) := by
  intro pins s σ H x v vl vu lo hi sl Q I rx hs pl pu h
  obtain ⟨a, xs, rfl, hx, q⟩ := h
  cases rx
  obtain ⟨its, r, ht, hz⟩ := I.list hx
  have hlen := r.length
  refine ⟨"list", _, slot_list_getitem.lookup, ht.isList.typeIs, ?_⟩
  refine wpAny_getItem_list_slice ht.isList hs pl pu .none (by simp) ?_ (by rw [List.size_toArray] <;> omega)
  rw [a1k, <- hlen]
  refine ⟨.ref s.heap.objs.size, _, I.laid (t' := s.toks) (o := .lst (J7 xs lo hi)) (fun b ob q => Heap.get?_push_of_some _ q) (Nat.le_refl _) ?_, rfl, q _ (I.hok.fresh (Nat.le_refl _))⟩
  exact ⟨Nat.le_trans (a2n xs lo hi) hz, _, 0, (r.drop (HT.sIx xs.length 0 lo)).take (HT.sIx xs.length xs.length hi - HT.sIx xs.length 0 lo), Heap.get?_push_size _ rfl⟩
theorem i9 : G6 X (.builtin "len") (fun xs H Q => ∃ p ys, xs = [.ref p] /\ (SqL X.K H p ys \/ SqT X.K H p ys) /\ Q (.int ys.length) H) := by
  intro pins s σ H xs us Q I r h
  obtain ⟨p, ys, rfl, hq, q⟩ := h
  obtain ⟨u, rfl, rx⟩ := P7 r
  cases rx
  have hn := a0G
  rcases hq with hq | hq
  . obtain ⟨its, r', pl, hz⟩ := I.list hq
    have hlen := r'.length
    exact Calls.call_len_list pl.isList (by simp only [List.size_toArray] <;> omega) ⟨.int ys.length, H, I.tok _, ⟨s.toks + 1, by rw [List.size_toArray, hlen]⟩, q⟩
  . obtain ⟨its, r', pl, hz⟩ := I.tuple hq
    have hlen := r'.length
    exact len_tuple pl (by simp only [List.size_toArray] <;> omega) ⟨.int ys.length, H, I.tok _, ⟨s.toks + 1, by rw [List.size_toArray, hlen]⟩, q⟩
theorem A5 : G6 X (.type "list") (fun xs H Q => ∃ p ys, xs = [.ref p] /\ (SqL X.K H p ys \/ SqT X.K H p ys) /\ ∀ l, H l = none -> Q (.ref l) (j9 H l (.lst ys))) := by
  intro pins s σ H xs us Q I r h
  obtain ⟨p, ys, rfl, hq, q⟩ := h
  obtain ⟨u, rfl, rx⟩ := P7 r
  cases rx
  have fin : ∀ (its : List Value), Vals ys its -> ys.length <= sizeLine -> ∀ (h' : Heap) (c' : Nat), (∀ b o', s.heap.get? b = some o' -> h'.get? b = some o') →
      h'.get? s.heap.objs.size = some { cls := .type "list", dict := none, data := .seq its.toArray c', slots := #[] } -> EP X pins σ Q (.ref s.heap.objs.size) { s with heap := h' } := fun its r' hz h' c' kp e =>
    ⟨.ref s.heap.objs.size, _, I.laid (t' := s.toks) kp (Nat.le_refl _) (show ObjOk X.prog X.w _ h' _ (.lst ys) from ⟨hz, its, c', r', e⟩), rfl, q _ (I.hok.fresh (Nat.le_refl _))⟩
  rcases hq with hq | hq
  . obtain ⟨its, r', pl, hz⟩ := I.list hq
    have hlen := r'.length
    obtain ⟨o, ho, hc, n, hd⟩ := pl.isList
    exact call_list_seq p (.inl rfl) ho hc hd (fun h' c' kp e => fin its r' hz h' c' kp e) (by simp only [List.size_toArray] <;> omega)
  . obtain ⟨its, r', pl, hz⟩ := I.tuple hq
    have hlen := r'.length
    obtain ⟨o, ho, hc, n, hd⟩ := pl
    exact call_list_seq p (.inr rfl) ho hc hd (fun h' c' kp e => fin its r' hz h' c' kp e) (by simp only [List.size_toArray] <;> omega)
def tyV (K : W.Frag) (T : String) (x : V) (H : Hp) : Prop := match x with
  | .str _ => T = "str"
  | .int _ => T = "int"
  | .ref p => (T = "list" /\ ∃ xs, SqL K H p xs) \/ (T = "tuple" /\ ∃ o, K.lookup p = some o /\ o.cls = .type "tuple" /\ o.dict = none) ∨
      (T = "dict" /\ ((∃ kvs, H p = some (.dK kvs)) \/ ∃ kvs, H p = some (.dT kvs))) \/ (T = "set" /\ ∃ S n, H p = some (.set S n))
  | _ => False
theorem a7c {pins : List (Addr × Obj)} {σ : St} {H : Hp} {s : Shared} {T : String} {x : V} {v : Value} (I : Inv X pins σ H s) (r : RelV x v) (ty : tyV X.K T x H) :
    s.TypeIs v T /\ ∀ a, v = .ref a -> ∃ ob, s.heap.get? a = some ob /\ ob.dict = none := by
  cases x with
  | str z =>
    obtain ⟨t, rfl⟩ := r
    cases (show T = "str" from ty)
    exact ⟨typeIs_str s z t, fun _ e => nomatch e⟩
  | int i =>
    obtain ⟨t, rfl⟩ := r
    cases (show T = "int" from ty)
    exact ⟨typeIs_int s i t, fun _ e => nomatch e⟩
  | ref p =>
    cases r
    rcases ty with ⟨rfl, xs, hq⟩ | ⟨rfl, o, hk, hc, hd⟩ | ⟨rfl, hk⟩ | ⟨rfl, S, n, hk⟩
    . obtain ⟨its, _, pl, _⟩ := I.list hq
      refine ⟨pl.isList.typeIs, fun a e => ?_⟩
      cases e
      obtain ⟨o, n, e, c, hd, _⟩ := pl
      exact ⟨o, e, hd⟩
    . refine ⟨⟨o, I.kIn p o hk, hc⟩, fun a e => ?_⟩
      cases e
      exact ⟨o, I.kIn _ o hk, hd⟩
    . have z : ∃ o, s.heap.get? p = some o /\ o.ExactDict := by
        rcases hk with ⟨kvs, hk⟩ | ⟨kvs, hk⟩
        . obtain ⟨_, _, _, _, o, _, _, e, ex, _⟩ := I.hok p _ hk
          exact ⟨o, e, ex⟩
        . obtain ⟨_, _, _, _, o, _, _, e, ex, _⟩ := I.hok p _ hk
          exact ⟨o, e, ex⟩
      obtain ⟨o, e, ex⟩ := z
      refine ⟨⟨o, e, ex.1⟩, fun a e2 => ?_⟩
      cases e2
      exact ⟨o, e, ex.2.1⟩
    . obtain ⟨o, _, _, _, e, ex, _⟩ := I.hok p _ hk
      refine ⟨⟨o, e, ex.1⟩, fun a e2 => ?_⟩
      cases e2
      exact ⟨o, e, ex.2.1⟩
  | _ => exact False.elim ty
def b1U (K : W.Frag) (T : String) (r : V -> List V -> Hp -> VK -> Prop) (to : TE) : TE := fun σ H Q => to σ H fun x H1 => tyV K T x H1 /\ r x [] H1 Q
def tBM (K : W.Frag) (T : String) (r : V -> List V -> Hp -> VK -> Prop) (to : TE) (t : TA) : TE := fun σ H Q => to σ H fun x H1 => tyV K T x H1 /\ t σ H1 fun xs H2 => r x xs H2 Q
variable {o e : Expr} {es : List Expr} {to : TE} {t : TA} {name : Str} {apos cpos : Pos} {T id : String} {r : V -> List V -> Hp -> VK -> Prop}
theorem a5X (pa : PlainAttrs T) (slot : Slot T name id) (hty : typeOf (.builtin id) = pure (.type "method_descriptor")) (hm : MtR X id r) (ho : PE X o to)
    (hbase : attributeBase o name X.env (eval o X.env) = eval o X.env := by rfl) (hline : (apos.endLine == cpos.line) = true := by rfl) : PE X (.Call (.Attribute o name apos) [] [] cpos) (b1U X.K T r to) := by
  intro pins s σ H Q I h
  refine wpAny_Call_method0_late hbase hline (t8 (ho pins s σ H _ I h) fun v s1 ⟨x, H1, I1, r1, ty, q1⟩ => ?_)
  obtain ⟨h1, h2⟩ := a7c I1 r1 ty
  exact ⟨T, id, pa, slot, hty, h1, h2, Calls.callWith_builtin rfl (PySem.evalArgs_none (hm pins s1 σ H1 x [] v [] Q I1 r1 .nil q1))⟩
theorem a2M (pa : PlainAttrs T) (slot : Slot T name id) (hty : typeOf (.builtin id) = pure (.type "method_descriptor")) (hm : MtR X id r) (ho : PE X o to) (ha : PA X (e :: es) t)
    (hbase : attributeBase o name X.env (eval o X.env) = eval o X.env := by rfl)
    (hfew : ((backTo cpos (starEach (e :: es) X.env)).all (fun x => !x.1) && (backToKw cpos (keywordEach [] X.env)).all (fun x => x.1.isSome)
      && decide ((e :: es).length + ([] : List Keyword).length + (if ([] : List Keyword).isEmpty then 0 else 1) < 30)) = true := by rfl)
    (hline : (apos.endLine == cpos.line) = true := by rfl) (hs : starEach (e :: es) X.env = (false, eval e X.env) :: starEach es X.env := by rfl) (hplain : (backTo cpos (starEach es X.env)).any (·.1) = false := by rfl) :
    PE X (.Call (.Attribute o name apos) (e :: es) [] cpos) (tBM X.K T r to t) := by
  intro pins s σ H Q I h
  refine wpAny_Call_method_late hbase hfew hline rfl (t8 (ho pins s σ H _ I h) fun v s1 ⟨x, H1, I1, r1, ty, q1⟩ => ?_)
  obtain ⟨h1, h2⟩ := a7c I1 r1 ty
  refine ⟨T, id, pa, slot, hty, h1, h2, ?_⟩
  have hA := ha cpos pins s1 σ H1 _ I1 q1
  rw [hs] at hA ⊢
  refine Calls.callWith_builtin (by show (false || (backTo cpos (starEach es X.env)).any (·.1)) = false; rw [hplain] <;> rfl) (Calls.evalArgs_plain ?_)
  exact t8 hA fun us s2 ⟨vs, H2, I2, r2, q2⟩ => hm pins s2 σ H2 x vs v us Q I2 r1 r2 q2
/- xs.append(e), list.index on a module's tuple .. are MtR facts of 06m -/
end
end L2
namespace L2
open PySem PySem.Spec PyProof.Rows
def MtM (X : Cx) (id : String) (r : V -> List V -> Hp -> VK -> Prop) : Prop :=
  ∀ (pins : List (Addr × Obj)) (s : Shared) (σ : St) (H : Hp) (x : V) (xs : List V) (v : Value) (us : List Value) (Q : VK), Inv X pins σ H s -> RelV x v -> Vals xs us -> r x xs H Q →
    wpAny (model X.prog X.w) X.A (call (.builtin id) (v :: us)) (EP X pins σ Q) X.xe s
theorem Vals.one : ∀ {x : V} {us : List Value}, Vals [x] us -> ∃ u, us = [u] /\ RelV x u
  | _, _, .cons r .nil => ⟨_, rfl, r⟩
theorem Vals.zero : ∀ {us : List Value}, Vals [] us -> us = []
  | _, .nil => rfl
theorem Vals.dropLast {xs : List V} {us : List Value} (h : Vals xs us) : Vals xs.dropLast us.dropLast := by
  induction h with
  | nil => exact .nil
  | cons r t ih =>
    cases t with
    | nil => exact .nil
    | cons q t' => exact .cons r ih
theorem Vals.rep {xs : List V} {us : List Value} (h : Vals xs us) : ∀ k : Nat, Vals (List.replicate k xs).flatten (List.replicate k us).flatten
  | 0 => .nil
  | k + 1 => by
    rw [List.replicate_succ, List.replicate_succ, List.flatten_cons, List.flatten_cons]
    exact Vals.append h (Vals.rep h k)
theorem a3D {α : Type} (l : List α) : l.eraseIdx (l.length - 1) = l.dropLast := by
  induction l with
  | nil => rfl
  | cons a r ih =>
    cases r with
    | nil => rfl
    | cons b r =>
      have e : (a :: b :: r).length - 1 = ((b :: r).length - 1) + 1 := by
        have h1 : (a :: b :: r).length = r.length + 2 := rfl
        have h2 : (b :: r).length = r.length + 1 := rfl
        omega
      rw [e, List.eraseIdx_cons_succ, ih]
      all_goals rfl
theorem S8 (its : List Value) : ∀ (k : Nat) (acc : List Value),
    List.foldl (fun x1 x2 => x1 ++ x2) acc.toArray (List.replicate k its.toArray) = (acc ++ (List.replicate k its).flatten).toArray
  | 0, acc => by simp
  | k + 1, acc => by
    have e : acc.toArray ++ its.toArray = (acc ++ its).toArray := by simp
    have e2 : (acc ++ its) ++ (List.replicate k its).flatten = acc ++ (List.replicate (k + 1) its).flatten := by
      rw [List.replicate_succ, List.flatten_cons, List.append_assoc]
    rw [<- e2, <- S8 its k (acc ++ its), <- e, List.replicate_succ, List.foldl_cons]
section
variable {X : Cx} {pins : List (Addr × Obj)} {σ : St} {H : Hp} {s : Shared} {l b : Addr} {xs ys zs : List V}
theorem Inv.lset {its its' : List Value} {n : Nat} {f : Array Value -> Array Value} {t' : Nat} (I : Inv X pins σ H s) (hH : H l = some (.lst xs))
    (e : s.heap.get? l = some { cls := .type "list", data := .seq its.toArray n }) (hf : f its.toArray = its'.toArray) (hv : Vals ys its') (hz : ys.length <= sizeLine) :
    Inv X pins σ (j9 H l (.lst ys)) { s with heap := s.heap.update l (Obj.mapSeq f), toks := t' } := by
  have q := PySem.IsL.update e f
  rw [hf] at q
  refine I.write (x := l) (e := l) (by rw [hH]; exact trivial) (.inl rfl) (fun b' u hb hu => (Heap.get?_update_other s.heap (Obj.mapSeq f) (Ne.symm hb)).trans hu) ⟨_, q⟩ ?_
  exact ⟨hz, its', _, hv, q⟩
theorem Inv.lnew {its : List Value} {t' : Nat} (I : Inv X pins σ H s) (hv : Vals ys its) (hz : ys.length <= sizeLine) :
    Inv X pins σ (j9 H s.heap.objs.size (.lst ys)) { s with heap := s.heap.push { cls := .type "list", data := .seq its.toArray }, toks := t' } :=
  I.laid (fun _ _ q => Heap.get?_push_of_some _ q) (Nat.le_refl _) ⟨hz, its, 0, hv, Heap.get?_push_size _ rfl⟩
theorem Inv.fresh (I : Inv X pins σ H s) : H s.heap.objs.size = none := I.hok.fresh (Nat.le_refl _)
theorem Inv.lstM (I : Inv X pins σ H s) (hH : H l = some (.lst xs)) : xs.length <= sizeLine /\ ∃ (its : List Value) (n : Nat), Vals xs its /\ xs.length = its.length /\ s.heap.get? l = some { cls := .type "list", data := .seq its.toArray n } := by
  obtain ⟨z, its, n, r, e⟩ := I.hok l _ hH
  exact ⟨z, its, n, r, r.length, e⟩
theorem a6u {n : Nat} (h : n <= sizeLine) : Builtin.List.listTooLong n = false := by
  unfold Builtin.List.listTooLong
  exact decide_eq_false (by omega)
end
section
variable {X : Cx}
def a7y : V -> List V -> Hp -> VK -> Prop := fun x vs H Q => ∃ l xs y, x = .ref l /\ vs = [y] /\ H l = some (.lst xs) /\ xs.length < sizeLine /\ Q .non (j9 H l (.lst (xs ++ [y])))
theorem G4 : MtM X "list.append" a7y := by
  intro pins s σ H x vs v us Q I rx rv h
  obtain ⟨l, xs, y, rfl, rfl, hH, hz, q⟩ := h
  cases rx
  obtain ⟨u, rfl, ru⟩ := rv.one
  obtain ⟨z, its, n, r, hl, e⟩ := I.lstM hH
  refine call_meets F.slot_list_append ⟨_, e, rfl⟩ F.entry_list_append (F.args_list_append_2 _ _) (PySem.list_append l its.toArray n u (by rw [List.size_toArray]; omega)) ⟨e, ?_⟩
  refine ⟨.non, _, I.lset (its' := its ++ [u]) hH e (by simp) (r.append (.cons ru .nil)) ?_, rfl, q⟩
  rw [List.length_append, List.length_singleton]
  omega
def b2n : V -> List V -> Hp -> VK -> Prop := fun x vs H Q => ∃ l xs y, x = .ref l /\ vs = [] /\ H l = some (.lst xs) /\ xs[xs.length - 1]? = some y /\ Q y (j9 H l (.lst xs.dropLast))
theorem a6y : MtM X "list.pop" b2n := by
  intro pins s σ H x vs v us Q I rx rv h
  obtain ⟨l, xs, y, rfl, rfl, hH, hy, q⟩ := h
  cases rx
  have hus := rv.zero
  subst hus
  obtain ⟨z, its, n, r, hl, e⟩ := I.lstM hH
  obtain ⟨u, hu, ru⟩ := r.get hy
  have hy' : its.toArray[its.toArray.size - 1]? = some u := by
    show its.toArray[its.length - 1]? = some u
    rw [<- Array.getElem?_toList, <- hl]
    exact hu
  refine call_meets F.slot_list_pop ⟨_, e, rfl⟩ F.entry_list_pop (F.args_list_pop_1 _) (MeetsSeq.list_pop_last l its.toArray n u hy' (by rw [List.size_toArray]; omega)) ⟨e, ?_⟩
  refine ⟨y, _, I.lset (its' := its.dropLast) hH e ?_ r.dropLast ?_, ru, q⟩
  . show its.toArray.eraseIdxIfInBounds (its.toArray.size - 1) = its.dropLast.toArray
    rw [List.size_toArray, List.eraseIdxIfInBounds_toArray, a3D]
  . rw [List.length_dropLast]
    omega
def b2A : R2 := fun x y H Q => ∃ l b xs zs, x = .ref l /\ y = .ref b /\ H l = some (.lst xs) /\ H b = some (.lst zs) /\ xs.length + zs.length <= sizeLine /\ ∀ p, H p = none -> Q (.ref p) (j9 H p (.lst (xs ++ zs)))
theorem v7 : T9 X (binaryOp .Add) b2A := by
  intro pins s σ H x y v u Q I rx ry h
  obtain ⟨l, b, xs, zs, rfl, rfl, hH, hB, hz, q⟩ := h
  cases rx
  cases ry
  obtain ⟨z, its, n, r, hl, e⟩ := I.lstM hH
  obtain ⟨z2, its2, n2, r2, hl2, e2⟩ := I.lstM hB
  refine PySem.P.add_list e e2 ?_ (by rw [List.size_toArray, List.size_toArray]; omega)
  have ea : its.toArray ++ its2.toArray = (its ++ its2).toArray := by simp
  rw [ea]
  exact ⟨.ref _, _, I.lnew (t' := s.toks) (r.append r2) (by rw [List.length_append]; omega), rfl, q _ I.fresh⟩
def b2o : R2 := fun x y H Q => ∃ l k xs, x = .ref l /\ y = .int k /\ H l = some (.lst xs) /\ -(2 ^ 63) <= k /\ k < 2 ^ 63 /\ xs.length * k.toNat <= sizeLine ∧
  ∀ p, H p = none -> Q (.ref p) (j9 H p (.lst (List.replicate k.toNat xs).flatten))
theorem a1N {α : Type} (xs : List α) (k : Nat) : (List.replicate k xs).flatten.length = k * xs.length := by
  induction k with
  | zero => simp
  | succ k ih => rw [List.replicate_succ, List.flatten_cons, List.length_append, ih, Nat.succ_mul, Nat.add_comm]
theorem X9 : T9 X (binaryOp .Mult) b2o := by
  intro pins s σ H x y v u Q I rx ry h
  obtain ⟨l, k, xs, rfl, rfl, hH, h1, h2, hz, q⟩ := h
  cases rx
  obtain ⟨t, rfl⟩ := ry
  obtain ⟨z, its, n, r, hl, e⟩ := I.lstM hH
  have hlen : its.toArray.size * k.toNat <= sizeLine := by rw [List.size_toArray, <- hl]; exact hz
  have hcap : ¬ its.toArray.size * k.toNat > (2 ^ 63 - 1) / 8 := by
    have : (sizeLine : Nat) <= (2 ^ 63 - 1) / 8 := by decide
    omega
  have hfit : ¬ (!Builtin.List.listFitsIndex k) = true := by
    rw [fitsIndex_both h1 h2]
    exact Bool.false_ne_true
  have hlong : ¬ Builtin.List.listTooLong (its.toArray.size * k.toNat) = true := by
    rw [a6u hlen]
    exact Bool.false_ne_true
  have hnew : List.foldl (fun x1 x2 => x1 ++ x2) #[] (List.replicate (if its.toArray.isEmpty = true then 0 else k.toNat) its.toArray) = (List.replicate k.toNat its).flatten.toArray := by
    have f0 : ∀ m : Nat, List.foldl (fun x1 x2 => x1 ++ x2) #[] (List.replicate m its.toArray) = (List.replicate m its).flatten.toArray := fun m => by
      have := S8 its m []
      rw [List.nil_append] at this
      exact this
    rw [f0]
    cases its with
    | nil => simp
    | cons a r' => rw [if_neg (by simp)]
  refine wpAny_binaryOp_repeat_ref (T := "list") (U := "int") (by decide) ⟨_, e, rfl⟩ (fun s' => typeIs_int s' k t) noFill_list_mul F.fills_int_mul F.slot_int_rmul repeat_list F.slot_int_index.lookup
    (call_meets F.slot_int_rmul (typeIs_int s k t) F.entry_int_rmul (F.args_int_rmul_2 _ _) (int___rmul___int_list k t l its.toArray n)
      ⟨e, rfl, ⟨_, e, rfl⟩, call_meets F.slot_list_mul ⟨_, e, rfl⟩ F.entry_list_mul (F.args_list_mul_2 _ _) (AutoListH.list___mul___list_int_3 l its.toArray n k t hfit hcap hlong) ⟨e, ?_⟩⟩)
  rw [hnew]
  exact ⟨.ref _, _, I.lnew (t' := s.toks) (r.rep k.toNat) (by rw [a1N, Nat.mul_comm]; exact hz), rfl, q _ I.fresh⟩
end
section
variable {prog : Program} {w : World} {A : Around} {E : Value -> Shared -> Prop} {s : Shared}
end
section
variable {X : Cx}
end
end L2
namespace Att
open PySem PySem.W PySem.Calls PyProof.Rows
theorem a0a {P : Params} {h : Heap} : ∀ (ns : List Int) (vs : List Value), WellAll P h vs (ns.map WData.int) -> IntsAre vs ns := by
  intro ns
  induction ns with
  | nil =>
    intro vs w
    rw [List.map_nil] at w
    cases w
    exact .nil
  | cons n ns ih =>
    intro vs w
    rw [List.map_cons] at w
    cases w with
    | cons a b =>
      cases a
      exact .cons _ _ (ih _ b)
theorem a5o {l : OpenLaw} {n : Nat} (hn : l.most = some n) {P : Params} {h : Heap} {args : List WData} {vals : List Value}
    (hpre : l.row.toRowW.claim.pre args = true) (hwl : WellAll P h vals args) :
    ∃ a vs ns, vals = [Value.ref a] /\ args = [WData.list (ns.map WData.int)] /\ h.get? a = some { cls := .type "list", data := .seq vs.toArray } /\ IntsAre vs ns /\ ns.length <= n := by
  have hsh : WShape.hasAll [] args [.list .int] = true := (pre_splitW hpre).1
  have hc : l.pre.holds [] { args := args } = true := (pre_splitW hpre).2
  obtain ⟨d, r, rfl, h1, h2⟩ := hasAllW_cons hsh
  obtain rfl := hasAllW_nil h2
  obtain ⟨xs, rfl, h3⟩ := hasW_list h1
  obtain ⟨ns, rfl⟩ := items_int h3
  have hlen : ns.length <= n := by
    unfold OpenLaw.pre at hc
    have h4 : (WTm.not (.lt (.lit (.int (n : Int))) (.len (.arg 0)))).holds [] { args := [.list (ns.map .int)] } = true := by
      have h4 := (holds_andW hc).1
      rw [hn] at h4
      exact h4
    have h5 := condW_of h4 (w_not (w_lt w_lit (w_len_list (w_arg rfl))))
    rw [List.length_map] at h5
    refine Nat.le_of_not_lt fun q => ?_
    have q' : (n : Int) < ((ns.length : Nat) : Int) := by omega
    first
      | (rw [decide_eq_true q'] at h5; exact absurd h5 (by decide))
      | (simp at h5; omega)
  cases hwl with
  | cons w1 w2 =>
    cases w2
    cases w1 with
    | list ho hall => exact ⟨_, _, ns, rfl, rfl, ho, a0a ns _ hall, hlen⟩
theorem a5j (l : OpenLaw) (args : List WData) : l.row.toRowW.claim.post args (.bool true) args = true :=
  postW_of (r := l.row.toRowW) (X := (true == true))
    (show WShape.has [] (.bool true) .bool = true by first | rfl | decide | simp [WShape.has, WShape.arms, WShape.armsAll])
    (show (WTm.eq .res (.lit (.bool true))).value [] { args := args, res := some (.bool true), after := args } = some (.bool (true == true)) from w_eq_bool (w_res rfl) w_lit) rfl
theorem attach_call {l : OpenLaw} {n : Nat} {q : Program} {loose : List Str} {XP : (Str -> Option Value) -> Heap -> Prop} {YP : World -> Heap -> Prop} {d : DefRec}
    (hn : l.most = some n) (hdf : d.params.defaults = [])
    (call : ∀ (w : World) (s₀ s₁ : Shared) (mg mb : Str -> Option Value) (fa : Addr) (o : Obj) (pm cd doc : Value) (a : Addr) (vs : List Value) (ns : List Int),
      Ground q loose [] XP w s₀ mg mb s₁.heap -> YP w s₁.heap →
      s₁.heap.get? fa = some o -> o.data = .func (docDef d.name d.params d.body d.scope pm cd doc) -> s₁.heap.CodeRec cd d.name -> mg d.name = some (.ref fa) →
      s₁.heap.get? a = some { cls := .type "list", data := .seq vs.toArray } -> IntsAre vs ns -> ns.length <= n -> s₁.gens = #[] →
      codeAny (model l.prog w) callerA (.call (.ref fa) ⟨[.ref a], []⟩) (fun r s' => r = .ok (.ret (.bool true)) /\ OldK s₁.heap s'.heap /\ s'.os = s₁.os /\ AllBare s'.gens) s₁) :
    WalkO q loose XP YP l.row.toRowW d [] (fun f vs => PySem.call f vs) := by
  intro w s₀ s₁ mg mb G Y fa o pm cd doc dV kV ho hd hcd hD hmg hg args vals as hpre hlay hrd hwl hlo
  obtain rfl : dV = .none := Dflts.none hD hdf
  obtain rfl : kV = .none := Dflts.noKw hD
  obtain ⟨a, vs, ns, rfl, rfl, hobj, hints, hlen⟩ := a5o hn hpre hwl
  refine enter_call (codeAny_mono (call w s₀ s₁ mg mb fa o pm cd doc a vs ns G Y ho (fd_plain hd) hcd hmg hobj hints hlen hg) fun r s' hq => ?_)
  obtain ⟨rfl, h2, h3, h4⟩ := hq
  exact ⟨.inl ⟨.bool true, .bool true, [], rfl, fun _ => rfl, .bool true, a5j l _, fun _ => ⟨List.Pairwise.nil, fun _ hm => (nomatch hm)⟩⟩, h2, h3, h4⟩
section
variable {prog : Program} {w : World} {A : Around} {E : Value -> Shared -> Prop} {s : Shared} {K : Frag}
end
end Att
namespace L2
open PySem PySem.Spec PyProof.Rows
theorem a1l : ∀ {vs : List Value} {ns : List Int}, IntsAre vs ns -> Vals (ns.map V.int) vs
  | _, _, .nil => .nil
  | _, _, .cons n t h => .cons ⟨t, rfl⟩ (a1l h)
end L2
namespace L2
open PySem PySem.Spec PyProof.Rows
end L2
namespace L2
open PySem PySem.Spec PyProof.Rows
def y4 (s : Stmt) (j : Nat) : Stmt := match s with
  | .ClassDef _ _ _ body _ _ _ _ _ _ _ => body.getD j (.Pass ⟨0, 0, 0, 0⟩)
  | _ => .Pass ⟨0, 0, 0, 0⟩
def A3 (s : Stmt) : Arguments := match s with
  | .FunctionDef _ a _ _ _ _ _ _ _ _ => a
  | _ => { posonlyargs := [], args := [], vararg := none, kwonlyargs := [], kw_defaults := [], kwarg := none, defaults := [] }
def p7 (s : Stmt) : List Stmt := match s with
  | .FunctionDef _ _ b _ _ _ _ _ _ _ => b
  | _ => []
def d9 (s : Stmt) : Scope := match s with
  | .FunctionDef _ _ _ _ _ _ sc _ _ _ => sc
  | _ => { kind := .function, names := [], isGenerator := false, isCoroutine := false }
abbrev D4 : CXT := fun _ _ _ _ _ _ => False
abbrev E0 : XK := fun _ _ _ => False
theorem p9 {X : Cx} : N6 D4 X E0 := fun _ _ _ _ _ _ _ h => h.elim
structure Fun (K : W.Frag) (x qual : Str) (st : Stmt) (f : Addr) (fd : FuncData) : Prop where
  ex : ∃ (oc : Value) (od : Option Addr) (kV doc pm : Value) (an : Option Addr) (cdv ct : Value) (osl : Array (Option Value)),
    fd = W.fnOf x qual (A3 st) (p7 st) (d9 st) .none kV doc pm an cdv ct /\ K.lookup f = some ⟨oc, od, .func fd, osl⟩ /\ W.codeIn K cdv qual = true
  kp : W.keepIn K (.ref f) = true
section
variable {P : Program} {w : World} {K : W.Frag} {mg : Str -> Option Value} {base : Heap}
theorem Fun.ok {x qual : Str} {st : Stmt} {f : Addr} {fd : FuncData} {N ps : List Str} {k : Nat} {sp : Sp} (F : Fun K x qual st f fd) (S : i8 N ps (d9 st)) (len : ∀ vs H Q E, sp vs H Q E -> vs.length = ps.length)
    (hbody : ∀ (cdv : Value) (A : Around) (outer : List Env) (s : Shared) (H : Hp) (vs : List V) (Q : VK) (E : XK), Room k (A.deeper (envOfC qual (d9 st) s.heap.objs.size f cdv)) -> sp vs H Q E →
      ∃ t, PSs (E7 D4 P w K mg base N qual (d9 st) f cdv A outer s H E).nox (p7 st) t /\ t { nx := fun _ H' => Q .non H', rt := Q } (E8 N vs) H) : FnOk P w K mg base D4 (k + 1) f fd ps sp := by
  obtain ⟨oc, od, kV, doc, pm, an, cdv, ct, osl, rfl, lk, hcd⟩ := F.ex
  refine a6E lk hcd S len fun A outer s H vs Q E hr hsp => ?_
  obtain ⟨t, h, q⟩ := hbody cdv A outer s H vs Q E hr hsp
  exact ⟨t, h.nox, q⟩
theorem Fun.binds {x qual : Str} {st : Stmt} {f : Addr} {fd : FuncData} {ps : List Str} (F : Fun K x qual st f fd)
    (h : ∀ (kV doc pm : Value) (an : Option Addr) (cdv ct : Value) (us : List Value), us.length = ps.length -> bindArgs (W.fnOf x qual (A3 st) (p7 st) (d9 st) .none kV doc pm an cdv ct) ⟨us, []⟩ = pure (ps.zip us)) : Binds K fd ps [] := by
  obtain ⟨oc, od, kV, doc, pm, an, cdv, ct, osl, rfl, lk, hcd⟩ := F.ex
  exact .all (h kV doc pm an cdv ct)
theorem a6D {x qual : Str} {st : Stmt} {f : Addr} {oc : Value} {od an : Option Addr} {osl : Array (Option Value)} {kV doc pm cdv ct : Value} (l : K.lookup f = some ⟨oc, od, .func (W.fnOf x qual (A3 st) (p7 st) (d9 st) .none kV doc pm an cdv ct), osl⟩)
    (c : W.codeIn K cdv qual = true) (k : W.keepIn K (.ref f) = true) : Fun K x qual st f (W.fnOf x qual (A3 st) (p7 st) (d9 st) .none kV doc pm an cdv ct) := ⟨⟨oc, od, kV, doc, pm, an, cdv, ct, osl, rfl, l, c⟩, k⟩
end
theorem j7 {n : Nat} (h : n <= 1000) : n < sizeLine := Nat.lt_of_le_of_lt h (by decide)
section
variable {X : Cx}
theorem pv (i : Nat) {x : Str} {pos : Pos} (hN : X.N[i]? = some x := by rfl) (hv : Vis X.env.scope x := by first | exact Or.inl rfl | exact Or.inr (Or.inl rfl) | exact Or.inr (Or.inr rfl)) (hd : (x == ("__debug__" : Str)) = false := by decide)
    (hcd : (x == ("__classdict__" : Str)) = false := by decide) : PE X (.Name x pos) (a3E i) := a9t hN hv hd hcd
end
theorem K2 {A B : Prop} (h : B) : if false = true then A else B := by
  rw [if_neg Bool.false_ne_true]
  exact h
theorem a0c {A B : Prop} (h : A) : if true = true then A else B := by
  rw [if_pos rfl]
  exact h
theorem A7 {c A B : Prop} [Decidable c] (h1 : c -> A) (h2 : ¬ c -> B) : if c then A else B := by
  by_cases h : c
  . rw [if_pos h]
    exact h1 h
  . rw [if_neg h]
    exact h2 h
theorem b1w {c A B : Prop} [Decidable c] (hc : c) (h : B) : if (!decide c) = true then A else B := by
  rw [decide_eq_true hc]
  exact K2 h
def Same (H H' : Hp) : Prop := ∀ b o, H b = some o -> H' b = some o
theorem Same.refl (H : Hp) : Same H H := fun _ _ h => h
theorem Same.trans {H H1 H2 : Hp} (a : Same H H1) (b : Same H1 H2) : Same H H2 := fun c o h => b c o (a c o h)
theorem Same.free {H H' : Hp} (e : Same H H') {l : Addr} (h : H' l = Option.none) : H l = Option.none := by
  cases q : H l with
  | none => rfl
  | some o =>
    rw [e l o q] at h
    cases h
theorem Same.seq {K : W.Frag} {H H' : Hp} {a : Addr} {xs : List V} (e : Same H H') (h : SqL K H a xs) : SqL K H' a xs := by
  rcases h with (h | ⟨o, h⟩) | h
  . exact .inl (.inl (e _ _ h))
  . exact .inl (.inr ⟨o, e _ _ h⟩)
  . exact .inr h
end L2
namespace L2
open PySem PySem.Spec PyProof.Rows
def clo (env : Env) : List (Str × NameKind) -> List (Str × Addr) -> List (Str × Addr)
  | [], cs => cs
  | (n, k) :: r, cs => if k == .free then (match env.cells.lookup n with | some a => clo env r ((n, a) :: cs) | none => clo env r cs) else clo env r cs
theorem A2 {scope : Scope} {env : Env} (h : ∀ n, (n, NameKind.free) ∈ scope.names -> ∃ c, env.cells.lookup n = some c) : closureFor scope env = pure (clo env scope.names []) := by
  simp only [closureFor]
  generalize ([] : List (Str × Addr)) = cs
  revert h
  generalize scope.names = l
  intro h
  induction l generalizing cs with
  | nil => rfl
  | cons x r ih =>
    obtain ⟨n, k⟩ := x
    have hr : ∀ n, (n, NameKind.free) ∈ r -> ∃ c, env.cells.lookup n = some c := fun n hn => h n (List.mem_cons_of_mem _ hn)
    by_cases hk : k = .free
    . subst hk
      obtain ⟨c, hc⟩ := h n List.mem_cons_self
      have q := ih ((n, c) :: cs) hr
      simp only [List.forIn_cons, clo, hc, beq_self_eq_true, if_true, cellOf]
      exact q
    . have hb : (k == NameKind.free) = false := by simpa using hk
      have q := ih cs hr
      simp only [List.forIn_cons, clo, hb, Bool.false_eq_true, if_false]
      exact q
theorem V6 {env : Env} {x : Str} {c : Addr} : ∀ {l : List (Str × NameKind)} {cs : List (Str × Addr)}, (∀ x c, cs.lookup x = some c -> env.cells.lookup x = some c) -> (clo env l cs).lookup x = some c -> env.cells.lookup x = some c
  | [], _, h, e => h x c e
  | (n, k) :: r, cs, h, e => by
    unfold clo at e
    by_cases hk : (k == NameKind.free) = true
    . rw [if_pos hk] at e
      cases q : env.cells.lookup n with
      | none => rw [q] at e; exact V6 h e
      | some a =>
        rw [q] at e
        refine V6 (cs := (n, a) :: cs) (fun y d z => ?_) e
        rw [List.lookup_cons] at z
        cases hy : y == n with
        | true =>
          rw [hy] at z
          have : y = n := by simpa using hy
          subst this
          rw [q]; exact z
        | false => rw [hy] at z; exact h y d z
    . rw [if_neg hk] at e
      exact V6 h e
theorem a0g {env : Env} {x : Str} {c : Addr} : ∀ {l : List (Str × NameKind)} {cs : List (Str × Addr)}, (x, c) ∈ clo env l cs -> (env.cells.lookup x = some c /\ (x, NameKind.free) ∈ l) \/ (x, c) ∈ cs
  | [], _, e => .inr e
  | (n, k) :: r, cs, e => by
    unfold clo at e
    by_cases hk : (k == NameKind.free) = true
    . rw [if_pos hk] at e
      have hk' : k = .free := by simpa using hk
      cases q : env.cells.lookup n with
      | none =>
        rw [q] at e
        exact (a0g e).imp (fun z => ⟨z.1, List.mem_cons_of_mem _ z.2⟩) id
      | some a =>
        rw [q] at e
        rcases a0g (cs := (n, a) :: cs) e with z | z
        . exact .inl ⟨z.1, List.mem_cons_of_mem _ z.2⟩
        . rcases List.mem_cons.mp z with z | z
          . cases z
            exact .inl ⟨q, by rw [hk']; exact List.mem_cons_self⟩
          . exact .inr z
    . rw [if_neg hk] at e
      exact (a0g e).imp (fun z => ⟨z.1, List.mem_cons_of_mem _ z.2⟩) id
theorem p6 : ∀ (names : List (Str × NameKind)) (n : Nat) (acc : List (Str × Addr)), cellsFrom n names acc = cellsFrom n names [] ++ acc
  | [], _, _ => rfl
  | (x, k) :: r, n, acc => by
    unfold cellsFrom
    split
    . rw [p6 r (n + 1) ((x, n) :: acc), p6 r (n + 1) [(x, n)], List.append_assoc]; rfl
    . exact p6 r n acc
theorem C6 {x : Str} {c : Addr} : ∀ {names : List (Str × NameKind)} {n : Nat}, (x, c) ∈ cellsFrom n names [] -> (x, NameKind.cell) ∈ names
  | [], _, e => by cases e
  | (y, k) :: r, n, e => by
    unfold cellsFrom at e
    by_cases hk : (k == NameKind.cell) = true
    . rw [if_pos hk, p6] at e
      have hk' : k = .cell := by simpa using hk
      rcases List.mem_append.mp e with z | z
      . exact List.mem_cons_of_mem _ (C6 z)
      . rw [List.mem_singleton] at z
        cases z
        rw [hk']; exact List.mem_cons_self
    . rw [if_neg hk] at e
      exact List.mem_cons_of_mem _ (C6 e)
theorem K7 {x : Str} : ∀ {names : List (Str × NameKind)} {n : Nat}, (x, NameKind.cell) ∈ names -> ∃ c, (x, c) ∈ cellsFrom n names []
  | (y, k) :: r, n, e => by
    unfold cellsFrom
    rcases List.mem_cons.mp e with z | z
    . cases z
      rw [if_pos (by rfl), p6]
      exact ⟨n, List.mem_append_right _ List.mem_cons_self⟩
    . split
      . rw [p6]
        obtain ⟨c, hc⟩ := K7 (n := n + 1) z
        exact ⟨c, List.mem_append_left _ hc⟩
      . exact K7 z
theorem a0v {α : Type} {x : Str} : ∀ {l₁ l₂ : List (Str × α)}, (l₁ ++ l₂).lookup x = match l₁.lookup x with | some c => some c | none => l₂.lookup x
  | [], _ => rfl
  | (n, c) :: r, l₂ => by
    rw [List.cons_append, List.lookup_cons, List.lookup_cons]
    cases hx : x == n with
    | true => rfl
    | false => exact a0v (l₁ := r)
theorem T5 {α : Type} {x : Str} {c : α} : ∀ {l : List (Str × α)}, (x, c) ∈ l -> ∃ c', l.lookup x = some c'
  | (n, d) :: r, h => by
    rw [List.lookup_cons]
    cases hx : x == n with
    | true => exact ⟨d, rfl⟩
    | false =>
      rcases List.mem_cons.mp h with z | z
      . cases z; simp at hx
      . exact T5 z
theorem R8 {env : Env} {x : Str} : ∀ {l : List (Str × NameKind)} {cs : List (Str × Addr)}, (∃ c, cs.lookup x = some c) -> ∃ c, (clo env l cs).lookup x = some c
  | [], _, h => h
  | (n, k) :: r, cs, h => by
    unfold clo
    split
    . split
      . refine R8 ?_
        rw [List.lookup_cons]
        cases hy : x == n with
        | true => exact ⟨_, rfl⟩
        | false => exact h
      . exact R8 h
    . exact R8 h
theorem S1 {env : Env} {x : Str} (hx : ∃ c, env.cells.lookup x = some c) : ∀ {l : List (Str × NameKind)} {cs : List (Str × Addr)}, (x, NameKind.free) ∈ l -> ∃ c, (clo env l cs).lookup x = some c
  | (n, k) :: r, cs, h => by
    rcases List.mem_cons.mp h with e | e
    . cases e
      obtain ⟨c, hc⟩ := hx
      unfold clo
      rw [if_pos (by rfl), hc]
      refine R8 ⟨c, ?_⟩
      simp [List.lookup_cons]
    . unfold clo
      split
      . split
        . exact S1 hx e
        . exact S1 hx e
      . exact S1 hx e
def M2 (env : Env) (scope : Scope) (C : Addr) : List (Str × Addr) := cellsFrom (C + 1) scope.names (clo env scope.names [])
theorem A4 {env : Env} {scope : Scope} {C : Addr} {x : Str} {c : Addr} (h : (M2 env scope C).lookup x = some c) :
    ((x, c) ∈ cellsFrom (C + 1) scope.names [] /\ (x, NameKind.cell) ∈ scope.names) \/ (env.cells.lookup x = some c /\ (x, NameKind.free) ∈ scope.names) := by
  have m := mem_of_lookup h
  unfold M2 at m
  rw [p6] at m
  rcases List.mem_append.mp m with z | z
  . exact .inl ⟨z, C6 z⟩
  . rcases a0g z with y | y
    . exact .inr y
    . cases y
theorem Z9 {env : Env} {scope : Scope} {C : Addr} {x : Str} (hx : ∃ c, env.cells.lookup x = some c) (hf : (x, NameKind.free) ∈ scope.names) (hn : (x, NameKind.cell) ∉ scope.names) : (M2 env scope C).lookup x = env.cells.lookup x := by
  obtain ⟨c, hc⟩ := S1 (env := env) (cs := []) hx hf
  have hc' := V6 (env := env) (fun _ _ z => by simp at z) hc
  unfold M2
  rw [p6, a0v]
  cases q : (cellsFrom (C + 1) scope.names []).lookup x with
  | some d => exact absurd (C6 (mem_of_lookup q)) hn
  | none => rw [hc', <- hc]
def blk (X : Cx) (os : List Str) (fr : List Nat) (scope : Scope) (C : Addr) (fp : List Addr) (s₀ : Shared) (H₀ : Hp) : Cx :=
  { X with N := os ++ fr.map (fun j => X.N.getD j ""), s₀ := s₀, H₀ := H₀, env := compEnvC scope (M2 X.env scope C) C X.env, outer := X.stack, ex := fp, fn := fun x => scope.names.lookup x == some .cell, pn := [], xe := fun _ _ => False }
def frv (fr : List Nat) (σ : St) : St := fr.map fun j => (σ[j]?).join
def blkσ (n : Nat) (fr : List Nat) (σ : St) : St := List.replicate n none ++ frv fr σ
def Wk (σ0 σ2 : St) : Prop := σ2.length = σ0.length /\ ∀ (i : Nat) v, σ0[i]? = some (some v) -> σ2[i]? = some (some v)
def V4 (outer : Scope) (scope : Scope) (N : List Str) (fr : List Nat) : Bool :=
  (scope.names.all fun p => (scope.names.lookup p.1 == some p.2) && (p.2 != .free || outer.names.lookup p.1 == some .cell)) &&
  (fr.all fun j => decide (j < N.length) && (outer.names.lookup (N.getD j "") == some .cell) && (scope.names.lookup (N.getD j "") == some .free))
theorem B9 {x : Str} {k : NameKind} : ∀ {l : List (Str × NameKind)}, l.lookup x = some k -> (x, k) ∈ l
  | (n, j) :: r, h => by
    rw [List.lookup_cons] at h
    cases hx : x == n with
    | true =>
      rw [hx] at h
      have : x = n := by simpa using hx
      subst this
      cases h
      exact List.mem_cons_self
    | false => rw [hx] at h; exact List.mem_cons_of_mem _ (B9 h)
theorem G2 {env : Env} {x : Str} {k : NameKind} : ∀ {names : List (Str × NameKind)},
    (names.map fun (n, k) => if (k == NameKind.free && env.scope.kind == .function && env.kindOf n == some .cell) then (n, NameKind.cell) else (n, k)).lookup x = some k →
    (x, k) ∈ names \/ (x, NameKind.free) ∈ names
  | [], h => by simp at h
  | (n, j) :: r, h => by
    rw [List.map_cons] at h
    dsimp only at h
    by_cases hc : (j == NameKind.free && env.scope.kind == .function && env.kindOf n == some .cell) = true
    . rw [if_pos hc, List.lookup_cons] at h
      have hj : j = .free := by
        have := (Bool.and_eq_true _ _ ▸ (Bool.and_eq_true _ _ ▸ hc).1).1
        simpa using this
      cases hx : x == n with
      | true =>
        have : x = n := by simpa using hx
        subst this
        subst hj
        exact .inr List.mem_cons_self
      | false =>
        rw [hx] at h
        exact (G2 h).imp (List.mem_cons_of_mem _) (List.mem_cons_of_mem _)
    . rw [if_neg hc, List.lookup_cons] at h
      cases hx : x == n with
      | true =>
        rw [hx] at h
        have : x = n := by simpa using hx
        subst this
        cases h
        exact .inl List.mem_cons_self
      | false =>
        rw [hx] at h
        exact (G2 h).imp (List.mem_cons_of_mem _) (List.mem_cons_of_mem _)
section
variable {X : Cx} {os : List Str} {fr : List Nat} {scope : Scope}
theorem J1 (h : V4 X.env.scope scope X.N fr = true) : ∀ p ∈ scope.names, scope.names.lookup p.1 = some p.2 /\ (p.2 = .free -> X.env.scope.names.lookup p.1 = some .cell) := fun p hp => by
  have q := List.all_eq_true.mp (Bool.and_eq_true _ _ ▸ h).1 p hp
  simp only [Bool.and_eq_true, bne_iff_ne, Bool.or_eq_true, beq_iff_eq, ne_eq] at q
  refine ⟨q.1, fun e => ?_⟩
  rcases q.2 with z | z
  . exact absurd e z
  . exact z
theorem a3w (h : V4 X.env.scope scope X.N fr = true) {x : Str} {a b : NameKind} (ha : (x, a) ∈ scope.names) (hb : (x, b) ∈ scope.names) : a = b := by
  have h1 := (J1 h _ ha).1
  have h2 := (J1 h _ hb).1
  rw [h1] at h2
  exact Option.some.inj h2
theorem a8P (h : V4 X.env.scope scope X.N fr = true) : ∀ j ∈ fr, j < X.N.length /\ X.env.scope.names.lookup (X.N.getD j "") = some .cell /\ scope.names.lookup (X.N.getD j "") = some .free := fun j hj => by
  have q := List.all_eq_true.mp (Bool.and_eq_true _ _ ▸ h).2 j hj
  simp only [Bool.and_eq_true, beq_iff_eq, decide_eq_true_eq] at q
  exact ⟨q.1.1, q.1.2, q.2⟩
theorem O4 {pins : List (Addr × Obj)} {σ : St} {H : Hp} {s : Shared} (I : Inv X pins σ H s) (h : V4 X.env.scope scope X.N fr = true) : ∀ n, (n, NameKind.free) ∈ scope.names -> ∃ c, X.env.cells.lookup n = some c := fun n hn =>
  I.ok.has n (.inl ((J1 h _ hn).2 rfl))
theorem Inv.block {pins : List (Addr × Obj)} {σ : St} {H : Hp} {s : Shared} {fp : List Addr} {h₁ : Heap} {t' : Nat} (I : Inv X pins σ H s) (hk : scope.kind = .function) (h : V4 X.env.scope scope X.N fr = true)
    (hf : ∀ b ∈ fp, N0 X pins H b) (ho : ∀ b ∈ fp, ∃ o, s.heap.get? b = some o) (hns : h₁.Ns s.heap.objs.size fun _ => none) (hkeep : ∀ b o, s.heap.get? b = some o -> h₁.get? b = some o)
    (hcl : CellsOk h₁ (s.heap.objs.size + 1) (cellsFrom (s.heap.objs.size + 1) scope.names [])) :
    Inv (blk X os fr scope s.heap.objs.size fp s H) [] (blkσ os.length fr σ) H { s with heap := h₁, toks := t' } where
  ok := {
    mod := I.ok.mod
    kind := hk
    glob := I.ok.glob
    blt := I.ok.blt
    above := Nat.le_refl _
    inj := fun x y c e1 e2 => by
      have old : ∀ {z : Str}, X.env.cells.lookup z = some c -> c < s.heap.objs.size := fun {z} e => by
        obtain ⟨v, q⟩ := I.cell z c e
        exact q.lt
      rcases A4 e1 with z1 | z1 <;> rcases A4 e2 with z2 | z2
      . exact name_of_addr hcl.apart z1.1 z2.1
      . exact absurd (Nat.lt_of_lt_of_le (Nat.lt_succ_of_lt (old z2.1)) (hcl.empty _ _ z1.1).2) (Nat.lt_irrefl _)
      . exact absurd (Nat.lt_of_lt_of_le (Nat.lt_succ_of_lt (old z1.1)) (hcl.empty _ _ z2.1).2) (Nat.lt_irrefl _)
      . exact I.ok.inj x y c z1.1 z2.1
    has := fun x hx => by
      have hm : (x, NameKind.cell) ∈ scope.names \/ (x, NameKind.free) ∈ scope.names := by
        rcases hx with e | e
        . exact G2 e
        . rcases G2 e with z | z
          . exact .inr z
          . exact .inr z
      rcases hm with z | z
      . obtain ⟨c, hc⟩ := K7 (n := s.heap.objs.size + 1) z
        refine T5 (c := c) ?_
        show (x, c) ∈ M2 _ _ _
        unfold M2
        rw [p6]
        exact List.mem_append_left _ hc
      . obtain ⟨c, hc⟩ := O4 I h x z
        refine ⟨c, ?_⟩
        show (M2 _ _ _).lookup x = _
        rw [Z9 ⟨c, hc⟩ z (fun w => by cases a3w h z w)]
        exact hc
    cab := fun x c hx e => by
      have hx' : scope.names.lookup x = some .cell := by simpa using (show (scope.names.lookup x == some .cell) = true from hx)
      rcases A4 e with z | z
      . exact Nat.le_of_lt (Nat.lt_of_succ_le (hcl.empty _ _ z.1).2)
      . cases a3w h (B9 hx') z.2
    hd := I.ok.hd
    frames := I.ok.frames
    stk := .inl rfl
    exf := fun b hb => by
      obtain ⟨o, e⟩ := ho b hb
      refine ⟨Nat.ne_of_lt (Heap.lt_size e), fun x c e1 => ?_⟩
      rcases A4 e1 with z | z
      . intro w
        have := (hcl.empty _ _ z.1).2
        rw [w] at this
        exact absurd (Nat.lt_of_lt_of_le (Nat.lt_succ_of_lt (Heap.lt_size e)) this) (Nat.lt_irrefl _)
      . exact (hf b hb).2.2.2.2.1 x c z.1
    bs := I.bs
    bsz := Nat.le_trans I.ok.bsz I.sz
    noex := fun b o e hb => by
      rcases (hf b hb).2.2.2.1 with z | z
      . exact I.ok.noex b o e z
      . exact absurd (Nat.lt_of_lt_of_le (Heap.lt_size e) (Nat.le_trans I.ok.bsz z)) (Nat.lt_irrefl _)
    exfs := fun b hb hz => by
      rcases List.mem_cons.mp (I.stkSub b hz) with e | e
      . exact (hf b hb).2.1 e
      . exact (hf b hb).2.2.1 e
    funs := I.stack
    frf := I.stkFree }
  os := rfl
  bare := I.bare
  base := Un.kept hkeep
  loc := by
    refine ⟨_, hns, fun i x v e1 e2 _ => ?_⟩
    have hi : os.length <= i := by
      refine Nat.le_of_not_lt fun hlt => ?_
      unfold blkσ at e2
      rw [List.getElem?_append_left (by simpa using hlt)] at e2
      rw [List.getElem?_replicate] at e2
      split at e2 <;> cases e2
    have e1' : (fr.map fun j => X.N.getD j "")[i - os.length]? = some x := by
      rw [<- List.getElem?_append_right (l₁ := os) hi]; exact e1
    have e2' : (fr.map fun j => (σ[j]?).join)[i - os.length]? = some (some v) := by
      have z : (List.replicate os.length (none : Option V)).length <= i := by simpa using hi
      unfold blkσ at e2
      rw [List.getElem?_append_right z, List.length_replicate] at e2
      exact e2
    rw [List.getElem?_map] at e1' e2'
    cases q : fr[i - os.length]? with
    | none => rw [q] at e1'; cases e1'
    | some j =>
      rw [q] at e1' e2'
      have hj : j ∈ fr := List.mem_of_getElem? q
      obtain ⟨hjl, hjc, hjf⟩ := a8P h j hj
      have ex : X.N.getD j "" = x := Option.some.inj e1'
      have ev : (σ[j]?).join = some v := Option.some.inj e2'
      have hN : X.N[j]? = some x := by
        rw [<- ex, List.getD_eq_getElem?_getD, List.getElem?_eq_getElem hjl]; rfl
      have hσ : σ[j]? = some (some v) := by
        cases r : σ[j]? with
        | none => rw [r] at ev; cases ev
        | some y => rw [r] at ev; exact congrArg some ev
      rw [ex] at hjc hjf
      obtain ⟨m, _, hl⟩ := I.loc
      obtain ⟨u, r, lk⟩ := hl j x v hN hσ (.inr (.inl hjc))
      refine ⟨u, r, ?_⟩
      have kc : Env.kindOf X.env x = some .cell := hjc
      rcases lk with ⟨k1, _⟩ | ⟨_, c, ec, z⟩
      . rw [kc] at k1; cases k1
      . have hfm := B9 hjf
        have ec' : (M2 X.env scope s.heap.objs.size).lookup x = some c := by
          rw [Z9 ⟨c, ec⟩ hfm (fun w => by cases a3w h hfm w)]; exact ec
        refine .inr ⟨?_, c, ec', ?_⟩
        . have kk : ∀ {names : List (Str × NameKind)}, names.lookup x = some .free -> (names.map fun (n, k) => if (k == NameKind.free && X.env.scope.kind == .function && X.env.kindOf n == some .cell) then (n, NameKind.cell) else (n, k)).lookup x = some .cell := by
            intro names
            induction names with
            | nil => intro e; simp at e
            | cons p r ih =>
              obtain ⟨n, k⟩ := p
              intro e
              rw [List.lookup_cons] at e
              rw [List.map_cons]
              dsimp only
              cases hx : x == n with
              | true =>
                rw [hx] at e
                cases e
                have hxn : x = n := by simpa using hx
                subst hxn
                rw [if_pos (by rw [I.ok.kind, kc]; rfl), List.lookup_cons]
                simp
              | false =>
                rw [hx] at e
                by_cases hc : (k == NameKind.free && X.env.scope.kind == .function && X.env.kindOf n == some .cell) = true
                . rw [if_pos hc, List.lookup_cons, hx]; exact ih e
                . rw [if_neg hc, List.lookup_cons, hx]; exact ih e
          exact .inl (kk hjf)
        . obtain ⟨o, ho', hd⟩ := z
          exact ⟨o, hkeep _ _ ho', hd⟩
  cell := fun x c e => by
    rcases A4 e with z | z
    . exact ⟨_, (hcl.empty _ _ z.1).1⟩
    . obtain ⟨v, o, ho', hd⟩ := I.cell x c z.1
      exact ⟨v, o, hkeep _ _ ho', hd⟩
  free := I.hok.fresh (Nat.le_refl _)
  freeC := fun x c e => by
    rcases A4 e with z | z
    . exact I.hok.fresh (Nat.le_of_lt (Nat.lt_of_succ_le (hcl.empty _ _ z.1).2))
    . exact I.freeC x c z.1
  pin := fun p hp => nomatch hp
  hok := I.hok.kept hkeep
  len := by simp [blkσ, frv, blk]
theorem Inv.unblock {pins : List (Addr × Obj)} {σ σ' : St} {H H' : Hp} {s s' : Shared} {fp : List Addr} {C : Addr} (I : Inv X pins σ H s) (hf : ∀ b ∈ fp, N0 X pins H b) (J : Inv (blk X os fr scope C fp s H) [] σ' H' s') : Inv X pins σ H' s' :=
  I.call' J.os J.base J.hok J.bare fun b hb => ⟨(hf b hb).2.2.2.1, (hf b hb).2.1, (hf b hb).2.2.2.2.1, (hf b hb).2.2.2.2.2⟩
theorem Inv.letgo {pins : List (Addr × Obj)} {σ : St} {H H₀ : Hp} {s s₀ : Shared} {C : Addr} {h' : Heap} (I₀ : Inv X pins σ₀ H₀ s₀) (I : Inv X pins σ H s) (hn : H C = none) (hC : s₀.heap.objs.size <= C) (hs : Heap.SameBut C s.heap h') : Inv X pins σ H { s with heap := h' } :=
  I.turned (t' := s.toks) (it := C) (fun b o hb e => (hs.2 b hb).trans e) hn (Nat.ne_of_gt (Nat.lt_of_lt_of_le I₀.lt hC)) (.inr (Nat.le_trans I₀.sz hC))
    (fun x c e z => by
      obtain ⟨v, q⟩ := I₀.cell x c e
      exact absurd (Nat.lt_of_lt_of_le q.lt (by rw [z]; exact hC)) (Nat.lt_irrefl _))
    fun p hp z => absurd (Nat.lt_of_lt_of_le (Heap.lt_size (I₀.pin p hp).1) (by rw [z]; exact hC)) (Nat.lt_irrefl _)
end
def b0b (X : Cx) (ifs : List Expr) (t : TT) : Prop :=
  ∀ (pins : List (Addr × Obj)) (s : Shared) (σ : St) (H : Hp) (Q : Bool -> Hp -> Prop), Inv X pins σ H s -> t σ H Q →
    wpAny (model X.prog X.w) X.A (forIn ifs true fun c r => if r = true then do let ok <- isTrue c X.env (eval c X.env); pure (ForInStep.yield ok) else pure (ForInStep.yield r)) (TP X pins σ Q) X.xe s
def a6B : TT := fun _ H Q => Q true H
theorem a2m {X : Cx} : b0b X [] a6B := fun _ _ _ H _ I h => wpAny_tests_nil ⟨H, I, h⟩
theorem a2A {X : Cx} {c : Expr} {t : TT} (h : PT X c t) : b0b X [c] t := fun pins s σ H Q I q => wpAny_tests_one (h pins s σ H Q I q)
theorem a1V {M : Model} {A : Around} {E : Value -> Shared -> Prop} {s : Shared} {scope : Scope} {globals : Addr} {closure : List (Str × Addr)} {qual : Str} {env : Env} {Q : Env -> Shared -> Prop}
    (hQ : Q { scope, locals := s.heap.objs.size, globals, cells := cellsFrom (s.heap.objs.size + 1) scope.names closure, qual, func := none, code := env.code, frame := env.frame, builtins := env.builtins } { s with heap := pushCells (s.heap.push { cls := .type "dict", data := .dict #[] }) scope.names }) :
    wpAny M A (newFunctionEnv scope globals closure [] qual none .none (some env)) Q E s := by
  simp only [newFunctionEnv, Option.isSome_some, if_true]
  refine wpAny_bind (wpAny_alloc ?_)
  refine wpAny_bind (wpAny_layCells _ (fun name kind cells => by cases hkc : kind == NameKind.cell <;> simp [hkc]) _ _ _ _ ?_)
  rw [show ({ s with heap := s.heap.push { cls := .type "dict", data := .dict #[] } } : Shared).heap.objs.size = s.heap.objs.size + 1 from Heap.size_push ..]
  simp only [List.forIn_nil]
  exact wpAny_bind (wpAny_pure (wpAny_pure hQ))
theorem a1J {prog : Program} {w : World} {A : Around} {R : Result -> Shared -> Prop} {s : Shared} {elt target iter : Expr} {ifs : List Expr} {scope : Scope} {pos : Pos} {it acc : Value} {env : Env} (I : Nat -> Shared -> Prop)
    (turn : ∀ n s, I n s -> wpAny (model prog w) A (pyNext it) (fun r s₁ => match r with
      | none => R (.ok .next) s₁
      | some v => wpAny (model prog w) A (letOwnedTupleGo target it v) (fun _ s₀ => wpAny (model prog w) A (assign target env v) (fun _ s₂ =>
          wpAny (model prog w) A (forIn ifs true fun c r => if r = true then do let ok <- isTrue c env (eval c env); pure (ForInStep.yield ok) else pure (ForInStep.yield r)) (fun ok s₃ =>
            if ok = true then wpAny (model prog w) A (eval elt env) (fun x s₄ =>
              wpAny (model prog w) A (call (.builtin "list.append") [acc, x]) (fun _ s₅ => ∃ m, m < n /\ I m s₅) (fun _ _ => False) s₄) (fun _ _ => False) s₃
            else ∃ m, m < n /\ I m s₃) (fun _ _ => False) s₂) (fun _ _ => False) s₀) (fun _ _ => False) s₁) (fun _ _ => False) s)
    (n : Nat) (h : I n s) :
    codeAny (model prog w) A (.compLoop (.ListComp elt [⟨target, iter, ifs, 0⟩] scope pos) 0 it acc env) R s := by
  refine codeAny_loop rfl I (fun n s hI => ?_) n h
  show wpAny _ A ((compTurn (.ListComp elt [⟨target, iter, ifs, 0⟩] scope pos) 0 it acc env).onRaise (fun x => do noteFrame x env; theTreesLotGoes x)) _ _ s
  refine wpAny_noted ?_
  rw [compTurn_list]
  refine wpAny_bind (wpAny_standAt (wpAny_bind (wpAny_mono (turn n s hI) (fun r s₁ h₁ => ?_) fun _ _ h' => h'.elim)))
  cases r with
  | none => exact wpAny_pure h₁
  | some v =>
    refine wpAny_bind (wpAny_mono h₁ (fun _ s₀ h₀ => ?_) fun _ _ h' => h'.elim)
    refine wpAny_bind (wpAny_mono h₀ (fun _ s₂ h₂ => wpAny_bind (wpAny_mono h₂ (fun ok s₃ h₃ => ?_) fun _ _ h' => h'.elim)) fun _ _ h' => h'.elim)
    cases ok with
    | false => exact wpAny_pure ⟨rfl, h₃⟩
    | true =>
      exact wpAny_bind (wpAny_bind (wpAny_mono h₃ (fun x s₄ h₄ => wpAny_bind (wpAny_mono h₄ (fun _ s₅ h₅ => wpAny_pure (wpAny_pure ⟨rfl, h₅⟩)) fun _ _ h' => h'.elim)) fun _ _ h' => h'.elim))
def lcW (n : Nat) (fr : List Nat) (g : TG) (te : TE) (σ : St) (J : It) (H1 : Hp) (p : Addr) (D : Hp -> Prop) : Prop :=
  ∃ W : Nat -> Nat -> List V -> Hp -> Prop, (∃ m, W 0 m [] (j9 H1 p (.lst []))) /\ ∀ i m ys H, W i m ys H →
    (J.stop i H /\ D H) \/ (J.go i H /\ ∀ x H', J.yld i H x H' -> g x (blkσ n fr σ) H' fun σ2 H2 => Wk (blkσ n fr σ) σ2 /\ te σ2 H2 fun v H3 => H3 p = some (.lst ys) /\ ys.length < sizeLine /\ ∃ m', m' < m /\ W (i + 1) m' (ys ++ [v]) (j9 H3 p (.lst (ys ++ [v]))))
def tLC (n : Nat) (fr : List Nat) (wi : TI) (g : TG) (te : TE) : TE := fun σ H Q => wi σ H fun J H1 => ∀ p, H1 p = none -> lcW n fr g te σ J H1 p (Q (.ref p))
def lcI (n : Nat) (fr : List Nat) (g : TG) (tc : TT) (te : TE) (σ : St) (J : It) (H1 : Hp) (p : Addr) (D : Hp -> Prop) : Prop :=
  ∃ W : Nat -> Nat -> List V -> Hp -> Prop, (∃ m, W 0 m [] (j9 H1 p (.lst []))) /\ ∀ i m ys H, W i m ys H →
    (J.stop i H /\ D H) \/ (J.go i H /\ ∀ x H', J.yld i H x H' -> g x (blkσ n fr σ) H' fun σ2 H2 => Wk (blkσ n fr σ) σ2 /\ tc σ2 H2 fun ok H2' =>
      if ok = true then te σ2 H2' fun v H3 => H3 p = some (.lst ys) /\ ys.length < sizeLine /\ ∃ m', m' < m /\ W (i + 1) m' (ys ++ [v]) (j9 H3 p (.lst (ys ++ [v]))) else ∃ m', m' < m /\ W (i + 1) m' ys H2')
def b1p (n : Nat) (fr : List Nat) (wi : TI) (g : TG) (tc : TT) (te : TE) : TE := fun σ H Q => wi σ H fun J H1 => ∀ p, H1 p = none -> lcI n fr g tc te σ J H1 p (Q (.ref p))
theorem a2V {n : Nat} {fr : List Nat} {g : TG} {te : TE} {σ : St} {J : It} {H1 : Hp} {p : Addr} {D : Hp -> Prop} : lcI n fr g a6B te σ J H1 p D = lcW n fr g te σ J H1 p D := by
  unfold lcI lcW a6B
  simp only [if_true]
section
variable {X : Cx} {os : List Str} {fr : List Nat} {scope : Scope} {elt tg iter : Expr} {pos : Pos} {wi : TI} {g : TG} {te : TE}
theorem V8 {ifs : List Expr} {tc : TT} {pins : List (Addr × Obj)} {σ : St} {s2 : Shared} {D : Addr -> Hp -> Prop} {itv : Value} {RR : Value -> Addr -> Result -> Shared -> Prop}
    (hc : X.calm = true) (hg : ∀ C fp s₀ H₀, PG (blk X os fr scope C fp s₀ H₀) tg g) (ht : ∀ C fp s₀ H₀, b0b (blk X os fr scope C fp s₀ H₀) ifs tc) (he : ∀ C fp s₀ H₀, PE (blk X os fr scope C fp s₀ H₀) elt te)
    (hk : scope.kind = .function) (hok : V4 X.env.scope scope X.N fr = true)
    (h2 : PIE X pins σ tg (fun J H1 => ∀ p, H1 p = none -> lcI os.length fr g tc te σ J H1 p (D p)) itv s2)
    (hRR : ∀ p C s3 H3 s' H', Inv X pins σ H3 s3 -> s3.heap.objs.size = C -> H' C = none -> Inv X pins σ H' s' -> (∃ m, s'.heap.Ns C m) -> D p H' -> RR (.ref p) C (.ok .next) s') :
    wpAny (model X.prog X.w) X.A (newList []) (fun acc s₃ => wpAny (model X.prog X.w) X.A (newFunctionEnv scope X.env.globals (clo X.env scope.names []) [] X.env.qual none .none (some X.env)) (fun cenv s₄ =>
      codeAny (model X.prog X.w) X.A (.compStart (.ListComp elt [⟨tg, iter, ifs, 0⟩] scope pos) 0 itv acc { cenv with scope := relabel scope X.env }) (RR acc cenv.locals) s₄) X.xe s₃) X.xe s2 := by
  obtain ⟨it, fp, tn, J, H2, e, I2, T, st2, f2, hR⟩ := h2
  subst e
  refine wpAny_newObj_type ?_
  have fresh : H2 s2.heap.objs.size = none := I2.fresh
  obtain ⟨W, ⟨m0, w0⟩, turn⟩ := hR s2.heap.objs.size fresh
  have I3 : Inv X pins σ (j9 H2 s2.heap.objs.size (.lst [])) { s2 with heap := s2.heap.push { cls := .type "list", dict := none, data := .seq ([] : List Value).toArray } } := I2.lnew (ys := []) (its := []) (t' := s2.toks) .nil (Nat.zero_le _)
  have obj2 := T.obj _ _ st2
  have ne2 : ∀ b ∈ fp, b ≠ s2.heap.objs.size := fun b hb => by
    obtain ⟨o, e, _⟩ := obj2 b hb
    exact Nat.ne_of_lt (Heap.lt_size e)
  have st3 : tn 0 (s2.heap.push { cls := .type "list", dict := none, data := .seq ([] : List Value).toArray }) := T.keep _ _ _ st2 fun b hb o e => Heap.get?_push_of_some _ e
  have f3 : ∀ b ∈ fp, N0 X pins (j9 H2 s2.heap.objs.size (.lst [])) b := fun b hb => ⟨by rw [c9 (ne2 b hb)]; exact (f2 b hb).1, (f2 b hb).2⟩
  generalize hs3 : ({ s2 with heap := s2.heap.push { cls := .type "list", dict := none, data := .seq ([] : List Value).toArray } } : Shared) = s3 at I3 ⊢
  have st3' : tn 0 s3.heap := by rw [<- hs3]; exact st3
  generalize s2.heap.objs.size = p at *
  refine a1V ?_
  have hns : (pushCells (s3.heap.push { cls := .type "dict", data := .dict #[] }) scope.names).Ns s3.heap.objs.size fun _ => none := (Heap.Ns.new s3.heap (.type "dict")).keeps (pushCells_keeps _ _)
  have hkeep : ∀ b o, s3.heap.get? b = some o -> (pushCells (s3.heap.push { cls := .type "dict", data := .dict #[] }) scope.names).get? b = some o := fun b o e => pushCells_keeps _ _ b o (Heap.get?_push_of_some _ e)
  have hcl := cellsFrom_ok scope.names (s3.heap.push { cls := .type "dict", data := .dict #[] }) (s3.heap.objs.size + 1) [] ⟨fun _ _ hm => (nomatch hm), List.Pairwise.nil⟩ (by rw [Heap.size_push]; exact Nat.le_refl _)
  rw [Heap.size_push] at hcl
  generalize pushCells (s3.heap.push { cls := .type "dict", data := .dict #[] }) scope.names = h₁ at hns hkeep hcl ⊢
  have obj3 : ∀ b ∈ fp, ∃ o, s3.heap.get? b = some o := fun b hb => by
    obtain ⟨o, e, _⟩ := T.obj _ _ st3' b hb
    exact ⟨o, e⟩
  have J0 := I3.block (os := os) (t' := s3.toks) hk hok f3 obj3 (h₁ := h₁) hns hkeep hcl
  have ok0 := J0.ok
  have fpY : ∀ {H' : Hp}, (∀ b ∈ fp, H' b = none) -> ∀ b ∈ fp, N0 (blk X os fr scope s3.heap.objs.size fp s3 (j9 H2 p (.lst []))) [] H' b := fun hn b hb =>
    ⟨hn b hb, (ok0.exf b hb).1, ok0.exfs b hb, .inl hb, (ok0.exf b hb).2, fun q hq => nomatch hq⟩
  have st4 : tn 0 h₁ := T.keep _ _ _ st3' fun b hb o e => hkeep b o e
  have fr0 : ∀ b ∈ fp, j9 H2 p (.lst []) b = none := fun b hb => (f3 b hb).1
  have loop : ∀ s4 : Shared, s4 = { s3 with heap := h₁, toks := s3.toks } →
      codeAny (model X.prog X.w) X.A (.compLoop (.ListComp elt [⟨tg, iter, ifs, 0⟩] scope pos) 0 (.ref it) (.ref p) (compEnvC scope (M2 X.env scope s3.heap.objs.size) s3.heap.objs.size X.env)) (RR (.ref p) s3.heap.objs.size) s4 := by
    rintro s4 rfl
    refine a1J (fun n s' => ∃ i ys H', Inv (blk X os fr scope s3.heap.objs.size fp s3 (j9 H2 p (.lst []))) [] (blkσ os.length fr σ) H' s' /\ tn i s'.heap /\ (∀ b ∈ fp, H' b = none) /\ W i n ys H') ?_ m0 ⟨0, [], _, J0, st4, fr0, w0⟩
    rintro n s5 ⟨i, ys, H5, I5, st5, fr5, w5⟩
    rcases turn i n ys H5 w5 with ⟨stop, qd⟩ | ⟨go, step⟩
    . refine t8 (T.done (blk X os fr scope s3.heap.objs.size fp s3 (j9 H2 p (.lst []))) rfl rfl rfl hc i [] s5 _ H5 (fun _ _ => False) I5 (fpY fr5) st5 stop) fun r s6 ⟨hr, I6⟩ => ?_
      subst hr
      exact hRR p _ s3 _ s6 H5 I3 rfl I6.free (I3.unblock f3 I6) (let ⟨m, hm, _⟩ := I6.loc; ⟨m, hm⟩) qd
    . refine t8 (T.item (blk X os fr scope s3.heap.objs.size fp s3 (j9 H2 p (.lst []))) rfl rfl rfl hc i [] s5 _ H5 (fun _ _ => False) I5 (fpY fr5) st5 go) fun r s6 ⟨u, hr, h6⟩ => ?_
      subst hr
      refine t8 h6 fun _ s7 ⟨x, H7, I7, r7, y7, st7, fr7⟩ => ?_
      have I7' := I7.pinned (fpY fr7) (T.obj _ _ st7)
      refine t8 (hg _ _ _ _ _ s7 _ H7 x u _ I7' r7 (step x H7 y7)) fun _ s8 ⟨σ8, H8, I8, wk8, q8⟩ => ?_
      have again : ∀ {H' : Hp} {s' : Shared} {zs : List V} {m' : Nat}, Inv (blk X os fr scope s3.heap.objs.size fp s3 (j9 H2 p (.lst []))) ([] ++ a0F fp s7.heap) σ8 H' s' -> m' < n -> W (i + 1) m' zs H' →
          ∃ m, m < n /\ ∃ i ys H', Inv (blk X os fr scope s3.heap.objs.size fp s3 (j9 H2 p (.lst []))) [] (blkσ os.length fr σ) H' s' /\ tn i s'.heap /\ (∀ b ∈ fp, H' b = none) /\ W i m ys H' := fun {H' s' zs m'} J' hm' w' => by
        refine ⟨m', hm', i + 1, zs, H', (J'.weak wk8.1.symm fun i v e => wk8.2 i v e).unpinned, T.keep _ _ _ st7 fun b hb o e => (J'.pin (b, o) (List.mem_append_right _ (List.mem_append_right _ (O2 hb e)))).1, fun b hb => ?_, w'⟩
        obtain ⟨o, e, d⟩ := T.obj _ _ st7 b hb
        exact (J'.pin (b, o) (List.mem_append_right _ (List.mem_append_right _ (O2 hb e)))).2.1
      refine t8 (ht _ _ _ _ _ s8 σ8 H8 _ I8 q8) fun ok s9 ⟨H9, I9, q9⟩ => ?_
      cases ok with
      | false =>
        obtain ⟨m', hm', w9⟩ := q9
        exact again I9 hm' w9
      | true =>
        refine t8 (he _ _ _ _ _ s9 σ8 H9 _ I9 q9) fun y s10 ⟨v, H10, I10, r10, hp10, hz10, m', hm', w10⟩ => ?_
        refine t8 (G4 (X := blk X os fr scope s3.heap.objs.size fp s3 (j9 H2 p (.lst []))) _ s10 σ8 H10 (.ref p) [v] (.ref p) [y] (fun _ H' => H' = j9 H10 p (.lst (ys ++ [v]))) I10 rfl (.cons r10 .nil) ⟨p, ys, v, rfl, rfl, hp10, hz10, rfl⟩) fun _ s11 ⟨_, H11, I11, _, e11⟩ => ?_
        subst e11
        exact again I11 hm' w10
  exact codeAny_compStart_list (loop _ rfl) (T.self _ 0 _ _ _ st4 (loop _ rfl))
theorem Z5 (os : List Str) (fr : List Nat) (hc : X.calm = true) (hi : PI X tg iter wi) (hg : ∀ C fp s₀ H₀, PG (blk X os fr scope C fp s₀ H₀) tg g) (he : ∀ C fp s₀ H₀, PE (blk X os fr scope C fp s₀ H₀) elt te)
    (hk : scope.kind = .function := by rfl) (hok : V4 X.env.scope scope X.N fr = true := by rfl) (hs : ∀ x, foldedSetIterable iter X.env x = pure x := by intro _; rfl) :
    PE X (.ListComp elt [⟨tg, iter, [], 0⟩] scope pos) (tLC os.length fr wi g te) := by
  intro pins s σ H Q I h
  unfold tLC at h
  simp only [<- a2V] at h
  rw [eval_ListComp]
  refine wpAny_comprehension_free (use := none) rfl hs (A2 (O4 I hok)) hk (fun x hx hl => by have := (J1 hok x hx).1; rw [hl] at this; exact this) (t8 (hi pins s σ H _ I h) fun v s1 h1 => t8 h1 fun itv s2 h2 => ?_)
  refine V8 (os := os) (D := fun p H' => Q (.ref p) H') (RR := fun acc C => compPost (model X.prog X.w) X.A X.xe none (EP X pins σ Q) acc C) hc hg (fun _ _ _ _ => a2m) he hk hok h2 ?_
  intro p C s3 H3 s' H' I3 eC hn I' ⟨m, hm⟩ q
  refine ⟨m, hm, fun h' hs' => ⟨.ref p, H', I3.letgo I' hn (by omega) hs', rfl, q⟩⟩
theorem b0e {c : Expr} {tc : TT} (os : List Str) (fr : List Nat) (hc : X.calm = true) (hi : PI X tg iter wi) (hg : ∀ C fp s₀ H₀, PG (blk X os fr scope C fp s₀ H₀) tg g) (ht : ∀ C fp s₀ H₀, PT (blk X os fr scope C fp s₀ H₀) c tc) (he : ∀ C fp s₀ H₀, PE (blk X os fr scope C fp s₀ H₀) elt te)
    (hk : scope.kind = .function := by rfl) (hok : V4 X.env.scope scope X.N fr = true := by rfl) (hs : ∀ x, foldedSetIterable iter X.env x = pure x := by intro _; rfl) :
    PE X (.ListComp elt [⟨tg, iter, [c], 0⟩] scope pos) (b1p os.length fr wi g tc te) := by
  intro pins s σ H Q I h
  rw [eval_ListComp]
  refine wpAny_comprehension_free (use := none) rfl hs (A2 (O4 I hok)) hk (fun x hx hl => by have := (J1 hok x hx).1; rw [hl] at this; exact this) (t8 (hi pins s σ H _ I h) fun v s1 h1 => t8 h1 fun itv s2 h2 => ?_)
  refine V8 (os := os) (D := fun p H' => Q (.ref p) H') (RR := fun acc C => compPost (model X.prog X.w) X.A X.xe none (EP X pins σ Q) acc C) hc hg (fun _ _ _ _ => a2A (ht _ _ _ _)) he hk hok h2 ?_
  intro p C s3 H3 s' H' I3 eC hn I' ⟨m, hm⟩ q
  refine ⟨m, hm, fun h' hs' => ⟨.ref p, H', I3.letgo I' hn (by omega) hs', rfl, q⟩⟩
theorem a8W {i : Nat} {x : Str} {pos' spos : Pos} (os : List Str) (fr : List Nat) (hN : X.N.Nodup) (hi' : X.N[i]? = some x) (hx : X.env.scope.names.lookup x = some .local)
    (hc : X.calm = true) (hi : PI X tg iter wi) (hg : ∀ C fp s₀ H₀, PG (blk X os fr scope C fp s₀ H₀) tg g) (he : ∀ C fp s₀ H₀, PE (blk X os fr scope C fp s₀ H₀) elt te)
    (hsw : swapsWith (.ListComp elt [⟨tg, iter, [], 0⟩] scope pos) (some (.Name x pos')) spos.line X.env = pure true := by rfl)
    (hk : scope.kind = .function := by rfl) (hok : V4 X.env.scope scope X.N fr = true := by rfl) (hs : ∀ x, foldedSetIterable iter X.env x = pure x := by intro _; rfl) :
    PS X (.Assign [.Name x pos'] (.ListComp elt [⟨tg, iter, [], 0⟩] scope pos) spos) (a4L (tLC os.length fr wi g te) (J3 i)) := by
  intro pins s σ H D I h
  unfold a4L tLC at h
  simp only [<- a2V] at h
  rw [exec_Assign_Name_used _ _ _ _ hsw]
  refine wpAny_bind (wpAny_standAt (wpAny_bind ?_))
  show wpAny _ X.A (do let _ <- comprehension (.ListComp elt [⟨tg, iter, [], 0⟩] scope pos) scope X.env _ (newList []) false (eval iter X.env) (some (assign (.Name x pos') X.env))) _ _ s
  refine wpAny_bind (wpAny_mono (wpAny_comprehension_free (use := some (assign (.Name x pos') X.env)) (Q := fun _ s' => SP X pins D .next s') rfl hs (A2 (O4 I hok)) hk (fun x hx hl => by have := (J1 hok x hx).1; rw [hl] at this; exact this)
    (t8 (hi pins s σ H _ I h) fun v s1 h1 => t8 h1 fun itv s2 h2 => ?_)) (fun _ s' hq => wpAny_pure (wpAny_pure hq)) fun _ _ e => e)
  refine V8 (os := os) (D := fun p H' => D.nx (σ.set i (some (.ref p))) H') (RR := fun acc C => compPost (model X.prog X.w) X.A X.xe (some (assign (.Name x pos') X.env)) (fun _ s' => SP X pins D .next s') acc C) hc hg (fun _ _ _ _ => a2m) he hk hok h2 ?_
  intro p C s3 H3 s' H' I3 eC hn I' ⟨m, hm⟩ q
  show wpAny _ X.A (assign (.Name x pos') X.env (.ref p)) _ _ _
  refine wpAny_assign_Name (Z2 (v := .ref p) I' hN hi' (.inl hx) rfl (fun s'' I'' ⟨a, hsa, ha⟩ => ?_) (.inr hx))
  have hCa : C ≠ a := by
    rcases ha with e | e
    . rw [e]; exact Nat.ne_of_gt (by rw [<- eC]; exact I3.lt)
    . obtain ⟨v, z⟩ := I3.cell x a e
      exact Nat.ne_of_gt (by rw [<- eC]; exact z.lt)
  exact ⟨m, hm.sameBut hsa hCa, fun h' hs' => ⟨_, H', I3.letgo I'' hn (by omega) hs', q⟩⟩
end
end L2
namespace L2
open PySem PySem.Spec PyProof.Rows
section
variable {X : Cx} {pins : List (Addr × Obj)} {σ : St} {H : Hp} {s : Shared} {a : Addr} {xs : List V}
abbrev SqA (K : W.Frag) (H : Hp) (a : Addr) (xs : List V) : Prop := SqL K H a xs \/ SqT K H a xs
theorem a4C {h' : Heap} {o : Obj} {h : Heap} (hk : ∀ b x, b ∉ [h.objs.size] -> (h.push o).get? b = some x -> h'.get? b = some x) : ∀ b x, h.get? b = some x -> h'.get? b = some x :=
  fun b x e => hk b x (fun hm => by rw [List.mem_singleton.mp hm] at e; exact Nat.lt_irrefl _ (Heap.lt_size e)) (Heap.get?_push_of_some _ e)
theorem a2N (hc : X.calm = true) (I : Inv X pins σ H s) (h : SqA X.K H a xs) : ∃ its : List Value, Vals xs its /\ ∀ (Q : Value -> Shared -> Prop) (E : Value -> Shared -> Prop),
    (∀ (o : Obj) (St : Nat -> Heap -> Prop), Walks X.prog X.w X.A.in1 s.heap.objs.size [s.heap.objs.size, a] [s.heap.objs.size] its.toArray.size (fun i v => its.toArray[i]? = some v) St -> St 0 (s.heap.push o) →
      (∀ b ∈ [s.heap.objs.size, a], b < (s.heap.push o).objs.size) -> Q (.ref s.heap.objs.size) { s with heap := s.heap.push o }) -> wpAny (model X.prog X.w) X.A.in1 (pyIter (.ref a)) Q E s := by
  have hh := I.ok.hd hc
  have lt2 : ∀ (o : Obj), a < s.heap.objs.size -> ∀ b ∈ [s.heap.objs.size, a], b < (s.heap.push o).objs.size := fun o hlt b hb => by
    rw [Heap.size_push]
    rcases List.mem_cons.mp hb with rfl | hb
    . exact Nat.lt_succ_self _
    . rw [List.mem_singleton.mp hb]; exact Nat.lt_succ_of_lt hlt
  rcases h with h | h
  . obtain ⟨its, r, p, hz⟩ := I.list h
    have hl := p.isList
    have hlt : a < s.heap.objs.size := by obtain ⟨_, e, _⟩ := hl; exact Heap.lt_size e
    refine ⟨its, r, fun Q E hQ => wpAny_pyIter_list hl ?_⟩
    exact hQ _ _ (Walks.list (A := X.A.in1) hh _ a (Nat.ne_of_lt hlt) its.toArray) ⟨⟨_, Heap.get?_push_size _ rfl, rfl, rfl⟩, hl.push _⟩ (lt2 _ hlt)
  . obtain ⟨its, r, p, hz⟩ := I.tuple h
    have hl : s.heap.IsTuple a its.toArray := p
    have hlt : a < s.heap.objs.size := by obtain ⟨_, e, _⟩ := hl; exact Heap.lt_size e
    refine ⟨its, r, fun Q E hQ => wpAny_pyIter_tuple hl ?_⟩
    exact hQ _ _ (Walks.tuple (A := X.A.in1) hh _ a (Nat.ne_of_lt hlt) its.toArray) ⟨⟨_, Heap.get?_push_size _ rfl, rfl, rfl⟩, hl.push _⟩ (lt2 _ hlt)
theorem a4F {ys : List V} {its : List Value} (r : Vals ys its) {i : Nat} {v : Value} (e : its.toArray[i]? = some v) : ∃ y, ys[i]? = some y /\ RelV y v := by
  have e' : its[i]? = some v := by simpa using e
  cases q : ys[i]? with
  | none => rw [r.none_of q] at e'; cases e'
  | some y =>
    obtain ⟨u, h1, h2⟩ := r.get q
    rw [e'] at h1; cases h1
    exact ⟨y, rfl, h2⟩
theorem a3f (bs : List Bool) : ((List.range bs.length).all fun i => (bs[i]?).getD true) = bs.all id := by
  rw [Bool.eq_iff_iff, List.all_eq_true, List.all_eq_true]
  constructor
  . intro h b hb
    obtain ⟨i, hi, e⟩ := List.getElem_of_mem hb
    have := h i (List.mem_range.mpr hi)
    simp only [List.getElem?_eq_getElem hi, Option.getD_some, e] at this
    exact this
  . intro h i hi
    have hi' := List.mem_range.mp hi
    simp only [List.getElem?_eq_getElem hi', Option.getD_some]
    exact h _ (List.getElem_mem hi')
theorem a3m (bs : List Bool) : ((List.range bs.length).any fun i => (bs[i]?).getD false) = bs.any id := by
  rw [Bool.eq_iff_iff, List.any_eq_true, List.any_eq_true]
  constructor
  . rintro ⟨i, hi, e⟩
    have hi' := List.mem_range.mp hi
    simp only [List.getElem?_eq_getElem hi', Option.getD_some] at e
    exact ⟨_, List.getElem_mem hi', e⟩
  . rintro ⟨b, hb, e⟩
    obtain ⟨i, hi, rfl⟩ := List.getElem_of_mem hb
    exact ⟨i, List.mem_range.mpr hi, by simp only [List.getElem?_eq_getElem hi, Option.getD_some]; exact e⟩
end
section
variable {X : Cx}
theorem a7s (hc : X.calm = true) : G6 X (.builtin "all") (fun vs H Q => ∃ (a : Addr) (bs : List Bool), vs = [.ref a] /\ SqA X.K H a (bs.map V.bl) /\ Q (.bl (bs.all id)) H) := by
  intro pins s σ H vs us Q I r h
  obtain ⟨a, bs, rfl, hs, q⟩ := h
  obtain ⟨u, rfl, ru⟩ := P7 r
  cases ru
  obtain ⟨its, rv, walk⟩ := a2N hc I hs
  have hlen : its.toArray.size = bs.length := by rw [List.size_toArray, <- rv.length, List.length_map]
  refine call_all_walk (walk _ _ fun o St W st fp => ?_)
  refine ⟨_, _, _, _, _, _, fun i => (bs[i]?).getD true, rfl, W, st, fun i v s' Q' E' hP hQ => ?_, fun h' tk hk => ?_⟩
  . obtain ⟨y, e, ry⟩ := a4F rv hP
    rw [List.getElem?_map] at e
    cases eb : bs[i]? with
    | none => rw [eb] at e; cases e
    | some b =>
      rw [eb] at e; cases e
      cases ry
      simp only [eb, Option.getD_some] at hQ
      exact wpAny_truthy_bool hQ
  . rw [hlen, a3f bs]
    exact ⟨.bl _, H, I.kept (a4C hk), rfl, q⟩
theorem a6K (hc : X.calm = true) : G6 X (.builtin "any") (fun vs H Q => ∃ (a : Addr) (bs : List Bool), vs = [.ref a] /\ SqA X.K H a (bs.map V.bl) /\ Q (.bl (bs.any id)) H) := by
  intro pins s σ H vs us Q I r h
  obtain ⟨a, bs, rfl, hs, q⟩ := h
  obtain ⟨u, rfl, ru⟩ := P7 r
  cases ru
  obtain ⟨its, rv, walk⟩ := a2N hc I hs
  have hlen : its.toArray.size = bs.length := by rw [List.size_toArray, <- rv.length, List.length_map]
  refine call_any_walk (walk _ _ fun o St W st fp => ?_)
  refine ⟨_, _, _, _, _, _, fun i => (bs[i]?).getD false, rfl, W, st, fun i v s' Q' E' hP hQ => ?_, fun h' tk hk => ?_⟩
  . obtain ⟨y, e, ry⟩ := a4F rv hP
    rw [List.getElem?_map] at e
    cases eb : bs[i]? with
    | none => rw [eb] at e; cases e
    | some b =>
      rw [eb] at e; cases e
      cases ry
      simp only [eb, Option.getD_some] at hQ
      exact wpAny_truthy_bool hQ
  . rw [hlen, a3m bs]
    exact ⟨.bl _, H, I.kept (a4C hk), rfl, q⟩
theorem Z6 : G6 X (.builtin "isinstance") (fun vs H Q => ∃ x t n b, vs = [x, .ty n] /\ Y6 X.K H x t /\ W.kitOne X.K t (.type n) = some b /\ Q (.bl b) H) := by
  intro pins s σ H vs us Q I r h
  obtain ⟨x, t, n, b, rfl, ty, e, q⟩ := h
  obtain ⟨u, v, rfl, ru, rv⟩ := a1s r
  cases rv
  exact a4J I ru ty e fun tk => ⟨.bl b, H, I.tok _, rfl, q⟩
end
mutual
inductive Dp (K : W.Frag) (H : Hp) : V -> PyData -> Prop
  | non : Dp K H .non .none
  | bl (b : Bool) : Dp K H (.bl b) (.bool b)
  | int (i : Int) : Dp K H (.int i) (.int i)
  | str (x : Str) : Dp K H (.str x) (.str x)
  | lst {a : Addr} {xs : List V} {ds : List PyData} : SqL K H a xs -> Dps K H xs ds -> Dp K H (.ref a) (.list ds)
  | tup {a : Addr} {xs : List V} {ds : List PyData} : SqT K H a xs -> Dps K H xs ds -> Dp K H (.ref a) (.tuple ds)
inductive Dps (K : W.Frag) (H : Hp) : List V -> List PyData -> Prop
  | nil : Dps K H [] []
  | cons {x : V} {xs : List V} {d : PyData} {ds : List PyData} : Dp K H x d -> Dps K H xs ds -> Dps K H (x :: xs) (d :: ds)
end
theorem Same.tseq {K : W.Frag} {H H' : Hp} {a : Addr} {xs : List V} (e : Same H H') (h : SqT K H a xs) : SqT K H' a xs := by
  rcases h with (h | ⟨o, h⟩) | h
  . exact .inl (.inl (e _ _ h))
  . exact .inl (.inr ⟨o, e _ _ h⟩)
  . exact .inr h
mutual
theorem Dp.same {K : W.Frag} {H H' : Hp} (e : Same H H') : ∀ {x : V} {d : PyData}, Dp K H x d -> Dp K H' x d
  | _, _, .non => .non
  | _, _, .bl b => .bl b
  | _, _, .int i => .int i
  | _, _, .str x => .str x
  | _, _, .lst h r => .lst (e.seq h) (Dps.same e r)
  | _, _, .tup h r => .tup (e.tseq h) (Dps.same e r)
theorem Dps.same {K : W.Frag} {H H' : Hp} (e : Same H H') : ∀ {xs : List V} {ds : List PyData}, Dps K H xs ds -> Dps K H' xs ds
  | _, _, .nil => .nil
  | _, _, .cons a r => .cons (Dp.same e a) (Dps.same e r)
end
section
variable {X : Cx} {pins : List (Addr × Obj)} {σ : St} {H : Hp} {s : Shared}
mutual
theorem Dp.reads (I : Inv X pins σ H s) : ∀ {x : V} {d : PyData}, Dp X.K H x d -> ∀ {u : Value}, RelV x u -> ∃ as, Reads s.heap u d as
  | _, _, .non, u, r => by cases r; exact ⟨_, .none⟩
  | _, _, .bl b, u, r => by cases r; exact ⟨_, .bool b⟩
  | _, _, .int i, u, r => by obtain ⟨t, rfl⟩ := r; exact ⟨_, .int i t⟩
  | _, _, .str x, u, r => by obtain ⟨t, rfl⟩ := r; exact ⟨_, .str x t⟩
  | _, _, .lst h q, u, r => by
    cases r
    obtain ⟨its, rv, p, hz⟩ := I.list h
    obtain ⟨o, e1, e2, n, e3⟩ := p.isList
    obtain ⟨as, ra⟩ := Dps.reads I q rv
    exact ⟨_, .list e1 e2 e3 (by simpa using ra)⟩
  | _, _, .tup h q, u, r => by
    cases r
    obtain ⟨its, rv, p, hz⟩ := I.tuple h
    obtain ⟨o, e1, e2, n, e3⟩ := (show s.heap.IsTuple _ its.toArray from p)
    obtain ⟨as, ra⟩ := Dps.reads I q rv
    exact ⟨_, .tuple e1 e2 e3 (by simpa using ra)⟩
theorem Dps.reads (I : Inv X pins σ H s) : ∀ {xs : List V} {ds : List PyData}, Dps X.K H xs ds -> ∀ {us : List Value}, Vals xs us -> ∃ as, ReadsAll s.heap us ds as
  | _, _, .nil, us, r => by cases r; exact ⟨_, .nil⟩
  | _, _, .cons a q, us, r => by
    cases r with
    | cons r1 r2 =>
      obtain ⟨as, h1⟩ := Dp.reads I a r1
      obtain ⟨bs, h2⟩ := Dps.reads I q r2
      exact ⟨_, .cons h1 h2⟩
end
end
section
variable {X : Cx}
def b0R (K : W.Frag) : R2 := fun x y H Q => ∃ d e, Dp K H x d /\ Dp K H y e /\ d.canLay0 = true /\ e.canLay0 = true /\ min d.depth e.depth <= 60 /\ Q (.bl (!PyData.eqv d e)) H
theorem E4 {k : Nat} (hr : Room k X.A) : T9 X (compareOp .NotEq) (b0R X.K) := by
  intro pins s σ H x y v u Q I rx ry h
  obtain ⟨d, e, h1, h2, c1, c2, hd, q⟩ := h
  obtain ⟨as, r1⟩ := h1.reads I rx
  obtain ⟨bs, r2⟩ := h2.reads I ry
  exact SeqAt.compareNe_reads r1 r2 c1 c2 (by have := hr.units; omega) ⟨.bl _, H, I, rfl, q⟩
end
theorem Same.new {H : Hp} {p : Addr} (h : H p = none) (o : HO) : Same H (j9 H p o) := fun b u q => by rw [c9 (d0 q h)]; exact q
theorem Wk.set {n : Nat} {fr : List Nat} {σ : St} {i : Nat} {v : V} (hi : i < n) : Wk (blkσ n fr σ) ((blkσ n fr σ).set i (some v)) := by
  refine ⟨by simp, fun j w e => ?_⟩
  by_cases hj : j = i
  . subst hj
    unfold blkσ at e
    rw [List.getElem?_append_left (by simpa using hi), List.getElem?_replicate] at e
    split at e <;> cases e
  . rw [List.getElem?_set_ne (Ne.symm hj)]; exact e
structure a5m (J : It) (H1 : Hp) (xs : List V) : Prop where
  go : ∀ i H, Same H1 H -> i < xs.length -> J.go i H
  yld : ∀ i H x H', Same H1 H -> i < xs.length -> J.yld i H x H' -> H' = H /\ xs[i]? = some x
  stop : ∀ H, Same H1 H -> J.stop xs.length H
theorem R6 {K : W.Frag} {a : Addr} {xs : List V} {H1 : Hp} (h : SqL K H1 a xs) : a5m (Itl K a) H1 xs :=
  ⟨fun i H e hi => ⟨xs, xs[i], e.seq h, List.getElem?_eq_getElem hi⟩, fun i H x H' e hi y => ⟨y.1, y.2 xs (e.seq h)⟩, fun H e => ⟨xs, e.seq h, Nat.le_refl _⟩⟩
theorem a0N {K : W.Frag} {a : Addr} {xs : List V} {H1 : Hp} (h : SqT K H1 a xs) : a5m (Itt K a) H1 xs :=
  ⟨fun i H e hi => ⟨xs, xs[i], e.tseq h, List.getElem?_eq_getElem hi⟩, fun i H x H' e hi y => ⟨y.1, y.2 xs (e.tseq h)⟩, fun H e => ⟨xs, e.tseq h, Nat.le_refl _⟩⟩
theorem a3t {lo : Int} {n : Nat} {H1 : Hp} : a5m (Itr lo n) H1 ((List.range n).map fun (i : Nat) => V.int (lo + (i : Int))) :=
  ⟨fun i H e hi => (show i < n from by simpa using hi), fun i H x H' e hi y => ⟨y.1, by rw [y.2, List.getElem?_map, List.getElem?_range (by simpa using hi)]; rfl⟩, fun H e => by simp [Itr]⟩
theorem Paired.app {α β : Type} {F : α -> β -> Prop} : ∀ {a c : List α} {b d : List β}, Paired F a b -> Paired F c d -> Paired F (a ++ c) (b ++ d)
  | _, _, _, _, .nil, s => s
  | _, _, _, _, .cons r t, s => .cons r (Paired.app t s)
section
variable {xs : List V} {J : It} {n : Nat} {fr : List Nat} {g : TG} {te : TE} {σ : St} {H1 : Hp} {p : Addr} {D : Hp -> Prop}
theorem a0C (hJ : a5m J H1 xs) (hp : H1 p = none) (hz : xs.length < sizeLine) (F : V -> V)
    (step : ∀ (i : Nat) x H (N : VK), xs[i]? = some x -> Same H1 H -> N (F x) H -> g x (blkσ n fr σ) H fun σ2 H2 => Wk (blkσ n fr σ) σ2 /\ te σ2 H2 N)
    (hd : D (j9 H1 p (.lst (xs.map F)))) : lcW n fr g te σ J H1 p D := by
  refine ⟨fun i m ys H => m = xs.length - i /\ i <= xs.length /\ ys = (xs.take i).map F /\ H = j9 H1 p (.lst ys), ⟨xs.length, by simp, Nat.zero_le _, by simp, rfl⟩, ?_⟩
  rintro i m ys H ⟨rfl, hi, rfl, rfl⟩
  have e := Same.new (o := .lst ((xs.take i).map F)) hp
  by_cases hlt : i < xs.length
  . refine .inr ⟨hJ.go i _ e hlt, fun x H' y => ?_⟩
    obtain ⟨rfl, hx⟩ := hJ.yld i _ x H' e hlt y
    refine step i x _ _ hx e ⟨upd_same, by rw [List.length_map, List.length_take]; omega, xs.length - (i + 1), by omega, rfl, hlt, ?_, K4⟩
    rw [List.take_succ, hx, List.map_append]; rfl
  . have : i = xs.length := by omega
    subst this
    refine .inl ⟨hJ.stop _ e, ?_⟩
    rw [List.take_of_length_le (Nat.le_refl _)]; exact hd
theorem a4a (hJ : a5m J H1 xs) (hp : H1 p = none) (hz : xs.length < sizeLine) (R : Nat -> V -> Hp -> Prop) (hR : ∀ i y H H', R i y H -> (∀ b o, b ≠ p -> H b = some o -> H' b = some o) -> R i y H')
    (step : ∀ (i : Nat) x H ys (N : VK), xs[i]? = some x -> Same H1 H -> H p = some (.lst ys) -> (∀ v H3, Same H H3 -> R i v H3 -> N v H3) -> g x (blkσ n fr σ) H fun σ2 H2 => Wk (blkσ n fr σ) σ2 /\ te σ2 H2 N)
    (hd : ∀ ys H, Same H1 H -> H p = some (.lst ys) -> ys.length = xs.length -> (∀ i y, ys[i]? = some y -> R i y H) -> D H) : lcW n fr g te σ J H1 p D := by
  refine ⟨fun i m ys H => m = xs.length - i /\ i <= xs.length /\ Same H1 H /\ H p = some (.lst ys) /\ ys.length = i /\ ∀ j y, ys[j]? = some y -> R j y H, ⟨xs.length, by simp, Nat.zero_le _, Same.new hp _, upd_same, rfl, fun j y e => by simp at e⟩, ?_⟩
  rintro i m ys H ⟨rfl, hi, e, hH, len, pr⟩
  by_cases hlt : i < xs.length
  . refine .inr ⟨hJ.go i _ e hlt, fun x H' y => ?_⟩
    obtain ⟨rfl, hx⟩ := hJ.yld i _ x H' e hlt y
    refine step i x _ ys _ hx e hH fun v H3 s3 r3 => ⟨s3 _ _ hH, by omega, xs.length - (i + 1), by omega, rfl, hlt, fun b o q => ?_, upd_same, by rw [List.length_append, len]; rfl, fun j y ey => ?_⟩
    . rw [c9 (d0 q hp)]; exact s3 _ _ (e _ _ q)
    . have up : ∀ b o, b ≠ p -> H3 b = some o -> j9 H3 p (.lst (ys ++ [v])) b = some o := fun b o hb q => by rw [c9 hb]; exact q
      by_cases hj : j < ys.length
      . rw [List.getElem?_append_left hj] at ey
        exact hR j y _ _ (pr j y ey) fun b o hb q => up b o hb (s3 _ _ q)
      . rw [List.getElem?_append_right (by omega)] at ey
        have hj' : j - ys.length = 0 := by
          cases q : j - ys.length with
          | zero => rfl
          | succ k => rw [q] at ey; simp at ey
        rw [hj'] at ey
        have : j = i := by omega
        subst this
        simp at ey
        subst ey
        exact hR j v _ _ r3 up
  . have : i = xs.length := by omega
    subst this
    exact .inl ⟨hJ.stop _ e, hd ys H e hH len pr⟩
end
end L2
namespace L2
open PySem PySem.Spec PyProof.Rows
theorem Inv.turnedLaid {X : Cx} {pins : List (Addr × Obj)} {σ : St} {H : Hp} {s : Shared} {h' : Heap} {fp : List Addr} {T : Addr} {xs : List V} {its : List Value} (I : Inv X pins σ H s) (hf : ∀ b ∈ fp, N0 X pins H b)
    (k : ∀ b o, b ∉ fp -> s.heap.get? b = some o -> h'.get? b = some o) (ho : ∀ b ∈ fp, ∃ o, h'.get? b = some o) (hT : s.heap.objs.size <= T) (hz : xs.length <= sizeLine) (hv : Vals xs its) (ht : IsTup h' T its.toArray) :
    Inv X pins σ (j9 H T (.tup xs)) { s with heap := h' } := by
  have hTn : H T = none := I.hok.fresh hT
  have neT : ∀ b o, s.heap.get? b = some o -> b ≠ T := fun b o e => Nat.ne_of_lt (Nat.lt_of_lt_of_le (Heap.lt_size e) hT)
  refine I.step (g' := s.gens) (t' := s.toks) (d' := s.drawn) (ch := fp) (fun b hb => ⟨(hf b hb).2.2.2.1, (hf b hb).2.1, (hf b hb).2.2.2.2.1, (hf b hb).2.2.2.2.2⟩) (fun b o _ _ hc e _ => k b o hc e) (fun b o _ _ hc e _ => ⟨o.slots, k b o hc e⟩)
    (fun b o hc e n => by rw [c9 (neT b o e)]; exact n) (fun b o hc e => ⟨o, k b o hc e⟩) (fun b ys e => by rw [c9 (d0 e hTn)]; exact e) (fun b o u e => by rw [c9 (d0 e hTn)]; exact e) (fun b ps e => ⟨#[], by rw [c9 (d0 e hTn), e]; simp⟩)
    (fun m hm => ?_) (fun b u e => ?_) I.bare
  . obtain ⟨o, es, ep, e1, r⟩ := hm
    exact ⟨o, es, ep, k _ o (fun z => (hf _ z).2.1 rfl) e1, r⟩
  . by_cases hb : b = T
    . subst hb; rw [upd_same] at e; cases e
      exact ⟨hz, its, hv, ht⟩
    . rw [c9 hb] at e
      have nit : ∀ c u, H c = some u -> c ∉ fp := fun c u q z => by rw [(hf c z).1] at q; cases q
      refine (I.hok b u e).stay (fun c v hc q => k c v ?_ q) (fun c q => by rw [c9 (d0 q hTn)]; exact q) fun c ys q => by rw [c9 (d0 q hTn)]; exact q
      rcases hc with z | z
      . rw [z]; exact nit b u e
      . exact nit c _ z
theorem Inv.turnedAll {X : Cx} {pins : List (Addr × Obj)} {σ : St} {H : Hp} {s : Shared} {h' : Heap} {fp : List Addr} (I : Inv X pins σ H s) (hf : ∀ b ∈ fp, N0 X pins H b)
    (k : ∀ b o, b ∉ fp -> s.heap.get? b = some o -> h'.get? b = some o) : Inv X pins σ H { s with heap := h' } := by
  refine I.step (g' := s.gens) (t' := s.toks) (d' := s.drawn) (ch := fp) (fun b hb => ⟨(hf b hb).2.2.2.1, (hf b hb).2.1, (hf b hb).2.2.2.2.1, (hf b hb).2.2.2.2.2⟩) (fun b o _ _ hc e _ => k b o hc e) (fun b o _ _ hc e _ => ⟨o.slots, k b o hc e⟩)
    (fun b o hc e n => n) (fun b o hc e => ⟨o, k b o hc e⟩) (fun b ys e => e) (fun b o u e => e) (fun b ps e => ⟨#[], by rw [e]; simp⟩)
    (fun m hm => ?_) (fun b u e => ?_) I.bare
  . obtain ⟨o, es, ep, e1, r⟩ := hm
    exact ⟨o, es, ep, k _ o (fun z => (hf _ z).2.1 rfl) e1, r⟩
  . have nit : ∀ c u, H c = some u -> c ∉ fp := fun c u q z => by rw [(hf c z).1] at q; cases q
    refine (I.hok b u e).stay (fun c v hc q => k c v ?_ q) (fun c q => q) fun c ys q => q
    rcases hc with z | z
    . rw [z]; exact nit b u e
    . exact nit c _ z
theorem a7e (n l1 l2 : Nat) (h1 : l1 < n) (h2 : l2 < n) : ZipApart (n + 4) (n + 2) (n + 3) n (n + 1) l1 l2 where
  TIz := (by omega : (n + 2 : Nat) ≠ n + 4)
  TOz := (by omega : (n + 3 : Nat) ≠ n + 4)
  i1z := (by omega : (n : Nat) ≠ n + 4)
  i2z := (by omega : (n + 1 : Nat) ≠ n + 4)
  TITO := (by omega : (n + 2 : Nat) ≠ n + 3)
  TIi1 := (by omega : (n + 2 : Nat) ≠ n)
  TIi2 := (by omega : (n + 2 : Nat) ≠ n + 1)
  TOi1 := (by omega : (n + 3 : Nat) ≠ n)
  TOi2 := (by omega : (n + 3 : Nat) ≠ n + 1)
  i12 := (by omega : (n : Nat) ≠ n + 1)
  l1z := (by omega : (l1 : Nat) ≠ n + 4)
  l1TO := (by omega : (l1 : Nat) ≠ n + 3)
  l1i1 := (by omega : (l1 : Nat) ≠ n)
  l1i2 := (by omega : (l1 : Nat) ≠ n + 1)
  l2z := (by omega : (l2 : Nat) ≠ n + 4)
  l2TO := (by omega : (l2 : Nat) ≠ n + 3)
  l2i1 := (by omega : (l2 : Nat) ≠ n)
  l2i2 := (by omega : (l2 : Nat) ≠ n + 1)
section
variable {X : Cx}
def b0W (i j : Int) : Prop := 0 < j /\ j < 2 ^ 8000
theorem log2_lt {y : Nat} (h : y < 2 ^ 8000) : y.log2 < 9000 := by
  by_cases h0 : y = 0
  . subst h0; decide
  . exact Nat.lt_of_lt_of_le ((Nat.log2_lt h0).mpr h) (by decide)
theorem a1b : T9 X (binaryOp .FloorDiv) (rI b0W fun i j => .int (i / j)) := opI fun i j _ _ _ _ _ hc q => by
  have h0 : j ≠ 0 := by have := hc.1; omega
  have e : i.fdiv j = i / j := Int.fdiv_eq_ediv_of_nonneg i (Int.le_of_lt hc.1)
  refine floordiv_int h0 (by rw [e]; exact q) (.inl (PyProof.noPylong_of_log2 (log2_lt ?_)))
  have := hc.1
  have := hc.2
  omega
def Big (n : Nat) (i : Int) : Prop := i.natAbs < 2 ^ n
def b0z (i j : Int) : Prop := Big 1000000 i /\ Big 1000000 j
theorem a4r {i : Int} (h : Big 1000000 i) : Builtin.Int.intBits i <= 2 ^ 20 := by
  unfold Builtin.Int.intBits
  split
  . exact Nat.zero_le _
  . rename_i h0
    have h0' : i.natAbs ≠ 0 := by
      intro z
      exact h0 (by rw [Int.natAbs_eq_zero.mp z]; rfl)
    have := (Nat.log2_lt h0').mpr h
    omega
theorem a0j : T9 X (binaryOp .Mult) (rI b0z fun i j => .int (i * j)) := opI fun _ _ _ _ _ _ _ hc q => mul_int q (IntMulOk.of_bits (a4r hc.1) (a4r hc.2))
end
theorem Same.write {H H' : Hp} {p : Addr} {o : HO} (e : Same H H') (hp : H p = none) : Same H (j9 H' p o) := fun b u q => by rw [c9 (d0 q hp)]; exact e b u q
section
variable {xs : List V} {J : It} {fr : List Nat} {tc : TT} {σ : St} {H1 : Hp} {p : Addr} {D : Hp -> Prop}
end
end L2
namespace L2
open PySem PySem.W
theorem Q4 : typeOf (.builtin "object.__class__") = pure (.type "getset_descriptor") := by kernel_rfl
theorem a1S : (".".intercalate ("object.__class__".cutAt '.').dropLast) = "object" := by
  have e0 : "object.__class__".cutAt '.' = ["object", "__class__"] := by decide +kernel
  rw [e0]
  decide +kernel
section
variable {prog : Program} {w : World} {A : Around} {E : Value -> Shared -> Prop} {s : Shared} {K : Frag} {x C D : Addr} {ox : Obj}
theorem a6J {R : Result -> Shared -> Prop} (X : K.In s.heap) (hx : s.heap.get? x = some ox) (hc : ox.cls = .ref D) (hm : mroIn K D (.type "object") = some true) (hq : R (.ok (.ret (.ref D))) s) :
    codeAny (model prog w) A (.call (.builtin "getset_descriptor.__get__") ⟨[.builtin "object.__class__", .ref x, .ref D], []⟩) R s := by
  obtain ⟨h, g, d, t, os⟩ := s
  have L1 := looks_mroIn (M := model prog w) X hm
  have hT5 : (⟨h, g, d, t, os⟩ : Shared).TypeIs (.builtin "object.__class__") "getset_descriptor" := Q4
  refine codeAny_call_builtin F.slot_gs_get.plain F.entry_gs_get (F.slot_gs_get.check _ _ _ _ _ _ _ _ hT5 (F.args_gs_get _ _ _) ?_)
  repeat (any_goals (first | assumption | (with_reducible refine wpAny_loadPart_at hx ?_; rw [hc]) | with_reducible refine L1.at ?_ | wp_step))
  rw [a1S]
  refine L1.at ?_
  repeat (any_goals (first | assumption | wp_step))
  refine ⟨Code.quiet_builtin _ (by decide +kernel), codeAny_builtin KF.entry_class ?_⟩
  unfold Builtin.«object.__class__»
  repeat (any_goals (first | assumption | (with_reducible refine wpAny_loadPart_at hx ?_; rw [hc]) | wp_step))
theorem a4Q {tk : Tok} {Q : PySem.Fin -> Shared -> Prop} (X : K.In s.heap) (hx : s.heap.get? x = some ox) (hc : ox.cls = .ref D) (ha : findIn K (.ref D) "__class__" = some (some (.builtin "object.__class__")))
    (hm : mroIn K D (.type "object") = some true)
    (hq : Q (.done (.ret (.ref D))) s) :
    wpAny (model prog w) A (Builtin.«object.__getattribute__» ⟨[.ref x, .str "__class__" tk], []⟩) Q E s := by
  obtain ⟨h, g, d, t, os⟩ := s
  have L1 := looks_findIn (M := model prog w) X ha
  have hT5 : (⟨h, g, d, t, os⟩ : Shared).TypeIs (.builtin "object.__class__") "getset_descriptor" := Q4
  have f5 := Q4
  have f6 := F.slot_gs_get.lookup
  have f7 := F.slot_gs_set.lookup
  unfold Builtin.«object.__getattribute__»
  repeat (any_goals (first | assumption | (with_reducible refine wpAny_loadPart_at hx ?_; rw [hc]) | with_reducible refine L1.at ?_ | wp_step))
  refine a6J X hx hc hm ?_
  repeat (any_goals (first | assumption | wp_step))
theorem a5c {nv : Value} {Q : Unit -> Shared -> Prop} (X : K.In s.heap) (hx : s.heap.get? x = some ox) (hc : ox.cls = .ref D) (hb : mroIn K D (.type "BaseException") = some true) (hq : Q () s) :
    wpAny (model prog w) A (checkBuiltinCall "BaseException.__getattribute__" ⟨[.ref x, nv], []⟩) Q E s := by
  have hk : builtinKind "BaseException.__getattribute__" = some .slot := by decide +kernel
  have hsplit : splitId "BaseException.__getattribute__" = some ("BaseException", "__getattribute__") := by decide +kernel
  have ag := F.args_bexc_ga (.ref x) nv
  obtain ⟨h, g, d, t, os⟩ := s
  have L1 := looks_mroIn (M := model prog w) X hb
  simp only [checkBuiltinCall, hk, hsplit]
  refine wpAny_bind ?_
  unfold isInstance
  repeat (first | (with_reducible refine wpAny_loadPart_at hx ?_; rw [hc]) | with_reducible refine L1.at ?_ | wp_step)
  exact hq
theorem a6d {tk : Tok} {R : Result -> Shared -> Prop} (X : K.In s.heap) (hx : s.heap.get? x = some ox) (hc : ox.cls = .ref D) (ha : findIn K (.ref D) "__class__" = some (some (.builtin "object.__class__")))
    (hm : mroIn K D (.type "object") = some true) (hb : mroIn K D (.type "BaseException") = some true) (hq : R (.ok (.ret (.ref D))) s) :
    codeAny (model prog w) A (.call (.builtin "BaseException.__getattribute__") ⟨[.ref x, .str "__class__" tk], []⟩) R s :=
  codeAny_call_builtin F.excAttr_ValueError.ga.plain F.entry_bexc_ga (a5c X hx hc hb (a4Q X hx hc ha hm hq))
theorem a5n {Q : Option Value -> Shared -> Prop} (X : K.In s.heap) (hx : s.heap.get? x = some ox) (hc : ox.cls = .ref D) (hga : findIn K (.ref D) "__getattribute__" = some (some (.builtin "BaseException.__getattribute__")))
    (hgn : findIn K (.ref D) "__getattr__" = some none) (ha : findIn K (.ref D) "__class__" = some (some (.builtin "object.__class__")))
    (hm : mroIn K D (.type "object") = some true) (hb : mroIn K D (.type "BaseException") = some true) (hq : Q (some (.ref D)) { s with toks := s.toks + 1 }) :
    wpAny (model prog w) A (getAttr? (.ref x) "__class__") Q E s := by
  obtain ⟨h, g, d, t, os⟩ := s
  have L1 := looks_findIn (M := model prog w) X hga
  have L2 := looks_findIn (M := model prog w) X hgn
  have f3 := F.excAttr_ValueError.ga.bind (.ref x)
  have hx2 : (Value.builtin "BaseException.__getattribute__" == Value.builtin "object.__getattribute__") = false := by decide +kernel
  have hx1 : (onTheHeap (Value.ref D) && Value.builtin "BaseException.__getattribute__" == Value.builtin "object.__getattribute__") = false := by rw [hx2]; rfl
  have hx0 : (false && onTheHeap (Value.builtin "BaseException.__getattribute__")) = false := rfl
  unfold getAttr?
  repeat (any_goals (first | assumption | (with_reducible refine wpAny_loadPart_at hx ?_; rw [hc]) | with_reducible refine L1.at ?_ | with_reducible refine L2.at ?_ | wp_step))
  refine a6d X hx hc ha hm hb ?_
  repeat (any_goals (first | assumption | wp_step))
end
structure O1 (K : Frag) (D : Addr) : Prop where
  ob : ∃ nm q N bs bm hdct sn sub ab col dd k0 k1 k2 k3 k5, K.lookup D = some (excClassObj nm q D N bs bm hdct sn sub ab col dd k0 k1 k2 k3 k5 "ValueError.__new__") /\ nsOkIn K N = true /\ nsIn K N "__init__" = some none ∧
    tailIn K [.type "ValueError", .type "Exception", .type "BaseException", .type "object"] bm = true
  ga : findIn K (.ref D) "__getattribute__" = some (some (.builtin "BaseException.__getattribute__"))
  gn : findIn K (.ref D) "__getattr__" = some none
  ca : findIn K (.ref D) "__class__" = some (some (.builtin "object.__class__"))
  mo : mroIn K D (.type "object") = some true
  mb : mroIn K D (.type "BaseException") = some true
def a4q (ea D : Addr) (h : Heap) : Prop := ∃ o, h.get? ea = some o /\ o.cls = .ref D
theorem a7m {K : Frag} {D ea : Addr} (k : O1 K D) : KitX K (.ref ea) (.ref D) (a4q ea D) where
  ty := fun M h X p => by
    obtain ⟨o, h1, h2⟩ := p
    exact h2 ▸ (Looks.ld h1).andThen .now
  it := fun M h X p => by
    obtain ⟨_, _, _, _, _, _, _, _, _, _, _, _, _, _, _, _, lk, _⟩ := k.ob
    intro A' Q' E' s' kk q
    unfold isType loadHead
    exact wpAny_bind (wpAny_loadPart (kk _ _ (X _ _ lk)) (wpAny_pure q))
  ne := fun h tp dd its n sl X htp => Bool.eq_false_iff.mpr fun q => by
    obtain ⟨_, _, _, _, _, _, _, _, _, _, _, _, _, _, _, _, lk, _⟩ := k.ob
    have e : D = tp := Value.ref.inj (beq_iff_eq.mp q)
    subst e
    have z := (X _ _ lk).symm.trans htp
    exact absurd (Value.type.inj (congrArg Obj.cls (Option.some.inj z))) (by decide)
  ca := fun {prog w A E Q s} X p kk => by
    obtain ⟨o, h1, h2⟩ := p
    exact a5n X h1 h2 k.ga k.gn k.ca k.mo k.mb kk
def a5e (ea D : Addr) : HO := .ext (a4q ea D)
theorem a7w {P : Program} {w : World} {H : Hp} {h : Heap} {ea D : Addr} (e : a4q ea D h) : ObjOk P w H h ea (a5e ea D) :=
  ⟨e, let ⟨o, h1, _⟩ := e; ⟨o, h1⟩, fun h1 h2 ⟨o, a, b⟩ k => ⟨o, k o a, b⟩⟩
theorem x4 {X : Cx} : G6 X (.builtin "isinstance") (fun vs H Q => ∃ (ea D : Addr) (c : V) (b : Bool), vs = [.ref ea, c] /\ H ea = some (a5e ea D) /\ O1 X.K D /\ (∀ u, RelV c u -> kitOne X.K (.ref D) u = some b) /\ Q (.bl b) H) := by
  intro pins s σ H vs us Q I r h
  obtain ⟨ea, D, c, b, rfl, he, k, e, q⟩ := h
  obtain ⟨u, v, rfl, ru, rv⟩ := a1s r
  cases (show u = Value.ref ea from ru)
  have ho : ObjOk X.prog X.w H s.heap ea (a5e ea D) := I.hok ea _ he
  exact kia_one (a7m k) I.kIn ho.1 (e v rv) (fun z => nomatch z) fun tk => ⟨.bl b, H, I.tok _, rfl, q⟩
theorem a5l {prog : Program} {w : World} {A : Around} {E : Value -> Shared -> Prop} {s : Shared} {K : Frag} {ea D R : Addr} {oe : Obj} {Q : Bool -> Shared -> Prop} (X : K.In s.heap) (hx : s.heap.get? ea = some oe) (hc : oe.cls = .ref D)
    (hs : mroIn K D (.ref R) = some true) (kR : O1 K R) (hq : Q true s) : wpAny (model prog w) A (excMatches (.ref ea) (.ref R)) Q E s := by
  obtain ⟨h, g, d, t, os⟩ := s
  obtain ⟨_, _, _, _, _, _, _, _, _, _, _, _, _, _, _, _, lk, _⟩ := kR.ob
  have hR := X _ _ lk
  have L1 := looks_mroIn (M := model prog w) X hs
  have L2 := looks_mroIn (M := model prog w) X kR.mb
  have f := tc_notTuple
  unfold excMatches
  repeat (first | with_reducible refine L1.at ?_ | with_reducible refine L2.at ?_ | (with_reducible refine wpAny_loadPart_at hx ?_; rw [hc]) | with_reducible refine wpAny_loadPart_at hR ?_ | wp_step)
  exact hq
end L2
namespace L2
open PySem PySem.Spec PyProof.Rows
theorem ObjOk.got {P : Program} {w : World} {H : Hp} {h : Heap} {a : Addr} {o : HO} (x : ObjOk P w H h a o) : ∃ ob, h.get? a = some ob := by
  cases o with
  | lst xs => obtain ⟨_, _, _, _, e⟩ := x; exact ⟨_, e⟩
  | tup xs => obtain ⟨_, _, _, ob, e, _⟩ := x; exact ⟨ob, e⟩
  | dK kvs => obtain ⟨_, _, _, _, ob, _, _, e, _⟩ := x; exact ⟨ob, e⟩
  | dT kvs => obtain ⟨_, _, _, _, ob, _, _, e, _⟩ := x; exact ⟨ob, e⟩
  | set S n => obtain ⟨ob, _, _, _, e, _⟩ := x; exact ⟨ob, e⟩
  | ins C dx fs => obtain ⟨_, _, _, e, _⟩ := x; exact ⟨_, e⟩
  | own y => exact x
  | xd fs => obtain ⟨_, ⟨ob, _, _, e, _⟩, _⟩ := x; exact ⟨ob, e⟩
  | rng lo hi => obtain ⟨_, _, _, e⟩ := x; exact ⟨_, e⟩
  | frz ob u => obtain ⟨e, _⟩ := x; exact ⟨_, e⟩
  | tbl ps => exact ⟨_, (show h.get? a = some _ from x)⟩
  | met f y => exact ⟨_, (show h.get? a = some _ from x)⟩
  | ext φ => obtain ⟨_, e, _⟩ := x; exact e
theorem Un.slots {fs ex : List Addr} {H0 H' : Hp} {h0 h1 h2 : Heap} (u : Un fs ex H0 H' h0 h1) (hb : ∀ b o, h1.get? b = some o -> (∃ o0, h0.get? b = some o0) -> b ∉ fs -> h2.get? b = some o)
    (hf : ∀ b ∈ fs, ∀ o, h1.get? b = some o -> ∃ sl, h2.get? b = some { o with slots := sl }) : Un fs ex H0 H' h0 h2 where
  keep := fun b o q n hfs hx => hb b o (u.keep b o q n hfs hx) ⟨o, q⟩ hfs
  slot := fun b o q n hfs hx => by
    obtain ⟨sl, e⟩ := u.slot b o q n hfs hx
    obtain ⟨sl', e'⟩ := hf b hfs _ e
    exact ⟨sl', e'⟩
  free := u.free
  there := fun b o q hx => by
    obtain ⟨o', e⟩ := u.there b o q hx
    by_cases hm : b ∈ fs
    . obtain ⟨sl, e'⟩ := hf b hm _ e; exact ⟨_, e'⟩
    . exact ⟨_, hb b o' e ⟨o, q⟩ hm⟩
  tups := u.tups
  frzs := u.frzs
  tbls := u.tbls
theorem HOk.slots {P : Program} {w : World} {H : Hp} {h h' : Heap} (x : HOk P w H h) (k : ∀ b u o, H b = some u -> h.get? b = some o -> h'.get? b = some o) : HOk P w H h' := fun a o e =>
  (x a o e).stay (fun b u hb q => by
    rcases hb with rfl | hb
    . exact k b o u e q
    . exact k b _ u hb q) (fun _ q => q) fun _ _ q => q
structure Fly (P : Program) (w : World) (l : List Env) (H : Hp) (s : Shared) (ea t D : Addr) (B : Heap) (H' : Hp) (s' : Shared) : Prop where
  os : s'.os = s.os
  bare : AllBare s'.gens
  un : Un (frs l) [] H H' s.heap s'.heap
  hok : HOk P w H' s'.heap
  fly : Heap.FlyingW B l ea (.ref D) (.ref t) s'.heap
  inb : ∀ b o, s'.heap.get? b = some o -> ((∃ o0, s.heap.get? b = some o0) /\ b ∉ frs l) \/ H' b ≠ none -> B.get? b = some o
def P1 (P : Program) (w : World) : CXT := fun l H s E e s' => ∃ (ea t D : Addr) (B : Heap) (H' : Hp), e = .ref ea /\ Fly P w l H s ea t D B H' s' /\ E (.ref D) none H'
section
variable {P : Program} {w : World} {l : List Env} {H : Hp} {s s' : Shared} {ea t D : Addr} {B h' : Heap} {H' : Hp}
theorem Fly.slots (F : Fly P w l H s ea t D B H' s') (fl : Heap.FlyingW B l ea (.ref D) (.ref t) h') (up : s'.heap.UpToSlots h') : Fly P w l H s ea t D B H' { s' with heap := h' } := by
  have st : ∀ b o, B.get? b = some o -> h'.get? b = some o := fl.1
  refine ⟨F.os, F.bare, F.un.slots (fun b o q z hn => st b o (F.inb b o q (.inl ⟨z, hn⟩))) (fun b hb o q => ?_), F.hok.slots (fun b u o e q => st b o (F.inb b o q (.inr (by rw [e]; simp)))), fl, fun b o q z => ?_⟩
  . obtain ⟨_, o', ho', hd⟩ := F.fly.2.2.1.mem hb
    rw [q] at ho'; cases ho'
    exact up b o q hd
  . have : ∃ o1, s'.heap.get? b = some o1 := by
      rcases z with ⟨⟨o0, z⟩, _⟩ | z
      . exact F.un.there b o0 z (by simp)
      . cases e : H' b with
        | none => exact absurd e z
        | some u => exact (F.hok b u e).got
    obtain ⟨o1, q1⟩ := this
    have b1 := F.inb b o1 q1 z
    have := st b o1 b1
    rw [show h'.get? b = some o from q] at this
    cases this
    exact b1
theorem Fly.new (F : Fly P w l H s ea t D B H' s') : s.heap.get? ea = none /\ H' ea = none := by
  obtain ⟨_, hb, hfr, oe, vs, T, oT, ts, he, hc, hd, _⟩ := F.fly
  have nb : ∀ o, B.get? ea ≠ some o := fun o z => by rw [hb] at z; cases z
  constructor
  . cases q : s.heap.get? ea with
    | none => rfl
    | some o0 =>
      refine absurd (F.inb ea oe he (.inl ⟨⟨o0, q⟩, fun hm => ?_⟩)) (nb _)
      obtain ⟨_, o, ho, hnf⟩ := hfr.mem hm
      rw [he] at ho; cases ho
      exact hnf vs hd
  . cases q : H' ea with
    | none => rfl
    | some u => exact absurd (F.inb ea oe he (.inr (by rw [q]; simp))) (nb _)
theorem Fly.at (F : Fly P w l H s ea t D B H' s') : a4q ea D s'.heap := by
  obtain ⟨o, h1, h2⟩ := F.fly.there
  exact ⟨o, h1, h2⟩
theorem Fly.inv {X : Cx} {pins : List (Addr × Obj)} {σ : St} (I : Inv X pins σ H s) (F : Fly X.prog X.w X.stack H s ea t D B H' s') : Inv X pins σ H' s' :=
  I.call' F.os F.un F.hok F.bare (fun b z => absurd z (by simp))
theorem Fly.track {X : Cx} {pins : List (Addr × Obj)} {σ : St} (I : Inv X pins σ H s) (F : Fly X.prog X.w X.stack H s ea t D B H' s') : Inv X pins σ (j9 H' ea (a5e ea D)) s' := by
  obtain ⟨n1, n2⟩ := F.new
  have u := F.un
  refine I.call' F.os (ch := []) ⟨u.keep, u.slot, fun b o q n hx => ?_, u.there, fun b xs q => ?_, fun b o xs q => ?_, fun b ps q => ?_⟩ (fun a o e => ?_) F.bare (fun b z => absurd z (by simp))
  . rw [c9 (fun z => by rw [z, n1] at q; cases q)]; exact u.free b o q n hx
  . have := u.tups b xs q
    rw [c9 (d0 this n2)]; exact this
  . have := u.frzs b o xs q
    rw [c9 (d0 this n2)]; exact this
  . obtain ⟨m, e⟩ := u.tbls b ps q
    exact ⟨m, by rw [c9 (d0 e n2)]; exact e⟩
  . by_cases ha : a = ea
    . subst ha; rw [upd_same] at e; cases e
      exact a7w F.at
    . rw [c9 ha] at e
      exact (F.hok a o e).stay (fun _ _ _ q => q) (fun c q => by rw [c9 (d0 q n2)]; exact q) fun c xs q => by rw [c9 (d0 q n2)]; exact q
end
section
variable {P : Program} {w : World} {K : W.Frag} {mg : Str -> Option Value} {base : Heap} {N : List Str} {qual : Str} {scope : Scope} {f : Addr} {cd : Value} {A : Around} {outer : List Env} {s₀ : Shared} {H₀ : Hp} {E : XK}
theorem X5 {b : Addr} {o : Obj} {X : Cx} {pins : List (Addr × Obj)} {σ : St} {H : Hp} {s : Shared} (I : Inv X pins σ H s) (e : X.s₀.heap.get? b = some o) (hb : b ∉ frs X.outer) : b ∉ frs X.stack := fun z => by
  rcases List.mem_cons.mp (I.stkSub b z) with q | q
  . have := Nat.lt_of_lt_of_le (Heap.lt_size e) I.ok.above
    rw [q] at this
    exact Nat.lt_irrefl _ this
  . exact hb q
theorem W2 : N6 (P1 P w) (E7 (P1 P w) P w K mg base N qual scope f cd A outer s₀ H₀ E) E := by
  intro pins σ H s e s' I h
  obtain ⟨ea, t, D, B, H', rfl, F, hE⟩ := h
  have I' := F.inv I
  refine wpAny_leaves_onW I.ok.frames rfl F.fly fun h' fl up => ?_
  have st : ∀ b o, B.get? b = some o -> h'.get? b = some o := fl.1
  have bin : ∀ b o, s'.heap.get? b = some o -> (∃ o0, s₀.heap.get? b = some o0) -> b ∉ frs outer -> B.get? b = some o := fun b o q ⟨o0, z⟩ hn => by
    obtain ⟨o1, q1⟩ := I.base.there b o0 z (by show b ∉ ([] : List Addr); simp)
    exact F.inb b o q (.inl ⟨⟨o1, q1⟩, X5 I z hn⟩)
  refine ⟨ea, t, D, B, H', rfl, ⟨I'.os, F.bare, I'.base.slots (fun b o q z hn => st b o (bin b o q z hn)) (fun b hb o q => ?_), F.hok.slots (fun b u o e q => st b o (F.inb b o q (.inr (by rw [e]; simp)))), fl, fun b o q z => ?_⟩, hE⟩
  . obtain ⟨_, o', ho', hd⟩ := F.fly.2.2.1.2.2.mem hb
    rw [q] at ho'; cases ho'
    exact up b o q hd
  . have : ∃ o1, s'.heap.get? b = some o1 /\ B.get? b = some o1 := by
      rcases z with ⟨⟨o0, z⟩, hn⟩ | z
      . obtain ⟨o1, q1⟩ := I'.base.there b o0 z (by show b ∉ ([] : List Addr); simp)
        exact ⟨o1, q1, bin b o1 q1 ⟨o0, z⟩ hn⟩
      . cases e : H' b with
        | none => exact absurd e z
        | some u =>
          obtain ⟨o1, q1⟩ := (F.hok b u e).got
          exact ⟨o1, q1, F.inb b o1 q1 (.inr z)⟩
    obtain ⟨o1, _, b1⟩ := this
    have := st b o1 b1
    rw [show h'.get? b = some o from q] at this
    cases this
    exact b1
theorem b1f {pins : List (Addr × Obj)} {σ : St} {H : Hp} {s : Shared} {h1 : Heap} {ea D : Addr} {vs : List Value} (I : Inv (E7 (P1 P w) P w K mg base N qual scope f cd A outer s₀ H₀ E) pins σ H s) (hx : Heap.MadeExcOf s.heap h1 ea (.ref D) vs)
    (hE : E (.ref D) none H) : (E7 (P1 P w) P w K mg base N qual scope f cd A outer s₀ H₀ E).xe (.ref ea) { s with heap := h1 } := by
  have hin : ∀ env ∈ (envOfC qual scope s₀.heap.objs.size f cd :: outer), ∀ b, env.frame = some b -> b ∈ frs (envOfC qual scope s₀.heap.objs.size f cd :: outer) := fun env he b hb => List.mem_filterMap.mpr ⟨env, he, hb⟩
  refine wpAny_leaves_madeW (base := W.hideAll s.heap (frs (envOfC qual scope s₀.heap.objs.size f cd :: outer))) (h := s.heap) I.ok.frames rfl (fun b o q => W.of_hideAll _ q) (W.funFrames_hide I.stack hin) hx fun h' t fl _ _ up => ?_
  have st : ∀ b o, s.heap.get? b = some o -> b ∉ frs (envOfC qual scope s₀.heap.objs.size f cd :: outer) -> h'.get? b = some o := fun b o q hn => fl.1 b o (W.hideAll_get _ q hn)
  have trn : ∀ b u, H b = some u -> b ∉ frs (envOfC qual scope s₀.heap.objs.size f cd :: outer) := fun b u e z => by
    have := I.stkFree b z
    rw [e] at this; cases this
  refine ⟨ea, t, D, _, H, rfl, ⟨I.os, I.bare, I.base.slots (fun b o q ⟨o0, z⟩ hn => st b o q (X5 I z hn)) (fun b hb o q => ?_), I.hok.slots (fun b u o e q => st b o q (trn b u e)), fl, fun b o q z => ?_⟩, hE⟩
  . obtain ⟨_, o', ho', hd⟩ := I.funs.mem hb
    rw [q] at ho'; cases ho'
    exact up b o (hx.keeps b o q) hd
  . have : ∃ o1, s.heap.get? b = some o1 /\ b ∉ frs (envOfC qual scope s₀.heap.objs.size f cd :: outer) := by
      rcases z with ⟨⟨o0, z⟩, hn⟩ | z
      . obtain ⟨o1, q1⟩ := I.base.there b o0 z (by show b ∉ ([] : List Addr); simp)
        exact ⟨o1, q1, X5 I z hn⟩
      . cases e : H b with
        | none => exact absurd e z
        | some u =>
          obtain ⟨o1, q1⟩ := (I.hok b u e).got
          exact ⟨o1, q1, trn b u e⟩
    obtain ⟨o1, q1, hn⟩ := this
    have := st b o1 q1 hn
    rw [show h'.get? b = some o from q] at this
    cases this
    exact W.hideAll_get _ q1 hn
end
end L2
namespace L2
open PySem PySem.Spec PyProof.Rows
section
variable {X : Cx} {e : Expr} {te : TE} {a : Str} {j : Nat} {p1 p2 p3 : Pos}
def tFs (te : TE) : TE := fun σ H Q => te σ H fun v H1 => ∃ i : Int, v = .int i /\ i.natAbs.log2 < 1920 /\ ∀ x, Q (.str x) H1
theorem a7x (he : PE X e te) (ha : a.length <= 1000) : PE X (.JoinedStr [.Constant (.str a) j p1, .FormattedValue e (-1) none p2] p3) (tFs te) := by
  intro pins s σ H Q I h
  refine JoinedStr_many (joinParts_cons ?_)
  refine t8 (B7 pins s σ H (fun v H' => v = .str a /\ H' = H) I ⟨rfl, rfl⟩) fun u s1 ⟨v, H1, I1, r, hv, hH⟩ => ?_
  subst hv; subst hH
  obtain ⟨tk, rfl⟩ := r
  have e0 : (Str.empty ++ a).length = a.length := by rw [strLen_append]; show 0 + a.length = a.length; omega
  refine ⟨by rw [e0]; exact Nat.le_trans ha (by decide), joinParts_cons (FormattedValue_plain ?_)⟩
  refine t8 (he pins s1 σ H1 _ I1 h) fun u s2 ⟨v, H2, I2, r, i, hv, hi, q⟩ => ?_
  subst hv
  obtain ⟨tk2, rfl⟩ := r
  refine formatField_int_small hi ?_
  have hl : (Str.empty ++ a ++ Str.ofString (toString i)).length <= sizeLine := by
    rw [strLen_append, e0]
    have h1 := int_text_length_le (a := i) (k := 1920) (by decide) hi
    rw [PySem.ofString_length, sizeLine_eq]
    omega
  refine ⟨hl, joinParts_nil ?_ hl⟩
  exact ⟨.str _, H2, (I2.tok _).tok _, ⟨_, rfl⟩, q _⟩
end
section
variable {P : Program} {w : World} {K : W.Frag} {mg : Str -> Option Value} {base : Heap} {N : List Str} {qual : Str} {scope : Scope} {f : Addr} {cd : Value} {A : Around} {outer : List Env} {s₀ : Shared} {H₀ : Hp} {E : XK}
  {x : Str} {D : Addr} {e : Expr} {t : TA} {np cpos pos : Pos}
def a6M (t : TA) (D : Addr) (E : XK) : TS := fun _ σ H => t σ H fun vs H1 => vs.length <= 1000 /\ E (.ref D) none H1
theorem V9 (k : O1 K D) (hg : Gl (E7 (P1 P w) P w K mg base N qual scope f cd A outer s₀ H₀ E) x) (hm : mg x = some (.ref D)) (hh : A.handled = none)
    (ha : PA (E7 (P1 P w) P w K mg base N qual scope f cd A outer s₀ H₀ E) [e] t)
    (he : starEach [e] (envOfC qual scope s₀.heap.objs.size f cd) = [(false, eval e (envOfC qual scope s₀.heap.objs.size f cd))] := by rfl) (hdb : (x == ("__debug__" : Str)) = false := by decide) :
    PS (E7 (P1 P w) P w K mg base N qual scope f cd A outer s₀ H₀ E) (.Raise (some (.Call (.Name x np) [e] [] cpos)) none pos) (a6M t D E) := by
  intro pins s σ H Dn I h
  obtain ⟨nm, q, Na, bs, bm, hdct, sn, sub, ab, col, dd, k0, k1, k2, k3, k5, lk, ok, ni, tl⟩ := k.ob
  have tb : ∀ h : Heap, K.In h -> OwnTail h [.type "ValueError", .type "Exception", .type "BaseException", .type "object"] bm := fun h X => W.tail_of_in X tl
  have nsf : ∀ h : Heap, K.In h -> h.Ns Na (h.nsMap Na) /\ h.nsMap Na "__init__" = none := fun h X => ⟨.of_isNs (W.isNs_of_in X ok), W.nsMap_none_of_in X ok ni⟩
  have hN0 := (nsf s.heap I.kIn).1
  refine wpAny_Raise_call_subT (C := D) (nm := nm) (q := q) (N := Na) (bs := bs) (bm := bm) (hdct := hdct) (sn := sn) (sub := sub) (ab := ab) (col := col) (dd := dd) (k0 := k0) (k1 := k1) (k2 := k2) (k3 := k3) (k5 := k5) (newId := "ValueError.__new__")
    F.excBase_ValueError (mN := base.nsMap Na) ((tb base I.mod.kin).hasType (by decide +kernel)) (by show (A.deeper _).handled = none; exact hh) (by rw [show starEach [e] (E7 (P1 P w) P w K mg base N qual scope f cd A outer s₀ H₀ E).env = _ from he]; rfl)
    (nsf base I.mod.kin).2 (R7 I hg hm ⟨rfl, ?_⟩ hdb)
  have h2 := ha cpos pins s σ H _ I h
  rw [show starEach [e] (E7 (P1 P w) P w K mg base N qual scope f cd A outer s₀ H₀ E).env = _ from he] at h2 ⊢
  refine Calls.evalArgs_plain (wpAny_mono h2 (fun us s2 ⟨vs, H2, I2, r, hl, hE⟩ => ⟨rfl, by rw [<- r.length]; exact Nat.le_of_lt (j7 hl), I2.kIn _ _ lk, (nsf base I.mod.kin).1.keeps I2.bk, tb _ I2.kIn, fun h' ea hx => b1f I2 hx hE⟩) fun _ _ z => z)
end
def X0 (CX : CXT) (X : Cx) (EX : St -> XK) : Prop := ∀ (pins : List (Addr × Obj)) (σ : St) (H : Hp) (s : Shared) (e : Value) (s' : Shared), Inv X pins σ H s -> CX X.stack H s (EX σ) e s' -> X.xe e s'
section
variable {X : Cx} {CX : CXT} {k : Nat} {f : Addr} {fd : FuncData} {ps : List Str} {sp : Sp} {EX : St -> XK} {x : Str} {p pos : Pos} {e : Expr} {es : List Expr} {t : TA}
end
abbrev Cx.held (X : Cx) (ea : Addr) : Cx := { X with A := X.A.mark (some (.ref ea)), calm := false, xe := fun _ _ => False }
abbrev Cx.tried (X : Cx) (pn : List (Addr × Obj)) (E : Value -> Shared -> Prop) : Cx := { X with pn := pn, xe := E }
section
variable {X : Cx} {pins : List (Addr × Obj)} {σ : St} {H : Hp} {s : Shared} {ea : Addr}
theorem Cx.Ok.held (ok : X.Ok) : (X.held ea).Ok :=
  ⟨ok.mod, ok.kind, ok.glob, ok.blt, ok.above, ok.inj, ok.has, ok.cab, (fun z => Bool.noConfusion z), ok.frames, ok.stk, ok.exf, ok.bs, ok.bsz, ok.noex, ok.exfs, ok.funs, ok.frf⟩
theorem Inv.held (I : Inv X pins σ H s) (ea : Addr) : Inv (X.held ea) pins σ H s := ⟨I.ok.held, I.os, I.bare, I.base, I.loc, I.cell, I.free, I.freeC, I.pin, I.hok, I.len⟩
theorem Inv.unheld (ok : X.Ok) (I : Inv (X.held ea) pins σ H s) : Inv X pins σ H s := ⟨ok, I.os, I.bare, I.base, I.loc, I.cell, I.free, I.freeC, I.pin, I.hok, I.len⟩
theorem Cx.Ok.tried (ok : X.Ok) {pn : List (Addr × Obj)} {E : Value -> Shared -> Prop} : (X.tried pn E).Ok :=
  ⟨ok.mod, ok.kind, ok.glob, ok.blt, ok.above, ok.inj, ok.has, ok.cab, ok.hd, ok.frames, ok.stk, ok.exf, ok.bs, ok.bsz, ok.noex, ok.exfs, ok.funs, ok.frf⟩
theorem Inv.tried (I : Inv X pins σ H s) {E : Value -> Shared -> Prop} : Inv (X.tried (X.pn ++ pins) E) [] σ H s := ⟨I.ok.tried, I.os, I.bare, I.base, I.loc, I.cell, I.free, I.freeC, by rw [List.append_nil]; exact I.pin, I.hok, I.len⟩
theorem Inv.untried (ok : X.Ok) {E : Value -> Shared -> Prop} {pins' : List (Addr × Obj)} (I : Inv (X.tried (X.pn ++ pins) E) pins' σ H s) : Inv X pins σ H s :=
  ⟨ok, I.os, I.bare, I.base, I.loc, I.cell, I.free, I.freeC, fun p hp => I.pin p (List.mem_append_left _ hp), I.hok, I.len⟩
theorem S6 {M : Model} {A : Around} {E : Value -> Shared -> Prop} {i : Nat} {n : Str} {pos : Pos} {Q : Unit -> Shared -> Prop} (I : Inv X pins σ H s) (hN : X.N.Nodup) (hi : X.N[i]? = some n) (hk : X.env.scope.names.lookup n = some .local)
    (h : ∀ s', Inv X pins (σ.set i none) H s' -> Q () s') : wpAny M A (do bindName X.env n .none; unbindBehindTheSuite X.env n pos) Q E s := by
  obtain ⟨m, hn, hl⟩ := id I.loc
  have hcls : (X.env.scope.kind == .class || (X.env.scope.kind == .module && X.env.locals != X.env.globals)) = false := by rw [I.ok.kind]; rfl
  have hiσ : i < σ.length := by rw [I.len]; exact (List.getElem?_eq_some_iff.mp hi).1
  have cne := I.cne
  refine wpAny_nameGoes_keeps hk hn hcls fun h' v hn' hs => ?_
  obtain ⟨oL, _, _, hoL, _⟩ := id hn
  have far : ∀ b o, X.s₀.heap.get? b = some o -> b ≠ X.env.locals := fun b o e => Nat.ne_of_lt (Nat.lt_of_lt_of_le (Heap.lt_size e) I.ok.above)
  refine h _ ⟨I.ok, I.os, I.bare, ⟨fun b o e n hb hx => ?_, fun b o e n hb hx => ?_, I.base.free, fun b o e hx => ?_, I.base.tups, I.base.frzs, I.base.tbls⟩, ⟨_, hn', fun j y v' e1 e2 e3 => ?_⟩, fun y c e => ?_, I.free, I.freeC, fun p hp => ?_, fun b ob e => ?_, by simpa using I.len⟩
  . exact (hs.2 b (far b o e)).trans (I.base.keep b o e n hb hx)
  . obtain ⟨sl, e1⟩ := I.base.slot b o e n hb hx
    exact ⟨sl, (hs.2 b (far b o e)).trans e1⟩
  . obtain ⟨o', e1⟩ := I.base.there b o e hx
    exact ⟨o', (hs.2 b (far b o e)).trans e1⟩
  . by_cases hj : j = i
    . subst hj
      rw [List.getElem?_set_self hiσ] at e2
      cases e2
    . rw [List.getElem?_set_ne (Ne.symm hj)] at e2
      obtain ⟨u', r', q⟩ := hl j y v' e1 e2 e3
      refine ⟨u', r', ?_⟩
      rcases q with ⟨k, e⟩ | ⟨k, c, e, z⟩
      . refine .inl ⟨k, ?_⟩
        have : y ≠ n := fun e => hj (a1d hN e1 (e ▸ hi))
        simp [this, e]
      . exact .inr ⟨k, c, e, z.sameBut hs (cne y c e)⟩
  . obtain ⟨w', z⟩ := I.cell y c e
    exact ⟨w', z.sameBut hs (cne y c e)⟩
  . obtain ⟨e, n, ne, nf, d⟩ := I.pin p hp
    exact ⟨(hs.2 p.1 ne).trans e, n, ne, nf, d⟩
  . refine (I.hok b ob e).stay (fun c w' hc q => (hs.2 c ?_).trans q) (fun _ q => q) fun _ _ q => q
    rintro rfl
    rcases hc with z | hc
    . rw [<- z, I.free] at e; cases e
    . rw [I.free] at hc; cases hc
end
def Ends.less (D : Ends) (i : Nat) : Ends := { nx := fun σ H => D.nx (σ.set i none) H, rt := D.rt, bk := fun σ H => D.bk (σ.set i none) H, ct := fun σ H => D.ct (σ.set i none) H }
def b1X (K : W.Frag) (R : Addr) (tb : (St -> XK) -> TS) (i : Nat) (ts : TS) : TS := fun D σ H => ∃ EX : St -> XK, tb EX D σ H ∧
  ∀ σ' H' C ea d, EX σ' C d H' -> H' ea = none -> ∀ Da, C = .ref Da -> O1 K Da /\ W.mroIn K Da (.ref R) = some true /\ ts (D.less i) (σ'.set i (some (.ref ea))) (j9 H' ea (a5e ea Da))
section
variable {X : Cx} {x n : Str} {R : Addr} {i : Nat} {tb : (St -> XK) -> TS} {ts : TS} {body suite : List Stmt} {b₀ : Stmt} {np hpos pos : Pos}
theorem a9e (kR : O1 X.K R) (hN : X.N.Nodup) (hi : X.N[i]? = some n) (hk : X.env.scope.names.lookup n = some .local) (hst : X.stack = X.env :: X.outer) (hgl : Gl X x) (hm : X.mg x = some (.ref R))
    (hb : ∀ (EX : St -> XK) (pn : List (Addr × Obj)) (E : Value -> Shared -> Prop), X0 (P1 X.prog X.w) (X.tried pn E) EX -> PSs (X.tried pn E) body (tb EX))
    (hs : ∀ ea, PSs (X.held ea) (b₀ :: suite) ts) (hdb : (x == ("__debug__" : Str)) = false := by decide) :
    PS X (.Try body [.ExceptHandler (some (.Name x np)) (some n) (b₀ :: suite) hpos] [] [] pos) (b1X X.K R tb i ts) := by
  intro pins s σ H D I ⟨EX, hq, hh⟩
  refine wpAny_Try_except ?_
  have pass : X0 (P1 X.prog X.w) (X.tried (X.pn ++ pins) fun e s' => ∃ σ' H0 s0, Inv X pins σ' H0 s0 /\ P1 X.prog X.w X.stack H0 s0 (EX σ') e s') EX := fun pins' σ' H0 s0 e s' I0 q => ⟨σ', H0, s0, I0.untried I.ok, q⟩
  refine wpAny_mono (hb EX _ _ pass [] s σ H D I.tried hq) (fun f s1 q => ?_) fun e s1 ⟨σ', H0, s0, I0, cx⟩ => ?_
  . cases f with
    | next => obtain ⟨σ', H', J, q⟩ := q; exact wpAny_execs_nil ⟨σ', H', J.untried I.ok, q⟩
    | brk => obtain ⟨σ', H', J, q⟩ := q; exact ⟨σ', H', J.untried I.ok, q⟩
    | cont => obtain ⟨σ', H', J, q⟩ := q; exact ⟨σ', H', J.untried I.ok, q⟩
    | ret u => obtain ⟨v, σ', H', J, r, q⟩ := q; exact ⟨v, σ', H', J.untried I.ok, r, q⟩
  . obtain ⟨ea, t, Da, B, H', rfl, F, hE⟩ := cx
    have hfr : X.A.frames = some (X.env :: X.outer) := by rw [I.ok.frames, hst]
    have hf : X.env.frame = some X.env.locals := by
      rcases I.ok.stk with z | ⟨_, z⟩
      . rw [hst] at z
        have := congrArg List.length z
        simp at this
      . exact z
    have Ffly := F.fly
    rw [hst] at Ffly
    refine wpAny_looks_onW hfr hf Ffly fun h4 held4 up4 => wpAny_landsW held4 fun h5 fly5 up5 => ?_
    have F5 := F.slots (by rw [hst]; exact fly5) (up4.trans up5)
    refine wpAny_handleBy_cons (codeAny_handlers_test ?_) (by intro q; cases q)
    have I5 := (F5.inv I0).held ea
    refine R7 I5 hgl hm ?_ hdb
    obtain ⟨kD, hsub, hts⟩ := hh σ' H' _ ea none hE F.new.2 Da rfl
    obtain ⟨oe, he, hc⟩ := F5.at
    refine a5l I5.kIn he hc hsub kR ?_
    refine codeAny_handlers_suite_as ?_
    refine lands_againW fly5 fun h6 fly6 up6 => ?_
    have F6 := F5.slots (by rw [hst]; exact fly6) up6
    have I6 := (F6.track I0).held ea
    refine Q7 (X := X.held ea) (v := .ref ea) I6 hN hi (Or.inl hk) (rfl : RelV (.ref ea) (.ref ea)) (fun s7 I7 => ?_) (.inr hk)
    refine wpAny_mono (hs ea pins s7 _ _ (D.less i) I7 hts) (fun f s8 q => ?_) fun _ _ z => z.elim
    cases f with
    | next => obtain ⟨σ2, H2, J, q⟩ := q; exact S6 (J.unheld I.ok) hN hi hk fun s9 J9 => ⟨_, _, J9, q⟩
    | brk => obtain ⟨σ2, H2, J, q⟩ := q; exact S6 (J.unheld I.ok) hN hi hk fun s9 J9 => ⟨_, _, J9, q⟩
    | cont => obtain ⟨σ2, H2, J, q⟩ := q; exact S6 (J.unheld I.ok) hN hi hk fun s9 J9 => ⟨_, _, J9, q⟩
    | ret u => obtain ⟨v, σ2, H2, J, r, q⟩ := q; exact S6 (J.unheld I.ok) hN hi hk fun s9 J9 => ⟨v, _, _, J9, r, q⟩
end
end L2
namespace L2
open PySem PySem.Spec PyProof.Rows
structure a2r (k : Nat) (A : Around) : Prop where
  dp : A.depth + 3 * k + 5 < recursionLimit
  un : A.units + 16 * k + 200 < cLine
theorem Room.u {k : Nat} {A : Around} (r : Room k A) (e : Option Value) : a2r k (A.mark e) := ⟨r.dp, r.un⟩
structure FnU (P : Program) (w : World) (K : W.Frag) (mg : Str -> Option Value) (base : Heap) (k : Nat) (f : Addr) (fd : FuncData) (ps : List Str) (sp : Sp) : Prop where
  len : ∀ vs H Q E, sp vs H Q E -> vs.length = ps.length
  run : ∀ (A : Around) (outer : List Env) (s : Shared) (H : Hp) (args : Args) (us : List Value) (vs : List V) (Q : VK) (E : XK), a2r k A -> Env0 P w K mg base A outer s H -> BindsTo s fd args (ps.zip us) -> Vals vs us -> sp vs H Q E →
    codeAny (model P w) A (.call (.ref f) args) (CR D4 outer P w H s Q E) s
abbrev a2p (P : Program) (w : World) (K : W.Frag) (mg : Str -> Option Value) (base : Heap) (N : List Str) (qual : Str) (scope : Scope) (f : Addr) (cd : Value) (A : Around) (outer : List Env) (s : Shared) (H : Hp) : Cx :=
  { E7 D4 P w K mg base N qual scope f cd A outer s H E0 with calm := false, xe := fun _ _ => False }
theorem a3s {P : Program} {w : World} {K : W.Frag} {mg : Str -> Option Value} {base : Heap} {N ps : List Str} {qual : Str} {scope : Scope} {f : Addr} {cd : Value} {A : Around} {outer : List Env} {s s1 : Shared} {H : Hp} {us : List Value} {vs : List V}
    (S : i8 N ps scope) (e0 : Env0 P w K mg base A outer s H) (hl : vs.length = ps.length) (r : Vals vs us)
    (x : InCallC s s.heap.objs.size (bindL (envOfC qual scope s.heap.objs.size f cd).kindOf (ps.zip us) fun _ => none) (cellsFrom (s.heap.objs.size + 1) scope.names []) (bindC (envOfC qual scope s.heap.objs.size f cd).kindOf (ps.zip us) fun _ => none) s1) :
    Inv (a2p P w K mg base N qual scope f cd A outer s H) [] (E8 N vs) H s1 := by
  have e1 : Env0 P w K mg base ({ A with handled := none }) outer s H := ⟨e0.frames, e0.mod, e0.bs, e0.bsz, e0.funs, e0.frf, e0.hok, e0.bare⟩
  have I := a1C (CX := D4) (E := E0) (qual := qual) (f := f) (cd := cd) S (A := { A with handled := none }) rfl e1 hl r x
  have ok := I.ok
  exact ⟨⟨ok.mod, ok.kind, ok.glob, ok.blt, ok.above, ok.inj, ok.has, ok.cab, (fun z => Bool.noConfusion z), Around.frames_deeper e0.frames, .inr ⟨rfl, rfl⟩, ok.exf, ok.bs, ok.bsz, ok.noex, ok.exfs, ok.funs, ok.frf⟩, I.os, I.bare, I.base, I.loc, I.cell, I.free, I.freeC, I.pin, I.hok, I.len⟩
theorem a9x {P : Program} {w : World} {K : W.Frag} {mg : Str -> Option Value} {base : Heap} {k : Nat} {f : Addr} {name qual : Str} {params : Arguments} {body : List Stmt} {scope : Scope} {dV kV doc pm cdv ct oc : Value} {an od : Option Addr}
    {osl : Array (Option Value)} {N ps : List Str} {sp : Sp} (lk : K.lookup f = some ⟨oc, od, .func (W.fnOf name qual params body scope dV kV doc pm an cdv ct), osl⟩) (hcd : W.codeIn K cdv qual = true) (S : i8 N ps scope)
    (len : ∀ vs H Q E, sp vs H Q E -> vs.length = ps.length)
    (hbody : ∀ (A : Around) (outer : List Env) (s : Shared) (H : Hp) (vs : List V) (Q : VK) (E : XK), a2r k (A.deeper (envOfC qual scope s.heap.objs.size f cdv)) -> sp vs H Q E →
      ∃ t, PSs (a2p P w K mg base N qual scope f cdv A outer s H) body t /\ t { nx := fun _ H' => Q .non H', rt := Q } (E8 N vs) H) :
    FnU P w K mg base (k + 1) f (W.fnOf name qual params body scope dV kV doc pm an cdv ct) ps sp := by
  refine ⟨len, fun A outer s H args us vs Q E hr e0 hb r hsp => ?_⟩
  have hl := len _ _ _ _ hsp
  have KX : K.In s.heap := e0.mod.kin.keeps fun b o e => (e0.bs b o e).1
  have lim : s.heap.NoLimit := e0.mod.nolimit.keeps fun b o e => (e0.bs b o e).1
  have hkind : ∀ y ∈ ps.zip us, scope.names.lookup y.1 = some .local \/ (scope.names.lookup y.1 = some .cell /\ ((cellsFrom (s.heap.objs.size + 1) scope.names []).lookup y.1).isSome = true) := fun ⟨n, v⟩ hy => by
    rcases S.par n (List.of_mem_zip hy).1 with q | q
    . exact .inl q
    . exact .inr ⟨q, W.cellsFrom_some _ _ _ (.inl q)⟩
  refine codeAny_call_function (by have := hr.dp; omega) (KX _ _ lk) rfl S.co S.gen rfl (W.codeRec_of KX hcd) (hb _ _ _ _ ?_)
  refine wpAny_newFunctionEnv_cells S.kind hkind fun env he s1 x => ?_
  subst he
  refine ⟨lim.keeps x.toInCall.keep, codeAny_func ?_⟩
  obtain ⟨t, ht, hq⟩ := hbody A outer s H vs Q E ⟨by have := hr.dp; show A.depth + 1 + 3 * k + 5 < _; omega, by have := hr.un; show A.units + 3 + 16 * k + 200 < _; omega⟩ hsp
  have I : Inv (a2p P w K mg base N qual scope f cdv A outer s H) [] (E8 N vs) H s1 := a3s S e0 hl r x
  refine wpAny_mono (ht [] s1 (E8 N vs) H _ I hq) (fun fl s' hs => ?_) fun e s' hs => hs.elim
  have fin : ∀ {σ' : St} {H' : Hp} {v : V} {u : Value}, Inv (a2p P w K mg base N qual scope f cdv A outer s H) [] σ' H' s' -> RelV v u -> Q v H' -> CE outer P w H s Q u s' :=
    fun {σ' H' v u} J rv q => ⟨v, H', J.os, J.bare, J.base, J.hok, rv, q⟩
  cases fl with
  | ret u =>
    obtain ⟨v, σ', H', J, rv, q⟩ := hs
    exact fin J rv q
  | next =>
    obtain ⟨σ', H', J, q⟩ := hs
    exact fin (v := V.non) (u := Value.none) J rfl q
  | brk =>
    obtain ⟨_, _, _, q⟩ := hs
    exact False.elim q
  | cont =>
    obtain ⟨_, _, _, q⟩ := hs
    exact False.elim q
section
variable {P : Program} {w : World} {K : W.Frag} {mg : Str -> Option Value} {base : Heap}
theorem Fun.okU {x qual : Str} {st : Stmt} {f : Addr} {fd : FuncData} {N ps : List Str} {k : Nat} {sp : Sp} (F : Fun K x qual st f fd) (S : i8 N ps (d9 st)) (len : ∀ vs H Q E, sp vs H Q E -> vs.length = ps.length)
    (hbody : ∀ (cdv : Value) (A : Around) (outer : List Env) (s : Shared) (H : Hp) (vs : List V) (Q : VK) (E : XK), a2r k (A.deeper (envOfC qual (d9 st) s.heap.objs.size f cdv)) -> sp vs H Q E →
      ∃ t, PSs (a2p P w K mg base N qual (d9 st) f cdv A outer s H) (p7 st) t /\ t { nx := fun _ H' => Q .non H', rt := Q } (E8 N vs) H) : FnU P w K mg base (k + 1) f fd ps sp := by
  obtain ⟨oc, od, kV, doc, pm, an, cdv, ct, osl, rfl, lk, hcd⟩ := F.ex
  exact a9x lk hcd S len fun A outer s H vs Q E hr hsp => hbody cdv A outer s H vs Q E hr hsp
theorem Fun.ok1 {x qual : Str} {st : Stmt} {f : Addr} {fd : FuncData} {N ps : List Str} {k : Nat} {sp : Sp} (F : Fun K x qual st f fd) (S : i8 N ps (d9 st)) (len : ∀ vs H Q E, sp vs H Q E -> vs.length = ps.length)
    (hbody : ∀ (cdv : Value) (A : Around) (outer : List Env) (s : Shared) (H : Hp) (vs : List V) (Q : VK) (E : XK), Room k (A.deeper (envOfC qual (d9 st) s.heap.objs.size f cdv)) -> sp vs H Q E →
      ∃ t, PSs (E7 (P1 P w) P w K mg base N qual (d9 st) f cdv A outer s H E) (p7 st) t /\ t { nx := fun _ H' => Q .non H', rt := Q } (E8 N vs) H) : FnOk P w K mg base (P1 P w) (k + 1) f fd ps sp := by
  obtain ⟨oc, od, kV, doc, pm, an, cdv, ct, osl, rfl, lk, hcd⟩ := F.ex
  exact a6E lk hcd S len fun A outer s H vs Q E hr hsp => hbody cdv A outer s H vs Q E hr hsp
end
section
variable {X : Cx} {k : Nat} {f : Addr} {fd : FuncData} {ps : List Str} {sp : Sp} {x : Str} {p pos : Pos} {e : Expr} {es : List Expr} {t : TA}
theorem a5O (F : FnU X.prog X.w X.K X.mg X.base k f fd ps sp) (hr : a2r k X.A) (hg : Gl X x) (hm : X.mg x = some (.ref f)) (hk : W.keepIn X.K (.ref f) = true) (hb : Binds X.K fd ps [])
    (ha : PA X (e :: es) t) (hdb : (x == ("__debug__" : Str)) = false := by decide) (he : starEach (e :: es) X.env = (false, eval e X.env) :: starEach es X.env := by rfl) (hpl : (backTo pos (starEach es X.env)).any (·.1) = false := by rfl) :
    PE X (.Call (.Name x p) (e :: es) [] pos) (a8X sp [] E0 t) := by
  intro pins s σ H Q I h
  refine wpAny_Call_Name_kw (R7 I hg hm ?_ hdb)
  refine W.callWith_K (h₀ := X.base) I.ok.mod.kin hk (t8 (ha pos pins s σ H _ I h) fun us s1 ⟨vs, H1, I1, r, q⟩ => ⟨I1.kIn, ?_⟩) he hpl
  replace q : sp (vs ++ []) H1 Q E0 := q
  rw [List.append_nil] at q
  have hl : (us ++ []).length = ps.length := by rw [List.append_nil, <- r.length]; exact F.len _ _ _ _ q
  have hb' := hb s1 us I1.kIn hl
  rw [List.append_nil] at hb'
  refine wpAny_call (codeAny_mono (F.run X.A X.stack s1 H1 ⟨us, []⟩ us vs Q E0 hr I1.env0 hb' r q) fun rr s' hq => ?_)
  cases rr with
  | error e => exact False.elim hq
  | ok fl =>
    cases fl with
    | ret u => exact I1.after hq
    | next => exact False.elim hq
    | brk => exact False.elim hq
    | cont => exact False.elim hq
end
end L2
namespace L2
open PySem PySem.Spec PyProof.Rows
section
variable {prog : Program} {w : World} {A : Around} {E : Value -> Shared -> Prop} {s : Shared}
theorem a7X {j tp : Addr} {i : Nat} {vs : Array Value} {x : Value} {Q : Value -> Shared -> Prop} (q1 : IsTupIter s.heap j tp i) (q2 : IsTup s.heap tp vs) (q3 : vs[i]? = some x)
    (q : ∀ h', IsTupIter h' j tp (i + 1) -> Heap.SameBut j s.heap h' -> Q x { s with heap := h' }) : wpAny (model prog w) A (Builtin.SmallTypes.nextOf (.ref j)) Q E s := by
  obtain ⟨oj, g1, g2, g3⟩ := id q1
  obtain ⟨ot, g4, _, nt, g5⟩ := q2
  unfold Builtin.SmallTypes.nextOf
  refine wpAny_bind (wpAny_callSpecial?_slot (name := Str.ofString "__next__") q1.typeIs slot_tupleiter_next (wpAny_call_entry slot_tupleiter_next q1.typeIs entry_tupleiter_next ?_ (args_tupleiter_next _)))
  show wpAny _ _ (field (.ref j) 0 >>= _) _ _ s
  refine wpAny_bind (wpAny_field g1 g3 (x := .ref tp) rfl ?_)
  show wpAny _ _ (if (Value.ref tp == Value.none) = true then _ else _) _ _ s
  rw [if_neg (fun z => by cases z)]
  show wpAny _ _ (field (.ref j) 1 >>= _) _ _ s
  refine wpAny_bind (wpAny_field g1 g3 (x := .int i 0) rfl ?_)
  show wpAny _ _ (seqItems? (.ref tp) >>= _) _ _ s
  refine wpAny_bind (wpAny_seqItems g4 g5 ?_)
  simp only [Int.toNat_natCast, q3]
  refine wpAny_bind (wpAny_setField g1 g3 (by simp) (wpAny_pure ⟨x, rfl, wpAny_pure (q _ ?_ (Heap.SameBut.update ..))⟩))
  refine ⟨_, Heap.get?_update_self _ g1 (Obj.isFreed_of_fields (Obj.data_mapFields g3 _)), (Obj.cls_mapFields ..).trans g2, ?_⟩
  rw [Obj.data_mapFields g3]
  simp [rawInt]
theorem a9b {j tp : Addr} {i : Nat} {vs : Array Value} {Q : Value -> Shared -> Prop} (hh : A.handled = none) (q1 : IsTupIter s.heap j tp i) (q2 : IsTup s.heap tp vs) (q3 : vs[i]? = none)
    (q : ∀ h' e, Heap.ExtBut j s.heap h' -> (∃ o, h'.get? e = some o /\ o.cls = .type "StopIteration") -> E (.ref e) { s with heap := h' }) : wpAny (model prog w) A (Builtin.SmallTypes.nextOf (.ref j)) Q E s := by
  obtain ⟨oj, g1, g2, g3⟩ := id q1
  obtain ⟨ot, g4, _, nt, g5⟩ := q2
  unfold Builtin.SmallTypes.nextOf
  refine wpAny_bind (wpAny_callSpecial?_slot (name := Str.ofString "__next__") q1.typeIs slot_tupleiter_next (wpAny_call_entry slot_tupleiter_next q1.typeIs entry_tupleiter_next ?_ (args_tupleiter_next _)))
  show wpAny _ _ (field (.ref j) 0 >>= _) _ _ s
  refine wpAny_bind (wpAny_field g1 g3 (x := .ref tp) rfl ?_)
  show wpAny _ _ (if (Value.ref tp == Value.none) = true then _ else _) _ _ s
  rw [if_neg (fun z => by cases z)]
  show wpAny _ _ (field (.ref j) 1 >>= _) _ _ s
  refine wpAny_bind (wpAny_field g1 g3 (x := .int i 0) rfl ?_)
  show wpAny _ _ (seqItems? (.ref tp) >>= _) _ _ s
  refine wpAny_bind (wpAny_seqItems g4 g5 ?_)
  simp only [Int.toNat_natCast, q3]
  refine wpAny_bind (wpAny_rule (wpAny_bind (wpAny_setField g1 g3 (by simp) ?_)))
  show wpAny _ _ (do let e <- newExc (.type "StopIteration") []; _) _ _ _
  simp only [newExc, newTuple]
  refine wpAny_bind (wpAny_bind (wpAny_newObj_type (wpAny_bind (m := firstArgMember _ _) (wpAny_of_eq (a := Value.none) (by first | rfl | (simp only [firstArgMember]; rfl)) (wpAny_newObj_type ?_ (by size_fits)))) (by size_fits)))
  simp only [raiseNew]
  refine wpAny_bind (wpAny_handled ?_)
  rw [show A.in1.handled = none from hh]
  exact wpAny_bind (wpAny_pure (wpAny_throw (q _ _ (((Heap.SameBut.update ..).extBut.push _).push _) ⟨_, Heap.get?_push_size _ rfl, rfl⟩)))
theorem IsTupIter.at' {h h' : Heap} {a t : Addr} {i : Nat} (x : IsTupIter h a t i) (e : ∀ o, h.get? a = some o -> h'.get? a = some o) : IsTupIter h' a t i := let ⟨o, ho, r⟩ := x; ⟨o, e _ ho, r⟩
end
def IsB : Bool -> Heap -> Addr -> Array Value -> Prop
  | true, h, t, xs => h.IsList t xs
  | false, h, t, xs => IsTup h t xs
def ItB : Bool -> Heap -> Addr -> Addr -> Nat -> Prop
  | true, h, j, t, k => h.IsListIter j t k
  | false, h, j, t, k => IsTupIter h j t k
def SqB : Bool -> W.Frag -> Hp -> Addr -> List V -> Prop
  | true, K, H, a, xs => SqL K H a xs
  | false, K, H, a, xs => SqT K H a xs
def itN : Bool -> String
  | true => "list_iterator"
  | false => "tuple_iterator"
section
variable {b : Bool} {h h' : Heap} {j t c : Addr} {k : Nat} {xs : Array Value}
theorem ItB.at' (x : ItB b h j t k) (e : ∀ o, h.get? j = some o -> h'.get? j = some o) : ItB b h' j t k := by
  cases b
  . exact IsTupIter.at' x e
  . exact Heap.IsListIter.at x e
theorem ItB.extBut (x : ItB b h j t k) (hs : Heap.ExtBut c h h') (n : j ≠ c) : ItB b h' j t k := x.at' fun o e => hs j o n e
theorem IsB.at' (x : IsB b h t xs) (e : ∀ o, h.get? t = some o -> h'.get? t = some o) : IsB b h' t xs := by
  cases b
  . obtain ⟨o, ho, r⟩ := x; exact ⟨o, e o ho, r⟩
  . obtain ⟨o, ho, r⟩ := x; exact ⟨o, e o ho, r⟩
theorem IsB.extBut (x : IsB b h t xs) (hs : Heap.ExtBut c h h') (n : t ≠ c) : IsB b h' t xs := x.at' fun o e => hs t o n e
theorem IsB.push (x : IsB b h t xs) (o : Obj) : IsB b (h.push o) t xs := x.at' fun _ e => Heap.get?_push_of_some _ e
theorem IsB.lt (x : IsB b h t xs) : t < h.objs.size := by
  cases b
  . obtain ⟨o, ho, _⟩ := x; exact Heap.lt_size ho
  . obtain ⟨o, ho, _⟩ := x; exact Heap.lt_size ho
theorem ItB.mk (e : h.get? j = some { cls := .type (itN b), data := .fields #[.ref t, .int 0 0] }) : ItB b h j t 0 := by
  cases b
  . exact ⟨_, e, rfl, rfl⟩
  . exact ⟨_, e, rfl, rfl⟩
theorem ItB.obj (x : ItB b h j t k) : ∃ o, h.get? j = some o /\ ∃ vs, o.data = .fields vs := by
  cases b
  . obtain ⟨o, ho, _, d⟩ := x; exact ⟨o, ho, _, d⟩
  . obtain ⟨o, ho, _, d⟩ := x; exact ⟨o, ho, _, d⟩
theorem Same.sqB {K : W.Frag} {H H' : Hp} {a : Addr} {ys : List V} (e : Same H H') (x : SqB b K H a ys) : SqB b K H' a ys := by
  cases b
  . exact e.tseq x
  . exact e.seq x
theorem Inv.sqB {X : Cx} {pins : List (Addr × Obj)} {σ : St} {H : Hp} {s : Shared} {a : Addr} {ys : List V} (I : Inv X pins σ H s) (x : SqB b X.K H a ys) : ∃ its : List Value, Vals ys its /\ IsB b s.heap a its.toArray /\ ys.length <= sizeLine := by
  cases b
  . exact I.tuple x
  . obtain ⟨i, r, p, z⟩ := I.list x
    exact ⟨i, r, p.isList, z⟩
theorem Inv.sqB_inj {X : Cx} {pins : List (Addr × Obj)} {σ : St} {H : Hp} {s : Shared} {a : Addr} {ys zs : List V} (I : Inv X pins σ H s) (x : SqB b X.K H a ys) (y : SqB b X.K H a zs) : ys = zs := by
  cases b
  . exact I.tuple_inj x y
  . exact I.list_inj x y
end
section
variable {prog : Program} {w : World} {A : Around} {E : Value -> Shared -> Prop} {s : Shared}
theorem C8 {b : Bool} {j tp : Addr} {i : Nat} {vs : Array Value} {x : Value} {Q : Value -> Shared -> Prop} (q1 : ItB b s.heap j tp i) (q2 : IsB b s.heap tp vs) (q3 : vs[i]? = some x)
    (q : ∀ h', ItB b h' j tp (i + 1) -> Heap.SameBut j s.heap h' -> Q x { s with heap := h' }) : wpAny (model prog w) A (Builtin.SmallTypes.nextOf (.ref j)) Q E s := by
  cases b
  . exact a7X q1 q2 q3 q
  . exact wpAny_nextOf_list_item q1 q2 q3 q
theorem R5 {b : Bool} {j tp : Addr} {i : Nat} {vs : Array Value} {Q : Value -> Shared -> Prop} (hh : A.handled = none) (q1 : ItB b s.heap j tp i) (q2 : IsB b s.heap tp vs) (q3 : vs[i]? = none)
    (q : ∀ h' e, Heap.ExtBut j s.heap h' -> (∃ o, h'.get? e = some o /\ o.cls = .type "StopIteration") -> E (.ref e) { s with heap := h' }) : wpAny (model prog w) A (Builtin.SmallTypes.nextOf (.ref j)) Q E s := by
  cases b
  . exact a9b hh q1 q2 q3 q
  . exact wpAny_nextOf_list_end hh q1 q2 q3 q
theorem a8M {b : Bool} {t : Addr} {xs : Array Value} {Q : Value -> Shared -> Prop} (m : IsB b s.heap t xs) (h : Q (.ref s.heap.objs.size) { s with heap := s.heap.push { cls := .type (itN b), data := .fields #[.ref t, .int 0 0] } }) : wpAny (model prog w) A (pyIter (.ref t)) Q E s := by
  cases b
  . exact iter_tuple m h
  . exact wpAny_pyIter_list m h
theorem a8C {b1 b2 : Bool} {z ti to j1 j2 t1 t2 : Addr} {k1 k2 : Nat} {xs ys : Array Value} {x y a b : Value} {Q : Value -> Shared -> Prop} (D : ZipApart z ti to j1 j2 t1 t2)
    (q0 : IsZip s.heap z ti to .none) (p1 : IsPair s.heap ti (.ref j1) (.ref j2)) (p2 : IsPair s.heap to a b)
    (i1 : ItB b1 s.heap j1 t1 k1) (i2 : ItB b2 s.heap j2 t2 k2) (l1 : IsB b1 s.heap t1 xs) (l2 : IsB b2 s.heap t2 ys) (ex : xs[k1]? = some x) (ey : ys[k2]? = some y)
    (q : ∀ h', IsZip h' z ti to (rawInt s.heap.objs.size) -> IsPair h' to x y -> ItB b1 h' j1 t1 (k1 + 1) -> ItB b2 h' j2 t2 (k2 + 1) -> IsPair h' s.heap.objs.size x y →
      (∀ c o, c ≠ z -> c ≠ to -> c ≠ j1 -> c ≠ j2 -> s.heap.get? c = some o -> h'.get? c = some o) -> Q (.ref s.heap.objs.size) { s with heap := h' }) :
    wpAny (model prog w) A (Builtin.«zip.__next__» ⟨[.ref z], []⟩) (fun fin s' => ∃ v, fin = .done (.ret v) /\ Q v s') E s := by
  show wpAny _ _ (field (.ref z) 2 >>= _) _ _ _
  refine wpAny_bind (wpAny_field q0 rfl (x := .bool false) rfl (show wpAny _ _ (field (.ref z) 3 >>= _) _ _ _ from wpAny_bind (wpAny_field q0 rfl (x := .ref ti) rfl (wpAny_bind (wpAny_seqItems p1 rfl ?_)))))
  show wpAny _ _ (do let free <- Builtin.SmallTypes.ownedTupleIsFree (.ref z); _) _ _ _
  unfold Builtin.SmallTypes.ownedTupleIsFree
  refine wpAny_bind (wpAny_bind (wpAny_field q0 rfl (x := .none) rfl (wpAny_pure ?_)))
  simp only [if_true]
  refine wpAny_bind (wpAny_rule (wpAny_bind (wpAny_field q0 rfl (x := .ref to) rfl (wpAny_bind (wpAny_setField_rec q0 (by simp) fun u1 z1 s1 => ?_)))))
  have z1' : IsZip u1 z ti to .ellipsis := z1
  refine wpAny_bind ?_
  simp only [List.zipIdx_cons, List.zipIdx_nil, List.forIn_cons, List.forIn_nil]
  refine wpAny_bind (wpAny_bind (wpAny_onRaise (show wpAny _ _ (Builtin.SmallTypes.nextOf (.ref j1) >>= _) _ _ _ from wpAny_bind (C8 (i1.extBut s1.extBut D.i1z) (l1.extBut s1.extBut D.l1z) ex fun u2 j1' s2 => wpAny_pure ?_))))
  have to2 : IsPair u2 to a b := s2.extBut _ _ D.TOi1 (s1.extBut _ _ D.TOz p2)
  refine wpAny_bind (wpAny_seqItems to2 rfl (wpAny_bind (wpAny_updateSeq_pair to2 fun u3 to3 s3 => wpAny_bind (wpAny_letGo (wpAny_pure ?_)))))
  have to3' : IsPair u3 to x b := to3
  refine wpAny_bind (wpAny_bind (wpAny_onRaise (show wpAny _ _ (Builtin.SmallTypes.nextOf (.ref j2) >>= _) _ _ _ from wpAny_bind (C8 (((i2.extBut s1.extBut D.i2z).extBut s2.extBut D.i12.symm).extBut s3.extBut D.TOi2.symm)
    (((l2.extBut s1.extBut D.l2z).extBut s2.extBut D.l2i1).extBut s3.extBut D.l2TO) ey fun u4 j2' s4 => wpAny_pure ?_))))
  have to4 : IsPair u4 to x b := s4.extBut _ _ D.TOi2 to3'
  refine wpAny_bind (wpAny_seqItems to4 rfl (wpAny_bind (wpAny_updateSeq_pair to4 fun u5 to5 s5 => wpAny_bind (wpAny_letGo (wpAny_pure (wpAny_pure ?_))))))
  have to5' : IsPair u5 to x y := to5
  refine wpAny_bind (wpAny_seqItems to5' rfl (wpAny_bind (wpAny_newTuple ?_)))
  have sz : u5.objs.size = s.heap.objs.size := by rw [s5.1, s4.1, s3.1, s2.1, s1.1]
  have z5 : IsZip u5 z ti to .ellipsis := s5.extBut _ _ D.TOz.symm (s4.extBut _ _ D.i2z.symm (s3.extBut _ _ D.TOz.symm (s2.extBut _ _ D.i1z.symm z1')))
  have kp : ∀ c o, c ≠ z -> c ≠ to -> c ≠ j1 -> c ≠ j2 -> s.heap.get? c = some o -> u5.get? c = some o := fun c o n1 n2 n3 n4 e => s5.extBut _ _ n2 (s4.extBut _ _ n4 (s3.extBut _ _ n2 (s2.extBut _ _ n3 (s1.extBut _ _ n1 e))))
  have a1 : ItB b1 u5 j1 t1 (k1 + 1) := ((j1'.extBut s3.extBut D.TOi1.symm).extBut s4.extBut D.i12).extBut s5.extBut D.TOi1.symm
  have a2 : ItB b2 u5 j2 t2 (k2 + 1) := j2'.extBut s5.extBut D.TOi2.symm
  have zl : z < u5.objs.size := Heap.lt_size z5
  show wpAny _ _ (do let r <- Builtin.SmallTypes.ownedTupleHandOut (.ref z) (.ref u5.objs.size); _) _ _ _
  unfold Builtin.SmallTypes.ownedTupleHandOut
  have z6 : IsZip (u5.push { cls := .type "tuple", data := .seq #[x, y] }) z ti to .ellipsis := Heap.get?_push_of_some _ z5
  refine wpAny_bind (wpAny_bind (wpAny_setField_rec z6 (by simp) fun u7 z7 s7 => ?_))
  have z7' : IsZip u7 z ti to (rawInt u5.objs.size) := z7
  refine wpAny_setField_rec z7' (by simp) fun u8 z8 s8 => ?_
  have z8' : IsZip u8 z ti to (rawInt u5.objs.size) := z8
  have up : ∀ c o, c ≠ z -> u5.get? c = some o -> u8.get? c = some o := fun c o n1 e => s8.extBut _ _ n1 (s7.extBut _ _ n1 (Heap.get?_push_of_some _ e))
  have nt8 : IsPair u8 u5.objs.size x y := s8.extBut _ _ (Nat.ne_of_gt zl) (s7.extBut _ _ (Nat.ne_of_gt zl) (Heap.get?_push_size _ rfl))
  rw [sz] at z8' nt8
  refine wpAny_pure ⟨_, rfl, ?_⟩
  show Q (.ref u5.objs.size) _
  rw [sz]
  exact q u8 z8' (up _ _ D.TOz to5') (ItB.at' a1 fun o e => up _ o D.i1z e) (ItB.at' a2 fun o e => up _ o D.i2z e) nt8 fun c o n1 n2 n3 n4 e => up c o n1 (kp c o n1 n2 n3 n4 e)
theorem a9L {b1 b2 : Bool} {z ti to j1 j2 t1 t2 : Addr} {k1 k2 : Nat} {xs ys : Array Value} {a b : Value} {Q : PySem.Fin -> Shared -> Prop} (hh : A.handled = none) (D : ZipApart z ti to j1 j2 t1 t2)
    (q0 : IsZip s.heap z ti to .none) (p1 : IsPair s.heap ti (.ref j1) (.ref j2)) (p2 : IsPair s.heap to a b)
    (i1 : ItB b1 s.heap j1 t1 k1) (i2 : ItB b2 s.heap j2 t2 k2) (l1 : IsB b1 s.heap t1 xs) (l2 : IsB b2 s.heap t2 ys) (en : xs[k1]? = none \/ ys[k2]? = none)
    (q : ∀ h' e, (∀ c o, c ≠ z -> c ≠ to -> c ≠ j1 -> c ≠ j2 -> s.heap.get? c = some o -> h'.get? c = some o) -> (∃ o, h'.get? e = some o /\ o.cls = .type "StopIteration") -> E (.ref e) { s with heap := h' }) :
    wpAny (model prog w) A (Builtin.«zip.__next__» ⟨[.ref z], []⟩) Q E s := by
  show wpAny _ _ (field (.ref z) 2 >>= _) _ _ _
  refine wpAny_bind (wpAny_field q0 rfl (x := .bool false) rfl (show wpAny _ _ (field (.ref z) 3 >>= _) _ _ _ from wpAny_bind (wpAny_field q0 rfl (x := .ref ti) rfl (wpAny_bind (wpAny_seqItems p1 rfl ?_)))))
  show wpAny _ _ (do let free <- Builtin.SmallTypes.ownedTupleIsFree (.ref z); _) _ _ _
  unfold Builtin.SmallTypes.ownedTupleIsFree
  refine wpAny_bind (wpAny_bind (wpAny_field q0 rfl (x := .none) rfl (wpAny_pure ?_)))
  simp only [if_true]
  refine wpAny_bind (wpAny_rule (wpAny_bind (wpAny_field q0 rfl (x := .ref to) rfl (wpAny_bind (wpAny_setField_rec q0 (by simp) fun u1 z1 s1 => ?_)))))
  have z1' : IsZip u1 z ti to .ellipsis := z1
  refine wpAny_bind ?_
  simp only [List.zipIdx_cons, List.zipIdx_nil, List.forIn_cons, List.forIn_nil]
  cases ex : xs[k1]? with
  | none =>
    refine wpAny_bind (wpAny_bind (wpAny_onRaise (show wpAny _ _ (Builtin.SmallTypes.nextOf (.ref j1) >>= _) _ _ _ from wpAny_bind (R5 hh (i1.extBut s1.extBut D.i1z) (l1.extBut s1.extBut D.l1z) ex fun u2 e s2 ⟨oe, e1, e2⟩ => ?_))))
    have z2 : IsZip u2 z ti to .ellipsis := s2 _ _ D.i1z.symm z1'
    have ne : e ≠ z := fun c => by subst c; rw [z2] at e1; cases e1; simp at e2
    exact wpAny_setField_rec z2 (by simp) fun u3 _ s3 => q u3 e (fun c o n1 _ n3 _ m => s3.extBut _ _ n1 (s2 _ _ n3 (s1.extBut _ _ n1 m))) ⟨oe, s3.extBut _ _ ne e1, e2⟩
  | some x =>
    have ey : ys[k2]? = none := by
      rcases en with m | m
      . rw [ex] at m; cases m
      . exact m
    refine wpAny_bind (wpAny_bind (wpAny_onRaise (show wpAny _ _ (Builtin.SmallTypes.nextOf (.ref j1) >>= _) _ _ _ from wpAny_bind (C8 (i1.extBut s1.extBut D.i1z) (l1.extBut s1.extBut D.l1z) ex fun u2 j1' s2 => wpAny_pure ?_))))
    have to2 : IsPair u2 to a b := s2.extBut _ _ D.TOi1 (s1.extBut _ _ D.TOz p2)
    refine wpAny_bind (wpAny_seqItems to2 rfl (wpAny_bind (wpAny_updateSeq_pair to2 fun u3 to3 s3 => wpAny_bind (wpAny_letGo (wpAny_pure ?_)))))
    refine wpAny_bind (wpAny_bind (wpAny_onRaise (show wpAny _ _ (Builtin.SmallTypes.nextOf (.ref j2) >>= _) _ _ _ from wpAny_bind (R5 hh (((i2.extBut s1.extBut D.i2z).extBut s2.extBut D.i12.symm).extBut s3.extBut D.TOi2.symm)
      (((l2.extBut s1.extBut D.l2z).extBut s2.extBut D.l2i1).extBut s3.extBut D.l2TO) ey fun u4 e s4 ⟨oe, e1, e2⟩ => ?_))))
    have z4 : IsZip u4 z ti to .ellipsis := s4 _ _ D.i2z.symm (s3.extBut _ _ D.TOz.symm (s2.extBut _ _ D.i1z.symm z1'))
    have ne : e ≠ z := fun c => by subst c; rw [z4] at e1; cases e1; simp at e2
    exact wpAny_setField_rec z4 (by simp) fun u5 _ s5 => q u5 e (fun c o n1 n2 n3 n4 m => s5.extBut _ _ n1 (s4 _ _ n4 (s3.extBut _ _ n2 (s2.extBut _ _ n3 (s1.extBut _ _ n1 m))))) ⟨oe, s5.extBut _ _ ne e1, e2⟩
theorem a8g {b1 b2 : Bool} {z ti to j1 j2 t1 t2 : Addr} {k1 k2 : Nat} {xs ys : Array Value} {x y a b : Value} {Q : Option Value -> Shared -> Prop} (D : ZipApart z ti to j1 j2 t1 t2)
    (q0 : IsZip s.heap z ti to .none) (p1 : IsPair s.heap ti (.ref j1) (.ref j2)) (p2 : IsPair s.heap to a b)
    (i1 : ItB b1 s.heap j1 t1 k1) (i2 : ItB b2 s.heap j2 t2 k2) (l1 : IsB b1 s.heap t1 xs) (l2 : IsB b2 s.heap t2 ys) (ex : xs[k1]? = some x) (ey : ys[k2]? = some y)
    (q : ∀ h', IsZip h' z ti to (rawInt s.heap.objs.size) -> IsPair h' to x y -> ItB b1 h' j1 t1 (k1 + 1) -> ItB b2 h' j2 t2 (k2 + 1) -> IsPair h' s.heap.objs.size x y →
      (∀ c o, c ≠ z -> c ≠ to -> c ≠ j1 -> c ≠ j2 -> s.heap.get? c = some o -> h'.get? c = some o) -> Q (some (.ref s.heap.objs.size)) { s with heap := h' }) :
    wpAny (model prog w) A (pyNext (.ref z)) Q E s := by
  have ty : s.TypeIs (.ref z) "zip" := ⟨_, q0, rfl⟩
  unfold pyNext
  exact wpAny_bind (wpAny_attempt (wpAny_callSpecial?_slot (name := Str.ofString "__next__") ty F.slot_zip_next (wpAny_call_entry F.slot_zip_next ty F.entry_zip_next
    (a8C D q0 p1 p2 i1 i2 l1 l2 ex ey fun h' b1 b2 b3 b4 b5 b6 => wpAny_pure (q h' b1 b2 b3 b4 b5 b6)) (F.args_zip_next_1 _))))
theorem a8A {b1 b2 : Bool} {z ti to j1 j2 t1 t2 : Addr} {k1 k2 : Nat} {xs ys : Array Value} {a b : Value} {Q : Option Value -> Shared -> Prop} (hh : A.handled = none) (D : ZipApart z ti to j1 j2 t1 t2)
    (q0 : IsZip s.heap z ti to .none) (p1 : IsPair s.heap ti (.ref j1) (.ref j2)) (p2 : IsPair s.heap to a b)
    (i1 : ItB b1 s.heap j1 t1 k1) (i2 : ItB b2 s.heap j2 t2 k2) (l1 : IsB b1 s.heap t1 xs) (l2 : IsB b2 s.heap t2 ys) (en : xs[k1]? = none \/ ys[k2]? = none)
    (q : ∀ h', (∀ c o, c ≠ z -> c ≠ to -> c ≠ j1 -> c ≠ j2 -> s.heap.get? c = some o -> h'.get? c = some o) -> Q none { s with heap := h' }) : wpAny (model prog w) A (pyNext (.ref z)) Q E s := by
  have ty : s.TypeIs (.ref z) "zip" := ⟨_, q0, rfl⟩
  unfold pyNext
  refine wpAny_bind (wpAny_attempt (wpAny_callSpecial?_slot (name := Str.ofString "__next__") ty F.slot_zip_next (wpAny_call_entry F.slot_zip_next ty F.entry_zip_next
    (a9L hh D q0 p1 p2 i1 i2 l1 l2 en fun h' e kp ⟨o, e1, e2⟩ => wpAny_bind (wpAny_isInstance (T := "StopIteration") (b := true) ⟨o, e1, e2⟩ isSubtype_stop (wpAny_pure (q _ kp)))) (F.args_zip_next_1 _))))
end
abbrev zg1 (b1 : Bool) (h : Heap) (t1 : Addr) : Heap := h.push { cls := .type (itN b1), data := .fields #[.ref t1, .int 0 0] }
abbrev zg2 (b1 b2 : Bool) (h : Heap) (t1 t2 : Addr) : Heap := (zg1 b1 h t1).push { cls := .type (itN b2), data := .fields #[.ref t2, .int 0 0] }
abbrev zg3 (b1 b2 : Bool) (h : Heap) (t1 t2 : Addr) : Heap := (zg2 b1 b2 h t1 t2).push { cls := .type "tuple", data := .seq #[.ref h.objs.size, .ref (zg1 b1 h t1).objs.size] }
abbrev zg4 (b1 b2 : Bool) (h : Heap) (t1 t2 : Addr) : Heap := (zg3 b1 b2 h t1 t2).push { cls := .type "tuple", data := .seq #[.none, .none] }
abbrev zg5 (b1 b2 : Bool) (h : Heap) (t1 t2 : Addr) : Heap := (zg4 b1 b2 h t1 t2).push { cls := .type "zip", data := .fields #[.none, .bool false, .bool false, .ref (zg2 b1 b2 h t1 t2).objs.size, .ref (zg3 b1 b2 h t1 t2).objs.size] }
theorem a9F (b1 b2 : Bool) (t1 t2 : Addr) (xs ys : Array Value) :
    Meets (Builtin.«zip.__new__» ⟨[.type "zip", .ref t1, .ref t2], []⟩) (fun _ R s => IsB b1 s.heap t1 xs /\ IsB b2 s.heap t2 ys /\ R (.ok (.ret (.ref (zg4 b1 b2 s.heap t1 t2).objs.size))) { s with heap := zg5 b1 b2 s.heap t1 t2 }) :=
  .of_wp fun prog w A R s h => by
    obtain ⟨hp, g, d, tk, os⟩ := s
    obtain ⟨e1, e2, h⟩ := h
    have hsub := sub_zip
    have m1 : IsB b1 (Shared.heap ⟨hp, g, d, tk, os⟩) t1 xs := e1
    have m2 : IsB b2 (Shared.heap ⟨hp.push { cls := .type (itN b1), data := .fields #[.ref t1, .int 0 0] }, g, d, tk, os⟩) t2 ys := IsB.push e2 _
    wp_walk using a8M m1, a8M m2
    exact ⟨_, rfl, h⟩
section
variable {prog : Program} {w : World} {A : Around} {E : Value -> Shared -> Prop} {s : Shared}
theorem a4z {b1 b2 : Bool} {t1 t2 : Addr} {xs ys : Array Value} {Q : Value -> Shared -> Prop} (l1 : IsB b1 s.heap t1 xs) (l2 : IsB b2 s.heap t2 ys)
    (q : ∀ h', IsZip h' (s.heap.objs.size + 4) (s.heap.objs.size + 2) (s.heap.objs.size + 3) .none -> IsPair h' (s.heap.objs.size + 2) (.ref s.heap.objs.size) (.ref (s.heap.objs.size + 1)) -> IsPair h' (s.heap.objs.size + 3) .none .none →
      ItB b1 h' s.heap.objs.size t1 0 -> ItB b2 h' (s.heap.objs.size + 1) t2 0 -> (∀ c o, s.heap.get? c = some o -> h'.get? c = some o) -> Q (.ref (s.heap.objs.size + 4)) { s with heap := h' }) :
    wpAny (model prog w) A (call (.type "zip") [.ref t1, .ref t2]) Q E s := by
  refine callType_new F.called_zip (by decide) (F.typeCall_zip_2 _ _) (F.newCall_zip_2 _ _) (fun ob => F.args_object_init_3 ob _ _) F.entry_zip_new (a9F b1 b2 t1 t2 xs ys) ⟨l1, l2, ?_⟩
  have n1 : (zg1 b1 s.heap t1).objs.size = s.heap.objs.size + 1 := Heap.size_push ..
  have n2 : (zg2 b1 b2 s.heap t1 t2).objs.size = s.heap.objs.size + 2 := by rw [Heap.size_push, n1]
  have n3 : (zg3 b1 b2 s.heap t1 t2).objs.size = s.heap.objs.size + 3 := by rw [Heap.size_push, n2]
  have n4 : (zg4 b1 b2 s.heap t1 t2).objs.size = s.heap.objs.size + 4 := by rw [Heap.size_push, n3]
  have p5 : (zg5 b1 b2 s.heap t1 t2).get? (zg4 b1 b2 s.heap t1 t2).objs.size = some _ := Heap.get?_push_size _ rfl
  have p4 : (zg5 b1 b2 s.heap t1 t2).get? (zg3 b1 b2 s.heap t1 t2).objs.size = some _ := Heap.get?_push_of_some _ (Heap.get?_push_size _ rfl)
  have p3 : (zg5 b1 b2 s.heap t1 t2).get? (zg2 b1 b2 s.heap t1 t2).objs.size = some _ := Heap.get?_push_of_some _ (Heap.get?_push_of_some _ (Heap.get?_push_size _ rfl))
  have p2 : (zg5 b1 b2 s.heap t1 t2).get? (zg1 b1 s.heap t1).objs.size = some _ := Heap.get?_push_of_some _ (Heap.get?_push_of_some _ (Heap.get?_push_of_some _ (Heap.get?_push_size _ rfl)))
  have p1 : (zg5 b1 b2 s.heap t1 t2).get? s.heap.objs.size = some _ := Heap.get?_push_of_some _ (Heap.get?_push_of_some _ (Heap.get?_push_of_some _ (Heap.get?_push_of_some _ (Heap.get?_push_size _ rfl))))
  rw [n2, n3, n4] at p5
  rw [n1, n2] at p3
  rw [n3] at p4
  rw [n1] at p2
  show _ /\ _
  rw [n4]
  refine ⟨⟨_, p5, rfl⟩, q _ p5 p3 p4 (ItB.mk p1) (ItB.mk p2) fun c o m => ?_⟩
  exact Heap.get?_push_of_some _ (Heap.get?_push_of_some _ (Heap.get?_push_of_some _ (Heap.get?_push_of_some _ (Heap.get?_push_of_some _ m))))
end
def Itg (b1 b2 : Bool) (K : W.Frag) (l1 l2 : Addr) : It :=
  ⟨fun i H => ∃ xs ys x y, SqB b1 K H l1 xs /\ SqB b2 K H l2 ys /\ xs[i]? = some x /\ ys[i]? = some y,
   fun i H x H' => ∃ p a b, H p = none /\ x = .ref p /\ H' = j9 H p (.tup [a, b]) /\ ∀ xs ys, SqB b1 K H l1 xs -> SqB b2 K H l2 ys -> xs[i]? = some a /\ ys[i]? = some b,
   fun i H => ∃ xs ys, SqB b1 K H l1 xs /\ SqB b2 K H l2 ys /\ (xs.length <= i \/ ys.length <= i)⟩
theorem a8m {b1 b2 : Bool} {P : Program} {w : World} {K : W.Frag} {elts : List Expr} {x1 : Nat} {pos : Pos} {z ti to j1 j2 l1 l2 : Addr} (D : ZipApart z ti to j1 j2 l1 l2) :
    a3h P w K (.Tuple elts x1 pos) (Itg b1 b2 K l1 l2) [z, ti, to, j1, j2] z (fun i h => IsZip h z ti to .none /\ IsPair h ti (.ref j1) (.ref j2) /\ (∃ a b, IsPair h to a b) /\ ItB b1 h j1 l1 i /\ ItB b2 h j2 l2 i) where
  mem := by simp
  obj := fun i h st b hb => by
    obtain ⟨hz, hti, ⟨a, c, hto⟩, h1, h2⟩ := st
    obtain ⟨o1, e1, v1, d1⟩ := h1.obj
    obtain ⟨o2, e2, v2, d2⟩ := h2.obj
    simp only [List.mem_cons, List.not_mem_nil, or_false] at hb
    rcases hb with rfl | rfl | rfl | rfl | rfl
    . exact ⟨_, hz, fun v q => by cases q⟩
    . exact ⟨_, hti, fun v q => by cases q⟩
    . exact ⟨_, hto, fun v q => by cases q⟩
    . exact ⟨o1, e1, fun v q => by rw [d1] at q; cases q⟩
    . exact ⟨o2, e2, fun v q => by rw [d2] at q; cases q⟩
  keep := fun i h h' st k => by
    obtain ⟨hz, hti, ⟨a, c, hto⟩, h1, h2⟩ := st
    exact ⟨k z (by simp) _ hz, k ti (by simp) _ hti, ⟨a, c, k to (by simp) _ hto⟩, ItB.at' h1 fun o e => k j1 (by simp) o e, ItB.at' h2 fun o e => k j2 (by simp) o e⟩
  item := by
    intro X hP hw hK hc i pins s σ H E I hf st hg
    subst hP hw hK
    obtain ⟨xs, ys, x, y, hq1, hq2, hx, hy⟩ := hg
    obtain ⟨hz, hti, ⟨a, c, hto⟩, h1, h2⟩ := st
    obtain ⟨its1, rv1, p1, _⟩ := I.sqB hq1
    obtain ⟨its2, rv2, p2, _⟩ := I.sqB hq2
    obtain ⟨u1, hu1, ru1⟩ := rv1.get hx
    obtain ⟨u2, hu2, ru2⟩ := rv2.get hy
    refine a8g D hz hti hto h1 h2 p1 p2 (x := u1) (y := u2) (by simpa using hu1) (by simpa using hu2) fun h' a1 a2 a3 a4 a5 a7 => ?_
    refine ⟨_, rfl, wpAny_letOwnedTupleGo_zip (s := { s with heap := h' }) a1 fun h'' hz'' hs'' => ?_⟩
    have neT : ∀ b ∈ [z, ti, to, j1, j2], b ≠ s.heap.objs.size := fun b hb e => by
      have : ∃ o, s.heap.get? b = some o := by
        obtain ⟨o1, e1, _⟩ := h1.obj
        obtain ⟨o2, e2, _⟩ := h2.obj
        simp only [List.mem_cons, List.not_mem_nil, or_false] at hb
        rcases hb with rfl | rfl | rfl | rfl | rfl
        . exact ⟨_, hz⟩
        . exact ⟨_, hti⟩
        . exact ⟨_, hto⟩
        . exact ⟨_, e1⟩
        . exact ⟨_, e2⟩
      obtain ⟨o, ho⟩ := this
      exact absurd (Heap.lt_size ho) (by rw [e]; exact Nat.lt_irrefl _)
    have kk : ∀ b o, b ∉ [z, ti, to, j1, j2] -> s.heap.get? b = some o -> h''.get? b = some o := fun b o hb e => by
      simp only [List.mem_cons, List.not_mem_nil, or_false, not_or] at hb
      exact hs''.extBut b o hb.1 (a7 b o hb.1 hb.2.2.1 hb.2.2.2.1 hb.2.2.2.2 e)
    have tti : h'.get? ti = _ := a7 ti _ D.TIz D.TITO D.TIi1 D.TIi2 hti
    have st' : IsZip h'' z ti to .none /\ IsPair h'' ti (.ref j1) (.ref j2) /\ (∃ a b, IsPair h'' to a b) /\ ItB b1 h'' j1 l1 (i + 1) /\ ItB b2 h'' j2 l2 (i + 1) :=
      ⟨hz'', hs''.extBut _ _ D.TIz tti, ⟨_, _, hs''.extBut _ _ D.TOz a2⟩, a3.extBut hs''.extBut D.i1z, a4.extBut hs''.extBut D.i2z⟩
    have hoF : ∀ b ∈ [z, ti, to, j1, j2], ∃ o, h''.get? b = some o := fun b hb => by
      obtain ⟨q1, q2, ⟨_, _, q3⟩, q4, q5⟩ := st'
      obtain ⟨o1, e1, _⟩ := q4.obj
      obtain ⟨o2, e2, _⟩ := q5.obj
      simp only [List.mem_cons, List.not_mem_nil, or_false] at hb
      rcases hb with rfl | rfl | rfl | rfl | rfl
      . exact ⟨_, q1⟩
      . exact ⟨_, q2⟩
      . exact ⟨_, q3⟩
      . exact ⟨_, e1⟩
      . exact ⟨_, e2⟩
    have zs : z ≠ s.heap.objs.size := neT z (by simp)
    have tup : IsTup h'' s.heap.objs.size [u1, u2].toArray := ⟨_, hs''.extBut _ _ (Ne.symm zs) a5, rfl, 0, rfl⟩
    refine ⟨.ref s.heap.objs.size, j9 H s.heap.objs.size (.tup [x, y]), I.turnedLaid (h' := h'') hf kk hoF (Nat.le_refl _) (by show 2 <= sizeLine; decide) (.cons ru1 (.cons ru2 .nil)) tup, rfl, ⟨_, x, y, I.fresh, rfl, rfl, fun xs' ys' q1 q2 => ?_⟩, st', fun b hb => ?_⟩
    . rw [I.sqB_inj q1 hq1, I.sqB_inj q2 hq2]; exact ⟨hx, hy⟩
    . rw [c9 (neT b hb)]; exact (hf b hb).1
  done := by
    intro X hP hw hK hc i pins s σ H E I hf st hg
    subst hP hw hK
    obtain ⟨xs, ys, hq1, hq2, hend⟩ := hg
    obtain ⟨hz, hti, ⟨a, c, hto⟩, h1, h2⟩ := st
    obtain ⟨its1, rv1, p1, _⟩ := I.sqB hq1
    obtain ⟨its2, rv2, p2, _⟩ := I.sqB hq2
    have hl1 := rv1.length
    have hl2 := rv2.length
    refine a8A (I.ok.hd hc) D hz hti hto h1 h2 p1 p2 (by
      rcases hend with q | q
      . exact .inl (by simp; omega)
      . exact .inr (by simp; omega)) fun h' k => ⟨rfl, I.turnedAll hf fun b o hb e => ?_⟩
    simp only [List.mem_cons, List.not_mem_nil, or_false, not_or] at hb
    exact k b o hb.1 hb.2.2.1 hb.2.2.2.1 hb.2.2.2.2 e
  self := fun _ _ _ _ _ st h => wpAny_pyIter_zip st.1 h
def iZg (b1 b2 : Bool) (K : W.Frag) (ta : TA) : TI := fun σ H R => ta σ H fun vs H1 => ∃ l1 l2, vs = [.ref l1, .ref l2] /\ (∃ xs, SqB b1 K H1 l1 xs) /\ (∃ ys, SqB b2 K H1 l2 ys) /\ R (Itg b1 b2 K l1 l2) H1
theorem a9a (b1 b2 : Bool) (K : W.Frag) {X : Cx} {a b : Expr} {ta : TA} {p pos pos' : Pos} {elts : List Expr} {x1 : Nat} (hK : X.K = K) (hg : Gl X "zip") (hm : X.mg "zip" = none) (ha : PA X [a, b] ta) (hs : starEach [a, b] X.env = [(false, eval a X.env), (false, eval b X.env)] := by rfl) (hs2 : starEach [b] X.env = [(false, eval b X.env)] := by rfl) :
    PI X (.Tuple elts x1 pos') (.Call (.Name "zip" p) [a, b] [] pos) (iZg b1 b2 K ta) := by
  subst hK
  intro pins s σ H R I h
  refine Call_ (O3 I hg hm boot_zip (PyProof.Rows.callWith_type1 (t8 (ha pos pins s σ H _ I h) fun us s1 ⟨vs, H1, I1, r1, q1⟩ => ?_) (by rw [hs, hs2]) (by rw [hs2]; rfl)))
  obtain ⟨l1, l2, e, ⟨xs, q1⟩, ⟨ys, q2⟩, q⟩ := q1
  subst e
  obtain ⟨u1, u2, rfl, ru1, ru2⟩ := a1s r1
  cases ru1
  cases ru2
  obtain ⟨its1, rv1, p1, _⟩ := I1.sqB q1
  obtain ⟨its2, rv2, p2, _⟩ := I1.sqB q2
  refine a4z p1 p2 fun h' z1 z2 z3 z4 z5 k => ?_
  have I2 : Inv X pins σ H1 { s1 with heap := h' } := I1.kept (t' := s1.toks) k
  refine wpAny_pyIter_zip z1 ?_
  have D : ZipApart (s1.heap.objs.size + 4) (s1.heap.objs.size + 2) (s1.heap.objs.size + 3) s1.heap.objs.size (s1.heap.objs.size + 1) l1 l2 := a7e _ _ _ p1.lt p2.lt
  refine ⟨s1.heap.objs.size + 4, [s1.heap.objs.size + 4, s1.heap.objs.size + 2, s1.heap.objs.size + 3, s1.heap.objs.size, s1.heap.objs.size + 1], _, _, H1, rfl, I2, a8m D, ⟨z1, z2, ⟨_, _, z3⟩, z4, z5⟩, fun b hb => ?_, q⟩
  have hb' : s1.heap.objs.size <= b := by
    simp only [List.mem_cons, List.not_mem_nil, or_false] at hb
    rcases hb with rfl | rfl | rfl | rfl | rfl
    . exact Nat.le_add_right _ _
    . exact Nat.le_add_right _ _
    . exact Nat.le_add_right _ _
    . exact Nat.le_refl _
    . exact Nat.le_add_right _ _
  exact I1.fpOk hb' (I1.hok.fresh hb')
section
variable {b1 b2 : Bool} {xs ys : List V} {K : W.Frag} {l1 l2 : Addr} {fr : List Nat} {te : TE} {σ : St} {H1 : Hp} {p : Addr} {D : Hp -> Prop}
theorem a6P (h1 : SqB b1 K H1 l1 xs) (h2 : SqB b2 K H1 l2 ys) (hp : H1 p = none) (hz : xs.length < sizeLine) (R : Nat -> V -> Hp -> Prop) (hR : ∀ i y H H', R i y H -> (∀ b o, b ≠ p -> H b = some o -> H' b = some o) -> R i y H')
    (step : ∀ (i : Nat) x y H zs (N : VK), xs[i]? = some x -> ys[i]? = some y -> Same H1 H -> H p = some (.lst zs) -> (∀ v H3, Same H H3 -> R i v H3 -> N v H3) -> te (((blkσ 2 fr σ).set 0 (some x)).set 1 (some y)) H N)
    (hd : ∀ zs H, Same H1 H -> H p = some (.lst zs) -> zs.length = min xs.length ys.length -> (∀ i z, zs[i]? = some z -> R i z H) -> D H) : lcW 2 fr (a3I K 2 (Q6 (J3 0) (Q6 (J3 1) a4R))) te σ (Itg b1 b2 K l1 l2) H1 p D := by
  refine ⟨fun i m zs H => m = min xs.length ys.length - i /\ i <= min xs.length ys.length /\ Same H1 H /\ H p = some (.lst zs) /\ zs.length = i /\ ∀ j y, zs[j]? = some y -> R j y H, ⟨_, rfl, Nat.zero_le _, Same.new hp _, upd_same, rfl, fun j y e => by simp at e⟩, ?_⟩
  rintro i m zs H ⟨rfl, hi, e, hH, len, pr⟩
  by_cases hlt : i < min xs.length ys.length
  . have hx : i < xs.length := by omega
    have hy : i < ys.length := by omega
    refine .inr ⟨⟨xs, ys, xs[i], ys[i], e.sqB h1, e.sqB h2, List.getElem?_eq_getElem hx, List.getElem?_eq_getElem hy⟩, fun u H' y => ?_⟩
    obtain ⟨q, a, b, hq, rfl, rfl, hab⟩ := y
    obtain ⟨ha, hb⟩ := hab xs ys (e.sqB h1) (e.sqB h2)
    have s1 := Same.new hq (.tup [a, b])
    refine ⟨q, _, rfl, SqT.of upd_same, rfl, _, _, rfl, _, _, rfl, rfl, ?_, ?_⟩
    . refine ⟨by simp, fun k w ek => ?_⟩
      have : ¬ k < 2 := fun hk => by
        unfold blkσ at ek
        rw [List.getElem?_append_left (by simpa using hk), List.getElem?_replicate] at ek
        split at ek <;> cases ek
      rw [List.getElem?_set_ne (by omega), List.getElem?_set_ne (by omega)]; exact ek
    . refine step i a b _ zs _ ha hb (e.trans s1) (s1 _ _ hH) fun v H3 s3 r3 => ⟨s3 _ _ (s1 _ _ hH), by omega, min xs.length ys.length - (i + 1), by omega, rfl, hlt, fun b' o q' => ?_, upd_same, by rw [List.length_append, len]; rfl, fun j y ey => ?_⟩
      . rw [c9 (d0 q' hp)]; exact s3 _ _ (s1 _ _ (e _ _ q'))
      . have up : ∀ b o, b ≠ p -> H3 b = some o -> j9 H3 p (.lst (zs ++ [v])) b = some o := fun b o hb q => by rw [c9 hb]; exact q
        by_cases hj : j < zs.length
        . rw [List.getElem?_append_left hj] at ey
          exact hR j y _ _ (pr j y ey) fun b o hb q => up b o hb (s3 _ _ (s1 _ _ q))
        . rw [List.getElem?_append_right (by omega)] at ey
          have hj' : j - zs.length = 0 := by
            cases q : j - zs.length with
            | zero => rfl
            | succ k => rw [q] at ey; simp at ey
          rw [hj'] at ey
          have : j = i := by omega
          subst this
          simp at ey
          subst ey
          exact hR j v _ _ r3 up
  . have : i = min xs.length ys.length := by omega
    subst this
    exact .inl ⟨⟨xs, ys, e.sqB h1, e.sqB h2, by omega⟩, hd zs H e hH len pr⟩
theorem b0G (h1 : SqB b1 K H1 l1 xs) (h2 : SqB b2 K H1 l2 ys) (hp : H1 p = none) (hz : xs.length < sizeLine) (F : V -> V -> V)
    (step : ∀ (i : Nat) x y H (N : VK), xs[i]? = some x -> ys[i]? = some y -> Same H1 H -> N (F x y) H -> te (((blkσ 2 fr σ).set 0 (some x)).set 1 (some y)) H N)
    (hd : ∀ H, Same H1 H -> H p = some (.lst (List.zipWith F xs ys)) -> D H) : lcW 2 fr (a3I K 2 (Q6 (J3 0) (Q6 (J3 1) a4R))) te σ (Itg b1 b2 K l1 l2) H1 p D := by
  refine a6P h1 h2 hp hz (fun i v _ => ∀ x y, xs[i]? = some x -> ys[i]? = some y -> v = F x y) (fun _ _ _ _ r _ => r) (fun i x y H zs N hx hy e _ hN => step i x y H N hx hy e (hN _ _ (Same.refl _) fun x' y' ex ey => ?_)) fun zs H e hH hl hr => hd H e ?_
  . rw [hx] at ex; rw [hy] at ey; cases ex; cases ey; rfl
  . rw [hH]
    congr 2
    refine List.ext_getElem? fun i => ?_
    by_cases hi : i < min xs.length ys.length
    . have a1 : i < zs.length := by omega
      have a2 : i < xs.length := by omega
      have a3 : i < ys.length := by omega
      rw [List.getElem?_eq_getElem a1, List.getElem?_eq_getElem (by rw [List.length_zipWith]; exact hi), List.getElem_zipWith, hr i _ (List.getElem?_eq_getElem a1) _ _ (List.getElem?_eq_getElem a2) (List.getElem?_eq_getElem a3)]
    . rw [List.getElem?_eq_none (by omega), List.getElem?_eq_none (by rw [List.length_zipWith]; omega)]
end
def Ite (K : W.Frag) (l : Addr) : It :=
  ⟨fun i H => ∃ xs x, SqL K H l xs /\ xs[i]? = some x,
   fun i H x H' => ∃ p a, H p = none /\ x = .ref p /\ H' = j9 H p (.tup [.int (i : Int), a]) /\ ∀ xs, SqL K H l xs -> xs[i]? = some a,
   fun i H => ∃ xs, SqL K H l xs /\ xs.length <= i⟩
theorem a4M {P : Program} {w : World} {K : W.Frag} {elts : List Expr} {x1 : Nat} {pos : Pos} {e it l : Addr} (hne : e ≠ it) (hle : l ≠ e) (hli : l ≠ it) :
    a3h P w K (.Tuple elts x1 pos) (Ite K l) [e, it] e (fun i h => (∃ old, IsEnum h e it (i : Int) old) /\ h.IsListIter it l i) where
  mem := by simp
  obj := fun i h st b hb => by
    obtain ⟨⟨old, he⟩, ⟨o1, e1, c1, d1⟩⟩ := st
    simp only [List.mem_cons, List.not_mem_nil, or_false] at hb
    rcases hb with rfl | rfl
    . exact ⟨_, he, fun v q => by cases q⟩
    . exact ⟨o1, e1, fun v q => by rw [d1] at q; cases q⟩
  keep := fun i h h' st k => by
    obtain ⟨⟨old, he⟩, h1⟩ := st
    exact ⟨⟨old, k e (by simp) _ he⟩, h1.at fun o q => k it (by simp) o q⟩
  item := by
    intro X hP hw hK hc i pins s σ H E I hf st hg
    subst hP hw hK
    obtain ⟨xs, x, hq, hx⟩ := hg
    obtain ⟨⟨old, he⟩, h1⟩ := st
    obtain ⟨its, rv, p, _⟩ := I.list hq
    obtain ⟨u, hu, ru⟩ := rv.get hx
    refine wpAny_pyNext_enum_item he h1 p.isList (x := u) (by simpa using hu) hne fun h' a1 a2 a3 a4 a5 => ?_
    refine ⟨_, rfl, wpAny_letOwnedTupleGo_enum (s := { s with heap := h', toks := s.toks + 1 }) a1 fun h'' he'' hs'' => ?_⟩
    have ie : s.heap.get? e = _ := he
    obtain ⟨o1, ei, _⟩ := id h1
    have neT : ∀ b ∈ [e, it], b ≠ s.heap.objs.size := fun b hb q => by
      have : ∃ o, s.heap.get? b = some o := by
        simp only [List.mem_cons, List.not_mem_nil, or_false] at hb
        rcases hb with rfl | rfl
        . exact ⟨_, ie⟩
        . exact ⟨_, ei⟩
      obtain ⟨o, ho⟩ := this
      exact absurd (Heap.lt_size ho) (by rw [q]; exact Nat.lt_irrefl _)
    have kk : ∀ b o, b ∉ [e, it] -> s.heap.get? b = some o -> h''.get? b = some o := fun b o hb q => by
      simp only [List.mem_cons, List.not_mem_nil, or_false, not_or] at hb
      exact hs''.extBut b o hb.1 (a5 b o hb.1 hb.2 q)
    have it'' : h''.IsListIter it l (i + 1) := a2.extBut hs''.extBut (Ne.symm hne)
    have hoF : ∀ b ∈ [e, it], ∃ o, h''.get? b = some o := fun b hb => by
      obtain ⟨o2, e2, _⟩ := it''
      simp only [List.mem_cons, List.not_mem_nil, or_false] at hb
      rcases hb with rfl | rfl
      . exact ⟨_, he''⟩
      . exact ⟨_, e2⟩
    have es : e ≠ s.heap.objs.size := neT e (by simp)
    have tup : IsTup h'' s.heap.objs.size [Value.int (i : Int) s.toks, u].toArray := ⟨_, hs''.extBut _ _ (Ne.symm es) a3, rfl, 0, rfl⟩
    refine ⟨.ref s.heap.objs.size, j9 H s.heap.objs.size (.tup [.int (i : Int), x]), (I.turnedLaid (h' := h'') hf kk hoF (Nat.le_refl _) (by show 2 <= sizeLine; decide) (show Vals [.int (i : Int), x] [Value.int (i : Int) s.toks, u] from .cons ⟨_, rfl⟩ (.cons ru .nil)) tup).tok _, rfl, ⟨_, x, I.fresh, rfl, rfl, fun xs' q1 => ?_⟩, ⟨⟨_, he''⟩, it''⟩, fun b hb => ?_⟩
    . rw [I.list_inj q1 hq]; exact hx
    . rw [c9 (neT b hb)]; exact (hf b hb).1
  done := by
    intro X hP hw hK hc i pins s σ H E I hf st hg
    subst hP hw hK
    obtain ⟨xs, hq, hend⟩ := hg
    obtain ⟨⟨old, he⟩, h1⟩ := st
    obtain ⟨its, rv, p, _⟩ := I.list hq
    have hl := rv.length
    refine wpAny_pyNext_enum_end (I.ok.hd hc) he h1 p.isList (by simp; omega) fun h' k => ⟨rfl, I.turnedAll hf fun b o hb q => ?_⟩
    simp only [List.mem_cons, List.not_mem_nil, or_false, not_or] at hb
    exact k b o hb.2 q
  self := fun _ _ _ _ _ st h => by
    obtain ⟨⟨old, he⟩, _⟩ := st
    exact wpAny_pyIter_enum he h
def b0M (K : W.Frag) (ta : TA) : TI := fun σ H R => ta σ H fun vs H1 => ∃ l, vs = [.ref l] /\ (∃ xs, SqL K H1 l xs) /\ R (Ite K l) H1
theorem a4s (K : W.Frag) {X : Cx} {a : Expr} {ta : TA} {p pos pos' : Pos} {elts : List Expr} {x1 : Nat} (hK : X.K = K) (hg : Gl X "enumerate") (hm : X.mg "enumerate" = none) (ha : PA X [a] ta) (hs : starEach [a] X.env = [(false, eval a X.env)] := by rfl) (hs2 : starEach ([] : List Expr) X.env = [] := by rfl) :
    PI X (.Tuple elts x1 pos') (.Call (.Name "enumerate" p) [a] [] pos) (b0M K ta) := by
  subst hK
  intro pins s σ H R I h
  refine Call_ (O3 I hg hm boot_enumerate (PyProof.Rows.callWith_type1 (t8 (ha pos pins s σ H _ I h) fun us s1 ⟨vs, H1, I1, r1, q1⟩ => ?_) (by rw [hs, hs2]) (by rw [hs2]; rfl)))
  obtain ⟨l, e, ⟨xs, q1⟩, q⟩ := q1
  subst e
  obtain ⟨u, rfl, ru⟩ := P7 r1
  cases ru
  obtain ⟨its, rv, p, _⟩ := I1.list q1
  have lt1 : l < s1.heap.objs.size := by obtain ⟨_, e, _⟩ := p.isList; exact Heap.lt_size e
  refine call_enumerate_list p.isList fun h' z1 z2 z3 k => ?_
  have I2 : Inv X pins σ H1 { s1 with heap := h' } := I1.kept (t' := s1.toks) k
  refine wpAny_pyIter_enum z1 ?_
  refine ⟨s1.heap.objs.size + 1, [s1.heap.objs.size + 1, s1.heap.objs.size], _, _, H1, rfl, I2, a4M (l := l) (e := s1.heap.objs.size + 1) (it := s1.heap.objs.size) (Nat.succ_ne_self _) (Nat.ne_of_lt (Nat.lt_succ_of_lt lt1)) (Nat.ne_of_lt lt1), ⟨⟨_, z1⟩, z2⟩, fun b hb => ?_, q⟩
  have hb' : s1.heap.objs.size <= b := by
    simp only [List.mem_cons, List.not_mem_nil, or_false] at hb
    rcases hb with rfl | rfl
    . exact Nat.le_succ _
    . exact Nat.le_refl _
  exact I1.fpOk hb' (I1.hok.fresh hb')
section
variable {xs ys : List V} {K : W.Frag} {l1 l2 : Addr} {fr : List Nat} {te : TE} {σ : St} {H1 : Hp} {p : Addr} {D : Hp -> Prop}
theorem a2k {i1 i2 : Nat} {tb : TS} {D : Ends} {H : Hp} (Pv : Nat -> St -> Hp -> Prop) (h0 : Pv 0 σ H) (hl : ∀ i σ H, Pv i σ H -> SqL K H l1 xs)
    (hs : ∀ i x σ H q, xs[i]? = some x -> Pv i σ H -> H q = none -> tb { D with nx := Pv (i + 1), ct := Pv (i + 1), bk := D.nx } ((σ.set i1 (some (.int (i : Int)))).set i2 (some x)) (j9 H q (.tup [.int (i : Int), x]))) (hd : ∀ σ H, Pv xs.length σ H -> D.nx σ H) :
    ∃ W : Nat -> Nat -> St -> Hp -> Prop, (∃ m, W 0 m σ H) /\ ∀ i m σ H, W i m σ H →
      ((Ite K l1).stop i H /\ D.nx σ H) \/ ((Ite K l1).go i H /\ ∃ N : St -> Hp -> Prop, (∀ σ' H', N σ' H' -> ∃ m', m' < m /\ W (i + 1) m' σ' H') /\ ∀ x H', (Ite K l1).yld i H x H' -> a3I K 2 (Q6 (J3 i1) (Q6 (J3 i2) a4R)) x σ H' fun σ2 H2 => tb { D with nx := N, ct := N, bk := D.nx } σ2 H2) := by
  refine ⟨fun i m σ H => m = xs.length - i /\ i <= xs.length /\ Pv i σ H, ⟨_, rfl, Nat.zero_le _, h0⟩, ?_⟩
  rintro i m σ H ⟨rfl, hi, p⟩
  have q1 := hl i σ H p
  by_cases hlt : i < xs.length
  . refine .inr ⟨⟨xs, xs[i], q1, List.getElem?_eq_getElem hlt⟩, Pv (i + 1), fun σ' H' p' => ⟨xs.length - (i + 1), by omega, rfl, hlt, p'⟩, fun u H' y => ?_⟩
    obtain ⟨q, a, hq, rfl, rfl, hab⟩ := y
    have ha := hab xs q1
    exact ⟨q, _, rfl, SqT.of upd_same, rfl, _, _, rfl, _, _, rfl, rfl, hs i a σ H q ha p hq⟩
  . have : i = xs.length := by omega
    subst this
    exact .inl ⟨⟨xs, q1, by omega⟩, hd σ H p⟩
end
end L2
namespace Fr
abbrev Q2 := Int × Int
def gI (a b : Int) : Int := (Int.gcd a b : Int)
def low (t b : Int) : Q2 := (t / gI t b, b / gI t b)
theorem Z4 (a b : Int) : 0 <= gI a b := Int.natCast_nonneg _
theorem R0 (a b : Int) : gI a b ∣ a := Int.gcd_dvd_left ..
theorem C7 (a b : Int) : gI a b ∣ b := Int.gcd_dvd_right ..
theorem a9V {a b : Int} (hb : 0 < b) : 0 < gI a b := by
  have h0 := Z4 a b
  by_cases z : gI a b = 0
  . have := C7 a b
    rw [z, Int.zero_dvd] at this
    omega
  . omega
theorem b0D {a b : Int} (hb : 0 < b) : gI a b <= b := Int.le_of_dvd hb (C7 a b)
theorem a7g {c a b : Int} (h1 : c ∣ a) (h2 : c ∣ b) : c ∣ gI a b := Int.dvd_coe_gcd h1 h2
theorem a4N {a b : Int} (ha : 0 <= a) (hb : 0 <= b) (h1 : a ∣ b) (h2 : b ∣ a) : a = b := Int.dvd_antisymm ha hb h1 h2
theorem a8a (a b : Int) : gI b (a % b) = gI a b := by
  refine a4N (Z4 _ _) (Z4 _ _) (a7g ?_ (R0 _ _)) (a7g (C7 _ _) ?_)
  . have h1 := R0 b (a % b)
    have h2 := C7 b (a % b)
    have := Int.dvd_add (Int.dvd_mul_of_dvd_left (c := a / b) h1) h2
    rw [Int.mul_ediv_add_emod] at this
    exact this
  . have h1 := R0 a b
    have h2 := C7 a b
    have := Int.dvd_sub h1 (Int.dvd_mul_of_dvd_left (c := a / b) h2)
    rw [Int.emod_def]
    exact this
theorem a7C (a : Int) : gI a 0 = a.natAbs := by unfold gI; rw [Int.gcd_zero_right]
end Fr
namespace L2
open PySem PySem.Spec PyProof.Rows
abbrev a3L (X : Cx) (qual : Str) (scope : Scope) (f : Addr) (cd : Value) (C : Addr) : Env := W.envX qual scope C f cd (clo X.env scope.names [])
def a4k (X : Cx) (col : Str) (fr : List Nat) (qual : Str) (scope : Scope) (f : Addr) (cd : Value) (A' : Around) (s₀ : Shared) (H₀ : Hp) : Cx :=
  { X with N := col :: fr.map (fun j => X.N.getD j ""), s₀ := s₀, H₀ := H₀, A := A'.deeper (a3L X qual scope f cd s₀.heap.objs.size), env := a3L X qual scope f cd s₀.heap.objs.size, outer := X.stack,
           stack := a3L X qual scope f cd s₀.heap.objs.size :: X.stack, ex := [], fn := fun _ => false, pn := [], xe := fun _ _ => False }
section
variable {X : Cx} {pins : List (Addr × Obj)} {σ : St} {H : Hp} {s : Shared} {fr : List Nat} {scope : Scope} {col : Str} {qual : Str} {f : Addr} {cd : Value} {A' : Around}
theorem R4 {env : Env} {l : List (Str × NameKind)} {x : Str} {c : Addr} (e : (clo env l []).lookup x = some c) : env.cells.lookup x = some c := V6 (cs := []) (fun _ _ z => by simp at z) e
theorem Inv.lam {h₁ : Heap} {t' : Nat} {v : V} {u : Value} (I : Inv X pins σ H s) (hA : A'.frames = some X.stack) (hh : A'.handled = X.A.handled) (hk : scope.kind = .function) (h : V4 X.env.scope scope X.N fr = true)
    (hcell : ∀ x ∈ scope.names, x.2 ≠ .cell) (hcol : scope.names.lookup col = some .local) (hns : h₁.Ns s.heap.objs.size fun x => [(col, u)].reverse.lookup x) (hkeep : ∀ b o, s.heap.get? b = some o -> h₁.get? b = some o) (r : RelV v u) :
    Inv (a4k X col fr qual scope f cd A' s H) [] (some v :: frv fr σ) H { s with heap := h₁, toks := t' } where
  ok := {
    mod := I.ok.mod
    kind := hk
    glob := rfl
    blt := rfl
    above := Nat.le_refl _
    inj := fun x y c e1 e2 => I.ok.inj x y c (R4 e1) (R4 e2)
    has := fun x hx => by
      have hx' : scope.names.lookup x = some .cell \/ scope.names.lookup x = some .free := hx
      rcases hx' with e | e
      . exact absurd rfl (hcell _ (B9 e))
      . exact S1 (O4 I h x (B9 e)) (B9 e)
    cab := fun x c hx => by cases (show false = true from hx)
    hd := fun z => by
      show A'.handled = none
      rw [hh]
      exact I.ok.hd z
    frames := Around.frames_deeper hA
    stk := .inr ⟨rfl, rfl⟩
    exf := fun b hb => by cases (show b ∈ ([] : List Addr) from hb)
    bs := I.bs
    bsz := Nat.le_trans I.ok.bsz I.sz
    noex := fun b o _ hb => by cases (show b ∈ ([] : List Addr) from hb)
    exfs := fun b hb => by cases (show b ∈ ([] : List Addr) from hb)
    funs := I.stack
    frf := I.stkFree }
  os := rfl
  bare := I.bare
  base := Un.kept hkeep
  loc := by
    refine ⟨_, hns, fun i x w e1 e2 _ => ?_⟩
    cases i with
    | zero =>
      have hx : col = x := Option.some.inj e1
      have hv : v = w := Option.some.inj (Option.some.inj e2)
      subst hx
      subst hv
      exact ⟨u, r, .inl ⟨hcol, by simp [List.lookup]⟩⟩
    | succ i =>
      have e1' : (fr.map fun j => X.N.getD j "")[i]? = some x := e1
      have e2' : (fr.map fun j => (σ[j]?).join)[i]? = some (some w) := e2
      rw [List.getElem?_map] at e1' e2'
      cases q : fr[i]? with
      | none => rw [q] at e1'; cases e1'
      | some j =>
        rw [q] at e1' e2'
        have hj : j ∈ fr := List.mem_of_getElem? q
        obtain ⟨hjl, hjc, hjf⟩ := a8P h j hj
        have ex : X.N.getD j "" = x := Option.some.inj e1'
        have ev : (σ[j]?).join = some w := Option.some.inj e2'
        have hN : X.N[j]? = some x := by
          rw [<- ex, List.getD_eq_getElem?_getD, List.getElem?_eq_getElem hjl]; rfl
        have hσ : σ[j]? = some (some w) := by
          cases r : σ[j]? with
          | none => rw [r] at ev; cases ev
          | some y => rw [r] at ev; exact congrArg some ev
        rw [ex] at hjc hjf
        obtain ⟨m, _, hl⟩ := I.loc
        obtain ⟨u', r', lk⟩ := hl j x w hN hσ (.inr (.inl hjc))
        refine ⟨u', r', ?_⟩
        have kc : Env.kindOf X.env x = some .cell := hjc
        rcases lk with ⟨k1, _⟩ | ⟨_, c, ec, o, ho', hd⟩
        . rw [kc] at k1; cases k1
        . obtain ⟨c', hc'⟩ := S1 (env := X.env) (cs := []) ⟨c, ec⟩ (B9 hjf)
          have e3 := R4 hc'
          rw [ec] at e3
          cases e3
          exact .inr ⟨.inr hjf, c, hc', o, hkeep _ _ ho', hd⟩
  cell := fun x c e => by
    obtain ⟨v, o, ho', hd⟩ := I.cell x c (R4 e)
    exact ⟨v, o, hkeep _ _ ho', hd⟩
  free := I.hok.fresh (Nat.le_refl _)
  freeC := fun x c e => I.freeC x c (R4 e)
  pin := fun p hp => by cases (show p ∈ ([] : List (Addr × Obj)) from hp)
  hok := I.hok.kept hkeep
  len := by simp [frv, a4k]
def Quiet (X : Cx) (H : Hp) (s s' : Shared) : Prop := ∀ b o, s.heap.get? b = some o -> H b = none -> b ≠ X.env.locals -> b ∉ X.fs -> s'.heap.get? b = some o
theorem a6e {params : Arguments} {body : Expr} {pm ctv : Value} {c' : Addr} {v k : V} {u : Value} {t : TE} {Q : Value -> Shared -> Prop} {E : Value -> Shared -> Prop} (I : Inv X pins σ H s) (hA : A'.frames = some X.stack) (hh : A'.handled = X.A.handled)
    (hroom : A'.depth < recursionLimit) (hk : scope.kind = .function) (h : V4 X.env.scope scope X.N fr = true)
    (hcell : ∀ x ∈ scope.names, x.2 ≠ .cell) (hcol : scope.names.lookup col = some .local) (hco : scope.isCoroutine = false) (hgen : scope.isGenerator = false)
    (hf : s.heap.get? f = some (W.kla_obj "<lambda>" qual params body scope (clo X.env scope.names []) pm c' ctv)) (hcd : s.heap.CodeRec (.ref c') qual)
    (hb : ∀ u : Value, bindArgs (W.kla_fn "<lambda>" qual params body scope (clo X.env scope.names []) pm (.ref c') ctv) ⟨[u], []⟩ = pure [(col, u)])
    (hbody : PE (a4k X col fr qual scope f (.ref c') A' s H) body t) (r : RelV v u) (ht : t (some v :: frv fr σ) H fun y H' => y = k /\ H' = H)
    (q : ∀ y s', RelV k y -> Inv X pins σ H s' -> Quiet X H s s' -> Q y s') : wpAny (model X.prog X.w) A' (call (.ref f) [u]) Q E s := by
  refine wpAny_call (W.kla_callFunE hroom hf rfl hco hgen rfl hcd ?_)
  rw [hb u]
  refine wpAny_pure (wpAny_newFunctionEnv hcell (fun y hy => ?_) (fun h₁ hns hsb => ?_) hk)
  . rw [List.mem_singleton.mp hy]; exact hcol
  . have hk₁ : ∀ b o, s.heap.get? b = some o -> h₁.get? b = some o := fun b o e => hsb.extBut b o (Nat.ne_of_lt (Heap.lt_size e)) (Heap.get?_push_of_some _ e)
    refine ⟨I.nolimit.keeps hk₁, W.kla_codeExpr ?_⟩
    have J := I.lam (qual := qual) (f := f) (cd := .ref c') (t' := s.toks + [(col, u)].length) hA hh hk h hcell hcol hns hk₁ r
    refine wpAny_mono (hbody [] _ _ _ _ J ht) (fun y s' hy => ?_) fun e s' z => False.elim z
    obtain ⟨w, H', J', rw', rfl, rfl⟩ := hy
    have J2 : Inv X pins σ H' s' := I.call' (ch := []) J'.os J'.base J'.hok J'.bare fun b hb => by cases hb
    refine q y s' rw' J2 fun b o e n n1 n2 => ?_
    refine J'.base.keep b o e n (fun z => ?_) (by intro z; cases z)
    rcases List.mem_cons.mp (I.stkSub b z) with w | w
    . exact n1 w
    . exact n2 w
end
end L2
namespace L2
open PySem PySem.Spec PyProof.Rows
def O6 (mg : Str -> Option Value) (base : Heap) : Prop := ∃ bm ob, mg "__builtins__" = some (.ref bm) /\ bm ≠ builtinsNs /\ base.get? bm = some ob /\ ob.cls = .type "module" /\ ob.dict = some builtinsNs /\ ob.data = .plain
abbrev a1m (c : Addr) (qual : Str) : HO := .ext fun h => h.CodeRec (.ref c) qual
def LamTab (P : Addr) (pos : Pos) (qual : Str) (H : Hp) : Prop :=
  H P = some (.tbl #[]) \/ ∃ c', H P = some (.tbl #[rawInt pos.line, rawInt pos.col, .ref c']) /\ H c' = some (a1m c' qual)
def Same1 (P : Addr) (H H' : Hp) : Prop := ∀ b o, b ≠ P -> H b = some o -> H' b = some o
theorem LamTab.same {P : Addr} {pos : Pos} {qual : Str} {H H' : Hp} (T : LamTab P pos qual H) (h : ∀ b o, H b = some o -> H' b = some o) : LamTab P pos qual H' := by
  rcases T with e | ⟨c, e1, e2⟩
  . exact .inl (h _ _ e)
  . exact .inr ⟨c, h _ _ e1, h _ _ e2⟩
section
variable {X : Cx} {pins : List (Addr × Obj)} {σ : St} {H : Hp} {s : Shared} {fr : List Nat} {scope : Scope} {qual : Str} {c P : Addr} {params : Arguments} {body : Expr} {pos : Pos}
theorem a6m {K : Program} {w : World} {H : Hp} {h : Heap} {c : Addr} {o : Obj} (e : h.get? c = some o) (r : h.CodeRec (.ref c) qual) : ObjOk K w H h c (a1m c qual) :=
  ⟨r, ⟨o, e⟩, fun h1 h2 ⟨c', o', vs, t, z, g, q⟩ k => by
    have z' : c = c' := Value.ref.inj z
    subst z'
    exact ⟨c, o', vs, t, rfl, k _ g, q⟩⟩
theorem Inv.grown {h' : Heap} {t' : Nat} {ps more : Array Value} {c' : Addr} (I : Inv X pins σ H s) (hP : H P = some (.tbl ps)) (hx : Heap.ExtBut P s.heap h') (hge : s.heap.objs.size <= c') (hcr : h'.CodeRec (.ref c') qual)
    (htb : h'.get? P = some { cls := .none, data := .fields (ps ++ more) }) : Inv X pins σ (j9 (j9 H P (.tbl (ps ++ more))) c' (a1m c' qual)) { s with heap := h', toks := t' } := by
  have hPl : P < s.heap.objs.size := I.hok.lt hP
  have hPc : P ≠ c' := Nat.ne_of_lt (Nat.lt_of_lt_of_le hPl hge)
  have hcn : H c' = none := I.hok.fresh hge
  have atP : j9 (j9 H P (.tbl (ps ++ more))) c' (a1m c' qual) P = some (.tbl (ps ++ more)) := by rw [c9 hPc, upd_same]
  have nP : ∀ b o, H b = some o -> (∀ qs, o ≠ .tbl qs) -> j9 (j9 H P (.tbl (ps ++ more))) c' (a1m c' qual) b = some o := fun b o e n => by
    rw [c9 (d0 e hcn), c9 (fun z => by subst z; rw [e] at hP; exact n _ (Option.some.inj hP))]
    exact e
  have neP : ∀ b, H b = none -> b ≠ P := fun b n z => by subst z; rw [hP] at n; cases n
  obtain ⟨cc, oc, vs, tt, z, gc, gr⟩ := id hcr
  have z' : c' = cc := Value.ref.inj z
  subst z'
  refine I.un ⟨fun b o e n _ _ => hx b o (neP b n) e, fun b o e n _ _ => ⟨o.slots, hx b o (neP b n) e⟩, fun b o e n _ => ?_, fun b o e _ => ?_, fun b xs e => nP b _ e (fun _ => nofun), fun b o u e => nP b _ e (fun _ => nofun), fun b qs e => ?_⟩ fun b u e => ?_
  . rw [c9 (Nat.ne_of_lt (Nat.lt_of_lt_of_le (Heap.lt_size e) hge)), c9 (neP b n)]; exact n
  . by_cases hb : b = P
    . subst hb; exact ⟨_, htb⟩
    . exact ⟨o, hx b o hb e⟩
  . by_cases hb : b = P
    . subst hb
      rw [e] at hP
      cases hP
      exact ⟨more, atP⟩
    . refine ⟨#[], ?_⟩
      rw [c9 (d0 e hcn), c9 hb, e]; simp
  . by_cases hb : b = c'
    . subst hb
      rw [upd_same] at e
      cases e
      exact a6m gc hcr
    . rw [c9 hb] at e
      by_cases hb2 : b = P
      . subst hb2
        rw [upd_same] at e
        cases e
        exact htb
      . rw [c9 hb2] at e
        refine (I.hok b u e).stay (fun d v hd g => hx d v (fun z => ?_) g) (fun d g => nP d _ g fun _ => nofun) fun d xs g => nP d _ g fun _ => nofun
        subst z
        rcases hd with w | w
        . exact hb2 w.symm
        . rw [hP] at w; cases w
theorem a7h {Q : Value -> Shared -> Prop} {E : Value -> Shared -> Prop} (I : Inv X pins σ H s) (hcode : X.env.code = .ref c) (C : W.CodeHd X.base c P) (B : O6 X.mg X.base) (T : LamTab P pos (X.env.qual ++ "<lambda>") H)
    (h : V4 X.env.scope scope X.N fr = true) (hdef : defaultsOf params X.env = ([], []))
    (q : ∀ f c' ctv pm H' s', Inv X ((f, W.kla_obj "<lambda>" (X.env.qual ++ "<lambda>") params body scope (clo X.env scope.names []) pm c' ctv) :: pins) σ H' s' -> LamTab P pos (X.env.qual ++ "<lambda>") H' -> Same1 P H H' →
      H' c' = some (a1m c' (X.env.qual ++ "<lambda>")) -> (∀ b, b < s.heap.objs.size -> H b = none -> H' b = none) -> Q (.ref f) s') :
    wpAny (model X.prog X.w) X.A (eval (.Lambda params body scope pos) X.env) Q E s := by
  have hcl := A2 (O4 I h)
  have hg : s.heap.Ns mainGlobals X.mg := I.mod.glob.keeps I.bk
  obtain ⟨bm, ob, b1, b2, b3, b4, b5, b6⟩ := B
  have Pg : ∀ ps, s.heap.get? P = some (W.tabObj ps) -> mainGlobals ≠ P := fun ps e z => by
    obtain ⟨o, es, ep, e1, hd, _⟩ := hg
    rw [z, e] at e1; cases e1; cases hd
  have Pb : ∀ ps, s.heap.get? P = some (W.tabObj ps) -> bm ≠ P := fun ps e z => by
    have e1 := I.bk _ _ b3
    rw [z, e] at e1; cases e1; cases b4
  have bg : bm ≠ mainGlobals := fun z => by
    obtain ⟨o, es, ep, e1, hd, _⟩ := I.mod.glob
    rw [z, e1] at b3; cases b3; rw [hd] at b6; cases b6
  refine W.kla_eval hdef ?_
  rcases T with T | ⟨c', T, Tc⟩
  . have hP : s.heap.get? P = some (W.tabObj #[]) := I.hok P _ T
    refine W.kla_makeFunction (mg := X.mg) hcl I.ok.glob hg hcode (C.keeps I.bk) hP trivial rfl (Pg _ hP) ⟨bm, ob, b1, b2, bg, Pb _ hP, I.bk _ _ b3, b4, b5, b6⟩ fun c' ctv h' tk hx hge hlt hrec htb => ?_
    have J := I.grown (t' := tk) (more := #[rawInt pos.line, rawInt pos.col, .ref c']) T hx hge hrec htb
    have hsz : s.heap.objs.size <= h'.objs.size := Nat.le_trans hge (Nat.le_of_lt hlt)
    have hPl : P < s.heap.objs.size := I.hok.lt T
    have J2 := J.kept (h' := h'.push (W.kla_obj "<lambda>" (X.env.qual ++ "<lambda>") params body scope (clo X.env scope.names []) ((X.mg "__name__").getD .none) c' ctv)) (t' := tk) fun b u e => Heap.get?_push_of_some _ e
    have hPc : P ≠ c' := Nat.ne_of_lt (Nat.lt_of_lt_of_le hPl hge)
    refine q _ c' ctv ((X.mg "__name__").getD .none) _ _ (J2.pins_of fun p hp => ?_) (.inr ⟨c', ?_, upd_same⟩) (fun b o hb e => ?_) upd_same fun b hb e => ?_
    . rcases List.mem_cons.mp hp with rfl | hp
      . refine ⟨Heap.get?_push_size _ rfl, J.hok.fresh (Nat.le_refl _), Nat.ne_of_gt (Nat.lt_of_lt_of_le I.lt hsz), I.nofs hsz, fun v => nofun⟩
      . exact J2.pin p (List.mem_append_right _ hp)
    . rw [c9 hPc, upd_same]; rfl
    . rw [c9 (d0 e (I.hok.fresh hge)), c9 hb]; exact e
    . rw [c9 (Nat.ne_of_lt (Nat.lt_of_lt_of_le hb hge)), c9 (fun z => by rw [z, T] at e; cases e)]; exact e
  . have hP : s.heap.get? P = some (W.tabObj #[rawInt pos.line, rawInt pos.col, .ref c']) := I.hok P _ T
    have hf : codeAmong pos (#[rawInt pos.line, rawInt pos.col, Value.ref c']).toList = some (.ref c') := by
      show codeAmong pos ([] ++ [rawInt pos.line, rawInt pos.col, Value.ref c']) = _
      exact codeAmong_snoc [] trivial rfl
    refine W.kla_makeFunctionHit (mg := X.mg) hcl I.ok.glob hg hcode (C.keeps I.bk) hP trivial hf ⟨bm, ob, b1, b2, bg, Pb _ hP, I.bk _ _ b3, b4, b5, b6⟩ fun ctv h' tk hk hsz => ?_
    have J := I.kept (h' := h') (t' := tk) hk
    have J2 := J.kept (h' := h'.push (W.kla_obj "<lambda>" (X.env.qual ++ "<lambda>") params body scope (clo X.env scope.names []) ((X.mg "__name__").getD .none) c' ctv)) (t' := tk) fun b u e => Heap.get?_push_of_some _ e
    refine q _ c' ctv ((X.mg "__name__").getD .none) _ _ (J2.pins_of fun p hp => ?_) (.inr ⟨c', T, Tc⟩) (fun b o hb e => e) Tc fun b hb e => e
    rcases List.mem_cons.mp hp with rfl | hp
    . exact ⟨Heap.get?_push_size _ rfl, J.hok.fresh (Nat.le_refl _), Nat.ne_of_gt (Nat.lt_of_lt_of_le I.lt hsz), I.nofs hsz, fun v => nofun⟩
    . exact J2.pin p (List.mem_append_right _ hp)
end
end L2
namespace L2
open PySem PySem.Spec PyProof.Rows
section
variable {X : Cx} {pins : List (Addr × Obj)} {σ : St} {H : Hp} {l It S fq : Addr} {ns : List Int} {g : Int -> Int} {R : Result -> Shared -> Prop}
theorem Quiet.fp {s s' : Shared} {b : Addr} {o : Obj} (k : Quiet X H s s') (f : N0 X pins H b) (e : s.heap.get? b = some o) : s'.heap.get? b = some o := k b o e f.1 f.2.1 f.2.2.1
theorem Inv.fpTurn {s : Shared} {h' : Heap} {t' : Nat} {b : Addr} (I : Inv X pins σ H s) (f : N0 X pins H b) (k : ∀ c o, c ≠ b -> s.heap.get? c = some o -> h'.get? c = some o) : Inv X pins σ H { s with heap := h', toks := t' } :=
  I.turned k f.1 f.2.1 f.2.2.2.1 f.2.2.2.2.1 f.2.2.2.2.2
def a9Z (ns : List Int) (g : Int -> Int) (j : Nat) (cont : List Value) : Prop :=
  (cont = [] /\ j = 0) \/ ∃ M vb kb, cont = [vb, kb] /\ M ∈ ns /\ RelV (.int M) vb /\ RelV (.int (g M)) kb /\ ∀ a ∈ ns.take j, g M <= g a
abbrev a7q (X : Cx) (pins : List (Addr × Obj)) (σ : St) (H : Hp) (fq : Addr) (ns : List Int) (g : Int -> Int) : Prop :=
  ∀ n ∈ ns, ∀ (u : Value) (s : Shared) (Q : Value -> Shared -> Prop) (E : Value -> Shared -> Prop), Inv X pins σ H s -> RelV (.int n) u →
    (∀ y s', RelV (.int (g n)) y -> Inv X pins σ H s' -> Quiet X H s s' -> Q y s') -> wpAny (model X.prog X.w) X.A.in1 (call (.ref fq) [u]) Q E s
theorem a8E (hc : X.calm = true) (hl : SqL X.K H l (ns.map V.int)) (turn : a7q X pins σ H fq ns g) (fI : N0 X pins H It) (fS : N0 X pins H S) (hIS : It ≠ S) (hIl : l ≠ It)
    (hN : ns = [] -> ∀ s', Inv X pins σ H s' -> R (.ok (.ret .none)) s') (hR : ∀ M ∈ ns, (∀ a ∈ ns, g M <= g a) -> ∀ y s', RelV (.int M) y -> Inv X pins σ H s' -> R (.ok (.ret y)) s') :
    ∀ (r j : Nat) (s : Shared) (cont : List Value) (cn : Nat), ns.length - j = r -> j <= ns.length -> Inv X pins σ H s -> s.heap.IsListIter It l j -> s.heap.get? S = some (seqObj "list" cont.toArray cn) -> a9Z ns g j cont →
      codeAny (model X.prog X.w) X.A (.builtin "min.loop" ⟨[.ref It, .ref fq, .ref S], [("default", .none)]⟩) R s := by
  have nm : (toString "min" ++ toString ".loop" : String) = "min.loop" := by decide
  have hh : ∀ {s : Shared}, Inv X pins σ H s -> X.A.in1.handled = none := fun I => I.ok.hd hc
  intro r
  induction r with
  | zero =>
    intro j s cont cn hr hj I hit hS hb
    have hjn : j = ns.length := by omega
    obtain ⟨its, rv, pl, hz⟩ := I.list hl
    have W := Walks.list (prog := X.prog) (w := X.w) (A := X.A.in1) (hh I) It l hIl its.toArray
    have hsz : its.toArray.size = ns.length := by rw [List.size_toArray, <- rv.length, List.length_map]
    refine codeAny_builtin F.entry_min_loop ?_; rw [Around.under_plainId F.plain_min_loop _]
    refine wpAny_bind (wpAny_seqItems hS rfl ?_)
    rcases hb with ⟨rfl, rfl⟩ | ⟨M, vb, kb, rfl, hM, rM, rK, best⟩
    . show wpAny _ X.A.in1 (tryCatch (pyNext (.ref It)) _ >>= _) _ _ _
      refine wpAny_bind (wpAny_tryCatch (W.done _ _ _ ⟨by rw [hsz, <- hjn]; exact hit, pl.isList⟩ fun h' tk' hk' => ?_))
      have J := I.fpTurn (h' := h') (t' := tk') fI fun c o n e => hk' c o (by simpa using n) e
      show wpAny _ X.A.in1 (rule _ >>= _) _ _ _
      exact wpAny_bind (wpAny_rule (wpAny_pure (hN (List.length_eq_zero_iff.mp hjn.symm) _ J)))
    . show wpAny _ X.A.in1 (tryCatch (pyNext (.ref It)) _ >>= _) _ _ _
      refine wpAny_bind (wpAny_tryCatch (W.done _ _ _ ⟨by rw [hsz, <- hjn]; exact hit, pl.isList⟩ fun h' tk' hk' => ?_))
      have J := I.fpTurn (h' := h') (t' := tk') fI fun c o n e => hk' c o (by simpa using n) e
      have hS' := hk' S _ (by simpa using hIS.symm) hS
      have s1 := Heap.SameBut.update h' S (Obj.mapSeq fun _ => (#[] : Array Value))
      show wpAny _ X.A.in1 (updateSeq S (fun _ => #[]) >>= _) _ _ _
      refine wpAny_bind (wpAny_updateSeq hS' rfl (wpAny_bind (wpAny_letGo (wpAny_pure ?_))))
      exact hR M hM (fun a ha => best a (by rw [hjn, List.take_length]; exact ha)) vb _ rM (J.fpTurn fS fun c o n e => (s1.2 c n).trans e)
  | succ r ih =>
    intro j s cont cn hr hj I hit hS hb
    have hlt : j < ns.length := by omega
    obtain ⟨its, rv, pl, hz⟩ := I.list hl
    have W := Walks.list (prog := X.prog) (w := X.w) (A := X.A.in1) (hh I) It l hIl its.toArray
    have hsz : its.toArray.size = ns.length := by rw [List.size_toArray, <- rv.length, List.length_map]
    refine codeAny_builtin F.entry_min_loop ?_; rw [Around.under_plainId F.plain_min_loop _]
    refine wpAny_bind (wpAny_seqItems hS rfl ?_)
    have go : ∀ (old : List Value) (kx : Value -> Sem (Option Value)) (B : Option Value -> Sem PySem.Fin) (Q : PySem.Fin -> Shared -> Prop) (E : Value -> Shared -> Prop),
        (∀ v h' tk', RelV (.int ns[j]) v -> Inv X pins σ H { s with heap := h', toks := tk' } -> h'.IsListIter It l (j + 1) -> h'.get? S = some (seqObj "list" cont.toArray cn) -> wpAny (model X.prog X.w) X.A.in1 (B (some v)) Q E { s with heap := h', toks := tk' }) →
        wpAny (model X.prog X.w) X.A.in1 (tryCatch (pyNext (.ref It)) kx >>= B) Q E s := by
      intro old kx B Q E hB
      refine wpAny_bind (wpAny_tryCatch (W.item j _ _ _ (by rw [hsz]; exact hlt) ⟨hit, pl.isList⟩ fun v h' tk' hP hst' hk' => ?_))
      have hv : (ns.map V.int)[j]? = some (V.int ns[j]) := by rw [List.getElem?_map, List.getElem?_eq_getElem hlt]; rfl
      obtain ⟨u, hu, ru⟩ := rv.get hv
      have hP' : its[j]? = some v := by simpa using hP
      rw [hu] at hP'
      cases hP'
      exact hB _ h' tk' ru (I.fpTurn fI fun c o n e => hk' c o (by simpa using n) e) hst'.1 (hk' S _ (by simpa using hIS.symm) hS)
    have hn : ns[j] ∈ ns := List.getElem_mem hlt
    have tk1 : ∀ a ∈ ns.take (j + 1), a ∈ ns.take j \/ a = ns[j] := fun a ha => by
      rw [List.take_succ_eq_append_getElem hlt] at ha
      rcases List.mem_append.mp ha with z | z
      . exact .inl z
      . exact .inr (List.mem_singleton.mp z)
    rcases hb with ⟨rfl, rfl⟩ | ⟨M, vb, kb, rfl, hM, rM, rK, best⟩
    . show wpAny _ X.A.in1 (tryCatch (pyNext (.ref It)) _ >>= _) _ _ _
      refine go [] _ _ _ _ fun v h' tk' rv' J hit' hS' => ?_
      show wpAny _ X.A.in1 (tryCatch (holding [v] (call (.ref fq) [v])) _ >>= _) _ _ _
      refine wpAny_bind (wpAny_tryCatch (wpAny_holding (turn _ hn v _ _ _ J rv' fun y s2 ry J2 qu => ?_)))
      have hS2 := qu.fp fS hS'
      obtain ⟨oI, hoI, hoc, hod⟩ := hit'
      have hI2 := qu.fp fI hoI
      have s1 := Heap.SameBut.update s2.heap S (Obj.mapSeq fun _ => #[v, y])
      obtain ⟨c2, hc2⟩ : ∃ c2, (s2.heap.update S (Obj.mapSeq fun _ => #[v, y])).get? S = some (seqObj "list" #[v, y] c2) := ⟨_, get?_update_seq hS2 fun _ => #[v, y]⟩
      show wpAny _ X.A.in1 (updateSeq S (fun _ => #[v, y]) >>= _) _ _ _
      refine wpAny_bind (wpAny_updateSeq hS2 rfl ?_)
      rw [nm]
      refine wpAny_pure ⟨plainId_quiet F.plain_min_loop _, ih (0 + 1) _ [v, y] c2 (by omega) hlt (J2.fpTurn fS fun c o n e => (s1.2 c n).trans e) ⟨oI, (s1.2 It hIS).trans hI2, hoc, hod⟩ hc2 (.inr ⟨ns[0], v, y, rfl, hn, rv', ry, fun a ha => ?_⟩)⟩
      rcases tk1 a ha with z | z
      . simp at z
      . rw [z]; exact Int.le_refl _
    . show wpAny _ X.A.in1 (tryCatch (pyNext (.ref It)) _ >>= _) _ _ _
      refine go [] _ _ _ _ fun v h' tk' rv' J hit' hS' => ?_
      show wpAny _ X.A.in1 (tryCatch (holding [v] (call (.ref fq) [v])) _ >>= _) _ _ _
      refine wpAny_bind (wpAny_tryCatch (wpAny_holding (turn _ hn v _ _ _ J rv' fun y s2 ry J2 qu => ?_)))
      have hS2 := qu.fp fS hS'
      obtain ⟨oI, hoI, hoc, hod⟩ := hit'
      have hI2 := qu.fp fI hoI
      obtain ⟨t2, rfl⟩ := ry
      obtain ⟨tb, rfl⟩ := rK
      show wpAny _ X.A.in1 (tryCatch (holding [v, .int (g ns[j]) t2] (richCompare .Lt (.int (g ns[j]) t2) (.int (g M) tb) >>= _)) _ >>= _) _ _ _
      refine wpAny_bind (wpAny_tryCatch (wpAny_holding (wpAny_bind (CmpOf.ints_lt (prog := X.prog) (w := X.w) (A := X.A.in1) (P := fun i v => ∃ t, v = .int ([g ns[j], g M].getD i 0) t) (fun i => [g ns[j], g M].getD i 0) (fun i v h => h) 0 1 _ _ _ _ _ ⟨t2, rfl⟩ ⟨tb, rfl⟩ ?_))))
      refine wpAny_bind (wpAny_holding (wpAny_truthy_bool (wpAny_bind (wpAny_letGo (wpAny_pure ?_)))))
      have e01 : (fun i j_1 => decide ([g ns[j], g M].getD i 0 < [g ns[j], g M].getD j_1 0)) 0 1 = decide (g ns[j] < g M) := rfl
      rw [e01]
      by_cases hb' : g ns[j] < g M
      . have s1 := Heap.SameBut.update s2.heap S (Obj.mapSeq fun _ => #[v, .int (g ns[j]) t2])
        obtain ⟨c2, hc2⟩ : ∃ c2, (s2.heap.update S (Obj.mapSeq fun _ => #[v, .int (g ns[j]) t2])).get? S = some (seqObj "list" #[v, .int (g ns[j]) t2] c2) := ⟨_, get?_update_seq hS2 fun _ => #[v, .int (g ns[j]) t2]⟩
        simp only [hb', decide_true, if_true]
        refine wpAny_bind (wpAny_updateSeq hS2 rfl (wpAny_bind (wpAny_letGo ?_)))
        rw [nm]
        refine wpAny_pure ⟨plainId_quiet F.plain_min_loop _, ih (j + 1) _ [v, .int (g ns[j]) t2] c2 (by omega) hlt (J2.fpTurn fS fun c o n e => (s1.2 c n).trans e) ⟨oI, (s1.2 It hIS).trans hI2, hoc, hod⟩ hc2 (.inr ⟨ns[j], v, _, rfl, hn, rv', ⟨t2, rfl⟩, fun a ha => ?_⟩)⟩
        rcases tk1 a ha with z | z
        . have := best a z; omega
        . rw [z]; exact Int.le_refl _
      . simp only [hb', decide_false, Bool.false_eq_true, if_false]
        refine wpAny_bind (wpAny_letGo ?_)
        rw [nm]
        refine wpAny_pure ⟨plainId_quiet F.plain_min_loop _, ih (j + 1) _ [vb, .int (g M) tb] cn (by omega) hlt J2 ⟨oI, hI2, hoc, hod⟩ hS2 (.inr ⟨M, vb, _, rfl, hM, rM, ⟨tb, rfl⟩, fun a ha => ?_⟩)⟩
        rcases tk1 a ha with z | z
        . exact best a z
        . rw [z]; omega
theorem a7K {s : Shared} {Q : Value -> Shared -> Prop} {E : Value -> Shared -> Prop} (hc : X.calm = true) (I : Inv X pins σ H s) (hl : SqL X.K H l (ns.map V.int)) (turn : a7q X pins σ H fq ns g)
    (hN : ns = [] -> ∀ s', Inv X pins σ H s' -> Q .none s') (hR : ∀ M ∈ ns, (∀ a ∈ ns, g M <= g a) -> ∀ y s', RelV (.int M) y -> Inv X pins σ H s' -> Q y s') :
    wpAny (model X.prog X.w) X.A (call (.builtin "min") [.ref l] [("key", .ref fq), ("default", .none)]) Q E s := by
  have nm : (toString "min" ++ toString ".loop" : String) = "min.loop" := by decide
  have ha : argsOk "min" ⟨[.ref l], [("key", .ref fq), ("default", .none)]⟩ := by unfold argsOk; rfl
  obtain ⟨its, rv, pl, hz⟩ := I.list hl
  have hlt : l < s.heap.objs.size := by obtain ⟨_, e, _⟩ := pl.isList; exact Heap.lt_size e
  refine kmk_tree F.kind_min F.plain_min F.entry_min ha ?_
  show wpAny _ X.A.in1 (Builtin.Builtins.bindParams "min" ["key", "default"] 0 ⟨[], [("key", .ref fq), ("default", .none)]⟩ >>= _) _ _ s
  refine wpAny_bind (wpAny_of_eq (show Builtin.Builtins.bindParams "min" ["key", "default"] 0 ⟨[], [("key", .ref fq), ("default", .none)]⟩ = pure [some (.ref fq), some .none] from rfl) (wpAny_bind (wpAny_pure ?_)))
  refine wpAny_bind (wpAny_pyIter_list pl.isList (wpAny_bind (wpAny_newList ?_ (Nat.zero_le _))))
  rw [nm]
  have I1 := I.kept (h' := s.heap.push { cls := .type "list_iterator", data := .fields #[.ref l, .int 0 0] }) (t' := s.toks) fun b u e => Heap.get?_push_of_some _ e
  have I2 := I1.kept (h' := (s.heap.push { cls := .type "list_iterator", data := .fields #[.ref l, .int 0 0] }).push (seqObj "list" #[] 0)) (t' := s.toks) fun b u e => Heap.get?_push_of_some _ e
  have hS : (s.heap.push { cls := .type "list_iterator", data := .fields #[.ref l, .int 0 0] }).objs.size = s.heap.objs.size + 1 := size_push' ..
  have fI : N0 X pins H s.heap.objs.size := I.fpOk (Nat.le_refl _) (I.hok.fresh (Nat.le_refl _))
  have fS : N0 X pins H (s.heap.push { cls := .type "list_iterator", data := .fields #[.ref l, .int 0 0] }).objs.size := I.fpOk (by rw [hS]; omega) (I.hok.fresh (by rw [hS]; omega))
  refine wpAny_pure ⟨plainId_quiet F.plain_min_loop _, a8E hc hl turn fI fS (Nat.ne_of_lt (by rw [hS]; exact Nat.lt_succ_self _)) (Nat.ne_of_lt hlt) hN hR _ 0 _ [] 0 rfl (Nat.zero_le _) I2 ⟨_, Heap.get?_push_of_some _ (Heap.get?_push_size _ rfl), rfl, rfl⟩ (Heap.get?_push_size _ rfl) (.inl ⟨rfl, rfl⟩)⟩
end
end L2
namespace L2
open PySem PySem.Spec PyProof.Rows
theorem SqL.same1 {K : W.Frag} {P : Addr} {pos : Pos} {qual : Str} {H H' : Hp} {a : Addr} {xs : List V} (T : LamTab P pos qual H) (e : Same1 P H H') (h : SqL K H a xs) : SqL K H' a xs := by
  have ne : ∀ o, H a = some o -> (∀ ps, o ≠ .tbl ps) -> a ≠ P := fun o q n z => by
    subst z
    rcases T with t | ⟨c, t, _⟩
    . rw [q] at t; exact n _ (Option.some.inj t)
    . rw [q] at t; exact n _ (Option.some.inj t)
  rcases h with (h | ⟨o, h⟩) | h
  . exact .inl (.inl (e _ _ (ne _ h fun _ => nofun) h))
  . exact .inl (.inr ⟨o, e _ _ (ne _ h fun _ => nofun) h⟩)
  . exact .inr h
def a8z (K : W.Frag) (P : Addr) (lpos : Pos) (qual : Str) (fr : List Nat) (t : TA) (tb : TE) : TE := fun σ H Q => t σ H fun vs H1 => ∃ (l : Addr) (ns : List Int) (g : Int -> Int), vs = [.ref l] /\ SqL K H1 l (ns.map V.int) /\ LamTab P lpos qual H1 ∧
  ∀ H2, Same1 P H1 H2 -> LamTab P lpos qual H2 -> (∀ n ∈ ns, tb (some (.int n) :: frv fr σ) H2 fun y H' => y = .int (g n) /\ H' = H2) /\ (ns = [] -> Q .non H2) /\ ∀ M ∈ ns, (∀ a ∈ ns, g M <= g a) -> Q (.int M) H2
section
variable {X : Cx} {e body : Expr} {es : List Expr} {t : TA} {tb : TE} {fr : List Nat} {scope : Scope} {col : Str} {c P : Addr} {params : Arguments} {p pos lpos kp1 kp2 cp : Pos} {cj : Nat}
theorem a4K (hc : X.calm = true) (hr : Room 2 X.A) (hg : Gl X "min") (hm : X.mg "min" = none) (hcode : X.env.code = .ref c) (C : W.CodeHd X.base c P) (B : O6 X.mg X.base) (hlc : V4 X.env.scope scope X.N fr = true) (hk : scope.kind = .function)
    (hcell : ∀ x ∈ scope.names, x.2 ≠ .cell) (hcol : scope.names.lookup col = some .local) (hco : scope.isCoroutine = false) (hgen : scope.isGenerator = false)
    (hb : ∀ (pm ctv : Value) (c' : Addr) (u : Value), bindArgs (W.kla_fn "<lambda>" (X.env.qual ++ "<lambda>") params body scope (clo X.env scope.names []) pm (.ref c') ctv) ⟨[u], []⟩ = pure [(col, u)])
    (ha : PA X [e] t) (hbody : ∀ (f : Addr) (cd : Value) (s : Shared) (H : Hp), PE (a4k X col fr (X.env.qual ++ "<lambda>") scope f cd X.A.in1 s H) body tb) (hdef : defaultsOf params X.env = ([], []) := by rfl)
    (he : backTo pos (starEach [e] X.env) = (false, eval e X.env) :: backTo pos (starEach [] X.env) := by rfl) (hpl : (backTo pos (starEach [e] X.env)).any (·.1) = false := by rfl) :
    PE X (.Call (.Name "min" p) [e] [⟨some "key", .Lambda params body scope lpos, kp1⟩, ⟨some "default", .Constant .none cj cp, kp2⟩] pos) (a8z X.K P lpos (X.env.qual ++ "<lambda>") fr t tb) := by
  intro pins s σ H Q I h
  refine wpAny_Call_Name_kw (O3 I hg hm (u := .builtin "min") rfl ?_)
  refine PyProof.Rows.callWith_kw (t8 (ha pos pins s σ H _ I h) fun us s1 ⟨vs, H1, I1, r, l, ns, g, ev, hl, T, q⟩ => ?_) he hpl
  subst ev
  obtain ⟨u, rfl, ru⟩ := P7 r
  cases ru
  show wpAny _ _ (evalAll [(do let v <- eval (.Lambda params body scope lpos) X.env; standAt pos; pure v), (do let v <- eval (.Constant .none cj cp) X.env; standAt pos; pure v)]) _ _ s1
  refine wpAny_evalAll_cons (wpAny_bind (a7h I1 hcode C B T hlc hdef fun f c' ctv pm H2 s2 I2 T2 e2 Hc' _ => wpAny_bind (wpAny_standAt (wpAny_pure ?_))))
  refine wpAny_evalAll_cons (wpAny_bind (Constant_none (wpAny_bind (wpAny_standAt (wpAny_pure (wpAny_evalAll_nil ?_))))))
  obtain ⟨q1, q2, q3⟩ := q H2 e2 T2
  have hl2 := hl.same1 T e2
  have drop : ∀ {po : Addr × Obj} {s'}, Inv X (po :: pins) σ H2 s' -> Inv X pins σ H2 s' := fun J => J.pins_of fun p hp => J.pin p (List.mem_append_right _ (List.mem_cons_of_mem _ hp))
  have hd' : X.A.in1.depth < recursionLimit := by
    have z : X.A.in1.depth + 3 * 1 + 5 < recursionLimit := hr.in1.dp
    omega
  refine a7K (g := g) hc I2 hl2 (fun n hn u s3 Q3 E3 I3 ru k3 => ?_) (fun en s3 I3 => ⟨.non, H2, drop I3, rfl, q2 en⟩) fun M hM hmin y s3 ry I3 => ⟨.int M, H2, drop I3, ry, q3 M hM hmin⟩
  obtain ⟨cr, _, _⟩ := I3.hok c' _ Hc'
  exact a6e (k := .int (g n)) I3 I3.ok.frames rfl hd' hk hlc hcell hcol hco hgen (I3.pin _ (List.mem_append_right _ List.mem_cons_self)).1 cr (hb pm ctv c') (hbody f (.ref c') s3 H2) ru (q1 n hn) k3
end
end L2
namespace L2
open PySem PySem.Spec PyProof.Rows
section
variable {X : Cx} {os : List Str} {fr : List Nat} {scope : Scope} {elt tg iter : Expr} {pos : Pos} {wi : TI} {g : TG} {te : TE}
theorem b0l {c : Expr} {tc : TT} {i : Nat} {x : Str} {pos' spos : Pos} (os : List Str) (fr : List Nat) (hN : X.N.Nodup) (hi' : X.N[i]? = some x) (hx : X.env.scope.names.lookup x = some .local)
    (hc : X.calm = true) (hi : PI X tg iter wi) (hg : ∀ C fp s₀ H₀, PG (blk X os fr scope C fp s₀ H₀) tg g) (ht : ∀ C fp s₀ H₀, PT (blk X os fr scope C fp s₀ H₀) c tc) (he : ∀ C fp s₀ H₀, PE (blk X os fr scope C fp s₀ H₀) elt te)
    (hsw : swapsWith (.ListComp elt [⟨tg, iter, [c], 0⟩] scope pos) (some (.Name x pos')) spos.line X.env = pure true := by rfl)
    (hk : scope.kind = .function := by rfl) (hok : V4 X.env.scope scope X.N fr = true := by rfl) (hs : ∀ x, foldedSetIterable iter X.env x = pure x := by intro _; rfl) :
    PS X (.Assign [.Name x pos'] (.ListComp elt [⟨tg, iter, [c], 0⟩] scope pos) spos) (a4L (b1p os.length fr wi g tc te) (J3 i)) := by
  intro pins s σ H D I h
  unfold a4L at h
  rw [exec_Assign_Name_used _ _ _ _ hsw]
  refine wpAny_bind (wpAny_standAt (wpAny_bind ?_))
  show wpAny _ X.A (do let _ <- comprehension (.ListComp elt [⟨tg, iter, [c], 0⟩] scope pos) scope X.env _ (newList []) false (eval iter X.env) (some (assign (.Name x pos') X.env))) _ _ s
  refine wpAny_bind (wpAny_mono (wpAny_comprehension_free (use := some (assign (.Name x pos') X.env)) (Q := fun _ s' => SP X pins D .next s') rfl hs (A2 (O4 I hok)) hk (fun x hx hl => by have := (J1 hok x hx).1; rw [hl] at this; exact this)
    (t8 (hi pins s σ H _ I h) fun v s1 h1 => t8 h1 fun itv s2 h2 => ?_)) (fun _ s' hq => wpAny_pure (wpAny_pure hq)) fun _ _ e => e)
  refine V8 (os := os) (D := fun p H' => D.nx (σ.set i (some (.ref p))) H') (RR := fun acc C => compPost (model X.prog X.w) X.A X.xe (some (assign (.Name x pos') X.env)) (fun _ s' => SP X pins D .next s') acc C) hc hg (fun _ _ _ _ => a2A (ht _ _ _ _)) he hk hok h2 ?_
  intro p C s3 H3 s' H' I3 eC hn I' ⟨m, hm⟩ q
  show wpAny _ X.A (assign (.Name x pos') X.env (.ref p)) _ _ _
  refine wpAny_assign_Name (Z2 (v := .ref p) I' hN hi' (.inl hx) rfl (fun s'' I'' ⟨a, hsa, ha⟩ => ?_) (.inr hx))
  have hCa : C ≠ a := by
    rcases ha with e | e
    . rw [e]; exact Nat.ne_of_gt (by rw [<- eC]; exact I3.lt)
    . obtain ⟨v, z⟩ := I3.cell x a e
      exact Nat.ne_of_gt (by rw [<- eC]; exact z.lt)
  exact ⟨m, hm.sameBut hsa hCa, fun h' hs' => ⟨_, H', I3.letgo I'' hn (by omega) hs', q⟩⟩
theorem a0p (K : W.Frag) {e : Expr} {f : Str} {ta : TE} (h : X.K = K) (he : PE X e ta) (hb : attributeBase e f X.env (eval e X.env) = eval e X.env) : PE X (.Attribute e f pos) (b1v K ta f) := by subst h; exact j3 he hb
end
section
variable {fr : List Nat} {tc : TT} {σ : St} {J : It} {H1 : Hp} {p : Addr} {D : Hp -> Prop} {xs : List V}
theorem a8c (hJ : a5m J H1 xs) (hp : H1 p = none) (hz : xs.length < sizeLine) (F : V -> Bool)
    (step : ∀ (i : Nat) x H (N : Bool -> Hp -> Prop), xs[i]? = some x -> Same H1 H -> N (F x) H -> tc ((blkσ 1 fr σ).set 0 (some x)) H N)
    (hd : D (j9 H1 p (.lst (xs.filter F)))) : lcI 1 fr (J3 0) tc (a3E 0) σ J H1 p D := by
  refine ⟨fun i m ys H => m = xs.length - i /\ i <= xs.length /\ ys = (xs.take i).filter F /\ H = j9 H1 p (.lst ys), ⟨xs.length, by simp, Nat.zero_le _, by simp, rfl⟩, ?_⟩
  rintro i m ys H ⟨rfl, hi, rfl, rfl⟩
  have e := Same.new (o := .lst ((xs.take i).filter F)) hp
  by_cases hlt : i < xs.length
  . refine .inr ⟨hJ.go i _ e hlt, fun x H' y => ?_⟩
    obtain ⟨rfl, hx⟩ := hJ.yld i _ x H' e hlt y
    have tk : (xs.take (i + 1)).filter F = (xs.take i).filter F ++ [x].filter F := by rw [List.take_succ, hx, List.filter_append]; rfl
    refine ⟨Wk.set (by decide), step i x _ _ hx e ?_⟩
    cases hq : F x with
    | false =>
      rw [if_neg Bool.false_ne_true]
      refine ⟨xs.length - (i + 1), by omega, rfl, hlt, ?_, rfl⟩
      rw [tk]; simp [hq]
    | true =>
      rw [if_pos rfl]
      refine ⟨x, ?_, upd_same, ?_, xs.length - (i + 1), by omega, rfl, hlt, ?_, K4⟩
      . show ((blkσ 1 fr σ).set 0 (some x))[0]? = some (some x)
        rw [List.getElem?_set_self (by simp [blkσ])]
      . have h1 := List.length_filter_le F (xs.take i)
        rw [List.length_take] at h1
        omega
      . rw [tk]; simp [hq]
  . have : i = xs.length := by omega
    subst this
    refine .inl ⟨hJ.stop _ e, ?_⟩
    rw [List.take_of_length_le (Nat.le_refl _)]; exact hd
end
section
variable {P : Program} {w : World} {K : W.Frag} {mg : Str -> Option Value} {base : Heap}
theorem Fun.okC {x qual : Str} {st : Stmt} {f c : Addr} {fd : FuncData} {N ps : List Str} {k : Nat} {sp : Sp} (F : Fun K x qual st f fd) (hc : fd.code = .ref c) (S : i8 N ps (d9 st)) (len : ∀ vs H Q E, sp vs H Q E -> vs.length = ps.length)
    (hbody : ∀ (A : Around) (outer : List Env) (s : Shared) (H : Hp) (vs : List V) (Q : VK) (E : XK), Room k (A.deeper (envOfC qual (d9 st) s.heap.objs.size f (.ref c))) -> sp vs H Q E →
      ∃ t, PSs (E7 D4 P w K mg base N qual (d9 st) f (.ref c) A outer s H E).nox (p7 st) t /\ t { nx := fun _ H' => Q .non H', rt := Q } (E8 N vs) H) : FnOk P w K mg base D4 (k + 1) f fd ps sp := by
  obtain ⟨oc, od, kV, doc, pm, an, cdv, ct, osl, rfl, lk, hcd⟩ := F.ex
  have e : cdv = .ref c := hc
  subst e
  refine a6E lk hcd S len fun A outer s H vs Q E hr hsp => ?_
  obtain ⟨t, h, q⟩ := hbody A outer s H vs Q E hr hsp
  exact ⟨t, h.nox, q⟩
end
end L2
namespace L2
open PySem
section
variable {xs ys : List V} {K : W.Frag} {l1 l2 : Addr} {fr : List Nat} {te : TE} {σ : St} {H1 : Hp} {p : Addr} {D : Hp -> Prop}
end
end L2
namespace L2
open PySem
theorem M4 {G0 : St -> Hp -> Prop} {σ : St} {H : Hp} (h : ∀ G : St -> Hp -> Prop, G = G0 -> G σ H) : G0 σ H := h G0 rfl
section
variable {X : Cx} {st : Stmt} {rest : List Stmt} {t u : TS}
def b2k (t u : TS) : TS := fun D σ H => ∃ M : St -> Hp -> Prop, t { D with nx := M } σ H /\ ∀ σ' H', M σ' H' -> u D σ' H'
theorem t0 (h1 : PS X st t) (h2 : PSs X rest u) : PSs X (st :: rest) (b2k t u) := by
  intro pins s σ H D I ⟨M, h, hM⟩
  refine wpAny_execs_cons (t8 (h1 pins s σ H { D with nx := M } I h) fun f s1 q => ?_)
  cases f with
  | next =>
    obtain ⟨σ', H', I', q⟩ := q
    exact h2 pins s1 σ' H' D I' (hM _ _ q)
  | ret v => exact q
  | brk => exact q
  | cont => exact q
end
end L2
namespace Rim
open PySem L2
theorem U3 (xs : List V) (k : Nat) (h : k <= xs.length) : J7 xs none (some (k : Int)) = xs.take k := by
  unfold J7
  rw [HT.sIx_none, HT.sIx_nat, List.drop_zero]
  congr 1
  omega
theorem Q8 (xs : List V) (k : Nat) (h : k <= xs.length) : J7 xs (some (k : Int)) none = xs.drop k := by
  unfold J7
  rw [HT.sIx_none, HT.sIx_nat, Nat.min_eq_left h]
  exact List.take_of_length_le (by rw [List.length_drop]; exact Nat.le_refl _)
end Rim
namespace L2
open PySem PySem.Spec PyProof.Rows
section
variable {X : Cx}
theorem a4H : G6 X (.type "range") (fun vs H Q => ∃ j : Int, vs = [.int j] /\ ∀ p, H p = none -> Q (.ref p) (j9 H p (.rng 0 j))) := by
  intro pins s σ H vs us Q I r h
  obtain ⟨j, rfl, q⟩ := h
  obtain ⟨u, rfl, t, rfl⟩ := P7 r
  refine call_range_1 ⟨.ref s.heap.objs.size, _, I.laid (o := .rng 0 j) (fun b u e => Heap.get?_push_of_some _ e) (Nat.le_refl _) ⟨_, _, _, Heap.get?_push_size _ rfl⟩, rfl, q _ (I.hok.fresh (Nat.le_refl _))⟩
theorem a5v : G6 X (.type "range") (fun vs H Q => ∃ i j : Int, vs = [.int i, .int j] /\ ∀ p, H p = none -> Q (.ref p) (j9 H p (.rng i j))) := by
  intro pins s σ H vs us Q I r h
  obtain ⟨i, j, rfl, q⟩ := h
  obtain ⟨u, v, rfl, ⟨t, rfl⟩, t', rfl⟩ := a1s r
  refine call_range_2 ⟨.ref s.heap.objs.size, _, I.laid (o := .rng i j) (fun b u e => Heap.get?_push_of_some _ e) (Nat.le_refl _) ⟨_, _, _, Heap.get?_push_size _ rfl⟩, rfl, q _ (I.hok.fresh (Nat.le_refl _))⟩
theorem a0E : ∀ (n : Nat) (acc : List Value) (F : Nat -> Int), acc.length = n -> (∀ j v, acc[j]? = some v -> ∃ t, v = Value.int (F j) t) -> Vals ((List.range n).map fun i => V.int (F i)) acc
  | 0, [], _, _, _ => .nil
  | n + 1, a :: acc, F, hl, h => by
    rw [List.range_succ_eq_map, List.map_cons, List.map_map]
    refine .cons (h 0 a rfl) ?_
    exact a0E n acc (fun i => F (i + 1)) (by simpa using hl) fun j v e => h (j + 1) v (by simpa using e)
theorem T1 (hc : X.calm = true) : G6 X (.type "list") (fun vs H Q => ∃ (p : Addr) (lo : Int) (n : Nat), vs = [.ref p] /\ H p = some (.rng lo (lo + n)) /\ -(2 ^ 60) <= lo /\ lo < 2 ^ 60 /\ n <= 1000 /\ ∀ l, H l = none -> Q (.ref l) (j9 H l (.lst ((List.range n).map fun (i : Nat) => V.int (lo + (i : Int)))))) := by
  intro pins s σ H vs us Q I r h
  obtain ⟨p, lo, n, rfl, hp, h1, h2, hn, q⟩ := h
  obtain ⟨u, rfl, ru⟩ := P7 r
  cases ru
  obtain ⟨t, u, v, e⟩ := I.hok p _ hp
  have hsz : Builtin.Range.rangeSize lo (lo + n) 1 = n := by rw [rangeSize_one]; split <;> omega
  refine call_list_range (I.ok.hd hc) e (small_one (by omega) (by omega) (by omega) (by omega)) hsz (by omega) fun h' tk acc' c' hk hS hacc => ?_
  have hv : Vals ((List.range n).map fun (i : Nat) => V.int (lo + (i : Int))) acc'.toList := a0E n acc'.toList (fun i => lo + (i : Int)) (by simpa using hacc.1) fun j v e => by
    obtain ⟨t, et⟩ := hacc.2 j v (by simpa using e)
    exact ⟨t, by rw [et, Int.mul_one]⟩
  have h9 : n <= sizeLine := Nat.le_trans hn (by decide)
  refine ⟨.ref s.heap.objs.size, _, I.laid (o := .lst ((List.range n).map fun (i : Nat) => V.int (lo + (i : Int)))) (t' := tk) hk (Nat.le_refl _) ⟨by simpa using h9, acc'.toList, c', hv, by simpa using hS⟩, rfl, q _ (I.hok.fresh (Nat.le_refl _))⟩
end
end L2
namespace Lp
abbrev w6 := Nat -> Int
def tl (v : w6) : w6 := fun i => v (i + 1)
def N1 (a : Int) (u : w6) (b : Int) (v : w6) : w6 := fun i => a * u i + b * v i
def D8 (D : List w6 -> Int) : List w6 -> List w6 -> Int
  | _, [] => 0
  | pre, c :: rest => c 0 * D ((pre ++ rest).map tl) - D8 D (pre ++ [c]) rest
def v5 : Nat -> List w6 -> Int
  | 0, _ => 1
  | n + 1, cols => D8 (v5 n) [] cols
def Lin (n : Nat) (D : List w6 -> Int) : Prop := ∀ (a : Int) (u : w6) (b : Int) (v : w6) (xs ys : List w6), xs.length + ys.length + 1 = n -> D (xs ++ N1 a u b v :: ys) = a * D (xs ++ u :: ys) + b * D (xs ++ v :: ys)
theorem a4b (a : Int) (u : w6) (b : Int) (v : w6) : tl (N1 a u b v) = N1 a (tl u) b (tl v) := rfl
theorem b1e (a b x y p q : Int) (c : Int) : c * (a * x + b * y) - (a * p + b * q) = a * (c * x - p) + b * (c * y - q) := by
  rw [Int.mul_add, Int.mul_sub, Int.mul_sub]
  have e1 : c * (a * x) = a * (c * x) := by rw [<- Int.mul_assoc, Int.mul_comm c a, Int.mul_assoc]
  have e2 : c * (b * y) = b * (c * y) := by rw [<- Int.mul_assoc, Int.mul_comm c b, Int.mul_assoc]
  rw [e1, e2]
  lia
theorem a3N {n : Nat} {D : List w6 -> Int} (h : Lin n D) (a : Int) (u : w6) (b : Int) (v : w6) : ∀ (rest p1 p2 : List w6), p1.length + p2.length + rest.length = n →
    D8 D (p1 ++ N1 a u b v :: p2) rest = a * D8 D (p1 ++ u :: p2) rest + b * D8 D (p1 ++ v :: p2) rest
  | [], p1, p2, _ => by simp [D8]
  | c :: rest, p1, p2, hl => by
    have hl' : p1.length + p2.length + (rest.length + 1) = n := hl
    have ih := a3N h a u b v rest p1 (p2 ++ [c]) (by rw [List.length_append, List.length_singleton]; lia)
    have h0 := h a (tl u) b (tl v) (p1.map tl) ((p2 ++ rest).map tl) (by rw [List.length_map, List.length_map, List.length_append]; lia)
    unfold D8
    simp only [List.append_assoc, List.cons_append, List.map_append, List.map_cons, a4b] at h0 ih ⊢
    rw [h0, ih]
    exact b1e ..
theorem b1R (a b x y p q D : Int) : (a * x + b * y) * D - (a * p + b * q) = a * (x * D - p) + b * (y * D - q) := by
  rw [Int.add_mul, Int.mul_sub, Int.mul_sub, Int.mul_assoc, Int.mul_assoc]
  lia
theorem a2l {n : Nat} {D : List w6 -> Int} (h : Lin n D) (a : Int) (u : w6) (b : Int) (v : w6) : ∀ (r1 pre r2 : List w6), pre.length + r1.length + r2.length = n →
    D8 D pre (r1 ++ N1 a u b v :: r2) = a * D8 D pre (r1 ++ u :: r2) + b * D8 D pre (r1 ++ v :: r2)
  | [], pre, r2, hl => by
    have hp := a3N h a u b v r2 pre [] (by simp only [List.length_nil] at hl ⊢; lia)
    simp only [List.nil_append]
    unfold D8
    rw [hp]
    exact b1R ..
  | c :: r1, pre, r2, hl => by
    have hl' : pre.length + (r1.length + 1) + r2.length = n := hl
    have ih := a2l h a u b v r1 (pre ++ [c]) r2 (by rw [List.length_append, List.length_singleton]; lia)
    have h0 := h a (tl u) b (tl v) ((pre ++ r1).map tl) (r2.map tl) (by rw [List.length_map, List.length_map, List.length_append]; lia)
    simp only [List.cons_append]
    unfold D8
    simp only [List.append_assoc, List.cons_append, List.map_append, List.map_cons, a4b] at h0 ih ⊢
    rw [h0, ih]
    exact b1e ..
theorem a2b : ∀ n, Lin n (v5 n)
  | 0 => fun a u b v xs ys h => by lia
  | n + 1 => fun a u b v xs ys h => a2l (a2b n) a u b v xs [] ys (by simp only [List.length_nil]; lia)
def Adj (n : Nat) (D : List w6 -> Int) : Prop := ∀ (u : w6) (xs ys : List w6), xs.length + ys.length + 2 = n -> D (xs ++ u :: u :: ys) = 0
theorem a4n {n : Nat} {D : List w6 -> Int} (h : Adj n D) (u : w6) : ∀ (rest p1 p2 : List w6), p1.length + p2.length + rest.length + 1 = n -> D8 D (p1 ++ u :: u :: p2) rest = 0
  | [], _, _, _ => rfl
  | c :: rest, p1, p2, hl => by
    have hl' : p1.length + p2.length + (rest.length + 1) + 1 = n := hl
    have ih := a4n h u rest p1 (p2 ++ [c]) (by rw [List.length_append, List.length_singleton]; lia)
    have h0 := h (tl u) (p1.map tl) ((p2 ++ rest).map tl) (by rw [List.length_map, List.length_map, List.length_append]; lia)
    unfold D8
    simp only [List.append_assoc, List.cons_append, List.map_append, List.map_cons] at h0 ih ⊢
    rw [h0, ih]
    lia
theorem a2w {n : Nat} {D : List w6 -> Int} (h : Adj n D) (u : w6) : ∀ (r1 pre r2 : List w6), pre.length + r1.length + r2.length + 1 = n -> D8 D pre (r1 ++ u :: u :: r2) = 0
  | [], pre, r2, hl => by
    have hp := a4n h u r2 pre [] (by simp only [List.length_nil] at hl ⊢; lia)
    simp only [List.nil_append]
    unfold D8
    unfold D8
    simp only [List.append_assoc, List.cons_append, List.nil_append] at hp ⊢
    rw [hp]
    lia
  | c :: r1, pre, r2, hl => by
    have hl' : pre.length + (r1.length + 1) + r2.length + 1 = n := hl
    have ih := a2w h u r1 (pre ++ [c]) r2 (by rw [List.length_append, List.length_singleton]; lia)
    have h0 := h (tl u) ((pre ++ r1).map tl) (r2.map tl) (by rw [List.length_map, List.length_map, List.length_append]; lia)
    simp only [List.cons_append]
    unfold D8
    simp only [List.append_assoc, List.cons_append, List.map_append, List.map_cons] at h0 ih ⊢
    rw [h0, ih]
    lia
theorem a2a : ∀ n, Adj n (v5 n)
  | 0 => fun u xs ys h => by lia
  | n + 1 => fun u xs ys h => a2w (a2a n) u xs [] ys (by simp only [List.length_nil]; lia)
def M1 (k : Nat) : w6 := fun i => if i = k then 1 else 0
theorem a5T {D : List w6 -> Int} : ∀ (rest pre : List w6), (∀ c ∈ rest, c 0 = 0) -> D8 D pre rest = 0
  | [], _, _ => rfl
  | c :: rest, pre, h => by
    unfold D8
    rw [h c List.mem_cons_self, a5T rest (pre ++ [c]) fun x hx => h x (List.mem_cons_of_mem _ hx)]
    lia
theorem X2 : ∀ n, v5 n ((List.range n).map M1) = 1
  | 0 => rfl
  | n + 1 => by
    show D8 (v5 n) [] ((List.range (n + 1)).map M1) = 1
    rw [List.range_succ_eq_map, List.map_cons, List.map_map]
    unfold D8
    rw [a5T _ _ (fun c hc => by
      obtain ⟨k, _, rfl⟩ := List.mem_map.mp hc
      rfl)]
    have e : ([] ++ (List.range n).map (M1 ∘ Nat.succ)).map tl = (List.range n).map M1 := by
      rw [List.nil_append, List.map_map]
      refine List.map_congr_left fun k _ => ?_
      funext i
      show (if i + 1 = k + 1 then (1 : Int) else 0) = if i = k then 1 else 0
      by_cases c : i = k
      . rw [if_pos (by lia), if_pos c]
      . rw [if_neg (by lia), if_neg c]
    rw [e, X2 n]
    rfl
def bnd (M : Nat) : Nat -> Nat
  | 0 => 1
  | n + 1 => (n + 1) * (M * bnd M n)
def Fits (M n : Nat) (v : w6) : Prop := ∀ i, i < n -> (v i).natAbs <= M
theorem a3R {D : List w6 -> Int} {M n B : Nat} (hD : ∀ cols, cols.length = n -> (∀ c ∈ cols, Fits M n c) -> (D cols).natAbs <= B) : ∀ (rest pre : List w6), pre.length + rest.length = n + 1 -> (∀ c ∈ pre, Fits M (n + 1) c) -> (∀ c ∈ rest, Fits M (n + 1) c) -> (D8 D pre rest).natAbs <= rest.length * (M * B)
  | [], _, _, _, _ => by simp [D8]
  | c :: rest, pre, hl, hp, hr => by
    have hl' : pre.length + (rest.length + 1) = n + 1 := hl
    have h1 := a3R hD rest (pre ++ [c]) (by rw [List.length_append, List.length_singleton]; lia) (fun x hx => (List.mem_append.mp hx).elim (hp x) fun z => by rw [List.mem_singleton.mp z]; exact hr c List.mem_cons_self) fun x hx => hr x (List.mem_cons_of_mem _ hx)
    have h2 := hD ((pre ++ rest).map tl) (by rw [List.length_map, List.length_append]; lia) fun x hx => by
      obtain ⟨y, hy, rfl⟩ := List.mem_map.mp hx
      intro i hi
      rcases List.mem_append.mp hy with z | z
      . exact hp y z (i + 1) (by lia)
      . exact hr y (List.mem_cons_of_mem _ z) (i + 1) (by lia)
    have h3 := hr c List.mem_cons_self 0 (by lia)
    unfold D8
    rw [List.length_cons, Nat.succ_mul]
    have h4 : (c 0 * D ((pre ++ rest).map tl)).natAbs <= M * B := by rw [Int.natAbs_mul]; exact Nat.mul_le_mul h3 h2
    have h5 := Int.natAbs_sub_le (c 0 * D ((pre ++ rest).map tl)) (D8 D (pre ++ [c]) rest)
    lia
theorem a1Z {M : Nat} : ∀ (n : Nat) (cols : List w6), cols.length = n -> (∀ c ∈ cols, Fits M n c) -> (v5 n cols).natAbs <= bnd M n
  | 0, _, _, _ => Nat.le_refl 1
  | n + 1, cols, hl, hf => by
    have := a3R (a1Z (M := M) n) cols [] (by simpa using hl) (fun c hc => by cases hc) hf
    rw [hl] at this
    exact this
end Lp
namespace Lp
theorem a2D {α : Type} {C : List α} {i : Nat} {u : α} (h : C[i]? = some u) : C = C.take i ++ u :: C.drop (i + 1) := by
  obtain ⟨hi, rfl⟩ := List.getElem?_eq_some_iff.mp h
  rw [<- List.drop_eq_getElem_cons hi, List.take_append_drop]
theorem a6x (n : Nat) (u v : w6) (xs ys : List w6) (hl : xs.length + ys.length + 2 = n) : v5 n (xs ++ u :: v :: ys) = - v5 n (xs ++ v :: u :: ys) := by
  have L := a2b n
  have A := a2a n
  have h0 := A (N1 1 u 1 v) xs ys hl
  have h1 := L 1 u 1 v xs (N1 1 u 1 v :: ys) (by simp only [List.length_cons]; lia)
  have h2 := L 1 u 1 v (xs ++ [u]) ys (by simp only [List.length_append, List.length_singleton]; lia)
  have h3 := L 1 u 1 v (xs ++ [v]) ys (by simp only [List.length_append, List.length_singleton]; lia)
  have h4 := A u xs ys hl
  have h5 := A v xs ys hl
  simp only [List.append_assoc, List.cons_append, List.nil_append] at h2 h3
  lia
theorem a4G (n : Nat) (u : w6) : ∀ (zs xs ys : List w6), xs.length + zs.length + ys.length + 2 = n -> v5 n (xs ++ u :: (zs ++ u :: ys)) = 0
  | [], xs, ys, hl => a2a n u xs ys (by simp only [List.length_nil] at hl; lia)
  | z :: zs, xs, ys, hl => by
    have hl' : xs.length + (zs.length + 1) + ys.length + 2 = n := hl
    rw [List.cons_append, a6x n u z xs (zs ++ u :: ys) (by simp only [List.length_append, List.length_cons]; lia)]
    have := a4G n u zs (xs ++ [z]) ys (by rw [List.length_append, List.length_singleton]; lia)
    simp only [List.append_assoc, List.cons_append, List.nil_append] at this
    lia
theorem a3Q {n : Nat} {C : List w6} {i k : Nat} {u : w6} (hl : C.length = n) (hik : i < k) (h1 : C[i]? = some u) (h2 : C[k]? = some u) : v5 n C = 0 := by
  have e1 := a2D h1
  have hk : k < C.length := (List.getElem?_eq_some_iff.mp h2).1
  have h3 : (C.drop (i + 1))[k - (i + 1)]? = some u := by rw [List.getElem?_drop, show i + 1 + (k - (i + 1)) = k by lia]; exact h2
  have e2 := a2D h3
  rw [e1, e2]
  refine a4G n u _ _ _ ?_
  simp only [List.length_take, List.length_drop]
  lia
theorem Q5 {n : Nat} {C : List w6} {i k : Nat} {u : w6} (hl : C.length = n) (hik : i ≠ k) (h1 : C[i]? = some u) (h2 : C[k]? = some u) : v5 n C = 0 := by
  rcases Nat.lt_or_gt_of_ne hik with h | h
  . exact a3Q hl h h1 h2
  . exact a3Q hl h h2 h1
theorem Z0 {α : Type} {C : List α} {k : Nat} (h : k < C.length) (u : α) : C.set k u = C.take k ++ u :: C.drop (k + 1) := by
  rw [List.set_eq_take_append_cons_drop, if_pos h]
theorem N5 {n : Nat} {C : List w6} {k : Nat} (hl : C.length = n) (hk : k < n) (a : Int) (u : w6) (b : Int) (v : w6) : v5 n (C.set k (N1 a u b v)) = a * v5 n (C.set k u) + b * v5 n (C.set k v) := by
  have hk' : k < C.length := by lia
  rw [Z0 hk', Z0 hk', Z0 hk']
  refine a2b n a u b v _ _ ?_
  simp only [List.length_take, List.length_drop]
  lia
theorem a1U {n : Nat} {C : List w6} {i k : Nat} (hl : C.length = n) (hi : i < n) (hk : k < n) (hik : i ≠ k) (u : w6) : v5 n ((C.set i u).set k u) = 0 := by
  refine Q5 (i := i) (k := k) (u := u) (by rw [List.length_set, List.length_set]; exact hl) hik ?_ ?_
  . rw [List.getElem?_set_ne (Ne.symm hik), List.getElem?_set_self (by lia)]
  . rw [List.getElem?_set_self (by rw [List.length_set]; lia)]
theorem a2J {n : Nat} {C : List w6} {i k : Nat} (hl : C.length = n) (hi : i < n) (hk : k < n) (hik : i ≠ k) (u v : w6) : v5 n ((C.set i u).set k v) = - v5 n ((C.set i v).set k u) := by
  have h0 := a1U hl hi hk hik (N1 1 u 1 v)
  have h1 := N5 (C := C.set i (N1 1 u 1 v)) (by rw [List.length_set]; exact hl) hk 1 u 1 v
  have h2 := N5 (C := C.set k u) (by rw [List.length_set]; exact hl) hi 1 u 1 v
  have h3 := N5 (C := C.set k v) (by rw [List.length_set]; exact hl) hi 1 u 1 v
  have h4 := a1U hl hi hk hik u
  have h5 := a1U hl hi hk hik v
  rw [List.set_comm _ _ (Ne.symm hik), List.set_comm _ _ (Ne.symm hik), List.set_comm _ _ (Ne.symm hik)] at h2 h3
  lia
def sumTo (g : Nat -> Int) : Nat -> Int
  | 0 => 0
  | n + 1 => sumTo g n + g n
theorem sum_congr {g h : Nat -> Int} : ∀ {n : Nat}, (∀ k, k < n -> g k = h k) -> sumTo g n = sumTo h n
  | 0, _ => rfl
  | n + 1, e => by
    show sumTo g n + g n = sumTo h n + h n
    rw [sum_congr fun k hk => e k (by lia), e n (by lia)]
theorem sum_zero {g : Nat -> Int} {n : Nat} (h : ∀ k, k < n -> g k = 0) : sumTo g n = 0 := by
  induction n with
  | zero => rfl
  | succ n ih =>
    show sumTo g n + g n = 0
    rw [ih fun k hk => h k (by lia), h n (by lia)]
    rfl
theorem sum_one {g : Nat -> Int} {n r : Nat} (hr : r < n) (h : ∀ k, k < n -> k ≠ r -> g k = 0) : sumTo g n = g r := by
  induction n with
  | zero => lia
  | succ n ih =>
    show sumTo g n + g n = g r
    by_cases c : r = n
    . subst c
      rw [sum_zero fun k hk => h k (by lia) (by lia)]
      lia
    . rw [ih (by lia) fun k hk hn => h k (by lia) hn, h n (by lia) (by lia)]
      lia
theorem K6 {g h : Nat -> Int} : ∀ n : Nat, sumTo (fun k => g k + h k) n = sumTo g n + sumTo h n
  | 0 => rfl
  | n + 1 => by
    show sumTo (fun k => g k + h k) n + (g n + h n) = sumTo g n + g n + (sumTo h n + h n)
    rw [K6 n]
    lia
theorem v8 {g : Nat -> Int} (a : Int) : ∀ n : Nat, sumTo (fun k => a * g k) n = a * sumTo g n
  | 0 => (Int.mul_zero a).symm
  | n + 1 => by
    show sumTo (fun k => a * g k) n + a * g n = a * (sumTo g n + g n)
    rw [v8 a n, Int.mul_add]
theorem a7Q {g : Nat -> Int} {n r i : Nat} (hr : r < n) (hi : i < n) (hne : r ≠ i) (h : ∀ k, k < n -> k ≠ r -> k ≠ i -> g k = 0) : sumTo g n = g r + g i := by
  have e : sumTo g n = sumTo (fun k => (if k = r then g k else 0) + (if k = i then g k else 0)) n := sum_congr fun k hk => by
    by_cases c1 : k = r
    . rw [if_pos c1, if_neg (by lia)]; lia
    . by_cases c2 : k = i
      . rw [if_neg c1, if_pos c2]; lia
      . rw [if_neg c1, if_neg c2, h k hk c1 c2]; lia
  rw [e, K6, sum_one hr fun k _ hn => if_neg hn, sum_one hi fun k _ hn => if_neg hn, if_pos rfl, if_pos rfl]
theorem a0d {n : Nat} {C : List w6} {k : Nat} (hl : C.length = n) (hk : k < n) (t : Nat -> Int) (W : Nat -> w6) : ∀ m : Nat, v5 n (C.set k (fun x => sumTo (fun j => t j * W j x) m)) = sumTo (fun j => t j * v5 n (C.set k (W j))) m
  | 0 => by
    have h := N5 hl hk 0 (fun _ => 0) 0 (fun _ => 0)
    have e : N1 0 (fun _ => 0) 0 (fun _ => 0) = (fun x : Nat => sumTo (fun j => t j * W j x) 0) := by funext x; simp [N1, sumTo]
    rw [e] at h
    rw [h]
    simp [sumTo]
  | m + 1 => by
    have h := N5 hl hk 1 (fun x => sumTo (fun j => t j * W j x) m) (t m) (W m)
    have e : N1 1 (fun x => sumTo (fun j => t j * W j x) m) (t m) (W m) = (fun x : Nat => sumTo (fun j => t j * W j x) (m + 1)) := by funext x; simp [N1, sumTo]
    rw [e, a0d hl hk t W m] at h
    rw [h]
    show 1 * sumTo _ m + _ = sumTo _ m + _
    rw [Int.one_mul]
def zv : w6 := fun _ => 0
def a2O (n : Nat) (B : List w6) (u : w6) : Prop := ∀ x, v5 n B * u x = sumTo (fun k => v5 n (B.set k u) * (B.getD k zv) x) n
theorem a1I {B : List w6} {k : Nat} (h : k < B.length) : B[k]? = some (B.getD k zv) := by rw [List.getD_eq_getElem?_getD, List.getElem?_eq_getElem h]; rfl
theorem K1 {B : List w6} {k : Nat} (h : k < B.length) : B.set k (B.getD k zv) = B := by
  have e : B.getD k zv = B[k] := by rw [List.getD_eq_getElem?_getD, List.getElem?_eq_getElem h]; rfl
  rw [e, List.set_getElem_self]
theorem plu {n : Nat} {B : List w6} {r i : Nat} (hl : B.length = n) (hr : r < n) (hi : i < n) (hne : i ≠ r) {u : w6} (v : w6) (hc : a2O n B u) :
    v5 n B * v5 n ((B.set r u).set i v) = v5 n (B.set r u) * v5 n (B.set i v) - v5 n (B.set i u) * v5 n (B.set r v) := by
  have hl' : (B.set i v).length = n := by rw [List.length_set]; exact hl
  have e1 : v5 n ((B.set i v).set r (N1 (v5 n B) u 0 u)) = v5 n B * v5 n ((B.set i v).set r u) := by
    rw [N5 hl' hr]; lia
  have e2 : N1 (v5 n B) u 0 u = (fun x : Nat => sumTo (fun k => v5 n (B.set k u) * (B.getD k zv) x) n) := by
    funext x
    rw [<- hc x]
    unfold N1
    lia
  rw [e2, a0d hl' hr (fun k => v5 n (B.set k u)) (fun k => B.getD k zv) n] at e1
  rw [List.set_comm _ _ (Ne.symm hne), <- e1]
  rw [a7Q hr hi (Ne.symm hne) fun k hk n1 n2 => ?_]
  . have a1 : (B.set i v).set r (B.getD r zv) = B.set i v := by rw [List.set_comm _ _ hne, K1 (by lia)]
    have a2 : v5 n ((B.set i v).set r (B.getD i zv)) = - v5 n (B.set r v) := by
      rw [a2J hl hi hr hne, K1 (by lia)]
    show v5 n (B.set r u) * v5 n ((B.set i v).set r (B.getD r zv)) + v5 n (B.set i u) * v5 n ((B.set i v).set r (B.getD i zv)) = _
    rw [a1, a2, Int.mul_neg]
    lia
  . have : v5 n ((B.set i v).set r (B.getD k zv)) = 0 := by
      refine Q5 (i := k) (k := r) (u := B.getD k zv) (by rw [List.length_set, List.length_set]; exact hl) n1 ?_ ?_
      . rw [List.getElem?_set_ne (Ne.symm n1), List.getElem?_set_ne (Ne.symm n2)]; exact a1I (by lia)
      . rw [List.getElem?_set_self (by rw [List.length_set]; lia)]
    show v5 n (B.set k u) * v5 n ((B.set i v).set r (B.getD k zv)) = 0
    rw [this, Int.mul_zero]
theorem a9c {d a b : Int} (hd : d ≠ 0) (h : d * a = d * b) : a = b := Int.eq_of_mul_eq_mul_left hd h
theorem a1v {n : Nat} {B : List w6} {r : Nat} (hl : B.length = n) (hr : r < n) {u v : w6} (hd : v5 n B ≠ 0) (hu : a2O n B u) (hv : a2O n B v) : a2O n (B.set r u) v := by
  intro x
  refine a9c hd ?_
  have e : ∀ k, k < n -> v5 n B * (v5 n ((B.set r u).set k v) * ((B.set r u).getD k zv) x) =
      v5 n (B.set r u) * (v5 n (B.set k v) * (B.getD k zv) x) + (if k = r then v5 n B * (v5 n (B.set r v) * u x) else 0) - v5 n (B.set r v) * (v5 n (B.set k u) * (B.getD k zv) x) := fun k hk => by
    by_cases c : k = r
    . subst c
      rw [if_pos rfl, List.set_set]
      have g : (B.set k u).getD k zv = u := by rw [List.getD_eq_getElem?_getD, List.getElem?_set_self (by lia)]; rfl
      rw [g]
      have : v5 n (B.set k u) * (v5 n (B.set k v) * B.getD k zv x) = v5 n (B.set k v) * (v5 n (B.set k u) * B.getD k zv x) := by rw [<- Int.mul_assoc, <- Int.mul_assoc, Int.mul_comm (v5 n (B.set k u))]
      lia
    . rw [if_neg c]
      have g : (B.set r u).getD k zv = B.getD k zv := by rw [List.getD_eq_getElem?_getD, List.getElem?_set_ne (Ne.symm c), <- List.getD_eq_getElem?_getD]
      rw [g, <- Int.mul_assoc, plu hl hr hk c v hu, Int.sub_mul, Int.mul_assoc, Int.mul_assoc]
      have : v5 n (B.set k u) * (v5 n (B.set r v) * B.getD k zv x) = v5 n (B.set r v) * (v5 n (B.set k u) * B.getD k zv x) := by rw [<- Int.mul_assoc, <- Int.mul_assoc, Int.mul_comm (v5 n (B.set k u))]
      lia
  have s1 : v5 n B * sumTo (fun k => v5 n ((B.set r u).set k v) * ((B.set r u).getD k zv) x) n =
      sumTo (fun k => v5 n (B.set r u) * (v5 n (B.set k v) * (B.getD k zv) x) + (if k = r then v5 n B * (v5 n (B.set r v) * u x) else 0) + (- v5 n (B.set r v)) * (v5 n (B.set k u) * (B.getD k zv) x)) n := by
    rw [<- v8]
    refine sum_congr fun k hk => ?_
    rw [e k hk, Int.neg_mul]
    lia
  rw [s1, K6, K6, v8, v8, <- hv x, <- hu x, sum_one hr fun k _ hn => if_neg hn, if_pos rfl, Int.neg_mul]
  have a1 : v5 n B * (v5 n (B.set r u) * v x) = v5 n (B.set r u) * (v5 n B * v x) := by rw [<- Int.mul_assoc, <- Int.mul_assoc, Int.mul_comm (v5 n B)]
  have a2 : v5 n B * (v5 n (B.set r v) * u x) = v5 n (B.set r v) * (v5 n B * u x) := by rw [<- Int.mul_assoc, <- Int.mul_assoc, Int.mul_comm (v5 n B)]
  lia
theorem a5C {n : Nat} {B : List w6} {r : Nat} (hl : B.length = n) (hr : r < n) : a2O n B (B.getD r zv) := by
  intro x
  rw [sum_one hr fun k hk hn => ?_]
  . rw [K1 (by lia)]
  . have : v5 n (B.set k (B.getD r zv)) = 0 := by
      refine Q5 (i := r) (k := k) (u := B.getD r zv) (by rw [List.length_set]; exact hl) (Ne.symm hn) ?_ ?_
      . rw [List.getElem?_set_ne hn]; exact a1I (by lia)
      . rw [List.getElem?_set_self (by lia)]
    rw [this, Int.zero_mul]
theorem b1d {n : Nat} {B : List w6} (hl : B.length = n) (hd : v5 n B ≠ 0) {t : Nat -> Int} (h : ∀ x, sumTo (fun k => t k * (B.getD k zv) x) n = 0) {i : Nat} (hi : i < n) : t i = 0 := by
  have h1 := a0d (C := B) hl hi t (fun k => B.getD k zv) n
  have e : (fun x : Nat => sumTo (fun k => t k * (B.getD k zv) x) n) = zv := by funext x; rw [h x]; rfl
  rw [e] at h1
  have h0 : v5 n (B.set i zv) = 0 := by
    have := N5 hl hi 0 zv 0 zv
    have e : N1 0 zv 0 zv = zv := by funext x; simp [N1, zv]
    rw [e] at this
    lia
  rw [h0, sum_one hi fun k hk hn => ?_, K1 (by lia)] at h1
  . exact (Int.mul_eq_zero.mp h1.symm).resolve_right hd
  . have : v5 n (B.set i (B.getD k zv)) = 0 := by
      refine Q5 (i := k) (k := i) (u := B.getD k zv) (by rw [List.length_set]; exact hl) hn ?_ ?_
      . rw [List.getElem?_set_ne (Ne.symm hn)]; exact a1I (by lia)
      . rw [List.getElem?_set_self (by lia)]
    rw [this, Int.mul_zero]
end Lp
namespace Lp
structure Bo where
  d : Int
  T : Nat -> Nat -> Int
  ins : Nat -> Nat
  outs : Nat -> Nat
def S5 (g : Nat -> Nat) (k v : Nat) : Nat -> Nat := fun i => if i = k then v else g i
theorem r6 {g : Nat -> Nat} {k v : Nat} : S5 g k v k = v := if_pos rfl
theorem r8 {g : Nat -> Nat} {k v i : Nat} (h : i ≠ k) : S5 g k v i = g i := if_neg h
def piv (S : Bo) (r c : Nat) : Bo where
  d := S.T r c
  T := fun i j => if i = r then (if j = c then S.d else S.T r j) else (if j = c then - S.T i c else (S.T i j * S.T r c - S.T i c * S.T r j) / S.d)
  ins := S5 S.ins r (S.outs c)
  outs := S5 S.outs c (S.ins r)
def Bs (m : Nat) (V : Nat -> w6) (ins : Nat -> Nat) : List w6 := (List.range (m + 1)).map fun i => V (ins i)
theorem Z1 (m : Nat) (V : Nat -> w6) (ins : Nat -> Nat) : (Bs m V ins).length = m + 1 := by unfold Bs; rw [List.length_map, List.length_range]
theorem a3T {m : Nat} {V : Nat -> w6} {ins : Nat -> Nat} {i : Nat} (h : i < m + 1) : (Bs m V ins).getD i zv = V (ins i) := by
  unfold Bs
  rw [List.getD_eq_getElem?_getD, List.getElem?_map, List.getElem?_range h]
  rfl
theorem a7p {m : Nat} {V : Nat -> w6} {ins : Nat -> Nat} {r v : Nat} (h : r < m + 1) : Bs m V (S5 ins r v) = (Bs m V ins).set r (V v) := by
  refine List.ext_getElem? fun i => ?_
  unfold Bs
  by_cases c : i = r
  . subst c
    rw [List.getElem?_set_self (by rw [List.length_map, List.length_range]; exact h), List.getElem?_map, List.getElem?_range h]
    show some (V (S5 ins i v i)) = _
    rw [r6]
  . rw [List.getElem?_set_ne (Ne.symm c), List.getElem?_map, List.getElem?_map]
    by_cases hi : i < m + 1
    . rw [List.getElem?_range hi]
      show some (V (S5 ins r v i)) = some (V (ins i))
      rw [r8 c]
    . rw [List.getElem?_eq_none (by rw [List.length_range]; lia)]
      rfl
structure Wf (m q : Nat) (V : Nat -> w6) (S : Bo) : Prop where
  hd : S.d = v5 (m + 1) (Bs m V S.ins)
  hT : ∀ i j, i < m + 1 -> j < q + 1 -> S.T i j = v5 (m + 1) ((Bs m V S.ins).set i (V (S.outs j)))
  cr : ∀ j, j < q + 1 -> a2O (m + 1) (Bs m V S.ins) (V (S.outs j))
  pos : 0 < S.d
  feas : ∀ i, i < m -> 0 <= S.T i q
  im : S.ins m = q + m
  oq : S.outs q = q + m + 1
  ib : ∀ i, i < m -> S.ins i < q + m
  ob : ∀ j, j < q -> S.outs j < q + m
  ii : ∀ i k, i < m -> k < m -> S.ins i = S.ins k -> i = k
  oo : ∀ j k, j < q -> k < q -> S.outs j = S.outs k -> j = k
  io : ∀ i j, i < m -> j < q -> S.ins i ≠ S.outs j
  all : ∀ v, v < q + m -> (∃ i, i < m /\ S.ins i = v) \/ (∃ j, j < q /\ S.outs j = v)
section
variable {m q : Nat} {V : Nat -> w6} {S : Bo}
theorem Wf.exact (W : Wf m q V S) {r c i j : Nat} (hr : r < m) (hc : c < q) (hi : i < m + 1) (hj : j < q + 1) (hne : i ≠ r) :
    S.T i j * S.T r c - S.T i c * S.T r j = S.d * v5 (m + 1) (((Bs m V S.ins).set r (V (S.outs c))).set i (V (S.outs j))) := by
  have h := plu (Z1 m V S.ins) (show r < m + 1 by lia) hi hne (V (S.outs j)) (W.cr c (by lia))
  rw [W.hd, h, W.hT i j hi hj, W.hT r c (by lia) (by lia), W.hT i c hi (by lia), W.hT r j (by lia) hj]
  rw [Int.mul_comm (v5 (m + 1) ((Bs m V S.ins).set i (V (S.outs j))))]
theorem Wf.pivT (W : Wf m q V S) {r c i j : Nat} (hr : r < m) (hc : c < q) (hi : i < m + 1) (hj : j < q + 1) : (piv S r c).T i j = v5 (m + 1) ((Bs m V (piv S r c).ins).set i (V ((piv S r c).outs j))) := by
  have hl := Z1 m V S.ins
  show (if i = r then (if j = c then S.d else S.T r j) else (if j = c then - S.T i c else (S.T i j * S.T r c - S.T i c * S.T r j) / S.d)) = v5 (m + 1) ((Bs m V (S5 S.ins r (S.outs c))).set i (V (S5 S.outs c (S.ins r) j)))
  rw [a7p (by lia)]
  by_cases c1 : i = r
  . subst c1
    rw [if_pos rfl, List.set_set]
    by_cases c2 : j = c
    . subst c2
      rw [if_pos rfl, r6, W.hd, <- a3T (V := V) (ins := S.ins) hi, K1 (by lia)]
    . rw [if_neg c2, r8 c2]
      exact W.hT i j hi hj
  . rw [if_neg c1]
    by_cases c2 : j = c
    . subst c2
      rw [if_pos rfl, r6, a2J hl (by lia) hi (Ne.symm c1), <- a3T (V := V) (ins := S.ins) (show r < m + 1 by lia), K1 (by lia), W.hT i j hi hj]
    . rw [if_neg c2, r8 c2, W.exact hr hc hi hj c1]
      exact Int.mul_ediv_cancel_left _ (by have := W.pos; lia)
theorem Wf.mulT (W : Wf m q V S) {r c i j : Nat} (hr : r < m) (hc : c < q) (hi : i < m + 1) (hj : j < q + 1) (hne : i ≠ r) (hjc : j ≠ c) : S.d * (piv S r c).T i j = S.T i j * S.T r c - S.T i c * S.T r j := by
  have e := W.pivT hr hc hi hj
  have h := W.exact hr hc hi hj hne
  have e2 : Bs m V (piv S r c).ins = (Bs m V S.ins).set r (V (S.outs c)) := a7p (by lia)
  have e3 : (piv S r c).outs j = S.outs j := r8 hjc
  rw [e2, e3] at e
  rw [h, e]
theorem Wf.pivot (W : Wf m q V S) {r c : Nat} (hr : r < m) (hc : c < q) (hp : 0 < S.T r c) (hq : ∀ i, i < m -> 0 < S.T i c -> S.T r q * S.T i c <= S.T i q * S.T r c) : Wf m q V (piv S r c) := by
  have hl := Z1 m V S.ins
  have hd0 : v5 (m + 1) (Bs m V S.ins) ≠ 0 := by have := W.pos; rw [W.hd] at this; lia
  have hB : Bs m V (piv S r c).ins = (Bs m V S.ins).set r (V (S.outs c)) := a7p (by lia)
  refine ⟨?_, fun i j hi hj => W.pivT hr hc hi hj, fun j hj => ?_, hp, fun i hi => ?_, ?_, ?_, fun i hi => ?_, fun j hj => ?_, fun i k hi hk e => ?_, fun j k hj hk e => ?_, fun i j hi hj e => ?_, fun v hv => ?_⟩
  . rw [hB]; exact W.hT r c (by lia) (by lia)
  . rw [hB]
    by_cases c2 : j = c
    . subst c2
      show a2O _ _ (V (S5 S.outs j (S.ins r) j))
      rw [r6]
      have h := a5C hl (show r < m + 1 by lia)
      rw [a3T (by lia)] at h
      exact a1v hl (by lia) hd0 (W.cr j hj) h
    . show a2O _ _ (V (S5 S.outs c (S.ins r) j))
      rw [r8 c2]
      exact a1v hl (by lia) hd0 (W.cr c (by lia)) (W.cr j hj)
  . by_cases c1 : i = r
    . subst c1
      show 0 <= (if i = i then (if q = c then S.d else S.T i q) else _)
      rw [if_pos rfl, if_neg (by lia)]
      exact W.feas i hi
    . have e := W.mulT hr hc (show i < m + 1 by lia) (show q < q + 1 by lia) c1 (show q ≠ c by lia)
      have f1 := W.feas i hi
      have f2 := W.feas r hr
      have hpos := W.pos
      have nn : 0 <= S.T i q * S.T r c - S.T i c * S.T r q := by
        have a1 : 0 <= S.T i q * S.T r c := Int.mul_nonneg f1 (Int.le_of_lt hp)
        by_cases z : 0 < S.T i c
        . have := hq i hi z
          rw [Int.mul_comm (S.T i c)]
          lia
        . have a2 : 0 <= - (S.T i c) * S.T r q := Int.mul_nonneg (by lia) f2
          rw [Int.neg_mul] at a2
          lia
      rw [<- e] at nn
      by_cases z : 0 <= (piv S r c).T i q
      . exact z
      . have := Int.mul_pos hpos (show 0 < - (piv S r c).T i q by lia)
        rw [Int.mul_neg] at this
        lia
  . show S5 S.ins r (S.outs c) m = q + m
    rw [r8 (by lia)]; exact W.im
  . show S5 S.outs c (S.ins r) q = q + m + 1
    rw [r8 (by lia)]; exact W.oq
  . show S5 S.ins r (S.outs c) i < q + m
    by_cases c1 : i = r
    . rw [c1, r6]; exact W.ob c hc
    . rw [r8 c1]; exact W.ib i hi
  . show S5 S.outs c (S.ins r) j < q + m
    by_cases c1 : j = c
    . rw [c1, r6]; exact W.ib r hr
    . rw [r8 c1]; exact W.ob j hj
  . replace e : S5 S.ins r (S.outs c) i = S5 S.ins r (S.outs c) k := e
    by_cases c1 : i = r
    . by_cases c2 : k = r
      . lia
      . rw [c1, r6, r8 c2] at e
        exact absurd e.symm (W.io k c hk hc)
    . by_cases c2 : k = r
      . rw [c2, r6, r8 c1] at e
        exact absurd e (W.io i c hi hc)
      . rw [r8 c1, r8 c2] at e
        exact W.ii i k hi hk e
  . replace e : S5 S.outs c (S.ins r) j = S5 S.outs c (S.ins r) k := e
    by_cases c1 : j = c
    . by_cases c2 : k = c
      . lia
      . rw [c1, r6, r8 c2] at e
        exact absurd e (W.io r k hr hk)
    . by_cases c2 : k = c
      . rw [c2, r6, r8 c1] at e
        exact absurd e.symm (W.io r j hr hj)
      . rw [r8 c1, r8 c2] at e
        exact W.oo j k hj hk e
  . replace e : S5 S.ins r (S.outs c) i = S5 S.outs c (S.ins r) j := e
    by_cases c1 : i = r
    . by_cases c2 : j = c
      . rw [c1, c2, r6, r6] at e
        exact absurd e.symm (W.io r c hr hc)
      . rw [c1, r6, r8 c2] at e
        exact c2 (W.oo c j hc hj e).symm
    . by_cases c2 : j = c
      . rw [c2, r6, r8 c1] at e
        exact c1 (W.ii i r hi hr e)
      . rw [r8 c1, r8 c2] at e
        exact W.io i j hi hj e
  . show (∃ i, i < m /\ S5 S.ins r (S.outs c) i = v) \/ (∃ j, j < q /\ S5 S.outs c (S.ins r) j = v)
    rcases W.all v hv with ⟨i, hi, e⟩ | ⟨j, hj, e⟩
    . by_cases c1 : i = r
      . exact .inr ⟨c, hc, by rw [r6, <- c1]; exact e⟩
      . exact .inl ⟨i, hi, by rw [r8 c1]; exact e⟩
    . by_cases c1 : j = c
      . exact .inl ⟨r, hr, by rw [r6, <- c1]; exact e⟩
      . exact .inr ⟨j, hj, by rw [r8 c1]; exact e⟩
def Ker (m q : Nat) (V : Nat -> w6) (S : Bo) (z : Nat -> Int) : Prop := ∀ x, sumTo (fun k => z (S.ins k) * V (S.ins k) x) (m + 1) + sumTo (fun j => z (S.outs j) * V (S.outs j) x) (q + 1) = 0
theorem a4f {g h : Nat -> Int} {n r : Nat} (hr : r < n) (e : ∀ k, k < n -> k ≠ r -> g k = h k) : sumTo g n = sumTo h n + (g r - h r) := by
  have e1 : sumTo g n = sumTo (fun k => h k + (if k = r then g k - h k else 0)) n := sum_congr fun k hk => by
    by_cases c : k = r
    . rw [if_pos c]; lia
    . rw [if_neg c, e k hk c]; lia
  rw [e1, K6, sum_one hr fun k _ hn => if_neg hn, if_pos rfl]
theorem Ker.piv {r c : Nat} (hr : r < m) (hc : c < q) {z : Nat -> Int} : Ker m q V (piv S r c) z ↔ Ker m q V S z := by
  have e : ∀ x, sumTo (fun k => z ((Lp.piv S r c).ins k) * V ((Lp.piv S r c).ins k) x) (m + 1) + sumTo (fun j => z ((Lp.piv S r c).outs j) * V ((Lp.piv S r c).outs j) x) (q + 1)
      = sumTo (fun k => z (S.ins k) * V (S.ins k) x) (m + 1) + sumTo (fun j => z (S.outs j) * V (S.outs j) x) (q + 1) := fun x => by
    have h1 := a4f (g := fun k => z ((Lp.piv S r c).ins k) * V ((Lp.piv S r c).ins k) x) (h := fun k => z (S.ins k) * V (S.ins k) x) (n := m + 1) (r := r) (by lia) fun k hk hn => by
      show z (S5 S.ins r (S.outs c) k) * V (S5 S.ins r (S.outs c) k) x = _
      rw [r8 hn]
    have h2 := a4f (g := fun j => z ((Lp.piv S r c).outs j) * V ((Lp.piv S r c).outs j) x) (h := fun j => z (S.outs j) * V (S.outs j) x) (n := q + 1) (r := c) (by lia) fun k hk hn => by
      show z (S5 S.outs c (S.ins r) k) * V (S5 S.outs c (S.ins r) k) x = _
      rw [r8 hn]
    rw [h1, h2]
    show _ + (z (S5 S.ins r (S.outs c) r) * V (S5 S.ins r (S.outs c) r) x - _) + (_ + (z (S5 S.outs c (S.ins r) c) * V (S5 S.outs c (S.ins r) c) x - _)) = _
    rw [r6, r6]
    lia
  exact ⟨fun h x => (e x).symm.trans (h x), fun h x => (e x).trans (h x)⟩
def a0U (q : Nat) (S : Bo) (z : Nat -> Int) (i : Nat) : Int := S.d * z (S.ins i) + sumTo (fun j => S.T i j * z (S.outs j)) (q + 1)
theorem W3 {g : Nat -> Nat -> Int} (n : Nat) : ∀ k : Nat, sumTo (fun i => sumTo (fun j => g i j) k) n = sumTo (fun j => sumTo (fun i => g i j) n) k
  | 0 => sum_zero fun _ _ => rfl
  | k + 1 => by
    show sumTo (fun i => sumTo (fun j => g i j) k + g i k) n = sumTo (fun j => sumTo (fun i => g i j) n) k + sumTo (fun i => g i k) n
    rw [K6, W3 n k]
theorem Wf.rows (W : Wf m q V S) (z : Nat -> Int) (x : Nat) : S.d * (sumTo (fun k => z (S.ins k) * V (S.ins k) x) (m + 1) + sumTo (fun j => z (S.outs j) * V (S.outs j) x) (q + 1)) = sumTo (fun k => a0U q S z k * ((Bs m V S.ins).getD k zv) x) (m + 1) := by
  have e1 : S.d * sumTo (fun j => z (S.outs j) * V (S.outs j) x) (q + 1) = sumTo (fun k => sumTo (fun j => S.T k j * z (S.outs j)) (q + 1) * ((Bs m V S.ins).getD k zv) x) (m + 1) := by
    rw [<- v8]
    have h1 : ∀ j, j < q + 1 -> S.d * (z (S.outs j) * V (S.outs j) x) = sumTo (fun k => S.T k j * z (S.outs j) * ((Bs m V S.ins).getD k zv) x) (m + 1) := fun j hj => by
      have h := W.cr j hj x
      rw [<- W.hd] at h
      rw [Int.mul_comm (z (S.outs j)), <- Int.mul_assoc, h, Int.mul_comm, <- v8]
      refine sum_congr fun k hk => ?_
      rw [W.hT k j hk hj, <- Int.mul_assoc, Int.mul_comm (z (S.outs j))]
    rw [sum_congr h1, <- W3]
    refine sum_congr fun k hk => ?_
    rw [Int.mul_comm (sumTo _ _), <- v8]
    exact sum_congr fun j _ => Int.mul_comm _ _
  rw [Int.mul_add, e1, <- v8, <- K6]
  refine sum_congr fun k hk => ?_
  show _ = (S.d * z (S.ins k) + _) * _
  rw [Int.add_mul, a3T hk, Int.mul_assoc]
theorem Wf.row_of (W : Wf m q V S) {z : Nat -> Int} (h : Ker m q V S z) {i : Nat} (hi : i < m + 1) : a0U q S z i = 0 := by
  refine b1d (Z1 m V S.ins) (by have := W.pos; rw [W.hd] at this; lia) (fun x => ?_) hi
  rw [<- W.rows z x, h x, Int.mul_zero]
theorem Wf.ker_of (W : Wf m q V S) {z : Nat -> Int} (h : ∀ i, i < m + 1 -> a0U q S z i = 0) : Ker m q V S z := fun x => by
  have e := W.rows z x
  have e0 : sumTo (fun k => a0U q S z k * ((Bs m V S.ins).getD k zv) x) (m + 1) = 0 := sum_zero fun k hk => by rw [h k hk, Int.zero_mul]
  rw [e0] at e
  exact (Int.mul_eq_zero.mp e).resolve_left (by have := W.pos; lia)
end
end Lp
namespace Lp
structure Choice (m q : Nat) (S : Bo) (r c : Nat) : Prop where
  hc : c < q
  neg : S.T m c < 0
  minc : ∀ j, j < q -> S.T m j < 0 -> S.outs c <= S.outs j
  hr : r < m
  pos : 0 < S.T r c
  ratio : ∀ i, i < m -> 0 < S.T i c -> S.T r q * S.T i c <= S.T i q * S.T r c
  tie : ∀ i, i < m -> 0 < S.T i c -> S.T r q * S.T i c = S.T i q * S.T r c -> S.ins r <= S.ins i
theorem a4i {g : Nat -> Int} : ∀ {n : Nat}, sumTo g n < 0 -> ∃ k, k < n /\ g k < 0
  | 0, h => absurd h (by show ¬ (0 : Int) < 0; lia)
  | n + 1, h => by
    have h' : sumTo g n + g n < 0 := h
    by_cases c : g n < 0
    . exact ⟨n, by lia, c⟩
    . obtain ⟨k, hk, hg⟩ := a4i (g := g) (n := n) (by lia)
      exact ⟨k, by lia, hg⟩
section
variable {m q : Nat} {V : Nat -> w6} {S S' : Bo}
theorem Wf.inj (W : Wf m q V S) {i k : Nat} (hi : i < m + 1) (hk : k < m + 1) (e : S.ins i = S.ins k) : i = k := by
  by_cases c1 : i = m
  . by_cases c2 : k = m
    . lia
    . have := W.ib k (by lia)
      rw [c1, W.im] at e
      lia
  . by_cases c2 : k = m
    . have := W.ib i (by lia)
      rw [c2, W.im] at e
      lia
    . exact W.ii i k (by lia) (by lia) e
theorem Wf.apart (W : Wf m q V S) {i j : Nat} (hi : i < m + 1) (hj : j < q + 1) : S.ins i ≠ S.outs j := by
  intro e
  have hI : S.ins i <= q + m := by
    by_cases c1 : i = m
    . rw [c1, W.im]; exact Nat.le_refl _
    . have := W.ib i (by lia); lia
  by_cases c2 : j = q
  . rw [c2, W.oq] at e; lia
  . have := W.ob j (by lia)
    by_cases c1 : i = m
    . rw [c1, W.im] at e; lia
    . exact W.io i j (by lia) (by lia) e
theorem Wf.injo (W : Wf m q V S) {j k : Nat} (hj : j < q + 1) (hk : k < q + 1) (e : S.outs j = S.outs k) : j = k := by
  by_cases c1 : j = q
  . by_cases c2 : k = q
    . lia
    . have := W.ob k (by lia)
      rw [c1, W.oq] at e
      lia
  . by_cases c2 : k = q
    . have := W.ob j (by lia)
      rw [c2, W.oq] at e
      lia
    . exact W.oo j k (by lia) (by lia) e
def ray (m : Nat) (S : Bo) (c : Nat) (v : Nat) : Int := if v = S.outs c then S.d else sumTo (fun i => if S.ins i = v then - S.T i c else 0) (m + 1)
theorem Wf.ray_in (W : Wf m q V S) {c k : Nat} (hc : c < q + 1) (hk : k < m + 1) : ray m S c (S.ins k) = - S.T k c := by
  unfold ray
  rw [if_neg (W.apart hk hc), sum_one hk fun i hi hn => if_neg fun e => hn (W.inj hi hk e), if_pos rfl]
theorem Wf.ray_out (W : Wf m q V S) {c j : Nat} (hc : c < q + 1) (hj : j < q + 1) (hn : j ≠ c) : ray m S c (S.outs j) = 0 := by
  unfold ray
  rw [if_neg fun e => hn (W.injo hj hc e)]
  exact sum_zero fun i hi => if_neg (W.apart hi hj)
theorem Wf.ray_c {c : Nat} : ray m S c (S.outs c) = S.d := if_pos rfl
theorem Wf.ray_ker (W : Wf m q V S) {c : Nat} (hc : c < q + 1) : Ker m q V S (ray m S c) := W.ker_of fun i hi => by
  unfold a0U
  rw [W.ray_in hc hi, sum_one hc fun j hj hn => by rw [W.ray_out hc hj hn, Int.mul_zero], Wf.ray_c, Int.mul_neg, Int.mul_comm]
  lia
theorem a8K (W : Wf m q V S) (W' : Wf m q V S') (hk : ∀ z, Ker m q V S z -> Ker m q V S' z) {r c r' c' : Nat} (C : Choice m q S r c) (C' : Choice m q S' r' c') (ht : S.ins r = S'.outs c') (hst : S.outs c < S.ins r)
    (stat : ∀ v, S.ins r < v -> (∃ i, i < m /\ S.ins i = v) -> ∃ i, i < m /\ S'.ins i = v) (zero : ∀ k j, k < m -> j < q -> S.ins k = S'.outs j -> S.T k q = 0) : False := by
  have hc1 : c < q + 1 := by have := C.hc; lia
  have R := W'.row_of (hk _ (W.ray_ker hc1)) (show m < m + 1 by lia)
  have zobj : ray m S c (S'.ins m) = - S.T m c := by rw [W'.im, <- W.im]; exact W.ray_in hc1 (by lia)
  have zcon : ray m S c (S'.outs q) = 0 := by rw [W'.oq, <- W.oq]; exact W.ray_out hc1 (by lia) (by have := C.hc; lia)
  unfold a0U at R
  replace R : S'.d * ray m S c (S'.ins m) + (sumTo (fun j => S'.T m j * ray m S c (S'.outs j)) q + S'.T m q * ray m S c (S'.outs q)) = 0 := R
  rw [zobj, zcon, Int.mul_zero, Int.mul_neg] at R
  have hneg : 0 < S'.d * (- S.T m c) := Int.mul_pos W'.pos (by have := C.neg; lia)
  rw [Int.mul_neg] at hneg
  obtain ⟨j, hj, hg⟩ := a4i (g := fun j => S'.T m j * ray m S c (S'.outs j)) (n := q) (by lia)
  replace hg : S'.T m j * ray m S c (S'.outs j) < 0 := hg
  rcases W.all (S'.outs j) (W'.ob j hj) with ⟨k, hk1, e⟩ | ⟨j2, hj2, e⟩
  . rw [<- e, W.ray_in hc1 (by lia)] at hg
    rcases Nat.lt_trichotomy (S'.outs j) (S.ins r) with h | h | h
    . have h1 : 0 <= S'.T m j := by
        by_cases z : S'.T m j < 0
        . have := C'.minc j hj z
          lia
        . lia
      have h2 : 0 < S.T k c := by
        by_cases z : 0 < S.T k c
        . exact z
        . have := Int.mul_nonneg h1 (show 0 <= - S.T k c by lia)
          lia
      have h3 := zero k j hk1 hj e
      have h4 := C.ratio k hk1 h2
      rw [h3, Int.zero_mul] at h4
      have h5 : 0 <= S.T r q * S.T k c := Int.mul_nonneg (W.feas r C.hr) (Int.le_of_lt h2)
      have h6 := C.tie k hk1 h2 (by rw [h3, Int.zero_mul]; omega)
      lia
    . have e1 : j = c' := W'.oo j c' hj C'.hc (by rw [h, ht])
      have e2 : k = r := W.ii k r hk1 C.hr (by rw [e, h])
      rw [e1, e2] at hg
      have := Int.mul_pos (show 0 < - S'.T m c' by have := C'.neg; lia) C.pos
      rw [Int.neg_mul] at this
      rw [Int.mul_neg] at hg
      lia
    . obtain ⟨i, hi, e3⟩ := stat _ h ⟨k, hk1, e⟩
      exact W'.io i j hi hj e3
  . by_cases c2 : j2 = c
    . rw [<- e, c2, Wf.ray_c] at hg
      have h1 : S'.T m j < 0 := by
        by_cases z : S'.T m j < 0
        . exact z
        . have := Int.mul_nonneg (show 0 <= S'.T m j by lia) (Int.le_of_lt W.pos)
          lia
      have := C'.minc j hj h1
      rw [c2] at e
      lia
    . rw [<- e, W.ray_out hc1 (by lia) c2, Int.mul_zero] at hg
      lia
def Zr (m q : Nat) (S : Bo) (v : Nat) : Prop := ∀ i, i < m -> S.ins i = v -> S.T i q = 0
def Bas (m : Nat) (S : Bo) (v : Nat) : Prop := ∃ i, i < m /\ S.ins i = v
theorem Bas.piv (W : Wf m q V S) {r c v : Nat} (hr : r < m) (hc : c < q) (h1 : v ≠ S.ins r) (h2 : v ≠ S.outs c) : Bas m (Lp.piv S r c) v ↔ Bas m S v := by
  constructor
  . rintro ⟨i, hi, e⟩
    replace e : S5 S.ins r (S.outs c) i = v := e
    by_cases z : i = r
    . rw [z, r6] at e; exact absurd e.symm h2
    . rw [r8 z] at e; exact ⟨i, hi, e⟩
  . rintro ⟨i, hi, e⟩
    have z : i ≠ r := fun z => h1 (by rw [<- e, z])
    exact ⟨i, hi, (r8 z).trans e⟩
theorem Zr.piv (W : Wf m q V S) {r c : Nat} (C : Choice m q S r c) (h0 : S.T r q = 0) (v : Nat) : Zr m q (Lp.piv S r c) v ↔ Zr m q S v := by
  have key : ∀ i, i < m -> i ≠ r -> ((Lp.piv S r c).T i q = 0 ↔ S.T i q = 0) := fun i hi hn => by
    have e := W.mulT C.hr C.hc (show i < m + 1 by lia) (show q < q + 1 by lia) hn (show q ≠ c by have := C.hc; lia)
    rw [h0, Int.mul_zero, Int.sub_zero] at e
    constructor
    . intro z
      rw [z, Int.mul_zero] at e
      exact (Int.mul_eq_zero.mp e.symm).resolve_right (by have := C.pos; lia)
    . intro z
      rw [z, Int.zero_mul] at e
      exact (Int.mul_eq_zero.mp e).resolve_left (by have := W.pos; lia)
  have kr : (Lp.piv S r c).T r q = 0 := by
    show (if r = r then (if q = c then S.d else S.T r q) else _) = 0
    rw [if_pos rfl, if_neg (by have := C.hc; lia)]; exact h0
  constructor
  . intro h i hi e
    by_cases z : i = r
    . rw [z]; exact h0
    . exact (key i hi z).mp (h i hi ((r8 z).trans e))
  . intro h i hi e
    by_cases z : i = r
    . rw [z]; exact kr
    . exact (key i hi z).mpr (h i hi ((r8 z).symm.trans e))
end
structure Seq (m q : Nat) (V : Nat -> w6) (S : Nat -> Bo) (R C : Nat -> Nat) : Prop where
  w : Wf m q V (S 0)
  ch : ∀ k, Choice m q (S k) (R k) (C k)
  st : ∀ k, S (k + 1) = piv (S k) (R k) (C k)
section
variable {m q : Nat} {V : Nat -> w6} {S : Nat -> Bo} {R C : Nat -> Nat}
theorem Seq.wf (Q : Seq m q V S R C) : ∀ k, Wf m q V (S k)
  | 0 => Q.w
  | k + 1 => by rw [Q.st k]; exact (Q.wf k).pivot (Q.ch k).hr (Q.ch k).hc (Q.ch k).pos (Q.ch k).ratio
theorem Seq.ker (Q : Seq m q V S R C) (z : Nat -> Int) (a : Nat) : ∀ n, Ker m q V (S (a + n)) z ↔ Ker m q V (S a) z
  | 0 => Iff.rfl
  | n + 1 => by
    show Ker m q V (S (a + n + 1)) z ↔ _
    rw [Q.st, Ker.piv (Q.ch _).hr (Q.ch _).hc]
    exact Q.ker z a n
def Dg (q : Nat) (S : Nat -> Bo) (R : Nat -> Nat) (k : Nat) : Prop := (S k).T (R k) q = 0
theorem Seq.zr (Q : Seq m q V S R C) (v a : Nat) : ∀ n, (∀ k, a <= k -> k < a + n -> Dg q S R k) -> (Zr m q (S (a + n)) v ↔ Zr m q (S a) v)
  | 0, _ => Iff.rfl
  | n + 1, h => by
    show Zr m q (S (a + n + 1)) v ↔ _
    rw [Q.st, Zr.piv (Q.wf _) (Q.ch _) (h (a + n) (by lia) (by lia))]
    exact Q.zr v a n fun k h1 h2 => h k h1 (by lia)
def a2Q (S : Nat -> Bo) (R C : Nat -> Nat) (k v : Nat) : Prop := v = (S k).ins (R k) \/ v = (S k).outs (C k)
theorem Seq.bas (Q : Seq m q V S R C) (v a : Nat) : ∀ n, (∀ k, a <= k -> k < a + n -> ¬ a2Q S R C k v) -> (Bas m (S (a + n)) v ↔ Bas m (S a) v)
  | 0, _ => Iff.rfl
  | n + 1, h => by
    have hp := h (a + n) (by lia) (by lia)
    show Bas m (S (a + n + 1)) v ↔ _
    rw [Q.st, Bas.piv (Q.wf _) (Q.ch _).hr (Q.ch _).hc (fun z => hp (.inl z)) fun z => hp (.inr z)]
    exact Q.bas v a n fun k h1 h2 => h k h1 (by lia)
theorem Seq.once (Q : Seq m q V S R C) {a b t : Nat} (hd : ∀ k, a <= k -> k < b -> Dg q S R k) (ht : ∀ k, a <= k -> k < b -> ∀ v, a2Q S R C k v -> v <= t) : ∀ (g k0 k1 : Nat), k1 = k0 + 1 + g -> a <= k0 -> k1 < b -> a2Q S R C k0 t -> a2Q S R C k1 t -> False := by
  intro g
  induction g using Nat.strongRecOn with
  | _ g ih =>
    intro k0 k1 hk ha hb p0 p1
    by_cases hm : ∃ k, k0 < k /\ k < k1 /\ a2Q S R C k t
    . obtain ⟨k, h1, h2, h3⟩ := hm
      exact ih (k - k0 - 1) (by lia) k0 k (by lia) ha (by lia) p0 h3
    have W0 := Q.wf k0
    have W1 := Q.wf k1
    have C0 := Q.ch k0
    have C1 := Q.ch k1
    have bmid : Bas m (S k1) t ↔ Bas m (S (k0 + 1)) t := by
      have := Q.bas t (k0 + 1) g fun k h1 h2 => fun z => hm ⟨k, by lia, by lia, z⟩
      rw [show k0 + 1 + g = k1 by lia] at this
      exact this
    have stat : ∀ v, t < v -> (Bas m (S k1) v ↔ Bas m (S k0) v) := fun v hv => by
      have := Q.bas v k0 (g + 1) fun k h1 h2 => fun z => by have := ht k (by lia) (by lia) v z; lia
      rw [show k0 + (g + 1) = k1 by lia] at this
      exact this
    have ker : ∀ z, Ker m q V (S k1) z ↔ Ker m q V (S k0) z := fun z => by
      have := Q.ker z k0 (g + 1)
      rw [show k0 + (g + 1) = k1 by lia] at this
      exact this
    have zrr : ∀ v, Zr m q (S k1) v ↔ Zr m q (S k0) v := fun v => by
      have := Q.zr v k0 (g + 1) fun k h1 h2 => hd k (by lia) (by lia)
      rw [show k0 + (g + 1) = k1 by lia] at this
      exact this
    rcases p0 with e0 | e0
    . -- it goes out at k0, so it comes in at k1
      have nb : ¬ Bas m (S (k0 + 1)) t := by
        rintro ⟨i, hi, e⟩
        rw [Q.st k0] at e
        replace e : S5 (S k0).ins (R k0) ((S k0).outs (C k0)) i = t := e
        by_cases z : i = R k0
        . rw [z, r6, e0] at e
          exact W0.io _ _ C0.hr C0.hc e.symm
        . rw [r8 z, e0] at e
          exact z (W0.ii i (R k0) hi C0.hr e)
      rcases p1 with e1 | e1
      . exact nb (bmid.mp ⟨_, C1.hr, e1.symm⟩)
      . have hst : (S k0).outs (C k0) < (S k0).ins (R k0) := by
          have h1 := ht k0 ha (by lia) _ (.inr rfl)
          rw [e0] at h1
          have := W0.io (R k0) (C k0) C0.hr C0.hc
          lia
        refine a8K W0 W1 (fun z h => (ker z).mpr h) C0 C1 (by rw [<- e0, <- e1]) hst (fun v hv hb' => (stat v (by rw [e0]; exact hv)).mpr hb') fun k j hk1 hj e => ?_
        refine ((zrr ((S k0).ins k)).mp fun i hi e2 => ?_) k hk1 rfl
        rw [e] at e2
        exact absurd e2 (W1.io i j hi hj)
    . -- it comes in at k0, so it goes out at k1
      have ba : Bas m (S (k0 + 1)) t := ⟨R k0, C0.hr, by rw [Q.st k0]; show S5 (S k0).ins (R k0) ((S k0).outs (C k0)) (R k0) = t; rw [r6]; exact e0.symm⟩
      rcases p1 with e1 | e1
      . have hst : (S k1).outs (C k1) < (S k1).ins (R k1) := by
          have h1 := ht k1 (by lia) hb _ (.inr rfl)
          rw [e1] at h1
          have := W1.io (R k1) (C k1) C1.hr C1.hc
          lia
        refine a8K W1 W0 (fun z h => (ker z).mp h) C1 C0 (by rw [<- e0, <- e1]) hst (fun v hv hb' => (stat v (by rw [e1]; exact hv)).mp hb') fun k j hk1 hj e => ?_
        refine ((zrr ((S k1).ins k)).mpr fun i hi e2 => ?_) k hk1 rfl
        rw [e] at e2
        exact absurd e2 (W0.io i j hi hj)
      . obtain ⟨i, hi, e⟩ := bmid.mpr ba
        rw [e1] at e
        exact W1.io i (C k1) hi C1.hc e
theorem Seq.short (Q : Seq m q V S R C) : ∀ (t a b : Nat), a <= b -> (∀ k, a <= k -> k < b -> Dg q S R k) -> (∀ k, a <= k -> k < b -> ∀ v, a2Q S R C k v -> v < t) -> b + 1 <= a + 2 ^ t
  | 0, a, b, hab, hd, hp => by
    by_cases c : a < b
    . have := hp a (Nat.le_refl _) c _ (.inl rfl)
      lia
    . rw [Nat.pow_zero]; lia
  | t + 1, a, b, hab, hd, hp => by
    rw [Nat.pow_succ]
    by_cases h : ∃ k, a <= k /\ k < b /\ a2Q S R C k t
    . obtain ⟨k, h1, h2, h3⟩ := h
      have once := Q.once hd (t := t) fun k h1 h2 v hv => by have := hp k h1 h2 v hv; lia
      have i1 := Q.short t a k h1 (fun j j1 j2 => hd j j1 (by lia)) fun j j1 j2 v hv => by
        have := hp j j1 (by lia) v hv
        by_cases z : v = t
        . subst z
          exact (once (k - j - 1) j k (by lia) j1 h2 hv h3).elim
        . lia
      have i2 := Q.short t (k + 1) b (by lia) (fun j j1 j2 => hd j (by lia) j2) fun j j1 j2 v hv => by
        have := hp j (by lia) j2 v hv
        by_cases z : v = t
        . subst z
          exact (once (j - k - 1) k j (by lia) h1 j2 h3 hv).elim
        . lia
      lia
    . have := Q.short t a b hab hd fun j j1 j2 v hv => by
        have h4 := hp j j1 j2 v hv
        by_cases z : v = t
        . subst z; exact absurd ⟨j, j1, j2, hv⟩ h
        . lia
      have : 0 < 2 ^ t := Nat.two_pow_pos t
      lia
end
end Lp
namespace Lp
section
variable {m q : Nat} {V : Nat -> w6} {S : Bo}
theorem Wf.bndB {M : Nat} (hM : ∀ v, Fits M (m + 1) (V v)) : ∀ c ∈ Bs m V S.ins, Fits M (m + 1) c := fun c hc => by
  obtain ⟨i, _, rfl⟩ := List.mem_map.mp hc
  exact hM _
theorem Wf.bndd (W : Wf m q V S) {M : Nat} (hM : ∀ v, Fits M (m + 1) (V v)) : S.d.natAbs <= bnd M (m + 1) := by
  rw [W.hd]
  exact a1Z (m + 1) _ (Z1 m V S.ins) (Wf.bndB hM)
theorem Wf.bndT (W : Wf m q V S) {M : Nat} (hM : ∀ v, Fits M (m + 1) (V v)) {i j : Nat} (hi : i < m + 1) (hj : j < q + 1) : (S.T i j).natAbs <= bnd M (m + 1) := by
  rw [W.hT i j hi hj]
  refine a1Z (m + 1) _ (by rw [List.length_set]; exact Z1 m V S.ins) fun c hc => ?_
  rcases List.mem_or_eq_of_mem_set hc with h | h
  . exact Wf.bndB hM c h
  . rw [h]; exact hM _
def phi (m q : Nat) (M : Int) (S : Bo) : Int := M * M * S.T m q / S.d
theorem Wf.gain (W : Wf m q V S) {r c : Nat} (C : Choice m q S r c) {M : Int} (h1 : S.d <= M) (h2 : S.T r c <= M) : phi m q M S + (if S.T r q = 0 then 0 else 1) <= phi m q M (piv S r c) := by
  have hcq : c < q := C.hc
  have hrm : r < m := C.hr
  have e := W.mulT hrm hcq (show m < m + 1 by lia) (show q < q + 1 by lia) (show m ≠ r by lia) (show q ≠ c by lia)
  have hp := C.pos
  have hd := W.pos
  have hn := C.neg
  have hf := W.feas r hrm
  unfold phi
  show _ <= M * M * (piv S r c).T m q / S.T r c
  generalize (piv S r c).T m q = N' at *
  generalize S.T m q = N at *
  generalize S.T r c = p at *
  generalize S.d = d at *
  generalize S.T m c = g at *
  generalize S.T r q = b at *
  rw [Int.le_ediv_iff_mul_le hp]
  have hfl : M * M * N / d * d <= M * M * N := Int.ediv_mul_le _ (by lia)
  generalize M * M * N / d = f at *
  have hM : 0 < M := by lia
  have hMM : d * p <= M * M := Int.mul_le_mul h1 h2 (Int.le_of_lt hp) (Int.le_of_lt hM)
  -- d * ((f + 1) * p) <= d * (M * M * N')
  have key : (f + (if b = 0 then 0 else 1)) * p * d <= M * M * N' * d := by
    have a1 : M * M * N' * d = M * M * N * p + M * M * (-(g * b)) := by
      have : N' * d = N * p - g * b := by rw [Int.mul_comm N' d]; exact e
      rw [Int.mul_assoc (M * M), this, Int.mul_sub, Int.mul_assoc (M * M), Int.mul_neg]
      lia
    have a2 : f * d * p <= M * M * N * p := Int.mul_le_mul_of_nonneg_right hfl (Int.le_of_lt hp)
    have a3 : f * p * d = f * d * p := by rw [Int.mul_assoc, Int.mul_comm p d, <- Int.mul_assoc]
    by_cases c0 : b = 0
    . rw [if_pos c0, Int.add_zero, a1, a3, c0]
      simp only [Int.mul_zero, Int.neg_zero, Int.add_zero]
      exact a2
    . rw [if_neg c0]
      have a4 : 1 <= -(g * b) := by
        have := Int.mul_pos (show 0 < -g by lia) (show 0 < b by lia)
        rw [Int.neg_mul] at this
        lia
      have a5 : M * M * 1 <= M * M * (-(g * b)) := Int.mul_le_mul_of_nonneg_left a4 (Int.mul_nonneg (Int.le_of_lt hM) (Int.le_of_lt hM))
      rw [Int.add_mul, Int.add_mul, Int.one_mul, a3, a1]
      rw [Int.mul_comm d p] at hMM
      lia
  exact Int.le_of_mul_le_mul_right key hd
theorem Wf.phi_le (W : Wf m q V S) {M : Int} (h1 : S.T m q <= M) (h0 : 0 < M) : phi m q M S <= M * M * M := by
  unfold phi
  refine Int.ediv_le_of_le_mul W.pos ?_
  have a1 : M * M * S.T m q <= M * M * M := Int.mul_le_mul_of_nonneg_left h1 (Int.mul_nonneg (Int.le_of_lt h0) (Int.le_of_lt h0))
  have a2 : M * M * M * 1 <= M * M * M * S.d := Int.mul_le_mul_of_nonneg_left (by have := W.pos; lia) (Int.mul_nonneg (Int.mul_nonneg (Int.le_of_lt h0) (Int.le_of_lt h0)) (Int.le_of_lt h0))
  lia
end
section
variable {m q : Nat} {V : Nat -> w6} {S : Nat -> Bo} {R C : Nat -> Nat}
theorem Seq.part_lt (Q : Seq m q V S R C) (k v : Nat) (h : a2Q S R C k v) : v < q + m := by
  rcases h with h | h
  . rw [h]; exact (Q.wf k).ib _ (Q.ch k).hr
  . rw [h]; exact (Q.wf k).ob _ (Q.ch k).hc
theorem Seq.never (Q : Seq m q V S R C) {M : Nat} (hM : ∀ v, Fits M (m + 1) (V v)) : False := by
  obtain ⟨B, hB⟩ : ∃ B : Int, B = (bnd M (m + 1) : Int) := ⟨_, rfl⟩
  have bT : ∀ k i j, i < m + 1 -> j < q + 1 -> (S k).T i j <= B := fun k i j hi hj => by
    have := (Q.wf k).bndT hM hi hj
    lia
  have bd : ∀ k, (S k).d <= B := fun k => by
    have := (Q.wf k).bndd hM
    lia
  have B0 : 0 < B := by have := bd 0; have := (Q.wf 0).pos; lia
  have up : ∀ k, phi m q B (S k) + (if (S k).T (R k) q = 0 then 0 else 1) <= phi m q B (S (k + 1)) := fun k => by
    rw [Q.st k]
    exact (Q.wf k).gain (Q.ch k) (bd k) (bT k _ _ (by have := (Q.ch k).hr; lia) (by have := (Q.ch k).hc; lia))
  have mono : ∀ n k, phi m q B (S k) <= phi m q B (S (k + n)) := fun n => by
    induction n with
    | zero => intro k; exact Int.le_refl _
    | succ n ih =>
      intro k
      have h1 := ih k
      have h2 := up (k + n)
      have h3 : phi m q B (S (k + n)) <= phi m q B (S (k + n + 1)) := by
        split at h2 <;> lia
      exact Int.le_trans h1 h3
  have X4 : ∀ k, phi m q B (S k) <= B * B * B := fun k => (Q.wf k).phi_le (bT k m q (by lia) (by lia)) B0
  have gap : ∀ (g : Nat) (k : Nat), B * B * B - phi m q B (S k) <= (g : Int) -> False := by
    intro g
    induction g with
    | zero =>
      intro k hk
      have : ∃ j, k <= j /\ j < k + 2 ^ (q + m) /\ ¬ Dg q S R j := by
        refine Classical.byContradiction fun hn => ?_
        have := Q.short (q + m) k (k + 2 ^ (q + m)) (Nat.le_add_right _ _) (fun j h1 h2 => Classical.byContradiction fun z => hn ⟨j, h1, h2, z⟩) fun j _ _ v hv => Q.part_lt j v hv
        lia
      obtain ⟨j, h1, h2, h3⟩ := this
      have u := up j
      rw [if_neg (show ¬ (S j).T (R j) q = 0 from h3)] at u
      have m1 := mono (j - k) k
      rw [show k + (j - k) = j by lia] at m1
      have := X4 (j + 1)
      lia
    | succ g ih =>
      intro k hk
      have : ∃ j, k <= j /\ j < k + 2 ^ (q + m) /\ ¬ Dg q S R j := by
        refine Classical.byContradiction fun hn => ?_
        have := Q.short (q + m) k (k + 2 ^ (q + m)) (Nat.le_add_right _ _) (fun j h1 h2 => Classical.byContradiction fun z => hn ⟨j, h1, h2, z⟩) fun j _ _ v hv => Q.part_lt j v hv
        lia
      obtain ⟨j, h1, h2, h3⟩ := this
      have u := up j
      rw [if_neg (show ¬ (S j).T (R j) q = 0 from h3)] at u
      have m1 := mono (j - k) k
      rw [show k + (j - k) = j by lia] at m1
      exact ih (j + 1) (by lia)
  exact gap (B * B * B - phi m q B (S 0)).toNat 0 (by lia)
end
inductive Ends (m q : Nat) : Bo -> Nat -> Prop
  | stop {S : Bo} : (¬ ∃ r c, Choice m q S r c) -> Ends m q S 0
  | go {S : Bo} {r c k : Nat} : Choice m q S r c -> Ends m q (piv S r c) k -> Ends m q S (k + 1)
theorem Choice.uniq {m q : Nat} {V : Nat -> w6} {S : Bo} (W : Wf m q V S) {r c r' c' : Nat} (h : Choice m q S r c) (h' : Choice m q S r' c') : r = r' /\ c = c' := by
  have ec : c = c' := W.oo c c' h.hc h'.hc (Nat.le_antisymm (h.minc c' h'.hc h'.neg) (h'.minc c h.hc h.neg))
  subst ec
  have e1 := h.ratio r' h'.hr h'.pos
  have e2 := h'.ratio r h.hr h.pos
  have e : S.T r q * S.T r' c = S.T r' q * S.T r c := by lia
  exact ⟨W.ii r r' h.hr h'.hr (Nat.le_antisymm (h.tie r' h'.hr h'.pos e) (h'.tie r h.hr h.pos e.symm)), rfl⟩
theorem Ends.next {m q : Nat} {V : Nat -> w6} {S : Bo} (W : Wf m q V S) {k r c : Nat} (h : Ends m q S k) (C : Choice m q S r c) : ∃ j, j < k /\ Ends m q (piv S r c) j := by
  cases h with
  | stop hn => exact absurd ⟨r, c, C⟩ hn
  | go C' h' =>
    obtain ⟨rfl, rfl⟩ := C.uniq W C'
    exact ⟨_, Nat.lt_succ_self _, h'⟩
theorem Wf.ends {m q : Nat} {V : Nat -> w6} {M : Nat} (hM : ∀ v, Fits M (m + 1) (V v)) {S : Bo} (W : Wf m q V S) : ∃ k, Ends m q S k := by
  refine Classical.byContradiction fun hn => ?_
  have ch : ∀ S', Wf m q V S' -> (¬ ∃ k, Ends m q S' k) -> ∃ p : Nat × Nat, Choice m q S' p.1 p.2 := fun S' _ h' => by
    refine Classical.byContradiction fun z => h' ⟨0, .stop fun ⟨r, c, C⟩ => z ⟨(r, c), C⟩⟩
  let St := { S' : Bo // Wf m q V S' /\ ¬ ∃ k, Ends m q S' k }
  let pk : (X : St) -> Nat × Nat := fun X => (ch X.1 X.2.1 X.2.2).choose
  have pc : ∀ X : St, Choice m q X.1 (pk X).1 (pk X).2 := fun X => (ch X.1 X.2.1 X.2.2).choose_spec
  let nx : St -> St := fun X => ⟨piv X.1 (pk X).1 (pk X).2, X.2.1.pivot (pc X).hr (pc X).hc (pc X).pos (pc X).ratio, fun ⟨k, e⟩ => X.2.2 ⟨k + 1, .go (pc X) e⟩⟩
  let sq : Nat -> St := fun k => Nat.rec ⟨S, W, hn⟩ (fun _ X => nx X) k
  exact Seq.never (S := fun k => (sq k).1) (R := fun k => (pk (sq k)).1) (C := fun k => (pk (sq k)).2) ⟨W, fun k => pc (sq k), fun k => rfl⟩ hM
end Lp
namespace Lp
def Vv (m q : Nat) (A : Nat -> Nat -> Int) (b c : Nat -> Int) : Nat -> w6 := fun v x =>
  if v < q then (if x < m then A x v else if x = m then - c v else 0) else if v < q + m + 1 then (if x = v - q then 1 else 0) else (if x < m then b x else 0)
def S0 (m q : Nat) (A : Nat -> Nat -> Int) (b c : Nat -> Int) : Bo where
  d := 1
  T := fun i j => if j < q then (if i < m then A i j else - c j) else (if i < m then b i else 0)
  ins := fun i => q + i
  outs := fun j => if j < q then j else q + m + 1
section
variable {m q : Nat} {A : Nat -> Nat -> Int} {b c : Nat -> Int}
theorem a9i {v x : Nat} (h : v < q) : Vv m q A b c v x = if x < m then A x v else if x = m then - c v else 0 := by unfold Vv; rw [if_pos h]
theorem b0O {i : Nat} (h : i < m + 1) : Vv m q A b c (q + i) = M1 i := by
  funext x
  unfold Vv M1
  rw [if_neg (by lia), if_pos (by lia), show q + i - q = i by lia]
theorem b0L {x : Nat} : Vv m q A b c (q + m + 1) x = if x < m then b x else 0 := by unfold Vv; rw [if_neg (by lia), if_neg (by lia)]
theorem a8S {v x : Nat} (h : m < x) : Vv m q A b c v x = 0 := by
  unfold Vv
  by_cases h1 : v < q
  . rw [if_pos h1, if_neg (by lia), if_neg (by lia)]
  . rw [if_neg h1]
    by_cases h2 : v < q + m + 1
    . rw [if_pos h2, if_neg (by lia)]
    . rw [if_neg h2, if_neg (by lia)]
theorem Bs0 : Bs m (Vv m q A b c) (S0 m q A b c).ins = (List.range (m + 1)).map M1 := by
  unfold Bs
  exact List.map_congr_left fun i hi => b0O (List.mem_range.mp hi)
theorem a2S {n k : Nat} (h : k < n) : ((List.range n).map M1).getD k zv = M1 k := by rw [List.getD_eq_getElem?_getD, List.getElem?_map, List.getElem?_range h]; rfl
theorem a1B {n : Nat} {u : w6} (hu : ∀ x, n <= x -> u x = 0) (x : Nat) : sumTo (fun k => u k * M1 k x) n = u x := by
  by_cases h : x < n
  . rw [sum_one h fun k _ hn => by show u k * (if x = k then 1 else 0) = 0; rw [if_neg (Ne.symm hn), Int.mul_zero]]
    show u x * (if x = x then 1 else 0) = u x
    rw [if_pos rfl, Int.mul_one]
  . rw [hu x (by lia)]
    refine sum_zero fun k hk => ?_
    show u k * (if x = k then 1 else 0) = 0
    rw [if_neg (by lia), Int.mul_zero]
theorem V3 {n i : Nat} (hi : i < n) {u : w6} (hu : ∀ x, n <= x -> u x = 0) : v5 n (((List.range n).map M1).set i u) = u i := by
  have hl : ((List.range n).map M1).length = n := by rw [List.length_map, List.length_range]
  have h := a0d hl hi u M1 n
  have e : (fun x : Nat => sumTo (fun k => u k * M1 k x) n) = u := by funext x; exact a1B hu x
  rw [e, sum_one hi fun k hk hn => ?_] at h
  . rw [h, <- a2S hi, K1 (by lia), X2, Int.mul_one]
  . have : v5 n (((List.range n).map M1).set i (M1 k)) = 0 := by
      refine Q5 (i := k) (k := i) (u := M1 k) (by rw [List.length_set]; exact hl) hn ?_ ?_
      . rw [List.getElem?_set_ne (Ne.symm hn), List.getElem?_map, List.getElem?_range hk]; rfl
      . rw [List.getElem?_set_self (by lia)]
    rw [this, Int.mul_zero]
theorem wf0 (hb : ∀ i, i < m -> 0 <= b i) : Wf m q (Vv m q A b c) (S0 m q A b c) := by
  have far : ∀ v x, m + 1 <= x -> Vv m q A b c v x = 0 := fun v x h => a8S (by lia)
  refine ⟨?_, fun i j hi hj => ?_, fun j hj x => ?_, Int.one_pos, fun i hi => ?_, rfl, ?_, fun i hi => ?_, fun j hj => ?_, fun i k hi hk e => ?_, fun j k hj hk e => ?_, fun i j hi hj e => ?_, fun v hv => ?_⟩
  . rw [Bs0, X2]; rfl
  . rw [Bs0, V3 hi (far _)]
    show (if j < q then (if i < m then A i j else - c j) else (if i < m then b i else 0)) = Vv m q A b c (if j < q then j else q + m + 1) i
    by_cases h : j < q
    . rw [if_pos h, if_pos h, a9i h]
      by_cases h2 : i < m
      . rw [if_pos h2, if_pos h2]
      . rw [if_neg h2, if_neg h2, if_pos (by lia)]
    . rw [if_neg h, if_neg h, b0L]
  . rw [Bs0, X2, Int.one_mul]
    have e : sumTo (fun k => v5 (m + 1) (((List.range (m + 1)).map M1).set k (Vv m q A b c ((S0 m q A b c).outs j))) * (((List.range (m + 1)).map M1).getD k zv) x) (m + 1) = sumTo (fun k => Vv m q A b c ((S0 m q A b c).outs j) k * M1 k x) (m + 1) :=
      sum_congr fun k hk => by rw [V3 hk (far _), a2S hk]
    rw [e, a1B (far _)]
  . show 0 <= (if q < q then _ else (if i < m then b i else 0))
    rw [if_neg (Nat.lt_irrefl _), if_pos hi]; exact hb i hi
  . show (if q < q then q else q + m + 1) = q + m + 1
    rw [if_neg (Nat.lt_irrefl _)]
  . show q + i < q + m; lia
  . show (if j < q then j else q + m + 1) < q + m
    rw [if_pos hj]; lia
  . replace e : q + i = q + k := e
    lia
  . replace e : (if j < q then j else q + m + 1) = (if k < q then k else q + m + 1) := e
    rw [if_pos hj, if_pos hk] at e
    exact e
  . replace e : q + i = (if j < q then j else q + m + 1) := e
    rw [if_pos hj] at e
    lia
  . by_cases h : v < q
    . exact .inr ⟨v, h, if_pos h⟩
    . exact .inl ⟨v - q, by lia, by show q + (v - q) = v; lia⟩
theorem ker0 {z : Nat -> Int} : Ker m q (Vv m q A b c) (S0 m q A b c) z ↔ (∀ i, i < m -> z (q + i) + sumTo (fun j => A i j * z j) q + b i * z (q + m + 1) = 0) /\ z (q + m) = sumTo (fun j => c j * z j) q := by
  have e : ∀ x, sumTo (fun k => z ((S0 m q A b c).ins k) * Vv m q A b c ((S0 m q A b c).ins k) x) (m + 1) + sumTo (fun j => z ((S0 m q A b c).outs j) * Vv m q A b c ((S0 m q A b c).outs j) x) (q + 1)
      = (if x < m + 1 then z (q + x) else 0) + (sumTo (fun j => z j * Vv m q A b c j x) q + z (q + m + 1) * (if x < m then b x else 0)) := fun x => by
    have e1 : sumTo (fun k => z ((S0 m q A b c).ins k) * Vv m q A b c ((S0 m q A b c).ins k) x) (m + 1) = if x < m + 1 then z (q + x) else 0 := by
      have : sumTo (fun k => z ((S0 m q A b c).ins k) * Vv m q A b c ((S0 m q A b c).ins k) x) (m + 1) = sumTo (fun k => z (q + k) * M1 k x) (m + 1) := sum_congr fun k hk => by
        show z (q + k) * Vv m q A b c (q + k) x = _
        rw [b0O hk]
      rw [this]
      by_cases h : x < m + 1
      . rw [if_pos h, sum_one h fun k _ hn => by show z (q + k) * (if x = k then 1 else 0) = 0; rw [if_neg (Ne.symm hn), Int.mul_zero]]
        show z (q + x) * (if x = x then 1 else 0) = _
        rw [if_pos rfl, Int.mul_one]
      . rw [if_neg h]
        refine sum_zero fun k hk => ?_
        show z (q + k) * (if x = k then 1 else 0) = 0
        rw [if_neg (by lia), Int.mul_zero]
    have e2 : sumTo (fun j => z ((S0 m q A b c).outs j) * Vv m q A b c ((S0 m q A b c).outs j) x) (q + 1) = sumTo (fun j => z j * Vv m q A b c j x) q + z (q + m + 1) * (if x < m then b x else 0) := by
      show sumTo (fun j => z (if j < q then j else q + m + 1) * Vv m q A b c (if j < q then j else q + m + 1) x) q + z (if q < q then q else q + m + 1) * Vv m q A b c (if q < q then q else q + m + 1) x = _
      rw [if_neg (Nat.lt_irrefl _), b0L]
      have : sumTo (fun j => z (if j < q then j else q + m + 1) * Vv m q A b c (if j < q then j else q + m + 1) x) q = sumTo (fun j => z j * Vv m q A b c j x) q := sum_congr fun j hj => by rw [if_pos hj]
      rw [this]
    rw [e1, e2]
  have am : ∀ i, i < m -> sumTo (fun j => z j * Vv m q A b c j i) q = sumTo (fun j => A i j * z j) q := fun i hi => sum_congr fun j hj => by rw [a9i hj, if_pos hi, Int.mul_comm]
  have ob : sumTo (fun j => z j * Vv m q A b c j m) q = - sumTo (fun j => c j * z j) q := by
    rw [show - sumTo (fun j => c j * z j) q = (-1) * sumTo (fun j => c j * z j) q by lia, <- v8]
    refine sum_congr fun j hj => ?_
    rw [a9i hj, if_neg (Nat.lt_irrefl _), if_pos rfl, Int.mul_neg, Int.mul_comm]
    lia
  constructor
  . intro h
    refine ⟨fun i hi => ?_, ?_⟩
    . have := h i
      rw [e i, if_pos (by lia), if_pos hi, am i hi, Int.mul_comm (z (q + m + 1))] at this
      lia
    . have := h m
      rw [e m, if_pos (by lia), if_neg (Nat.lt_irrefl _), ob, Int.mul_zero] at this
      lia
  . rintro ⟨h1, h2⟩ x
    rw [e x]
    by_cases c1 : x < m
    . have := h1 x c1
      rw [if_pos (by lia), if_pos c1, am x c1, Int.mul_comm (z (q + m + 1))]
      lia
    . by_cases c2 : x = m
      . subst c2
        rw [if_pos (by lia), if_neg (Nat.lt_irrefl _), ob, Int.mul_zero]
        lia
      . rw [if_neg (by lia), if_neg c1, Int.mul_zero, sum_zero fun j hj => by rw [a8S (by lia), Int.mul_zero]]
        rfl
end
def valIn (m : Nat) (S : Bo) (q v : Nat) : Int := sumTo (fun i => if S.ins i = v then S.T i q else 0) m
def valOut (m q : Nat) (S : Bo) (v : Nat) : Int := sumTo (fun j => if S.outs j = v then S.T m j else 0) q
theorem a3z {g : Nat -> Int} : ∀ {n : Nat}, (∀ k, k < n -> 0 <= g k) -> 0 <= sumTo g n
  | 0, _ => Int.le_refl 0
  | n + 1, h => by
    have h1 := a3z (g := g) (n := n) fun k hk => h k (by lia)
    have h2 := h n (by lia)
    show 0 <= sumTo g n + g n
    lia
section
variable {m q : Nat} {A : Nat -> Nat -> Int} {b c : Nat -> Int} {S : Bo}
structure Of (m q : Nat) (A : Nat -> Nat -> Int) (b c : Nat -> Int) (S : Bo) : Prop where
  w : Wf m q (Vv m q A b c) S
  k : ∀ z, Ker m q (Vv m q A b c) S z ↔ Ker m q (Vv m q A b c) (S0 m q A b c) z
theorem of0 (hb : ∀ i, i < m -> 0 <= b i) : Of m q A b c (S0 m q A b c) := ⟨wf0 hb, fun _ => Iff.rfl⟩
theorem Of.piv (O : Of m q A b c S) {r cc : Nat} (C : Choice m q S r cc) : Of m q A b c (Lp.piv S r cc) :=
  ⟨O.w.pivot C.hr C.hc C.pos C.ratio, fun z => (Ker.piv C.hr C.hc).trans (O.k z)⟩
theorem Of.valIn_nn (O : Of m q A b c S) (v : Nat) : 0 <= valIn m S q v := a3z fun i hi => by
  split
  . exact O.w.feas i hi
  . exact Int.le_refl 0
theorem Of.ray_val (O : Of m q A b c S) {v : Nat} (hv : v < q + m) : ray m S q v = - valIn m S q v := by
  unfold ray
  rw [if_neg (by rw [O.w.oq]; lia)]
  show sumTo _ m + (if S.ins m = v then - S.T m q else 0) = _
  rw [if_neg (by rw [O.w.im]; lia), Int.add_zero]
  unfold valIn
  rw [show - sumTo (fun i => if S.ins i = v then S.T i q else 0) m = (-1) * sumTo (fun i => if S.ins i = v then S.T i q else 0) m by lia, <- v8]
  refine sum_congr fun i _ => ?_
  split <;> lia
theorem Of.primal (O : Of m q A b c S) : (∀ i, i < m -> sumTo (fun j => A i j * valIn m S q j) q + valIn m S q (q + i) = b i * S.d) /\ sumTo (fun j => c j * valIn m S q j) q = S.T m q := by
  have K := (ker0.mp ((O.k _).mp (O.w.ray_ker (show q < q + 1 by lia))))
  have co : ray m S q (q + m + 1) = S.d := by rw [<- O.w.oq]; exact Wf.ray_c
  have oo : ray m S q (q + m) = - S.T m q := by rw [<- O.w.im]; exact O.w.ray_in (by lia) (by lia)
  have am : ∀ g : Nat -> Int, sumTo (fun j => g j * ray m S q j) q = - sumTo (fun j => g j * valIn m S q j) q := fun g => by
    rw [show - sumTo (fun j => g j * valIn m S q j) q = (-1) * sumTo (fun j => g j * valIn m S q j) q by lia, <- v8]
    refine sum_congr fun j hj => ?_
    rw [O.ray_val (by lia), Int.mul_neg]
    lia
  refine ⟨fun i hi => ?_, ?_⟩
  . have := K.1 i hi
    rw [O.ray_val (by lia), am, co] at this
    lia
  . have := K.2
    rw [oo, am] at this
    lia
theorem Of.valOut_nn (h : ∀ j, j < q -> 0 <= S.T m j) (v : Nat) : 0 <= valOut m q S v := a3z fun j hj => by
  split
  . exact h j hj
  . exact Int.le_refl 0
theorem a6t (O : Of m q A b c S) (z : Nat -> Int) : sumTo (fun j => S.T m j * z (S.outs j)) q = sumTo (fun v => valOut m q S v * z v) (q + m) := by
  have e : ∀ v, v < q + m -> valOut m q S v * z v = sumTo (fun j => (if S.outs j = v then S.T m j else 0) * z v) q := fun v _ => by
    unfold valOut
    rw [Int.mul_comm, <- v8]
    exact sum_congr fun j _ => Int.mul_comm _ _
  rw [sum_congr e, W3]
  refine sum_congr fun j hj => ?_
  rw [sum_one (O.w.ob j hj) fun v _ hn => by rw [if_neg (Ne.symm hn), Int.zero_mul], if_pos rfl]
theorem Of.row_goal (O : Of m q A b c S) {z : Nat -> Int} (h : Ker m q (Vv m q A b c) (S0 m q A b c) z) : S.d * z (q + m) + sumTo (fun v => valOut m q S v * z v) (q + m) + S.T m q * z (q + m + 1) = 0 := by
  have R := O.w.row_of ((O.k z).mpr h) (show m < m + 1 by lia)
  unfold a0U at R
  replace R : S.d * z (S.ins m) + (sumTo (fun j => S.T m j * z (S.outs j)) q + S.T m q * z (S.outs q)) = 0 := R
  rw [O.w.im, O.w.oq, a6t O] at R
  lia
theorem Y2 {g : Nat -> Int} (n : Nat) : ∀ k : Nat, sumTo g (n + k) = sumTo g n + sumTo (fun i => g (n + i)) k
  | 0 => (Int.add_zero _).symm
  | k + 1 => by
    show sumTo g (n + k) + g (n + k) = sumTo g n + (sumTo (fun i => g (n + i)) k + g (n + k))
    rw [Y2 n k]
    lia
theorem Of.dual (O : Of m q A b c S) : (∀ j, j < q -> sumTo (fun i => A i j * valOut m q S (q + i)) m = c j * S.d + valOut m q S j) /\ sumTo (fun i => b i * valOut m q S (q + i)) m = S.T m q := by
  constructor
  . intro j hj
    have hk : Ker m q (Vv m q A b c) (S0 m q A b c) (fun v => if v < q then (if v = j then 1 else 0) else if v < q + m then - A (v - q) j else if v = q + m then c j else 0) := by
      refine ker0.mpr ⟨fun i hi => ?_, ?_⟩
      . rw [if_neg (by lia), if_pos (by lia), show q + i - q = i by lia, if_neg (by lia), if_neg (by lia), if_neg (by lia), Int.mul_zero, sum_one hj fun k hk hn => by rw [if_pos hk, if_neg hn, Int.mul_zero], if_pos hj, if_pos rfl]
        lia
      . rw [if_neg (by lia), if_neg (by lia), if_pos rfl, sum_one hj fun k hk hn => by rw [if_pos hk, if_neg hn, Int.mul_zero], if_pos hj, if_pos rfl]
        lia
    have R := O.row_goal hk
    rw [if_neg (by lia), if_neg (by lia), if_pos rfl, if_neg (by lia), if_neg (by lia), if_neg (by lia), Int.mul_zero, Y2, sum_one hj fun k hk hn => by rw [if_pos hk, if_neg hn, Int.mul_zero], if_pos hj, if_pos rfl] at R
    have e : sumTo (fun i => valOut m q S (q + i) * (if q + i < q then (if q + i = j then 1 else 0) else if q + i < q + m then - A (q + i - q) j else if q + i = q + m then c j else 0)) m = - sumTo (fun i => A i j * valOut m q S (q + i)) m := by
      rw [show - sumTo (fun i => A i j * valOut m q S (q + i)) m = (-1) * sumTo (fun i => A i j * valOut m q S (q + i)) m by lia, <- v8]
      refine sum_congr fun i hi => ?_
      rw [if_neg (by lia), if_pos (by lia), show q + i - q = i by lia, Int.mul_neg, Int.mul_comm]
      lia
    rw [e, Int.mul_comm S.d] at R
    lia
  . have hk : Ker m q (Vv m q A b c) (S0 m q A b c) (fun v => if v < q then 0 else if v < q + m then b (v - q) else if v = q + m then 0 else -1) := by
      refine ker0.mpr ⟨fun i hi => ?_, ?_⟩
      . rw [if_neg (by lia), if_pos (by lia), show q + i - q = i by lia, if_neg (by lia), if_neg (by lia), if_neg (by lia), sum_zero fun k hk => by rw [if_pos hk, Int.mul_zero]]
        lia
      . rw [if_neg (by lia), if_neg (by lia), if_pos rfl, sum_zero fun k hk => by rw [if_pos hk, Int.mul_zero]]
    have R := O.row_goal hk
    rw [if_neg (by lia), if_neg (by lia), if_pos rfl, if_neg (by lia), if_neg (by lia), if_neg (by lia), Int.mul_zero, Y2, sum_zero fun k hk => by rw [if_pos hk, Int.mul_zero]] at R
    have e : sumTo (fun i => valOut m q S (q + i) * (if q + i < q then 0 else if q + i < q + m then b (q + i - q) else if q + i = q + m then 0 else -1)) m = sumTo (fun i => b i * valOut m q S (q + i)) m :=
      sum_congr fun i hi => by rw [if_neg (by lia), if_pos (by lia), show q + i - q = i by lia, Int.mul_comm]
    rw [e] at R
    lia
end
end Lp
namespace Rim
open PySem L2
def X4 (i : Nat) : Stmt := PySem.Challenge.pw_rimhouse_k33_hundreds_of_kept_deeds.main.body.getD i (.Pass ⟨0, 0, 0, 0⟩)
abbrev a9j : Stmt := X4 10
abbrev a9H : Stmt := X4 11
abbrev a9r : Stmt := X4 18
abbrev a3r : Stmt := X4 25
abbrev D7 : Stmt := X4 27
abbrev G8 : Stmt := X4 30
abbrev S7 : Stmt := X4 31
abbrev a6j : Stmt := X4 33
abbrev a3d : Stmt := X4 34
abbrev a0R : Stmt := X4 22
abbrev a7n : Stmt := X4 39
abbrev a3i : Stmt := X4 40
abbrev U9 : Stmt := X4 45
abbrev U7 : Stmt := X4 15
abbrev L6 : Stmt := X4 16
abbrev U1 : Stmt := X4 17
abbrev G7 : Stmt := X4 20
abbrev E5 : Stmt := X4 21
abbrev J4 : Stmt := X4 23
abbrev Y1 : Stmt := X4 36
abbrev U5 : Stmt := X4 37
abbrev N8 : Stmt := X4 41
abbrev J5 : Stmt := X4 42
abbrev O5 : Stmt := X4 43
abbrev C4 : Stmt := X4 44
abbrev E6 : Stmt := y4 U5 0
abbrev x0 : Stmt := y4 U5 1
abbrev P3 : Stmt := y4 U5 2
abbrev Y4 : Stmt := y4 U5 3
abbrev N7 : Stmt := y4 U5 4
abbrev P2 : Stmt := y4 U5 5
abbrev K9 : Stmt := y4 U5 6
abbrev V0 : Stmt := X4 26
abbrev a2H : Stmt := y4 V0 0
abbrev a1T : Stmt := y4 V0 1
abbrev a3q : Stmt := y4 V0 2
abbrev a3K : Stmt := y4 V0 3
abbrev G5 : Stmt := y4 V0 4
abbrev a7i : Stmt := y4 V0 5
abbrev a9X : Stmt := y4 V0 6
abbrev a6T : Pos := ⟨86, 32, 86, 64⟩
end Rim
namespace Rim
open PySem L2
structure t9 (mg : Str -> Option Value) : Prop where
  len : mg "len" = none
  all : mg "all" = none
  any : mg "any" = none
  max : mg "max" = none
  min : mg "min" = none
  sum : mg "sum" = none
  tuple : mg "tuple" = none
  list : mg "list" = none
  int : mg "int" = none
  bool : mg "bool" = none
  range : mg "range" = none
  isi : mg "isinstance" = none
  abs : mg "abs" = none
  zip : mg "zip" = none
  enum : mg "enumerate" = none
  ve : mg "ValueError" = none
  so : mg "sorted" = none
theorem a3F (K : W.Frag) {X : Cx} (h : X.K = K) : IxR X (b1z K) := by subst h; exact j5
theorem U8 (K : W.Frag) {X : Cx} {es : List Expr} {k : Nat} {t : TGs} {n : Nat} {pos : Pos} (h : X.K = K) (hc : X.calm = true) (hp : PGs X es t) (hn : (assignEach es X.env).length = n := by rfl) (hst : (assignEach es X.env).findIdx? (·.1) = none := by rfl) : PG X (.Tuple es k pos) (a3I K n t) := by subst h; exact X7 hc hp hn hst
def b1m (K : W.Frag) : List V -> Hp -> VK -> Prop := fun xs H Q => ∃ p ys, xs = [.ref p] /\ (SqL K H p ys \/ SqT K H p ys) /\ ∀ l, H l = none -> Q (.ref l) (j9 H l (.lst ys))
theorem a4o (K : W.Frag) {X : Cx} (h : X.K = K) : G6 X (.type "list") (b1m K) := by subst h; exact A5
def vI : V -> Int
  | .int i => i
  | _ => 0
theorem U0 {ns : List Int} {i : Nat} {x : V} (h : (ns.map V.int)[i]? = some x) : ∃ k, x = .int k := by
  rw [List.getElem?_map] at h
  cases hn : ns[i]? with
  | none => rw [hn] at h; cases h
  | some k => rw [hn] at h; cases h; exact ⟨k, rfl⟩
theorem b0P {N : VK} {b b' : Bool} {H : Hp} (h : N (.bl b) H) (e : b' = b) : N (.bl b') H := by rw [e]; exact h
abbrev h8 := List Int × List Int
def HS (K : W.Frag) (H : Hp) (v : V) (h : h8) : Prop := ∃ a t g, v = .ref a /\ SqT K H a [.ref t, .ref g] /\ SqT K H t (h.1.map V.int) /\ SqT K H g (h.2.map V.int)
abbrev Bk (K : W.Frag) (H : Hp) : List V -> List h8 -> Prop := PySem.Paired (HS K H)
theorem HS.same {K : W.Frag} {H H' : Hp} {v : V} {h : h8} (e : Same H H') (x : HS K H v h) : HS K H' v h := by
  obtain ⟨a, t, g, h0, h1, h2, h3⟩ := x
  exact ⟨a, t, g, h0, e.tseq h1, e.tseq h2, e.tseq h3⟩
theorem Bk.same {K : W.Frag} {H H' : Hp} {vs : List V} {hs : List h8} (e : Same H H') (x : Bk K H vs hs) : Bk K H' vs hs := Paired.imp' (fun _ _ r => HS.same e r) x
theorem Paired.at {α β : Type} {F : α -> β -> Prop} : ∀ {l₁ : List α} {l₂ : List β}, PySem.Paired F l₁ l₂ -> ∀ {i : Nat} {x : α}, l₁[i]? = some x -> ∃ y, l₂[i]? = some y /\ F x y
  | _, _, .nil, _, _, e => by simp at e
  | _, _, .cons r _, 0, _, e => by simp at e; subst e; exact ⟨_, rfl, r⟩
  | _, _, .cons _ t, i + 1, x, e => by
    obtain ⟨y, h1, h2⟩ := Paired.at t (i := i) (x := x) (by simpa using e)
    exact ⟨y, by simpa using h1, h2⟩
end Rim
namespace Rim
open PySem L2
def r9 (q : Nat) (S : Lp.Bo) (i : Nat) : List Int := (List.range (q + 1)).map (S.T i)
def D3 (q : Nat) (S : Lp.Bo) : List Int := (List.range q).map fun j => (S.outs j : Int)
def K3 (m : Nat) (S : Lp.Bo) : List Int := (List.range m).map fun i => (S.ins i : Int)
abbrev bdF (q : Nat) (d : Int) (ca oa ia : Addr) : List (Str × V) := [("many", .int q), ("scale", .int d), ("cells", .ref ca), ("outs", .ref oa), ("ins", .ref ia)]
structure Bd (C : Addr) (H : Hp) (p dx ca oa ia : Addr) (rs : List Addr) (m q : Nat) (S : Lp.Bo) : Prop where
  obj : H p = some (.ins C dx (bdF q S.d ca oa ia))
  cel : H ca = some (.lst (rs.map V.ref))
  len : rs.length = m + 1
  row : ∀ i r, rs[i]? = some r -> H r = some (.lst ((r9 q S i).map V.int))
  out : H oa = some (.lst ((D3 q S).map V.int))
  inn : H ia = some (.lst ((K3 m S).map V.int))
  ne : oa ≠ ia
structure TB (K : W.Frag) (C : Addr) : Prop where
  cl : Cls K C
  nM : NoAttr K C "many"
  nS : NoAttr K C "scale"
  nC : NoAttr K C "cells"
  nO : NoAttr K C "outs"
  nI : NoAttr K C "ins"
section
variable {C : Addr} {H H' : Hp} {p dx ca oa ia : Addr} {rs : List Addr} {m q : Nat} {S : Lp.Bo}
theorem Bd.rs_at (B : Bd C H p dx ca oa ia rs m q S) {i : Nat} (h : i < m + 1) : ∃ r, rs[i]? = some r /\ X3 (rs.map V.ref) (i : Int) = some (.ref r) := by
  have h' : i < rs.length := by rw [B.len]; exact h
  refine ⟨rs[i], List.getElem?_eq_getElem h', F0 ?_⟩
  rw [List.getElem?_map, List.getElem?_eq_getElem h']; rfl
theorem S3 {i j : Nat} (h : j < q + 1) : X3 ((r9 q S i).map V.int) (j : Int) = some (.int (S.T i j)) := F0 (by
  unfold r9
  rw [List.getElem?_map, List.getElem?_map, List.getElem?_range h]; rfl)
theorem a4v {α : Type} {xs : List α} {n : Nat} {v : α} (hl : xs.length = n + 1) (h : xs[n]? = some v) : X3 xs (-1) = some v := by
  have e : ixN xs.length (-1) = some n := by
    unfold ixN
    rw [hl, if_neg (by decide), if_pos (by lia)]
    congr 1
    lia
  unfold X3; rw [e]; exact h
theorem R9 {i : Nat} : X3 ((r9 q S i).map V.int) (-1) = some (.int (S.T i q)) := a4v (n := q) (by unfold r9; simp) (by
  unfold r9
  rw [List.getElem?_map, List.getElem?_map, List.getElem?_range (Nat.lt_succ_self _)]; rfl)
theorem Bd.rs_last (B : Bd C H p dx ca oa ia rs m q S) : ∃ r, rs[m]? = some r /\ X3 (rs.map V.ref) (-1) = some (.ref r) := by
  have h' : m < rs.length := by rw [B.len]; exact Nat.lt_succ_self _
  refine ⟨rs[m], List.getElem?_eq_getElem h', a4v (n := m) (by simpa using B.len) ?_⟩
  rw [List.getElem?_map, List.getElem?_eq_getElem h']; rfl
theorem a0o {i : Nat} (h : i < m) : X3 ((K3 m S).map V.int) (i : Int) = some (.int (S.ins i)) := F0 (by
  unfold K3
  rw [List.getElem?_map, List.getElem?_map, List.getElem?_range h]; rfl)
theorem a0r {j : Nat} (h : j < q) : X3 ((D3 q S).map V.int) (j : Int) = some (.int (S.outs j)) := F0 (by
  unfold D3
  rw [List.getElem?_map, List.getElem?_map, List.getElem?_range h]; rfl)
theorem Bd.same1 {P : Addr} (B : Bd C H p dx ca oa ia rs m q S) (e : ∀ b o, H b = some o -> (∀ ps, o ≠ .tbl ps) -> H' b = some o) : Bd C H' p dx ca oa ia rs m q S :=
  ⟨e _ _ B.obj fun _ => nofun, e _ _ B.cel fun _ => nofun, B.len, fun i r h => e _ _ (B.row i r h) fun _ => nofun, e _ _ B.out fun _ => nofun, e _ _ B.inn fun _ => nofun, B.ne⟩
def Sz (n m q : Nat) (S : Lp.Bo) : Prop := (∀ i j, i < m + 1 -> j < q + 1 -> Big n (S.T i j)) /\ Big n S.d
end
section
variable {P : Program} {w : World} {K : W.Frag} {mg : Str -> Option Value} {base : Heap} {f : Addr} {fd : FuncData} {n : Nat} {C : Addr}
theorem a7f {a b : Nat} {x : Int} (h : Big a x) (hab : a <= b) : Big b x := Nat.lt_of_lt_of_le h (Nat.pow_le_pow_right (by decide) hab)
def Y7 (q : Nat) (S : Lp.Bo) (i o c : Nat) : Bool := if S.T i q * S.T o c = S.T o q * S.T i c then decide (S.ins i < S.ins o) else decide (S.T i q * S.T o c < S.T o q * S.T i c)
def a4w (C : Addr) : Sp := fun vs H Q _ => ∃ (p dx ca oa ia : Addr) (rs : List Addr) (m q : Nat) (S : Lp.Bo) (i o c : Nat), vs = [.ref p, .int i, .int o, .int c] /\ Bd C H p dx ca oa ia rs m q S /\ Sz 4000 m q S /\ i < m /\ o < m /\ c < q + 1 /\ Q (.bl (Y7 q S i o c)) H
theorem scAhead : i8 ["self", "row", "other", "column", "left", "right"] ["self", "row", "other", "column"] (d9 a3K) := ⟨rfl, rfl, rfl, by decide +kernel, rfl, by decide +kernel, by decide +kernel⟩
theorem a7d (F : Fun K "is_ahead" "Board.is_ahead" a3K f fd) (T : TB K C) : FnOk P w K mg base D4 (n + 1) f fd ["self", "row", "other", "column"] (a4w C) := by
  refine F.ok scAhead (fun vs H Q E h => ?_) (fun cdv A outer s H vs Q E hr h => ?_)
  . obtain ⟨p, dx, ca, oa, ia, rs, m, q, S, i, o, c, rfl, _⟩ := h
    rfl
  obtain ⟨p, dx, ca, oa, ia, rs, m, q, S, i, o, c, rfl, B, hz, hi, ho, hc, k⟩ := h
  refine ⟨_, d8 (l0 (i := 4) scAhead.nd rfl (Or.inl rfl) (i7 a0j (m8 j5 (m8 j5 (j3 (pv 0) rfl) (pv 1) (fun _ _ => rfl)) (J8 C2 e8) (fun _ _ => rfl)) (m8 j5 (m8 j5 (j3 (pv 0) rfl) (pv 2) (fun _ _ => rfl)) (pv 3) (fun _ _ => rfl))))
    (d8 (l0 (i := 5) scAhead.nd rfl (Or.inl rfl) (i7 a0j (m8 j5 (m8 j5 (j3 (pv 0) rfl) (pv 2) (fun _ _ => rfl)) (J8 C2 e8) (fun _ _ => rfl)) (m8 j5 (m8 j5 (j3 (pv 0) rfl) (pv 1) (fun _ _ => rfl)) (pv 3) (fun _ _ => rfl))))
    (d8 (v6 (j4 T3 (pv 4) (pv 5) (j8 _)) (g0 (m6 (M8 a0y (m8 j5 (j3 (pv 0) rfl) (pv 1) (fun _ _ => rfl)) (m8 j5 (j3 (pv 0) rfl) (pv 2) (fun _ _ => rfl)) (j8 _)))) o4)
    (g0 (m6 (M8 a0y (pv 4) (pv 5) (j8 _)))))), ?_⟩
  obtain ⟨ri, ei, ai⟩ := B.rs_at (i := i) (by lia)
  obtain ⟨ro, eo, ao⟩ := B.rs_at (i := o) (by lia)
  have bi := SqL.of (K := K) (B.row i ri ei)
  have bo := SqL.of (K := K) (B.row o ro eo)
  have z : ∀ i j, i < m + 1 -> j < q + 1 -> Big 1000000 (S.T i j) := fun i j h1 h2 => a7f (hz.1 i j h1 h2) (by decide)
  refine ⟨_, rfl, p, C, dx, _, _, rfl, B.obj, T.cl, T.nC, rfl, _, rfl, ca, _, _, _, rfl, rfl, SqL.of B.cel, ai, _, rfl, ri, _, _, _, rfl, rfl, bi, R9, ?_⟩
  refine ⟨_, rfl, p, C, dx, _, _, rfl, B.obj, T.cl, T.nC, rfl, _, rfl, ca, _, _, _, rfl, rfl, SqL.of B.cel, ao, _, rfl, ro, _, _, _, rfl, rfl, bo, S3 hc, _, _, rfl, rfl, ⟨z _ _ (by lia) (by lia), z _ _ (by lia) (by lia)⟩, ?_⟩
  refine ⟨_, rfl, p, C, dx, _, _, rfl, B.obj, T.cl, T.nC, rfl, _, rfl, ca, _, _, _, rfl, rfl, SqL.of B.cel, ao, _, rfl, ro, _, _, _, rfl, rfl, bo, R9, ?_⟩
  refine ⟨_, rfl, p, C, dx, _, _, rfl, B.obj, T.cl, T.nC, rfl, _, rfl, ca, _, _, _, rfl, rfl, SqL.of B.cel, ai, _, rfl, ri, _, _, _, rfl, rfl, bi, S3 hc, _, _, rfl, rfl, ⟨z _ _ (by lia) (by lia), z _ _ (by lia) (by lia)⟩, ?_⟩
  refine ⟨_, rfl, _, rfl, rfl, _, rfl, ?_⟩
  unfold Y7 at k
  refine A7 (fun e => ?_) (fun e => ?_)
  . have e' : S.T i q * S.T o c = S.T o q * S.T i c := by simpa using e
    rw [if_pos e'] at k
    refine ⟨_, rfl, p, C, dx, _, _, rfl, B.obj, T.cl, T.nI, rfl, _, rfl, ia, _, _, _, rfl, rfl, SqL.of B.inn, a0o hi, _, rfl, p, C, dx, _, _, rfl, B.obj, T.cl, T.nI, rfl, _, rfl, ia, _, _, _, rfl, rfl, SqL.of B.inn, a0o ho, _, _, rfl, rfl, ?_⟩
    refine b0P k ?_
    simp
  . have e' : ¬ S.T i q * S.T o c = S.T o q * S.T i c := by simpa using e
    rw [if_neg e'] at k
    exact ⟨_, rfl, _, rfl, _, _, rfl, rfl, k⟩
end
end Rim
namespace Rim
open PySem L2
structure a5s (P : Program) (w : World) (K : W.Frag) (mg : Str -> Option Value) (base : Heap) (n : Nat) (C : Addr) (m : Str) (ps : List Str) (sp : Sp) (f : Addr) (fd : FuncData) : Prop where
  ok : FnOk P w K mg base D4 n f fd ps sp
  bd : Binds K fd ps []
  me : a3n K C m f
def Bet (q : Nat) (S : Lp.Bo) (c r i : Nat) : Prop := S.T r q * S.T i c <= S.T i q * S.T r c /\ (S.T r q * S.T i c = S.T i q * S.T r c -> S.ins r <= S.ins i)
theorem a5f {ar cr ab cb ai ci : Int} (h1 : ar * cb <= ab * cr) (h2 : ab * ci <= ai * cb) (pr : 0 < cr) (pb : 0 < cb) (pi : 0 < ci) : ar * ci <= ai * cr /\ (ar * ci = ai * cr -> ar * cb = ab * cr /\ ab * ci = ai * cb) := by
  have e1 : ar * cb * ci <= ab * cr * ci := Int.mul_le_mul_of_nonneg_right h1 (Int.le_of_lt pi)
  have e2 : ab * ci * cr <= ai * cb * cr := Int.mul_le_mul_of_nonneg_right h2 (Int.le_of_lt pr)
  have x1 : ar * cb * ci = ar * ci * cb := by rw [Int.mul_assoc, Int.mul_comm cb ci, <- Int.mul_assoc]
  have x2 : ab * cr * ci = ab * ci * cr := by rw [Int.mul_assoc, Int.mul_comm cr ci, <- Int.mul_assoc]
  have x3 : ai * cb * cr = ai * cr * cb := by rw [Int.mul_assoc, Int.mul_comm cb cr, <- Int.mul_assoc]
  rw [x1] at e1
  rw [x3] at e2
  refine ⟨Int.le_of_mul_le_mul_right (a := cb) (by lia) pb, fun e => ?_⟩
  rw [e] at e1
  refine ⟨Int.eq_of_mul_eq_mul_right (a := ci) (by omega) (by rw [x1, e]; omega), Int.eq_of_mul_eq_mul_right (a := cr) (by omega) (by rw [x3]; omega)⟩
theorem Bet.trans {q : Nat} {S : Lp.Bo} {c r b i : Nat} (h1 : Bet q S c r b) (h2 : Bet q S c b i) (pr : 0 < S.T r c) (pb : 0 < S.T b c) (pi : 0 < S.T i c) : Bet q S c r i := by
  obtain ⟨a, t⟩ := a5f h1.1 h2.1 pr pb pi
  exact ⟨a, fun e => Nat.le_trans (h1.2 (t e).1) (h2.2 (t e).2)⟩
theorem a5a {q : Nat} {S : Lp.Bo} {c r b : Nat} (h : Y7 q S r b c = true) : Bet q S c r b := by
  unfold Y7 at h
  by_cases e : S.T r q * S.T b c = S.T b q * S.T r c
  . rw [if_pos e] at h
    exact ⟨Int.le_of_eq e, fun _ => Nat.le_of_lt (of_decide_eq_true h)⟩
  . rw [if_neg e] at h
    have := of_decide_eq_true h
    exact ⟨Int.le_of_lt this, fun z => absurd z e⟩
theorem a7U {q : Nat} {S : Lp.Bo} {c r b : Nat} (h : Y7 q S r b c = false) : Bet q S c b r := by
  unfold Y7 at h
  by_cases e : S.T r q * S.T b c = S.T b q * S.T r c
  . rw [if_pos e] at h
    exact ⟨Int.le_of_eq e.symm, fun _ => Nat.le_of_not_lt (of_decide_eq_false h)⟩
  . rw [if_neg e] at h
    have := of_decide_eq_false h
    exact ⟨by lia, fun z => absurd z.symm e⟩
section
variable {P : Program} {w : World} {K : W.Frag} {mg : Str -> Option Value} {base : Heap} {f g : Addr} {fd gd : FuncData} {n : Nat} {C : Addr}
def a3U (C : Addr) : Sp := fun vs H Q _ => ∃ (p dx ca oa ia : Addr) (rs : List Addr) (m q : Nat) (S : Lp.Bo) (c : Nat), vs = [.ref p, .int c] /\ Bd C H p dx ca oa ia rs m q S /\ Sz 4000 m q S /\ m < 1000 /\ c < q + 1 ∧
  ((∀ i, i < m -> ¬ 0 < S.T i c) -> Q .non H) /\ ∀ r, r < m -> 0 < S.T r c -> (∀ i, i < m -> 0 < S.T i c -> Bet q S c r i) -> Q (.int r) H
theorem scGoing : i8 ["self", "column", "best", "row"] ["self", "column"] (d9 a3q) := ⟨rfl, rfl, rfl, by decide +kernel, rfl, by decide +kernel, by decide +kernel⟩
theorem a5S (F : Fun K "going" "Board.going" a3q f fd) (N : t9 mg) (T : TB K C) (A1 : a5s P w K mg base n C "is_ahead" ["self", "row", "other", "column"] (a4w C) g gd) : FnOk P w K mg base D4 (n + 1) f fd ["self", "column"] (a3U C) := by
  refine F.ok scGoing (fun vs H Q E h => ?_) (fun cdv A outer s H vs Q E hr h => ?_)
  . obtain ⟨p, dx, ca, oa, ia, rs, m, q, S, c, rfl, _⟩ := h
    rfl
  obtain ⟨p, dx, ca, oa, ia, rs, m, q, S, c, rfl, B, hz, hm, hc, kN, kI⟩ := h
  refine ⟨_, d8 (l0 (i := 2) scGoing.nd rfl (Or.inl rfl) J6)
    (d8 (Y5 PassesOwn.never rfl (M5 rfl N.range (a0 (j0 i9 rfl N.len PySem.boot_len (a0 (j3 (pv 0) rfl) d7)) d7)) (m5 (i := 3) scGoing.nd rfl (Or.inl rfl))
      (g0 (v6 (PW.pt (T8 (j4 a0O (m8 j5 (m8 j5 (j3 (pv 0) rfl) (pv 3) (fun _ _ => rfl)) (pv 1) (fun _ _ => rfl)) e8 (j8 _))
          (O7 (PW.pt (a2t (j4 a1K (pv 2) J6 (j8 _)) (a0Y (X8 (G1 (pv 0) T.cl A1.me A1.ok hr A1.bd .nil p9 (a0 (pv 3) (a0 (pv 2) (a0 (pv 1) d7)))))))))))
        (g0 (l0 (i := 2) scGoing.nd rfl (Or.inl rfl) (pv 3))) o4)))
    (g0 (m6 (pv 2)))), ?_⟩
  have lm : ((K3 m S).map V.int).length = m := by unfold K3; simp
  refine ⟨_, rfl, p, C, dx, _, _, rfl, B.obj, T.cl, T.nI, rfl, ia, _, rfl, .inl (SqL.of B.inn), _, rfl, (by rw [lm]; lia), (by rw [lm]; lia), ?_⟩
  rw [lm, Int.toNat_natCast]
  refine Y8 (n := m) (fun k σ H' => ∃ (b o3 : Option V), σ = [some (.ref p), some (.int c), b, o3] /\ H' = H /\ ((b = some .non /\ ∀ i, i < k -> ¬ 0 < S.T i c) \/ ∃ r : Nat, b = some (.int r) /\ r < k /\ 0 < S.T r c /\ ∀ i, i < k -> 0 < S.T i c -> Bet q S c r i))
    ⟨_, _, rfl, rfl, .inl ⟨rfl, fun i hi => absurd hi (Nat.not_lt_zero _)⟩⟩ (fun k σ H' hk hP => ?_) fun σ H' hP => ?_
  . obtain ⟨b, o3, rfl, rfl, hb⟩ := hP
    obtain ⟨rk, ek, ak⟩ := B.rs_at (i := k) (by lia)
    have zk : (0 : Int) + (k : Int) = (k : Int) := Int.zero_add _
    rw [zk]
    refine ⟨_, rfl, p, C, dx, _, _, rfl, B.obj, T.cl, T.nC, rfl, _, rfl, ca, _, _, _, rfl, rfl, SqL.of B.cel, ak, _, rfl, rk, _, _, _, rfl, rfl, SqL.of (B.row k rk ek), S3 hc, _, _, rfl, rfl, _, rfl, ?_⟩
    have keep : ¬ 0 < S.T k c -> ((b = some .non /\ ∀ i, i < k + 1 -> ¬ 0 < S.T i c) \/ ∃ r : Nat, b = some (.int r) /\ r < k + 1 /\ 0 < S.T r c /\ ∀ i, i < k + 1 -> 0 < S.T i c -> Bet q S c r i) := fun hn => by
      rcases hb with ⟨e, hb⟩ | ⟨r, e, h1, h2, h3⟩
      . refine .inl ⟨e, fun i hi => ?_⟩
        by_cases z : i = k
        . subst z; exact hn
        . exact hb i (by lia)
      . refine .inr ⟨r, e, by lia, h2, fun i hi hp => ?_⟩
        by_cases z : i = k
        . subst z; exact absurd hp hn
        . exact h3 i (by lia) hp
    refine A7 (fun d => ?_) (fun d => ?_)
    . have d' : 0 < S.T k c := of_decide_eq_true d
      rcases hb with ⟨rfl, hb⟩ | ⟨r, rfl, h1, h2, h3⟩
      . refine ⟨_, rfl, rfl, _, rfl, ?_⟩
        refine A7 (fun _ => ?_) (fun z => absurd (decide_eq_true rfl) z)
        refine a0c ?_
        refine ⟨_, rfl, ⟨_, _, rfl, rfl, .inr ⟨k, rfl, by lia, d', fun i hi hp => ?_⟩⟩⟩
        by_cases z : i = k
        . subst z; exact ⟨Int.le_refl _, fun _ => Nat.le_refl _⟩
        . exact absurd hp (hb i (by lia))
      . refine ⟨_, rfl, rfl, _, rfl, ?_⟩
        refine A7 (fun z => absurd (of_decide_eq_true z) (by nofun)) (fun _ => ?_)
        refine ⟨_, rfl, p, dx, _, rfl, B.obj, rfl, _, rfl, _, rfl, _, rfl, ?_⟩
        refine ⟨p, dx, ca, oa, ia, rs, m, q, S, k, r, c, rfl, B, hz, hk, by lia, hc, _, rfl, ?_⟩
        refine A7 (fun e => ?_) (fun e => ?_)
        . have bt := a5a e
          refine ⟨_, rfl, ⟨_, _, rfl, rfl, .inr ⟨k, rfl, by lia, d', fun i hi hp => ?_⟩⟩⟩
          by_cases z : i = k
          . subst z; exact ⟨Int.le_refl _, fun _ => Nat.le_refl _⟩
          . exact bt.trans (h3 i (by lia) hp) d' h2 hp
        . have bt := a7U (Bool.eq_false_iff.mpr e)
          refine ⟨_, _, rfl, rfl, .inr ⟨r, rfl, by lia, h2, fun i hi hp => ?_⟩⟩
          by_cases z : i = k
          . subst z; exact bt
          . exact h3 i (by lia) hp
    . have d' : ¬ 0 < S.T k c := fun z => d (decide_eq_true z)
      exact ⟨_, _, rfl, rfl, keep d'⟩
  . obtain ⟨b, o3, rfl, rfl, hb⟩ := hP
    rcases hb with ⟨rfl, hb⟩ | ⟨r, rfl, h1, h2, h3⟩
    . exact ⟨_, rfl, kN hb⟩
    . exact ⟨_, rfl, kI r h1 h2 h3⟩
end
end Rim
namespace Rim
open PySem L2
abbrev b0X : Str := ("Board.coming" ++ ".<locals>.") ++ "<lambda>"
abbrev LT (Pt : Addr) (H : Hp) : Prop := LamTab Pt a6T b0X H
section
variable {P : Program} {w : World} {K : W.Frag} {mg : Str -> Option Value} {base : Heap} {f g c Pt : Addr} {fd gd : FuncData} {n : Nat} {C : Addr}
def a0Q (C Pt : Addr) : Sp := fun vs H Q _ => ∃ (p dx ca oa ia : Addr) (rs : List Addr) (m q : Nat) (S : Lp.Bo), vs = [.ref p] /\ Bd C H p dx ca oa ia rs m q S /\ q < 1000 /\ LT Pt H ∧
  ∀ H', Same1 Pt H H' -> LT Pt H' -> ((∀ j, j < q -> ¬ S.T m j < 0) -> Q .non H') /\ ∀ j, j < q -> S.T m j < 0 -> (∀ i, i < q -> S.T m i < 0 -> S.outs j <= S.outs i) -> Q (.int j) H'
theorem scComing : i8 ["self", "columns"] ["self"] (d9 a1T) := ⟨rfl, rfl, rfl, by decide +kernel, rfl, by decide +kernel, by decide +kernel⟩
theorem b1i : (["column", "self"] : List Str).Nodup := by decide +kernel
theorem LamTab.new {Pt a : Addr} {pos : Pos} {qual : Str} {H : Hp} {o : HO} (T : LamTab Pt pos qual H) (h : H a = none) : LamTab Pt pos qual (j9 H a o) := T.same fun b u e => by rw [c9 (d0 e h)]; exact e
def a4V (q : Nat) (S : Lp.Bo) (m : Nat) : List Int := ((List.range q).filter fun j => decide (S.T m j < 0)).map fun (j : Nat) => (j : Int)
theorem a6h {q : Nat} {S : Lp.Bo} {m : Nat} : ((List.range q).map fun (i : Nat) => V.int (0 + (i : Int))).filter (fun v => decide (S.T m (vI v).toNat < 0)) = (a4V q S m).map V.int := by
  unfold a4V
  rw [List.filter_map, List.map_map]
  have e : ((fun v => decide (S.T m (vI v).toNat < 0)) ∘ fun (i : Nat) => V.int (0 + (i : Int))) = fun j => decide (S.T m j < 0) := by
    funext j
    show decide (S.T m (vI (V.int (0 + (j : Int)))).toNat < 0) = _
    rw [show (vI (V.int (0 + (j : Int)))).toNat = j from by simp [vI]]
  rw [e]
  refine List.map_congr_left fun j _ => ?_
  simp
theorem Bd.lam {H H' : Hp} {p dx ca oa ia : Addr} {rs : List Addr} {m q : Nat} {S : Lp.Bo} (B : Bd C H p dx ca oa ia rs m q S) (T : LT Pt H) (e : Same1 Pt H H') : Bd C H' p dx ca oa ia rs m q S := by
  refine B.same1 (P := Pt) fun b o q n => e b o (fun z => ?_) q
  subst z
  rcases T with t | ⟨c, t, _⟩
  . rw [q] at t; exact n _ (Option.some.inj t)
  . rw [q] at t; exact n _ (Option.some.inj t)
theorem a4W (F : Fun K "coming" "Board.coming" a1T f fd) (hcode : fd.code = .ref c) (CH : W.CodeHd base c Pt) (BM : O6 mg base) (N : t9 mg) (T : TB K C) : FnOk P w K mg base D4 (n + 3) f fd ["self"] (a0Q C Pt) := by
  refine F.okC hcode scComing (fun vs H Q E h => ?_) (fun A outer s H vs Q E hr h => ?_)
  . obtain ⟨p, dx, ca, oa, ia, rs, m, q, S, rfl, _⟩ := h
    rfl
  obtain ⟨p, dx, ca, oa, ia, rs, m, q, S, rfl, B, hq, L, k⟩ := h
  refine ⟨_, d8 (b0l (i := 1) ["column"] [0] scComing.nd rfl rfl rfl (M5 rfl N.range (a0 (j3 (pv 0) rfl) d7)) (fun _ _ _ _ => m5 (i := 0) b1i rfl (Or.inl rfl))
      (fun _ _ _ _ => j4 a0y (m8 (a3F K rfl) (m8 (a3F K rfl) (a0p K rfl (pv 1) rfl) (J8 C2 e8) (fun _ _ => rfl)) (pv 0) (fun _ _ => rfl)) e8 (j8 _))
      (fun _ _ _ _ => pv 0))
    (g0 (m6 (a4K (col := "column") (fr := [0]) (c := c) (P := Pt) rfl (hr.mono (by lia)) rfl N.min rfl CH BM rfl rfl (by decide +kernel) rfl rfl rfl (fun _ _ _ _ => rfl) (a0 (pv 1) d7)
      (fun _ _ _ _ => m8 (a3F K rfl) (a0p K rfl (pv 1) rfl) (pv 0) (fun _ _ => rfl))))), ?_⟩
  refine ⟨_, rfl, p, C, dx, _, _, rfl, B.obj, T.cl, T.nM, rfl, _, rfl, (by lia), (by lia), ?_⟩
  rw [Int.toNat_natCast]
  intro l hl
  obtain ⟨rm, em, am⟩ := B.rs_last
  refine a8c a3t hl (by rw [List.length_map, List.length_range]; exact j7 (by lia)) (fun v => decide (S.T m (vI v).toNat < 0)) (fun i x H' N' hx e hN => ?_) ?_
  . have hx' : x = .int (i : Int) /\ i < q := by
      rw [List.getElem?_map] at hx
      by_cases hi : i < q
      . rw [List.getElem?_range hi] at hx
        refine ⟨?_, hi⟩
        have := Option.some.inj hx
        rw [<- this]; simp
      . rw [List.getElem?_eq_none (by simp; lia)] at hx; cases hx
    obtain ⟨rfl, hi⟩ := hx'
    have e' : ∀ b o, H b = some o -> H' b = some o := fun b o z => e b o z
    refine ⟨_, rfl, p, C, dx, _, _, rfl, e' _ _ B.obj, T.cl, T.nC, rfl, _, rfl, ca, _, _, _, rfl, rfl, SqL.of (e' _ _ B.cel), am, _, rfl, rm, _, _, _, rfl, rfl, SqL.of (e' _ _ (B.row m rm em)), S3 (by lia), _, _, rfl, rfl, _, rfl, ?_⟩
    have ev : decide (S.T m (vI (V.int (i : Int))).toNat < 0) = decide (S.T m i < 0) := by rw [show (vI (V.int (i : Int))).toNat = i from by simp [vI]]
    rw [ev] at hN
    exact hN
  rw [a6h]
  have L2' : LT Pt (j9 H l (.lst ((a4V q S m).map V.int))) := LamTab.new L hl
  have B2 : Bd C (j9 H l (.lst ((a4V q S m).map V.int))) p dx ca oa ia rs m q S := B.same1 (P := Pt) fun b o z _ => by rw [c9 (d0 z hl)]; exact z
  have mem : ∀ x : Int, x ∈ a4V q S m ↔ ∃ j : Nat, x = (j : Int) /\ j < q /\ S.T m j < 0 := fun x => by
    unfold a4V
    rw [List.mem_map]
    constructor
    . rintro ⟨j, hj, rfl⟩
      rw [List.mem_filter, List.mem_range] at hj
      exact ⟨j, rfl, hj.1, of_decide_eq_true hj.2⟩
    . rintro ⟨j, rfl, h1, h2⟩
      exact ⟨j, by rw [List.mem_filter, List.mem_range]; exact ⟨h1, decide_eq_true h2⟩, rfl⟩
  refine ⟨_, rfl, l, _, fun x => (S.outs x.toNat : Int), rfl, SqL.of upd_same, L2', fun H2 e2 L3 => ?_⟩
  have B3 := B2.lam L2' e2
  have e3 : Same1 Pt H H2 := fun b o hb z => e2 b o hb (by rw [c9 (d0 z hl)]; exact z)
  obtain ⟨k1, k2⟩ := k H2 e3 L3
  refine ⟨fun x hx => ?_, fun en => k1 fun j hj hn => ?_, fun M hM hmin => ?_⟩
  . obtain ⟨j, rfl, hj, hn⟩ := (mem x).mp hx
    exact ⟨_, rfl, p, C, dx, _, _, rfl, B3.obj, T.cl, T.nO, rfl, _, rfl, oa, _, _, _, rfl, rfl, SqL.of B3.out, a0r hj, by simp, rfl⟩
  . have := (mem (j : Int)).mpr ⟨j, rfl, hj, hn⟩
    rw [en] at this
    cases this
  . obtain ⟨j, rfl, hj, hn⟩ := (mem M).mp hM
    refine k2 j hj hn fun i hi hni => ?_
    have := hmin (i : Int) ((mem _).mpr ⟨i, rfl, hi, hni⟩)
    simpa using this
end
end Rim
namespace Rim
open PySem L2
def U2 (xs ys : List Int) (c : Nat) (d : Int) : List Int := (List.zipWith (fun x y => (x * ys.getD c 0 - xs.getD c 0 * y) / d) xs ys).set c (-(xs.getD c 0))
theorem a2C {ns : List Int} {i : Nat} (h : i < ns.length) : X3 (ns.map V.int) (i : Int) = some (.int (ns.getD i 0)) := F0 (by
  rw [List.getElem?_map, List.getElem?_eq_getElem h, List.getD_eq_getElem?_getD, List.getElem?_eq_getElem h]; rfl)
theorem a0n {ns : List Int} {i : Nat} {x : V} (h : (ns.map V.int)[i]? = some x) : ∃ k, x = .int k /\ k ∈ ns := by
  rw [List.getElem?_map] at h
  cases hn : ns[i]? with
  | none => rw [hn] at h; cases h
  | some k => rw [hn] at h; cases h; exact ⟨k, rfl, List.mem_of_getElem? hn⟩
theorem a4D (F : V -> V -> V) (G : Int -> Int -> Int) (h : ∀ a b, F (.int a) (.int b) = .int (G a b)) : ∀ xs ys : List Int, List.zipWith F (xs.map V.int) (ys.map V.int) = (List.zipWith G xs ys).map V.int
  | [], _ => by simp
  | _ :: _, [] => by simp
  | x :: xs, y :: ys => by simp [h, a4D F G h xs ys]
theorem a1z {ns : List Int} {i : Nat} (h : i < ns.length) : ns.getD i 0 ∈ ns := by
  rw [List.getD_eq_getElem?_getD, List.getElem?_eq_getElem h]; exact List.getElem_mem h
section
variable {P : Program} {w : World} {K : W.Frag} {mg : Str -> Option Value} {base : Heap} {f g c Pt : Addr} {fd gd : FuncData} {n : Nat} {C : Addr}
def a1X (K : W.Frag) : Sp := fun vs H Q _ => ∃ (a b : Addr) (c : Nat) (d : Int) (xs ys : List Int), vs = [.ref a, .ref b, .int c, .int d] /\ SqL K H a (xs.map V.int) /\ SqL K H b (ys.map V.int) /\ xs.length = ys.length /\ xs.length <= 1000 /\ c < xs.length ∧
  0 < d /\ Big 4000 d /\ (∀ x ∈ xs, Big 4000 x) /\ (∀ y ∈ ys, Big 4000 y) /\ ∀ (r : Addr) (H' : Hp), Same H H' -> H r = none -> H' r = some (.lst ((U2 xs ys c d).map V.int)) -> Q (.ref r) H'
theorem scSwept : i8 ["cells", "lead", "column", "scale", "factor", "pivot", "fresh"] ["cells", "lead", "column", "scale"] (d9 a3r) := ⟨rfl, rfl, rfl, by decide +kernel, rfl, by decide +kernel, by decide +kernel⟩
theorem b1g : (["cell", "other", "scale", "factor", "pivot"] : List Str).Nodup := by decide +kernel
set_option maxHeartbeats 4000000 in
theorem a6S (F : Fun K "swept" "swept" a3r f fd) (N : t9 mg) : FnOk P w K mg base D4 (n + 1) f fd ["cells", "lead", "column", "scale"] (a1X K) := by
  refine F.ok scSwept (fun vs H Q E h => ?_) (fun cdv A outer s H vs Q E hr h => ?_)
  . obtain ⟨a, b, c, d, xs, ys, rfl, _⟩ := h
    rfl
  obtain ⟨a, b, c, d, xs, ys, rfl, ha, hb, hl, hz, hc, hd, hD, hx, hy, k⟩ := h
  refine ⟨_, d8 (l0 (i := 4) scSwept.nd rfl (Or.inr rfl) (m8 j5 (pv 0) (pv 2) (fun _ _ => rfl)))
    (d8 (l0 (i := 5) scSwept.nd rfl (Or.inr rfl) (m8 j5 (pv 1) (pv 2) (fun _ _ => rfl)))
    (d8 (a8W (i := 6) ["cell", "other"] [3, 4, 5] scSwept.nd rfl rfl rfl (a9a true true K rfl rfl N.zip (a0 (pv 0) (a0 (pv 1) d7)))
      (fun _ _ _ _ => U8 K (n := 2) rfl rfl (m7 (m5 (i := 0) b1g rfl (Or.inl rfl)) (m7 (m5 (i := 1) b1g rfl (Or.inl rfl)) A9)))
      (fun _ _ _ _ => i7 a1b (i7 a6W (i7 a0j (pv 0) (pv 4)) (i7 a0j (pv 3) (pv 1))) (pv 2)))
    (d8 (M6 (J8 C2 (pv 4)) (X6 (pv 6) (pv 2) M3))
    (g0 (m6 (pv 6)))))), ?_⟩
  have hc2 : c < ys.length := by lia
  refine ⟨_, rfl, _, rfl, a, _, _, _, rfl, rfl, ha, a2C hc, ?_⟩
  refine ⟨_, rfl, _, rfl, b, _, _, _, rfl, rfl, hb, a2C hc2, ?_⟩
  refine ⟨_, rfl, _, rfl, a, b, rfl, ⟨_, ha⟩, ⟨_, hb⟩, fun l hl' => ?_⟩
  have up : ∀ {x}, Big 4000 x -> Big 1000000 x := fun h => a7f h (by decide)
  refine b0G ha hb hl' (by rw [List.length_map]; exact j7 hz) (fun u v => .int ((vI u * ys.getD c 0 - xs.getD c 0 * vI v) / d)) (fun i u v H' N' hu hv e hN => ?_) (fun H' e hH => ?_)
  . obtain ⟨x, rfl, hxm⟩ := a0n hu
    obtain ⟨y, rfl, hym⟩ := a0n hv
    have dl : d < 2 ^ 8000 := by
      have h1 : d.natAbs < 2 ^ 4000 := hD
      have h2 : (2 : Nat) ^ 4000 <= 2 ^ 8000 := Nat.pow_le_pow_right (by decide) (by decide)
      have h3 : d = (d.natAbs : Int) := by lia
      rw [h3]
      exact_mod_cast Nat.lt_of_lt_of_le h1 h2
    refine ⟨_, rfl, _, rfl, _, _, rfl, rfl, ⟨up (hx _ hxm), up (hy _ (a1z hc2))⟩, _, rfl, _, rfl, _, _, rfl, rfl, ⟨up (hx _ (a1z hc)), up (hy _ hym)⟩, _, _, rfl, rfl, _, rfl, _, _, rfl, rfl, ⟨hd, dl⟩, hN⟩
  . rw [a4D _ (fun x y => (x * ys.getD c 0 - xs.getD c 0 * y) / d) (fun _ _ => rfl)] at hH
    refine ⟨_, rfl, _, rfl, ?_⟩
    refine ⟨_, rfl, _, rfl, l, _, _, c, rfl, rfl, hH, ?_, ?_⟩
    . unfold ixN
      rw [List.length_map, List.length_zipWith, if_pos (by lia), if_pos (by lia), Int.toNat_natCast]
    . refine ⟨_, rfl, k l _ ?_ hl' ?_⟩
      . exact fun b' o q => by rw [c9 (d0 q hl')]; exact e b' o q
      . rw [upd_same]
        unfold U2
        rw [<- List.map_set]
end
end Rim
namespace Rim
open PySem L2
structure a2W (P : Program) (w : World) (K : W.Frag) (mg : Str -> Option Value) (base : Heap) (n : Nat) (x : Str) (ps : List Str) (sp : Sp) (fa : Addr) (d : FuncData) : Prop where
  ok : FnOk P w K mg base D4 n fa d ps sp
  b : Binds K d ps []
  k : W.keepIn K (.ref fa) = true
  m : mg x = some (.ref fa)
theorem y3 {q : Nat} {S : Lp.Bo} {i : Nat} : (r9 q S i).length = q + 1 := by unfold r9; simp
theorem a1t {q : Nat} {S : Lp.Bo} {i j : Nat} (h : j < q + 1) : (r9 q S i).getD j 0 = S.T i j := by
  unfold r9
  rw [List.getD_eq_getElem?_getD, List.getElem?_map, List.getElem?_range h]; rfl
theorem a5D {q : Nat} {S : Lp.Bo} {i r c : Nat} (hi : i ≠ r) (hc : c < q) : U2 (r9 q S i) (r9 q S r) c S.d = r9 q (Lp.piv S r c) i := by
  refine List.ext_getElem? fun j => ?_
  unfold U2
  by_cases hj : j < q + 1
  . rw [a1t (by lia), a1t (by lia)]
    have e : (r9 q (Lp.piv S r c) i)[j]? = some ((Lp.piv S r c).T i j) := by unfold r9; rw [List.getElem?_map, List.getElem?_range hj]; rfl
    have hT : (Lp.piv S r c).T i j = if j = c then - S.T i c else (S.T i j * S.T r c - S.T i c * S.T r j) / S.d := by
      show (if i = r then _ else _) = _
      rw [if_neg hi]
    rw [e, hT]
    by_cases hjc : j = c
    . subst hjc
      rw [List.getElem?_set_self (by rw [List.length_zipWith, y3, y3]; lia), if_pos rfl]
    . rw [List.getElem?_set_ne (Ne.symm hjc), List.getElem?_zipWith, if_neg hjc]
      unfold r9
      rw [List.getElem?_map, List.getElem?_map, List.getElem?_range hj]; rfl
  . rw [List.getElem?_eq_none (by rw [List.length_set, List.length_zipWith, y3, y3]; lia), List.getElem?_eq_none (by rw [y3]; lia)]
theorem a5N {q : Nat} {S : Lp.Bo} {r c : Nat} (hc : c < q) : (((r9 q S r).map V.int).take c ++ [V.int S.d]) ++ ((r9 q S r).map V.int).drop (c + 1) = (r9 q (Lp.piv S r c) r).map V.int := by
  have hT : ∀ j, (Lp.piv S r c).T r j = if j = c then S.d else S.T r j := fun j => by
    show (if r = r then _ else _) = _
    rw [if_pos rfl]
  have hl : ((r9 q S r).map V.int).length = q + 1 := by rw [List.length_map, y3]
  refine List.ext_getElem? fun j => ?_
  by_cases hj : j < q + 1
  . have e : ((r9 q (Lp.piv S r c) r).map V.int)[j]? = some (.int (if j = c then S.d else S.T r j)) := by
      rw [List.getElem?_map]; unfold r9; rw [List.getElem?_map, List.getElem?_range hj, <- hT]; rfl
    have e0 : ((r9 q S r).map V.int)[j]? = some (.int (S.T r j)) := by
      rw [List.getElem?_map]; unfold r9; rw [List.getElem?_map, List.getElem?_range hj]; rfl
    rw [e]
    have lt : (((r9 q S r).map V.int).take c).length = c := by rw [List.length_take, hl]; lia
    by_cases h1 : j < c
    . rw [List.getElem?_append_left (by rw [List.length_append, lt]; lia), List.getElem?_append_left (by lia), List.getElem?_take_of_lt h1, e0, if_neg (by lia)]
    . by_cases h2 : j = c
      . subst h2
        rw [List.getElem?_append_left (by rw [List.length_append, lt]; simp), List.getElem?_append_right (by lia), lt, Nat.sub_self, if_pos rfl]; rfl
      . rw [List.getElem?_append_right (by rw [List.length_append, lt]; simp; lia), List.length_append, lt, List.getElem?_drop, if_neg h2]
        have : c + 1 + (j - (c + [V.int S.d].length)) = j := by simp; lia
        rw [this, e0]
  . rw [List.getElem?_eq_none (by rw [List.length_append, List.length_append, List.length_take, List.length_drop, hl]; simp; lia), List.getElem?_eq_none (by rw [List.length_map, y3]; lia)]
theorem a7L {m : Nat} {S : Lp.Bo} {r c : Nat} (hr : r < m) : ((K3 m S).map V.int).set r (.int (S.outs c)) = (K3 m (Lp.piv S r c)).map V.int := by
  refine List.ext_getElem? fun j => ?_
  have hT : (Lp.piv S r c).ins j = if j = r then S.outs c else S.ins j := rfl
  by_cases hj : j < m
  . have e : ((K3 m (Lp.piv S r c)).map V.int)[j]? = some (.int ((if j = r then S.outs c else S.ins j : Nat))) := by
      rw [List.getElem?_map]; unfold K3; rw [List.getElem?_map, List.getElem?_range hj, <- hT]; rfl
    rw [e]
    by_cases h : j = r
    . subst h
      rw [List.getElem?_set_self (by unfold K3; simp; lia), if_pos rfl]
    . rw [List.getElem?_set_ne (Ne.symm h), if_neg h, List.getElem?_map]
      unfold K3; rw [List.getElem?_map, List.getElem?_range hj]; rfl
  . rw [List.getElem?_eq_none (by unfold K3; simp; lia), List.getElem?_eq_none (by unfold K3; simp; lia)]
theorem a6H {q : Nat} {S : Lp.Bo} {r c : Nat} (hc : c < q) : ((D3 q S).map V.int).set c (.int (S.ins r)) = (D3 q (Lp.piv S r c)).map V.int := by
  refine List.ext_getElem? fun j => ?_
  have hT : (Lp.piv S r c).outs j = if j = c then S.ins r else S.outs j := rfl
  by_cases hj : j < q
  . have e : ((D3 q (Lp.piv S r c)).map V.int)[j]? = some (.int ((if j = c then S.ins r else S.outs j : Nat))) := by
      rw [List.getElem?_map]; unfold D3; rw [List.getElem?_map, List.getElem?_range hj, <- hT]; rfl
    rw [e]
    by_cases h : j = c
    . subst h
      rw [List.getElem?_set_self (by unfold D3; simp; lia), if_pos rfl]
    . rw [List.getElem?_set_ne (Ne.symm h), if_neg h, List.getElem?_map]
      unfold D3; rw [List.getElem?_map, List.getElem?_range hj]; rfl
  . rw [List.getElem?_eq_none (by unfold D3; simp; lia), List.getElem?_eq_none (by unfold D3; simp; lia)]
theorem a0X {n i : Nat} (h : i < n) : ixN n (i : Int) = some i := by
  unfold ixN
  rw [if_pos (by lia), if_pos (by lia), Int.toNat_natCast]
end Rim
namespace Rim
open PySem L2
section
variable {P : Program} {w : World} {K : W.Frag} {mg : Str -> Option Value} {base : Heap} {f g c Pt : Addr} {fd gd : FuncData} {n : Nat} {C : Addr}
def a0s (C : Addr) : Sp := fun vs H Q _ => ∃ (p dx ca oa ia : Addr) (rs : List Addr) (m q : Nat) (S : Lp.Bo) (r c : Nat), vs = [.ref p, .int r, .int c] /\ Bd C H p dx ca oa ia rs m q S /\ Sz 4000 m q S /\ r < m /\ c < q /\ m < 900 /\ q < 900 /\ 0 < S.d ∧
  ∀ (H' : Hp) (ca' : Addr) (rs' : List Addr), Bd C H' p dx ca' oa ia rs' m q (Lp.piv S r c) -> (∀ b o, b ≠ p -> b ≠ oa -> b ≠ ia -> H b = some o -> H' b = some o) -> Q .non H'
theorem scEx : i8 ["self", "row", "column", "lead", "pivot"] ["self", "row", "column"] (d9 G5) := ⟨rfl, rfl, rfl, by decide +kernel, rfl, by decide +kernel, by decide +kernel⟩
theorem b2D : (["cells", "self", "column", "lead"] : List Str).Nodup := by decide +kernel
set_option maxHeartbeats 4000000 in
noncomputable def exT {cdv : Value} {A : Around} {outer : List Env} {s : Shared} {H : Hp} {E : XK} {fb : Addr} {db : FuncData} (Cs : a2W P w K mg base n "swept" ["cells", "lead", "column", "scale"] (a1X K) fb db)
    (hr : Room n (A.deeper (PyProof.Rows.envOfC "Board.exchange" (d9 G5) s.heap.objs.size f cdv))) :
    { t : TS // PSs (E7 D4 P w K mg base ["self", "row", "column", "lead", "pivot"] "Board.exchange" (d9 G5) f cdv A outer s H E).nox (p7 G5) t } :=
  ⟨_, d8 (l0 (i := 3) scEx.nd rfl (Or.inr rfl) (m8 j5 (j3 (pv 0) rfl) (pv 1) (fun _ _ => rfl)))
    (d8 (l0 (i := 4) scEx.nd rfl (Or.inl rfl) (m8 j5 (pv 3) (pv 2) (fun _ _ => rfl)))
    (t0 (C3 (pv 0) (Z5 ["cells"] [0, 2, 3] rfl (V5 (j3 (pv 0) rfl)) (fun _ _ _ _ => m5 (i := 0) b2D rfl (Or.inl rfl))
      (fun _ _ _ _ => j6 Cs.ok hr rfl Cs.m Cs.k Cs.b .nil p9 (a0 (pv 0) (a0 (pv 3) (a0 (pv 2) (a0 (a0p K rfl (pv 1) rfl) d7)))))) rfl)
    (d8 (M6 (i7 v7 (i7 v7 (x9 A8 (pv 3) B1 (B6 (pv 2))) (o6 (a0 (j3 (pv 0) rfl) d7))) (x9 A8 (pv 3) (B6 (i7 y8 (pv 2) e8)) B1)) (X6 (j3 (pv 0) rfl) (pv 1) M3))
    (d8 (C3 (pv 0) (pv 4) rfl)
    (g0 (M6 (x5 (a0 (m8 j5 (j3 (pv 0) rfl) (pv 2) (fun _ _ => rfl)) (a0 (m8 j5 (j3 (pv 0) rfl) (pv 1) (fun _ _ => rfl)) d7)))
      (X7 rfl (m7 (X6 (j3 (pv 0) rfl) (pv 1) M3) (m7 (X6 (j3 (pv 0) rfl) (pv 2) M3) A9)))))))))⟩
end
end Rim
namespace Rim
open PySem L2
def a5g : V -> Addr
  | .ref a => a
  | _ => 0
section
variable {P : Program} {w : World} {K : W.Frag} {mg : Str -> Option Value} {base : Heap} {f g c Pt : Addr} {fd gd : FuncData} {n : Nat} {C : Addr}
theorem a2R {m q i : Nat} {S : Lp.Bo} (h : Sz 4000 m q S) (hi : i < m + 1) : ∀ x ∈ r9 q S i, Big 4000 x := fun x hx => by
  unfold r9 at hx
  obtain ⟨j, hj, rfl⟩ := List.mem_map.mp hx
  exact h.1 i j hi (List.mem_range.mp hj)
set_option maxHeartbeats 8000000 in
theorem a2U {fb : Addr} {db : FuncData} (F : Fun K "exchange" "Board.exchange" G5 f fd) (T : TB K C) (Cs : a2W P w K mg base n "swept" ["cells", "lead", "column", "scale"] (a1X K) fb db) :
    FnOk P w K mg base D4 (n + 1) f fd ["self", "row", "column"] (a0s C) := by
  refine F.ok scEx (fun vs H Q E h => ?_) (fun cdv A outer s H vs Q E hr h => ?_)
  . obtain ⟨p, dx, ca, oa, ia, rs, m, q, S, r, c, rfl, _⟩ := h
    rfl
  obtain ⟨p, dx, ca, oa, ia, rs, m, q, S, r, c, rfl, B, hz, hrm, hc, hm, hq, hd, k⟩ := h
  refine ⟨_, (exT Cs hr).2, ?_⟩
  obtain ⟨rl, er, ar⟩ := B.rs_at (i := r) (by lia)
  have hrl := B.row r rl er
  have nrl : rl ≠ p := t7 hrl B.obj (by intro z; cases z)
  have noa : oa ≠ p := t7 B.out B.obj (by intro z; cases z)
  have nia : ia ≠ p := t7 B.inn B.obj (by intro z; cases z)
  refine ⟨_, rfl, p, C, dx, _, _, rfl, B.obj, T.cl, T.nC, rfl, _, rfl, ca, _, _, _, rfl, rfl, SqL.of B.cel, ar, ?_⟩
  refine ⟨_, rfl, _, rfl, rl, _, _, _, rfl, rfl, SqL.of hrl, S3 (by lia), ?_⟩
  refine ⟨fun σ' H3 => ∃ (l : Addr) (rs' : List Addr), σ' = [some (.ref p), some (.int r), some (.int c), some (.ref rl), some (.int (S.T r c))] /\ H3 p = some (.ins C dx (bdF q S.d l oa ia)) /\ H3 l = some (.lst (rs'.map V.ref)) /\ rs'.length = m + 1 /\ H l = none ∧
    (∀ i a, rs'[i]? = some a -> H a = none /\ a ≠ l /\ H3 a = some (.lst ((U2 (r9 q S i) (r9 q S r) c S.d).map V.int))) /\ ∀ b o, b ≠ p -> H b = some o -> H3 b = some o, ?_, ?_⟩
  . refine ⟨_, rfl, p, C, dx, _, _, rfl, B.obj, T.cl, T.nC, rfl, ca, rfl, ⟨_, SqL.of B.cel⟩, fun l hl => ?_⟩
    refine a4a (R6 (SqL.of B.cel)) hl (by rw [List.length_map, B.len]; exact j7 (by lia)) (fun i y H2 => ∃ a, y = .ref a /\ H a = none /\ a ≠ l /\ H2 a = some (.lst ((U2 (r9 q S i) (r9 q S r) c S.d).map V.int)))
      (fun i y H2 H3 ⟨a, h1, h2, h3, h4⟩ e => ⟨a, h1, h2, h3, e a _ h3 h4⟩) (fun i x H2 ys N hx e hl2 hN => ?_) (fun ys H2 e hl2 len pr => ?_)
    . rw [List.getElem?_map] at hx
      cases hri : rs[i]? with
      | none => rw [hri] at hx; cases hx
      | some a =>
        rw [hri] at hx
        have hx' : V.ref a = x := Option.some.inj hx
        subst hx'
        have hi : i < m + 1 := by rw [<- B.len]; exact (List.getElem?_eq_some_iff.mp hri).1
        refine ⟨Wk.set (by decide), ?_⟩
        refine ⟨_, rfl, _, rfl, _, rfl, _, rfl, p, C, dx, _, _, rfl, e _ _ B.obj, T.cl, T.nS, rfl, ?_⟩
        refine ⟨a, rl, c, S.d, r9 q S i, r9 q S r, rfl, SqL.of (e _ _ (B.row i a hri)), SqL.of (e _ _ hrl), by rw [y3, y3], by rw [y3]; lia, by rw [y3]; lia, hd, hz.2, a2R hz hi, a2R hz (by lia), fun r' H3 s3 hn hr' => ?_⟩
        refine hN _ _ s3 ⟨r', rfl, ?_, fun z => ?_, hr'⟩
        . cases q1 : H r' with
          | none => rfl
          | some o => rw [e _ _ q1] at hn; cases hn
        . rw [z, hl2] at hn; cases hn
    . have hp2 := e _ _ B.obj
      have nlp : p ≠ l := d0 B.obj hl
      refine ⟨_, rfl, p, C, dx, _, rfl, hp2, T.cl, T.nC, (by show 5 < 1000; decide), ?_⟩
      have hys : ys = (ys.map a5g).map V.ref := by
        rw [List.map_map]
        refine List.ext_getElem? fun i => ?_
        rw [List.getElem?_map]
        cases qi : ys[i]? with
        | none => rfl
        | some y =>
          obtain ⟨a, rfl, _⟩ := pr i y qi
          rfl
      refine ⟨l, ys.map a5g, rfl, upd_same, by rw [c9 nlp.symm, hl2]; rw [<- hys], by rw [List.length_map, len, List.length_map, B.len], hl, fun i a hi => ?_, fun b o hb hbo => by rw [c9 hb]; exact e _ _ hbo⟩
      rw [List.getElem?_map] at hi
      cases qi : ys[i]? with
      | none => rw [qi] at hi; cases hi
      | some y =>
        obtain ⟨a', rfl, h2, h3, h4⟩ := pr i y qi
        rw [qi] at hi
        have : a' = a := Option.some.inj hi
        subst this
        refine ⟨h2, h3, ?_⟩
        rw [c9 (fun z => by rw [z, hp2] at h4; cases h4)]
        exact h4
  . intro σ' H3 hM_; refine M4 fun G_ hG_ => ?_; obtain ⟨l, rs', rfl, hp, hl, hlen, hl0, hrs, hk⟩ := hM_; subst hG_
    have hr3 := hk rl _ nrl hrl
    have lr : ((r9 q S r).map V.int).length = q + 1 := by rw [List.length_map, y3]
    -- lead[:column] + [self.scale] + lead[column + 1:]
    refine ⟨_, rfl, _, rfl, _, rfl, rl, _, rfl, SqL.of hr3, fun a1 h1 => ?_⟩
    have e1 := Same.new h1 (.lst (J7 ((r9 q S r).map V.int) none (some (c : Int))))
    refine ⟨_, rfl, p, C, dx, _, _, rfl, e1 _ _ hp, T.cl, T.nS, rfl, (by show 1 <= sizeLine; decide), fun a2 h2 => ?_⟩
    have e2 := e1.trans (Same.new h2 (.lst [.int S.d]))
    have n12 : a1 ≠ a2 := d0 upd_same h2
    refine ⟨a1, a2, _, _, rfl, rfl, (by rw [c9 n12]; exact upd_same), upd_same, ?_, fun a3 h3 => ?_⟩
    . rw [U3 _ _ (by rw [lr]; lia), List.length_take, lr]
      have := j7 (show c + 1 <= 1000 by lia)
      simp
      lia
    have e3 := e2.trans (Same.new h3 (.lst (J7 ((r9 q S r).map V.int) none (some (c : Int)) ++ [.int S.d])))
    refine ⟨_, rfl, _, rfl, _, _, rfl, rfl, _, rfl, rl, _, rfl, SqL.of (e3 _ _ hr3), fun a4 h4 => ?_⟩
    have e4 := e3.trans (Same.new h4 (.lst (J7 ((r9 q S r).map V.int) (some ((c : Int) + 1)) none)))
    have n34 : a3 ≠ a4 := d0 upd_same h4
    have c1 : J7 ((r9 q S r).map V.int) none (some (c : Int)) = ((r9 q S r).map V.int).take c := U3 _ _ (by rw [lr]; lia)
    have c2 : J7 ((r9 q S r).map V.int) (some ((c : Int) + 1)) none = ((r9 q S r).map V.int).drop (c + 1) := by
      have := Q8 ((r9 q S r).map V.int) (c + 1) (by rw [lr]; lia)
      rw [<- this]; rfl
    refine ⟨a3, a4, _, _, rfl, rfl, (by rw [c9 n34]; exact upd_same), upd_same, ?_, fun a5 h5 => ?_⟩
    . rw [c1, c2, List.length_append, List.length_take, List.length_drop, lr]
      have := j7 (show q + 1 <= 1000 by lia)
      simp
      lia
    have hrow : (J7 ((r9 q S r).map V.int) none (some (c : Int)) ++ [.int S.d]) ++ J7 ((r9 q S r).map V.int) (some ((c : Int) + 1)) none = (r9 q (Lp.piv S r c) r).map V.int := by rw [c1, c2, a5N hc]
    have h5n : H3 a5 = none := by
      cases z : H3 a5 with
      | none => rfl
      | some o => rw [e4 _ _ z] at h5; cases h5
    have e5 := e4.trans (Same.new h5 (.lst ((J7 ((r9 q S r).map V.int) none (some (c : Int)) ++ [.int S.d]) ++ J7 ((r9 q S r).map V.int) (some ((c : Int) + 1)) none)))
    have u5 : ∀ H4 : Hp, j9 H4 a5 (.lst ((J7 ((r9 q S r).map V.int) none (some (c : Int)) ++ [.int S.d]) ++ J7 ((r9 q S r).map V.int) (some ((c : Int) + 1)) none)) a5 = some (.lst ((r9 q (Lp.piv S r c) r).map V.int)) := fun H4 => upd_same.trans (congrArg (fun z => some (HO.lst z)) hrow)
    -- self.cells[row] = ..
    have oa3 := hk oa _ noa B.out
    have ia3 := hk ia _ nia B.inn
    have nlp : l ≠ p := (d0 B.obj hl0).symm
    have nlo : l ≠ oa := (d0 B.out hl0).symm
    have nli : l ≠ ia := (d0 B.inn hl0).symm
    have n5p : a5 ≠ p := (d0 hp h5n).symm
    have n5l : a5 ≠ l := (d0 hl h5n).symm
    have n5o : a5 ≠ oa := (d0 oa3 h5n).symm
    have n5i : a5 ≠ ia := (d0 ia3 h5n).symm
    have lrs : (rs'.map V.ref).length = m + 1 := by rw [List.length_map]; exact hlen
    refine ⟨_, rfl, p, C, dx, _, _, rfl, e5 _ _ hp, T.cl, T.nC, rfl, _, rfl, l, _, _, r, rfl, rfl, e5 _ _ hl, a0X (by rw [lrs]; lia), ?_⟩
    -- self.scale = pivot
    refine ⟨_, rfl, _, rfl, p, C, dx, _, rfl, (by rw [c9 nlp.symm]; exact e5 _ _ hp), T.cl, T.nS, (by show 5 < 1000; decide), ?_⟩
    -- the pair
    refine ⟨_, rfl, p, C, dx, _, _, rfl, upd_same, T.cl, T.nO, rfl, _, rfl, oa, _, _, _, rfl, rfl, SqL.of (by rw [c9 noa, c9 nlo.symm]; exact e5 _ _ oa3), a0r hc, ?_⟩
    refine ⟨_, rfl, p, C, dx, _, _, rfl, upd_same, T.cl, T.nI, rfl, _, rfl, ia, _, _, _, rfl, rfl, SqL.of (by rw [c9 nia, c9 nli.symm]; exact e5 _ _ ia3), a0o hrm, (by show 2 <= sizeLine; decide), fun t ht => ?_⟩
    have ntp : t ≠ p := (d0 upd_same ht).symm
    have ntl : t ≠ l := by
      refine (d0 (H := _) (o := .lst ((rs'.map V.ref).set r (.ref a5))) ?_ ht).symm
      rw [c9 nlp, upd_same]
    have nto : t ≠ oa := by
      refine (d0 (H := _) (o := .lst ((D3 q S).map V.int)) ?_ ht).symm
      rw [c9 noa, c9 nlo.symm]; exact e5 _ _ oa3
    have nti : t ≠ ia := by
      refine (d0 (H := _) (o := .lst ((K3 m S).map V.int)) ?_ ht).symm
      rw [c9 nia, c9 nli.symm]; exact e5 _ _ ia3
    refine ⟨t, _, rfl, SqT.of upd_same, rfl, ?_⟩
    refine ⟨_, _, rfl, _, rfl, p, C, dx, _, _, rfl, (by rw [c9 ntp.symm]; exact upd_same), T.cl, T.nI, rfl, _, rfl, ia, _, _, r, rfl, rfl, (by rw [c9 nti.symm, c9 nia, c9 nli.symm]; exact e5 _ _ ia3), a0X (by unfold K3; simp; lia), ?_⟩
    refine ⟨_, _, rfl, _, rfl, p, C, dx, _, _, rfl, (by rw [c9 nia.symm, c9 ntp.symm]; exact upd_same), T.cl, T.nO, rfl, _, rfl, oa, _, _, c, rfl, rfl, (by rw [c9 B.ne, c9 nto.symm, c9 noa, c9 nlo.symm]; exact e5 _ _ oa3), a0X (by unfold D3; simp; lia), rfl, ?_⟩
    refine k _ l (rs'.set r a5) ⟨?_, ?_, by rw [List.length_set]; exact hlen, fun i a hi => ?_, ?_, ?_, B.ne⟩ fun b o hb hbo hbi hH => ?_
    . rw [c9 noa.symm, c9 nia.symm, c9 ntp.symm, upd_same]; rfl
    . rw [c9 nlo, c9 nli, c9 ntl.symm, c9 nlp, upd_same, List.map_set]
    . by_cases hir : i = r
      . subst hir
        rw [List.getElem?_set_self (by rw [hlen]; lia)] at hi
        have : a5 = a := Option.some.inj hi
        subst this
        have n5t : a5 ≠ t := by
          refine d0 (H := _) (o := .lst ((r9 q (Lp.piv S i c) i).map V.int)) ?_ ht
          rw [c9 n5p, c9 n5l]; exact u5 _
        rw [c9 n5o, c9 n5i, c9 n5t, c9 n5p, c9 n5l]
        exact u5 _
      . rw [List.getElem?_set_ne (Ne.symm hir)] at hi
        obtain ⟨g1, g2, g3⟩ := hrs i a hi
        have nap : a ≠ p := (d0 B.obj g1).symm
        have nao : a ≠ oa := (d0 B.out g1).symm
        have nai : a ≠ ia := (d0 B.inn g1).symm
        have g5 := e5 _ _ g3
        have nat : a ≠ t := by
          refine d0 (H := _) (o := .lst ((U2 (r9 q S i) (r9 q S r) c S.d).map V.int)) ?_ ht
          rw [c9 nap, c9 g2]; exact g5
        rw [c9 nao, c9 nai, c9 nat, c9 nap, c9 g2, <- a5D hir hc]
        exact g5
    . rw [upd_same, a6H hc]
    . rw [c9 B.ne.symm, upd_same, a7L hrm]
    . have h3 := hk b o hb hH
      have nbl : b ≠ l := d0 hH hl0
      have nbt : b ≠ t := by
        refine d0 (H := _) (o := o) ?_ ht
        rw [c9 hb, c9 nbl]; exact e5 _ _ h3
      rw [c9 hbo, c9 hbi, c9 nbt, c9 hb, c9 nbl]
      exact e5 _ _ h3
end
end Rim
namespace Rim
open PySem L2
theorem a0z {g : Nat -> Int} : ∀ {n : Nat}, (∀ k, k < n -> g k = 0) -> Lp.sumTo g n = 0
  | 0, _ => rfl
  | n + 1, h => by
    show Lp.sumTo g n + g n = 0
    rw [a0z fun k hk => h k (by lia), h n (by lia)]; rfl
def a7Y (q : Nat) (S : Lp.Bo) (k v : Nat) : Int := Lp.sumTo (fun i => if S.ins i = v then S.T i q else 0) k
def a3M (m : Nat) (S : Lp.Bo) (k v : Nat) : Int := Lp.sumTo (fun j => if S.outs j = v then S.T m j else 0) k
def m9 (m q : Nat) (S : Lp.Bo) : List Int := (List.range q).map fun v => Lp.valIn m S q v
def C9 (m q : Nat) (S : Lp.Bo) : List Int := (List.range m).map fun i => Lp.valOut m q S (q + i)
theorem a2s (k : Nat) : (List.replicate k [V.int 0]).flatten = (List.range k).map fun _ => V.int 0 := by
  induction k with
  | zero => rfl
  | succ k ih => rw [List.replicate_succ', List.flatten_append, ih, List.range_succ, List.map_append]; rfl
theorem a6G {n v : Nat} {F G : Nat -> Int} {x : Int} (hv : G v = x) (h : ∀ u, u < n -> u ≠ v -> F u = G u) : ((List.range n).map fun u => V.int (F u)).set v (.int x) = (List.range n).map fun u => V.int (G u) := by
  refine List.ext_getElem? fun j => ?_
  by_cases hj : j < n
  . by_cases e : j = v
    . subst e
      rw [List.getElem?_set_self (by simp; lia), List.getElem?_map, List.getElem?_range hj, Option.map_some, hv]
    . rw [List.getElem?_set_ne (Ne.symm e), List.getElem?_map, List.getElem?_map, List.getElem?_range hj, Option.map_some, Option.map_some, h j hj e]
  . rw [List.getElem?_eq_none (by simp; lia), List.getElem?_eq_none (by simp; lia)]
section
variable {P : Program} {w : World} {K : W.Frag} {mg : Str -> Option Value} {base : Heap} {f g c Pt : Addr} {fd gd : FuncData} {n : Nat} {C : Addr}
def a7l (C : Addr) : Sp := fun vs H Q _ => ∃ (p dx ca oa ia : Addr) (rs : List Addr) (m q : Nat) (S : Lp.Bo), vs = [.ref p] /\ Bd C H p dx ca oa ia rs m q S /\ m < 900 /\ q < 900 /\ (∀ i k, i < m -> k < m -> S.ins i = S.ins k -> i = k) ∧
  ∀ (r : Addr) (H' : Hp), Same H H' -> H r = none -> H' r = some (.lst ((m9 m q S).map V.int)) -> Q (.ref r) H'
theorem scAmts : i8 ["self", "told", "row", "number"] ["self"] (d9 a7i) := ⟨rfl, rfl, rfl, by decide +kernel, rfl, by decide +kernel, by decide +kernel⟩
set_option maxHeartbeats 4000000 in
theorem a8i (F : Fun K "amounts" "Board.amounts" a7i f fd) (N : t9 mg) (T : TB K C) : FnOk P w K mg base D4 (n + 1) f fd ["self"] (a7l C) := by
  refine F.ok scAmts (fun vs H Q E h => ?_) (fun cdv A outer s H vs Q E hr h => ?_)
  . obtain ⟨p, dx, ca, oa, ia, rs, m, q, S, rfl, _⟩ := h
    rfl
  obtain ⟨p, dx, ca, oa, ia, rs, m, q, S, rfl, B, hm, hq, inj, k⟩ := h
  refine ⟨_, d8 (l0 (i := 1) scAmts.nd rfl (Or.inl rfl) (i7 X9 (o6 (a0 e8 d7)) (j3 (pv 0) rfl)))
    (d8 (Y5 PassesOwn.never rfl (a4s K rfl rfl N.enum (a0 (j3 (pv 0) rfl) d7)) (U8 K (n := 2) rfl rfl (m7 (m5 (i := 2) scAmts.nd rfl (Or.inl rfl)) (m7 (m5 (i := 3) scAmts.nd rfl (Or.inl rfl)) A9)))
      (g0 (v6 (j4 a0y (pv 3) (j3 (pv 0) rfl) (j8 _)) (g0 (M6 (m8 j5 (m8 j5 (j3 (pv 0) rfl) (pv 2) (fun _ _ => rfl)) (J8 C2 e8) (fun _ _ => rfl)) (X6 (pv 1) (pv 3) M3))) o4)))
    (g0 (m6 (pv 1)))), ?_⟩
  have sl := j7 (show q <= 1000 by lia)
  refine ⟨(by show 1 <= sizeLine; decide), fun z hz => ?_⟩
  have ez := Same.new hz (.lst [.int 0])
  refine ⟨_, rfl, p, C, dx, _, _, rfl, ez _ _ B.obj, T.cl, T.nM, rfl, z, _, _, rfl, rfl, upd_same, (by lia), (by lia), (by rw [Int.toNat_natCast]; simp; lia), fun tl htl => ?_⟩
  rw [Int.toNat_natCast, a2s]
  have htn : H tl = none := by
    cases q1 : H tl with
    | none => rfl
    | some o => rw [ez _ _ q1] at htl; cases htl
  have e0 : Same H (j9 (j9 H z (.lst [.int 0])) tl (.lst ((List.range q).map fun _ => V.int 0))) := ez.write htn
  refine ⟨_, rfl, p, C, dx, _, _, rfl, e0 _ _ B.obj, T.cl, T.nI, rfl, ia, rfl, ⟨_, SqL.of (e0 _ _ B.inn)⟩, ?_⟩
  have li : ((K3 m S).map V.int).length = m := by unfold K3; simp
  refine a2k (xs := (K3 m S).map V.int) (i1 := 2) (i2 := 3) (fun j σ H' => ∃ o2 o3 : Option V, σ = [some (.ref p), some (.ref tl), o2, o3] /\ Same H H' /\ H' tl = some (.lst ((List.range q).map fun v => V.int (a7Y q S j v))))
    ⟨_, _, rfl, e0, by rw [upd_same]; rfl⟩ (fun j σ H' ⟨_, _, _, e, _⟩ => SqL.of (e _ _ B.inn)) ?_ ?_
  . rintro j x σ H1 qq hx ⟨o2, o3, rfl, e1, ht⟩ hqq
    have hj : j < m := by rw [<- li]; exact (List.getElem?_eq_some_iff.mp hx).1
    have hx' : x = .int (S.ins j) := by
      have := (F0 hx).symm.trans (a0o (S := S) hj)
      exact Option.some.inj this
    subst hx'
    have s1 := Same.new hqq (.tup [V.int (j : Int), .int (S.ins j)])
    have e2 := e1.trans s1
    have ht2 := s1 _ _ ht
    refine ⟨_, rfl, _, rfl, p, C, dx, _, _, rfl, e2 _ _ B.obj, T.cl, T.nM, rfl, _, _, rfl, rfl, _, rfl, ?_⟩
    have st : ∀ v, a7Y q S (j + 1) v = a7Y q S j v + (if S.ins j = v then S.T j q else 0) := fun v => rfl
    refine A7 (fun d => ?_) (fun d => ?_)
    . have d' : S.ins j < q := by have := of_decide_eq_true d; lia
      obtain ⟨rj, erj, arj⟩ := B.rs_at (i := j) (by lia)
      refine ⟨_, rfl, p, C, dx, _, _, rfl, e2 _ _ B.obj, T.cl, T.nC, rfl, _, rfl, ca, _, _, _, rfl, rfl, SqL.of (e2 _ _ B.cel), arj, _, rfl, rj, _, _, _, rfl, rfl, SqL.of (e2 _ _ (B.row j rj erj)), R9, ?_⟩
      refine ⟨_, rfl, _, rfl, tl, _, _, S.ins j, rfl, rfl, ht2, a0X (by simp; lia), ?_⟩
      refine ⟨_, _, rfl, e2.write htn, ?_⟩
      rw [upd_same]
      congr 2
      refine a6G ?_ fun u hu hne => ?_
      . rw [st, if_pos rfl]
        have : a7Y q S j (S.ins j) = 0 := a0z fun i hi => if_neg fun z => absurd (inj i j (by lia) hj z) (by lia)
        rw [this]; lia
      . rw [st, if_neg (Ne.symm hne)]; lia
    . have d' : ¬ S.ins j < q := fun z => d (decide_eq_true (by lia))
      refine ⟨_, _, rfl, e2, ?_⟩
      rw [ht2]
      congr 2
      refine List.map_congr_left fun v hv => ?_
      rw [st, if_neg (fun z => d' (by rw [z]; exact List.mem_range.mp hv)), Int.add_zero]
  . intro σ H1 hM_; refine M4 fun G_ hG_ => ?_; obtain ⟨o2, o3, rfl, e1, ht⟩ := hM_; subst hG_
    rw [li] at ht
    refine ⟨_, rfl, k tl H1 e1 htn ?_⟩
    rw [ht]
    unfold m9
    rw [List.map_map]; rfl
def a8G (C : Addr) : Sp := fun vs H Q _ => ∃ (p dx ca oa ia : Addr) (rs : List Addr) (m q : Nat) (S : Lp.Bo), vs = [.ref p] /\ Bd C H p dx ca oa ia rs m q S /\ m < 900 /\ q < 900 /\ (∀ j k, j < q -> k < q -> S.outs j = S.outs k -> j = k) /\ (∀ j, j < q -> S.outs j < q + m) ∧
  ∀ (r : Addr) (H' : Hp), Same H H' -> H r = none -> H' r = some (.lst ((C9 m q S).map V.int)) -> Q (.ref r) H'
theorem scWts : i8 ["self", "told", "column", "number"] ["self"] (d9 a9X) := ⟨rfl, rfl, rfl, by decide +kernel, rfl, by decide +kernel, by decide +kernel⟩
set_option maxHeartbeats 4000000 in
theorem a9w (F : Fun K "weights" "Board.weights" a9X f fd) (N : t9 mg) (T : TB K C) : FnOk P w K mg base D4 (n + 1) f fd ["self"] (a8G C) := by
  refine F.ok scWts (fun vs H Q E h => ?_) (fun cdv A outer s H vs Q E hr h => ?_)
  . obtain ⟨p, dx, ca, oa, ia, rs, m, q, S, rfl, _⟩ := h
    rfl
  obtain ⟨p, dx, ca, oa, ia, rs, m, q, S, rfl, B, hm, hq, inj, ob, k⟩ := h
  refine ⟨_, d8 (l0 (i := 1) scWts.nd rfl (Or.inl rfl) (i7 X9 (o6 (a0 e8 d7)) (j0 i9 rfl N.len PySem.boot_len (a0 (j3 (pv 0) rfl) d7))))
    (d8 (Y5 PassesOwn.never rfl (a4s K rfl rfl N.enum (a0 (j3 (pv 0) rfl) d7)) (U8 K (n := 2) rfl rfl (m7 (m5 (i := 2) scWts.nd rfl (Or.inl rfl)) (m7 (m5 (i := 3) scWts.nd rfl (Or.inl rfl)) A9)))
      (g0 (v6 (j4 a6Q (pv 3) (j3 (pv 0) rfl) (j8 _)) (g0 (M6 (m8 j5 (m8 j5 (j3 (pv 0) rfl) (J8 C2 e8) (fun _ _ => rfl)) (pv 2) (fun _ _ => rfl)) (X6 (pv 1) (i7 a6W (pv 3) (j3 (pv 0) rfl)) M3))) o4)))
    (g0 (m6 (pv 1)))), ?_⟩
  have sl := j7 (show m <= 1000 by lia)
  have li : ((K3 m S).map V.int).length = m := by unfold K3; simp
  have lo : ((D3 q S).map V.int).length = q := by unfold D3; simp
  refine ⟨(by show 1 <= sizeLine; decide), fun z hz => ?_⟩
  have ez := Same.new hz (.lst [.int 0])
  refine ⟨_, rfl, p, C, dx, _, _, rfl, ez _ _ B.obj, T.cl, T.nI, rfl, ia, _, rfl, .inl (SqL.of (ez _ _ B.inn)), z, _, _, rfl, rfl, upd_same, (by lia), (by lia), (by rw [li, Int.toNat_natCast]; simp; lia), fun tl htl => ?_⟩
  rw [li, Int.toNat_natCast, a2s]
  have htn : H tl = none := by
    cases q1 : H tl with
    | none => rfl
    | some o => rw [ez _ _ q1] at htl; cases htl
  have e0 : Same H (j9 (j9 H z (.lst [.int 0])) tl (.lst ((List.range m).map fun _ => V.int 0))) := ez.write htn
  refine ⟨_, rfl, p, C, dx, _, _, rfl, e0 _ _ B.obj, T.cl, T.nO, rfl, oa, rfl, ⟨_, SqL.of (e0 _ _ B.out)⟩, ?_⟩
  refine a2k (xs := (D3 q S).map V.int) (i1 := 2) (i2 := 3) (fun j σ H' => ∃ o2 o3 : Option V, σ = [some (.ref p), some (.ref tl), o2, o3] /\ Same H H' /\ H' tl = some (.lst ((List.range m).map fun v => V.int (a3M m S j (q + v)))))
    ⟨_, _, rfl, e0, by rw [upd_same]; rfl⟩ (fun j σ H' ⟨_, _, _, e, _⟩ => SqL.of (e _ _ B.out)) ?_ ?_
  . rintro j x σ H1 qq hx ⟨o2, o3, rfl, e1, ht⟩ hqq
    have hj : j < q := by rw [<- lo]; exact (List.getElem?_eq_some_iff.mp hx).1
    have hx' : x = .int (S.outs j) := by
      have := (F0 hx).symm.trans (a0r (S := S) hj)
      exact Option.some.inj this
    subst hx'
    have s1 := Same.new hqq (.tup [V.int (j : Int), .int (S.outs j)])
    have e2 := e1.trans s1
    have ht2 := s1 _ _ ht
    refine ⟨_, rfl, _, rfl, p, C, dx, _, _, rfl, e2 _ _ B.obj, T.cl, T.nM, rfl, _, _, rfl, rfl, _, rfl, ?_⟩
    have st : ∀ v, a3M m S (j + 1) v = a3M m S j v + (if S.outs j = v then S.T m j else 0) := fun v => rfl
    have hob := ob j hj
    refine A7 (fun d => ?_) (fun d => ?_)
    . have d' : q <= S.outs j := by have := of_decide_eq_true d; lia
      obtain ⟨rm, erm, arm⟩ := B.rs_last
      refine ⟨_, rfl, p, C, dx, _, _, rfl, e2 _ _ B.obj, T.cl, T.nC, rfl, _, rfl, ca, _, _, _, rfl, rfl, SqL.of (e2 _ _ B.cel), arm, _, rfl, rm, _, _, _, rfl, rfl, SqL.of (e2 _ _ (B.row m rm erm)), S3 (by lia), ?_⟩
      refine ⟨_, rfl, _, rfl, _, rfl, p, C, dx, _, _, rfl, e2 _ _ B.obj, T.cl, T.nM, rfl, _, _, rfl, rfl, tl, _, _, S.outs j - q, rfl, rfl, ht2, ?_, ?_⟩
      . rw [show ((S.outs j : Int) - (q : Int)) = ((S.outs j - q : Nat) : Int) by lia]
        exact a0X (by simp; lia)
      refine ⟨_, _, rfl, e2.write htn, ?_⟩
      rw [upd_same]
      congr 2
      refine a6G ?_ fun u hu hne => ?_
      . rw [st, if_pos (by lia)]
        have : a3M m S j (q + (S.outs j - q)) = 0 := a0z fun i hi => if_neg fun z => absurd (inj i j (by lia) hj (by lia)) (by lia)
        rw [this]; lia
      . rw [st, if_neg (by lia)]; lia
    . have d' : ¬ q <= S.outs j := fun z => d (decide_eq_true (by lia))
      refine ⟨_, _, rfl, e2, ?_⟩
      rw [ht2]
      congr 2
      refine List.map_congr_left fun v hv => ?_
      rw [st, if_neg (by lia), Int.add_zero]
  . intro σ H1 hM_; refine M4 fun G_ hG_ => ?_; obtain ⟨o2, o3, rfl, e1, ht⟩ := hM_; subst hG_
    rw [lo] at ht
    refine ⟨_, rfl, k tl H1 e1 htn ?_⟩
    rw [ht]
    unfold C9
    rw [List.map_map]; rfl
end
end Rim
namespace Rim
open PySem L2
def S9 (rows : List (List Int)) : Nat -> Nat -> Int := fun i j => (rows.getD i []).getD j 0
def D6 (l : List Int) : Nat -> Int := fun i => l.getD i 0
abbrev RowsL (K : W.Frag) (H : Hp) : List V -> List (List Int) -> Prop := PySem.Paired fun v row => ∃ a, v = .ref a /\ SqL K H a (row.map V.int)
section
variable {P : Program} {w : World} {K : W.Frag} {mg : Str -> Option Value} {base : Heap} {f g c Pt : Addr} {fd gd : FuncData} {n : Nat} {C : Addr}
def a6U (K : W.Frag) (C : Addr) : Sp := fun vs H Q _ => ∃ (p dx ga ra ba : Addr) (goal : List Int) (rvs : List V) (rows : List (List Int)) (bounds : List Int) (m q : Nat), vs = [.ref p, .ref ga, .ref ra, .ref ba] /\ H p = some (.ins C dx []) /\ SqL K H ga (goal.map V.int) /\ SqL K H ra rvs ∧
  RowsL K H rvs rows /\ SqL K H ba (bounds.map V.int) /\ rows.length = m /\ bounds.length = m /\ goal.length = q /\ (∀ r ∈ rows, r.length = q) /\ m < 900 /\ q < 900 ∧
  ∀ (H' : Hp) (ca oa ia : Addr) (rs : List Addr), Bd C H' p dx ca oa ia rs m q (Lp.S0 m q (S9 rows) (D6 bounds) (D6 goal)) -> (∀ b o, b ≠ p -> H b = some o -> H' b = some o) -> H oa = none -> H ia = none -> Q .non H'
theorem a9z : i8 ["self", "goal", "rows", "bounds"] ["self", "goal", "rows", "bounds"] (d9 a2H) := ⟨rfl, rfl, rfl, by decide +kernel, rfl, by decide +kernel, by decide +kernel⟩
theorem b0F : (["row", "bound"] : List Str).Nodup := by decide +kernel
theorem b1L : (["one"] : List Str).Nodup := by decide +kernel
set_option maxHeartbeats 4000000 in
noncomputable def b1k {cdv : Value} {A : Around} {outer : List Env} {s : Shared} {H : Hp} {E : XK} (N : t9 mg) :
    { t : TS // PSs (E7 D4 P w K mg base ["self", "goal", "rows", "bounds"] "Board.__init__" (d9 a2H) f cdv A outer s H E).nox (p7 a2H) t } :=
  ⟨_, d8 (C3 (pv 0) (j0 i9 rfl N.len PySem.boot_len (a0 (pv 1) d7)) rfl)
    (d8 (C3 (pv 0) e8 rfl)
    (t0 (C3 (pv 0) (Z5 ["row", "bound"] [] rfl (a9a true true K rfl rfl N.zip (a0 (pv 2) (a0 (pv 3) d7)))
      (fun _ _ _ _ => U8 K (n := 2) rfl rfl (m7 (m5 (i := 0) b0F rfl (Or.inl rfl)) (m7 (m5 (i := 1) b0F rfl (Or.inl rfl)) A9)))
      (fun _ _ _ _ => i7 v7 (u9 (a4o K rfl) rfl N.list PyProof.Rows.boot_list (a0 (pv 0) d7)) (o6 (a0 (pv 1) d7)))) rfl)
    (t0 (u0 (a2M PySem.F.plainAttrs_list PySem.F.slot_list_append PySem.F.type_list_append G4 (j3 (pv 0) rfl)
      (a0 (i7 v7 (Z5 ["one"] [] rfl (V5 (pv 1)) (fun _ _ _ _ => m5 (i := 0) b1L rfl (Or.inl rfl)) (fun _ _ _ _ => J8 C2 (pv 0))) (o6 (a0 e8 d7))) d7)))
    (d8 (C3 (pv 0) (u9 (T1 rfl) rfl N.list PyProof.Rows.boot_list (a0 (u9 a4H rfl N.range PyProof.Rows.boot_range (a0 (j3 (pv 0) rfl) d7)) d7)) rfl)
    (g0 (C3 (pv 0) (u9 (T1 rfl) rfl N.list PyProof.Rows.boot_list (a0 (u9 a5v rfl N.range PyProof.Rows.boot_range (a0 (j3 (pv 0) rfl) (a0 (i7 y8 (j3 (pv 0) rfl) (j0 i9 rfl N.len PySem.boot_len (a0 (pv 2) d7))) d7))) d7)) rfl))))))⟩
end
end Rim
namespace Rim
open PySem L2
theorem a9l {m q i : Nat} {rows : List (List Int)} {bounds goal row : List Int} {b : Int} (hr : rows[i]? = some row) (hb : bounds[i]? = some b) (hl : row.length = q) (hi : i < m) :
    row ++ [b] = r9 q (Lp.S0 m q (S9 rows) (D6 bounds) (D6 goal)) i := by
  refine List.ext_getElem? fun j => ?_
  unfold r9
  by_cases hj : j < q + 1
  . rw [List.getElem?_map, List.getElem?_range hj, Option.map_some]
    have hT : (Lp.S0 m q (S9 rows) (D6 bounds) (D6 goal)).T i j = if j < q then S9 rows i j else D6 bounds i := by
      show (if j < q then (if i < m then _ else _) else (if i < m then _ else _)) = _
      rw [if_pos hi, if_pos hi]
    rw [hT]
    by_cases h : j < q
    . rw [List.getElem?_append_left (by lia), if_pos h]
      unfold S9
      rw [List.getD_eq_getElem?_getD, List.getD_eq_getElem?_getD, hr, Option.getD_some, List.getElem?_eq_getElem (by lia), Option.getD_some]
    . rw [List.getElem?_append_right (by lia), if_neg h, hl, show j - q = 0 by lia]
      unfold D6
      rw [List.getD_eq_getElem?_getD, hb]; rfl
  . rw [List.getElem?_eq_none (by simp; lia), List.getElem?_eq_none (by simp; lia)]
theorem a7B {m q : Nat} {rows : List (List Int)} {bounds goal : List Int} (hl : goal.length = q) : goal.map (fun x => -x) ++ [0] = r9 q (Lp.S0 m q (S9 rows) (D6 bounds) (D6 goal)) m := by
  refine List.ext_getElem? fun j => ?_
  unfold r9
  by_cases hj : j < q + 1
  . rw [List.getElem?_map, List.getElem?_range hj, Option.map_some]
    have hT : (Lp.S0 m q (S9 rows) (D6 bounds) (D6 goal)).T m j = if j < q then - D6 goal j else 0 := by
      show (if j < q then (if m < m then _ else _) else (if m < m then _ else _)) = _
      rw [if_neg (Nat.lt_irrefl _), if_neg (Nat.lt_irrefl _)]
    rw [hT]
    by_cases h : j < q
    . rw [List.getElem?_append_left (by simp; lia), if_pos h, List.getElem?_map]
      unfold D6
      rw [List.getD_eq_getElem?_getD, List.getElem?_eq_getElem (by lia), Option.map_some, Option.getD_some]
    . rw [List.getElem?_append_right (by simp; lia), if_neg h, List.length_map, hl, show j - q = 0 by lia]; rfl
  . rw [List.getElem?_eq_none (by simp; lia), List.getElem?_eq_none (by simp; lia)]
theorem a8n {m q : Nat} {A : Nat -> Nat -> Int} {b c : Nat -> Int} : ((List.range q).map fun (i : Nat) => V.int (0 + (i : Int))) = (D3 q (Lp.S0 m q A b c)).map V.int := by
  unfold D3
  rw [List.map_map]
  refine List.map_congr_left fun j hj => ?_
  have h : (Lp.S0 m q A b c).outs j = j := if_pos (List.mem_range.mp hj)
  simp [h]
theorem a9Y {m q : Nat} {A : Nat -> Nat -> Int} {b c : Nat -> Int} : ((List.range m).map fun (i : Nat) => V.int ((q : Int) + (i : Int))) = (K3 m (Lp.S0 m q A b c)).map V.int := by
  unfold K3
  rw [List.map_map]
  refine List.map_congr_left fun j hj => ?_
  have h : (Lp.S0 m q A b c).ins j = q + j := rfl
  simp [h]
section
variable {P : Program} {w : World} {K : W.Frag} {mg : Str -> Option Value} {base : Heap} {f g c Pt : Addr} {fd gd : FuncData} {n : Nat} {C : Addr}
theorem P9 {H H' : Hp} {a p : Addr} {xs : List V} {C dx : Addr} {fs : List (Str × V)} (hp : H p = some (.ins C dx fs)) (e : ∀ b o, b ≠ p -> H b = some o -> H' b = some o) (h : SqL K H a xs) : SqL K H' a xs := by
  rcases h with (h | ⟨o, h⟩) | h
  . exact .inl (.inl (e _ _ (t7 h hp (by intro z; cases z)) h))
  . exact .inl (.inr ⟨o, e _ _ (t7 h hp (by intro z; cases z)) h⟩)
  . exact .inr h
set_option maxHeartbeats 8000000 in
theorem a8h (F : Fun K "__init__" "Board.__init__" a2H f fd) (N : t9 mg) (T : TB K C) : FnOk P w K mg base D4 (n + 1) f fd ["self", "goal", "rows", "bounds"] (a6U K C) := by
  refine F.ok a9z (fun vs H Q E h => ?_) (fun cdv A outer s H vs Q E hr h => ?_)
  . obtain ⟨p, dx, ga, ra, ba, goal, rvs, rows, bounds, m, q, rfl, _⟩ := h
    rfl
  obtain ⟨p, dx, ga, ra, ba, goal, rvs, rows, bounds, m, q, rfl, hp, hg, hra, hrw, hba, lr, lb, lg, hrl, hm, hq, k⟩ := h
  refine ⟨_, (b1k N).2, ?_⟩
  have lv : rvs.length = m := by rw [<- lr]; exact Paired.length hrw
  have k1 : ∀ b o, b ≠ p -> H b = some o -> j9 (j9 H p (.ins C dx [("many", .int q)])) p (.ins C dx [("many", .int q), ("scale", .int 1)]) b = some o := fun b o hb e => by rw [c9 hb, c9 hb]; exact e
  refine ⟨_, rfl, ga, _, rfl, .inl hg, _, rfl, p, C, dx, _, rfl, hp, T.cl, T.nM, (by show 0 < 1000; decide), ?_⟩
  rw [List.length_map, lg]
  refine ⟨_, rfl, p, C, dx, _, rfl, upd_same, T.cl, T.nS, (by show 1 < 1000; decide), ?_⟩
  refine ⟨fun σ' H4 => ∃ (l : Addr) (rs : List Addr), σ' = [some (.ref p), some (.ref ga), some (.ref ra), some (.ref ba)] /\ H4 p = some (.ins C dx [("many", .int q), ("scale", .int 1), ("cells", .ref l)]) /\ H4 l = some (.lst (rs.map V.ref)) /\ rs.length = m /\ H l = none ∧
    (∀ i a, rs[i]? = some a -> a ≠ l /\ H4 a = some (.lst ((r9 q (Lp.S0 m q (S9 rows) (D6 bounds) (D6 goal)) i).map V.int))) /\ ∀ b o, b ≠ p -> H b = some o -> H4 b = some o, ?_, ?_⟩
  . refine ⟨_, rfl, _, rfl, ra, ba, rfl, ⟨_, P9 hp k1 hra⟩, ⟨_, P9 hp k1 hba⟩, fun l hl => ?_⟩
    have nlp : p ≠ l := d0 upd_same hl
    have hl0 : H l = none := by
      rw [c9 nlp.symm, c9 nlp.symm] at hl; exact hl
    refine a6P (P9 hp k1 hra) (P9 hp k1 hba) hl (by rw [lv]; exact j7 (by lia)) (fun i y H2 => ∃ a, y = .ref a /\ a ≠ l /\ H2 a = some (.lst ((r9 q (Lp.S0 m q (S9 rows) (D6 bounds) (D6 goal)) i).map V.int)))
      (fun i y H2 H3 ⟨a, h1, h2, h3⟩ e => ⟨a, h1, h2, e a _ h2 h3⟩) (fun i x y H2 zs N' hx hy e hl2 hN => ?_) (fun zs H2 e hl2 len pr => ?_)
    . obtain ⟨row, hrow, ⟨a, rfl, ha⟩⟩ := Paired.at hrw hx
      rw [List.getElem?_map] at hy
      cases hbi : bounds[i]? with
      | none => rw [hbi] at hy; cases hy
      | some b =>
        rw [hbi] at hy
        have hy' : V.int b = y := Option.some.inj hy
        subst hy'
        have hi : i < m := by rw [<- lb]; exact (List.getElem?_eq_some_iff.mp hbi).1
        have hlen := hrl row (List.mem_of_getElem? hrow)
        have ha2 : SqL K H2 a (row.map V.int) := e.seq (P9 hp k1 ha)
        refine ⟨_, rfl, a, _, rfl, .inl ha2, fun a1 h1 => ?_⟩
        have s1 := Same.new h1 (.lst (row.map V.int))
        refine ⟨_, rfl, (by show 1 <= sizeLine; decide), fun a2 h2 => ?_⟩
        have s2 := s1.trans (Same.new h2 (.lst [.int b]))
        have n12 : a1 ≠ a2 := d0 upd_same h2
        refine ⟨a1, a2, _, _, rfl, rfl, (by rw [c9 n12]; exact upd_same), upd_same, ?_, fun a3 h3 => ?_⟩
        . rw [List.length_map, hlen]
          have := j7 (show q + 1 <= 1000 by lia)
          simp
          lia
        . refine hN _ _ (s2.trans (Same.new h3 _)) ⟨a3, rfl, fun z => ?_, ?_⟩
          . rw [z, s2 _ _ hl2] at h3; cases h3
          . rw [upd_same, <- a9l hrow hbi hlen hi, List.map_append]; rfl
    . have hp2 := e _ _ (upd_same (H := j9 H p (.ins C dx [("many", .int q)])) (a := p) (o := .ins C dx [("many", .int q), ("scale", .int 1)]))
      refine ⟨_, rfl, p, C, dx, _, rfl, hp2, T.cl, T.nC, (by show 2 < 1000; decide), ?_⟩
      have hzs : zs = (zs.map a5g).map V.ref := by
        rw [List.map_map]
        refine List.ext_getElem? fun i => ?_
        rw [List.getElem?_map]
        cases qi : zs[i]? with
        | none => rfl
        | some y =>
          obtain ⟨a, rfl, _⟩ := pr i y qi
          rfl
      refine ⟨l, zs.map a5g, rfl, upd_same, by rw [c9 nlp.symm, hl2]; rw [<- hzs], by rw [List.length_map, len, lv, List.length_map, lb]; lia, hl0, fun i a hi => ?_, fun b o hb hbo => by rw [c9 hb]; exact e _ _ (k1 b o hb hbo)⟩
      rw [List.getElem?_map] at hi
      cases qi : zs[i]? with
      | none => rw [qi] at hi; cases hi
      | some y =>
        obtain ⟨a', rfl, h2, h3⟩ := pr i y qi
        rw [qi] at hi
        have : a' = a := Option.some.inj hi
        subst this
        refine ⟨h2, ?_⟩
        rw [c9 (fun z => by rw [z, hp2] at h3; cases h3)]
        exact h3
  intro σ' H4 hM_; refine M4 fun G_ hG_ => ?_; obtain ⟨l, rs, rfl, hp4, hl4, hlen, hl0, hrs, hk⟩ := hM_; subst hG_
  have nlp : l ≠ p := (d0 hp hl0).symm
  refine ⟨fun σ' H5 => ∃ rs' : List Addr, σ' = [some (.ref p), some (.ref ga), some (.ref ra), some (.ref ba)] /\ H5 p = some (.ins C dx [("many", .int q), ("scale", .int 1), ("cells", .ref l)]) /\ H5 l = some (.lst (rs'.map V.ref)) /\ rs'.length = m + 1 ∧
    (∀ i a, rs'[i]? = some a -> a ≠ l /\ H5 a = some (.lst ((r9 q (Lp.S0 m q (S9 rows) (D6 bounds) (D6 goal)) i).map V.int))) /\ ∀ b o, b ≠ p -> H b = some o -> H5 b = some o, ?_, ?_⟩
  . refine ⟨_, rfl, p, C, dx, _, _, rfl, hp4, T.cl, T.nC, rfl, .inl ⟨rfl, _, SqL.of hl4⟩, ?_⟩
    have hg4 := P9 hp hk hg
    refine ⟨_, rfl, ga, rfl, ⟨_, hg4⟩, fun a1 h1 => ?_⟩
    refine a0C (R6 hg4) h1 (by rw [List.length_map, lg]; exact j7 (by lia)) (fun x => .int (-(vI x))) (fun i x H' N' hx e hN => ?_) ?_
    . obtain ⟨x', rfl, _⟩ := a0n hx
      exact ⟨Wk.set (by decide), _, rfl, _, rfl, hN⟩
    have eg : (goal.map V.int).map (fun x => V.int (-(vI x))) = (goal.map fun x => -x).map V.int := by rw [List.map_map, List.map_map]; rfl
    rw [eg]
    have s1 := Same.new h1 (.lst ((goal.map fun x => -x).map V.int))
    refine ⟨(by show 1 <= sizeLine; decide), fun a2 h2 => ?_⟩
    have s2 := s1.trans (Same.new h2 (.lst [.int 0]))
    have n12 : a1 ≠ a2 := d0 upd_same h2
    refine ⟨a1, a2, _, _, rfl, rfl, (by rw [c9 n12]; exact upd_same), upd_same, ?_, fun a3 h3 => ?_⟩
    . rw [List.length_map, List.length_map, lg]
      have := j7 (show q + 1 <= 1000 by lia)
      simp
      lia
    have s3 := s2.trans (Same.new h3 (.lst ((goal.map fun x => -x).map V.int ++ [.int 0])))
    refine ⟨l, _, _, rfl, rfl, s3 _ _ hl4, (by rw [List.length_map, hlen]; exact j7 (by lia)), ?_⟩
    have n3l : a3 ≠ l := fun z => by rw [z, s2 _ _ hl4] at h3; cases h3
    have n3p : a3 ≠ p := fun z => by rw [z, s2 _ _ hp4] at h3; cases h3
    refine ⟨rs ++ [a3], rfl, by rw [c9 nlp.symm]; exact s3 _ _ hp4, by rw [upd_same, List.map_append]; rfl, by rw [List.length_append, hlen]; rfl, fun i a hi => ?_, fun b o hb hbo => by rw [c9 (d0 hbo hl0)]; exact s3 _ _ (hk b o hb hbo)⟩
    by_cases him : i < m
    . rw [List.getElem?_append_left (by lia)] at hi
      obtain ⟨g1, g2⟩ := hrs i a hi
      exact ⟨g1, by rw [c9 g1]; exact s3 _ _ g2⟩
    . rw [List.getElem?_append_right (by lia)] at hi
      have hi0 : i - rs.length = 0 := by
        cases z : i - rs.length with
        | zero => rfl
        | succ j => rw [z] at hi; simp at hi
      rw [hi0] at hi
      have : a3 = a := Option.some.inj hi
      subst this
      have : i = m := by lia
      subst this
      refine ⟨n3l, ?_⟩
      rw [c9 n3l, upd_same, <- a7B lg, List.map_append]; rfl
  intro σ' H5 hM_; refine M4 fun G_ hG_ => ?_; obtain ⟨rs', rfl, hp5, hl5, hlen5, hrs5, hk5⟩ := hM_; subst hG_
  -- self.outs
  refine ⟨_, rfl, p, C, dx, _, _, rfl, hp5, T.cl, T.nM, rfl, q, rfl, fun r1 h1 => ?_⟩
  have s1 := Same.new h1 (.rng 0 (q : Int))
  refine ⟨r1, 0, q, rfl, by rw [upd_same, Int.zero_add], by lia, by lia, by lia, fun oa hoa => ?_⟩
  have s2 := s1.trans (Same.new hoa (.lst ((List.range q).map fun (i : Nat) => V.int (0 + (i : Int)))))
  have noa5 : H5 oa = none := by
    cases z : H5 oa with
    | none => rfl
    | some o => rw [s1 _ _ z] at hoa; cases hoa
  have nop : oa ≠ p := (d0 hp5 noa5).symm
  refine ⟨_, rfl, p, C, dx, _, rfl, s2 _ _ hp5, T.cl, T.nO, (by show 3 < 1000; decide), ?_⟩
  -- self.ins
  have hra5 := P9 hp hk5 hra
  have lp5 : SqL K (j9 (j9 (j9 H5 r1 (.rng 0 (q : Int))) oa (.lst ((List.range q).map fun (i : Nat) => V.int (0 + (i : Int))))) p (.ins C dx [("many", .int q), ("scale", .int 1), ("cells", .ref l), ("outs", .ref oa)])) ra rvs :=
    P9 (s2 _ _ hp5) (fun b o hb e => by rw [c9 hb]; exact e) (s2.seq hra5)
  refine ⟨_, rfl, p, C, dx, _, _, rfl, upd_same, T.cl, T.nM, rfl, _, rfl, p, C, dx, _, _, rfl, upd_same, T.cl, T.nM, rfl, _, rfl, ra, _, rfl, .inl lp5, _, _, rfl, rfl, _, _, rfl, fun r2 h2 => ?_⟩
  rw [lv]
  refine ⟨r2, (q : Int), m, rfl, upd_same, by lia, by lia, by lia, fun ia hia => ?_⟩
  have n2p : r2 ≠ p := (d0 upd_same h2).symm
  have nip : ia ≠ p := by
    refine (d0 (H := _) (o := .ins C dx [("many", .int q), ("scale", .int 1), ("cells", .ref l), ("outs", .ref oa)]) ?_ hia).symm
    rw [c9 n2p.symm, upd_same]; rfl
  have oa6 : ∀ o, j9 (j9 (j9 H5 r1 (.rng 0 (q : Int))) oa o) p (.ins C dx [("many", .int q), ("scale", .int 1), ("cells", .ref l), ("outs", .ref oa)]) oa = some o := fun o => by rw [c9 nop, upd_same]
  have n2o : r2 ≠ oa := (d0 (oa6 _) h2).symm
  have nio : ia ≠ oa := by
    refine (d0 (H := _) (o := .lst ((List.range q).map fun (i : Nat) => V.int (0 + (i : Int)))) ?_ hia).symm
    rw [c9 n2o.symm]; exact oa6 _
  have up : ∀ b o, b ≠ p -> H5 b = some o -> b ≠ ia /\ b ≠ r2 /\ j9 (j9 H5 r1 (.rng 0 (q : Int))) oa (.lst ((List.range q).map fun (i : Nat) => V.int (0 + (i : Int)))) b = some o := fun b o hb e => by
    have e2 := s2 _ _ e
    have nb2 : b ≠ r2 := by
      refine d0 (H := _) (o := o) ?_ h2
      rw [c9 hb]; exact e2
    refine ⟨?_, nb2, e2⟩
    refine d0 (H := _) (o := o) ?_ hia
    rw [c9 nb2, c9 hb]; exact e2
  refine ⟨_, rfl, p, C, dx, _, rfl, (by rw [c9 nip.symm, c9 n2p.symm]; exact upd_same), T.cl, T.nI, (by show 4 < 1000; decide), ?_⟩
  have fin : ∀ b o, b ≠ p -> H5 b = some o -> j9 (j9 (j9 (j9 (j9 (j9 H5 r1 (.rng 0 (q : Int))) oa (.lst ((List.range q).map fun (i : Nat) => V.int (0 + (i : Int))))) p (.ins C dx [("many", .int q), ("scale", .int 1), ("cells", .ref l), ("outs", .ref oa)])) r2 (.rng (q : Int) ((q : Int) + (m : Int)))) ia (.lst ((List.range m).map fun (i : Nat) => V.int ((q : Int) + (i : Int))))) p (.ins C dx [("many", .int q), ("scale", .int 1), ("cells", .ref l), ("outs", .ref oa), ("ins", .ref ia)]) b = some o := fun b o hb e => by
    obtain ⟨g1, g2, g3⟩ := up b o hb e
    rw [c9 hb, c9 g1, c9 g2, c9 hb]; exact g3
  have ia5 : H5 ia = none := by
    cases z : H5 ia with
    | none => rfl
    | some o => exact absurd rfl (up ia o nip z).1
  have back : ∀ b, b ≠ p -> H5 b = none -> H b = none := fun b hb z => by
    cases z2 : H b with
    | none => rfl
    | some o => rw [hk5 b o hb z2] at z; cases z
  refine k _ l oa ia rs' ⟨upd_same, fin _ _ nlp hl5, hlen5, fun i a hi => fin _ _ (fun z => ?_) (hrs5 i a hi).2, ?_, ?_, nio.symm⟩ (fun b o hb hbo => fin b o hb (hk5 b o hb hbo)) (back _ nop noa5) (back _ nip ia5)
  . have := (hrs5 i a hi).2
    rw [z, hp5] at this; cases this
  . rw [c9 nop, c9 nio.symm, c9 n2o.symm, c9 nop, upd_same, a8n]
  . rw [c9 nip, upd_same, a9Y]
end
end Rim
namespace Rim
open PySem L2
section
variable {P : Program} {w : World} {K : W.Frag} {mg : Str -> Option Value} {base : Heap} {f Pt : Addr} {fd : FuncData} {n : Nat} {C : Addr}
def U4 (K : W.Frag) (C Pt : Addr) : Sp := fun vs H Q _ => ∃ (ga ra ba : Addr) (goal : List Int) (rvs : List V) (rows : List (List Int)) (bounds : List Int) (m q M : Nat), vs = [.ref ga, .ref ra, .ref ba] /\ SqL K H ga (goal.map V.int) /\ SqL K H ra rvs ∧
  RowsL K H rvs rows /\ SqL K H ba (bounds.map V.int) /\ rows.length = m /\ bounds.length = m /\ goal.length = q /\ (∀ r ∈ rows, r.length = q) /\ m < 900 /\ q < 900 /\ (∀ i, i < m -> 0 <= D6 bounds i) ∧
  (∀ v, Lp.Fits M (m + 1) (Lp.Vv m q (S9 rows) (D6 bounds) (D6 goal) v)) /\ Lp.bnd M (m + 1) < 2 ^ 4000 /\ LT Pt H ∧
  (∀ (S : Lp.Bo) (H' : Hp) (t aa wa : Addr), Lp.Of m q (S9 rows) (D6 bounds) (D6 goal) S -> (∀ j, j < q -> ¬ S.T m j < 0) -> Sz 4000 m q S -> Same1 Pt H H' -> LT Pt H' -> H' t = some (.tup [.int (S.T m q), .ref aa, .ref wa, .int S.d]) →
    H' aa = some (.lst ((m9 m q S).map V.int)) -> H' wa = some (.lst ((C9 m q S).map V.int)) -> Q (.ref t) H') ∧
  ∀ (S : Lp.Bo) (H' : Hp) (c : Nat), Lp.Of m q (S9 rows) (D6 bounds) (D6 goal) S -> c < q -> S.T m c < 0 -> (∀ i, i < m -> ¬ 0 < S.T i c) -> Same1 Pt H H' -> LT Pt H' -> Q .non H'
theorem scGr : i8 ["goal", "rows", "bounds", "board", "column", "row"] ["goal", "rows", "bounds"] (d9 D7) := ⟨rfl, rfl, rfl, by decide +kernel, rfl, by decide +kernel, by decide +kernel⟩
structure b0Y (P : Program) (w : World) (K : W.Frag) (mg : Str -> Option Value) (base : Heap) (n : Nat) (C Pt : Addr) (f1 f2 f3 f4 f5 f6 : Addr) (d1 d2 d3 d4 d5 d6 : FuncData) : Prop where
  mak : Mk K C f1
  ini : FnOk P w K mg base D4 n f1 d1 ["self", "goal", "rows", "bounds"] (a6U K C)
  inb : Binds K d1 ["self", "goal", "rows", "bounds"] []
  mC : mg "Board" = some (.ref C)
  com : a5s P w K mg base n C "coming" ["self"] (a0Q C Pt) f2 d2
  goi : a5s P w K mg base n C "going" ["self", "column"] (a3U C) f3 d3
  exc : a5s P w K mg base n C "exchange" ["self", "row", "column"] (a0s C) f4 d4
  amt : a5s P w K mg base n C "amounts" ["self"] (a7l C) f5 d5
  wts : a5s P w K mg base n C "weights" ["self"] (a8G C) f6 d6
set_option maxHeartbeats 4000000 in
noncomputable def grT {cdv : Value} {A : Around} {outer : List Env} {s : Shared} {H : Hp} {E : XK} {f1 f2 f3 f4 f5 f6 : Addr} {d1 d2 d3 d4 d5 d6 : FuncData} (T : TB K C) (G : b0Y P w K mg base n C Pt f1 f2 f3 f4 f5 f6 d1 d2 d3 d4 d5 d6)
    (hr : Room (n + 1) (A.deeper (PyProof.Rows.envOfC "greatest" (d9 D7) s.heap.objs.size f cdv))) (hr0 : Room n (A.deeper (PyProof.Rows.envOfC "greatest" (d9 D7) s.heap.objs.size f cdv))) :
    { t : TS // PSs (E7 D4 P w K mg base ["goal", "rows", "bounds", "board", "column", "row"] "greatest" (d9 D7) f cdv A outer s H E).nox (p7 D7) t } :=
  ⟨_, d8 (l0 (i := 3) scGr.nd rfl (Or.inl rfl) (a4m G.mak G.ini hr rfl G.mC G.inb .nil p9 (a0 (pv 0) (a0 (pv 1) (a0 (pv 2) d7)))))
    (d8 (l0 (i := 4) scGr.nd rfl (Or.inl rfl) (D9 (pv 3) T.cl G.com.me G.com.ok hr0 G.com.bd .nil p9))
    (d8 (a0u PassesOwn.never (j4 a7I (pv 4) J6 (j8 _))
      (d8 (l0 (i := 5) scGr.nd rfl (Or.inl rfl) (G1 (pv 3) T.cl G.goi.me G.goi.ok hr0 G.goi.bd .nil p9 (a0 (pv 4) d7)))
      (d8 (v6 (j4 a1K (pv 5) J6 (j8 _)) (g0 (m6 J6)) o4)
      (d8 (u0 (G1 (pv 3) T.cl G.exc.me G.exc.ok hr0 G.exc.bd .nil p9 (a0 (pv 5) (a0 (pv 4) d7))))
      (g0 (l0 (i := 4) scGr.nd rfl (Or.inl rfl) (D9 (pv 3) T.cl G.com.me G.com.ok hr0 G.com.bd .nil p9)))))))
    (g0 (m6 (x5 (a0 (m8 j5 (m8 j5 (j3 (pv 3) rfl) (J8 C2 e8) (fun _ _ => rfl)) (J8 C2 e8) (fun _ _ => rfl))
      (a0 (D9 (pv 3) T.cl G.amt.me G.amt.ok hr0 G.amt.bd .nil p9) (a0 (D9 (pv 3) T.cl G.wts.me G.wts.ok hr0 G.wts.bd .nil p9) (a0 (j3 (pv 3) rfl) d7)))))))))⟩
end
end Rim
namespace Rim
open PySem L2
section
variable {P : Program} {w : World} {K : W.Frag} {mg : Str -> Option Value} {base : Heap} {f Pt : Addr} {fd : FuncData} {n : Nat} {C : Addr}
theorem RowsL.same {H H' : Hp} {vs : List V} {rs : List (List Int)} (e : Same H H') (x : RowsL K H vs rs) : RowsL K H' vs rs := Paired.imp' (fun _ _ ⟨a, z, q⟩ => ⟨a, z, e.seq q⟩) x
theorem b1u {m q M : Nat} {A : Nat -> Nat -> Int} {b c : Nat -> Int} {S : Lp.Bo} (O : Lp.Of m q A b c S) (hM : ∀ v, Lp.Fits M (m + 1) (Lp.Vv m q A b c v)) (hb : Lp.bnd M (m + 1) < 2 ^ 4000) : Sz 4000 m q S :=
  ⟨fun i j hi hj => Nat.lt_of_le_of_lt (O.w.bndT hM hi hj) hb, Nat.lt_of_le_of_lt (O.w.bndd hM) hb⟩
def Cv (m q : Nat) (S : Lp.Bo) (cv : V) : Prop := (cv = .non /\ ∀ j, j < q -> ¬ S.T m j < 0) \/ ∃ c : Nat, cv = .int c /\ c < q /\ S.T m c < 0 /\ ∀ i, i < q -> S.T m i < 0 -> S.outs c <= S.outs i
set_option maxHeartbeats 8000000 in
theorem a2y {f1 f2 f3 f4 f5 f6 : Addr} {d1 d2 d3 d4 d5 d6 : FuncData} (F : Fun K "greatest" "greatest" D7 f fd) (T : TB K C) (G : b0Y P w K mg base n C Pt f1 f2 f3 f4 f5 f6 d1 d2 d3 d4 d5 d6) :
    FnOk P w K mg base D4 (n + 2) f fd ["goal", "rows", "bounds"] (U4 K C Pt) := by
  refine F.ok scGr (fun vs H Q E h => ?_) (fun cdv A outer s H vs Q E hr h => ?_)
  . obtain ⟨ga, ra, ba, goal, rvs, rows, bounds, m, q, M, rfl, _⟩ := h
    rfl
  obtain ⟨ga, ra, ba, goal, rvs, rows, bounds, m, q, M, rfl, hg, hra, hrw, hba, lr, lb, lg, hrl, hm, hq, hbn, hM, hB, L, kT, kN⟩ := h
  refine ⟨_, (grT T G hr (hr.mono (by lia))).2, ?_⟩
  refine ⟨_, rfl, _, rfl, _, rfl, fun p dx hp hdx hne => ?_⟩
  have e0 : Same H (j9 (j9 H dx (.own p)) p (.ins C dx [])) := fun b o q' => by rw [c9 (d0 q' hp), c9 (d0 q' hdx)]; exact q'
  refine ⟨p, dx, ga, ra, ba, goal, rvs, rows, bounds, m, q, rfl, upd_same, e0.seq hg, e0.seq hra, hrw.same e0, e0.seq hba, lr, lb, lg, hrl, hm, hq, fun H1 ca oa ia rs B k1 hoa hia => ⟨rfl, ?_⟩⟩
  -- what the board is
  have nop : oa ≠ p := t7 B.out B.obj (by intro z; cases z)
  have nip : ia ≠ p := t7 B.inn B.obj (by intro z; cases z)
  have hoa0 : H oa = none := by
    cases z : H oa with
    | none => rfl
    | some o => rw [e0 _ _ z] at hoa; cases hoa
  have hia0 : H ia = none := by
    cases z : H ia with
    | none => rfl
    | some o => rw [e0 _ _ z] at hia; cases hia
  have s1 : Same H H1 := fun b o z => k1 b o (d0 z hp) (e0 _ _ z)
  have L1 : LT Pt H1 := L.same s1
  have O0 := Lp.of0 (A := S9 rows) (c := D6 goal) (q := q) hbn
  -- column = board.coming()
  have come : ∀ (S : Lp.Bo) (ca : Addr) (rs : List Addr) (H2 : Hp) (R : V -> Hp -> Prop), Bd C H2 p dx ca oa ia rs m q S -> LT Pt H2 -> Same1 Pt H H2 -> (∀ cv H3, Cv m q S cv -> Bd C H3 p dx ca oa ia rs m q S -> LT Pt H3 -> Same1 Pt H H3 -> R cv H3) →
      a0Q C Pt [.ref p] H2 R E0 := fun S ca rs H2 R B2 L2 e2 hR => by
    refine ⟨p, dx, ca, oa, ia, rs, m, q, S, rfl, B2, by lia, L2, fun H3 e3 L3 => ?_⟩
    have B3 := B2.lam L2 e3
    have e4 : Same1 Pt H H3 := fun b o hb z => e3 b o hb (e2 b o hb z)
    exact ⟨fun hn => hR _ _ (.inl ⟨rfl, hn⟩) B3 L3 e4, fun j hj hneg hmin => hR _ _ (.inr ⟨j, rfl, hj, hneg, hmin⟩) B3 L3 e4⟩
  refine ⟨_, rfl, p, dx, _, rfl, B.obj, rfl, ?_⟩
  unfold a1h
  refine come _ _ _ _ _ B L1 (fun b o _ z => s1 b o z) fun cv H2 hcv B2 L2 e2 => ?_
  -- while column is not None
  obtain ⟨kk, hkk⟩ := O0.w.ends hM
  refine ⟨fun j σ H3 => ∃ (S : Lp.Bo) (ca : Addr) (rs : List Addr) (cv : V) (o5 : Option V), σ = [some (.ref ga), some (.ref ra), some (.ref ba), some (.ref p), some cv, o5] /\ Lp.Of m q (S9 rows) (D6 bounds) (D6 goal) S /\ Lp.Ends m q S j /\ Cv m q S cv /\ Bd C H3 p dx ca oa ia rs m q S /\ LT Pt H3 /\ Same1 Pt H H3,
    ⟨kk, _, ca, rs, cv, _, rfl, O0, hkk, hcv, B2, L2, e2⟩, ?_⟩
  rintro j σ H3 ⟨S, ca, rs, cv, o5, rfl, O, hE, hcv, B3, L3, e3⟩
  have sz := b1u O hM hB
  refine ⟨_, rfl, rfl, _, rfl, ?_⟩
  rcases hcv with ⟨rfl, hn⟩ | ⟨c, rfl, hc, hneg, hmin⟩
  . refine A7 (fun z => ?_) (fun _ => ?_)
    . exact absurd z (by decide)
    -- the answer
    obtain ⟨rm, em, am⟩ := B3.rs_last
    refine ⟨_, rfl, p, C, dx, _, _, rfl, B3.obj, T.cl, T.nC, rfl, _, rfl, ca, _, _, _, rfl, rfl, SqL.of B3.cel, am, _, rfl, rm, _, _, _, rfl, rfl, SqL.of (B3.row m rm em), R9, ?_⟩
    refine ⟨_, rfl, p, dx, _, rfl, B3.obj, rfl, ?_⟩
    refine ⟨p, dx, ca, oa, ia, rs, m, q, S, rfl, B3, hm, hq, O.w.ii, fun aa H4 e4 haa h4 => ?_⟩
    have B4 : Bd C H4 p dx ca oa ia rs m q S := B3.same1 (P := Pt) fun b o z _ => e4 b o z
    refine ⟨_, rfl, p, dx, _, rfl, B4.obj, rfl, ?_⟩
    refine ⟨p, dx, ca, oa, ia, rs, m, q, S, rfl, B4, hm, hq, O.w.oo, O.w.ob, fun wa H5 e5 hwa h5 => ?_⟩
    have B5 : Bd C H5 p dx ca oa ia rs m q S := B4.same1 (P := Pt) fun b o z _ => e5 b o z
    refine ⟨_, rfl, p, C, dx, _, _, rfl, B5.obj, T.cl, T.nS, rfl, (by show 4 <= sizeLine; decide), fun t ht => ?_⟩
    have e6 := (e4.trans e5).trans (Same.new ht (.tup [.int (S.T m q), .ref aa, .ref wa, .int S.d]))
    refine kT S _ t aa wa O hn sz (fun b o hb z => e6 b o (e3 b o hb z)) (L3.same e6) upd_same ?_ ?_
    . rw [c9 (d0 (e5 _ _ h4) ht)]; exact e5 _ _ h4
    . rw [c9 (d0 h5 ht)]; exact h5
  . refine A7 (fun _ => ?_) (fun z => absurd rfl z)
    -- row = board.going(column)
    refine ⟨fun σ' H' => ∃ j', j' < j /\ ∃ (S : Lp.Bo) (ca : Addr) (rs : List Addr) (cv : V) (o5 : Option V), σ' = [some (.ref ga), some (.ref ra), some (.ref ba), some (.ref p), some cv, o5] /\ Lp.Of m q (S9 rows) (D6 bounds) (D6 goal) S /\ Lp.Ends m q S j' /\ Cv m q S cv /\ Bd C H' p dx ca oa ia rs m q S /\ LT Pt H' /\ Same1 Pt H H', fun σ' H' z => z, ?_⟩
    refine ⟨_, rfl, p, dx, _, rfl, B3.obj, rfl, _, rfl, ?_⟩
    refine ⟨p, dx, ca, oa, ia, rs, m, q, S, c, rfl, B3, sz, by lia, by lia, fun hnone => ?_, fun r hrm hpos hbet => ?_⟩
    . refine ⟨_, rfl, rfl, _, rfl, ?_⟩
      refine A7 (fun _ => ?_) (fun z => absurd (decide_eq_true rfl) z)
      exact kN S H3 c O hc hneg hnone e3 L3
    . have Ch : Lp.Choice m q S r c := ⟨hc, hneg, hmin, hrm, hpos, fun i hi hp' => (hbet i hi hp').1, fun i hi hp' => (hbet i hi hp').2⟩
      refine ⟨_, rfl, rfl, _, rfl, ?_⟩
      refine A7 (fun z => absurd (of_decide_eq_true z) (by nofun)) (fun _ => ?_)
      refine ⟨_, rfl, p, dx, _, rfl, B3.obj, rfl, _, rfl, _, rfl, ?_⟩
      refine ⟨p, dx, ca, oa, ia, rs, m, q, S, r, c, rfl, B3, sz, hrm, hc, hm, hq, O.w.pos, fun H4 ca' rs' B4 k4 => ?_⟩
      have e4 : Same1 Pt H H4 := fun b o hb z => k4 b o (d0 z hp) (d0 z hoa0) (d0 z hia0) (e3 b o hb z)
      have tk : ∀ b o, H3 b = some o -> (∀ C dx fs, o ≠ .ins C dx fs) -> (∀ xs, o ≠ .lst xs) -> H4 b = some o := fun b o z n1 n2 => k4 b o (fun y => by subst y; rw [B3.obj] at z; exact n1 _ _ _ (Option.some.inj z).symm) (fun y => by subst y; rw [B3.out] at z; exact n2 _ (Option.some.inj z).symm) (fun y => by subst y; rw [B3.inn] at z; exact n2 _ (Option.some.inj z).symm) z
      have L4 : LT Pt H4 := by
        rcases L3 with t | ⟨c', t1, t2⟩
        . exact .inl (tk _ _ t (fun _ _ _ => nofun) fun _ => nofun)
        . exact .inr ⟨c', tk _ _ t1 (fun _ _ _ => nofun) fun _ => nofun, tk _ _ t2 (fun _ _ _ => nofun) fun _ => nofun⟩
      refine ⟨_, rfl, p, dx, _, rfl, B4.obj, rfl, ?_⟩
      refine come _ _ _ _ _ B4 L4 e4 fun cv' H5 hcv' B5 L5 e5 => ?_
      obtain ⟨j', hj', hE'⟩ := hE.next O.w Ch
      exact ⟨j', hj', _, ca', rs', cv', _, rfl, O.piv Ch, hE', hcv', B5, L5, e5⟩
end
end Rim
namespace Rim
open PySem L2
section
variable {P : Program} {w : World} {K : W.Frag} {mg : Str -> Option Value} {base : Heap} {f g : Addr} {fd gd : FuncData}
def a7r (K : W.Frag) : Sp := fun vs H Q _ => ∃ (a : Addr) (ns : List Int) (k : Int), vs = [.ref a, .int k] /\ SqL K H a (ns.map V.int) /\ 0 <= k /\ ∀ c : Int, Q (.int c) H
theorem a9o : i8 ["script", "k"] ["script", "k"] (d9 a7n) := ⟨rfl, rfl, rfl, by decide +kernel, rfl, by decide +kernel, by decide +kernel⟩
theorem a9J {ns : List Int} {k : Int} (h0 : 0 <= k) (h : k < ((ns.map V.int).length : Int)) : ∃ v : Int, X3 (ns.map V.int) k = some (.int v) := by
  have hl : (ns.map V.int).length = ns.length := List.length_map _
  have hk : k.toNat < ns.length := by lia
  have ek : k = ((k.toNat : Nat) : Int) := by lia
  have q : X3 (ns.map V.int) ((k.toNat : Nat) : Int) = some (.int ns[k.toNat]) := F0 (by rw [List.getElem?_map, List.getElem?_eq_getElem hk]; rfl)
  rw [<- ek] at q
  exact ⟨_, q⟩
theorem a7V {n : Nat} (F : Fun K "_law_cell_at" "_law_cell_at" a7n f fd) (T : t9 mg) : FnOk P w K mg base D4 (n + 1) f fd ["script", "k"] (a7r K) := by
  refine F.ok a9o (fun vs H Q E h => ?_) (fun cdv A outer s H vs Q E hr h => ?_)
  . obtain ⟨a, ns, k, rfl, _⟩ := h
    rfl
  obtain ⟨a, ns, k, rfl, hS, h0, q⟩ := h
  refine ⟨_, d8 (v6 (j4 a0y (pv 1) (j0 i9 rfl T.len PySem.boot_len (a0 (pv 0) d7)) (j8 _)) (g0 (m6 (m8 j5 (pv 0) (pv 1) (fun _ _ => rfl)))) o4)
    (g0 (m6 e8)), ?_⟩
  refine ⟨_, rfl, _, rfl, a, _, rfl, .inl hS, _, _, rfl, rfl, _, rfl, ?_⟩
  refine A7 (fun c => ?_) (fun c => ?_)
  . obtain ⟨v, hv⟩ := a9J h0 (of_decide_eq_true c)
    exact ⟨_, rfl, _, rfl, a, _, _, _, rfl, rfl, hS, hv, q v⟩
  . exact q 0
def a4t (K : W.Frag) : Sp := fun vs H Q _ => ∃ (c : Int) (many : Nat) (b : Int), vs = [.int c, .int (many : Int), .int b] /\ many <= 900 /\ 0 < b /\ b < 1073741824 ∧
  ∀ (r : Addr) (H' : Hp) (ds : List Int), Same H H' -> H' r = some (.lst (ds.map V.int)) -> ds.length = many -> (∀ d ∈ ds, 0 <= d /\ d < b) -> Q (.ref r) H'
theorem scDraws : i8 ["cell", "many", "base", "found", "rest", "stirred", "k"] ["cell", "many", "base"] (d9 a3i) := ⟨rfl, rfl, rfl, by decide +kernel, rfl, by decide +kernel, by decide +kernel⟩
theorem a5I {n : Nat} (F : Fun K "_law_draws" "_law_draws" a3i f fd) (T : t9 mg) : FnOk P w K mg base D4 (n + 1) f fd ["cell", "many", "base"] (a4t K) := by
  refine F.ok scDraws (fun vs H Q E h => ?_) (fun cdv A outer s H vs Q E hr h => ?_)
  . obtain ⟨a, ns, k, rfl, _⟩ := h
    rfl
  obtain ⟨c, many, b, rfl, hm, hb0, hb1, q⟩ := h
  refine ⟨_, d8 (l0 (i := 3) scDraws.nd rfl (Or.inl rfl) (o6 d7))
    (d8 (l0 (i := 4) scDraws.nd rfl (Or.inl rfl) (i7 a3J (pv 0) (u9 a1p rfl T.int PyProof.Rows.boot_int (a0 (M8 a6Q (pv 0) (i7 a5U e8 e8) (j8 _)) d7))))
    (d8 (l0 (i := 5) scDraws.nd rfl (Or.inl rfl) (i7 x6 (pv 0) e8))
    (d8 (Y5 PassesOwn.never rfl (M5 rfl T.range (a0 (i7 y8 (pv 1) e8) d7)) (m5 (i := 6) scDraws.nd rfl (Or.inl rfl))
      (d8 (l0 (i := 5) scDraws.nd rfl (Or.inl rfl) (i7 x6 (i7 y8 (i7 y8 (i7 y8 (i7 a3J (pv 5) (pv 5)) (i7 a3J e8 (pv 5))) (pv 6)) e8) e8))
        (g0 (v6 (PW.pt (T8 (j4 a0O (pv 6) e8 (j8 _)) (O7 (j4 a0O (pv 4) e8 (j8 _)))))
          (d8 (u0 (a2M PySem.F.plainAttrs_list PySem.F.slot_list_append PySem.F.type_list_append G4 (pv 3) (a0 (i7 x6 (pv 4) (pv 2)) d7))) (g0 (l0 (i := 4) scDraws.nd rfl (Or.inl rfl) (i7 V7 (pv 4) (pv 2)))))
          (g0 (v6 (j4 a0O (pv 6) e8 (j8 _)) (g0 (u0 (a2M PySem.F.plainAttrs_list PySem.F.slot_list_append PySem.F.type_list_append G4 (pv 3) (a0 (i7 x6 (i7 V7 (pv 5) e8) (pv 2)) d7)))) o4))))))
    (g0 (m6 (pv 3)))))), ?_⟩
  refine ⟨(by show 0 <= sizeLine; decide), fun fl hfl => ?_⟩
  refine ⟨_, rfl, _, rfl, _, _, rfl, rfl, ⟨by decide, by decide, by decide⟩, _, _, rfl, rfl, .inr ⟨_, rfl, _, _, rfl, rfl, .inr ?_, ?_⟩⟩
  . constructor <;> (split <;> decide)
  refine ⟨_, rfl, _, _, rfl, rfl, (by show (0 : Int) < 2305843009213693951; decide), ?_⟩
  refine ⟨_, rfl, _, _, rfl, rfl, ((many : Int) + 3), rfl, by lia, by lia, ?_⟩
  have e3 : ((many : Int) + 3).toNat = many + 3 := by lia
  rw [e3]
  refine Y8 (n := many + 3) (fun i σ H' => ∃ (r st : Int) (ds : List Int) (ks : Option V), σ = [some (.int c), some (.int (many : Int)), some (.int b), some (.ref fl), some (.int r), some (.int st), ks] /\ H' = j9 H fl (.lst (ds.map V.int)) /\ ds.length = i - 3 /\ (∀ d ∈ ds, 0 <= d /\ d < b) /\ 0 <= st /\ st < 2305843009213693951)
    ⟨_, _, [], none, rfl, rfl, rfl, fun d hd => (by cases hd), Int.emod_nonneg _ (by decide), Int.emod_lt_of_pos _ (by decide)⟩ ?_ ?_
  . rintro i σ H' hi ⟨r, st, ds, ks, rfl, rfl, hl, hd, hs0, hs1⟩
    refine ⟨_, rfl, _, rfl, _, _, rfl, rfl, .inl ⟨by lia, by lia⟩, _, rfl, _, _, rfl, rfl, .inl ⟨by decide, by decide⟩, _, _, rfl, rfl, _, rfl, _, _, rfl, rfl, _, _, rfl, rfl, _, _, rfl, rfl, (by show (0 : Int) < 2305843009213693951; decide), ?_⟩
    have hs0' : 0 <= (st * st + 48271 * st + (0 + (i : Int)) + 1) % 2305843009213693951 := Int.emod_nonneg _ (by decide)
    have hs1' : (st * st + 48271 * st + (0 + (i : Int)) + 1) % 2305843009213693951 < 2305843009213693951 := Int.emod_lt_of_pos _ (by decide)
    refine ⟨_, rfl, _, _, rfl, rfl, _, rfl, ?_⟩
    have hz : (ds.map V.int).length < sizeLine := by rw [List.length_map]; exact j7 (by lia)
    have more : ∀ d : Int, (ds.map V.int) ++ [V.int d] = (ds ++ [d]).map V.int := fun d => by rw [List.map_append]; rfl
    have mem : ∀ d : Int, 0 <= d -> d < b -> ∀ d' ∈ ds ++ [d], 0 <= d' /\ d' < b := fun d h0 h1 d' hd' => by
      rcases List.mem_append.mp hd' with z | z
      . exact hd d' z
      . rw [List.mem_singleton.mp z]; exact ⟨h0, h1⟩
    refine A7 (fun c1 => ?_) (fun c1 => ?_)
    . have c1' : 2 < 0 + (i : Int) := of_decide_eq_true c1
      refine ⟨_, rfl, _, _, rfl, rfl, _, rfl, ?_⟩
      refine A7 (fun c2 => ?_) (fun c2 => ?_)
      . refine ⟨_, rfl, .inl ⟨rfl, _, SqL.of upd_same⟩, _, rfl, _, rfl, _, _, rfl, rfl, hb0, fl, _, _, rfl, rfl, upd_same, hz, ?_⟩
        refine ⟨_, rfl, _, rfl, _, _, rfl, rfl, ⟨hb0, hb1⟩, ?_⟩
        refine ⟨_, _, ds ++ [r % b], _, rfl, ?_, ?_, mem _ (Int.emod_nonneg _ (by lia)) (Int.emod_lt_of_pos _ hb0), hs0', hs1'⟩
        . rw [K4, more]
        . rw [List.length_append, List.length_singleton]; lia
      . refine ⟨_, rfl, _, _, rfl, rfl, _, rfl, ?_⟩
        refine A7 (fun c3 => ?_) (fun c3 => absurd c1 c3)
        refine ⟨_, rfl, .inl ⟨rfl, _, SqL.of upd_same⟩, _, rfl, _, _, rfl, rfl, ⟨by decide, by decide⟩, _, rfl, _, _, rfl, rfl, hb0, fl, _, _, rfl, rfl, upd_same, hz, ?_⟩
        refine ⟨_, _, ds ++ [(st * st + 48271 * st + (0 + (i : Int)) + 1) % 2305843009213693951 / 4096 % b], _, rfl, ?_, ?_, mem _ (Int.emod_nonneg _ (by lia)) (Int.emod_lt_of_pos _ hb0), hs0', hs1'⟩
        . rw [K4, more]
        . rw [List.length_append, List.length_singleton]; lia
    . have c1' : ¬ 2 < 0 + (i : Int) := of_decide_eq_false (Bool.eq_false_iff.mpr c1)
      refine K2 ?_
      refine ⟨_, rfl, _, _, rfl, rfl, _, rfl, ?_⟩
      refine A7 (fun c3 => absurd c3 c1) (fun c3 => ?_)
      exact ⟨_, _, ds, _, rfl, rfl, by lia, hd, hs0', hs1'⟩
  . intro σ H' hM_; refine M4 fun G_ hG_ => ?_; obtain ⟨r, st, ds, ks, rfl, rfl, hl, hd, _⟩ := hM_; subst hG_
    exact ⟨_, rfl, q fl _ ds (Same.new hfl _) upd_same (by lia) hd⟩
end
end Rim
namespace Rim
open PySem L2
theorem a8r {n : Nat} {k : Int} (h0 : 0 <= k) (h1 : k < (n : Int)) : ixN n k = some k.toNat := by
  unfold ixN
  rw [if_pos h0, if_pos h1]
theorem a7D {α : Type} {xs : List α} {k : Int} (h0 : 0 <= k) (h1 : k < (xs.length : Int)) : ∃ v, v ∈ xs /\ X3 xs k = some v := by
  have hk : k.toNat < xs.length := by lia
  refine ⟨xs[k.toNat], List.getElem_mem hk, ?_⟩
  unfold X3
  rw [a8r h0 h1]
  exact List.getElem?_eq_getElem hk
theorem a7H {ns : List Int} {k : Int} (h0 : 0 <= k) (h1 : k < (ns.length : Int)) : ∃ v, v ∈ ns /\ X3 (ns.map V.int) k = some (.int v) := by
  obtain ⟨v, hv, e⟩ := a7D (xs := ns.map V.int) h0 (by rw [List.length_map]; exact h1)
  obtain ⟨n, hn, rfl⟩ := List.mem_map.mp hv
  exact ⟨n, hn, e⟩
structure HG (far : Int) (kt kg : Nat) (h : h8) : Prop where
  lt : h.1.length = kt
  lg : h.2.length = kg
  t : ∀ x ∈ h.1, 1 <= x /\ x <= far
  g : ∀ x ∈ h.2, 0 <= x /\ x <= far
  p : ∃ x ∈ h.2, 0 < x
section
variable {P : Program} {w : World} {K : W.Frag} {mg : Str -> Option Value} {base : Heap} {f g : Addr} {fd gd : FuncData}
end
end Rim
namespace L2
open PySem
end L2
namespace Rim
open PySem L2
def a3P (ns : List Int) : PyData := .tuple (ns.map PyData.int)
def w4 (h : h8) : PyData := .tuple [a3P h.1, a3P h.2]
theorem a0t {K : W.Frag} {H : Hp} : ∀ ns : List Int, Dps K H (ns.map V.int) (ns.map PyData.int)
  | [] => .nil
  | n :: r => .cons (.int n) (a0t r)
theorem HS.dp {K : W.Frag} {H : Hp} {v : V} {h : h8} (x : HS K H v h) : Dp K H v (w4 h) := by
  obtain ⟨a, t, g, rfl, h1, h2, h3⟩ := x
  exact .tup h1 (.cons (.tup h2 (a0t _)) (.cons (.tup h3 (a0t _)) .nil))
theorem Bk.dps {K : W.Frag} {H : Hp} : ∀ {vs : List V} {hs : List h8}, Bk K H vs hs -> Dps K H vs (hs.map w4)
  | _, _, .nil => .nil
  | _, _, .cons x r => .cons x.dp (Bk.dps r)
theorem a0H : ∀ ns : List Int, PyData.canLayAll0 (ns.map PyData.int) = true
  | [] => by rw [List.map_nil, PyData.canLayAll0]
  | n :: r => by rw [List.map_cons, PyData.canLayAll0, a0H r, PyData.canLay0]; rfl
theorem a4U (h : h8) : (w4 h).canLay0 = true := by
  unfold w4 a3P
  rw [PyData.canLay0, PyData.canLayAll0, PyData.canLay0, a0H, PyData.canLayAll0, PyData.canLay0, a0H, PyData.canLayAll0]; rfl
theorem W9 : ∀ hs : List h8, PyData.canLayAll0 (hs.map w4) = true
  | [] => by rw [List.map_nil, PyData.canLayAll0]
  | h :: r => by rw [List.map_cons, PyData.canLayAll0, a4U, W9 r]; rfl
section
variable {P : Program} {w : World} {K : W.Frag} {mg : Str -> Option Value} {base : Heap} {f g : Addr} {fd gd : FuncData}
end
end Rim
namespace Rim
open PySem L2
section
variable {P : Program} {w : World} {K : W.Frag} {mg : Str -> Option Value} {base : Heap} {f g : Addr} {fd gd : FuncData}
end
end Rim
namespace Rim
open PySem L2 Fr
def FrV (K : W.Frag) (H : Hp) (v : V) (f : Q2) : Prop := ∃ a, v = .ref a /\ SqT K H a [.int f.1, .int f.2]
def FrT (H : Hp) (v : V) (f : Q2) : Prop := ∃ a, v = .ref a /\ H a = some (.tup [.int f.1, .int f.2])
theorem FrT.v {K : W.Frag} {H : Hp} {v : V} {f : Q2} (h : FrT H v f) : FrV K H v f := by
  obtain ⟨a, e, q⟩ := h
  exact ⟨a, e, SqT.of q⟩
theorem FrT.same {H H' : Hp} {v : V} {f : Q2} (e : Same H H') (h : FrT H v f) : FrT H' v f := by
  obtain ⟨a, z, q⟩ := h
  exact ⟨a, z, e _ _ q⟩
theorem FrV.same {K : W.Frag} {H H' : Hp} {v : V} {f : Q2} (e : Same H H') (h : FrV K H v f) : FrV K H' v f := by
  obtain ⟨a, z, q⟩ := h
  exact ⟨a, z, e.tseq q⟩
section
variable {P : Program} {w : World} {K : W.Frag} {mg : Str -> Option Value} {base : Heap} {f g : Addr} {fd gd : FuncData}
structure Cal (P : Program) (w : World) (K : W.Frag) (mg : Str -> Option Value) (base : Heap) (n : Nat) (x : Str) (ps : List Str) (sp : Sp) (fa : Addr) (d : FuncData) : Prop where
  ok : FnOk P w K mg base D4 n fa d ps sp
  b : Binds K d ps []
  k : W.keepIn K (.ref fa) = true
  m : mg x = some (.ref fa)
def a8V : Sp := fun vs H Q _ => ∃ a b : Int, vs = [.int a, .int b] /\ 0 <= b /\ Q (.int (gI a b)) H
theorem scDiv : i8 ["one", "other"] ["one", "other"] (d9 a9j) := ⟨rfl, rfl, rfl, by decide +kernel, rfl, by decide +kernel, by decide +kernel⟩
def b2f : St -> Nat := fun σ => match σ with | [_, some (.int y)] => y.toNat | _ => 0
theorem a9d (x : Int) : (if x < 0 then -x else x) = gI x 0 := by
  rw [a7C]
  split <;> lia
theorem a9M {n : Nat} (F : Fun K "common_divisor" "common_divisor" a9j f fd) (T : t9 mg) : FnOk P w K mg base D4 (n + 1) f fd ["one", "other"] a8V := by
  refine F.ok scDiv (fun vs H Q E h => ?_) (fun cdv A outer s H vs Q E hr h => ?_)
  . obtain ⟨a, b, rfl, _⟩ := h
    rfl
  obtain ⟨a, b, rfl, hb, q⟩ := h
  refine ⟨_, d8 (a0u PassesOwn.never (j4 a6p (pv 1) e8 (j8 _)) (g0 (a9g (i := 0) (j := 1) rfl scDiv.nd rfl rfl (by decide) rfl rfl (a0 (pv 1) (a0 (i7 x6 (pv 0) (pv 1)) d7)) rfl)))
    (g0 (m6 (j0 a7k rfl T.abs (PyProof.Rows.Boot.abs) (a0 (pv 0) d7)))), ?_⟩
  refine a6q (fun σ H' => ∃ x y : Int, σ = [some (.int x), some (.int y)] /\ H' = H /\ 0 <= y /\ gI x y = gI a b) (fun σ _ => b2f σ) ⟨a, b, rfl, rfl, hb, rfl⟩ ?_ (fun σ H Q Q' hq ⟨v, h1, h2, k, h3, q⟩ => ⟨v, h1, h2, k, h3, hq _ _ q⟩)
  rintro σ H' ⟨x, y, rfl, rfl, hy, hg⟩
  refine ⟨_, rfl, rfl, _, rfl, ?_⟩
  refine A7 (fun c => ?_) (fun c => ?_)
  . have hy0 : 0 < y := by
      by_cases z : y = 0
      . subst z; simp at c
      . lia
    have hm := Int.emod_nonneg x (show y ≠ 0 by lia)
    have hl := Int.emod_lt_of_pos x hy0
    refine ⟨_, rfl, _, rfl, _, rfl, _, _, rfl, rfl, hy0, _, _, rfl, ⟨y, x % y, rfl, rfl, hm, ?_⟩, ?_⟩
    . rw [a8a]; exact hg
    . show (x % y).toNat < y.toNat
      lia
  . have hy0 : y = 0 := by
      by_cases z : y = 0
      . exact z
      . exact absurd (by simp [z]) c
    subst hy0
    refine ⟨_, rfl, _, rfl, ?_⟩
    rw [a9d, hg]
    exact q
end
end Rim
namespace Rim
open PySem L2 Fr
theorem Big.mono {n m : Nat} {i : Int} (h : Big n i) (hn : n <= m) : Big m i := Nat.lt_of_lt_of_le h (Nat.pow_le_pow_right (by decide) hn)
theorem Big.mul {n m : Nat} {i j : Int} (h : Big n i) (k : Big m j) : Big (n + m) (i * j) := by
  unfold Big at *
  rw [Int.natAbs_mul, Nat.pow_add]
  exact Nat.mul_lt_mul_of_lt_of_lt h k
section
variable {P : Program} {w : World} {K : W.Frag} {mg : Str -> Option Value} {base : Heap} {f g : Addr} {fd gd : FuncData} {n : Nat}
def a8Q : Sp := fun vs H Q _ => ∃ t b : Int, vs = [.int t, .int b] /\ 0 < b /\ b < 2 ^ 8000 /\ ∀ (v : V) (H' : Hp), Same H H' -> FrT H' v (low t b) -> Q v H'
theorem scLow : i8 ["top", "bottom", "divisor"] ["top", "bottom"] (d9 a9H) := ⟨rfl, rfl, rfl, by decide +kernel, rfl, by decide +kernel, by decide +kernel⟩
theorem a9T {fa : Addr} {da : FuncData} (F : Fun K "lowest" "lowest" a9H f fd) (T : t9 mg) (C : Cal P w K mg base n "common_divisor" ["one", "other"] a8V fa da) : FnOk P w K mg base D4 (n + 1) f fd ["top", "bottom"] a8Q := by
  refine F.ok scLow (fun vs H Q E h => ?_) (fun cdv A outer s H vs Q E hr h => ?_)
  . obtain ⟨a, b, rfl, _⟩ := h
    rfl
  obtain ⟨t, b, rfl, hb, hb2, q⟩ := h
  refine ⟨_, d8 (v6 (j4 T3 (pv 1) e8 (j8 _)) a1n o4)
    (d8 (l0 (i := 2) scLow.nd rfl (Or.inl rfl) (j6 C.ok hr rfl C.m C.k C.b .nil p9 (a0 (pv 0) (a0 (pv 1) d7))))
    (d8 (v6 (j4 a0y (pv 1) e8 (j8 _)) a1n o4)
    (g0 (m6 (x5 (a0 (i7 a1b (pv 0) (pv 2)) (a0 (i7 a1b (pv 1) (pv 2)) d7))))))), ?_⟩
  refine ⟨_, rfl, rfl, _, rfl, ?_⟩
  refine A7 (fun c => ?_) (fun _ => ?_)
  . have := V.int.inj (of_decide_eq_true c); lia
  refine ⟨_, rfl, _, rfl, t, b, rfl, Int.le_of_lt hb, ?_⟩
  refine ⟨_, rfl, _, _, rfl, rfl, _, rfl, ?_⟩
  refine A7 (fun c => ?_) (fun _ => ?_)
  . have : b < 0 := of_decide_eq_true c; lia
  have hg := a9V (a := t) hb
  have hgl := b0D (a := t) hb
  refine ⟨_, rfl, _, rfl, _, _, rfl, rfl, ⟨hg, Int.lt_of_le_of_lt hgl hb2⟩, _, rfl, _, rfl, _, _, rfl, rfl, ⟨hg, Int.lt_of_le_of_lt hgl hb2⟩, (by show 2 <= sizeLine; decide), fun p hp => ?_⟩
  exact q _ _ (Same.new hp _) ⟨p, rfl, upd_same⟩
theorem P6 {K : W.Frag} (t : Value) : W.kitOne K t t = some true := by unfold W.kitOne; rw [if_pos (beq_self_eq_true _)]
theorem a2d {K : W.Frag} : W.kitOne K (.type "int") (.type "bool") = some false := by
  unfold W.kitOne
  rw [if_neg (by decide)]
  rfl
end
end Rim
namespace Rim
open PySem L2 Fr
section
variable {P : Program} {w : World} {K : W.Frag} {mg : Str -> Option Value} {base : Heap} {f g : Addr} {fd gd : FuncData} {n : Nat}
def a1i (k : Nat) (m : Int) : Prop := 0 <= m /\ m < (k : Int)
def a4A (K : W.Frag) (CN : Addr) : Sp := fun vs H Q E => ∃ (a : Addr) (xs : List V) (m : Int), vs = [.ref a, .int m] /\ SqL K H a xs /\ m.natAbs.log2 < 1920 /\ (∀ (i : Nat) x, m = (i : Int) -> xs[i]? = some x -> Q x H) /\ (¬ a1i xs.length m -> E (.ref CN) none H)
theorem b0S : i8 ["book", "number"] ["book", "number"] (d9 a9r) := ⟨rfl, rfl, rfl, by decide +kernel, rfl, by decide +kernel, by decide +kernel⟩
theorem a9n {CN : Addr} (F : Fun K "house_of" "house_of" a9r f fd) (T : t9 mg) (kN : O1 K CN) (mN : mg "NoHouse" = some (.ref CN)) : FnOk P w K mg base (P1 P w) (n + 1) f fd ["book", "number"] (a4A K CN) := by
  refine F.ok1 b0S (fun vs H Q E h => ?_) (fun cdv A outer s H vs Q E hr h => ?_)
  . obtain ⟨a, xs, m, rfl, _⟩ := h
    rfl
  obtain ⟨a, xs, m, rfl, hS, hm, q, hE⟩ := h
  refine ⟨_, d8 (v6 (Y3 (a6v a6f a0y e8 (pv 1) (j0 i9 rfl T.len PySem.boot_len (a0 (pv 0) d7)))) (g0 (V9 kN rfl mN hr.hd (a0 (a7x (pv 1) (by decide)) d7))) o4)
    (g0 (m6 (m8 j5 (pv 0) (pv 1) (fun _ _ => rfl)))), ?_⟩
  refine ⟨_, rfl, _, _, rfl, rfl, _, rfl, ?_⟩
  have bad : ¬ a1i xs.length m -> a6M (T4 (tFs (a3E 1)) a1h) CN E { nx := fun _ H' => Q .non H', rt := Q } (E8 ["book", "number"] [.ref a, .int m]) H := fun hb => ⟨_, rfl, m, rfl, hm, fun x => ⟨(by show 1 <= 1000; decide), hE hb⟩⟩
  refine A7 (fun c => ?_) (fun c => ?_)
  . have c' : 0 <= m := of_decide_eq_true c
    refine ⟨_, rfl, a, _, rfl, .inl hS, _, _, rfl, rfl, _, rfl, ?_⟩
    refine A7 (fun d => ?_) (fun d => ?_)
    . have d' : ¬ m < (xs.length : Int) := of_decide_eq_false (by simpa using d)
      exact bad fun z => d' z.2
    . have d' : m < (xs.length : Int) := of_decide_eq_true (by simpa using d)
      obtain ⟨j, rfl⟩ : ∃ j : Nat, m = (j : Int) := ⟨m.toNat, by lia⟩
      have hi : j < xs.length := by lia
      exact ⟨_, rfl, _, rfl, a, _, _, _, rfl, rfl, hS, F0 (List.getElem?_eq_getElem hi), q j xs[j] rfl (List.getElem?_eq_getElem hi)⟩
  . have c' : ¬ 0 <= m := of_decide_eq_false (Bool.eq_false_iff.mpr c)
    exact ⟨_, rfl, a0c (bad fun z => c' z.1)⟩
end
end Rim
namespace L2
open PySem PySem.Spec PyProof.Rows
structure a8N (K : W.Frag) (P : Params) (d : Addr) : Prop where
  ex : ∃ es n, K.lookup d = some ⟨.type "dict", none, .dict es n, #[]⟩ /\ W.KeysLit P es.toList
def b1K (K : W.Frag) (P : Params) : R2 := fun x y H Q => ∃ d z t, x = .ref d /\ y = .str z /\ a8N K P d /\ W.nsIn K d z = some (some (.ref t)) /\ Q (.ref t) H
theorem a5R (K : W.Frag) (P : Params) {X : Cx} (hK : X.K = K) (hP : X.w.params = P) : IxR X (b1K K P) := by
  subst hK
  subst hP
  intro value slice pins s σ H x y v u Q I rx ry h hs
  obtain ⟨d, z, t, rfl, rfl, ⟨es, n, hl, hk⟩, e, q⟩ := h
  cases rx
  obtain ⟨tk, rfl⟩ := ry
  obtain ⟨m, hm⟩ := I.fr
  exact W.topItem_K hm I.mod.kin hl hk e ⟨.ref t, H, I.tok _, rfl, q⟩ (by first | exact hs | exact hs _ _)
end L2
namespace L2
open PySem
theorem a9B (K : W.Frag) {X : Cx} {tg l : Expr} {tl : TE} (h : X.K = K) (hl : PE X l tl) : PI X tg l (b0I K tl) := by subst h; exact a3b hl
end L2
namespace Rim
open PySem L2 Fr
def Szw (z : Str) : Prop := z = "any" \/ z = "one" \/ z = "less" \/ z = "more"
def P5 (z : Str) : List Int := if z = "any" then [] else if z = "one" then [1, -1] else if z = "less" then [-1] else [1]
structure Sg (K : W.Frag) (Pm : Params) (mg : Str -> Option Value) (d : Addr) : Prop where
  m : mg "SIZE_SIGNS" = some (.ref d)
  k : a8N K Pm d
  tt : ∀ z, Szw z -> ∃ t, W.nsIn K d z = some (some (.ref t)) /\ ∀ H, SqT K H t ((P5 z).map V.int)
def w8 (z : Str) (h : h8) : List Int := h.1.map (fun x => -x) ++ h.2 ++ P5 z
section
variable {P : Program} {w : World} {K : W.Frag} {mg : Str -> Option Value} {base : Heap} {f Pt d : Addr} {fd : FuncData} {n : Nat} {C : Addr}
def P4 (K : W.Frag) : Sp := fun vs H Q _ => ∃ (ba : Addr) (xs : List V) (hs : List h8) (z : Str) (kt kg : Nat), vs = [.ref ba, .str z] /\ Szw z /\ SqL K H ba xs /\ Bk K H xs hs /\ hs.length <= 100 /\ kt <= 100 /\ kg <= 100 /\ (∀ h ∈ hs, h.1.length = kt /\ h.2.length = kg) ∧
  ∀ (r : Addr) (H' : Hp) (rs : List Addr), Same H H' -> H' r = some (.lst (rs.map V.ref)) -> rs.length = hs.length -> (∀ (i : Nat) a h, rs[i]? = some a -> hs[i]? = some h -> H' a = some (.lst ((w8 z h).map V.int))) -> Q (.ref r) H'
theorem scHr : i8 ["houses", "sizes", "signs"] ["houses", "sizes"] (d9 G8) := ⟨rfl, rfl, rfl, by decide +kernel, rfl, by decide +kernel, by decide +kernel⟩
theorem a8I : (["takes", "gives", "signs"] : List Str).Nodup := by decide +kernel
theorem b1n : (["take"] : List Str).Nodup := by decide +kernel
theorem a1W (z : Str) : (P5 z).length <= 2 := by
  unfold P5
  by_cases h1 : z = "any"
  . rw [if_pos h1]; decide
  by_cases h2 : z = "one"
  . rw [if_neg h1, if_pos h2]; decide
  by_cases h3 : z = "less"
  . rw [if_neg h1, if_neg h2, if_pos h3]; decide
  . rw [if_neg h1, if_neg h2, if_neg h3]; decide
set_option maxHeartbeats 4000000 in
noncomputable def hrT {cdv : Value} {A : Around} {outer : List Env} {s : Shared} {H : Hp} {E : XK} (N : t9 mg) (G : Sg K w.params mg d) :
    { t : TS // PSs (E7 D4 P w K mg base ["houses", "sizes", "signs"] "house_rows" (d9 G8) f cdv A outer s H E).nox (p7 G8) t } :=
  ⟨_, d8 (l0 (i := 2) scHr.nd rfl (Or.inr rfl) (u9 A5 rfl N.list PyProof.Rows.boot_list (a0 (m8 (a5R K w.params rfl rfl) (C5 (v := .ref d) rfl G.m rfl) (pv 1) (fun _ _ => rfl)) d7)))
    (g0 (m6 (Z5 ["takes", "gives"] [2] rfl (V5 (pv 0))
      (fun _ _ _ _ => U8 K (n := 2) rfl rfl (m7 (m5 (i := 0) a8I rfl (Or.inl rfl)) (m7 (m5 (i := 1) a8I rfl (Or.inl rfl)) A9)))
      (fun _ _ _ _ => i7 v7 (i7 v7 (Z5 ["take"] [] rfl (a9B K rfl (pv 0)) (fun _ _ _ _ => m5 (i := 0) b1n rfl (Or.inl rfl)) (fun _ _ _ _ => J8 C2 (pv 0))) (u9 (a4o K rfl) rfl N.list PyProof.Rows.boot_list (a0 (pv 1) d7))) (pv 2)))))⟩
set_option maxHeartbeats 4000000 in
theorem a1H (F : Fun K "house_rows" "house_rows" G8 f fd) (N : t9 mg) (G : Sg K w.params mg d) : FnOk P w K mg base D4 (n + 1) f fd ["houses", "sizes"] (P4 K) := by
  refine F.ok scHr (fun vs H Q E h => ?_) (fun cdv A outer s H vs Q E hr h => ?_)
  . obtain ⟨ba, xs, hs, z, kt, kg, rfl, _⟩ := h
    rfl
  obtain ⟨ba, xs, hs, z, kt, kg, rfl, hz, hB, hBk, hl, hkt, hkg, hlen, k⟩ := h
  refine ⟨_, (hrT N G).2, ?_⟩
  obtain ⟨t, ht, hT⟩ := G.tt z hz
  have xl : xs.length = hs.length := Paired.length hBk
  refine ⟨_, rfl, d, z, t, rfl, rfl, G.k, ht, t, _, rfl, .inr (hT _), fun sl hsl => ?_⟩
  have e0 := Same.new hsl (.lst ((P5 z).map V.int))
  have hS0 : j9 H sl (.lst ((P5 z).map V.int)) sl = some (.lst ((P5 z).map V.int)) := upd_same
  refine ⟨_, rfl, ba, rfl, ⟨_, e0.seq hB⟩, fun l hl' => ?_⟩
  refine a4a (R6 (e0.seq hB)) hl' (by rw [xl]; exact j7 (by lia)) (fun i y H2 => ∃ a h, y = .ref a /\ a ≠ l /\ hs[i]? = some h /\ H2 a = some (.lst ((w8 z h).map V.int)))
    (fun i y H2 H3 ⟨a, h, h1, h2, h3, h4⟩ e => ⟨a, h, h1, h2, h3, e a _ h2 h4⟩) (fun i x H2 ys N' hx e hl2 hN => ?_) (fun ys H2 e hl2 len pr => ?_)
  . obtain ⟨h, hh, hHS⟩ := Paired.at hBk hx
    have hH2 := hHS.same (e0.trans e)
    obtain ⟨a, ta, ga, rfl, p1, p2, p3⟩ := hH2
    have lh := hlen h (List.mem_of_getElem? hh)
    refine ⟨a, _, rfl, p1, rfl, _, _, rfl, _, _, rfl, rfl, ?_, ?_⟩
    . refine ⟨by simp, fun k w ek => ?_⟩
      have : ¬ k < 2 := fun hk => by
        unfold blkσ at ek
        rw [List.getElem?_append_left (by simpa using hk), List.getElem?_replicate] at ek
        split at ek <;> cases ek
      rw [List.getElem?_set_ne (by lia), List.getElem?_set_ne (by lia)]; exact ek
    refine ⟨_, rfl, ta, rfl, ⟨_, p2⟩, fun a1 h1 => ?_⟩
    refine a0C (a0N p2) h1 (by rw [List.length_map, lh.1]; exact j7 (by lia)) (fun x => .int (-(vI x))) (fun j x H' N2 hx2 e2 hN2 => ?_) ?_
    . obtain ⟨x', rfl, _⟩ := a0n hx2
      exact ⟨Wk.set (by decide), _, rfl, _, rfl, hN2⟩
    have eg : (h.1.map V.int).map (fun x => V.int (-(vI x))) = (h.1.map fun x => -x).map V.int := by rw [List.map_map, List.map_map]; rfl
    rw [eg]
    have s1 := Same.new h1 (.lst ((h.1.map fun x => -x).map V.int))
    refine ⟨_, rfl, ga, _, rfl, .inr (s1.tseq p3), fun a2 h2 => ?_⟩
    have s2 := s1.trans (Same.new h2 (.lst (h.2.map V.int)))
    have n12 : a1 ≠ a2 := d0 upd_same h2
    have sz := j7 (show kt + kg + 2 <= 1000 by lia)
    have sg := a1W z
    refine ⟨a1, a2, _, _, rfl, rfl, (by rw [c9 n12]; exact upd_same), upd_same, ?_, fun a3 h3 => ?_⟩
    . rw [List.length_map, List.length_map, List.length_map, lh.1, lh.2]; lia
    have s3 := s2.trans (Same.new h3 (.lst ((h.1.map fun x => -x).map V.int ++ h.2.map V.int)))
    have sl3 := s3 _ _ (e _ _ hS0)
    refine ⟨_, rfl, a3, sl, _, _, rfl, rfl, upd_same, sl3, ?_, fun a4 h4 => ?_⟩
    . rw [List.length_append, List.length_map, List.length_map, List.length_map, List.length_map, lh.1, lh.2]; lia
    refine hN _ _ (s3.trans (Same.new h4 _)) ⟨a4, h, rfl, fun z' => ?_, hh, ?_⟩
    . rw [z', s3 _ _ hl2] at h4; cases h4
    . rw [upd_same]
      unfold w8
      rw [List.map_append, List.map_append]
  . have hys : ys = (ys.map a5g).map V.ref := by
      rw [List.map_map]
      refine List.ext_getElem? fun i => ?_
      rw [List.getElem?_map]
      cases qi : ys[i]? with
      | none => rfl
      | some y =>
        obtain ⟨a, _, rfl, _⟩ := pr i y qi
        rfl
    refine k l H2 (ys.map a5g) (e0.trans e) (by rw [hl2]; rw [<- hys]) (by rw [List.length_map, len, xl]) fun i a h hi hh => ?_
    rw [List.getElem?_map] at hi
    cases qi : ys[i]? with
    | none => rw [qi] at hi; cases hi
    | some y =>
      obtain ⟨a', h', rfl, _, h3, h4⟩ := pr i y qi
      rw [qi] at hi
      have : a' = a := Option.some.inj hi
      subst this
      rw [hh] at h3
      cases h3
      exact h4
end
end Rim
namespace Rim
open PySem L2 Fr
def D0 (z : Str) (h : h8) : List Int := List.replicate h.1.length 0 ++ h.2 ++ P5 z
def E9 (z : Str) (h : h8) : List Int := h.1 ++ List.replicate h.2.length 0 ++ List.replicate (P5 z).length 0
def y6 (z : Str) (hs : List h8) (h : h8) : List (List Int) := hs.map (w8 z) ++ [E9 z h]
def T7 (hs : List h8) : List Int := List.replicate hs.length 0 ++ [1]
theorem V2 (k : Nat) : (List.replicate k [V.int 0]).flatten = (List.replicate k (0 : Int)).map V.int := by
  induction k with
  | zero => rfl
  | succ k ih => rw [List.replicate_succ, List.flatten_cons, ih, List.replicate_succ, List.map_cons]; rfl
section
variable {P : Program} {w : World} {K : W.Frag} {mg : Str -> Option Value} {base : Heap} {f Pt d : Addr} {fd : FuncData} {n : Nat} {C : Addr}
abbrev OfE (z : Str) (hs : List h8) (h : h8) (S : Lp.Bo) : Prop := Lp.Of (hs.length + 1) (h.1.length + h.2.length + (P5 z).length) (S9 (y6 z hs h)) (D6 (T7 hs)) (D6 (D0 z h)) S
def a2v (K : W.Frag) (Pt : Addr) : Sp := fun vs H Q _ => ∃ (ba : Addr) (hv : V) (xs : List V) (hs : List h8) (h : h8) (z : Str) (far : Int) (kt kg m q : Nat), vs = [.ref ba, hv, .str z] /\ Szw z /\ SqL K H ba xs /\ Bk K H xs hs /\ HS K H hv h /\ HG far kt kg h /\ (∀ h ∈ hs, HG far kt kg h) /\ far <= 2 ^ 60 ∧
  hs.length <= 16 /\ kt <= 20 /\ kg <= 20 /\ m = hs.length + 1 /\ q = h.1.length + h.2.length + (P5 z).length /\ LT Pt H ∧
  (∀ (S : Lp.Bo) (H' : Hp) (t aa wa : Addr), OfE z hs h S -> (∀ j, j < q -> ¬ S.T m j < 0) -> Sz 4000 m q S -> Same1 Pt H H' -> LT Pt H' -> H' t = some (.tup [.int (S.T m q), .ref aa, .ref wa, .int S.d]) →
    H' aa = some (.lst ((m9 m q S).map V.int)) -> H' wa = some (.lst ((C9 m q S).map V.int)) -> Q (.ref t) H') ∧
  ∀ (S : Lp.Bo) (H' : Hp) (c : Nat), OfE z hs h S -> c < q -> S.T m c < 0 -> (∀ i, i < m -> ¬ 0 < S.T i c) -> Same1 Pt H H' -> LT Pt H' -> Q .non H'
theorem scEa : i8 ["houses", "house", "sizes", "takes", "gives", "signs", "earned", "paid"] ["houses", "house", "sizes"] (d9 S7) := ⟨rfl, rfl, rfl, by decide +kernel, rfl, by decide +kernel, by decide +kernel⟩
set_option maxHeartbeats 4000000 in
noncomputable def eaT {cdv : Value} {A : Around} {outer : List Env} {s : Shared} {H : Hp} {E : XK} {f1 f2 : Addr} {d1 d2 : FuncData} (N : t9 mg) (G : Sg K w.params mg d) (Cg : a2W P w K mg base n "greatest" ["goal", "rows", "bounds"] (U4 K C Pt) f1 d1) (Ch : a2W P w K mg base n "house_rows" ["houses", "sizes"] (P4 K) f2 d2)
    (hr : Room n (A.deeper (PyProof.Rows.envOfC "greatest_earned" (d9 S7) s.heap.objs.size f cdv))) :
    { t : TS // PSs (E7 D4 P w K mg base ["houses", "house", "sizes", "takes", "gives", "signs", "earned", "paid"] "greatest_earned" (d9 S7) f cdv A outer s H E).nox (p7 S7) t } :=
  ⟨_, d8 (M6 (pv 1) (X7 rfl (m7 (m5 (i := 3) scEa.nd rfl (Or.inl rfl)) (m7 (m5 (i := 4) scEa.nd rfl (Or.inl rfl)) A9))))
    (d8 (l0 (i := 5) scEa.nd rfl (Or.inl rfl) (u9 A5 rfl N.list PyProof.Rows.boot_list (a0 (m8 (a5R K w.params rfl rfl) (C5 (v := .ref d) rfl G.m rfl) (pv 2) (fun _ _ => rfl)) d7)))
    (t0 (l0 (i := 6) scEa.nd rfl (Or.inl rfl) (i7 v7 (i7 v7 (i7 X9 (o6 (a0 e8 d7)) (j0 i9 rfl N.len PySem.boot_len (a0 (pv 3) d7))) (u9 A5 rfl N.list PyProof.Rows.boot_list (a0 (pv 4) d7))) (pv 5)))
    (t0 (l0 (i := 7) scEa.nd rfl (Or.inl rfl) (i7 v7 (i7 v7 (u9 A5 rfl N.list PyProof.Rows.boot_list (a0 (pv 3) d7)) (i7 X9 (o6 (a0 e8 d7)) (j0 i9 rfl N.len PySem.boot_len (a0 (pv 4) d7)))) (i7 X9 (o6 (a0 e8 d7)) (j0 i9 rfl N.len PySem.boot_len (a0 (pv 5) d7)))))
    (g0 (m6 (j6 Cg.ok hr rfl Cg.m Cg.k Cg.b .nil p9 (a0 (pv 6) (a0 (i7 v7 (j6 Ch.ok hr rfl Ch.m Ch.k Ch.b .nil p9 (a0 (pv 0) (a0 (pv 2) d7))) (o6 (a0 (pv 7) d7)))
      (a0 (i7 v7 (i7 X9 (o6 (a0 e8 d7)) (j0 i9 rfl N.len PySem.boot_len (a0 (pv 0) d7))) (o6 (a0 e8 d7))) d7)))))))))⟩
theorem b0u : ∀ k, k < 20 -> Lp.bnd (2 ^ 60) (k + 1) < 2 ^ 4000 := by decide +kernel
theorem a0i {rows : List (List Int)} {i j : Nat} {row : List Int} (h : rows[i]? = some row) : S9 rows i j = row.getD j 0 := by
  have e : rows.getD i [] = row := by rw [List.getD_eq_getElem?_getD, h]; rfl
  unfold S9
  rw [e]
theorem a0q {l : List Int} {M : Nat} (h : ∀ x ∈ l, x.natAbs <= M) (j : Nat) : (l.getD j 0).natAbs <= M := by
  rw [List.getD_eq_getElem?_getD]
  cases e : l[j]? with
  | none => exact Nat.zero_le _
  | some x => exact h x (List.mem_of_getElem? e)
theorem a1L (z : Str) : ∀ x ∈ P5 z, x.natAbs <= 2 ^ 60 := by
  unfold P5
  by_cases h1 : z = "any"
  . rw [if_pos h1]; decide
  by_cases h2 : z = "one"
  . rw [if_neg h1, if_pos h2]; decide
  by_cases h3 : z = "less"
  . rw [if_neg h1, if_neg h2, if_pos h3]; decide
  . rw [if_neg h1, if_neg h2, if_neg h3]; decide
theorem b0Q {z : Str} {hs : List h8} {h : h8} {far : Int} {kt kg : Nat} (hh : HG far kt kg h) (hhs : ∀ h ∈ hs, HG far kt kg h) (hf : far <= 2 ^ 60) (q : Nat) :
    ∀ v, Lp.Fits (2 ^ 60) (hs.length + 1 + 1) (Lp.Vv (hs.length + 1) q (S9 (y6 z hs h)) (D6 (T7 hs)) (D6 (D0 z h)) v) := by
  have ht : ∀ g : h8, HG far kt kg g -> ∀ x ∈ g.1, x.natAbs <= 2 ^ 60 := fun g hg x hx => by have := hg.t x hx; lia
  have hg' : ∀ g : h8, HG far kt kg g -> ∀ x ∈ g.2, x.natAbs <= 2 ^ 60 := fun g hg x hx => by have := hg.g x hx; lia
  have z0 : ∀ k : Nat, ∀ x ∈ List.replicate k (0 : Int), x.natAbs <= 2 ^ 60 := fun k x hx => by rw [(List.mem_replicate.mp hx).2]; decide
  have rows : ∀ r ∈ y6 z hs h, ∀ x ∈ r, x.natAbs <= 2 ^ 60 := fun r hr x hx => by
    unfold y6 at hr
    rcases List.mem_append.mp hr with hr | hr
    . obtain ⟨g, hg, rfl⟩ := List.mem_map.mp hr
      unfold w8 at hx
      rcases List.mem_append.mp hx with hx | hx
      . rcases List.mem_append.mp hx with hx | hx
        . obtain ⟨y, hy, rfl⟩ := List.mem_map.mp hx
          have := ht g (hhs g hg) y hy
          rw [Int.natAbs_neg]; exact this
        . exact hg' g (hhs g hg) x hx
      . exact a1L z x hx
    . rw [List.mem_singleton.mp hr] at hx
      unfold E9 at hx
      rcases List.mem_append.mp hx with hx | hx
      . rcases List.mem_append.mp hx with hx | hx
        . exact ht h hh x hx
        . exact z0 _ x hx
      . exact z0 _ x hx
  have goal : ∀ x ∈ D0 z h, x.natAbs <= 2 ^ 60 := fun x hx => by
    unfold D0 at hx
    rcases List.mem_append.mp hx with hx | hx
    . rcases List.mem_append.mp hx with hx | hx
      . exact z0 _ x hx
      . exact hg' h hh x hx
    . exact a1L z x hx
  have bnds : ∀ x ∈ T7 hs, x.natAbs <= 2 ^ 60 := fun x hx => by
    unfold T7 at hx
    rcases List.mem_append.mp hx with hx | hx
    . exact z0 _ x hx
    . rw [List.mem_singleton.mp hx]; decide
  intro v i _
  unfold Lp.Vv
  split
  . split
    . unfold S9
      refine a0q (fun x hx => ?_) v
      rw [List.getD_eq_getElem?_getD] at hx
      cases e : (y6 z hs h)[i]? with
      | none => rw [e] at hx; cases hx
      | some r => rw [e] at hx; exact rows r (List.mem_of_getElem? e) x hx
    . split
      . rw [Int.natAbs_neg]; exact a0q goal v
      . exact Nat.zero_le _
  . split
    . split <;> decide
    . split
      . exact a0q bnds i
      . exact Nat.zero_le _
end
end Rim
namespace Rim
open PySem L2 Fr
section
variable {P : Program} {w : World} {K : W.Frag} {mg : Str -> Option Value} {base : Heap} {f Pt d : Addr} {fd : FuncData} {n : Nat} {C : Addr}
theorem a7O {H' : Hp} {rs : List Addr} {hs : List h8} {z : Str} (hl : rs.length = hs.length) (h : ∀ (i : Nat) a g, rs[i]? = some a -> hs[i]? = some g -> H' a = some (.lst ((w8 z g).map V.int))) : RowsL K H' (rs.map V.ref) (hs.map (w8 z)) := by
  induction hs generalizing rs with
  | nil =>
    cases rs with
    | nil => exact .nil
    | cons a r => simp at hl
  | cons g hs ih =>
    cases rs with
    | nil => simp at hl
    | cons a r => exact .cons ⟨a, rfl, SqL.of (h 0 a g rfl rfl)⟩ (ih (by simpa using hl) fun i b g' h1 h2 => h (i + 1) b g' (by simpa using h1) (by simpa using h2))
set_option maxHeartbeats 8000000 in
theorem a5w {f1 f2 : Addr} {d1 d2 : FuncData} (F : Fun K "greatest_earned" "greatest_earned" S7 f fd) (N : t9 mg) (G : Sg K w.params mg d) (Cg : a2W P w K mg base n "greatest" ["goal", "rows", "bounds"] (U4 K C Pt) f1 d1) (Ch : a2W P w K mg base n "house_rows" ["houses", "sizes"] (P4 K) f2 d2) :
    FnOk P w K mg base D4 (n + 1) f fd ["houses", "house", "sizes"] (a2v K Pt) := by
  refine F.ok scEa (fun vs H Q E h => ?_) (fun cdv A outer s H vs Q E hr h => ?_)
  . obtain ⟨ba, hv, xs, hs, h, z, far, kt, kg, m, q, rfl, _⟩ := h
    rfl
  obtain ⟨ba, hv, xs, hs, h, z, far, kt, kg, m, q, rfl, hz, hB, hBk, hHS, hh, hhs, hfar, h16, hkt, hkg, rfl, rfl, L, kT, kN⟩ := h
  refine ⟨_, (eaT N G Cg Ch hr).2, ?_⟩
  obtain ⟨ha, ta, ga, rfl, p1, p2, p3⟩ := id hHS
  obtain ⟨t, ht, hT⟩ := G.tt z hz
  have xl : xs.length = hs.length := Paired.length hBk
  have sg := a1W z
  have s1k := j7 (show (1000 : Nat) <= 1000 from Nat.le_refl _)
  have l1 := hh.lt
  have l2 := hh.lg
  refine ⟨_, rfl, ha, _, rfl, p1, rfl, _, _, rfl, _, _, rfl, rfl, ?_⟩
  refine ⟨_, rfl, d, z, t, rfl, rfl, G.k, ht, t, _, rfl, .inr (hT _), fun sl hsl => ?_⟩
  have e0 := Same.new hsl (.lst ((P5 z).map V.int))
  have hS0 : j9 H sl (.lst ((P5 z).map V.int)) sl = some (.lst ((P5 z).map V.int)) := upd_same
  -- earned
  refine ⟨fun σ' H1 => ∃ ea : Addr, σ' = [some (.ref ba), some (.ref ha), some (.str z), some (.ref ta), some (.ref ga), some (.ref sl), some (.ref ea), none] /\ Same (j9 H sl (.lst ((P5 z).map V.int))) H1 /\ H1 ea = some (.lst ((D0 z h).map V.int)), ?_, ?_⟩
  . refine ⟨(by show 1 <= sizeLine; decide), fun a1 h1 => ?_⟩
    have s1 := Same.new h1 (.lst [.int 0])
    refine ⟨_, rfl, ta, _, rfl, .inr (s1.tseq (e0.tseq p2)), a1, _, _, rfl, rfl, upd_same, by lia, by rw [List.length_map, l1]; lia, by rw [List.length_map, l1, Int.toNat_natCast]; simp; lia, fun a2 h2 => ?_⟩
    rw [List.length_map, Int.toNat_natCast, V2]
    have s2 := s1.trans (Same.new h2 (.lst ((List.replicate h.1.length (0 : Int)).map V.int)))
    refine ⟨_, rfl, ga, _, rfl, .inr (s2.tseq (e0.tseq p3)), fun a3 h3 => ?_⟩
    have s3 := s2.trans (Same.new h3 (.lst (h.2.map V.int)))
    have n23 : a2 ≠ a3 := d0 upd_same h3
    refine ⟨a2, a3, _, _, rfl, rfl, (by rw [c9 n23]; exact upd_same), upd_same, ?_, fun a4 h4 => ?_⟩
    . rw [List.length_map, List.length_map, List.length_replicate, l1, l2]; lia
    have s4 := s3.trans (Same.new h4 (.lst ((List.replicate h.1.length (0 : Int)).map V.int ++ h.2.map V.int)))
    refine ⟨_, rfl, a4, sl, _, _, rfl, rfl, upd_same, s4 _ _ hS0, ?_, fun a5 h5 => ?_⟩
    . rw [List.length_append, List.length_map, List.length_map, List.length_map, List.length_replicate, l1, l2]; lia
    refine ⟨a5, rfl, s4.trans (Same.new h5 _), ?_⟩
    rw [upd_same]
    unfold D0
    rw [List.map_append, List.map_append]
  intro σ1 H1 hM_; refine M4 fun G_ hG_ => ?_; obtain ⟨ea, rfl, e1, he⟩ := hM_; subst hG_
  have e01 := e0.trans e1
  -- paid
  refine ⟨fun σ' H2 => ∃ pa : Addr, σ' = [some (.ref ba), some (.ref ha), some (.str z), some (.ref ta), some (.ref ga), some (.ref sl), some (.ref ea), some (.ref pa)] /\ Same H1 H2 /\ H2 pa = some (.lst ((E9 z h).map V.int)), ?_, ?_⟩
  . refine ⟨_, rfl, ta, _, rfl, .inr (e01.tseq p2), fun a1 h1 => ?_⟩
    have s1 := Same.new h1 (.lst (h.1.map V.int))
    refine ⟨(by show 1 <= sizeLine; decide), fun a2 h2 => ?_⟩
    have s2 := s1.trans (Same.new h2 (.lst [.int 0]))
    have n12 : a1 ≠ a2 := d0 upd_same h2
    refine ⟨_, rfl, ga, _, rfl, .inr (s2.tseq (e01.tseq p3)), a2, _, _, rfl, rfl, upd_same, by lia, by rw [List.length_map, l2]; lia, by rw [List.length_map, l2, Int.toNat_natCast]; simp; lia, fun a3 h3 => ?_⟩
    rw [List.length_map, Int.toNat_natCast, V2]
    have s3 := s2.trans (Same.new h3 (.lst ((List.replicate h.2.length (0 : Int)).map V.int)))
    have c1 := (Same.new h3 (.lst ((List.replicate h.2.length (0 : Int)).map V.int))) a1 _ ((Same.new h2 (.lst [.int 0])) a1 _ upd_same)
    refine ⟨a1, a3, _, _, rfl, rfl, c1, upd_same, ?_, fun a4 h4 => ?_⟩
    . rw [List.length_map, List.length_map, List.length_replicate, l1, l2]; lia
    have s4 := s3.trans (Same.new h4 (.lst (h.1.map V.int ++ (List.replicate h.2.length (0 : Int)).map V.int)))
    refine ⟨(by show 1 <= sizeLine; decide), fun a5 h5 => ?_⟩
    have s5 := s4.trans (Same.new h5 (.lst [.int 0]))
    have lz : ((P5 z).map V.int).length = (P5 z).length := List.length_map _
    refine ⟨_, rfl, sl, _, rfl, .inl (SqL.of (s5 _ _ (e1 _ _ hS0))), a5, _, _, rfl, rfl, upd_same, by lia, by rw [lz]; lia, by rw [lz, Int.toNat_natCast]; simp; lia, fun a6 h6 => ?_⟩
    rw [lz, Int.toNat_natCast, V2]
    have c4 := (Same.new h6 (.lst ((List.replicate (P5 z).length (0 : Int)).map V.int))) a4 _ ((Same.new h5 (.lst [.int 0])) a4 _ upd_same)
    refine ⟨a4, a6, _, _, rfl, rfl, c4, upd_same, ?_, fun a7 h7 => ?_⟩
    . rw [List.length_append, List.length_map, List.length_map, List.length_map, List.length_replicate, List.length_replicate, l1, l2]; lia
    refine ⟨a7, rfl, (s5.trans (Same.new h6 _)).trans (Same.new h7 _), ?_⟩
    rw [upd_same]
    unfold E9
    rw [List.map_append, List.map_append]
  intro σ2 H2 hM_; refine M4 fun G_ hG_ => ?_; obtain ⟨pa, rfl, e2, hp⟩ := hM_; subst hG_
  have e02 := e01.trans e2
  -- greatest(..)
  refine ⟨_, rfl, _, rfl, _, rfl, ?_⟩
  refine ⟨ba, xs, hs, z, kt, kg, rfl, hz, e02.seq hB, hBk.same e02, by lia, by lia, by lia, fun g hg => ⟨(hhs g hg).lt, (hhs g hg).lg⟩, fun r H3 rs e3 hr3 lr hrs => ?_⟩
  refine ⟨_, rfl, (by show 1 <= sizeLine; decide), fun a1 h1 => ?_⟩
  have s1 := e3.trans (Same.new h1 (.lst [.ref pa]))
  have nr1 : r ≠ a1 := d0 hr3 h1
  refine ⟨r, a1, _, _, rfl, rfl, (by rw [c9 nr1]; exact hr3), upd_same, ?_, fun a2 h2 => ?_⟩
  . rw [List.length_map, lr]; simp; lia
  have t2 := (Same.new h1 (.lst [.ref pa])).trans (Same.new h2 (.lst (rs.map V.ref ++ [.ref pa])))
  have s2 := s1.trans (Same.new h2 (.lst (rs.map V.ref ++ [.ref pa])))
  refine ⟨(by show 1 <= sizeLine; decide), fun a3 h3 => ?_⟩
  have t3 := t2.trans (Same.new h3 (.lst [.int 0]))
  have s3 := s2.trans (Same.new h3 (.lst [.int 0]))
  refine ⟨_, rfl, ba, _, rfl, .inl ((e02.trans s3).seq hB), a3, _, _, rfl, rfl, upd_same, by lia, by rw [xl]; lia, by rw [xl, Int.toNat_natCast]; simp; lia, fun a4 h4 => ?_⟩
  rw [xl, Int.toNat_natCast, V2]
  have t4 := t3.trans (Same.new h4 (.lst ((List.replicate hs.length (0 : Int)).map V.int)))
  have s4 := s3.trans (Same.new h4 (.lst ((List.replicate hs.length (0 : Int)).map V.int)))
  refine ⟨(by show 1 <= sizeLine; decide), fun a5 h5 => ?_⟩
  have t5 := t4.trans (Same.new h5 (.lst [.int 1]))
  have s5 := s4.trans (Same.new h5 (.lst [.int 1]))
  have n45 : a4 ≠ a5 := d0 upd_same h5
  refine ⟨a4, a5, _, _, rfl, rfl, (by rw [c9 n45]; exact upd_same), upd_same, ?_, fun a6 h6 => ?_⟩
  . rw [List.length_map, List.length_replicate]; simp; lia
  have t6 := t5.trans (Same.new h6 (.lst ((List.replicate hs.length (0 : Int)).map V.int ++ [.int 1])))
  have s6 := s5.trans (Same.new h6 (.lst ((List.replicate hs.length (0 : Int)).map V.int ++ [.int 1])))
  have g3 : ∀ b o, j9 (j9 H3 a1 (.lst [.ref pa])) a2 (.lst (rs.map V.ref ++ [.ref pa])) b = some o -> j9 (j9 (j9 (j9 (j9 (j9 H3 a1 (.lst [.ref pa])) a2 (.lst (rs.map V.ref ++ [.ref pa]))) a3 (.lst [.int 0])) a4 (.lst ((List.replicate hs.length (0 : Int)).map V.int))) a5 (.lst [.int 1])) a6 (.lst ((List.replicate hs.length (0 : Int)).map V.int ++ [.int 1])) b = some o :=
    (((Same.new h3 (.lst [.int 0])).trans (Same.new h4 (.lst ((List.replicate hs.length (0 : Int)).map V.int)))).trans (Same.new h5 (.lst [.int 1]))).trans (Same.new h6 (.lst ((List.replicate hs.length (0 : Int)).map V.int ++ [.int 1])))
  have eb : (List.replicate hs.length (0 : Int)).map V.int ++ [.int 1] = (T7 hs).map V.int := by unfold T7; rw [List.map_append]; rfl
  have hA : Same H (j9 (j9 (j9 (j9 (j9 (j9 H3 a1 (.lst [.ref pa])) a2 (.lst (rs.map V.ref ++ [.ref pa]))) a3 (.lst [.int 0])) a4 (.lst ((List.replicate hs.length (0 : Int)).map V.int))) a5 (.lst [.int 1])) a6 (.lst ((List.replicate hs.length (0 : Int)).map V.int ++ [.int 1]))) := e02.trans s6
  refine ⟨ea, a2, a6, D0 z h, rs.map V.ref ++ [.ref pa], y6 z hs h, T7 hs, hs.length + 1, h.1.length + h.2.length + (P5 z).length, 2 ^ 60, rfl, SqL.of (s6 _ _ (e2 _ _ he)), SqL.of (g3 _ _ upd_same), ?_, ?_, ?_, ?_, ?_, ?_, by lia, by lia, ?_, b0Q hh hhs hfar _, b0u _ (by lia), L.same hA, fun S H' t' aa wa O hn sz e' L' g1 g2 g4 => kT S H' t' aa wa O hn sz (fun b o hb q' => e' b o hb (hA b o q')) L' g1 g2 g4, fun S H' c O hc hneg hno e' L' => kN S H' c O hc hneg hno (fun b o hb q' => e' b o hb (hA b o q')) L'⟩
  . unfold y6
    refine Paired.app ((a7O (K := K) lr hrs).same t6) (.cons ⟨pa, rfl, SqL.of (s6 _ _ hp)⟩ .nil)
  . rw [<- eb]; exact SqL.of upd_same
  . unfold y6; simp
  . unfold T7; simp
  . unfold D0; simp [Nat.add_assoc]
  . intro r hr
    unfold y6 at hr
    rcases List.mem_append.mp hr with hr | hr
    . obtain ⟨g, hg, rfl⟩ := List.mem_map.mp hr
      unfold w8
      rw [List.length_append, List.length_append, List.length_map, (hhs g hg).lt, (hhs g hg).lg, l1, l2]
    . rw [List.mem_singleton.mp hr]
      unfold E9
      simp
      lia
  . intro i hi
    unfold D6 T7
    rw [List.getD_eq_getElem?_getD]
    by_cases h' : i < hs.length
    . rw [List.getElem?_append_left (by simpa using h'), List.getElem?_replicate, if_pos h']; exact Int.le_refl _
    . rw [List.getElem?_append_right (by simp; lia)]
      have : i - (List.replicate hs.length (0 : Int)).length = 0 := by simp; lia
      rw [this]; decide
end
end Rim
namespace Rim
open PySem L2 Fr
section
variable {P : Program} {w : World} {K : W.Frag} {mg : Str -> Option Value} {base : Heap} {f Pt d : Addr} {fd : FuncData} {n : Nat} {C : Addr}
theorem b2j : i8 ["book", "number", "sizes"] ["book", "number", "sizes"] (d9 a3d) := ⟨rfl, rfl, rfl, by decide +kernel, rfl, by decide +kernel, by decide +kernel⟩
theorem scHa : i8 ["houses", "house", "sizes", "found", "top", "amounts", "weights", "bottom"] ["houses", "house", "sizes"] (d9 a6j) := ⟨rfl, rfl, rfl, by decide +kernel, rfl, by decide +kernel, by decide +kernel⟩
end
end Rim
namespace Lp
section
variable {m q : Nat} {A : Nat -> Nat -> Int} {b c : Nat -> Int} {S : Bo}
theorem Of.way (O : Of m q A b c S) {cc : Nat} (hc : cc < q) (neg : S.T m cc < 0) (no : ∀ i, i < m -> ¬ 0 < S.T i cc) : ∃ y : Nat -> Int, (∀ j, j < q -> 0 <= y j) /\ (∀ i, i < m -> sumTo (fun j => A i j * y j) q <= 0) /\ 0 < sumTo (fun j => c j * y j) q := by
  have K0 := (O.k _).mp (O.w.ray_ker (c := cc) (by lia))
  obtain ⟨rows, goal⟩ := ker0.mp K0
  have zc : ray m S cc (q + m + 1) = 0 := by
    rw [<- O.w.oq]
    exact O.w.ray_out (by lia) (by lia) (by lia)
  have zg : ray m S cc (q + m) = - S.T m cc := by
    rw [<- O.w.im]
    exact O.w.ray_in (by lia) (by lia)
  have nn : ∀ v, v < q + m -> 0 <= ray m S cc v := fun v hv => by
    rcases O.w.all v hv with ⟨i, hi, e⟩ | ⟨j, hj, e⟩
    . rw [<- e, O.w.ray_in (by lia) (by lia)]
      have := no i hi
      lia
    . rw [<- e]
      by_cases hjc : j = cc
      . subst hjc
        rw [Wf.ray_c]
        exact Int.le_of_lt O.w.pos
      . rw [O.w.ray_out (by lia) (by lia) hjc]; exact Int.le_refl _
  refine ⟨ray m S cc, fun j hj => nn j (by lia), fun i hi => ?_, by rw [<- goal, zg]; lia⟩
  have r0 := rows i hi
  rw [zc, Int.mul_zero, Int.add_zero] at r0
  have n0 := nn (q + i) (by lia)
  lia
theorem Of.bounded (O : Of m q A b c S) {i0 l cc : Nat} (h0 : i0 < m) (hl : l < m) (hA : ∀ j, j < q -> A i0 j + A l j = c j) (hc : cc < q) (neg : S.T m cc < 0) (no : ∀ i, i < m -> ¬ 0 < S.T i cc) : False := by
  obtain ⟨y, _, rows, goal⟩ := O.way hc neg no
  have r0 := rows i0 h0
  have rl := rows l hl
  have e : sumTo (fun j => c j * y j) q = sumTo (fun j => A i0 j * y j) q + sumTo (fun j => A l j * y j) q := by
    rw [<- K6]
    refine sum_congr fun j hj => ?_
    rw [<- hA j hj, Int.add_mul]
  lia
end
end Lp
namespace Rim
open PySem L2 Fr
section
variable {P : Program} {w : World} {K : W.Frag} {mg : Str -> Option Value} {base : Heap} {f Pt d : Addr} {fd : FuncData} {n : Nat} {C : Addr}
end
end Rim
namespace Rim
open PySem L2 Fr
section
variable {P : Program} {w : World} {K : W.Frag} {mg : Str -> Option Value} {base : Heap} {f Pt d : Addr} {fd : FuncData} {n : Nat} {C : Addr}
end
end Rim
namespace Rim
open PySem L2 Fr
theorem SqT.same1 {K : W.Frag} {P : Addr} {pos : Pos} {qual : Str} {H H' : Hp} {a : Addr} {xs : List V} (T : LamTab P pos qual H) (e : Same1 P H H') (h : SqT K H a xs) : SqT K H' a xs := by
  have ne : ∀ o, H a = some o -> (∀ ps, o ≠ .tbl ps) -> a ≠ P := fun o q n z => by
    subst z
    rcases T with t | ⟨c, t, _⟩
    . rw [q] at t; exact n _ (Option.some.inj t)
    . rw [q] at t; exact n _ (Option.some.inj t)
  rcases h with (h | ⟨o, h⟩) | h
  . exact .inl (.inl (e _ _ (ne _ h fun _ => nofun) h))
  . exact .inl (.inr ⟨o, e _ _ (ne _ h fun _ => nofun) h⟩)
  . exact .inr h
theorem HS.same1 {K : W.Frag} {Pt : Addr} {H H' : Hp} {v : V} {h : h8} (T : LT Pt H) (e : Same1 Pt H H') (x : HS K H v h) : HS K H' v h := by
  obtain ⟨a, t, g, h0, h1, h2, h3⟩ := x
  exact ⟨a, t, g, h0, SqT.same1 T e h1, SqT.same1 T e h2, SqT.same1 T e h3⟩
theorem Bk.same1 {K : W.Frag} {Pt : Addr} {H H' : Hp} {vs : List V} {hs : List h8} (T : LT Pt H) (e : Same1 Pt H H') (x : Bk K H vs hs) : Bk K H' vs hs := Paired.imp' (fun _ _ r => HS.same1 T e r) x
theorem A6 {l r : List Int} (j : Nat) : (l ++ r).getD j 0 = if j < l.length then l.getD j 0 else r.getD (j - l.length) 0 := by
  rw [List.getD_eq_getElem?_getD, List.getD_eq_getElem?_getD, List.getD_eq_getElem?_getD]
  by_cases h : j < l.length
  . rw [if_pos h, List.getElem?_append_left h]
  . rw [if_neg h, List.getElem?_append_right (by lia)]
theorem P8 (k j : Nat) : (List.replicate k (0 : Int)).getD j 0 = 0 := by
  rw [List.getD_eq_getElem?_getD, List.getElem?_replicate]
  split <;> rfl
theorem a2q (l : List Int) (j : Nat) : (l.map fun x => -x).getD j 0 = - l.getD j 0 := by
  rw [List.getD_eq_getElem?_getD, List.getD_eq_getElem?_getD, List.getElem?_map]
  cases l[j]? <;> rfl
theorem a5V {z : Str} {hs : List h8} {h : h8} {i : Nat} (hi : hs[i]? = some h) (j : Nat) : S9 (y6 z hs h) i j + S9 (y6 z hs h) hs.length j = D6 (D0 z h) j := by
  have hil : i < hs.length := (List.getElem?_eq_some_iff.mp hi).1
  have e1 : (y6 z hs h)[i]? = some (w8 z h) := by
    unfold y6
    rw [List.getElem?_append_left (by rw [List.length_map]; exact hil), List.getElem?_map, hi]; rfl
  have e2 : (y6 z hs h)[hs.length]? = some (E9 z h) := by
    unfold y6
    rw [List.getElem?_append_right (by rw [List.length_map]; exact Nat.le_refl _), List.length_map, Nat.sub_self]; rfl
  rw [a0i e1, a0i e2]
  unfold D6 w8 E9 D0
  simp only [A6, P8, a2q, List.length_append, List.length_map, List.length_replicate]
  by_cases h1 : j < h.1.length
  . rw [if_pos (by lia), if_pos h1, if_pos (by lia), if_pos h1, if_pos (by lia), if_pos h1]; lia
  . by_cases h2 : j < h.1.length + h.2.length
    . rw [if_pos h2, if_neg h1, if_pos h2, if_neg h1, if_pos h2, if_neg h1, Int.add_zero]
    . rw [if_neg h2, if_neg h2, if_neg h2, Int.add_zero]
section
variable {P : Program} {w : World} {K : W.Frag} {mg : Str -> Option Value} {base : Heap} {f Pt d CN : Addr} {fd : FuncData} {n : Nat} {C : Addr}
structure a1f (P : Program) (w : World) (K : W.Frag) (mg : Str -> Option Value) (base : Heap) (n : Nat) (x : Str) (ps : List Str) (sp : Sp) (fa : Addr) (d : FuncData) : Prop where
  ok : FnOk P w K mg base (P1 P w) n fa d ps sp
  b : Binds K d ps []
  k : W.keepIn K (.ref fa) = true
  m : mg x = some (.ref fa)
abbrev mE (hs : List h8) : Nat := hs.length + 1
abbrev qE (z : Str) (h : h8) : Nat := h.1.length + h.2.length + (P5 z).length
structure a1Q (K : W.Frag) (H : Hp) (ba : Addr) (xs : List V) (hs : List h8) (far : Int) (kt kg : Nat) : Prop where
  l : SqL K H ba xs
  b : Bk K H xs hs
  g : ∀ h ∈ hs, HG far kt kg h
  far : far <= 2 ^ 60
  few : hs.length <= 16
  t : kt <= 20
  k : kg <= 20
def Best (z : Str) (hs : List h8) (h : h8) (S : Lp.Bo) : Prop := OfE z hs h S /\ (∀ j, j < qE z h -> ¬ S.T (mE hs) j < 0) /\ Sz 4000 (mE hs) (qE z h) S
def a0e (K : W.Frag) (CN Pt : Addr) : Sp := fun vs H Q E => ∃ (ba : Addr) (xs : List V) (hs : List h8) (number : Int) (z : Str) (far : Int) (kt kg : Nat), vs = [.ref ba, .int number, .str z] /\ Szw z /\ a1Q K H ba xs hs far kt kg /\ number.natAbs.log2 < 1920 /\ LT Pt H ∧
  (∀ (i : Nat) (h : h8) (S : Lp.Bo) (H' : Hp) (u : V), number = (i : Int) -> hs[i]? = some h -> Best z hs h S -> Same1 Pt H H' -> LT Pt H' -> FrT H' u (low (S.T (mE hs) (qE z h)) S.d) -> Q u H') /\ (¬ a1i xs.length number -> E (.ref CN) none H)
theorem a4y {z : Str} {hs : List h8} {h : h8} {S : Lp.Bo} (B : Best z hs h S) : 0 < S.d /\ S.d < 2 ^ 8000 := by
  refine ⟨B.1.w.pos, ?_⟩
  have h1 : S.d.natAbs < 2 ^ 4000 := B.2.2.2
  have h2 : (2 : Nat) ^ 4000 <= 2 ^ 8000 := Nat.pow_le_pow_right (by decide) (by decide)
  have h3 : S.d = (S.d.natAbs : Int) := by have := B.1.w.pos; lia
  rw [h3]
  exact_mod_cast Nat.lt_of_lt_of_le h1 h2
theorem a8p {m q : Nat} {A : Nat -> Nat -> Int} {b c : Nat -> Int} {S : Lp.Bo} (O : Lp.Of m q A b c S) (sz : Sz 4000 m q S) {v : Nat} (hv : v < q) : Big 4000 (Lp.valIn m S q v) := by
  have hv' : v < q + m := by lia
  rcases O.w.all v hv' with ⟨i, hi, e⟩ | ⟨j, hj, e⟩
  . have : Lp.valIn m S q v = S.T i q := by
      unfold Lp.valIn
      rw [Lp.sum_one hi fun k hk hn => if_neg fun z => hn (O.w.ii k i hk hi (z.trans e.symm)), if_pos e]
    rw [this]
    exact sz.1 i q (by lia) (by lia)
  . have : Lp.valIn m S q v = 0 := Lp.sum_zero fun k hk => if_neg fun z => O.w.io k j hk hj (z.trans e.symm)
    rw [this]
    show (0 : Int).natAbs < 2 ^ 4000
    exact Nat.pow_pos (by decide)
def a5E (K : W.Frag) (Pt : Addr) : Sp := fun vs H Q _ => ∃ (ba : Addr) (hv : V) (xs : List V) (hs : List h8) (h : h8) (z : Str) (far : Int) (kt kg : Nat), vs = [.ref ba, hv, .str z] /\ Szw z /\ a1Q K H ba xs hs far kt kg /\ HS K H hv h /\ HG far kt kg h /\ LT Pt H ∧
  (∀ (S : Lp.Bo) (H' : Hp) (u : V), Best z hs h S -> Same1 Pt H H' -> LT Pt H' -> FrT H' u (low (S.T (mE hs) (qE z h)) S.d) -> Q u H') ∧
  ∀ (S : Lp.Bo) (H' : Hp) (c : Nat), OfE z hs h S -> c < qE z h -> S.T (mE hs) c < 0 -> (∀ i, i < mE hs -> ¬ 0 < S.T i c) -> Same1 Pt H H' -> LT Pt H' -> Q .non H'
set_option maxHeartbeats 8000000 in
theorem a7J {f2 f3 : Addr} {d2 d3 : FuncData} (F : Fun K "held_against" "held_against" a6j f fd) (Ce : a2W P w K mg base n "greatest_earned" ["houses", "house", "sizes"] (a2v K Pt) f2 d2)
    (Cl : Cal P w K mg base n "lowest" ["top", "bottom"] a8Q f3 d3) : FnOk P w K mg base D4 (n + 1) f fd ["houses", "house", "sizes"] (a5E K Pt) := by
  refine F.ok scHa (fun vs H Q E h => ?_) (fun cdv A outer s H vs Q E hr h => ?_)
  . obtain ⟨ba, hv, xs, hs, h, z, far, kt, kg, rfl, _⟩ := h
    rfl
  obtain ⟨ba, hv, xs, hs, h, z, far, kt, kg, rfl, hz, B, hH, gh, L, kG, kN⟩ := h
  refine ⟨_, d8 (l0 (i := 3) scHa.nd rfl (Or.inl rfl) (j6 Ce.ok hr rfl Ce.m Ce.k Ce.b .nil p9 (a0 (pv 0) (a0 (pv 1) (a0 (pv 2) d7)))))
    (d8 (v6 (j4 a1K (pv 3) J6 (j8 _)) (g0 (m6 J6)) o4)
    (d8 (M6 (pv 3) (X7 rfl (m7 (m5 (i := 4) scHa.nd rfl (Or.inl rfl)) (m7 (m5 (i := 5) scHa.nd rfl (Or.inl rfl)) (m7 (m5 (i := 6) scHa.nd rfl (Or.inl rfl)) (m7 (m5 (i := 7) scHa.nd rfl (Or.inl rfl)) A9))))))
    (g0 (m6 (j6 Cl.ok hr rfl Cl.m Cl.k Cl.b .nil p9 (a0 (pv 4) (a0 (pv 7) d7))))))), ?_⟩
  refine ⟨_, rfl, _, rfl, _, rfl, ba, hv, xs, hs, h, z, far, kt, kg, mE hs, qE z h, rfl, hz, B.l, B.b, hH, gh, B.g, B.far, B.few, B.t, B.k, rfl, rfl, L, fun S H' t aa wa O hn sz e' L' g1 g2 g3 => ?_, fun S H' c O hc hneg hno e' L' => ?_⟩
  . have Bs : Best z hs h S := ⟨O, hn, sz⟩
    obtain ⟨b1, b2⟩ := a4y Bs
    refine ⟨_, rfl, rfl, _, rfl, K2 ?_⟩
    refine ⟨_, rfl, t, _, rfl, SqT.of g1, rfl, _, _, rfl, _, _, rfl, _, _, rfl, _, _, rfl, rfl, ?_⟩
    exact ⟨_, rfl, _, rfl, _, _, rfl, b1, b2, fun u H2 e2 hu => kG S H2 u Bs (fun b o hb q' => e2 _ _ (e' b o hb q')) (L'.same e2) hu⟩
  . refine ⟨_, rfl, rfl, _, rfl, a0c ?_⟩
    exact kN S H' c O hc hneg hno e' L'
set_option maxHeartbeats 8000000 in
theorem a6a {f1 f2 : Addr} {d1 d2 : FuncData} (F : Fun K "share" "share" a3d f fd) (Ch : a1f P w K mg base n "house_of" ["book", "number"] (a4A K CN) f1 d1) (Ce : a2W P w K mg base n "held_against" ["houses", "house", "sizes"] (a5E K Pt) f2 d2) : FnOk P w K mg base (P1 P w) (n + 1) f fd ["book", "number", "sizes"] (a0e K CN Pt) := by
  refine F.ok1 b2j (fun vs H Q E h => ?_) (fun cdv A outer s H vs Q E hr h => ?_)
  . obtain ⟨ba, xs, hs, number, z, far, kt, kg, rfl, _⟩ := h
    rfl
  obtain ⟨ba, xs, hs, number, z, far, kt, kg, rfl, hz, B, lm, L, kG, kE⟩ := h
  refine ⟨_, g0 (m6 (j6 Ce.ok hr rfl Ce.m Ce.k Ce.b .nil p9 (a0 (pv 0) (a0 (j6 Ch.ok hr rfl Ch.m Ch.k Ch.b .nil W2 (a0 (pv 0) (a0 (pv 1) d7))) (a0 (pv 2) d7))))), ?_⟩
  refine ⟨_, rfl, _, rfl, _, rfl, ba, xs, number, rfl, B.l, lm, fun i hv hi hx => ?_, kE⟩
  obtain ⟨h, hh, hH⟩ := Paired.at B.b hx
  have gh := B.g h (List.mem_of_getElem? hh)
  refine ⟨_, rfl, ba, hv, xs, hs, h, z, far, kt, kg, rfl, hz, B, hH, gh, L, fun S H' u Bs e' L' hu => kG i h S H' u hi hh Bs e' L' hu, fun S H' c O hc hneg hno e' L' => (O.bounded (i0 := i) (l := hs.length) (by have := (List.getElem?_eq_some_iff.mp hh).1; lia) (by lia) (fun j _ => a5V hh j) hc hneg hno).elim⟩
end
end Rim
namespace L2
open PySem
theorem Big.mono {n m : Nat} {i : Int} (h : Big n i) (hn : n <= m) : Big m i := Rim.Big.mono h hn
theorem Big.mul {n m : Nat} {i j : Int} (h : Big n i) (k : Big m j) : Big (n + m) (i * j) := Rim.Big.mul h k
end L2
namespace Fr
end Fr
namespace Rim
open PySem L2 Fr
section
variable {P : Program} {w : World} {K : W.Frag} {mg : Str -> Option Value} {base : Heap} {f : Addr} {fd : FuncData} {n : Nat}
end
end Rim
namespace Rim
open PySem L2 Fr
section
variable {P : Program} {w : World} {K : W.Frag} {mg : Str -> Option Value} {base : Heap} {f : Addr} {fd : FuncData} {n : Nat}
def a1Y (z : Str) (s D : Int) : Prop := ((z = "one" \/ z = "less") -> s <= D) /\ ((z = "one" \/ z = "more") -> D <= s)
theorem a8t : ∀ {ws : List Int} {m : Nat}, (∀ x ∈ ws, Big m x) -> ws.length <= 200 -> Big (m + 200) ws.sum := fun {ws m} h hl => by
  have key : ∀ l : List Int, (∀ x ∈ l, Big m x) -> l.sum.natAbs <= l.length * 2 ^ m := fun l => by
    induction l with
    | nil => intro _; exact Nat.zero_le _
    | cons x r ih =>
      intro h
      have h1 : x.natAbs < 2 ^ m := h x List.mem_cons_self
      have h2 := ih fun y hy => h y (List.mem_cons_of_mem _ hy)
      have h3 := Int.natAbs_add_le x r.sum
      rw [List.sum_cons, List.length_cons, Nat.succ_mul]
      lia
  have h1 := key ws h
  have h2 : ws.length * 2 ^ m <= 200 * 2 ^ m := Nat.mul_le_mul_right _ hl
  have h3 : 200 * 2 ^ m < 2 ^ (m + 200) := by
    rw [Nat.pow_add, Nat.mul_comm]
    exact Nat.mul_lt_mul_of_pos_left (by decide) (Nat.pow_pos (by decide))
  exact Nat.lt_of_le_of_lt (Nat.le_trans h1 h2) h3
end
end Rim
namespace Rim
open PySem L2 Fr
def col (rows : List (List Int)) (i : Nat) : List Int := rows.map fun r => r.getD i 0
section
variable {P : Program} {w : World} {K : W.Frag} {mg : Str -> Option Value} {base : Heap} {f g : Addr} {fd gd : FuncData} {n : Nat}
def T0 (j : Nat) (h : h8) : List Int := if j = 0 then h.1 else h.2
end
end Rim
namespace L2
open PySem PySem.Spec PyProof.Rows
section
variable {xs ys : List V} {K : W.Frag} {l1 l2 : Addr} {σ : St}
end
end L2
namespace Rim
open PySem L2 Fr
section
variable {P : Program} {w : World} {K : W.Frag} {mg : Str -> Option Value} {base : Heap} {f : Addr} {fd : FuncData} {n : Nat}
def W7 (hs : List h8) (ws : List Int) (j i : Nat) : Int := (List.zipWith (· * ·) (col (hs.map (T0 j)) i) ws).sum
end
end Rim
namespace Rim
open PySem L2 Fr
theorem a5Y {a b : Nat} : ∀ {ns ws : List Int}, (∀ x ∈ ns, Big a x) -> (∀ x ∈ ws, Big b x) -> ∀ x ∈ List.zipWith (· * ·) ns ws, Big (a + b) x
  | [], _, _, _, x, hx => by simp at hx
  | _ :: _, [], _, _, x, hx => by simp at hx
  | n :: ns, w :: ws, h1, h2, x, hx => by
    rw [List.zipWith_cons_cons] at hx
    rcases List.mem_cons.mp hx with e | e
    . rw [e]; exact (h1 n List.mem_cons_self).mul (h2 w List.mem_cons_self)
    . exact a5Y (fun y hy => h1 y (List.mem_cons_of_mem _ hy)) (fun y hy => h2 y (List.mem_cons_of_mem _ hy)) x e
section
variable {P : Program} {w : World} {K : W.Frag} {mg : Str -> Option Value} {base : Heap} {f : Addr} {fd : FuncData} {n : Nat}
end
end Rim
namespace Rim
open PySem L2 Fr
theorem a2e : ∀ {xs ys : List Int} {a b : Int}, xs.length = ys.length -> (List.zipWith (· * ·) (xs ++ [a]) (ys ++ [b])).sum = (List.zipWith (· * ·) xs ys).sum + a * b
  | [], [], a, b, _ => by simp
  | x :: xs, y :: ys, a, b, h => by
    rw [List.cons_append, List.cons_append, List.zipWith_cons_cons, List.zipWith_cons_cons, List.sum_cons, List.sum_cons, a2e (by simpa using h), Int.add_assoc]
section
variable {P : Program} {w : World} {K : W.Frag} {mg : Str -> Option Value} {base : Heap} {f : Addr} {fd : FuncData} {n : Nat}
structure PrN (pt pg : List Int) (ps D : Int) (kt kg : Nat) : Prop where
  lt : pt.length = kt
  lg : pg.length = kg
  bt : ∀ x ∈ pt, 0 <= x /\ Big 5000 x
  bg : ∀ x ∈ pg, 0 <= x /\ Big 5000 x
  bs : Big 5000 ps
  d : 0 < D
  d2 : D < 2 ^ 4000
def Y0 (h : h8) (pg : List Int) (ps : Int) : Int := (List.zipWith (· * ·) h.2 pg).sum + ps
def pay (h : h8) (pt : List Int) : Int := (List.zipWith (· * ·) h.1 pt).sum
end
end Rim
namespace Rim
open PySem L2 Fr
section
variable {P : Program} {w : World} {K : W.Frag} {mg : Str -> Option Value} {base : Heap} {f : Addr} {fd : FuncData} {n : Nat}
def a0W (z : Str) (ps : Int) : Prop := ((z = "any" \/ z = "less") -> ps <= 0) /\ ((z = "any" \/ z = "more") -> 0 <= ps)
theorem a0Z : PyData.eqv (.list []) (.list []) = true := by rw [PyData.eqv, PyData.eqvAll]
end
end Rim
namespace Rim
open PySem L2 Fr
mutual
theorem R1 : ∀ d : PyData, d.canLay0 = true -> PyData.eqv d d = true
  | .none, _ => by rw [PyData.eqv]
  | .bool b, _ => by rw [PyData.eqv]; simp
  | .int i, _ => by rw [PyData.eqv]; simp
  | .str x, _ => by rw [PyData.eqv]; simp
  | .list xs, h => by rw [PyData.eqv]; exact Q9 xs (by rw [PyData.canLay0] at h; exact h)
  | .tuple xs, h => by rw [PyData.eqv]; exact Q9 xs (by rw [PyData.canLay0] at h; exact h)
  | .dict kvs, h => by rw [PyData.canLay0] at h; cases h
theorem Q9 : ∀ ds : List PyData, PyData.canLayAll0 ds = true -> PyData.eqvAll ds ds = true
  | [], _ => by rw [PyData.eqvAll]
  | d :: r, h => by
    rw [PyData.canLayAll0, Bool.and_eq_true] at h
    rw [PyData.eqvAll, R1 d h.1, Q9 r h.2]; rfl
end
def dF (x : Q2) : PyData := .tuple [.int x.1, .int x.2]
theorem FrV.dp {K : W.Frag} {H : Hp} {v : V} {x : Q2} (h : FrV K H v x) : Dp K H v (dF x) := by
  obtain ⟨a, rfl, q⟩ := h
  exact .tup q (.cons (.int _) (.cons (.int _) .nil))
theorem a8Y (x : Q2) : (dF x).canLay0 = true := by
  unfold dF
  rw [PyData.canLay0, PyData.canLayAll0, PyData.canLay0, PyData.canLayAll0, PyData.canLay0, PyData.canLayAll0]; rfl
theorem b1a (x : Q2) : (dF x).depth <= 60 := by
  unfold dF
  simp [PyData.depth, PyData.depthAll]
section
variable {P : Program} {w : World} {K : W.Frag} {mg : Str -> Option Value} {base : Heap} {f : Addr} {fd : FuncData} {n : Nat}
end
end Rim
namespace Rim
open PySem L2 Fr
section
variable {P : Program} {w : World} {K : W.Frag} {mg : Str -> Option Value} {base : Heap} {f : Addr} {fd : FuncData} {n : Nat}
end
end Rim
namespace Lp
section
variable {m q : Nat} {A : Nat -> Nat -> Int} {b c : Nat -> Int} {S S' : Bo}
theorem a3x {g h : Nat -> Int} : ∀ {n : Nat}, (∀ k, k < n -> g k <= h k) -> sumTo g n <= sumTo h n
  | 0, _ => Int.le_refl _
  | n + 1, e => Int.add_le_add (a3x fun k hk => e k (by lia)) (e n (by lia))
theorem a4j {g h : Nat -> Int} : ∀ n : Nat, sumTo (fun k => g k - h k) n = sumTo g n - sumTo h n
  | 0 => rfl
  | n + 1 => by
    show sumTo (fun k => g k - h k) n + (g n - h n) = (sumTo g n + g n) - (sumTo h n + h n)
    rw [a4j n]; lia
theorem Of.slack (O : Of m q A b c S) (hn : ∀ j, j < q -> ¬ S.T m j < 0) {l : Nat} (hl : l < m) (hw : 0 < valOut m q S (q + l)) : sumTo (fun j => A l j * valIn m S q j) q = b l * S.d := by
  obtain ⟨p1, p2⟩ := O.primal
  have nn : ∀ v, 0 <= valOut m q S v := Of.valOut_nn fun j hj => by have := hn j hj; lia
  have nx := O.valIn_nn
  by_cases h0 : valIn m S q (q + l) = 0
  . have := p1 l hl
    lia
  . exfalso
    have hp : 0 < valIn m S q (q + l) := by have := nx (q + l); lia
    obtain ⟨D1, D2⟩ := O.dual
    -- the rows at the amounts, weighed
    have e1 : S.d * sumTo (fun j => c j * valIn m S q j) q <= sumTo (fun i => valOut m q S (q + i) * sumTo (fun j => A i j * valIn m S q j) q) m := by
      have x1 : S.d * sumTo (fun j => c j * valIn m S q j) q = sumTo (fun j => sumTo (fun i => A i j * valOut m q S (q + i)) m * valIn m S q j - valOut m q S j * valIn m S q j) q := by
        rw [<- v8]
        refine sum_congr fun j hj => ?_
        rw [D1 j hj, Int.add_mul, Int.add_sub_cancel, Int.mul_comm (c j) S.d, Int.mul_assoc]
      have x2 : sumTo (fun j => sumTo (fun i => A i j * valOut m q S (q + i)) m * valIn m S q j - valOut m q S j * valIn m S q j) q <= sumTo (fun j => sumTo (fun i => valOut m q S (q + i) * (A i j * valIn m S q j)) m) q := by
        refine a3x fun j hj => ?_
        have y := Int.mul_nonneg (nn j) (nx j)
        have z : sumTo (fun i => A i j * valOut m q S (q + i)) m * valIn m S q j = sumTo (fun i => valOut m q S (q + i) * (A i j * valIn m S q j)) m := by
          rw [Int.mul_comm, <- v8]
          refine sum_congr fun i hi => ?_
          ac_rfl
        lia
      rw [W3] at x2
      have x3 : sumTo (fun i => sumTo (fun j => valOut m q S (q + i) * (A i j * valIn m S q j)) q) m = sumTo (fun i => valOut m q S (q + i) * sumTo (fun j => A i j * valIn m S q j) q) m := sum_congr fun i hi => by rw [v8]
      rw [x1, <- x3]; exact x2
    have e2 : sumTo (fun i => valOut m q S (q + i) * sumTo (fun j => A i j * valIn m S q j) q) m <= sumTo (fun i => S.d * (b i * valOut m q S (q + i)) - (if i = l then valOut m q S (q + l) * valIn m S q (q + l) else 0)) m := by
      refine a3x fun i hi => ?_
      have y := p1 i hi
      have z := Int.mul_nonneg (nn (q + i)) (nx (q + i))
      have ez : valOut m q S (q + i) * sumTo (fun j => A i j * valIn m S q j) q = S.d * (b i * valOut m q S (q + i)) - valOut m q S (q + i) * valIn m S q (q + i) := by
        have : sumTo (fun j => A i j * valIn m S q j) q = b i * S.d - valIn m S q (q + i) := by lia
        rw [this, Int.mul_sub]
        congr 1
        ac_rfl
      rw [ez]
      by_cases hil : i = l
      . subst hil
        rw [if_pos rfl]; exact Int.le_refl _
      . rw [if_neg hil]; lia
    have e3 : sumTo (fun i => S.d * (b i * valOut m q S (q + i)) - (if i = l then valOut m q S (q + l) * valIn m S q (q + l) else 0)) m = S.d * S.T m q - valOut m q S (q + l) * valIn m S q (q + l) := by
      rw [a4j, v8, D2, sum_one hl fun i hi hne => if_neg hne, if_pos rfl]
    rw [p2] at e1
    have := Int.mul_pos hw hp
    lia
end
end Lp
namespace Rim
open PySem L2 Fr
abbrev y9 (l x : List Int) : Int := (List.zipWith (· * ·) l x).sum
theorem a2h : ∀ (l r x : List Int), y9 (l ++ r) x = y9 l (x.take l.length) + y9 r (x.drop l.length)
  | [], r, x => by simp [y9]
  | a :: l, r, [] => by simp [y9]
  | a :: l, r, y :: x => by
    have := a2h l r x
    unfold y9 at *
    rw [List.cons_append, List.zipWith_cons_cons, List.sum_cons, this, List.length_cons, List.take_succ_cons, List.drop_succ_cons, List.zipWith_cons_cons, List.sum_cons]
    lia
theorem a1O : ∀ (l x : List Int), y9 (l.map fun y => -y) x = - y9 l x
  | [], x => by simp [y9]
  | a :: l, [] => by simp [y9]
  | a :: l, y :: x => by
    have := a1O l x
    unfold y9 at *
    rw [List.map_cons, List.zipWith_cons_cons, List.sum_cons, this, List.zipWith_cons_cons, List.sum_cons, Int.neg_mul]
    lia
theorem X1 : ∀ (k : Nat) (x : List Int), y9 (List.replicate k 0) x = 0
  | 0, x => by simp [y9]
  | k + 1, [] => by simp [y9]
  | k + 1, y :: x => by
    have := X1 k x
    unfold y9 at *
    rw [List.replicate_succ, List.zipWith_cons_cons, List.sum_cons, this]; lia
theorem a0K : ∀ (l x : List Int), y9 l x = y9 x l
  | [], x => by simp [y9]
  | a :: l, [] => by simp [y9]
  | a :: l, y :: x => by
    have := a0K l x
    unfold y9 at *
    rw [List.zipWith_cons_cons, List.sum_cons, this, List.zipWith_cons_cons, List.sum_cons, Int.mul_comm]
theorem a7b : ∀ {l x : List Int}, (∀ y ∈ l, 0 <= y) -> (∀ y ∈ x, 0 <= y) -> 0 <= y9 l x
  | [], x, _, _ => by simp [y9]
  | a :: l, [], _, _ => by simp [y9]
  | a :: l, y :: x, h1, h2 => by
    have := a7b (l := l) (x := x) (fun z hz => h1 z (.tail _ hz)) (fun z hz => h2 z (.tail _ hz))
    unfold y9 at *
    rw [List.zipWith_cons_cons, List.sum_cons]
    have := Int.mul_nonneg (h1 a (.head _)) (h2 y (.head _))
    lia
theorem G3 : ∀ (n : Nat) (l x : List Int), l.length = n -> x.length = n -> Lp.sumTo (fun j => l.getD j 0 * x.getD j 0) n = y9 l x
  | 0, l, x, h1, h2 => by
    rw [List.eq_nil_of_length_eq_zero h1]; simp [y9, Lp.sumTo]
  | n + 1, l, x, h1, h2 => by
    obtain ⟨l', a, rfl⟩ : ∃ l' a, l = l' ++ [a] := ⟨l.dropLast, l.getLast (by intro z; rw [z] at h1; cases h1), (List.dropLast_concat_getLast _).symm⟩
    obtain ⟨x', b, rfl⟩ : ∃ l' a, x = l' ++ [a] := ⟨x.dropLast, x.getLast (by intro z; rw [z] at h2; cases h2), (List.dropLast_concat_getLast _).symm⟩
    have l1 : l'.length = n := by simpa using h1
    have l2 : x'.length = n := by simpa using h2
    show Lp.sumTo _ n + _ = _
    have e : Lp.sumTo (fun j => (l' ++ [a]).getD j 0 * (x' ++ [b]).getD j 0) n = Lp.sumTo (fun j => l'.getD j 0 * x'.getD j 0) n := Lp.sum_congr fun j hj => by
      rw [A6, A6, if_pos (by lia), if_pos (by lia)]
    rw [e, G3 n l' x' l1 l2]
    show _ = (List.zipWith (· * ·) (l' ++ [a]) (x' ++ [b])).sum
    rw [a2e (by lia)]
    show y9 l' x' + (l' ++ [a]).getD n 0 * (x' ++ [b]).getD n 0 = _
    rw [A6, A6, if_neg (by lia), if_neg (by lia), l1, l2, Nat.sub_self]; rfl
theorem a0w {n : Nat} {F : Nat -> Int} {j : Nat} (h : j < n) : ((List.range n).map F).getD j 0 = F j := by
  rw [List.getD_eq_getElem?_getD, List.getElem?_map, List.getElem?_range h]; rfl
theorem a0M : ∀ {l x : List Int}, (∀ y ∈ l, 0 <= y) -> (∀ y ∈ x, 0 <= y) -> 0 < y9 l x -> ∃ j, j < x.length /\ 0 < x.getD j 0
  | [], x, _, _, h => by simp [y9] at h
  | a :: l, [], _, _, h => by simp [y9] at h
  | a :: l, y :: x, h1, h2, h => by
    by_cases hy : 0 < y
    . exact ⟨0, by simp, by simpa using hy⟩
    . have y0 : y = 0 := by have := h2 y (.head _); lia
      subst y0
      have h' : 0 < y9 l x := by
        unfold y9 at *
        rw [List.zipWith_cons_cons, List.sum_cons] at h; lia
      obtain ⟨j, hj, hp⟩ := a0M (fun z hz => h1 z (.tail _ hz)) (fun z hz => h2 z (.tail _ hz)) h'
      exact ⟨j + 1, by simp; lia, by simpa using hp⟩
theorem a0S : ∀ {l x : List Int}, (∀ y ∈ l, 0 < y) -> (∀ y ∈ x, 0 <= y) -> l.length = x.length -> (∃ j, j < x.length /\ 0 < x.getD j 0) -> 0 < y9 l x
  | [], [], _, _, _, ⟨j, hj, _⟩ => by simp at hj
  | a :: l, y :: x, h1, h2, hl, ⟨j, hj, hp⟩ => by
    have nn : 0 <= y9 l x := a7b (fun z hz => Int.le_of_lt (h1 z (.tail _ hz))) (fun z hz => h2 z (.tail _ hz))
    have ya := Int.mul_nonneg (Int.le_of_lt (h1 a (.head _))) (h2 y (.head _))
    cases j with
    | zero =>
      have : 0 < a * y := Int.mul_pos (h1 a (.head _)) (by simpa using hp)
      unfold y9 at *
      rw [List.zipWith_cons_cons, List.sum_cons]; lia
    | succ j =>
      have := a0S (l := l) (x := x) (fun z hz => h1 z (.tail _ hz)) (fun z hz => h2 z (.tail _ hz)) (by simpa using hl) ⟨j, by simpa using hj, by simpa using hp⟩
      unfold y9 at *
      rw [List.zipWith_cons_cons, List.sum_cons]; lia
  | [], _ :: _, _, _, hl, _ => by simp at hl
  | _ :: _, [], _, _, hl, _ => by simp at hl
theorem a8d {m q : Nat} {A : Nat -> Nat -> Int} {b c : Nat -> Int} {S : Lp.Bo} (O : Lp.Of m q A b c S) (sz : Sz 4000 m q S) {v : Nat} (hv : v < q + m) : Big 4000 (Lp.valOut m q S v) := by
  rcases O.w.all v hv with ⟨i, hi, e⟩ | ⟨j, hj, e⟩
  . have : Lp.valOut m q S v = 0 := Lp.sum_zero fun k hk => if_neg fun z => O.w.io i k hi hk (e.trans z.symm)
    rw [this]
    show (0 : Int).natAbs < 2 ^ 4000
    exact Nat.pow_pos (by decide)
  . have : Lp.valOut m q S v = S.T m j := by
      unfold Lp.valOut
      rw [Lp.sum_one hj fun k hk hn => if_neg fun z => hn (O.w.oo k j hk hj (z.trans e.symm)), if_pos e]
    rw [this]
    exact sz.1 m j (by lia) (by lia)
section
variable {m q : Nat} {rows : List (List Int)} {bnd goal : List Int} {S : Lp.Bo}
theorem a7P (O : Lp.Of m q (S9 rows) (D6 bnd) (D6 goal) S) {i : Nat} {row : List Int} (hi : i < m) (hr : rows[i]? = some row) (hl : row.length = q) : y9 row (m9 m q S) <= bnd.getD i 0 * S.d := by
  have h := O.primal.1 i hi
  have nn := O.valIn_nn (q + i)
  have e : Lp.sumTo (fun j => S9 rows i j * Lp.valIn m S q j) q = y9 row (m9 m q S) := by
    rw [<- G3 q row (m9 m q S) hl (by unfold m9; simp)]
    refine Lp.sum_congr fun j hj => ?_
    rw [a0i hr]
    unfold m9
    rw [a0w hj]
  rw [e] at h
  show _ <= D6 bnd i * S.d
  lia
theorem a3e (O : Lp.Of m q (S9 rows) (D6 bnd) (D6 goal) S) (hn : ∀ j, j < q -> ¬ S.T m j < 0) {i : Nat} {row : List Int} (hi : i < m) (hr : rows[i]? = some row) (hl : row.length = q) (hw : 0 < Lp.valOut m q S (q + i)) : y9 row (m9 m q S) = bnd.getD i 0 * S.d := by
  have h := O.slack hn hi hw
  have e : Lp.sumTo (fun j => S9 rows i j * Lp.valIn m S q j) q = y9 row (m9 m q S) := by
    rw [<- G3 q row (m9 m q S) hl (by unfold m9; simp)]
    refine Lp.sum_congr fun j hj => ?_
    rw [a0i hr]
    unfold m9
    rw [a0w hj]
  rw [e] at h
  exact h
theorem a6o (O : Lp.Of m q (S9 rows) (D6 bnd) (D6 goal) S) (hl : goal.length = q) : y9 goal (m9 m q S) = S.T m q := by
  have h := O.primal.2
  have e : Lp.sumTo (fun j => D6 goal j * Lp.valIn m S q j) q = y9 goal (m9 m q S) := by
    rw [<- G3 q goal (m9 m q S) hl (by unfold m9; simp)]
    refine Lp.sum_congr fun j hj => ?_
    unfold m9
    rw [a0w hj]; rfl
  rw [e] at h
  exact h
theorem a1R (O : Lp.Of m q (S9 rows) (D6 bnd) (D6 goal) S) (hn : ∀ j, j < q -> ¬ S.T m j < 0) (hl : rows.length = m) {j : Nat} (hj : j < q) : goal.getD j 0 * S.d <= y9 (col rows j) (C9 m q S) := by
  have h := O.dual.1 j hj
  have nn : 0 <= Lp.valOut m q S j := Lp.Of.valOut_nn (fun j hj => by have := hn j hj; lia) j
  have e : Lp.sumTo (fun i => S9 rows i j * Lp.valOut m q S (q + i)) m = y9 (col rows j) (C9 m q S) := by
    rw [<- G3 m (col rows j) (C9 m q S) (by unfold col; rw [List.length_map]; exact hl) (by unfold C9; simp)]
    refine Lp.sum_congr fun i hi => ?_
    unfold C9
    rw [a0w hi]
    congr 1
    unfold S9 col
    rw [List.getD_eq_getElem?_getD (l := List.map _ rows), List.getElem?_map, List.getD_eq_getElem?_getD (l := rows), List.getElem?_eq_getElem (by lia)]; rfl
  rw [e] at h
  show D6 goal j * S.d <= _
  lia
theorem a8k (O : Lp.Of m q (S9 rows) (D6 bnd) (D6 goal) S) (hl : bnd.length = m) : y9 bnd (C9 m q S) = S.T m q := by
  have h := O.dual.2
  have e : Lp.sumTo (fun i => D6 bnd i * Lp.valOut m q S (q + i)) m = y9 bnd (C9 m q S) := by
    rw [<- G3 m bnd (C9 m q S) hl (by unfold C9; simp)]
    refine Lp.sum_congr fun i hi => ?_
    unfold C9
    rw [a0w hi]; rfl
  rw [e] at h
  exact h
theorem a9W (hn : ∀ j, j < q -> ¬ S.T m j < 0) : ∀ x ∈ C9 m q S, 0 <= x := fun x hx => by
  unfold C9 at hx
  obtain ⟨i, _, rfl⟩ := List.mem_map.mp hx
  exact Lp.Of.valOut_nn (fun j hj => by have := hn j hj; lia) _
theorem a8s {A : Nat -> Nat -> Int} {b c : Nat -> Int} (O : Lp.Of m q A b c S) : ∀ x ∈ m9 m q S, 0 <= x := fun x hx => by
  unfold m9 at hx
  obtain ⟨i, _, rfl⟩ := List.mem_map.mp hx
  exact O.valIn_nn i
theorem a5q : C9 (m + 1) q S = (C9 (m + 1) q S).take m ++ [Lp.valOut (m + 1) q S (q + m)] := by
  unfold C9
  rw [List.range_succ, List.map_append, List.take_left' (by simp)]; rfl
end
end Rim
namespace Rim
open PySem L2 Fr
theorem a9v (a b c xs : List Int) : y9 (a ++ b ++ c) xs = y9 a (xs.take a.length) + y9 b ((xs.drop a.length).take b.length) + y9 c (xs.drop (a.length + b.length)) := by
  rw [a2h (a ++ b) c xs, a2h a b, List.length_append, List.take_take, Nat.min_eq_left (by lia), List.drop_take, Nat.add_sub_cancel_left]
theorem W4 (a b c : List Int) (j : Nat) : (a ++ b ++ c).getD j 0 = if j < a.length then a.getD j 0 else if j < a.length + b.length then b.getD (j - a.length) 0 else c.getD (j - (a.length + b.length)) 0 := by
  rw [A6, List.length_append]
  by_cases h1 : j < a.length
  . rw [if_pos (by lia), if_pos h1, A6, if_pos h1]
  . by_cases h2 : j < a.length + b.length
    . rw [if_pos h2, if_neg h1, if_pos h2, A6, if_neg h1]
    . rw [if_neg h2, if_neg h1, if_neg h2]
abbrev ptA (h : h8) (xs : List Int) : List Int := xs.take h.1.length
abbrev pgA (h : h8) (xs : List Int) : List Int := (xs.drop h.1.length).take h.2.length
abbrev psA (z : Str) (h : h8) (xs : List Int) : Int := y9 (xs.drop (h.1.length + h.2.length)) (P5 z)
theorem a8j {z : Str} {g h : h8} (h1 : g.1.length = h.1.length) (h2 : g.2.length = h.2.length) (xs : List Int) : y9 (w8 z g) xs = Y0 g (pgA h xs) (psA z h xs) - pay g (ptA h xs) := by
  unfold w8 Y0 pay
  rw [a9v, List.length_map, a1O, h1, h2, a0K (P5 z)]
  dsimp only [y9, ptA, pgA, psA]
  lia
theorem a6i {z : Str} {h : h8} (xs : List Int) : y9 (E9 z h) xs = pay h (ptA h xs) := by
  unfold E9 pay
  rw [a9v, X1, X1]
  dsimp only [y9, ptA, pgA, psA]
  lia
theorem a6F {z : Str} {h : h8} (xs : List Int) : y9 (D0 z h) xs = Y0 h (pgA h xs) (psA z h xs) := by
  unfold D0 Y0
  rw [a9v, X1, List.length_replicate, a0K (P5 z)]
  dsimp only [y9, ptA, pgA, psA]
  lia
theorem a7a (rows : List (List Int)) (r : List Int) (j : Nat) : col (rows ++ [r]) j = col rows j ++ [r.getD j 0] := by
  unfold col
  rw [List.map_append]; rfl
theorem a2F {a b : List Int} {x y : Int} (h : a.length = b.length) : y9 (a ++ [x]) (b ++ [y]) = y9 a b + x * y := a2e h
theorem a1r (s : Int) : ∀ (hs : List h8) (ws : List Int), hs.length = ws.length -> y9 (hs.map fun _ => s) ws = s * ws.sum
  | [], [], _ => by simp [y9]
  | _ :: hs, w :: ws, h => by
    have := a1r s hs ws (by simpa using h)
    unfold y9 at *
    rw [List.map_cons, List.zipWith_cons_cons, List.sum_cons, this, List.sum_cons, Int.mul_add]
  | [], _ :: _, h => by simp at h
  | _ :: _, [], h => by simp at h
section
variable {z : Str} {hs : List h8} {h : h8} {kt kg : Nat} (hk : ∀ g ∈ hs, g.1.length = kt /\ g.2.length = kg)
include hk
theorem a5p (ws : List Int) {j : Nat} (hj : j < kt) : y9 (col (hs.map (w8 z)) j) ws = - W7 hs ws 0 j := by
  have e : col (hs.map (w8 z)) j = (col (hs.map (T0 0)) j).map fun y => -y := by
    unfold col
    rw [List.map_map, List.map_map, List.map_map]
    refine List.map_congr_left fun g hg => ?_
    show (w8 z g).getD j 0 = - (T0 0 g).getD j 0
    have := hk g hg
    unfold w8
    rw [W4, List.length_map, if_pos (by lia), a2q]; rfl
  rw [e, a1O]; rfl
theorem a5x (ws : List Int) {j : Nat} (hj : j < kg) : y9 (col (hs.map (w8 z)) (kt + j)) ws = W7 hs ws 1 j := by
  have e : col (hs.map (w8 z)) (kt + j) = col (hs.map (T0 1)) j := by
    unfold col
    rw [List.map_map, List.map_map]
    refine List.map_congr_left fun g hg => ?_
    show (w8 z g).getD (kt + j) 0 = (T0 1 g).getD j 0
    have := hk g hg
    unfold w8
    rw [W4, List.length_map, if_neg (by lia), if_pos (by lia), this.1, Nat.add_sub_cancel_left]; rfl
  rw [e]; rfl
theorem a6s {ws : List Int} (hw : hs.length = ws.length) (t : Nat) : y9 (col (hs.map (w8 z)) (kt + kg + t)) ws = (P5 z).getD t 0 * ws.sum := by
  have e : col (hs.map (w8 z)) (kt + kg + t) = hs.map fun _ => (P5 z).getD t 0 := by
    unfold col
    rw [List.map_map]
    refine List.map_congr_left fun g hg => ?_
    show (w8 z g).getD (kt + kg + t) 0 = _
    have := hk g hg
    unfold w8
    rw [W4, List.length_map, if_neg (by lia), if_neg (by lia), this.1, this.2, Nat.add_sub_cancel_left]
  rw [e, a1r _ _ _ hw]
end
structure b2m (z : Str) (hs : List h8) (h : h8) (S : Lp.Bo) (kt kg : Nat) (ws : List Int) : Prop where
  lw : ws.length = hs.length
  nn : ∀ x ∈ ws, 0 <= x /\ Big 20000 x
  size : a1Y z ws.sum S.d
  takes : ∀ j, j < kt -> W7 hs ws 0 j <= h.1.getD j 0 * S.T (mE hs) (qE z h)
  gives : ∀ j, j < kg -> h.2.getD j 0 * S.d <= W7 hs ws 1 j
  pos : 0 < S.T (mE hs) (qE z h)
  le : h ∈ hs -> S.T (mE hs) (qE z h) <= S.d
  fair : ∀ g ∈ hs, Y0 g (pgA h (m9 (mE hs) (qE z h) S)) (psA z h (m9 (mE hs) (qE z h) S)) <= pay g (ptA h (m9 (mE hs) (qE z h) S))
  pays : pay h (ptA h (m9 (mE hs) (qE z h) S)) = S.d
  earns : Y0 h (pgA h (m9 (mE hs) (qE z h) S)) (psA z h (m9 (mE hs) (qE z h) S)) = S.T (mE hs) (qE z h)
  pr : PrN (ptA h (m9 (mE hs) (qE z h) S)) (pgA h (m9 (mE hs) (qE z h) S)) (psA z h (m9 (mE hs) (qE z h) S)) S.d kt kg
  sign : a0W z (psA z h (m9 (mE hs) (qE z h) S))
theorem a7Z {z : Str} {xs : List Int} (hz : Szw z) (nn : ∀ x ∈ xs, 0 <= x) : a0W z (y9 xs (P5 z)) := by
  rcases hz with rfl | rfl | rfl | rfl
  . have : y9 xs (P5 "any") = 0 := by show (List.zipWith _ xs []).sum = 0; simp
    rw [this]; exact ⟨fun _ => Int.le_refl _, fun _ => Int.le_refl _⟩
  . exact ⟨fun h => absurd h (by decide), fun h => absurd h (by decide)⟩
  . refine ⟨fun _ => ?_, fun h => absurd h (by decide)⟩
    show (List.zipWith _ xs [-1]).sum <= 0
    cases xs with
    | nil => simp
    | cons x r => have := nn x (.head _); simp; lia
  . refine ⟨fun h => absurd h (by decide), fun _ => ?_⟩
    show 0 <= (List.zipWith _ xs [1]).sum
    cases xs with
    | nil => simp
    | cons x r => have := nn x (.head _); simp; lia
theorem a6r {z : Str} {xs : List Int} (h : ∀ x ∈ xs, Big 4000 x) (hl : xs.length <= 200) : Big 5000 (y9 xs (P5 z)) := by
  have : ∀ y ∈ P5 z, Big 100 y := fun y hy => Nat.lt_of_le_of_lt (a1L z y hy) (Nat.pow_lt_pow_right (by decide) (by decide))
  exact (a8t (a5Y h this) (by rw [List.length_zipWith]; lia)).mono (by decide)
theorem a4B {z : Str} {hs : List h8} {h : h8} {S : Lp.Bo} {far : Int} {kt kg : Nat} (hz : Szw z) (B : Best z hs h S) (hG : ∀ g ∈ hs, HG far kt kg g) (gh : HG far kt kg h) (kt1 : 1 <= kt) (kt4 : kt <= 20) (kg4 : kg <= 20) :
    b2m z hs h S kt kg ((C9 (mE hs) (qE z h) S).take hs.length) := by
  obtain ⟨O, hn, sz⟩ := B
  have hk : ∀ g ∈ hs, g.1.length = kt /\ g.2.length = kg := fun g hg => ⟨(hG g hg).lt, (hG g hg).lg⟩
  have sg := a1W z
  generalize hm : mE hs = m at *
  generalize hq : qE z h = q at *
  have hm' : m = hs.length + 1 := hm.symm
  have hq' : q = kt + kg + (P5 z).length := by rw [<- hq]; show h.1.length + h.2.length + _ = _; rw [gh.lt, gh.lg]
  replace O : Lp.Of m q (S9 (y6 z hs h)) (D6 (T7 hs)) (D6 (D0 z h)) S := by rw [hm', <- hq]; exact O
  have lr : (y6 z hs h).length = m := by unfold y6; simp [hm']
  have lrow : ∀ g ∈ hs, (w8 z g).length = q := fun g hg => by unfold w8; simp [(hk g hg).1, (hk g hg).2, hq']; lia
  have lpaid : (E9 z h).length = q := by unfold E9; simp [gh.lt, gh.lg, hq']; lia
  have lgoal : (D0 z h).length = q := by unfold D0; simp [gh.lt, gh.lg, hq']; lia
  have lb : (T7 hs).length = m := by unfold T7; simp [hm']
  have la : (m9 m q S).length = q := by unfold m9; simp
  have lw : (C9 m q S).length = m := by unfold C9; simp
  have hsp : C9 m q S = (C9 m q S).take hs.length ++ [Lp.valOut m q S (q + hs.length)] := by rw [hm']; exact a5q
  generalize hws : (C9 m q S).take hs.length = ws at *
  generalize hwn : Lp.valOut m q S (q + hs.length) = wn at *
  have lws : ws.length = hs.length := by rw [<- hws, List.length_take, lw]; lia
  have wnn : ∀ x ∈ ws, 0 <= x /\ Big 20000 x := fun x hx => by
    have hx' : x ∈ C9 m q S := by rw [hsp]; exact List.mem_append_left _ hx
    refine ⟨a9W hn x hx', ?_⟩
    unfold C9 at hx'
    obtain ⟨k, hk', rfl⟩ := List.mem_map.mp hx'
    exact (a8d O sz (by have := List.mem_range.mp hk'; lia)).mono (by decide)
  have pos := O.w.pos
  -- the bounds
  have eT : wn = S.T m q := by
    have := a8k O lb
    rw [hsp] at this
    unfold T7 at this
    rw [a2F (by rw [List.length_replicate]; exact lws.symm), X1] at this
    lia
  -- columns
  have colA : ∀ j, y9 (col (y6 z hs h) j) (C9 m q S) = y9 (col (hs.map (w8 z)) j) ws + (E9 z h).getD j 0 * wn := fun j => by
    rw [hsp]
    unfold y6
    rw [a7a, a2F (by unfold col; rw [List.length_map, List.length_map, lws])]
  have tk : ∀ j, j < kt -> W7 hs ws 0 j <= h.1.getD j 0 * wn := fun j hj => by
    have := a1R O hn lr (j := j) (by lia)
    rw [colA, a5p hk ws hj] at this
    unfold D0 E9 at this
    rw [W4, W4, List.length_replicate, if_pos (by rw [gh.lt]; lia), if_pos (by rw [gh.lt]; lia), P8] at this
    lia
  have gv : ∀ j, j < kg -> h.2.getD j 0 * S.d <= W7 hs ws 1 j := fun j hj => by
    have := a1R O hn lr (j := kt + j) (by lia)
    rw [colA, a5x hk ws hj] at this
    unfold D0 E9 at this
    rw [W4, W4, List.length_replicate, List.length_replicate, gh.lt, gh.lg, if_neg (by lia), if_pos (by lia), if_neg (by lia), if_pos (by lia), Nat.add_sub_cancel_left, P8] at this
    lia
  have szc : ∀ t, t < (P5 z).length -> (P5 z).getD t 0 * S.d <= (P5 z).getD t 0 * ws.sum := fun t ht => by
    have := a1R O hn lr (j := kt + kg + t) (by lia)
    rw [colA, a6s hk lws.symm t] at this
    unfold D0 E9 at this
    rw [W4, W4, List.length_replicate, List.length_replicate, gh.lt, gh.lg, if_neg (by lia), if_neg (by lia), if_neg (by lia), if_neg (by lia), Nat.add_sub_cancel_left, P8] at this
    lia
  have size : a1Y z ws.sum S.d := by
    rcases hz with rfl | rfl | rfl | rfl
    . exact ⟨fun h => absurd h (by decide), fun h => absurd h (by decide)⟩
    . have s0 : (1 : Int) * S.d <= 1 * ws.sum := szc 0 (by decide)
      have s1 : (-1 : Int) * S.d <= -1 * ws.sum := szc 1 (by decide)
      exact ⟨fun _ => by lia, fun _ => by lia⟩
    . have s1 : (-1 : Int) * S.d <= -1 * ws.sum := szc 0 (by decide)
      exact ⟨fun _ => by lia, fun h => absurd h (by decide)⟩
    . have s0 : (1 : Int) * S.d <= 1 * ws.sum := szc 0 (by decide)
      exact ⟨fun h => absurd h (by decide), fun _ => by lia⟩
  -- some weight
  have posT : 0 < wn := by
    obtain ⟨y, hy, y0⟩ := gh.p
    obtain ⟨j, hj⟩ := List.getElem?_of_mem hy
    have hjl : j < kg := by have := (List.getElem?_eq_some_iff.mp hj).1; rw [gh.lg] at this; exact this
    have yD : h.2.getD j 0 = y := by rw [List.getD_eq_getElem?_getD, hj]; rfl
    have g1 := gv j hjl
    rw [yD] at g1
    have g2 : 0 < W7 hs ws 1 j := Int.lt_of_lt_of_le (Int.mul_pos y0 pos) g1
    have nnc : ∀ x ∈ col (hs.map (T0 1)) j, 0 <= x := fun x hx => by
      unfold col at hx
      obtain ⟨r, hr, rfl⟩ := List.mem_map.mp hx
      obtain ⟨g, hg, rfl⟩ := List.mem_map.mp hr
      have hg' := hG g hg
      have hl : j < (T0 1 g).length := by show j < g.2.length; rw [hg'.lg]; exact hjl
      rw [List.getD_eq_getElem?_getD, List.getElem?_eq_getElem hl]
      exact (hg'.g _ (List.getElem_mem hl)).1
    obtain ⟨k, hk1, hk2⟩ := a0M nnc (fun x hx => (wnn x hx).1) g2
    have pc : ∀ x ∈ col (hs.map (T0 0)) 0, 0 < x := fun x hx => by
      unfold col at hx
      obtain ⟨r, hr, rfl⟩ := List.mem_map.mp hx
      obtain ⟨g, hg, rfl⟩ := List.mem_map.mp hr
      have hg' := hG g hg
      have hl : 0 < (T0 0 g).length := by show 0 < g.1.length; rw [hg'.lt]; lia
      rw [List.getD_eq_getElem?_getD, List.getElem?_eq_getElem hl]
      have := (hg'.t _ (List.getElem_mem hl)).1
      show 0 < (T0 0 g)[0]
      lia
    have g3 : 0 < W7 hs ws 0 0 := a0S pc (fun x hx => (wnn x hx).1) (by unfold col; rw [List.length_map, List.length_map, lws]) ⟨k, hk1, hk2⟩
    have g4 := tk 0 (by lia)
    have hl : 0 < h.1.length := by rw [gh.lt]; lia
    have h0 : 1 <= h.1.getD 0 0 := by
      rw [List.getD_eq_getElem?_getD, List.getElem?_eq_getElem hl]
      exact (gh.t _ (List.getElem_mem hl)).1
    have g5 : 0 < h.1.getD 0 0 * wn := Int.lt_of_lt_of_le g3 g4
    by_cases hw : 0 < wn
    . exact hw
    . have := Int.mul_nonneg (show 0 <= h.1.getD 0 0 by lia) (show 0 <= -wn by lia)
      rw [Int.mul_neg] at this
      lia
  -- prices
  have fair : ∀ g ∈ hs, Y0 g (pgA h (m9 m q S)) (psA z h (m9 m q S)) <= pay g (ptA h (m9 m q S)) := fun g hg => by
    obtain ⟨k, hk'⟩ := List.getElem?_of_mem hg
    have hkl := (List.getElem?_eq_some_iff.mp hk').1
    have hr : (y6 z hs h)[k]? = some (w8 z g) := by
      unfold y6
      rw [List.getElem?_append_left (by rw [List.length_map]; exact hkl), List.getElem?_map, hk']; rfl
    have := a7P O (i := k) (by lia) hr (lrow g hg)
    rw [a8j (h := h) (by rw [(hk g hg).1, gh.lt]) (by rw [(hk g hg).2, gh.lg])] at this
    unfold T7 at this
    rw [A6, List.length_replicate, if_pos hkl, P8, Int.zero_mul] at this
    lia
  have hr : (y6 z hs h)[hs.length]? = some (E9 z h) := by
    unfold y6
    rw [List.getElem?_append_right (by rw [List.length_map]; exact Nat.le_refl _), List.length_map, Nat.sub_self]; rfl
  have pays : pay h (ptA h (m9 m q S)) = S.d := by
    have := a3e O hn (i := hs.length) (by lia) hr lpaid (by rw [hwn]; exact posT)
    rw [a6i] at this
    unfold T7 at this
    rw [A6, List.length_replicate, if_neg (by lia), Nat.sub_self] at this
    rw [this]
    exact Int.one_mul _
  have earns : Y0 h (pgA h (m9 m q S)) (psA z h (m9 m q S)) = S.T m q := by rw [<- a6F]; exact a6o O lgoal
  have anb : ∀ x ∈ m9 m q S, 0 <= x /\ Big 4000 x := fun x hx => by
    refine ⟨a8s O x hx, ?_⟩
    unfold m9 at hx
    obtain ⟨k, hk', rfl⟩ := List.mem_map.mp hx
    exact a8p O sz (List.mem_range.mp hk')
  have d4 : S.d < 2 ^ 4000 := by
    have h1 : S.d.natAbs < 2 ^ 4000 := sz.2
    have h3 : S.d = (S.d.natAbs : Int) := by lia
    rw [h3]
    exact_mod_cast h1
  refine ⟨lws, wnn, size, fun j hj => ?_, gv, ?_, ?_, ?_, ?_, ?_, ?_, ?_⟩
  . rw [hm, hq, <- eT]; exact tk j hj
  . rw [hm, hq, <- eT]; exact posT
  . intro hin; rw [hm, hq, <- earns, <- pays]; exact fair h hin
  . rw [hm, hq]; exact fair
  . rw [hm, hq]; exact pays
  . rw [hm, hq]; exact earns
  . rw [hm, hq]
    refine ⟨?_, ?_, fun x hx => ?_, fun x hx => ?_, ?_, pos, d4⟩
    . rw [List.length_take, la, gh.lt]; lia
    . rw [List.length_take, List.length_drop, la, gh.lt, gh.lg]; lia
    . have := anb x (List.mem_of_mem_take hx)
      exact ⟨this.1, this.2.mono (by decide)⟩
    . have := anb x (List.mem_of_mem_drop (List.mem_of_mem_take hx))
      exact ⟨this.1, this.2.mono (by decide)⟩
    . exact a6r (fun x hx => (anb x (List.mem_of_mem_drop hx)).2) (by rw [List.length_drop, la]; lia)
  . rw [hm, hq]
    exact a7Z hz fun x hx => (anb x (List.mem_of_mem_drop hx)).1
end Rim
namespace L2
open PySem PySem.Spec PyProof.Rows
theorem a5h {P : Program} {w : World} {K : W.Frag} {mg mb : Str -> Option Value} {CX : CXT} {k : Nat} {fa a : Addr} {fd : FuncData} {x : Str} {sp : Sp} {s₁ : Shared} {vs : List Value} {ns : List Int} {Ps : List Addr}
    (KX : K.In s₁.heap) (hns : s₁.heap.Ns mainGlobals mg) (hb : s₁.heap.Ns builtinsNs mb) (hbb : ∀ x : Str, x ≠ "__name__" -> mb x = bootBuiltins x) (hlim : s₁.heap.NoLimit) (hg : s₁.gens = #[])
    (ha : s₁.heap.get? a = some { cls := .type "list", data := .seq vs.toArray }) (hi : IntsAre vs ns) (hl : ns.length <= sizeLine) (hr : Room k callerA)
    (hT : ∀ p ∈ Ps, ∃ c, s₁.heap.TableAt c p #[]) (hKP : ∀ p ∈ Ps, K.lookup p = none) (BM : O6 mg s₁.heap)
    (F : ∀ base : Heap, K.In base -> base.Ns mainGlobals mg -> O6 mg base -> FnOk P w K mg base CX k fa fd [x] sp) (hbind : ∀ (s : Shared) (u : Value), BindsTo s fd ⟨[u], []⟩ [(x, u)])
    (hsp : ∀ H : Hp, (∀ p ∈ Ps, H p = some (.tbl #[])) -> SqL K H a (ns.map V.int) -> sp [.ref a] H (fun v _ => v = .bl true) fun _ _ _ => False)
    (hCX : ∀ H e s', CX [] H s₁ (fun _ _ _ => False) e s' -> False) :
    codeAny (model P w) callerA (.call (.ref fa) ⟨[.ref a], []⟩) (fun r s' => r = .ok (.ret (.bool true)) /\ OldK s₁.heap s'.heap /\ s'.os = s₁.os /\ AllBare s'.gens) s₁ := by
  have rv := a1l hi
  have lenV := hi.length
  have tabObj : ∀ p ∈ Ps, s₁.heap.get? p = some { cls := .none, data := .fields #[] } := fun p hp => by
    obtain ⟨c, z⟩ := hT p hp
    exact z.2
  have core : ∀ H : Hp, (∀ b, H b = none \/ (∃ o xs, H b = some (.frz o (.lst xs))) \/ (b ∈ Ps /\ H b = some (.tbl #[]))) -> (∀ p ∈ Ps, H p = some (.tbl #[])) -> SqL K H a (ns.map V.int) -> HOk P w H s₁.heap -> (∀ b, H b ≠ none -> b = a \/ b ∈ Ps) -> (H a ≠ none -> K.lookup a = none) →
      codeAny (model P w) callerA (.call (.ref fa) ⟨[.ref a], []⟩) (fun r s' => r = .ok (.ret (.bool true)) /\ OldK s₁.heap s'.heap /\ s'.os = s₁.os /\ AllBare s'.gens) s₁ := by
    intro H hO hP hS hok hA hK
    have base_of : ∀ {b : Addr} {o : Obj}, s₁.heap.get? b = some o -> H b = none -> (a1j s₁.heap H).get? b = some o := fun e n => a6l e n
    have noA : ∀ {b : Addr} {o : Obj} {es : Array DictEntry} {ep : Nat}, s₁.heap.get? b = some o -> o.data = .dict es ep -> H b = none := fun {b o es ep} e d => by
      cases q : H b with
      | none => rfl
      | some u =>
        rcases hA b (by rw [q]; simp) with e' | e'
        . subst e'
          rw [ha] at e; cases e
          have d' : Data.seq vs.toArray _ = Data.dict es ep := d
          cases d'
        . rw [tabObj b e'] at e; cases e
          have d' : Data.fields #[] = Data.dict es ep := d
          cases d'
    have nsK : ∀ {b : Addr} {m : Str -> Option Value}, s₁.heap.Ns b m -> (a1j s₁.heap H).Ns b m := fun {b m} ⟨o, es, ep, e, d, r⟩ => ⟨o, es, ep, base_of e (noA e d), d, r⟩
    have hKb : K.In (a1j s₁.heap H) := fun b o e => base_of (KX b o e) (by
      cases q : H b with
      | none => rfl
      | some u =>
        rcases hA b (by rw [q]; simp) with e' | e'
        . subst e'
          rw [hK (by rw [q]; simp)] at e; cases e
        . rw [hKP b e'] at e; cases e)
    have hM : Mod K mg (a1j s₁.heap H) := ⟨hKb, nsK hns, ⟨mb, nsK hb, hbb⟩, let ⟨mc, h1, h2⟩ := hlim; ⟨mc, nsK h1, h2⟩⟩
    have BM' : O6 mg (a1j s₁.heap H) := by
      obtain ⟨bm, ob, b1, b2, b3, b4, b5, b6⟩ := BM
      refine ⟨bm, ob, b1, b2, base_of b3 ?_, b4, b5, b6⟩
      cases q : H bm with
      | none => rfl
      | some u =>
        rcases hA bm (by rw [q]; simp) with e' | e'
        . subst e'
          rw [ha] at b3; cases b3; exact absurd b4 (by intro z; injection z with z; exact absurd z (by decide))
        . rw [tabObj bm e'] at b3; cases b3; cases b4
    have e0 : Env0 P w K mg (a1j s₁.heap H) callerA [] s₁ H := ⟨rfl, hM, fun b o e => a8D e, Nat.le_of_eq (a4Y _ _), trivial, fun b hb => absurd (show b ∈ ([] : List Addr) from hb) (by simp), hok, .of_eq hg⟩
    refine codeAny_mono ((F _ hKb (nsK hns) BM').run callerA [] s₁ H ⟨[.ref a], []⟩ [.ref a] [.ref a] _ _ hr e0 (hbind s₁ (.ref a)) (.cons rfl .nil) (hsp H hP hS)) fun r s' h => ?_
    cases r with
    | error e => exact (hCX H e s' h).elim
    | ok fl =>
      cases fl with
      | next => exact False.elim h
      | brk => exact False.elim h
      | cont => exact False.elim h
      | ret u =>
        obtain ⟨v, H', os, bare, un, hok', r', q⟩ := h
        have q' : v = .bl true := q
        subst q'
        obtain rfl : u = Value.bool true := r'
        refine ⟨rfl, ⟨fun b o e => ?_, fun b o e => un.there b o e (by simp)⟩, os, bare⟩
        rcases hO b with q | ⟨ob, xs, z⟩ | ⟨hbP, z⟩
        . exact .inl (un.keep b o e q (by intro z; exact absurd (show b ∈ ([] : List Addr) from z) (by simp)) (by simp))
        . have z2 := un.frzs b ob _ z
          obtain ⟨e1, _⟩ := hok b _ z
          obtain ⟨e2, _⟩ := hok' b _ z2
          rw [e] at e1; cases e1
          exact .inl e2
        . obtain ⟨more, z2⟩ := un.tbls b _ z
          have e2 : s'.heap.get? b = some { cls := .none, data := .fields (#[] ++ more) } := hok' b _ z2
          rw [tabObj b hbP] at e; cases e
          obtain ⟨c, ht⟩ := hT b hbP
          exact .inr (.inl ⟨ht.isCodeTable, rfl, #[], more, rfl, e2⟩)
  have aP : a ∉ Ps := fun z => by
    have := tabObj a z
    rw [ha] at this; cases this
  cases hk : K.lookup a with
  | some o =>
    have e := KX a o hk
    rw [ha] at e
    cases e
    refine core (fun b => if b ∈ Ps then some (.tbl #[]) else none) (fun b => ?_) (fun p hp => if_pos hp) (.inr ⟨_, vs.toArray, _, hk, rfl, rfl, rfl, by rw [List.size_toArray, lenV]; exact hl, by simpa using rv⟩) (fun b u z => ?_) (fun b z => ?_) fun z => absurd (if_neg aP) z
    . by_cases hb : b ∈ Ps
      . exact .inr (.inr ⟨hb, if_pos hb⟩)
      . exact .inl (if_neg hb)
    . by_cases hb : b ∈ Ps
      . have z' := (if_pos hb).symm.trans z
        cases z'
        exact tabObj b hb
      . have z' := (if_neg hb).symm.trans z
        cases z'
    . by_cases hb : b ∈ Ps
      . exact .inr hb
      . exact absurd (if_neg hb) z
  | none =>
    refine core (fun b => if b = a then some (.frz { cls := .type "list", data := .seq vs.toArray } (.lst (ns.map V.int))) else if b ∈ Ps then some (.tbl #[]) else none) (fun b => ?_) (fun p hp => ?_) (.inl (.inr ⟨{ cls := .type "list", data := .seq vs.toArray }, if_pos rfl⟩)) (fun b u z => ?_) (fun b z => ?_) fun _ => hk
    . by_cases hb : b = a
      . exact .inr (.inl ⟨_, _, if_pos hb⟩)
      . by_cases hb2 : b ∈ Ps
        . exact .inr (.inr ⟨hb2, (if_neg hb).trans (if_pos hb2)⟩)
        . exact .inl ((if_neg hb).trans (if_neg hb2))
    . have hb : p ≠ a := fun z => aP (z ▸ hp)
      exact (if_neg hb).trans (if_pos hp)
    . by_cases hb : b = a
      . have z' := (if_pos hb).symm.trans z
        cases z'
        subst hb
        exact ⟨ha, by rw [List.length_map]; exact hl, vs, _, rv, ha⟩
      . by_cases hb2 : b ∈ Ps
        . have z' := ((if_neg hb).trans (if_pos hb2)).symm.trans z
          cases z'
          exact tabObj b hb2
        . have z' := ((if_neg hb).trans (if_neg hb2)).symm.trans z
          cases z'
    . by_cases hb : b = a
      . exact .inl hb
      . by_cases hb2 : b ∈ Ps
        . exact .inr hb2
        . exact absurd ((if_neg hb).trans (if_neg hb2)) z
theorem walk_ofT {l : W.OpenLaw} {n k : Nat} {q : Program} {loose : List Str} {XP : (Str -> Option Value) -> Heap -> Prop} {YP : World -> Heap -> Prop} {d : DefRec} {K : Params -> W.Frag} {CX : World -> CXT} {sp : World -> Sp} {x : Str} {Ts : List (Addr × Addr)}
    (hn : l.most = some n) (hn2 : n <= sizeLine) (hdf : d.params.defaults = []) (hr : Room k callerA)
    (hY : ∀ (w : World) (h : Heap), YP w h -> (K w.params).In h /\ ∀ t ∈ Ts, h.get? t.2 = some (W.tabObj #[]))
    (hC : ∀ (w : World), ∀ t ∈ Ts, W.codeHdIn (K w.params) t.1 t.2 = true /\ (K w.params).lookup t.2 = none)
    (F : ∀ (w : World) (mg : Str -> Option Value) (fa : Addr) (h : Heap), (K w.params).In h -> h.Ns mainGlobals mg -> mg d.name = some (.ref fa) →
      ∃ fd : FuncData, (∀ (s : Shared) (u : Value), BindsTo s fd ⟨[u], []⟩ [(x, u)]) ∧
        ∀ base : Heap, (K w.params).In base -> base.Ns mainGlobals mg -> O6 mg base -> (∀ t ∈ Ts, W.CodeHd base t.1 t.2) -> FnOk l.prog w (K w.params) mg base (CX w) k fa fd [x] (sp w))
    (hsp : ∀ (w : World) (H : Hp) (a : Addr) (ns : List Int), ns.length <= n -> (∀ t ∈ Ts, H t.2 = some (.tbl #[])) -> SqL (K w.params) H a (ns.map V.int) -> sp w [.ref a] H (fun v _ => v = .bl true) fun _ _ _ => False)
    (hCX : ∀ (w : World) (H : Hp) (s : Shared) (e : Value) (s' : Shared), CX w [] H s (fun _ _ _ => False) e s' -> False) :
    W.WalkO q loose XP YP l.row.toRowW d [] (fun f vs => PySem.call f vs) := by
  refine Att.attach_call hn hdf fun w s₀ s₁ mg mb fa o pm cd doc a vs ns G Y ho hd hcd hmg hobj hints hlen hg => ?_
  obtain ⟨KX, hTb⟩ := hY w _ Y
  obtain ⟨fd, hb, hF⟩ := F w mg fa _ KX G.T.g hmg
  have mem : ∀ p ∈ Ts.map (·.2), ∃ t ∈ Ts, t.2 = p := fun p hp => by
    obtain ⟨t, h1, h2⟩ := List.mem_map.mp hp
    exact ⟨t, h1, h2⟩
  refine a5h (Ps := Ts.map (·.2)) KX G.T.g G.T.b G.T.builtins G.T.nolimit hg hobj hints (Nat.le_trans hlen hn2) hr (fun p hp => ?_) (fun p hp => ?_) G.T.bmain (fun base kb nb bm => hF base kb nb bm fun t ht => W.codeHd_of_K kb (hC w t ht).1) hb (fun H hP hS => hsp w H a ns hlen (fun t ht => hP _ (List.mem_map_of_mem ht)) hS) fun H e s' => hCX w H s₁ e s'
  . obtain ⟨t, h1, rfl⟩ := mem p hp
    exact ⟨t.1, (W.codeHd_of_K KX (hC w t h1).1).tab (hTb t h1)⟩
  . obtain ⟨t, h1, rfl⟩ := mem p hp
    exact (hC w t h1).2
end L2
namespace L2
open PySem
theorem a1M {X : Cx} {P : Program} {w : World} : N6 (P1 P w) X E0 := fun _ _ _ _ _ _ _ ⟨_, _, _, _, _, _, _, h⟩ => h.elim
end L2
namespace L2
open PySem
theorem Same.to1 {P : Addr} {H H' : Hp} (e : Same H H') : Same1 P H H' := fun b o _ h => e b o h
theorem Same1.trans {P : Addr} {H H1 H2 : Hp} (a : Same1 P H H1) (b : Same1 P H1 H2) : Same1 P H H2 := fun c o n h => b c o n (a c o n h)
theorem Same1.write {P a : Addr} {H H' : Hp} {o : HO} (e : Same1 P H H') (h : H a = none) : Same1 P H (j9 H' a o) := fun b u n q => by
  rw [c9 (d0 q h)]; exact e b u n q
theorem Same1.get {P : Addr} {pos : Pos} {qual : Str} {H H' : Hp} {b : Addr} {o : HO} (T : LamTab P pos qual H) (e : Same1 P H H') (h : H b = some o) (n : ∀ ps, o ≠ .tbl ps) : H' b = some o := e b o (fun z => by
  subst z
  rcases T with t | ⟨c, t, _⟩
  . rw [h] at t; exact n _ (Option.some.inj t)
  . rw [h] at t; exact n _ (Option.some.inj t)) h
theorem LamTab.write {P a : Addr} {pos : Pos} {qual : Str} {H : Hp} {xs : List V} {o : HO} (T : LamTab P pos qual H) (h : H a = some (.lst xs)) : LamTab P pos qual (j9 H a o) := by
  rcases T with e | ⟨c, e1, e2⟩
  . exact .inl (by rw [c9 (fun z => by rw [z, h] at e; cases e)]; exact e)
  . exact .inr ⟨c, by rw [c9 (fun z => by rw [z, h] at e1; cases e1)]; exact e1, by rw [c9 (fun z => by rw [z, h] at e2; cases e2)]; exact e2⟩
end L2
namespace Rim
open PySem L2 Fr
theorem T6 : ∀ ns : List Int, PyData.depthAll (ns.map PyData.int) <= 3
  | [] => by simp [PyData.depthAll]
  | n :: r => by
    rw [List.map_cons, PyData.depthAll]
    exact Nat.max_le.mpr ⟨by simp [PyData.depth], T6 r⟩
theorem a2K (h : h8) : (w4 h).depth <= 8 := by
  unfold w4 a3P
  have h1 := T6 h.1
  have h2 := T6 h.2
  rw [PyData.depth, PyData.depthAll, PyData.depth, PyData.depthAll, PyData.depth, PyData.depthAll]
  lia
theorem M7 : ∀ hs : List h8, PyData.depthAll (hs.map w4) <= 8
  | [] => by simp [PyData.depthAll]
  | h :: r => by
    rw [List.map_cons, PyData.depthAll]
    exact Nat.max_le.mpr ⟨a2K h, M7 r⟩
theorem N3 {j : Nat} (h : j <= 1000) : ((j : Int)).natAbs.log2 < 1920 := by
  rw [Int.natAbs_natCast]
  by_cases h0 : j = 0
  . subst h0; decide
  . exact Nat.lt_trans ((Nat.log2_lt h0).mpr (Nat.lt_of_le_of_lt h (show 1000 < 2 ^ 10 by decide))) (by decide)
end Rim
namespace Rim
open PySem L2 Fr
section
variable {P : Program} {w : World} {K : W.Frag} {mg : Str -> Option Value} {base : Heap} {f Pt d : Addr} {fd : FuncData} {n : Nat} {C : Addr}
end
end Rim
namespace Rim
open PySem L2 Fr
section
variable {P : Program} {w : World} {K : W.Frag} {mg : Str -> Option Value} {base : Heap} {f Pt d : Addr} {fd : FuncData} {n : Nat} {C : Addr}
end
end Rim
namespace Rim
open PySem L2 Fr
structure b2K (z : Str) (hs : List h8) (h : h8) (S : Lp.Bo) (kt kg : Nat) (ws : List Int) : Prop where
  lw : ws.length = hs.length
  nn : ∀ x ∈ ws, 0 <= x /\ Big 20000 x
  size : a1Y z ws.sum (S.T (mE hs) (qE z h))
  takes : ∀ j, j < kt -> W7 hs ws 0 j <= h.1.getD j 0 * S.T (mE hs) (qE z h)
  gives : ∀ j, j < kg -> h.2.getD j 0 * S.d <= W7 hs ws 1 j
  pos : 0 < S.T (mE hs) (qE z h)
  le : S.T (mE hs) (qE z h) <= S.d
  fair : ∀ g ∈ hs, Y0 g (pgA h (m9 (mE hs) (qE z h) S)) (psA z h (m9 (mE hs) (qE z h) S)) <= pay g (ptA h (m9 (mE hs) (qE z h) S))
  pays : pay h (ptA h (m9 (mE hs) (qE z h) S)) - psA z h (m9 (mE hs) (qE z h) S) = S.d
  gvs : y9 h.2 (pgA h (m9 (mE hs) (qE z h) S)) = S.T (mE hs) (qE z h)
  pr : PrN (ptA h (m9 (mE hs) (qE z h) S)) (pgA h (m9 (mE hs) (qE z h) S)) (psA z h (m9 (mE hs) (qE z h) S)) (S.T (mE hs) (qE z h)) kt kg
  sign : a0W z (psA z h (m9 (mE hs) (qE z h) S))
end Rim
namespace Rim
open PySem L2 Fr
section
variable {P : Program} {w : World} {K : W.Frag} {mg : Str -> Option Value} {base : Heap} {f Pt d CN : Addr} {fd : FuncData} {n : Nat} {C : Addr}
end
end Rim
namespace Lp
section
variable {m q : Nat} {A : Nat -> Nat -> Int} {b c : Nat -> Int} {S : Bo}
end
end Lp
namespace Rim
open PySem L2 Fr
section
variable {P : Program} {w : World} {K : W.Frag} {mg : Str -> Option Value} {base : Heap} {f Pt d : Addr} {fd : FuncData} {n : Nat} {C : Addr}
end
end Rim
namespace Rim
open PySem L2 Fr
section
variable {P : Program} {w : World} {K : W.Frag} {mg : Str -> Option Value} {base : Heap} {f Pt d : Addr} {fd : FuncData} {n : Nat} {C : Addr}
end
end Rim
namespace Rim
open PySem L2 Fr
structure b2I (z : Str) (hs : List h8) (h : h8) (pt pg : List Int) (ps : Int) : Prop where
  lt : pt.length = h.1.length
  lg : pg.length = h.2.length
  tp : ∀ x ∈ pt, 0 < x
  gp : ∀ x ∈ pg, 0 < x
  sign : a0W z ps
  fair : ∀ g ∈ hs, Y0 g pg ps <= pay g pt
  firm : Y0 h pg ps = pay h pt
section
variable {z : Str} {hs : List h8} {h : h8} {S : Lp.Bo} {kt kg i : Nat}
end
end Rim
namespace L2
open PySem
section
variable {fr : List Nat} {tc : TT} {σ : St} {H1 : Hp} {p : Addr} {D : Hp -> Prop} {P : Addr} {pos : Pos} {qual : Str} {n : Nat}
end
end L2
namespace Rim
open PySem L2 Fr
open Classical in
section
variable {P : Program} {w : World} {K : W.Frag} {mg : Str -> Option Value} {base : Heap} {f Pt d : Addr} {fd : FuncData} {n : Nat} {C : Addr}
end
end Rim
namespace Rim
open PySem L2 Fr
structure Mx (z : Str) (hs : List h8) (ws : List Int) (D : Int) : Prop where
  lw : ws.length = hs.length
  nn : ∀ x ∈ ws, 0 <= x
  d : 0 < D
  size : a1Y z ws.sum D
structure Px (z : Str) (hs : List h8) (kt kg : Nat) (pt pg : List Int) (ps : Int) : Prop where
  lt : pt.length = kt
  lg : pg.length = kg
  tn : ∀ x ∈ pt, 0 <= x
  gn : ∀ x ∈ pg, 0 <= x
  sign : a0W z ps
  fair : ∀ g ∈ hs, Y0 g pg ps <= pay g pt
section
variable {z : Str} {hs : List h8} {h : h8} {kt kg : Nat} {ws pt pg : List Int} {D ps : Int}
structure Shr (z : Str) (hs : List h8) (h : h8) (kt kg : Nat) (A B : Int) (ws : List Int) (D : Int) : Prop where
  m : Mx z hs ws D
  t : ∀ j, j < kt -> W7 hs ws 0 j * B <= h.1.getD j 0 * A * D
  g : ∀ j, j < kg -> h.2.getD j 0 * D <= W7 hs ws 1 j
structure Gro (z : Str) (hs : List h8) (h : h8) (kt kg : Nat) (A B : Int) (ws : List Int) (D : Int) : Prop where
  m : Mx z hs ws D
  t : ∀ j, j < kt -> W7 hs ws 0 j <= h.1.getD j 0 * D
  g : ∀ j, j < kg -> h.2.getD j 0 * A * D <= W7 hs ws 1 j * B
def a4u (z : Str) (hs : List h8) (h : h8) (kt kg : Nat) (A B : Int) : Prop := 0 < B /\ (∃ ws D, Shr z hs h kt kg A B ws D) /\ ∃ pt pg ps, Px z hs kt kg pt pg ps /\ 0 < pay h pt /\ Y0 h pg ps * B = A * pay h pt
theorem Best.is {S : Lp.Bo} {far : Int} (hz : Szw z) (B : Best z hs h S) (hG : ∀ g ∈ hs, HG far kt kg g) (gh : HG far kt kg h) (kt1 : 1 <= kt) (kt4 : kt <= 20) (kg4 : kg <= 20) : a4u z hs h kt kg (S.T (mE hs) (qE z h)) S.d := by
  have T := a4B hz B hG gh kt1 kt4 kg4
  have dp := B.1.w.pos
  refine ⟨dp, ⟨_, _, ⟨T.lw, fun x hx => (T.nn x hx).1, dp, T.size⟩, fun j hj => ?_, T.gives⟩, _, _, _, ⟨T.pr.lt, T.pr.lg, fun x hx => (T.pr.bt x hx).1, fun x hx => (T.pr.bg x hx).1, T.sign, T.fair⟩, by rw [T.pays]; exact dp, by rw [T.pays, T.earns]⟩
  exact Int.mul_le_mul_of_nonneg_right (T.takes j hj) (Int.le_of_lt dp)
end
end Rim
namespace Rim
open PySem L2 Fr
section
variable {z : Str} {hs : List h8} {h : h8} {kt kg i : Nat}
end
end Rim
namespace Rim
open PySem L2 Fr
section
variable {z : Str} {hs hs' : List h8} {h : h8} {kt kg : Nat} {far : Int}
end
end Rim
namespace Rim
open PySem L2 Fr
theorem E1 {X : Cx} {l : List Stmt} : PSs X l fun _ _ _ => False := fun _ _ _ _ _ _ h => h.elim
structure ShU (z : Str) (hs : List h8) (h : h8) (kt kg : Nat) (A B : Int) : Prop where
  s : a4u z hs h kt kg A B
  a : Big 20000 A
  p : 0 < A
  b : 0 < B
  c : B < 2 ^ 8000
theorem Best.u {z : Str} {hs : List h8} {h : h8} {kt kg : Nat} {S : Lp.Bo} {far : Int} (hz : Szw z) (B : Best z hs h S) (hG : ∀ g ∈ hs, HG far kt kg g) (gh : HG far kt kg h) (kt1 : 1 <= kt) (kt4 : kt <= 20) (kg4 : kg <= 20) : ShU z hs h kt kg (S.T (mE hs) (qE z h)) S.d := by
  have T := a4B hz B hG gh kt1 kt4 kg4
  obtain ⟨b1, b2⟩ := a4y B
  exact ⟨B.is hz hG gh kt1 kt4 kg4, (B.2.2.1 _ _ (by omega) (by omega)).mono (by decide), T.pos, b1, b2⟩
def P0 {α : Type} (l : List α) (i : Nat) : List α := l.take i ++ l.drop (i + 1)
theorem a2o {α : Type} {l : List α} {i : Nat} {g : α} (h : g ∈ P0 l i) : g ∈ l := by
  rcases List.mem_append.mp h with h | h
  . exact List.mem_of_mem_take h
  . exact List.mem_of_mem_drop h
theorem a0I {α : Type} {l : List α} {i : Nat} : (P0 l i).length <= l.length := by unfold P0; simp; omega
theorem Paired.take {α β : Type} {F : α -> β -> Prop} : ∀ {l₁ : List α} {l₂ : List β} (i : Nat), PySem.Paired F l₁ l₂ -> PySem.Paired F (l₁.take i) (l₂.take i)
  | _, _, 0, _ => .nil
  | _, _, _ + 1, .nil => .nil
  | _, _, i + 1, .cons r t => .cons r (Paired.take i t)
theorem Paired.drop {α β : Type} {F : α -> β -> Prop} : ∀ {l₁ : List α} {l₂ : List β} (i : Nat), PySem.Paired F l₁ l₂ -> PySem.Paired F (l₁.drop i) (l₂.drop i)
  | _, _, 0, h => h
  | _, _, _ + 1, .nil => .nil
  | _, _, i + 1, .cons _ t => Paired.drop i t
theorem Paired.app {α β : Type} {F : α -> β -> Prop} : ∀ {l₁ m₁ : List α} {l₂ m₂ : List β}, PySem.Paired F l₁ l₂ -> PySem.Paired F m₁ m₂ -> PySem.Paired F (l₁ ++ m₁) (l₂ ++ m₂)
  | _, _, _, _, .nil, h => h
  | _, _, _, _, .cons r t, h => .cons r (Paired.app t h)
theorem Bk.out {K : W.Frag} {H : Hp} {xs : List V} {hs : List h8} (i : Nat) (B : Bk K H xs hs) : Bk K H (P0 xs i) (P0 hs i) := Paired.app (Paired.take i B) (Paired.drop (i + 1) B)
section
variable {P : Program} {w : World} {K : W.Frag} {mg : Str -> Option Value} {base : Heap} {f Pt d CN CB : Addr} {fd : FuncData} {n : Nat} {C : Addr}
def a6L (K : W.Frag) (CN Pt : Addr) : Sp := fun vs H Q E => ∃ (ba : Addr) (xs : List V) (hs : List h8) (number : Int) (z : Str) (far : Int) (kt kg : Nat), vs = [.ref ba, .int number, .str z] /\ Szw z /\ a1Q K H ba xs hs far kt kg /\ 1 <= kt /\ number.natAbs.log2 < 1920 /\ LT Pt H ∧
  (∀ (i : Nat) (h : h8) (A B : Int) (H' : Hp) (u : V), number = (i : Int) -> hs[i]? = some h -> ShU z hs h kt kg A B -> Same1 Pt H H' -> LT Pt H' -> FrT H' u (low A B) -> Q u H') /\ (¬ a1i xs.length number -> E (.ref CN) none H)
theorem a5u (F : FnOk P w K mg base (P1 P w) n f fd ["book", "number", "sizes"] (a0e K CN Pt)) : FnOk P w K mg base (P1 P w) n f fd ["book", "number", "sizes"] (a6L K CN Pt) := F.imp fun vs H Q E h => by
  obtain ⟨ba, xs, hs, number, z, far, kt, kg, rfl, hz, B, kt1, lm, L, kG, kE⟩ := h
  exact ⟨ba, xs, hs, number, z, far, kt, kg, rfl, hz, B, lm, L, fun i h S H' u hi hh Bs e L' hu => kG i h _ _ H' u hi hh (Bs.u hz B.g (B.g h (List.mem_of_getElem? hh)) kt1 B.t B.k) e L' hu, kE⟩
def a1q (K : W.Frag) (CN : Addr) : Sp := fun vs H Q E => ∃ (a : Addr) (xs : List V) (m : Int), vs = [.ref a, .int m] /\ SqL K H a xs /\ xs.length <= 1000 /\ m.natAbs.log2 < 1920 ∧
  (∀ (i : Nat) (l : Addr) (H' : Hp), m = (i : Int) -> i < xs.length -> Same H H' -> H l = none -> H' l = some (.lst (P0 xs i)) -> Q (.ref l) H') /\ (¬ a1i xs.length m -> E (.ref CN) none H)
theorem b2t : i8 ["houses", "number"] ["houses", "number"] (d9 a0R) := ⟨rfl, rfl, rfl, by decide +kernel, rfl, by decide +kernel, by decide +kernel⟩
theorem a3c {f1 : Addr} {d1 : FuncData} (F : Fun K "without" "without" a0R f fd) (Ch : a1f P w K mg base n "house_of" ["book", "number"] (a4A K CN) f1 d1) : FnOk P w K mg base (P1 P w) (n + 1) f fd ["houses", "number"] (a1q K CN) := by
  refine F.ok1 b2t (fun vs H Q E h => ?_) (fun cdv A outer s H vs Q E hr h => ?_)
  . obtain ⟨a, xs, m, rfl, _⟩ := h
    rfl
  obtain ⟨a, xs, m, rfl, hS, hl, hm, q, hE⟩ := h
  refine ⟨_, d8 (u0 (j6 Ch.ok hr rfl Ch.m Ch.k Ch.b .nil W2 (a0 (pv 0) (a0 (pv 1) d7))))
    (PSs.nox (g0 (m6 (i7 v7 (x9 A8 (pv 0) B1 (B6 (pv 1))) (x9 A8 (pv 0) (B6 (i7 y8 (pv 1) e8)) B1))))), ?_⟩
  refine ⟨_, rfl, _, rfl, a, xs, m, rfl, hS, hm, fun i x hi hx => ?_, hE⟩
  subst hi
  have hil := (List.getElem?_eq_some_iff.mp hx).1
  refine ⟨_, rfl, _, rfl, _, rfl, a, _, rfl, hS, fun a1 h1 => ?_⟩
  rw [U3 _ _ (by omega)]
  have s1 := Same.new h1 (.lst (xs.take i))
  refine ⟨_, rfl, _, rfl, _, _, rfl, rfl, _, rfl, a, _, rfl, s1.seq hS, fun a2 h2 => ?_⟩
  rw [show ((i : Int) + 1) = ((i + 1 : Nat) : Int) by omega, Q8 _ _ (by omega)]
  have s2 := Same.new h2 (.lst (xs.drop (i + 1)))
  refine ⟨a1, a2, _, _, rfl, rfl, s2 _ _ upd_same, upd_same, ?_, fun p hp => ?_⟩
  . have := j7 (show (1000 : Nat) <= 1000 from Nat.le_refl _)
    simp; omega
  have s3 := Same.new hp (.lst (xs.take i ++ xs.drop (i + 1)))
  refine q i p _ rfl hil ((s1.trans s2).trans s3) ?_ upd_same
  cases e : H p with
  | none => rfl
  | some o => rw [s2 _ _ (s1 _ _ e)] at hp; cases hp
end
end Rim
namespace L2
open PySem PySem.Spec PyProof.Rows
theorem a8v {prog : Program} {w : World} {A : Around} {E : Value -> Shared -> Prop} {s : Shared} {c : Value} {Q : Bool -> Shared -> Prop} (h : ∀ b, Q b s) : wpAny (model prog w) A (Builtin.SmallTypes.calledThroughType c) Q E s := by
  unfold Builtin.SmallTypes.calledThroughType
  exact wpAny_bind (wpAny_stack_any fun st => wpAny_pure (h _))
section
variable {prog : Program} {w : World} {A : Around} {E : Value -> Shared -> Prop} {s : Shared}
end
section
variable {b : Bool} {xs : List V} {K : W.Frag} {l : Addr} {fr : List Nat} {te : TE} {σ : St} {H1 : Hp} {p : Addr} {D : Hp -> Prop}
end
end L2
set_option maxHeartbeats 1000000
namespace L2
open PySem PySem.Spec PyProof.Rows
abbrev N9 (h : Heap) (z ti to : Addr) (f0 : Value) (f1 : Bool) : Prop :=
  h.get? z = some { cls := .type "zip", dict := none, data := .fields #[f0, .bool f1, .bool false, .ref ti, .ref to], slots := #[] }
def Zf (v : Value) : Prop := v = .none \/ ∃ a : Nat, v = rawInt a
section
variable {prog : Program} {w : World} {A : Around} {E : Value -> Shared -> Prop} {s : Shared}
theorem a2B {a : Addr} {Q : Option Obj -> Shared -> Prop} (h : Q (s.heap.get? a) s) : wpAny (model prog w) A (loadIfAlive a) Q E s := fun Γ p _ => by
  show Sem.wp (model prog w) Γ (.loadIfAlive a .pure) _ _ p s
  rw [Sem.wp_loadIfAlive]
  exact h
theorem a3X {z ti to : Addr} {f0 : Value} {f1 : Bool} {Q : Bool -> Shared -> Prop} (q0 : N9 s.heap z ti to f0 f1) (z0 : Zf f0) (h1 : Q true s) (h2 : ∀ h', N9 h' z ti to f0 true -> Heap.SameBut z s.heap h' -> Q false { s with heap := h' }) :
    wpAny (model prog w) A (Builtin.SmallTypes.ownedTupleIsFree (.ref z)) Q E s := by
  unfold Builtin.SmallTypes.ownedTupleIsFree
  refine wpAny_bind (wpAny_field q0 rfl (x := f0) rfl ?_)
  rcases z0 with rfl | ⟨a, rfl⟩
  . exact wpAny_pure h1
  . show wpAny _ _ (loadIfAlive (a : Int).toNat >>= _) _ _ s
    refine wpAny_bind (a2B ?_)
    cases hg : s.heap.get? (a : Int).toNat with
    | none => exact wpAny_pure h1
    | some o =>
      show wpAny _ _ (field (.ref z) 1 >>= _) _ _ s
      refine wpAny_bind (wpAny_field q0 rfl (x := .bool f1) rfl ?_)
      cases f1 with
      | true => exact wpAny_pure (h2 s.heap q0 ⟨rfl, fun _ _ => rfl⟩)
      | false =>
        show wpAny _ _ (setField (.ref z) 1 (.bool true) >>= _) _ _ s
        exact wpAny_bind (wpAny_setField_rec q0 (by simp) fun u1 z1 s1 => wpAny_pure (h2 u1 z1 s1))
theorem a8w {b1 b2 : Bool} {z ti to j1 j2 t1 t2 : Addr} {k1 k2 : Nat} {f0 : Value} {f1 : Bool} {xs ys : Array Value} {x y a b : Value} {Q : Value -> Shared -> Prop} (D : ZipApart z ti to j1 j2 t1 t2)
    (q0 : N9 s.heap z ti to f0 f1) (z0 : Zf f0) (p1 : IsPair s.heap ti (.ref j1) (.ref j2)) (p2 : IsPair s.heap to a b)
    (i1 : ItB b1 s.heap j1 t1 k1) (i2 : ItB b2 s.heap j2 t2 k2) (l1 : IsB b1 s.heap t1 xs) (l2 : IsB b2 s.heap t2 ys) (ex : xs[k1]? = some x) (ey : ys[k2]? = some y)
    (q : ∀ h' f0' f1' a' b', N9 h' z ti to f0' f1' -> Zf f0' -> IsPair h' to a' b' -> ItB b1 h' j1 t1 (k1 + 1) -> ItB b2 h' j2 t2 (k2 + 1) -> IsPair h' s.heap.objs.size x y -> h'.objs.size = s.heap.objs.size + 1 →
      (∀ c o, c ≠ z -> c ≠ to -> c ≠ j1 -> c ≠ j2 -> s.heap.get? c = some o -> h'.get? c = some o) -> Q (.ref s.heap.objs.size) { s with heap := h' }) :
    wpAny (model prog w) A (Builtin.«zip.__next__» ⟨[.ref z], []⟩) (fun fin s' => ∃ v, fin = .done (.ret v) /\ Q v s') E s := by
  show wpAny _ _ (field (.ref z) 2 >>= _) _ _ _
  refine wpAny_bind (wpAny_field q0 rfl (x := .bool false) rfl (show wpAny _ _ (field (.ref z) 3 >>= _) _ _ _ from wpAny_bind (wpAny_field q0 rfl (x := .ref ti) rfl (wpAny_bind (wpAny_seqItems p1 rfl ?_)))))
  show wpAny _ _ (do let free <- Builtin.SmallTypes.ownedTupleIsFree (.ref z); _) _ _ _
  refine wpAny_bind (a3X q0 z0 ?_ fun v1 z1 s1 => ?_)
  . simp only [if_true]
    refine wpAny_bind (wpAny_rule (wpAny_bind (wpAny_field q0 rfl (x := .ref to) rfl (wpAny_bind (wpAny_setField_rec q0 (by simp) fun u1 z1 s1 => ?_)))))
    have z1' : N9 u1 z ti to .ellipsis f1 := z1
    refine wpAny_bind ?_
    simp only [List.zipIdx_cons, List.zipIdx_nil, List.forIn_cons, List.forIn_nil]
    refine wpAny_bind (wpAny_bind (wpAny_onRaise (show wpAny _ _ (Builtin.SmallTypes.nextOf (.ref j1) >>= _) _ _ _ from wpAny_bind (C8 (i1.extBut s1.extBut D.i1z) (l1.extBut s1.extBut D.l1z) ex fun u2 j1' s2 => wpAny_pure ?_))))
    have to2 : IsPair u2 to a b := s2.extBut _ _ D.TOi1 (s1.extBut _ _ D.TOz p2)
    refine wpAny_bind (wpAny_seqItems to2 rfl (wpAny_bind (wpAny_updateSeq_pair to2 fun u3 to3 s3 => wpAny_bind (wpAny_letGo (wpAny_pure ?_)))))
    have to3' : IsPair u3 to x b := to3
    refine wpAny_bind (wpAny_bind (wpAny_onRaise (show wpAny _ _ (Builtin.SmallTypes.nextOf (.ref j2) >>= _) _ _ _ from wpAny_bind (C8 (((i2.extBut s1.extBut D.i2z).extBut s2.extBut D.i12.symm).extBut s3.extBut D.TOi2.symm)
      (((l2.extBut s1.extBut D.l2z).extBut s2.extBut D.l2i1).extBut s3.extBut D.l2TO) ey fun u4 j2' s4 => wpAny_pure ?_))))
    have to4 : IsPair u4 to x b := s4.extBut _ _ D.TOi2 to3'
    refine wpAny_bind (wpAny_seqItems to4 rfl (wpAny_bind (wpAny_updateSeq_pair to4 fun u5 to5 s5 => wpAny_bind (wpAny_letGo (wpAny_pure (wpAny_pure ?_))))))
    have to5' : IsPair u5 to x y := to5
    refine wpAny_bind (wpAny_seqItems to5' rfl (wpAny_bind (wpAny_newTuple ?_)))
    have sz : u5.objs.size = s.heap.objs.size := by rw [s5.1, s4.1, s3.1, s2.1, s1.1]
    have z5 : N9 u5 z ti to .ellipsis f1 := s5.extBut _ _ D.TOz.symm (s4.extBut _ _ D.i2z.symm (s3.extBut _ _ D.TOz.symm (s2.extBut _ _ D.i1z.symm z1')))
    have kp : ∀ c o, c ≠ z -> c ≠ to -> c ≠ j1 -> c ≠ j2 -> s.heap.get? c = some o -> u5.get? c = some o := fun c o n1 n2 n3 n4 e => s5.extBut _ _ n2 (s4.extBut _ _ n4 (s3.extBut _ _ n2 (s2.extBut _ _ n3 (s1.extBut _ _ n1 e))))
    have a1 : ItB b1 u5 j1 t1 (k1 + 1) := ((j1'.extBut s3.extBut D.TOi1.symm).extBut s4.extBut D.i12).extBut s5.extBut D.TOi1.symm
    have a2 : ItB b2 u5 j2 t2 (k2 + 1) := j2'.extBut s5.extBut D.TOi2.symm
    have zl : z < u5.objs.size := Heap.lt_size z5
    show wpAny _ _ (do let r <- Builtin.SmallTypes.ownedTupleHandOut (.ref z) (.ref u5.objs.size); _) _ _ _
    unfold Builtin.SmallTypes.ownedTupleHandOut
    have z6 : N9 (u5.push { cls := .type "tuple", data := .seq #[x, y] }) z ti to .ellipsis f1 := Heap.get?_push_of_some _ z5
    refine wpAny_bind (wpAny_bind (wpAny_setField_rec z6 (by simp) fun u7 z7 s7 => ?_))
    have z7' : N9 u7 z ti to (rawInt u5.objs.size) f1 := z7
    refine wpAny_setField_rec z7' (by simp) fun u8 z8 s8 => ?_
    have z8' : N9 u8 z ti to (rawInt u5.objs.size) false := z8
    have up : ∀ c o, c ≠ z -> u5.get? c = some o -> u8.get? c = some o := fun c o n1 e => s8.extBut _ _ n1 (s7.extBut _ _ n1 (Heap.get?_push_of_some _ e))
    have nt8 : IsPair u8 u5.objs.size x y := s8.extBut _ _ (Nat.ne_of_gt zl) (s7.extBut _ _ (Nat.ne_of_gt zl) (Heap.get?_push_size _ rfl))
    have sz8 : u8.objs.size = s.heap.objs.size + 1 := by rw [s8.1, s7.1, Heap.size_push, sz]
    rw [sz] at z8' nt8
    refine wpAny_pure ⟨_, rfl, ?_⟩
    show Q (.ref u5.objs.size) _
    rw [sz]
    exact q u8 _ _ _ _ z8' (.inr ⟨_, rfl⟩) (up _ _ D.TOz to5') (ItB.at' a1 fun o e => up _ o D.i1z e) (ItB.at' a2 fun o e => up _ o D.i2z e) nt8 sz8 fun c o n1 n2 n3 n4 e => up c o n1 (kp c o n1 n2 n3 n4 e)
  . simp only [Bool.false_eq_true, if_false]
    rw [List.forIn_toArray]
    simp only [List.forIn_cons, List.forIn_nil]
    refine wpAny_bind (wpAny_bind (wpAny_bind (wpAny_holding (show wpAny _ _ (Builtin.SmallTypes.nextOf (.ref j1) >>= _) _ _ _ from wpAny_bind (C8 (i1.extBut s1.extBut D.i1z) (l1.extBut s1.extBut D.l1z) ex fun u2 j1' s2 => wpAny_pure ?_)))))
    refine wpAny_pure ?_
    refine wpAny_bind (wpAny_bind (wpAny_holding (show wpAny _ _ (Builtin.SmallTypes.nextOf (.ref j2) >>= _) _ _ _ from wpAny_bind (C8 ((i2.extBut s1.extBut D.i2z).extBut s2.extBut D.i12.symm) ((l2.extBut s1.extBut D.l2z).extBut s2.extBut D.l2i1) ey fun u3 j2' s3 => wpAny_pure ?_))))
    refine wpAny_pure (wpAny_pure (wpAny_bind (wpAny_newTuple ?_ (by show 2 <= sizeLine; decide))))
    have sz : u3.objs.size = s.heap.objs.size := by rw [s3.1, s2.1, s1.1]
    have z3 : N9 u3 z ti to f0 true := s3.extBut _ _ D.i2z.symm (s2.extBut _ _ D.i1z.symm z1)
    have kp : ∀ c o, c ≠ z -> c ≠ j1 -> c ≠ j2 -> s.heap.get? c = some o -> u3.get? c = some o := fun c o n1 n3 n4 e => s3.extBut _ _ n4 (s2.extBut _ _ n3 (s1.extBut _ _ n1 e))
    have a1 : ItB b1 u3 j1 t1 (k1 + 1) := j1'.extBut s3.extBut D.i12
    have up : ∀ c o, u3.get? c = some o -> (u3.push { cls := .type "tuple", data := .seq #[x, y] }).get? c = some o := fun c o e => Heap.get?_push_of_some _ e
    have nt : IsPair (u3.push { cls := .type "tuple", data := .seq #[x, y] }) s.heap.objs.size x y := by rw [<- sz]; exact Heap.get?_push_size _ rfl
    have sz8 : (u3.push { cls := .type "tuple", data := .seq #[x, y] }).objs.size = s.heap.objs.size + 1 := by rw [Heap.size_push, sz]
    refine wpAny_pure ⟨_, rfl, ?_⟩
    show Q (.ref u3.objs.size) _
    rw [sz]
    exact q _ f0 true a b (up _ _ z3) z0 (up _ _ (kp _ _ D.TOz D.TOi1 D.TOi2 p2)) (ItB.at' a1 fun o e => up _ o e) (ItB.at' j2' fun o e => up _ o e) nt sz8 fun c o n1 _ n3 n4 e => up _ _ (kp c o n1 n3 n4 e)
theorem a9U {b1 b2 : Bool} {z ti to j1 j2 t1 t2 : Addr} {k1 k2 : Nat} {f0 : Value} {f1 : Bool} {xs ys : Array Value} {a b : Value} {Q : PySem.Fin -> Shared -> Prop} (hh : A.handled = none) (D : ZipApart z ti to j1 j2 t1 t2)
    (q0 : N9 s.heap z ti to f0 f1) (z0 : Zf f0) (p1 : IsPair s.heap ti (.ref j1) (.ref j2)) (p2 : IsPair s.heap to a b)
    (i1 : ItB b1 s.heap j1 t1 k1) (i2 : ItB b2 s.heap j2 t2 k2) (l1 : IsB b1 s.heap t1 xs) (l2 : IsB b2 s.heap t2 ys) (en : xs[k1]? = none \/ ys[k2]? = none)
    (q : ∀ h' e, (∀ c o, c ≠ z -> c ≠ to -> c ≠ j1 -> c ≠ j2 -> s.heap.get? c = some o -> h'.get? c = some o) -> (∃ o, h'.get? e = some o /\ o.cls = .type "StopIteration") -> E (.ref e) { s with heap := h' }) :
    wpAny (model prog w) A (Builtin.«zip.__next__» ⟨[.ref z], []⟩) Q E s := by
  show wpAny _ _ (field (.ref z) 2 >>= _) _ _ _
  refine wpAny_bind (wpAny_field q0 rfl (x := .bool false) rfl (show wpAny _ _ (field (.ref z) 3 >>= _) _ _ _ from wpAny_bind (wpAny_field q0 rfl (x := .ref ti) rfl (wpAny_bind (wpAny_seqItems p1 rfl ?_)))))
  show wpAny _ _ (do let free <- Builtin.SmallTypes.ownedTupleIsFree (.ref z); _) _ _ _
  refine wpAny_bind (a3X q0 z0 ?_ fun v1 z1 s1 => ?_)
  . simp only [if_true]
    refine wpAny_bind (wpAny_rule (wpAny_bind (wpAny_field q0 rfl (x := .ref to) rfl (wpAny_bind (wpAny_setField_rec q0 (by simp) fun u1 z1 s1 => ?_)))))
    have z1' : N9 u1 z ti to .ellipsis f1 := z1
    refine wpAny_bind ?_
    simp only [List.zipIdx_cons, List.zipIdx_nil, List.forIn_cons, List.forIn_nil]
    cases ex : xs[k1]? with
    | none =>
      refine wpAny_bind (wpAny_bind (wpAny_onRaise (show wpAny _ _ (Builtin.SmallTypes.nextOf (.ref j1) >>= _) _ _ _ from wpAny_bind (R5 hh (i1.extBut s1.extBut D.i1z) (l1.extBut s1.extBut D.l1z) ex fun u2 e s2 ⟨oe, e1, e2⟩ => ?_))))
      have z2 : N9 u2 z ti to .ellipsis f1 := s2 _ _ D.i1z.symm z1'
      have ne : e ≠ z := fun c => by subst c; rw [z2] at e1; cases e1; simp at e2
      exact wpAny_setField_rec z2 (by simp) fun u3 _ s3 => q u3 e (fun c o n1 _ n3 _ m => s3.extBut _ _ n1 (s2 _ _ n3 (s1.extBut _ _ n1 m))) ⟨oe, s3.extBut _ _ ne e1, e2⟩
    | some x =>
      have ey : ys[k2]? = none := by
        rcases en with m | m
        . rw [ex] at m; cases m
        . exact m
      refine wpAny_bind (wpAny_bind (wpAny_onRaise (show wpAny _ _ (Builtin.SmallTypes.nextOf (.ref j1) >>= _) _ _ _ from wpAny_bind (C8 (i1.extBut s1.extBut D.i1z) (l1.extBut s1.extBut D.l1z) ex fun u2 j1' s2 => wpAny_pure ?_))))
      have to2 : IsPair u2 to a b := s2.extBut _ _ D.TOi1 (s1.extBut _ _ D.TOz p2)
      refine wpAny_bind (wpAny_seqItems to2 rfl (wpAny_bind (wpAny_updateSeq_pair to2 fun u3 to3 s3 => wpAny_bind (wpAny_letGo (wpAny_pure ?_)))))
      refine wpAny_bind (wpAny_bind (wpAny_onRaise (show wpAny _ _ (Builtin.SmallTypes.nextOf (.ref j2) >>= _) _ _ _ from wpAny_bind (R5 hh (((i2.extBut s1.extBut D.i2z).extBut s2.extBut D.i12.symm).extBut s3.extBut D.TOi2.symm)
        (((l2.extBut s1.extBut D.l2z).extBut s2.extBut D.l2i1).extBut s3.extBut D.l2TO) ey fun u4 e s4 ⟨oe, e1, e2⟩ => ?_))))
      have z4 : N9 u4 z ti to .ellipsis f1 := s4 _ _ D.i2z.symm (s3.extBut _ _ D.TOz.symm (s2.extBut _ _ D.i1z.symm z1'))
      have ne : e ≠ z := fun c => by subst c; rw [z4] at e1; cases e1; simp at e2
      exact wpAny_setField_rec z4 (by simp) fun u5 _ s5 => q u5 e (fun c o n1 n2 n3 n4 m => s5.extBut _ _ n1 (s4 _ _ n4 (s3.extBut _ _ n2 (s2.extBut _ _ n3 (s1.extBut _ _ n1 m))))) ⟨oe, s5.extBut _ _ ne e1, e2⟩
  . simp only [Bool.false_eq_true, if_false]
    rw [List.forIn_toArray]
    simp only [List.forIn_cons, List.forIn_nil]
    cases ex : xs[k1]? with
    | none =>
      exact wpAny_bind (wpAny_bind (wpAny_bind (wpAny_holding (show wpAny _ _ (Builtin.SmallTypes.nextOf (.ref j1) >>= _) _ _ _ from wpAny_bind (R5 hh (i1.extBut s1.extBut D.i1z) (l1.extBut s1.extBut D.l1z) ex fun u2 e s2 r => q u2 e (fun c o n1 _ n3 _ m => s2 _ _ n3 (s1.extBut _ _ n1 m)) r)))))
    | some x =>
      have ey : ys[k2]? = none := by
        rcases en with m | m
        . rw [ex] at m; cases m
        . exact m
      refine wpAny_bind (wpAny_bind (wpAny_bind (wpAny_holding (show wpAny _ _ (Builtin.SmallTypes.nextOf (.ref j1) >>= _) _ _ _ from wpAny_bind (C8 (i1.extBut s1.extBut D.i1z) (l1.extBut s1.extBut D.l1z) ex fun u2 j1' s2 => wpAny_pure ?_)))))
      refine wpAny_pure ?_
      exact wpAny_bind (wpAny_bind (wpAny_holding (show wpAny _ _ (Builtin.SmallTypes.nextOf (.ref j2) >>= _) _ _ _ from wpAny_bind (R5 hh ((i2.extBut s1.extBut D.i2z).extBut s2.extBut D.i12.symm) ((l2.extBut s1.extBut D.l2z).extBut s2.extBut D.l2i1) ey fun u3 e s3 r => q u3 e (fun c o n1 _ n3 n4 m => s3 _ _ n4 (s2.extBut _ _ n3 (s1.extBut _ _ n1 m))) r))))
theorem a8F {b1 b2 : Bool} {z ti to j1 j2 t1 t2 : Addr} {k1 k2 : Nat} {f0 : Value} {f1 : Bool} {xs ys : Array Value} {x y a b : Value} {Q : Value -> Shared -> Prop} (D : ZipApart z ti to j1 j2 t1 t2)
    (q0 : N9 s.heap z ti to f0 f1) (z0 : Zf f0) (p1 : IsPair s.heap ti (.ref j1) (.ref j2)) (p2 : IsPair s.heap to a b)
    (i1 : ItB b1 s.heap j1 t1 k1) (i2 : ItB b2 s.heap j2 t2 k2) (l1 : IsB b1 s.heap t1 xs) (l2 : IsB b2 s.heap t2 ys) (ex : xs[k1]? = some x) (ey : ys[k2]? = some y)
    (q : ∀ h' f0' f1' a' b', N9 h' z ti to f0' f1' -> Zf f0' -> IsPair h' to a' b' -> ItB b1 h' j1 t1 (k1 + 1) -> ItB b2 h' j2 t2 (k2 + 1) -> IsPair h' s.heap.objs.size x y -> h'.objs.size = s.heap.objs.size + 1 →
      (∀ c o, c ≠ z -> c ≠ to -> c ≠ j1 -> c ≠ j2 -> s.heap.get? c = some o -> h'.get? c = some o) -> Q (.ref s.heap.objs.size) { s with heap := h' }) :
    wpAny (model prog w) A (Builtin.SmallTypes.nextOf (.ref z)) Q E s := by
  have ty : s.TypeIs (.ref z) "zip" := ⟨_, q0, rfl⟩
  unfold Builtin.SmallTypes.nextOf
  exact wpAny_bind (wpAny_callSpecial?_slot (name := Str.ofString "__next__") ty F.slot_zip_next (wpAny_call_entry F.slot_zip_next ty F.entry_zip_next
    (a8w D q0 z0 p1 p2 i1 i2 l1 l2 ex ey fun h' f0' f1' a' b' c1 c2 c3 c4 c5 c6 c7 c8 => wpAny_pure (q h' f0' f1' a' b' c1 c2 c3 c4 c5 c6 c7 c8)) (F.args_zip_next_1 _)))
theorem a8u {b1 b2 : Bool} {z ti to j1 j2 t1 t2 : Addr} {k1 k2 : Nat} {f0 : Value} {f1 : Bool} {xs ys : Array Value} {a b : Value} {Q : Value -> Shared -> Prop} (hh : A.handled = none) (D : ZipApart z ti to j1 j2 t1 t2)
    (q0 : N9 s.heap z ti to f0 f1) (z0 : Zf f0) (p1 : IsPair s.heap ti (.ref j1) (.ref j2)) (p2 : IsPair s.heap to a b)
    (i1 : ItB b1 s.heap j1 t1 k1) (i2 : ItB b2 s.heap j2 t2 k2) (l1 : IsB b1 s.heap t1 xs) (l2 : IsB b2 s.heap t2 ys) (en : xs[k1]? = none \/ ys[k2]? = none)
    (q : ∀ h' e, (∀ c o, c ≠ z -> c ≠ to -> c ≠ j1 -> c ≠ j2 -> s.heap.get? c = some o -> h'.get? c = some o) -> (∃ o, h'.get? e = some o /\ o.cls = .type "StopIteration") -> E (.ref e) { s with heap := h' }) :
    wpAny (model prog w) A (Builtin.SmallTypes.nextOf (.ref z)) Q E s := by
  have ty : s.TypeIs (.ref z) "zip" := ⟨_, q0, rfl⟩
  unfold Builtin.SmallTypes.nextOf
  exact wpAny_bind (wpAny_callSpecial?_slot (name := Str.ofString "__next__") ty F.slot_zip_next (wpAny_call_entry F.slot_zip_next ty F.entry_zip_next
    (a9U hh D q0 z0 p1 p2 i1 i2 l1 l2 en q) (F.args_zip_next_1 _)))
theorem a8y {e it : Addr} {i : Nat} {old : Value} {G : Value -> Heap -> Prop} {Q : Option Value -> Shared -> Prop} (he : IsEnum s.heap e it i old)
    (hn : ∀ (Q' : Value -> Shared -> Prop) (E' : Value -> Shared -> Prop), (∀ x h', IsEnum h' e it i old -> G x h' -> Q' x { s with heap := h' }) -> wpAny (model prog w) A.in1 (Builtin.SmallTypes.nextOf (.ref it)) Q' E' s)
    (hQ : ∀ x h1 h' tk, G x h1 -> IsEnumOut h' e it ((i : Int) + 1) x h1.objs.size -> h'.get? h1.objs.size = some { cls := .type "tuple", data := .seq #[.int i tk, x] } -> (∀ b o, b ≠ e -> h1.get? b = some o -> h'.get? b = some o) -> Q (some (.ref h1.objs.size)) { s with heap := h', toks := tk + 1 }) :
    wpAny (model prog w) A (pyNext (.ref e)) Q E s := by
  have hT : s.TypeIs (.ref e) "enumerate" := ⟨_, he, rfl⟩
  unfold pyNext
  refine wpAny_bind (wpAny_attempt (wpAny_callSpecial?_slot (name := Str.ofString "__next__") hT F.slot_enumerate_next (wpAny_call_entry F.slot_enumerate_next hT F.entry_enumerate_next ?_ (F.args_enumerate_next_1 _))))
  show wpAny _ _ (field (.ref e) 2 >>= _) _ _ _
  refine wpAny_bind (wpAny_field he rfl (x := .ref it) rfl ?_)
  refine wpAny_bind (hn _ _ fun x h1 he1 g => ?_)
  obtain ⟨hp, gg, d, tk, os⟩ := s
  show wpAny _ _ (field (.ref e) 3 >>= _) _ _ ⟨h1, gg, d, tk, os⟩
  refine wpAny_bind (wpAny_field he1 rfl (x := rawInt i) rfl ?_)
  show wpAny _ _ (field (.ref e) 4 >>= _) _ _ ⟨h1, gg, d, tk, os⟩
  refine wpAny_bind (wpAny_field he1 rfl (x := .none) rfl ?_)
  show wpAny _ _ (mkInt i >>= _) _ _ ⟨h1, gg, d, tk, os⟩
  refine wpAny_bind (wpAny_mkInt ?_)
  show wpAny _ _ (setField (.ref e) 3 (rawInt ((i : Int) + 1)) >>= _) _ _ ⟨h1, gg, d, tk + 1, os⟩
  refine wpAny_bind (wpAny_setField_rec he1 (by simp) fun h2 he2 s2 => ?_)
  have he2' : IsEnum h2 e it ((i : Int) + 1) old := he2
  show wpAny _ _ (setField (.ref e) 4 .none >>= _) _ _ ⟨h2, gg, d, tk + 1, os⟩
  refine wpAny_bind (wpAny_setField_rec he2' (by simp) fun h3 he3 s3 => ?_)
  have he3' : IsEnum h3 e it ((i : Int) + 1) old := he3
  show wpAny _ _ (newTuple [.int i tk, x] >>= _) _ _ ⟨h3, gg, d, tk + 1, os⟩
  refine wpAny_bind (wpAny_newTuple ?_)
  have he4 : IsEnum (h3.push { cls := .type "tuple", data := .seq #[.int i tk, x] }) e it ((i : Int) + 1) old := Heap.get?_push_of_some _ he3'
  have sz : h3.objs.size = h1.objs.size := by rw [s3.1, s2.1]
  have el : e < h1.objs.size := Heap.lt_size he1
  have tt : (h3.push { cls := .type "tuple", data := .seq #[.int i tk, x] }).get? h1.objs.size = some { cls := .type "tuple", data := .seq #[.int i tk, x] } := by rw [<- sz]; exact Heap.get?_push_size _ rfl
  have kp : ∀ b o, b ≠ e -> h1.get? b = some o -> (h3.push { cls := .type "tuple", data := .seq #[.int i tk, x] }).get? b = some o := fun b o nb q => Heap.get?_push_of_some _ (s3.extBut b o nb (s2.extBut b o nb q))
  show wpAny _ _ (Builtin.SmallTypes.ownedTupleIsFree (.ref e) >>= _) _ _ ⟨h3.push { cls := .type "tuple", data := .seq #[.int i tk, x] }, gg, d, tk + 1, os⟩
  rw [sz]
  generalize h3.push { cls := .type "tuple", data := .seq #[.int i tk, x] } = h4 at *
  refine wpAny_bind ?_
  unfold Builtin.SmallTypes.ownedTupleIsFree
  refine wpAny_bind (wpAny_field he4 rfl (x := .none) rfl (wpAny_pure ?_))
  simp only [if_true]
  refine wpAny_bind (wpAny_rule (wpAny_bind (wpAny_field he4 rfl (x := old) rfl (wpAny_bind (wpAny_setField_rec he4 (by simp) fun h5 he5 s5 => ?_)))))
  have he5' : IsEnum h5 e it ((i : Int) + 1) x := he5
  show wpAny _ _ (Builtin.SmallTypes.ownedTupleHandOut (.ref e) (.ref h1.objs.size) >>= _) _ _ ⟨h5, gg, d, tk + 1, os⟩
  refine wpAny_bind ?_
  unfold Builtin.SmallTypes.ownedTupleHandOut
  refine wpAny_bind (wpAny_setField_rec he5' (by simp) fun h6 he6 s6 => ?_)
  have he6' : IsEnumOut h6 e it ((i : Int) + 1) x h1.objs.size := he6
  refine wpAny_setField_rec he6' (by simp) fun h7 he7 s7 => ?_
  have he7' : IsEnumOut h7 e it ((i : Int) + 1) x h1.objs.size := he7
  have up : ∀ b o, b ≠ e -> h4.get? b = some o -> h7.get? b = some o := fun b o nb q => s7.extBut b o nb (s6.extBut b o nb (s5.extBut b o nb q))
  exact wpAny_bind (wpAny_letGo (wpAny_pure ⟨_, rfl, wpAny_pure (hQ x h1 h7 tk g he7' (up _ _ (Nat.ne_of_gt el) tt) fun b o nb q => up b o nb (kp b o nb q))⟩))
theorem a9O {e it : Addr} {i : Int} {old : Value} {Q : Option Value -> Shared -> Prop} (he : IsEnum s.heap e it i old)
    (hn : ∀ (Q' : Value -> Shared -> Prop) (E' : Value -> Shared -> Prop), (∀ h' x, (∃ o, h'.get? x = some o /\ o.cls = .type "StopIteration") -> Q none { s with heap := h' } -> E' (.ref x) { s with heap := h' }) -> wpAny (model prog w) A.in1 (Builtin.SmallTypes.nextOf (.ref it)) Q' E' s) :
    wpAny (model prog w) A (pyNext (.ref e)) Q E s := by
  have hT : s.TypeIs (.ref e) "enumerate" := ⟨_, he, rfl⟩
  unfold pyNext
  refine wpAny_bind (wpAny_attempt (wpAny_callSpecial?_slot (name := Str.ofString "__next__") hT F.slot_enumerate_next (wpAny_call_entry F.slot_enumerate_next hT F.entry_enumerate_next ?_ (F.args_enumerate_next_1 _))))
  show wpAny _ _ (field (.ref e) 2 >>= _) _ _ _
  refine wpAny_bind (wpAny_field he rfl (x := .ref it) rfl ?_)
  refine wpAny_bind (hn _ _ fun h' x ⟨o, ho, hc⟩ q => ?_)
  exact wpAny_bind (wpAny_isInstance (T := "StopIteration") (b := true) ⟨o, ho, hc⟩ isSubtype_stop (wpAny_pure q))
end
def Itz (b1 b2 : Bool) (K : W.Frag) (l1 l2 : Addr) : It :=
  ⟨(Itg b1 b2 K l1 l2).go,
   fun i H x H' => ∃ p r a b, H r = none /\ (j9 H r (.tup [a, b])) p = none /\ x = .ref p /\ H' = j9 (j9 H r (.tup [a, b])) p (.tup [.int (i : Int), .ref r]) /\ ∀ xs ys, SqB b1 K H l1 xs -> SqB b2 K H l2 ys -> xs[i]? = some a /\ ys[i]? = some b,
   (Itg b1 b2 K l1 l2).stop⟩
theorem a7N {b1 b2 : Bool} {P : Program} {w : World} {K : W.Frag} {elts : List Expr} {x1 : Nat} {pos : Pos} {e z ti to j1 j2 l1 l2 : Addr} (D : ZipApart z ti to j1 j2 l1 l2) (hne : ∀ c ∈ [z, ti, to, j1, j2, l1, l2], c ≠ e) :
    a3h P w K (.Tuple elts x1 pos) (Itz b1 b2 K l1 l2) [e, z, ti, to, j1, j2] e (fun i h => (∃ old, IsEnum h e z (i : Int) old) /\ (∃ f0 f1, N9 h z ti to f0 f1 /\ Zf f0) /\ IsPair h ti (.ref j1) (.ref j2) /\ (∃ a b, IsPair h to a b) /\ ItB b1 h j1 l1 i /\ ItB b2 h j2 l2 i) where
  mem := by simp
  obj := fun i h st c hb => by
    obtain ⟨⟨old, he⟩, ⟨f0, f1, hz, z0⟩, hti, ⟨a, b, hto⟩, h1, h2⟩ := st
    obtain ⟨o1, e1, v1, d1⟩ := h1.obj
    obtain ⟨o2, e2, v2, d2⟩ := h2.obj
    simp only [List.mem_cons, List.not_mem_nil, or_false] at hb
    rcases hb with rfl | rfl | rfl | rfl | rfl | rfl
    . exact ⟨_, he, fun v q => by cases q⟩
    . exact ⟨_, hz, fun v q => by cases q⟩
    . exact ⟨_, hti, fun v q => by cases q⟩
    . exact ⟨_, hto, fun v q => by cases q⟩
    . exact ⟨o1, e1, fun v q => by rw [d1] at q; cases q⟩
    . exact ⟨o2, e2, fun v q => by rw [d2] at q; cases q⟩
  keep := fun i h h' st k => by
    obtain ⟨⟨old, he⟩, ⟨f0, f1, hz, z0⟩, hti, ⟨a, b, hto⟩, h1, h2⟩ := st
    exact ⟨⟨old, k e (by simp) _ he⟩, ⟨f0, f1, k z (by simp) _ hz, z0⟩, k ti (by simp) _ hti, ⟨a, b, k to (by simp) _ hto⟩, ItB.at' h1 fun o q => k j1 (by simp) o q, ItB.at' h2 fun o q => k j2 (by simp) o q⟩
  item := by
    intro X hP hw hK hc i pins s σ H E I hf st hg
    subst hP hw hK
    obtain ⟨xs, ys, x, y, hq1, hq2, hx, hy⟩ := hg
    obtain ⟨⟨old, he⟩, ⟨f0, f1, hz, z0⟩, hti, ⟨a, b, hto⟩, h1, h2⟩ := st
    obtain ⟨its1, rv1, p1, _⟩ := I.sqB hq1
    obtain ⟨its2, rv2, p2, _⟩ := I.sqB hq2
    obtain ⟨u1, hu1, ru1⟩ := rv1.get hx
    obtain ⟨u2, hu2, ru2⟩ := rv2.get hy
    have nE : ∀ {c : Addr}, c ∈ [z, ti, to, j1, j2, l1, l2] -> c ≠ e := fun hb => hne _ hb
    refine a8y (it := z) (G := fun v h' => v = .ref s.heap.objs.size /\ (∃ f0 f1, N9 h' z ti to f0 f1 /\ Zf f0) /\ (∃ a b, IsPair h' to a b) /\ ItB b1 h' j1 l1 (i + 1) /\ ItB b2 h' j2 l2 (i + 1) /\ IsPair h' s.heap.objs.size u1 u2 /\ h'.objs.size = s.heap.objs.size + 1 /\ IsEnum h' e z i old ∧
      ∀ c o, c ≠ z -> c ≠ to -> c ≠ j1 -> c ≠ j2 -> s.heap.get? c = some o -> h'.get? c = some o) he (fun Q' E' k => a8F D hz z0 hti hto h1 h2 p1 p2 (x := u1) (y := u2) (by simpa using hu1) (by simpa using hu2) fun h' f0' f1' a' b' c1 c2 c3 c4 c5 c6 c7 c8 => ?_) ?_
    . have he' : IsEnum h' e z i old := c8 e _ (nE (by simp)).symm (nE (by simp)).symm (nE (by simp)).symm (nE (by simp)).symm he
      exact k _ h' he' ⟨rfl, ⟨f0', f1', c1, c2⟩, ⟨a', b', c3⟩, c4, c5, c6, c7, he', c8⟩
    . rintro v g1 h' tk ⟨rfl, ⟨f0', f1', c1, c2⟩, ⟨a', b', c3⟩, c4, c5, c6, c7, he1, c8⟩ hout htup kp
      refine ⟨_, rfl, wpAny_letOwnedTupleGo_enum (s := { s with heap := h', toks := tk + 1 }) hout fun h'' he'' hs'' => ?_⟩
      have inS : ∀ b ∈ [e, z, ti, to, j1, j2], ∃ o, s.heap.get? b = some o := fun b hb => by
        obtain ⟨o1, e1, _⟩ := h1.obj
        obtain ⟨o2, e2, _⟩ := h2.obj
        simp only [List.mem_cons, List.not_mem_nil, or_false] at hb
        rcases hb with rfl | rfl | rfl | rfl | rfl | rfl
        . exact ⟨_, he⟩
        . exact ⟨_, hz⟩
        . exact ⟨_, hti⟩
        . exact ⟨_, hto⟩
        . exact ⟨_, e1⟩
        . exact ⟨_, e2⟩
      have neT : ∀ b ∈ [e, z, ti, to, j1, j2], b ≠ s.heap.objs.size := fun b hb q => by
        obtain ⟨o, ho⟩ := inS b hb
        exact absurd (Heap.lt_size ho) (by rw [q]; exact Nat.lt_irrefl _)
      have gti : g1.get? ti = _ := c8 ti _ D.TIz D.TITO D.TIi1 D.TIi2 hti
      -- the pair
      have I1 : Inv X pins σ (j9 H s.heap.objs.size (.tup [x, y])) { s with heap := g1 } := by
        refine I.turnedLaid (h' := g1) (fp := [e, z, ti, to, j1, j2]) hf (fun c o hb q => ?_) (fun c hb => ?_) (Nat.le_refl _) (by show 2 <= sizeLine; decide) (show Vals [x, y] [u1, u2] from .cons ru1 (.cons ru2 .nil)) ⟨_, c6, rfl, 0, rfl⟩
        . simp only [List.mem_cons, List.not_mem_nil, or_false, not_or] at hb
          exact c8 c o hb.2.1 hb.2.2.2.1 hb.2.2.2.2.1 hb.2.2.2.2.2 q
        . obtain ⟨o1, e1, _⟩ := c4.obj
          obtain ⟨o2, e2, _⟩ := c5.obj
          simp only [List.mem_cons, List.not_mem_nil, or_false] at hb
          rcases hb with rfl | rfl | rfl | rfl | rfl | rfl
          . exact ⟨_, he1⟩
          . exact ⟨_, c1⟩
          . exact ⟨_, gti⟩
          . exact ⟨_, c3⟩
          . exact ⟨_, e1⟩
          . exact ⟨_, e2⟩
      have hf1 : ∀ b ∈ [e, z, ti, to, j1, j2], N0 X pins (j9 H s.heap.objs.size (.tup [x, y])) b := fun b hb => ⟨by rw [c9 (neT b hb)]; exact (hf b hb).1, (hf b hb).2⟩
      have el1 : e < g1.objs.size := Heap.lt_size he1
      have up : ∀ c o, c ≠ e -> g1.get? c = some o -> h''.get? c = some o := fun c o nc q => hs''.extBut c o nc (kp c o nc q)
      have neT2 : ∀ b ∈ [e, z, ti, to, j1, j2], b ≠ g1.objs.size := fun b hb q => by
        obtain ⟨o, ho⟩ := inS b hb
        exact absurd (Heap.lt_size ho) (by rw [q, c7]; exact Nat.not_lt.mpr (Nat.le_succ _))
      -- the numbered one
      have I2 : Inv X pins σ (j9 (j9 H s.heap.objs.size (.tup [x, y])) g1.objs.size (.tup [.int (i : Int), .ref s.heap.objs.size])) { s with heap := h'', toks := tk + 1 } := by
        refine (Inv.tok (I1.turnedLaid (h' := h'') (fp := [e, z, ti, to, j1, j2]) hf1 (fun c o hb q => ?_) (fun c hb => ?_) (Nat.le_refl _) (by show 2 <= sizeLine; decide) (show Vals [.int (i : Int), .ref s.heap.objs.size] [Value.int (i : Int) tk, .ref s.heap.objs.size] from .cons ⟨_, rfl⟩ (.cons rfl .nil)) ⟨_, hs''.extBut _ _ (Nat.ne_of_gt el1) htup, rfl, 0, rfl⟩) _)
        . simp only [List.mem_cons, List.not_mem_nil, or_false, not_or] at hb
          exact up c o hb.1 q
        . obtain ⟨o1, e1, _⟩ := c4.obj
          obtain ⟨o2, e2, _⟩ := c5.obj
          simp only [List.mem_cons, List.not_mem_nil, or_false] at hb
          rcases hb with rfl | rfl | rfl | rfl | rfl | rfl
          . exact ⟨_, he''⟩
          . exact ⟨_, up _ _ (nE (by simp)) c1⟩
          . exact ⟨_, up _ _ (nE (by simp)) gti⟩
          . exact ⟨_, up _ _ (nE (by simp)) c3⟩
          . exact ⟨_, up _ _ (nE (by simp)) e1⟩
          . exact ⟨_, up _ _ (nE (by simp)) e2⟩
      refine ⟨.ref g1.objs.size, _, I2, rfl, ⟨g1.objs.size, s.heap.objs.size, x, y, I.fresh, I1.fresh, rfl, rfl, fun xs' ys' q1 q2 => ?_⟩, ⟨⟨_, he''⟩, ⟨f0', f1', up _ _ (nE (by simp)) c1, c2⟩, up _ _ (nE (by simp)) gti, ⟨a', b', up _ _ (nE (by simp)) c3⟩, ItB.at' c4 fun o q => up _ o (nE (by simp)) q, ItB.at' c5 fun o q => up _ o (nE (by simp)) q⟩, fun c hb => ?_⟩
      . rw [I.sqB_inj q1 hq1, I.sqB_inj q2 hq2]; exact ⟨hx, hy⟩
      . rw [c9 (neT2 c hb), c9 (neT c hb)]; exact (hf c hb).1
  done := by
    intro X hP hw hK hc i pins s σ H E I hf st hg
    subst hP hw hK
    obtain ⟨xs, ys, hq1, hq2, hend⟩ := hg
    obtain ⟨⟨old, he⟩, ⟨f0, f1, hz, z0⟩, hti, ⟨a, b, hto⟩, h1, h2⟩ := st
    obtain ⟨its1, rv1, p1, _⟩ := I.sqB hq1
    obtain ⟨its2, rv2, p2, _⟩ := I.sqB hq2
    have hl1 := rv1.length
    have hl2 := rv2.length
    refine a9O he fun Q' E' k => a8u (show X.A.in1.handled = none from I.ok.hd hc) D hz z0 hti hto h1 h2 p1 p2 (by
      rcases hend with q | q
      . exact .inl (by simp; omega)
      . exact .inr (by simp; omega)) fun h' x kk r => k h' x r ⟨rfl, I.turnedAll hf fun c o hb q => ?_⟩
    simp only [List.mem_cons, List.not_mem_nil, or_false, not_or] at hb
    exact kk c o hb.2.1 hb.2.2.2.1 hb.2.2.2.2.1 hb.2.2.2.2.2 q
  self := fun _ _ _ _ _ st h => by
    obtain ⟨⟨old, he⟩, _⟩ := st
    exact wpAny_pyIter_enum he h
abbrev ez1 (h : Heap) (z : Addr) : Heap := h.push { cls := .type "enumerate", data := .fields #[.none, .bool false, .ref z, rawInt 0, .none, .none] }
theorem b0c (z ti to : Addr) :
    Meets (Builtin.«enumerate.__new__» ⟨[.type "enumerate", .ref z], []⟩) (fun _ R s => IsZip s.heap z ti to .none /\ R (.ok (.ret (.ref s.heap.objs.size))) { s with heap := ez1 s.heap z }) :=
  .of_wp fun prog w A R s h => by
    obtain ⟨hp, g, d, tk, os⟩ := s
    obtain ⟨e1, h⟩ := h
    have hsub := sub_enumerate
    have m1 : IsZip (Shared.heap ⟨hp, g, d, tk, os⟩) z ti to .none := e1
    wp_walk using wpAny_pyIter_zip m1, a8v
    intro c
    cases c
    . wp_walk using wpAny_pyIter_zip m1
      exact ⟨_, rfl, h⟩
    . wp_walk using wpAny_pyIter_zip m1
      exact ⟨_, rfl, h⟩
section
variable {prog : Program} {w : World} {A : Around} {E : Value -> Shared -> Prop} {s : Shared}
theorem a8b {z ti to : Addr} {Q : Value -> Shared -> Prop} (l1 : IsZip s.heap z ti to .none)
    (q : ∀ h', IsEnum h' s.heap.objs.size z 0 .none -> (∀ c o, s.heap.get? c = some o -> h'.get? c = some o) -> Q (.ref s.heap.objs.size) { s with heap := h' }) :
    wpAny (model prog w) A (call (.type "enumerate") [.ref z]) Q E s := by
  refine callType_new F.called_enumerate (by decide) (F.typeCall_enumerate_1 _) (F.newCall_enumerate_1 _) (fun ob => F.args_object_init_2 ob _) F.entry_enumerate_new (b0c z ti to) ⟨l1, ?_⟩
  have p1 : (ez1 s.heap z).get? s.heap.objs.size = some _ := Heap.get?_push_size _ rfl
  exact ⟨⟨_, p1, rfl⟩, q _ p1 fun c o m => Heap.get?_push_of_some _ m⟩
end
def iEz (b1 b2 : Bool) (K : W.Frag) (ta : TA) : TI := fun σ H R => ta σ H fun vs H1 => ∃ l1 l2, vs = [.ref l1, .ref l2] /\ (∃ xs, SqB b1 K H1 l1 xs) /\ (∃ ys, SqB b2 K H1 l2 ys) /\ R (Itz b1 b2 K l1 l2) H1
theorem b1h (b1 b2 : Bool) (K : W.Frag) {X : Cx} {a b : Expr} {ta : TA} {p pos p2 pos2 pos' : Pos} {elts : List Expr} {x1 : Nat} (hK : X.K = K) (hg : Gl X "enumerate") (hm : X.mg "enumerate" = none) (hg2 : Gl X "zip") (hm2 : X.mg "zip" = none) (ha : PA X [a, b] ta)
    (hs : starEach [a, b] X.env = [(false, eval a X.env), (false, eval b X.env)] := by rfl) (hs2 : starEach [b] X.env = [(false, eval b X.env)] := by rfl)
    (hs3 : starEach [.Call (.Name "zip" p2) [a, b] [] pos2] X.env = [(false, eval (.Call (.Name "zip" p2) [a, b] [] pos2) X.env)] := by rfl) (hs4 : starEach ([] : List Expr) X.env = [] := by rfl) :
    PI X (.Tuple elts x1 pos') (.Call (.Name "enumerate" p) [.Call (.Name "zip" p2) [a, b] [] pos2] [] pos) (iEz b1 b2 K ta) := by
  subst hK
  intro pins s σ H R I h
  refine Call_ (O3 I hg hm boot_enumerate (PyProof.Rows.callWith_type1 ?_ (by rw [hs3, hs4]) (by rw [hs4]; rfl)))
  rw [hs3]
  show wpAny _ _ (spliced ((false, eval (.Call (.Name "zip" p2) [a, b] [] pos2) X.env) :: [])) _ _ s
  refine Calls.spliced_cons ?_
  refine Call_ (O3 I hg2 hm2 boot_zip (PyProof.Rows.callWith_type1 (t8 (ha pos2 pins s σ H _ I h) fun us s1 ⟨vs, H1, I1, r1, q1⟩ => ?_) (by rw [hs, hs2]) (by rw [hs2]; rfl)))
  obtain ⟨l1, l2, e, ⟨xs, q1⟩, ⟨ys, q2⟩, q⟩ := q1
  subst e
  obtain ⟨u1, u2, rfl, ru1, ru2⟩ := a1s r1
  cases ru1
  cases ru2
  obtain ⟨its1, rv1, p1, _⟩ := I1.sqB q1
  obtain ⟨its2, rv2, p2, _⟩ := I1.sqB q2
  refine a4z p1 p2 fun h1 z1 z2 z3 z4 z5 k1 => ?_
  refine wpAny_pure ?_
  refine a8b z1 fun h2 e1 k2 => ?_
  have I2 : Inv X pins σ H1 { s1 with heap := h2 } := I1.kept (t' := s1.toks) fun c o m => k2 c o (k1 c o m)
  refine wpAny_pyIter_enum e1 ?_
  have D : ZipApart (s1.heap.objs.size + 4) (s1.heap.objs.size + 2) (s1.heap.objs.size + 3) s1.heap.objs.size (s1.heap.objs.size + 1) l1 l2 := a7e _ _ _ p1.lt p2.lt
  have z1s : s1.heap.objs.size + 4 < h1.objs.size := Heap.lt_size z1
  have lt1 := p1.lt
  have lt2 := p2.lt
  refine ⟨h1.objs.size, [h1.objs.size, s1.heap.objs.size + 4, s1.heap.objs.size + 2, s1.heap.objs.size + 3, s1.heap.objs.size, s1.heap.objs.size + 1], _, _, H1, rfl, I2, a7N D (fun c hb z0 => ?_), ⟨⟨_, e1⟩, ⟨_, _, k2 _ _ z1, .inl rfl⟩, k2 _ _ z2, ⟨_, _, k2 _ _ z3⟩, ItB.at' z4 fun o m => k2 _ o m, ItB.at' z5 fun o m => k2 _ o m⟩, fun b hb => ?_, q⟩
  . simp only [List.mem_cons, List.not_mem_nil, or_false] at hb
    have : c < h1.objs.size := by
      rcases hb with rfl | rfl | rfl | rfl | rfl | rfl | rfl
      . exact z1s
      . exact Nat.lt_of_le_of_lt (by omega) z1s
      . exact Nat.lt_of_le_of_lt (by omega) z1s
      . exact Nat.lt_of_le_of_lt (by omega) z1s
      . exact Nat.lt_of_le_of_lt (by omega) z1s
      . exact Nat.lt_of_lt_of_le lt1 (Nat.le_of_lt (Nat.lt_of_le_of_lt (by omega) z1s))
      . exact Nat.lt_of_lt_of_le lt2 (Nat.le_of_lt (Nat.lt_of_le_of_lt (by omega) z1s))
    rw [z0] at this
    exact Nat.lt_irrefl _ this
  . have hb' : s1.heap.objs.size <= b := by
      simp only [List.mem_cons, List.not_mem_nil, or_false] at hb
      rcases hb with rfl | rfl | rfl | rfl | rfl | rfl
      . exact Nat.le_of_lt (Nat.lt_of_le_of_lt (by omega) z1s)
      . exact Nat.le_add_right _ _
      . exact Nat.le_add_right _ _
      . exact Nat.le_add_right _ _
      . exact Nat.le_refl _
      . exact Nat.le_add_right _ _
    exact I1.fpOk hb' (I1.hok.fresh hb')
end L2
namespace L2
open PySem PySem.Spec PyProof.Rows
def ChAt (H : Hp) (xs ys : List V) (is : List Nat) (ts : List V) : Prop := Paired (fun (i : Nat) v => ∃ t x y, v = V.ref t /\ xs[i]? = some x /\ ys[i]? = some y /\ H t = some (.tup [.int (i : Int), x, y])) is ts
theorem ChAt.same {H H' : Hp} {xs ys : List V} {is : List Nat} {ts : List V} (h : ChAt H xs ys is ts) (e : ∀ b zs, H b = some (.tup zs) -> H' b = some (.tup zs)) : ChAt H' xs ys is ts := by
  induction h with
  | nil => exact .nil
  | cons r _ ih =>
    obtain ⟨t, x, y, h1, h2, h3, h4⟩ := r
    exact .cons ⟨t, x, y, h1, h2, h3, e _ _ h4⟩ ih
theorem ChAt.snoc {H : Hp} {xs ys : List V} {is : List Nat} {ts : List V} {i : Nat} {t : Addr} {x y : V} (h : ChAt H xs ys is ts) (h2 : xs[i]? = some x) (h3 : ys[i]? = some y) (h4 : H t = some (.tup [.int (i : Int), x, y])) : ChAt H xs ys (is ++ [i]) (ts ++ [.ref t]) := by
  induction h with
  | nil => exact .cons ⟨t, x, y, rfl, h2, h3, h4⟩ .nil
  | cons r _ ih => exact .cons r ih
section
variable {b1 b2 : Bool} {xs ys : List V} {K : W.Frag} {l1 l2 : Addr} {fr : List Nat} {tc : TT} {σ : St} {H1 : Hp} {p : Addr} {D : Hp -> Prop}
theorem a8q {n : Nat} {fr : List Nat} {σ : St} {i j k : Nat} {u v x : V} (hi : i < n) (hj : j < n) (hk : k < n) : Wk (blkσ n fr σ) ((((blkσ n fr σ).set i (some v)).set j (some u)).set k (some x)) := by
  refine ⟨by simp, fun m w e => ?_⟩
  have : ¬ m < n := fun hm => by
    unfold blkσ at e
    rw [List.getElem?_append_left (by simpa using hm), List.getElem?_replicate] at e
    split at e <;> cases e
  rw [List.getElem?_set_ne (by omega), List.getElem?_set_ne (by omega), List.getElem?_set_ne (by omega)]; exact e
theorem b0C (h1 : SqB b1 K H1 l1 xs) (h2 : SqB b2 K H1 l2 ys) (hp : H1 p = none) (hz : xs.length < sizeLine) (q : Nat -> Bool)
    (step : ∀ (i : Nat) x y H (N : Bool -> Hp -> Prop), xs[i]? = some x -> ys[i]? = some y -> Same H1 H -> N (q i) H -> tc ((((blkσ 3 fr σ).set 0 (some (.int (i : Int)))).set 1 (some x)).set 2 (some y)) H N)
    (hd : ∀ ts H, Same H1 H -> H p = some (.lst ts) -> ChAt H xs ys ((List.range (min xs.length ys.length)).filter q) ts -> D H) :
    lcI 3 fr (a3I K 2 (Q6 (J3 0) (Q6 (a3I K 2 (Q6 (J3 1) (Q6 (J3 2) a4R))) a4R))) tc (a4Z (T4 (a3E 0) (T4 (a3E 1) (T4 (a3E 2) a1h)))) σ (Itz b1 b2 K l1 l2) H1 p D := by
  refine ⟨fun i m ts H => m = min xs.length ys.length - i /\ i <= min xs.length ys.length /\ Same H1 H /\ H p = some (.lst ts) /\ ChAt H xs ys ((List.range i).filter q) ts, ⟨_, rfl, Nat.zero_le _, Same.new hp _, upd_same, .nil⟩, ?_⟩
  rintro i m ts H ⟨rfl, hi, e, hH, ch⟩
  by_cases hlt : i < min xs.length ys.length
  . have hx : xs[i]? = some xs[i] := List.getElem?_eq_getElem (by omega)
    have hy : ys[i]? = some ys[i] := List.getElem?_eq_getElem (by omega)
    refine .inr ⟨⟨xs, ys, _, _, e.sqB h1, e.sqB h2, hx, hy⟩, fun u H' yl => ?_⟩
    obtain ⟨pp, r, a, b, hr, hpp, rfl, rfl, hab⟩ := yl
    obtain ⟨ha, hb⟩ := hab xs ys (e.sqB h1) (e.sqB h2)
    have s1 := Same.new hr (.tup [a, b])
    have s2 := Same.new hpp (.tup [.int (i : Int), .ref r])
    have s12 := s1.trans s2
    have tk : (List.range (i + 1)).filter q = (List.range i).filter q ++ [i].filter q := by rw [List.range_succ, List.filter_append]
    refine ⟨pp, _, rfl, SqT.of upd_same, rfl, _, _, rfl, _, _, rfl, ⟨r, _, rfl, SqT.of (s2 _ _ upd_same), rfl, _, _, rfl, _, _, rfl, rfl, ?_⟩⟩
    refine ⟨rfl, a8q (by decide) (by decide) (by decide), step i a b _ _ ha hb (e.trans s12) ?_⟩
    have h3 := s12 _ _ hH
    have ch3 := ch.same fun b zs k => s12 b _ k
    cases hq : q i with
    | false =>
      rw [if_neg Bool.false_ne_true]
      refine ⟨_, ?_, rfl, hlt, e.trans s12, h3, ?_⟩
      . omega
      . rw [tk]; simpa [hq] using ch3
    | true =>
      rw [if_pos rfl]
      have ln : ts.length = ((List.range i).filter q).length := ch.length.symm
      have l2' := List.length_filter_le q (List.range i)
      rw [List.length_range] at l2'
      refine ⟨.int (i : Int), ?_, a, ?_, b, ?_, (by show 3 <= sizeLine; decide), fun t ht => ?_⟩
      . rw [List.getElem?_set_ne (by omega), List.getElem?_set_ne (by omega), List.getElem?_set_self (by simp [blkσ])]
      . rw [List.getElem?_set_ne (by omega), List.getElem?_set_self (by simp [blkσ])]
      . rw [List.getElem?_set_self (by simp [blkσ])]
      have s3 := Same.new ht (.tup [.int (i : Int), a, b])
      have h4 := s3 _ _ h3
      refine ⟨h4, by omega, _, ?_, rfl, hlt, ((e.trans s12).trans s3).write hp, upd_same, ?_⟩
      . omega
      . rw [tk]
        have ch4 := ch3.same fun b zs k => s3 b _ k
        have := (ch4.snoc ha hb (upd_same (H := j9 (j9 H r (.tup [a, b])) pp (.tup [.int (i : Int), .ref r])) (a := t) (o := .tup [.int (i : Int), a, b])))
        have fin := this.same (H' := j9 (j9 (j9 (j9 H r (.tup [a, b])) pp (.tup [.int (i : Int), .ref r])) t (.tup [.int (i : Int), a, b])) p (.lst (ts ++ [.ref t]))) fun c zs k => by rw [c9 (t7 k h4 nofun)]; exact k
        simpa [hq] using fin
  . have : i = min xs.length ys.length := by omega
    subst this
    refine .inl ⟨⟨xs, ys, e.sqB h1, e.sqB h2, by omega⟩, hd ts H e hH ch⟩
end
end L2
namespace L2
open PySem PySem.Spec PyProof.Rows
abbrev TJ := St -> Hp -> (Hp -> Prop) -> Prop
def PJ (X : Cx) (es : List Expr) (t : TJ) : Prop :=
  ∀ (pins : List (Addr × Obj)) (s : Shared) (σ : St) (H : Hp) (out : Str) (Q : Hp -> Prop), Inv X pins σ H s -> out.length + 2000 * es.length <= 100000 -> t σ H Q →
    wpAny (model X.prog X.w) X.A (joinParts out (evalEach es X.env)) (fun u s' => ∃ x tk H', u = Value.str x tk /\ Inv X pins σ H' s' /\ Q H') X.xe s
section
variable {X : Cx} {e : Expr} {es : List Expr} {te : TE} {t : TJ} {a : Str} {j : Nat} {p1 p2 p3 : Pos}
theorem a5G : PJ X [] fun _ H Q => Q H := by
  intro pins s σ H out Q I hl h
  refine joinParts_nilE (joinParts_nil ⟨_, _, H, rfl, I.tok _, h⟩ ?_)
  rw [sizeLine_eq]
  simp at hl
  omega
theorem a0V (h : PJ X es t) (ha : a.length <= 1000 := by decide) : PJ X (.Constant (.str a) j p1 :: es) t := by
  intro pins s σ H out Q I hl ht
  refine joinParts_consE (joinParts_cons ?_)
  refine t8 (B7 pins s σ H (fun v H' => v = .str a /\ H' = H) I ⟨rfl, rfl⟩) fun u s1 ⟨v, H1, I1, r, hv, hH⟩ => ?_
  subst hv; subst hH
  obtain ⟨tk, rfl⟩ := r
  simp only [List.length_cons] at hl
  have e0 : (out ++ a).length = out.length + a.length := strLen_append ..
  exact ⟨by rw [e0, sizeLine_eq]; omega, h pins s1 σ H1 (out ++ a) Q I1 (by rw [e0]; omega) ht⟩
theorem a3y (he : PE X e te) (h : PJ X es t) : PJ X (.FormattedValue e (-1) none p2 :: es) fun σ H Q => te σ H fun v H1 => ∃ i : Int, v = .int i /\ i.natAbs.log2 < 1920 /\ t σ H1 Q := by
  intro pins s σ H out Q I hl ht
  refine joinParts_consE (joinParts_cons (FormattedValue_plain ?_))
  refine t8 (he pins s σ H _ I ht) fun u s2 ⟨v, H2, I2, r, i, hv, hi, q⟩ => ?_
  subst hv
  obtain ⟨tk2, rfl⟩ := r
  refine formatField_int_small hi ?_
  simp only [List.length_cons] at hl
  have h1 := int_text_length_le (a := i) (k := 1920) (by decide) hi
  have e0 : (out ++ Str.ofString (toString i)).length = out.length + (toString i).length := by rw [strLen_append, PySem.ofString_length]
  have hle : (toString i).length <= 2000 := by omega
  exact ⟨by rw [e0, sizeLine_eq]; omega, h pins _ σ H2 _ Q (I2.tok _) (by rw [e0]; omega) q⟩
def tFg (t : TJ) : TE := fun σ H Q => t σ H fun H1 => ∀ x, Q (.str x) H1
theorem a2u {v1 v2 : Expr} (h : PJ X (v1 :: v2 :: es) t) (hl : es.length <= 20 := by decide) : PE X (.JoinedStr (v1 :: v2 :: es) p3) (tFg t) := by
  intro pins s σ H Q I ht
  refine JoinedStr_many ?_
  refine t8 (h pins s σ H Str.empty _ I ?_ ht) fun u s' ⟨x, tk, H', e1, I', q⟩ => ?_
  . show 0 + 2000 * (es.length + 1 + 1) <= 100000
    omega
  . subst e1
    exact ⟨.str x, H', I', ⟨_, rfl⟩, q x⟩
end
end L2
namespace L2
open PySem
theorem a9Q (K : W.Frag) {X : Cx} {k : Nat} (h : X.K = K) (hr : Room k X.A) : T9 X (compareOp .NotEq) (b0R K) := by subst h; exact E4 hr
end L2
namespace Rim
open PySem L2 Fr
theorem R3 {α β : Type} {F : α -> β -> Prop} : ∀ {l : List α} {l' : List β} {i : Nat} {a : α}, PySem.Paired F l l' -> l[i]? = some a -> ∃ b, l'[i]? = some b /\ F a b
  | _, _, _, _, .nil, e => by simp at e
  | _, _, 0, _, .cons r _, e => by simp at e; subst e; exact ⟨_, rfl, r⟩
  | _, _, i + 1, x, .cons _ t, e => by
    obtain ⟨b, h1, h2⟩ := R3 (i := i) (a := x) t (by simpa using e)
    exact ⟨b, by simpa using h1, h2⟩
def a1G (l : Int) (ns : List Int) : Prop := ∀ x ∈ ns, l <= x /\ x <= 1000000000
def GoodK (h : h8) (m n : Int) : Prop := ((h.1.length : Int) = m /\ a1G 1 h.1) /\ ((h.2.length : Int) = n /\ a1G 0 h.2) /\ ∃ x ∈ h.2, 0 < x
def N4 (h : h8) : Prop := h.1.length <= 1000 /\ h.2.length <= 1000
theorem GoodK.hg {h : h8} {kt kg : Nat} (g : GoodK h kt kg) : HG (10 ^ 9) kt kg h := ⟨by have := g.1.1; omega, by have := g.2.1.1; omega, fun x hx => ⟨(g.1.2 x hx).1, (g.1.2 x hx).2⟩, fun x hx => ⟨(g.2.1.2 x hx).1, (g.2.1.2 x hx).2⟩, g.2.2⟩
section
variable {P : Program} {w : World} {K : W.Frag} {mg : Str -> Option Value} {base : Heap} {f CN CB CT : Addr} {fd : FuncData} {n : Nat}
theorem a0J {X : Cx} : G6 X (.builtin "isinstance") (fun vs H Q => ∃ a xs n b, vs = [.ref a, .ty n] /\ SqT X.K H a xs /\ W.kitOne X.K (.type "tuple") (.type n) = some b /\ Q (.bl b) H) := by
  intro pins s σ H vs us Q I r h
  obtain ⟨a, xs, n, b, rfl, hs, e, q⟩ := h
  obtain ⟨u, v, rfl, ru, rv⟩ := a1s r
  cases rv
  cases (show u = Value.ref a from ru)
  have hx : ∃ o, s.heap.get? a = some o /\ o.cls = .type "tuple" := by
    rcases hs with hs | ⟨o, its, n, h1, h2, _⟩
    . obtain ⟨_, _, _, p⟩ := (show ObjOk X.prog X.w H s.heap a (.tup xs) from hs.ok I.hok)
      obtain ⟨o, h1, h2, _⟩ := p
      exact ⟨o, h1, h2⟩
    . exact ⟨o, I.kIn a o h1, h2⟩
  exact W.kia_one W.kitx_tuple I.kIn hx e (fun z => nomatch z) fun tk => ⟨.bl b, H, I.tok _, rfl, q⟩
def a6k : Sp := fun vs H Q _ => ∃ i : Int, vs = [.int i] /\ Q (.bl true) H
theorem b0h : i8 ["thing"] ["thing"] (d9 U7) := ⟨rfl, rfl, rfl, by decide +kernel, rfl, by decide +kernel, by decide +kernel⟩
theorem a8l (F : Fun K "is_whole" "is_whole" U7 f fd) (T : t9 mg) : FnOk P w K mg base D4 (n + 1) f fd ["thing"] a6k := by
  refine F.ok b0h (fun vs H Q E h => ?_) (fun cdv A outer s H vs Q E hr h => ?_)
  . obtain ⟨i, rfl, _⟩ := h
    rfl
  obtain ⟨i, rfl, q⟩ := h
  refine ⟨_, g0 (m6 (a6b (j0 Z6 rfl T.isi PyProof.Rows.boot_isinstance (a0 (pv 0) (a0 (W8 (v := .ty "int") rfl T.int PyProof.Rows.boot_int rfl) d7)))
    (a6V (a9N (j0 Z6 rfl T.isi PyProof.Rows.boot_isinstance (a0 (pv 0) (a0 (W8 (v := .ty "bool") rfl T.bool PyProof.Rows.boot_bool rfl) d7))))))), ?_⟩
  refine ⟨_, rfl, _, _, "int", true, rfl, .int i, P6 _, _, rfl, a0c ?_⟩
  exact ⟨_, rfl, _, _, "bool", false, rfl, .int i, a2d, _, rfl, q⟩
def a5K (K : W.Frag) : Sp := fun vs H Q _ => ∃ (a : Addr) (ns : List Int) (m l : Int), vs = [.ref a, .int m, .int l] /\ SqT K H a (ns.map V.int) /\ ns.length <= 1000 ∧
  ∀ (b : Bool) (H' : Hp), Same H H' -> (b = true ↔ ((ns.length : Int) = m /\ a1G l ns)) -> Q (.bl b) H'
theorem a9K : i8 ["thing", "many", "least"] ["thing", "many", "least"] (d9 L6) := ⟨rfl, rfl, rfl, by decide +kernel, rfl, by decide +kernel, by decide +kernel⟩
theorem a9S : (["amount", "least"] : List Str).Nodup := by decide +kernel
theorem a6A {N : VK} {b b' : Bool} {H : Hp} (h : N (.bl b) H) (e : b' = b) : N (.bl b') H := by rw [e]; exact h
theorem a7W {g : Addr} {gd : FuncData} (F : Fun K "are_amounts" "are_amounts" L6 f fd) (T : t9 mg) (C : ∃ t, mg "MOST_AMOUNT" = some (.int 1000000000 t)) (G : Cal P w K mg base n "is_whole" ["thing"] a6k g gd) : FnOk P w K mg base D4 (n + 1) f fd ["thing", "many", "least"] (a5K K) := by
  refine F.ok a9K (fun vs H Q E h => ?_) (fun cdv A outer s H vs Q E hr h => ?_)
  . obtain ⟨a, ns, m, l, rfl, _⟩ := h
    rfl
  obtain ⟨a, ns, m, l, rfl, hS, hz, q⟩ := h
  obtain ⟨tm, hma⟩ := C
  refine ⟨_, d8 (v6 (PW.pt (a2t (Y3 (X8 (j0 a0J rfl T.isi PyProof.Rows.boot_isinstance (a0 (pv 0) (a0 (W8 (v := .ty "tuple") rfl T.tuple PyProof.Rows.boot_tuple rfl) d7))))) (a0Y (j4 a6p (j0 i9 rfl T.len PySem.boot_len (a0 (pv 0) d7)) (pv 1) (j8 _))))) (g0 (m6 a3S)) o4)
    (g0 (m6 (j0 (a7s rfl) rfl T.all PyProof.Rows.boot_all (a0
      (Z5 ["amount"] [2] rfl (a3b (pv 0)) (fun _ _ _ _ => m5 (i := 0) a9S rfl (Or.inl rfl))
        (fun _ _ _ _ => a6b (j6 G.ok hr rfl G.m G.k G.b .nil p9 (a0 (pv 0) d7)) (a6V (a5J a6f a6f (pv 1) (pv 0) (C5 (v := .int 1000000000) rfl hma ⟨_, rfl⟩))))) d7)))), ?_⟩
  have hl : (ns.map V.int).length = ns.length := List.length_map _
  refine ⟨_, rfl, a, _, "tuple", true, rfl, hS, P6 _, _, rfl, K2 ?_⟩
  refine ⟨_, rfl, a, _, rfl, .inr hS, _, rfl, rfl, _, rfl, ?_⟩
  refine A7 (fun c => ?_) (fun c => ?_)
  . refine q _ _ (Same.refl _) ?_
    have c' : ¬ (ns.length : Int) = m := fun h => by simp [h] at c
    simp [c']
  . have c' : (ns.length : Int) = m := by simpa using c
    refine ⟨_, rfl, a, rfl, ⟨_, hS⟩, fun p hp => ?_⟩
    refine a0C (a0N hS) hp (by rw [hl]; exact j7 hz) (fun x => .bl (decide (l <= vI x /\ vI x <= 1000000000))) (fun i x H' N hx e hN => ?_) ?_
    . obtain ⟨k, rfl⟩ := U0 hx
      refine ⟨Wk.set (by decide), _, rfl, k, rfl, _, rfl, a0c ?_⟩
      refine ⟨_, rfl, _, rfl, _, _, rfl, rfl, _, rfl, ?_⟩
      refine A7 (fun c => ?_) (fun c => ?_)
      . have c1 : l <= k := of_decide_eq_true c
        refine ⟨_, _, rfl, rfl, ?_⟩
        exact a6A hN (by simp [vI, c1])
      . have c1 : ¬ l <= k := of_decide_eq_false (Bool.eq_false_iff.mpr c)
        exact a6A hN (by simp [vI, c1])
    . refine ⟨p, ns.map (fun i => decide (l <= i /\ i <= 1000000000)), rfl, .inl (SqL.of (by rw [upd_same, List.map_map, List.map_map]; rfl)), ?_⟩
      refine q _ _ (Same.new hp _) ?_
      rw [List.all_map, List.all_eq_true]
      constructor
      . intro z
        exact ⟨c', fun x hx => by simpa using z x hx⟩
      . intro z x hx
        simpa using z.2 x hx
def a5Z (K : W.Frag) : Sp := fun vs H Q _ => ∃ (v : V) (h : h8) (m n : Int), vs = [v, .int m, .int n] /\ HS K H v h /\ N4 h ∧
  ∀ (b : Bool) (H' : Hp), Same H H' -> (b = true ↔ GoodK h m n) -> Q (.bl b) H'
theorem scIsHK : i8 ["thing", "many_takes", "many_gives", "takes", "gives"] ["thing", "many_takes", "many_gives"] (d9 U1) := ⟨rfl, rfl, rfl, by decide +kernel, rfl, by decide +kernel, by decide +kernel⟩
theorem b0j : (["give"] : List Str).Nodup := by decide +kernel
theorem a8f {g : Addr} {gd : FuncData} (F : Fun K "is_house" "is_house" U1 f fd) (T : t9 mg) (G : Cal P w K mg base n "are_amounts" ["thing", "many", "least"] (a5K K) g gd) :
    FnOk P w K mg base D4 (n + 1) f fd ["thing", "many_takes", "many_gives"] (a5Z K) := by
  refine F.ok scIsHK (fun vs H Q E h => ?_) (fun cdv A outer s H vs Q E hr h => ?_)
  . obtain ⟨v, h, m, l, rfl, _⟩ := h
    rfl
  obtain ⟨v, h, m, l, rfl, ⟨a, t, gv, rfl, h0, h1, h2⟩, ⟨hz1, hz2⟩, q⟩ := h
  refine ⟨_, d8 (v6 (PW.pt (a2t (Y3 (X8 (j0 a0J rfl T.isi PyProof.Rows.boot_isinstance (a0 (pv 0) (a0 (W8 (v := .ty "tuple") rfl T.tuple PyProof.Rows.boot_tuple rfl) d7))))) (a0Y (j4 a6p (j0 i9 rfl T.len PySem.boot_len (a0 (pv 0) d7)) e8 (j8 _))))) (g0 (m6 a3S)) o4)
    (d8 (M6 (pv 0) (X7 rfl (m7 (m5 (i := 3) scIsHK.nd rfl (Or.inl rfl)) (m7 (m5 (i := 4) scIsHK.nd rfl (Or.inl rfl)) A9))))
    (d8 (v6 (Y3 (PW.pt (T8 (X8 (j6 G.ok hr rfl G.m G.k G.b .nil p9 (a0 (pv 3) (a0 (pv 1) (a0 e8 d7))))) (O7 (X8 (j6 G.ok hr rfl G.m G.k G.b .nil p9 (a0 (pv 4) (a0 (pv 2) (a0 e8 d7)))))))))
      (g0 (m6 a3S)) o4)
    (g0 (m6 (j0 (a6K rfl) rfl T.any PyProof.Rows.boot_any (a0 (Z5 ["give"] [] rfl (a3b (pv 4)) (fun _ _ _ _ => m5 (i := 0) b0j rfl (Or.inl rfl)) (fun _ _ _ _ => M8 a0O (pv 0) e8 (j8 _))) d7)))))), ?_⟩
  refine ⟨_, rfl, a, _, "tuple", true, rfl, h0, P6 _, _, rfl, K2 ?_⟩
  refine ⟨_, rfl, a, _, rfl, .inr h0, rfl, _, rfl, b1w rfl ?_⟩
  refine ⟨_, rfl, a, _, rfl, h0, rfl, _, _, rfl, _, _, rfl, rfl, ?_⟩
  refine ⟨_, rfl, _, rfl, t, h.1, m, 1, rfl, h1, hz1, fun b1 H1 e1 i1 => ⟨_, rfl, ?_⟩⟩
  refine A7 (fun c1 => ?_) (fun c1 => ?_)
  . refine ⟨_, rfl, _, rfl, gv, h.2, l, 0, rfl, e1.tseq h2, hz2, fun b2 H2 e2 i2 => ⟨_, rfl, ?_⟩⟩
    refine A7 (fun c2 => ?_) (fun c2 => ?_)
    . refine q _ _ (e1.trans e2) ?_
      have : ¬ b2 = true := by simpa using c2
      constructor
      . intro z; cases z
      . intro z; exact absurd (i2.mpr z.2.1) this
    . have c2' : b2 = true := by simpa using c2
      have e12 := e1.trans e2
      have hl : (h.2.map V.int).length = h.2.length := List.length_map _
      refine ⟨_, rfl, gv, rfl, ⟨_, e12.tseq h2⟩, fun p hp => ?_⟩
      refine a0C (a0N (e12.tseq h2)) hp (by rw [hl]; exact j7 hz2) (fun x => .bl (decide (0 < vI x))) (fun i x H' N hx e hN => ?_) ?_
      . obtain ⟨k, rfl⟩ := U0 hx
        exact ⟨Wk.set (by decide), _, rfl, _, _, rfl, rfl, hN⟩
      . refine ⟨p, h.2.map (fun i => decide (0 < i)), rfl, .inl (SqL.of (by rw [upd_same, List.map_map, List.map_map]; rfl)), ?_⟩
        refine q _ _ (e12.trans (Same.new hp _)) ?_
        rw [List.any_map, List.any_eq_true]
        constructor
        . rintro ⟨x, hx, z⟩
          exact ⟨i1.mp c1, i2.mp c2', x, hx, by simpa using z⟩
        . rintro ⟨_, _, x, hx, z⟩
          exact ⟨x, hx, by simpa using z⟩
  . refine a0c ?_
    refine q _ _ e1 ?_
    constructor
    . intro z; cases z
    . intro z; exact absurd (i1.mpr z.1) c1
def a0B (K : W.Frag) (CB : Addr) : Sp := fun vs H Q E => ∃ (v : V) (h : h8) (m n : Int), vs = [v, .int m, .int n] /\ HS K H v h /\ N4 h /\ m.natAbs.log2 < 1920 /\ n.natAbs.log2 < 1920 ∧
  (GoodK h m n -> ∀ H', Same H H' -> Q .non H') /\ (¬ GoodK h m n -> ∀ H', Same H H' -> E (.ref CB) none H')
theorem a6R : i8 ["thing", "many_takes", "many_gives"] ["thing", "many_takes", "many_gives"] (d9 G7) := ⟨rfl, rfl, rfl, by decide +kernel, rfl, by decide +kernel, by decide +kernel⟩
theorem a5t {g : Addr} {gd : FuncData} (F : Fun K "refuse_unfit" "refuse_unfit" G7 f fd) (kB : O1 K CB) (mB : mg "NoBook" = some (.ref CB)) (G : Cal P w K mg base n "is_house" ["thing", "many_takes", "many_gives"] (a5Z K) g gd) :
    FnOk P w K mg base (P1 P w) (n + 1) f fd ["thing", "many_takes", "many_gives"] (a0B K CB) := by
  refine F.ok1 a6R (fun vs H Q E h => ?_) (fun cdv A outer s H vs Q E hr h => ?_)
  . obtain ⟨v, h, m, l, rfl, _⟩ := h
    rfl
  obtain ⟨v, h, m, l, rfl, hH, hz, hm, hl, q, hE⟩ := h
  refine ⟨_, g0 (v6 (Y3 (X8 (j6 G.ok hr rfl G.m G.k G.b .nil p9 (a0 (pv 0) (a0 (pv 1) (a0 (pv 2) d7)))))) (g0 (V9 kB rfl mB hr.hd (a0 (a2u (a0V (a3y (pv 1) (a0V (a3y (pv 2) (a0V a5G)))))) d7))) o4), ?_⟩
  refine ⟨_, rfl, _, rfl, _, rfl, v, h, m, l, rfl, hH, hz, fun b H1 e1 i1 => ⟨_, rfl, ?_⟩⟩
  cases b with
  | true => exact K2 (q (i1.mp rfl) H1 e1)
  | false =>
    refine a0c ?_
    exact ⟨_, rfl, m, rfl, hm, _, rfl, l, rfl, hl, fun x => ⟨(by show 1 <= 1000; decide), hE (fun z => by have := i1.mpr z; cases this) H1 e1⟩⟩
def a1w (K : W.Frag) (CB CT : Addr) : Sp := fun vs H Q E => ∃ (l : Addr) (v : V) (xs : List V) (h : h8) (m n : Int), vs = [.ref l, v, .int m, .int n] /\ H l = some (.lst xs) /\ xs.length <= 1000 /\ HS K H v h /\ N4 h /\ m.natAbs.log2 < 1920 /\ n.natAbs.log2 < 1920 ∧
  (GoodK h m n -> xs.length < 16 -> ∀ (r : Addr) (H' : Hp), Same H H' -> H r = none -> H' r = some (.lst (xs ++ [v])) -> Q (.ref r) H') /\ (¬ GoodK h m n -> ∀ H', Same H H' -> E (.ref CB) none H') /\ (GoodK h m n -> 16 <= xs.length -> ∀ H', Same H H' -> E (.ref CT) none H')
theorem a5A : i8 ["houses", "house", "many_takes", "many_gives"] ["houses", "house", "many_takes", "many_gives"] (d9 E5) := ⟨rfl, rfl, rfl, by decide +kernel, rfl, by decide +kernel, by decide +kernel⟩
theorem a3G {g : Addr} {gd : FuncData} (F : Fun K "with_one_more" "with_one_more" E5 f fd) (T : t9 mg) (kT : O1 K CT) (mT : mg "TooMany" = some (.ref CT)) (C : ∃ t, mg "MOST_HOUSES" = some (.int 16 t))
    (G : a1f P w K mg base n "refuse_unfit" ["thing", "many_takes", "many_gives"] (a0B K CB) g gd) : FnOk P w K mg base (P1 P w) (n + 1) f fd ["houses", "house", "many_takes", "many_gives"] (a1w K CB CT) := by
  refine F.ok1 a5A (fun vs H Q E h => ?_) (fun cdv A outer s H vs Q E hr h => ?_)
  . obtain ⟨l, v, xs, h, m, n, rfl, _⟩ := h
    rfl
  obtain ⟨l, v, xs, h, m, k, rfl, hl, hz, hH, hs, hm, hk, q, hB, hT⟩ := h
  obtain ⟨tm, hmh⟩ := C
  refine ⟨_, d8 (u0 (j6 G.ok hr rfl G.m G.k G.b .nil W2 (a0 (pv 1) (a0 (pv 2) (a0 (pv 3) d7)))))
    (d8 (v6 (j4 a6Q (j0 i9 rfl T.len PySem.boot_len (a0 (pv 0) d7)) (C5 (v := .int 16) rfl hmh ⟨_, rfl⟩) (j8 _)) (g0 (V9 kT rfl mT hr.hd (a0 (a2u (a0V (a3y (C5 (v := .int 16) rfl hmh ⟨_, rfl⟩) (a0V a5G)))) d7))) o4)
    (PSs.nox (g0 (m6 (i7 v7 (pv 0) (o6 (a0 (pv 1) d7))))))), ?_⟩
  refine ⟨_, rfl, _, rfl, _, rfl, v, h, m, k, rfl, hH, hs, hm, hk, fun g1 H1 e1 => ?_, hB⟩
  refine ⟨_, rfl, l, xs, rfl, .inl (SqL.of (e1 _ _ hl)), _, _, rfl, rfl, _, rfl, ?_⟩
  refine A7 (fun c => ?_) (fun c => ?_)
  . have c' : 16 <= xs.length := by have := of_decide_eq_true c; omega
    exact ⟨16, rfl, by decide, fun x => ⟨(by show 1 <= 1000; decide), hT g1 c' H1 e1⟩⟩
  . have c' : xs.length < 16 := by have := of_decide_eq_false (Bool.eq_false_iff.mpr c); omega
    refine ⟨_, rfl, _, rfl, (by show 1 <= sizeLine; decide), fun b1 hb1 => ?_⟩
    have s2 := Same.new hb1 (.lst [v])
    refine ⟨l, b1, _, _, rfl, rfl, s2 _ _ (e1 _ _ hl), upd_same, ?_, fun p hp => ?_⟩
    . have := j7 (show (1000 : Nat) <= 1000 from Nat.le_refl _)
      simp; omega
    have s3 := Same.new hp (.lst (xs ++ [v]))
    refine q g1 c' p _ (e1.trans (s2.trans s3)) ?_ upd_same
    exact (e1.trans s2).free hp
def a1D (K : W.Frag) (CN CB : Addr) : Sp := fun vs H Q E => ∃ (l : Addr) (v : V) (xs : List V) (h : h8) (num m n : Int), vs = [.ref l, .int num, v, .int m, .int n] /\ H l = some (.lst xs) /\ xs.length <= 1000 /\ HS K H v h /\ N4 h /\ num.natAbs.log2 < 1920 /\ m.natAbs.log2 < 1920 /\ n.natAbs.log2 < 1920 ∧
  (∀ i : Nat, num = (i : Int) -> i < xs.length -> GoodK h m n -> ∀ (r : Addr) (H' : Hp), Same H H' -> H r = none -> H' r = some (.lst ((xs.take i ++ [v]) ++ xs.drop (i + 1))) -> Q (.ref r) H') /\ (¬ a1i xs.length num -> ∀ H', Same H H' -> E (.ref CN) none H') ∧
  (a1i xs.length num -> ¬ GoodK h m n -> ∀ H', Same H H' -> E (.ref CB) none H')
theorem a5i : i8 ["houses", "number", "house", "many_takes", "many_gives"] ["houses", "number", "house", "many_takes", "many_gives"] (d9 J4) := ⟨rfl, rfl, rfl, by decide +kernel, rfl, by decide +kernel, by decide +kernel⟩
theorem a3u {g g2 : Addr} {gd gd2 : FuncData} (F : Fun K "with_another" "with_another" J4 f fd) (Ch : a1f P w K mg base n "house_of" ["book", "number"] (a4A K CN) g2 gd2)
    (G : a1f P w K mg base n "refuse_unfit" ["thing", "many_takes", "many_gives"] (a0B K CB) g gd) : FnOk P w K mg base (P1 P w) (n + 1) f fd ["houses", "number", "house", "many_takes", "many_gives"] (a1D K CN CB) := by
  refine F.ok1 a5i (fun vs H Q E h => ?_) (fun cdv A outer s H vs Q E hr h => ?_)
  . obtain ⟨l, v, xs, h, num, m, n, rfl, _⟩ := h
    rfl
  obtain ⟨l, v, xs, h, num, m, k, rfl, hl, hz, hH, hs, hn, hm, hk, q, hN, hB⟩ := h
  refine ⟨_, d8 (u0 (j6 Ch.ok hr rfl Ch.m Ch.k Ch.b .nil W2 (a0 (pv 0) (a0 (pv 1) d7))))
    (d8 (u0 (j6 G.ok hr rfl G.m G.k G.b .nil W2 (a0 (pv 2) (a0 (pv 3) (a0 (pv 4) d7)))))
    (PSs.nox (g0 (m6 (i7 v7 (i7 v7 (x9 A8 (pv 0) B1 (B6 (pv 1))) (o6 (a0 (pv 2) d7))) (x9 A8 (pv 0) (B6 (i7 y8 (pv 1) e8)) B1)))))), ?_⟩
  refine ⟨_, rfl, _, rfl, l, xs, num, rfl, SqL.of hl, hn, fun i x hi hx => ?_, fun bad => hN bad H (Same.refl _)⟩
  subst hi
  have hil := (List.getElem?_eq_some_iff.mp hx).1
  refine ⟨_, rfl, _, rfl, _, rfl, v, h, m, k, rfl, hH, hs, hm, hk, fun g1 H1 e1 => ?_, fun bad H1 e1 => hB ⟨by omega, by omega⟩ bad H1 e1⟩
  have small := j7 (show (1000 : Nat) <= 1000 from Nat.le_refl _)
  refine ⟨_, rfl, _, rfl, _, rfl, l, _, rfl, SqL.of (e1 _ _ hl), fun a1 h1 => ?_⟩
  rw [U3 _ _ (by omega)]
  have s1 := Same.new h1 (.lst (xs.take i))
  refine ⟨_, rfl, (by show 1 <= sizeLine; decide), fun a2 h2 => ?_⟩
  have s2 := Same.new h2 (.lst [v])
  refine ⟨a1, a2, _, _, rfl, rfl, s2 _ _ upd_same, upd_same, by simp; omega, fun a3 h3 => ?_⟩
  have s3 := Same.new h3 (.lst (xs.take i ++ [v]))
  have s13 := s1.trans (s2.trans s3)
  refine ⟨_, rfl, _, rfl, _, _, rfl, rfl, _, rfl, l, _, rfl, SqL.of (s13 _ _ (e1 _ _ hl)), fun a4 h4 => ?_⟩
  rw [show ((i : Int) + 1) = ((i + 1 : Nat) : Int) by omega, Q8 _ _ (by omega)]
  have s4 := Same.new h4 (.lst (xs.drop (i + 1)))
  refine ⟨a3, a4, _, _, rfl, rfl, s4 _ _ upd_same, upd_same, by simp; omega, fun p hp => ?_⟩
  have s5 := Same.new hp (.lst ((xs.take i ++ [v]) ++ xs.drop (i + 1)))
  have all := e1.trans (s13.trans s4)
  exact q i rfl hil g1 p _ (all.trans s5) (all.free hp) upd_same
theorem b1c : i8 ["ahead", "behind"] ["ahead", "behind"] (d9 Y1) := ⟨rfl, rfl, rfl, by decide +kernel, rfl, by decide +kernel, by decide +kernel⟩
theorem a5P : (["number", "was", "now"] : List Str).Nodup := by decide +kernel
abbrev FrL (K : W.Frag) (H : Hp) : List V -> List Q2 -> Prop := PySem.Paired fun v q => FrV K H v q
def chI (ps qs : List Q2) : List Nat := (List.range (min ps.length qs.length)).filter fun i => decide (ps.getD i (0, 0) ≠ qs.getD i (0, 0))
def a4c (K : W.Frag) : Sp := fun vs H Q _ => ∃ (l1 l2 : Addr) (xs ys : List V) (ps qs : List Q2), vs = [.ref l1, .ref l2] /\ SqL K H l1 xs /\ SqL K H l2 ys /\ FrL K H xs ps /\ FrL K H ys qs /\ xs.length <= 1000 ∧
  ∀ (l : Addr) (ts : List V) (H' : Hp), Same H H' -> H l = none -> H' l = some (.lst ts) -> ChAt H' xs ys (chI ps qs) ts -> Q (.ref l) H'
theorem b1r (x y : Q2) : PyData.eqv (dF x) (dF y) = decide (x = y) := by
  unfold dF
  rw [PyData.eqv, PyData.eqvAll, PyData.eqvAll, PyData.eqvAll, PyData.eqv, PyData.eqv, Bool.and_true]
  obtain ⟨a, b⟩ := x
  obtain ⟨c, d⟩ := y
  by_cases h1 : a = c
  . by_cases h2 : b = d
    . subst h1 h2; simp
    . simp [h1, h2]
  . simp [h1]
set_option maxHeartbeats 1000000 in
theorem a2Z (F : Fun K "changes" "changes" Y1 f fd) (T : t9 mg) : FnOk P w K mg base D4 (n + 1) f fd ["ahead", "behind"] (a4c K) := by
  refine F.ok b1c (fun vs H Q E h => ?_) (fun cdv A outer s H vs Q E hr h => ?_)
  . obtain ⟨l1, l2, xs, ys, ps, qs, rfl, _⟩ := h
    rfl
  obtain ⟨l1, l2, xs, ys, ps, qs, rfl, h1, h2, f1, f2, hz, q⟩ := h
  refine ⟨_, g0 (m6 (b0e ["number", "was", "now"] [] rfl (b1h true true K rfl rfl T.enum rfl T.zip (a0 (pv 0) (a0 (pv 1) d7)))
      (fun _ _ _ _ => U8 K (n := 2) rfl rfl (m7 (m5 (i := 0) a5P rfl (Or.inl rfl)) (m7 (U8 K (n := 2) rfl rfl (m7 (m5 (i := 1) a5P rfl (Or.inl rfl)) (m7 (m5 (i := 2) a5P rfl (Or.inl rfl)) A9))) A9)))
      (fun _ _ _ _ => j4 (a9Q K rfl hr) (pv 1) (pv 2) (j8 _)) (fun _ _ _ _ => x5 (a0 (pv 0) (a0 (pv 1) (a0 (pv 2) d7)))))), ?_⟩
  have lp : xs.length = ps.length := f1.length
  have lq : ys.length = qs.length := f2.length
  refine ⟨_, rfl, _, rfl, l1, l2, rfl, ⟨_, h1⟩, ⟨_, h2⟩, fun p hp => ?_⟩
  refine b0C (b1 := true) (b2 := true) h1 h2 hp (j7 hz) (fun i => decide (ps.getD i (0, 0) ≠ qs.getD i (0, 0))) (fun i x y H' N hx hy e hN => ?_) (fun ts H' e hp' ch => ?_)
  . obtain ⟨pq, e1, r1⟩ := R3 f1 hx
    obtain ⟨qq, e2, r2⟩ := R3 f2 hy
    have g1 : ps.getD i (0, 0) = pq := by rw [List.getD_eq_getElem?_getD, e1]; rfl
    have g2 : qs.getD i (0, 0) = qq := by rw [List.getD_eq_getElem?_getD, e2]; rfl
    rw [g1, g2] at hN
    refine ⟨_, rfl, _, rfl, dF pq, dF qq, FrV.dp (FrV.same e r1), FrV.dp (FrV.same e r2), a8Y _, a8Y _, Nat.le_trans (Nat.min_le_left _ _) (b1a _), _, rfl, ?_⟩
    rw [b1r]
    have : (!decide (pq = qq)) = decide (pq ≠ qq) := by simp
    rw [this]
    exact hN
  . rw [lp, lq] at ch
    exact q p ts H' e hp hp' ch
end
end Rim
namespace L2
open PySem PySem.Spec PyProof.Rows
def b1Y (K : W.Frag) (ta : TE) (f : Str) : TG := fun v σ H Q => ta σ H fun x H2 => ∃ a C dx fs, x = .ref a /\ H2 a = some (.ins C dx fs) /\ Cls K C /\ NoAttr K C f /\ fs.length < 1000 /\ Q σ (j9 H2 a (.ins C dx (G9 f v fs)))
theorem W6 {M : Model} {A : Around} {E : Value -> Shared -> Prop} {s : Shared} {env : Env} {o : Expr} {attr : Str} {pos' : Pos} {v : Value} {Q : Unit -> Shared -> Prop}
    (h : wpAny M A (eval o env) (fun ov s₂ => wpAny M A (setAttr ov attr v) Q E s₂) E s) : wpAny M A (assign (.Attribute o attr pos') env v) Q E s := fun Γ p hΓ => by
  simp only [assign_Attribute, Sem.wp_bind', Sem.wp_holding, Sem.wp_cmd_standAt, Sem.wp_release, Sem.wp_pure']
  exact Sem.wp_mono M Γ _ (fun ov _ s₂ h₂ => h₂ Γ _ hΓ) (fun _ _ _ h' => h') _ _ (h Γ _ hΓ)
theorem a7t {X : Cx} {o : Expr} {f : Str} {pos : Pos} {ta : TE} (ha : PE X o ta) : PG X (.Attribute o f pos) (b1Y X.K ta f) := by
  intro pins s σ H v u Q I r h
  refine W6 (t8 (ha pins s σ H _ I h) fun ov s2 ⟨x, H2, I2, rx, a, C, dx, fs, ex, ea, c, n, l, q2⟩ => ?_)
  subst ex
  obtain rfl : ov = Value.ref a := rx
  exact a0T I2 ea c n l r fun s3 I3 => ⟨σ, _, I3, q2⟩
end L2
namespace Rim
open PySem L2 Fr
end Rim
namespace L2
open PySem
def a3Z (o : Option HO) : Prop := ∀ u, o = some u -> (∀ zs, u ≠ .tup zs) /\ ∀ a b, u ≠ .frz a b
structure Fr0 (X : Addr -> Prop) (H H' : Hp) : Prop where
  k : ∀ b o, ¬ X b -> H b = some o -> H' b = some o
  m : ∀ x, X x -> a3Z (H x)
section
variable {X : Addr -> Prop} {H H' : Hp} {K : W.Frag} {a : Addr} {xs : List V}
theorem Fr0.tup (e : Fr0 X H H') (h : H a = some (.tup xs)) : H' a = some (.tup xs) := e.k a _ (fun x => (e.m a x _ h).1 xs rfl) h
theorem Fr0.seqT (e : Fr0 X H H') (h : SqT K H a xs) : SqT K H' a xs := by
  rcases h with (h | ⟨o, h⟩) | h
  . exact .inl (.inl (e.tup h))
  . exact .inl (.inr ⟨o, e.k a _ (fun x => (e.m a x _ h).2 _ _ rfl) h⟩)
  . exact .inr h
theorem D5 {o : Option HO} {xs : List V} (h : o = some (.lst xs)) : a3Z o := fun u e => by
  rw [h] at e
  obtain rfl := Option.some.inj e
  exact ⟨fun zs z => HO.noConfusion z, fun a b z => HO.noConfusion z⟩
theorem S4 {o : Option HO} {C dx : Addr} {fs : List (Str × V)} (h : o = some (.ins C dx fs)) : a3Z o := fun u e => by
  rw [h] at e
  obtain rfl := Option.some.inj e
  exact ⟨fun zs z => HO.noConfusion z, fun a b z => HO.noConfusion z⟩
theorem a1F {P : Addr} {pos : Pos} {qual : Str} {H : Hp} (T : LamTab P pos qual H) : a3Z (H P) := fun u e => by
  rcases T with t | ⟨c, t, _⟩ <;> (rw [t] at e; obtain rfl := Option.some.inj e; exact ⟨fun zs z => HO.noConfusion z, fun a b z => HO.noConfusion z⟩)
end
end L2
namespace Rim
open PySem L2 Fr
theorem HS.fr0 {X : Addr -> Prop} {K : W.Frag} {H H' : Hp} {v : V} {h : h8} (e : Fr0 X H H') (x : HS K H v h) : HS K H' v h := by
  obtain ⟨a, t, g, h0, h1, h2, h3⟩ := x
  exact ⟨a, t, g, h0, e.seqT h1, e.seqT h2, e.seqT h3⟩
theorem Bk.fr0 {X : Addr -> Prop} {K : W.Frag} {H H' : Hp} {vs : List V} {hs : List h8} (e : Fr0 X H H') (x : Bk K H vs hs) : Bk K H' vs hs := Paired.imp' (fun _ _ r => HS.fr0 e r) x
theorem FrT.fr0 {X : Addr -> Prop} {H H' : Hp} {v : V} {q : Q2} (e : Fr0 X H H') (x : FrT H v q) : FrT H' v q := by
  obtain ⟨a, rfl, h⟩ := x
  exact ⟨a, rfl, e.tup h⟩
abbrev KFs (kt kg : Nat) (z : Str) (ta wa pa : Addr) : List (Str × V) := [("many_takes", .int (kt : Int)), ("many_gives", .int (kg : Int)), ("sizes", .str z), ("there", .ref ta), ("worth", .ref wa), ("past", .ref pa)]
structure TK (K : W.Frag) (C : Addr) : Prop where
  cl : Cls K C
  nT : NoAttr K C "many_takes"
  nG : NoAttr K C "many_gives"
  nS : NoAttr K C "sizes"
  nH : NoAttr K C "there"
  nW : NoAttr K C "worth"
  nP : NoAttr K C "past"
abbrev E2 := List h8 × List Q2
def LevAt (K : W.Frag) (H : Hp) (lo : List Addr) (ta wa : Addr) (L : E2) : Prop := ta ∈ lo /\ wa ∈ lo /\ (∃ xs, H ta = some (.lst xs) /\ Bk K H xs L.1) /\ ∃ ys, H wa = some (.lst ys) /\ PySem.Paired (FrT H) ys L.2
def PastAt (K : W.Frag) (H : Hp) (lo : List Addr) : List V -> List E2 -> Prop := PySem.Paired fun v L => ∃ t ta wa, v = .ref t /\ H t = some (.tup [.ref ta, .ref wa]) /\ LevAt K H lo ta wa L
structure KpAt (K : W.Frag) (C : Addr) (H : Hp) (p : Addr) (kt kg : Nat) (z : Str) (L : E2) (past : List E2) (pa : Addr) (lo : List Addr) : Prop where
  no : pa ∉ lo
  ls : ∀ b ∈ lo, ∃ xs, H b = some (.lst xs)
  ex : ∃ dx ta wa pv, H p = some (.ins C dx (KFs kt kg z ta wa pa)) /\ LevAt K H lo ta wa L /\ H pa = some (.lst pv) /\ PastAt K H lo pv past
theorem LevAt.fr0 {X : Addr -> Prop} {K : W.Frag} {H H' : Hp} {lo lo' : List Addr} {ta wa : Addr} {L : E2} (e : Fr0 X H H') (n : ∀ b ∈ lo, ¬ X b) (s : ∀ b ∈ lo, b ∈ lo') (h : LevAt K H lo ta wa L) : LevAt K H' lo' ta wa L := by
  obtain ⟨h1, h2, ⟨xs, h3, h4⟩, ys, h5, h6⟩ := h
  exact ⟨s _ h1, s _ h2, ⟨xs, e.k _ _ (n _ h1) h3, h4.fr0 e⟩, ys, e.k _ _ (n _ h2) h5, Paired.imp' (fun _ _ r => FrT.fr0 e r) h6⟩
theorem PastAt.fr0 {X : Addr -> Prop} {K : W.Frag} {H H' : Hp} {lo lo' : List Addr} {pv : List V} {past : List E2} (e : Fr0 X H H') (n : ∀ b ∈ lo, ¬ X b) (s : ∀ b ∈ lo, b ∈ lo') (h : PastAt K H lo pv past) : PastAt K H' lo' pv past :=
  Paired.imp' (fun _ _ ⟨t, ta, wa, h1, h2, h3⟩ => ⟨t, ta, wa, h1, e.tup h2, h3.fr0 e n s⟩) h
theorem KpAt.fr0 {X : Addr -> Prop} {K : W.Frag} {C : Addr} {H H' : Hp} {p : Addr} {kt kg : Nat} {z : Str} {L : E2} {past : List E2} {pa : Addr} {lo : List Addr} (e : Fr0 X H H') (n : ∀ b ∈ lo, ¬ X b) (np : ¬ X p) (na : ¬ X pa) (h : KpAt K C H p kt kg z L past pa lo) : KpAt K C H' p kt kg z L past pa lo := by
  obtain ⟨dx, ta, wa, pv, h1, h2, h3, h4⟩ := h.ex
  exact ⟨h.no, fun b hb => by obtain ⟨xs, q⟩ := h.ls b hb; exact ⟨xs, e.k _ _ (n b hb) q⟩, dx, ta, wa, pv, e.k _ _ np h1, h2.fr0 e n (fun _ h => h), e.k _ _ na h3, h4.fr0 e n (fun _ h => h)⟩
theorem KpAt.same {K : W.Frag} {C : Addr} {H H' : Hp} {p : Addr} {kt kg : Nat} {z : Str} {L : E2} {past : List E2} {pa : Addr} {lo : List Addr} (e : Same H H') (h : KpAt K C H p kt kg z L past pa lo) : KpAt K C H' p kt kg z L past pa lo :=
  h.fr0 (X := fun _ => False) ⟨fun b o _ q => e b o q, fun _ x => x.elim⟩ (fun _ _ x => x) (fun x => x) fun x => x
def Shs (z : Str) (hs : List h8) (kt kg : Nat) (qs : List Q2) : Prop := qs.length = hs.length /\ ∀ (i : Nat) (h : h8) (q : Q2), hs[i]? = some h -> qs[i]? = some q -> ∃ A B, ShU z hs h kt kg A B /\ q = low A B
section
variable {P : Program} {w : World} {K : W.Frag} {mg : Str -> Option Value} {base : Heap} {f C CN CB CT CL Pt : Addr} {fd : FuncData} {n : Nat}
def a4l (K : W.Frag) (C : Addr) : Sp := fun vs H Q _ => ∃ (p dx : Addr) (kt kg : Nat) (z : Str), vs = [.ref p, .int (kt : Int), .int (kg : Int), .str z] /\ H p = some (.ins C dx []) ∧
  ∀ (H' : Hp) (pa : Addr) (lo : List Addr), KpAt K C H' p kt kg z ([], []) [] pa lo -> (∀ b o, b ≠ p -> H b = some o -> H' b = some o) -> H pa = none -> (∀ b ∈ lo, H b = none) -> Q .non H'
theorem a7v : i8 ["self", "takes", "gives", "sizes"] ["self", "takes", "gives", "sizes"] (d9 E6) := ⟨rfl, rfl, rfl, by decide +kernel, rfl, by decide +kernel, by decide +kernel⟩
set_option maxHeartbeats 1000000 in
theorem a6C (F : Fun K "__init__" "Kept.__init__" E6 f fd) (T : TK K C) : FnOk P w K mg base D4 (n + 1) f fd ["self", "takes", "gives", "sizes"] (a4l K C) := by
  refine F.ok a7v (fun vs H Q E h => ?_) (fun cdv A outer s H vs Q E hr h => ?_)
  . obtain ⟨p, dx, kt, kg, z, rfl, _⟩ := h
    rfl
  obtain ⟨p, dx, kt, kg, z, rfl, hp, q⟩ := h
  refine ⟨_, d8 (C3 (pv 0) (pv 1) rfl) (d8 (C3 (pv 0) (pv 2) rfl) (d8 (C3 (pv 0) (pv 3) rfl) (d8 (C3 (pv 0) (o6 d7) rfl) (d8 (C3 (pv 0) (o6 d7) rfl) (g0 (C3 (pv 0) (o6 d7) rfl)))))), ?_⟩
  refine ⟨_, rfl, _, rfl, p, C, dx, _, rfl, hp, T.cl, T.nT, (by show 0 < 1000; decide), ?_⟩
  refine ⟨_, rfl, _, rfl, p, C, dx, _, rfl, upd_same, T.cl, T.nG, (by show 1 < 1000; decide), ?_⟩
  rw [K4]
  refine ⟨_, rfl, _, rfl, p, C, dx, _, rfl, upd_same, T.cl, T.nS, (by show 2 < 1000; decide), ?_⟩
  rw [K4]
  refine ⟨(by show 0 <= sizeLine; decide), fun ta hta => ?_⟩
  have n1 : p ≠ ta := d0 upd_same hta
  refine ⟨_, rfl, p, C, dx, _, rfl, by rw [c9 n1]; exact upd_same, T.cl, T.nH, (by show 3 < 1000; decide), ?_⟩
  refine ⟨(by show 0 <= sizeLine; decide), fun wa hwa => ?_⟩
  have n2 : p ≠ wa := d0 upd_same hwa
  refine ⟨_, rfl, p, C, dx, _, rfl, by rw [c9 n2]; exact upd_same, T.cl, T.nW, (by show 4 < 1000; decide), ?_⟩
  refine ⟨(by show 0 <= sizeLine; decide), fun pa hpa => ?_⟩
  have n3 : p ≠ pa := d0 upd_same hpa
  refine ⟨_, rfl, p, C, dx, _, rfl, by rw [c9 n3]; exact upd_same, T.cl, T.nP, (by show 5 < 1000; decide), ?_⟩
  have w1 : wa ≠ ta := fun z0 => by
    subst z0
    rw [c9 n2.symm, upd_same] at hwa; cases hwa
  have w2 : pa ≠ wa := fun z0 => by
    subst z0
    rw [c9 n3.symm, upd_same] at hpa; cases hpa
  have w3 : pa ≠ ta := fun z0 => by
    subst z0
    rw [c9 n3.symm, c9 w1.symm, c9 n3.symm, upd_same] at hpa; cases hpa
  have f1 : H ta = none := by rw [c9 n1.symm] at hta; exact hta
  have f2 : H wa = none := by rw [c9 n2.symm, c9 w1, c9 n2.symm] at hwa; exact hwa
  have f3 : H pa = none := by rw [c9 n3.symm, c9 w2, c9 n3.symm, c9 w3, c9 n3.symm] at hpa; exact hpa
  refine q _ pa [ta, wa] ⟨?_, fun b hb => ?_, dx, ta, wa, [], upd_same, ⟨.head _, .tail _ (.head _), ⟨[], ?_, .nil⟩, [], ?_, .nil⟩, ?_, .nil⟩ (fun b o hb e => ?_) f3 fun b hb => ?_
  . intro hb
    rcases List.mem_cons.mp hb with z0 | hb
    . exact w3 z0
    . exact w2 (List.mem_singleton.mp hb)
  . rcases List.mem_cons.mp hb with rfl | hb
    . exact ⟨[], by rw [c9 n1.symm, c9 w3.symm, c9 n1.symm, c9 w1.symm, c9 n1.symm, upd_same]⟩
    . rw [List.mem_singleton.mp hb]
      exact ⟨[], by rw [c9 n2.symm, c9 w2.symm, c9 n2.symm, upd_same]⟩
  . rw [c9 n1.symm, c9 w3.symm, c9 n1.symm, c9 w1.symm, c9 n1.symm, upd_same]
  . rw [c9 n2.symm, c9 w2.symm, c9 n2.symm, upd_same]
  . rw [c9 n3.symm, upd_same]
  . rw [c9 hb, c9 (d0 e f3), c9 hb, c9 (d0 e f2), c9 hb, c9 (d0 e f1), c9 hb]; exact e
  . rcases List.mem_cons.mp hb with rfl | hb
    . exact f1
    . rw [List.mem_singleton.mp hb]; exact f2
def Left (Pt p pa : Addr) (H H' : Hp) : Prop := ∀ b o, b ≠ p -> b ≠ Pt -> b ≠ pa -> H b = some o -> H' b = some o
structure Fit (z : Str) (kt kg : Nat) : Prop where
  z : Szw z
  t1 : 1 <= kt
  t4 : kt <= 4
  g4 : kg <= 4
def a0l (K : W.Frag) (C Pt : Addr) : Sp := fun vs H Q _ => ∃ (p ha pa : Addr) (kt kg : Nat) (z : Str) (L : E2) (past : List E2) (lo : List Addr) (xs : List V) (hs : List h8), vs = [.ref p, .ref ha] /\ KpAt K C H p kt kg z L past pa lo /\ Fit z kt kg /\ H ha = some (.lst xs) /\ Bk K H xs hs /\ (∀ g ∈ hs, HG (10 ^ 9) kt kg g) /\ hs.length <= 16 ∧
  ha ≠ pa /\ past.length <= 1000 /\ LT Pt H ∧
  ∀ (H' : Hp) (wa : Addr) (qs : List Q2), KpAt K C H' p kt kg z (hs, qs) (past ++ [L]) pa (ha :: wa :: lo) -> Shs z hs kt kg qs -> H wa = none -> Left Pt p pa H H' -> LT Pt H' -> Q .non H'
theorem scTurnK : i8 ["self", "houses", "worth"] ["self", "houses"] (d9 x0) := ⟨rfl, rfl, rfl, by decide +kernel, rfl, by decide +kernel, by decide +kernel⟩
theorem a7M : (["number", "self", "houses"] : List Str).Nodup := by decide +kernel
set_option maxHeartbeats 2000000 in
noncomputable def b1x {cdv : Value} {A : Around} {outer : List Env} {s : Shared} {H : Hp} {E : XK} {f1 : Addr} {d1 : FuncData} (T : t9 mg) (Cs : a1f P w K mg base n "share" ["book", "number", "sizes"] (a0e K CN Pt) f1 d1) (hr : Room n (A.deeper (PyProof.Rows.envOfC "Kept.turn_to" (d9 x0) s.heap.objs.size f cdv))) :
    { t : TS // PSs (E7 D4 P w K mg base ["self", "houses", "worth"] "Kept.turn_to" (d9 x0) f cdv A outer s H E).nox (p7 x0) t } :=
  ⟨_, t0 (a8W (i := 2) ["number"] [0, 1] scTurnK.nd rfl rfl rfl (M5 rfl T.range (a0 (j0 i9 rfl T.len PySem.boot_len (a0 (pv 1) d7)) d7)) (fun _ _ _ _ => m5 (i := 0) a7M rfl (Or.inl rfl))
      (fun _ _ _ _ => j6 (a5u Cs.ok) hr rfl Cs.m Cs.k Cs.b .nil a1M (a0 (pv 2) (a0 (pv 0) (a0 (a0p K rfl (pv 1) rfl) d7)))))
    (d8 (u0 (a2M PySem.F.plainAttrs_list PySem.F.slot_list_append PySem.F.type_list_append G4 (j3 (pv 0) rfl) (a0 (x5 (a0 (j3 (pv 0) rfl) (a0 (j3 (pv 0) rfl) d7))) d7)))
    (d8 (C3 (pv 0) (pv 1) rfl)
    (g0 (C3 (pv 0) (pv 2) rfl))))⟩
end
end Rim
namespace L2
open PySem
theorem LamTab.ne {P : Addr} {pos : Pos} {qual : Str} {H : Hp} {b : Addr} {o : HO} (T : LamTab P pos qual H) (h : H b = some o) (n : ∀ ps, o ≠ .tbl ps) : b ≠ P := fun z => by
  subst z
  rcases T with t | ⟨c, t, _⟩
  . rw [h] at t; exact n _ (Option.some.inj t)
  . rw [h] at t; exact n _ (Option.some.inj t)
section
variable {fr : List Nat} {te : TE} {σ : St} {H1 : Hp} {p : Addr} {D : Hp -> Prop} {P : Addr} {pos : Pos} {qual : Str} {n : Nat}
theorem a7u (T : LamTab P pos qual H1) (hp : H1 p = none) (hz : n < sizeLine) (R : Nat -> V -> Hp -> Prop)
    (hR : ∀ i y H H', LamTab P pos qual H -> (∃ zs, H p = some (.lst zs)) -> R i y H -> (∀ b o, b ≠ p -> b ≠ P -> H b = some o -> H' b = some o) -> R i y H')
    (step : ∀ (i : Nat) H ys (N : VK), i < n -> Same1 P H1 H -> LamTab P pos qual H -> H p = some (.lst ys) -> (∀ v H3, Same1 P H H3 -> LamTab P pos qual H3 -> R i v H3 -> N v H3) -> te ((blkσ 1 fr σ).set 0 (some (.int (i : Int)))) H N)
    (hd : ∀ ys H, Same1 P H1 H -> LamTab P pos qual H -> H p = some (.lst ys) -> ys.length = n -> (∀ i y, ys[i]? = some y -> R i y H) -> D H) : lcW 1 fr (J3 0) te σ (Itr 0 n) H1 p D := by
  refine ⟨fun i m ys H => m = n - i /\ i <= n /\ Same1 P H1 H /\ LamTab P pos qual H /\ H p = some (.lst ys) /\ ys.length = i /\ ∀ j y, ys[j]? = some y -> R j y H, ⟨n, by simp, Nat.zero_le _, (Same.new hp _).to1, T.same (Same.new hp _), upd_same, rfl, fun j y e => by simp at e⟩, ?_⟩
  rintro i m ys H ⟨rfl, hi, e, L, hH, len, pr⟩
  by_cases hlt : i < n
  . refine .inr ⟨hlt, fun x H' y => ?_⟩
    obtain ⟨rfl, rfl⟩ := y
    rw [Int.zero_add]
    refine ⟨Wk.set (by decide), step i _ _ _ hlt e L hH fun v H3 e3 L3 r3 => ?_⟩
    have h3 := e3.get L hH nofun
    refine ⟨h3, by omega, n - (i + 1), by omega, rfl, hlt, (e.trans e3).write hp, L3.write h3, upd_same, by rw [List.length_append, len]; rfl, fun j y ey => ?_⟩
    have up : ∀ b o, b ≠ p -> b ≠ P -> H3 b = some o -> j9 H3 p (.lst (ys ++ [v])) b = some o := fun b o hb _ q => by rw [c9 hb]; exact q
    by_cases hj : j < ys.length
    . rw [List.getElem?_append_left hj] at ey
      exact hR j y _ _ L ⟨_, hH⟩ (pr j y ey) fun b o hb hP q => up b o hb hP (e3 _ _ hP q)
    . rw [List.getElem?_append_right (by omega)] at ey
      have hj' : j - ys.length = 0 := by
        cases q : j - ys.length with
        | zero => rfl
        | succ k => rw [q] at ey; simp at ey
      rw [hj'] at ey
      have : j = i := by omega
      subst this
      simp at ey
      subst ey
      exact hR j v _ _ L3 ⟨_, h3⟩ r3 up
  . have : i = n := by omega
    subst this
    exact .inl ⟨Nat.le_refl _, hd ys H e L hH len pr⟩
end
end L2
namespace Rim
open PySem L2 Fr
section
variable {P : Program} {w : World} {K : W.Frag} {mg : Str -> Option Value} {base : Heap} {f C CN CB CT CL Pt : Addr} {fd : FuncData} {n : Nat}
theorem a9s {H : Hp} {ys : List V} {R : Nat -> Q2 -> Prop} : (∀ (i : Nat) y, ys[i]? = some y -> ∃ q, R i q /\ FrT H y q) -> ∃ qs : List Q2, PySem.Paired (FrT H) ys qs /\ ∀ (i : Nat) q, qs[i]? = some q -> R i q := by
  induction ys generalizing R with
  | nil => exact fun _ => ⟨[], .nil, fun i q e => by simp at e⟩
  | cons y ys ih =>
    intro h
    obtain ⟨q, r, hq⟩ := h 0 y rfl
    obtain ⟨qs, p, k⟩ := ih (R := fun i q => R (i + 1) q) fun i z e => h (i + 1) z (by simpa using e)
    refine ⟨q :: qs, .cons hq p, fun i q' e => ?_⟩
    cases i with
    | zero => simp at e; subst e; exact r
    | succ i => exact k i q' (by simpa using e)
set_option maxHeartbeats 4000000 in
theorem a6c {f1 : Addr} {d1 : FuncData} (F : Fun K "turn_to" "Kept.turn_to" x0 f fd) (T : t9 mg) (TKd : TK K C) (Cs : a1f P w K mg base n "share" ["book", "number", "sizes"] (a0e K CN Pt) f1 d1) :
    FnOk P w K mg base D4 (n + 1) f fd ["self", "houses"] (a0l K C Pt) := by
  refine F.ok scTurnK (fun vs H Q E h => ?_) (fun cdv A outer s H vs Q E hr h => ?_)
  . obtain ⟨p, ha, pa, kt, kg, z, L, past, lo, xs, hs, rfl, _⟩ := h
    rfl
  obtain ⟨p, ha, pa, kt, kg, z, L, past, lo, xs, hs, rfl, KP, ft, hha, hB, hG, h16, nha, hpl, LTH, q⟩ := h
  refine ⟨_, (b1x T Cs hr).2, ?_⟩
  obtain ⟨dx, ta, wa, pv, hp, hlv, hpa, hps⟩ := KP.ex
  have xl : xs.length = hs.length := Paired.length hB
  have small := j7 (show xs.length <= 1000 by omega)
  refine ⟨fun σ' H' => ∃ wl ys qs, σ' = [some (.ref p), some (.ref ha), some (.ref wl)] /\ Same1 Pt H H' /\ LT Pt H' /\ H wl = none /\ H' wl = some (.lst ys) /\ PySem.Paired (FrT H') ys qs /\ Shs z hs kt kg qs, ?_, ?_⟩
  . refine ⟨_, rfl, ha, _, rfl, .inl (SqL.of hha), _, rfl, by omega, by omega, fun wl hwl => ?_⟩
    refine a7u (P := Pt) (pos := a6T) (qual := b0X) LTH hwl small (fun i y H' => ∃ q h A B, (hs[i]? = some h /\ ShU z hs h kt kg A B /\ q = low A B) /\ FrT H' y q) (fun i y H1 H2 L1 hz r k => ?_) (fun i H1 ys N' hi e1 L1 hp1 hN => ?_) (fun ys H1 e1 L1 hp1 len pr => ?_)
    . obtain ⟨zs, hzs⟩ := hz
      obtain ⟨q, h, A, B, x, a, rfl, r⟩ := r
      exact ⟨q, h, A, B, x, a, rfl, k _ _ (t7 r hzs nofun) (L1.ne r nofun) r⟩
    . have bin : a1Q K H1 ha xs hs (10 ^ 9) kt kg := ⟨SqL.of (e1.get LTH hha nofun), Bk.same1 LTH e1 hB, hG, by decide, h16, by have := ft.t4; omega, by have := ft.g4; omega⟩
      refine ⟨_, rfl, _, rfl, _, rfl, p, C, dx, _, _, rfl, e1.get LTH hp nofun, TKd.cl, TKd.nS, rfl, ha, xs, hs, (i : Int), z, 10 ^ 9, kt, kg, rfl, ft.z, bin, ft.t1, N3 (by omega), L1, fun i' h' A' B' H7 u' hi' hh' X' e7 L7 hu' => ?_, fun bad => absurd ⟨by omega, by omega⟩ bad⟩
      have : i' = i := by omega
      subst this
      exact hN _ _ e7 L7 ⟨_, h', A', B', ⟨hh', X', rfl⟩, hu'⟩
    . obtain ⟨qs, pq, kq⟩ := a9s (H := H1) (ys := ys) (R := fun i q => ∃ h A B, hs[i]? = some h /\ ShU z hs h kt kg A B /\ q = low A B) fun i y e => by
        obtain ⟨q, h, A, B, x, r⟩ := pr i y e
        exact ⟨q, ⟨h, A, B, x⟩, r⟩
      refine ⟨wl, ys, qs, rfl, e1, L1, hwl, hp1, pq, by rw [<- pq.length, len, xl]; simp, fun i h q hh hq => ?_⟩
      obtain ⟨h', A, B, hh', X, e⟩ := kq i q hq
      rw [hh] at hh'; cases hh'
      exact ⟨A, B, X, e⟩
  intro σ1 H1 hM_; refine M4 fun G_ hG_ => ?_; obtain ⟨wl, ys, qs, rfl, e1, L1, hwl, hwl1, pq, sh⟩ := hM_; subst hG_
  have g1 : ∀ {b : Addr} {o : HO}, H b = some o -> (∀ ps, o ≠ .tbl ps) -> H1 b = some o := fun h n => e1.get LTH h n
  have hp1 := g1 hp nofun
  have hpa1 := g1 hpa nofun
  refine ⟨_, rfl, p, C, dx, _, _, rfl, hp1, TKd.cl, TKd.nP, rfl, .inl ⟨rfl, _, SqL.of hpa1⟩, ?_⟩
  refine ⟨_, rfl, p, C, dx, _, _, rfl, hp1, TKd.cl, TKd.nH, rfl, _, rfl, p, C, dx, _, _, rfl, hp1, TKd.cl, TKd.nW, rfl, (by show 2 <= sizeLine; decide), fun t ht => ?_⟩
  have s2 := Same.new ht (.tup [V.ref ta, V.ref wa])
  have lpv : pv.length = past.length := hps.length
  refine ⟨pa, _, _, rfl, rfl, s2 _ _ hpa1, Nat.lt_of_le_of_lt (show pv.length <= 1000 by omega) (by decide), ?_⟩
  have npp : p ≠ pa := t7 hp hpa nofun
  refine ⟨_, rfl, _, rfl, p, C, dx, _, rfl, by rw [c9 npp]; exact s2 _ _ hp1, TKd.cl, TKd.nH, (by show 6 < 1000; decide), ?_⟩
  refine ⟨_, rfl, _, rfl, p, C, dx, _, rfl, upd_same, TKd.cl, TKd.nW, (by show 6 < 1000; decide), ?_⟩
  rw [K4]
  have nt : t ≠ pa := (d0 hpa1 ht).symm
  have ntp : t ≠ p := (d0 hp1 ht).symm
  have nwp : wl ≠ p := t7 hwl1 hp1 nofun
  have nwa : wl ≠ pa := fun z0 => by subst z0; rw [hpa] at hwl; cases hwl
  have nwt : wl ≠ t := d0 hwl1 ht
  have nhp : ha ≠ p := t7 hha hp nofun
  have hha1 := g1 hha nofun
  -- from the first heap to the last
  have fr : Fr0 (fun b => b = p \/ b = pa \/ b = Pt) H (j9 (j9 (j9 H1 t (HO.tup [V.ref ta, V.ref wa])) pa (HO.lst (pv ++ [V.ref t]))) p (HO.ins C dx (G9 "worth" (V.ref wl) (G9 "there" (V.ref ha) (KFs kt kg z ta wa pa))))) := by
    refine ⟨fun b o hx e => ?_, fun x hx => ?_⟩
    . have n1 : b ≠ p := fun z => hx (.inl z)
      have n2 : b ≠ pa := fun z => hx (.inr (.inl z))
      have n3 : b ≠ Pt := fun z => hx (.inr (.inr z))
      rw [c9 n1, c9 n2]
      exact s2 _ _ (e1 _ _ n3 e)
    . rcases hx with rfl | rfl | rfl
      . exact S4 hp
      . exact D5 hpa
      . exact a1F LTH
  have fr1 : Fr0 (fun b => b = p \/ b = pa) H1 (j9 (j9 (j9 H1 t (HO.tup [V.ref ta, V.ref wa])) pa (HO.lst (pv ++ [V.ref t]))) p (HO.ins C dx (G9 "worth" (V.ref wl) (G9 "there" (V.ref ha) (KFs kt kg z ta wa pa))))) := by
    refine ⟨fun b o hx e => ?_, fun x hx => ?_⟩
    . rw [c9 fun z => hx (.inl z), c9 fun z => hx (.inr z)]
      exact s2 _ _ e
    . rcases hx with rfl | rfl
      . exact S4 hp1
      . exact D5 hpa1
  have nlo : ∀ b ∈ lo, ¬ (b = p \/ b = pa \/ b = Pt) := fun b hb hx => by
    obtain ⟨zs, hz⟩ := KP.ls b hb
    rcases hx with rfl | rfl | rfl
    . rw [hp] at hz; cases hz
    . exact KP.no hb
    . exact LTH.ne hz nofun rfl
  refine q _ wl qs ⟨?_, fun b hb => ?_, dx, ha, wl, pv ++ [.ref t], upd_same, ⟨.head _, .tail _ (.head _), ⟨xs, fr.k _ _ ?_ hha, hB.fr0 fr⟩, ys, fr1.k _ _ ?_ hwl1, Paired.imp' (fun _ _ r => FrT.fr0 fr1 r) pq⟩, ?_, ?_⟩ sh hwl (fun b o n1 n2 n3 e => fr.k b o (fun hx => hx.elim n1 fun hx => hx.elim n3 n2) e) ?_
  . intro hb
    rcases List.mem_cons.mp hb with z0 | hb
    . exact nha z0.symm
    . rcases List.mem_cons.mp hb with z0 | hb
      . exact nwa z0.symm
      . exact KP.no hb
  . rcases List.mem_cons.mp hb with rfl | hb
    . exact ⟨xs, fr1.k _ _ (fun hx => hx.elim nhp nha) hha1⟩
    . rcases List.mem_cons.mp hb with rfl | hb
      . exact ⟨ys, fr1.k _ _ (fun hx => hx.elim nwp nwa) hwl1⟩
      . obtain ⟨zs, hz⟩ := KP.ls b hb
        exact ⟨zs, fr.k _ _ (nlo b hb) hz⟩
  . exact fun hx => hx.elim nhp fun hx => hx.elim nha (LTH.ne hha nofun)
  . exact fun hx => hx.elim nwp nwa
  . rw [c9 npp.symm, upd_same]
  . refine Paired.app (hps.fr0 fr nlo fun b hb => .tail _ (.tail _ hb)) (.cons ⟨t, ta, wa, rfl, ?_, hlv.fr0 fr nlo fun b hb => .tail _ (.tail _ hb)⟩ .nil)
    rw [c9 ntp, c9 nt, upd_same]
  . have L2 : LT Pt (j9 H1 t (HO.tup [V.ref ta, V.ref wa])) := L1.same s2
    have L3 := L2.write (o := .lst (pv ++ [V.ref t])) (s2 _ _ hpa1)
    rcases L3 with x | ⟨c, x, y⟩
    . exact .inl (by rw [c9 (fun z0 => by rw [z0, c9 npp, s2 _ _ hp1] at x; cases x)]; exact x)
    . exact .inr ⟨c, by rw [c9 (fun z0 => by rw [z0, c9 npp, s2 _ _ hp1] at x; cases x)]; exact x, by rw [c9 (fun z0 => by rw [z0, c9 npp, s2 _ _ hp1] at y; cases y)]; exact y⟩
end
end Rim
namespace HT
open PySem PySem.Spec PyProof.Rows L2
section
variable {prog : Program} {w : World} {A : Around} {E : Value -> Shared -> Prop} {s : Shared}
end
end HT
namespace L2
open PySem PySem.Spec PyProof.Rows
section
variable {X : Cx}
theorem a6g (xs : List V) (h : xs ≠ []) : J7 xs none (some (-1)) = xs.take (xs.length - 1) /\ J7 xs (some (-1)) none = xs.drop (xs.length - 1) := by
  have hl : 0 < xs.length := List.length_pos_iff.mpr h
  have e : ∀ d, HT.sIx xs.length d (some (-1)) = xs.length - 1 := fun d => by
    show (if (-1 : Int) < 0 then ((-1 : Int) + (xs.length : Int)).toNat else min (-1 : Int).toNat xs.length) = _
    rw [if_pos (by decide)]; omega
  constructor
  . unfold J7
    rw [e, HT.sIx_none, List.drop_zero, Nat.sub_zero]
  . unfold J7
    rw [e, HT.sIx_none, List.take_of_length_le]
    rw [List.length_drop]; omega
end
end L2
namespace Rim
open PySem L2 Fr
def a9C (K : W.Frag) (H : Hp) (l : Addr) (ps qs : List Q2) : Prop := ∃ xs ys ts, FrL K H xs ps /\ FrL K H ys qs /\ H l = some (.lst ts) /\ ChAt H xs ys (chI ps qs) ts
structure O9 (P : Program) (w : World) (K : W.Frag) (mg : Str -> Option Value) (base : Heap) (CX : CXT) (n : Nat) (C : Addr) (m : Str) (ps : List Str) (sp : Sp) (f : Addr) (fd : FuncData) : Prop where
  ok : FnOk P w K mg base CX n f fd ps sp
  bd : Binds K fd ps []
  me : a3n K C m f
section
variable {P : Program} {w : World} {K : W.Frag} {mg : Str -> Option Value} {base : Heap} {f C CN CB CT CL Pt : Addr} {fd : FuncData} {n : Nat}
theorem FrL.same {H H' : Hp} {xs : List V} {ps : List Q2} (e : Same H H') (h : FrL K H xs ps) : FrL K H' xs ps := Paired.imp' (fun _ _ r => FrV.same e r) h
theorem O8 {H : Hp} {xs : List V} {ps : List Q2} (h : PySem.Paired (FrT H) xs ps) : FrL K H xs ps := Paired.imp' (fun _ _ r => FrT.v r) h
theorem x8 {α β : Type} {F : α -> β -> Prop} {l : List α} {l' : List β} (h : PySem.Paired F l l') : l.length = l'.length := h.length
theorem Left.free {p pa x : Addr} {H H' : Hp} (l : Left Pt p pa H H') (hp : H' p ≠ none) (hpa : H' pa ≠ none) (T : LT Pt H') (h : H' x = none) : H x = none := by
  cases q : H x with
  | none => rfl
  | some o =>
    have n1 : x ≠ p := fun z => hp (z ▸ h)
    have n2 : x ≠ pa := fun z => hpa (z ▸ h)
    have n3 : x ≠ Pt := fun z => by
      subst z
      rcases T with t | ⟨c, t, _⟩ <;> (rw [h] at t; cases t)
    rw [l x o n1 n3 n2 q] at h; cases h
theorem B8 {α : Type} {l : List α} {k : Nat} (h : l.length = k + 1) : ∃ a x, l = a ++ [x] /\ a.length = k := by
  refine ⟨l.dropLast, l.getLast (by intro z; rw [z] at h; simp at h), (List.dropLast_concat_getLast _).symm, by rw [List.length_dropLast]; omega⟩
theorem A0 {α β : Type} {F : α -> β -> Prop} : ∀ {a : List α} {b : List β} {x : α} {y : β}, PySem.Paired F (a ++ [x]) (b ++ [y]) -> PySem.Paired F a b /\ F x y
  | [], [], _, _, .cons r _ => ⟨.nil, r⟩
  | [], _ :: b, _, _, .cons _ t => by have := t.length; simp at this
  | _ :: a, [], _, _, .cons _ t => by have := t.length; simp at this
  | _ :: a, _ :: b, _, _, .cons r t => by
    obtain ⟨h1, h2⟩ := A0 t
    exact ⟨.cons r h1, h2⟩
theorem a4T {H H' : Hp} {xs ys : List V} {is : List Nat} {ts : List V} (e : Same H H') (h : ChAt H xs ys is ts) : ChAt H' xs ys is ts := h.same fun b zs q => e b _ q
def a0m (K : W.Frag) (C CB CT Pt : Addr) : Sp := fun vs H Q E => ∃ (p pa : Addr) (v : V) (h : h8) (kt kg : Nat) (z : Str) (L : E2) (past : List E2) (lo : List Addr), vs = [.ref p, v] /\ KpAt K C H p kt kg z L past pa lo /\ Fit z kt kg /\ HS K H v h /\ N4 h /\ (∀ g ∈ L.1, HG (10 ^ 9) kt kg g) /\ L.1.length <= 16 /\ L.2.length = L.1.length ∧
  past.length <= 1000 /\ LT Pt H ∧
  (GoodK h kt kg -> L.1.length < 16 -> ∀ (H' : Hp) (ha wa r cl : Addr) (u : V) (qs : List Q2) (x : Q2), KpAt K C H' p kt kg z (L.1 ++ [h], qs ++ [x]) (past ++ [L]) pa (ha :: wa :: lo) -> Shs z (L.1 ++ [h]) kt kg (qs ++ [x]) -> H ha = none -> H wa = none -> Left Pt p pa H H' -> LT Pt H' →
    H r = none -> H' r = some (.tup [u, .ref cl]) -> FrT H' u x -> H cl = none -> a9C K H' cl L.2 qs -> cl ≠ ha -> cl ≠ wa -> Q (.ref r) H') ∧
  (¬ GoodK h kt kg -> ∀ H', Same H H' -> E (.ref CB) none H') /\ (GoodK h kt kg -> 16 <= L.1.length -> ∀ H', Same H H' -> E (.ref CT) none H')
theorem scComeK : i8 ["self", "house", "ahead"] ["self", "house"] (d9 P3) := ⟨rfl, rfl, rfl, by decide +kernel, rfl, by decide +kernel, by decide +kernel⟩
set_option maxHeartbeats 2000000 in
theorem a6w {f1 f2 f3 : Addr} {d1 d2 d3 : FuncData} (F : Fun K "come" "Kept.come" P3 f fd) (TKd : TK K C) (Ct : O9 P w K mg base D4 n C "turn_to" ["self", "houses"] (a0l K C Pt) f1 d1)
    (Co : a1f P w K mg base n "with_one_more" ["houses", "house", "many_takes", "many_gives"] (a1w K CB CT) f2 d2) (Cc : Cal P w K mg base n "changes" ["ahead", "behind"] (a4c K) f3 d3) :
    FnOk P w K mg base (P1 P w) (n + 1) f fd ["self", "house"] (a0m K C CB CT Pt) := by
  refine F.ok1 scComeK (fun vs H Q E h => ?_) (fun cdv A outer s H vs Q E hr h => ?_)
  . obtain ⟨p, pa, v, h, kt, kg, z, L, past, lo, rfl, _⟩ := h
    rfl
  obtain ⟨p, pa, v, h, kt, kg, z, L, past, lo, rfl, KP, ft, hH, hs, hG, h16, hql, hpl, LTH, q, hB, hT⟩ := h
  refine ⟨_, d8 (l0 (i := 2) scComeK.nd rfl (Or.inl rfl) (j3 (pv 0) rfl))
    (d8 (u0 (G1 (pv 0) TKd.cl Ct.me Ct.ok hr Ct.bd .nil p9 (a0 (j6 Co.ok hr rfl Co.m Co.k Co.b .nil W2 (a0 (j3 (pv 0) rfl) (a0 (pv 1) (a0 (j3 (pv 0) rfl) (a0 (j3 (pv 0) rfl) d7))))) d7)))
    (PSs.nox (g0 (m6 (x5 (a0 (m8 j5 (j3 (pv 0) rfl) (J8 C2 e8) (fun _ _ => rfl)) (a0 (j6 Cc.ok hr rfl Cc.m Cc.k Cc.b .nil p9 (a0 (pv 2) (a0 (x9 A8 (j3 (pv 0) rfl) B1 (B6 (J8 C2 e8))) d7))) d7))))))), ?_⟩
  obtain ⟨dx, ta, wa, pv0, hp, hlv, hpa, hps⟩ := KP.ex
  obtain ⟨lv1, lv2, ⟨xs, hta, hxs⟩, ys, hwa, hys⟩ := hlv
  have xl : xs.length = L.1.length := Paired.length hxs
  refine ⟨_, rfl, p, C, dx, _, _, rfl, hp, TKd.cl, TKd.nW, rfl, ?_⟩
  refine ⟨_, rfl, p, dx, _, rfl, hp, rfl, ?_⟩
  refine ⟨_, rfl, p, C, dx, _, _, rfl, hp, TKd.cl, TKd.nH, rfl, _, rfl, _, rfl, p, C, dx, _, _, rfl, hp, TKd.cl, TKd.nT, rfl, _, rfl, p, C, dx, _, _, rfl, hp, TKd.cl, TKd.nG, rfl, ?_⟩
  refine ⟨ta, v, xs, h, (kt : Int), (kg : Int), rfl, hta, by omega, hH, hs, N3 (by have := ft.t4; omega), N3 (by have := ft.g4; omega), fun g1 l16 r H1 e1 hr0 hr1 => ?_, fun bad H1 e1 => hB bad H1 e1, fun g1 l16 H1 e1 => hT g1 (by omega) H1 e1⟩
  have nrpa : r ≠ pa := fun z0 => by subst z0; rw [hpa] at hr0; cases hr0
  have gh := g1.hg
  refine ⟨p, r, pa, kt, kg, z, L, past, lo, xs ++ [v], L.1 ++ [h], rfl, KP.same e1, ft, hr1, Paired.app (Bk.same e1 hxs) (.cons (hH.same e1) .nil), fun g hg => ?_, by rw [List.length_append, List.length_singleton]; omega, nrpa, hpl, LTH.same e1, fun H2 wl qs KP2 sh hwl lf L2 => ?_⟩
  . rcases List.mem_append.mp hg with hg | hg
    . exact hG g hg
    . rw [List.mem_singleton.mp hg]; exact gh
  have lf0 : Left Pt p pa H H2 := fun b o n1 n2 n3 q0 => lf b o n1 n2 n3 (e1 _ _ q0)
  have qlen : qs.length = L.1.length + 1 := by rw [sh.1, List.length_append]; rfl
  obtain ⟨qs0, x, rfl, ql0⟩ := B8 qlen
  obtain ⟨dx2, ta2, wa2, pv2, hp2, ⟨m1, m2, _, ys2, hwa2, hys2⟩, hpa2, _⟩ := KP2.ex
  have yl2 : ys2.length = L.1.length + 1 := by rw [x8 hys2, qlen]
  obtain ⟨ys0, u, rfl, yl0⟩ := B8 yl2
  obtain ⟨hy0, hu⟩ := A0 hys2
  -- the shares ahead
  have nwp : wa ≠ p := t7 hwa hp nofun
  have nwa : wa ≠ pa := fun z0 => KP.no (z0 ▸ lv2)
  have nwt : wa ≠ Pt := LTH.ne hwa nofun
  have hwa' : H2 wa = some (.lst ys) := lf0 wa _ nwp nwt nwa hwa
  have hys' : PySem.Paired (FrT H2) ys L.2 := Paired.imp' (fun v q ⟨a, h1, h2⟩ => ⟨a, h1, lf0 a _ (t7 h2 hp nofun) (LTH.ne h2 nofun) (t7 h2 hpa nofun) h2⟩) hys
  have yl : ys.length = L.2.length := x8 hys
  refine ⟨_, rfl, p, C, dx2, _, _, rfl, hp2, TKd.cl, TKd.nW, rfl, _, rfl, wa2, _, _, _, rfl, rfl, SqL.of hwa2, V1 ys0 u, ?_⟩
  refine ⟨_, rfl, _, rfl, p, C, dx2, _, _, rfl, hp2, TKd.cl, TKd.nW, rfl, _, rfl, _, rfl, wa2, _, rfl, SqL.of hwa2, fun c0 hc0 => ?_⟩
  rw [(a6g (ys0 ++ [u]) (by simp)).1]
  have ec : (ys0 ++ [u]).take ((ys0 ++ [u]).length - 1) = ys0 := by simp
  rw [ec]
  have s3 := Same.new hc0 (.lst ys0)
  refine ⟨wa, c0, ys, ys0, L.2, qs0, rfl, SqL.of (s3 _ _ hwa'), SqL.of upd_same, FrL.same s3 (O8 hys'), FrL.same s3 (O8 hy0), by omega, fun cl ts H4 e4 hcl0 hcl ch => ?_⟩
  refine ⟨(by show 2 <= sizeLine; decide), fun rt hrt => ?_⟩
  have s5 := Same.new hrt (.tup [u, V.ref cl])
  have s25 := s3.trans (e4.trans s5)
  have free : ∀ {b : Addr}, H2 b = none -> H b = none := fun h => e1.free (lf.free (by rw [hp2]; nofun) (by rw [hpa2]; nofun) L2 h)
  have hclN : H2 cl = none := s3.free hcl0
  have hrtN : H2 rt = none := (s3.trans e4).free hrt
  have ncl : ∀ b ∈ r :: wl :: lo, cl ≠ b := fun b hb z0 => by
    subst z0
    obtain ⟨zs, hz⟩ := KP2.ls cl hb
    rw [hz] at hclN; cases hclN
  refine q g1 (by omega) _ r wl rt cl u qs0 x (KP2.same s25) sh hr0 (e1.free hwl) (fun b o n1 n2 n3 q0 => s25 _ _ (lf0 b o n1 n2 n3 q0)) (L2.same s25) (free hrtN) upd_same (hu.same s25) (free hclN) ?_ (ncl r (.head _)) (ncl wl (.tail _ (.head _)))
  exact ⟨ys, ys0, ts, FrL.same s25 (O8 hys'), FrL.same s25 (O8 hy0), s5 _ _ hcl, a4T s5 ch⟩
end
end Rim
namespace Rim
open PySem L2 Fr
theorem a1a {α β : Type} {F : α -> β -> Prop} {a : List α} {b : List β} (i : Nat) (h : PySem.Paired F a b) : PySem.Paired F (P0 a i) (P0 b i) := Paired.app (Paired.take i h) (Paired.drop (i + 1) h)
section
variable {P : Program} {w : World} {K : W.Frag} {mg : Str -> Option Value} {base : Heap} {f C CN CB CT CL Pt : Addr} {fd : FuncData} {n : Nat}
def a5F (K : W.Frag) (C CN Pt : Addr) : Sp := fun vs H Q E => ∃ (p pa : Addr) (num : Int) (kt kg : Nat) (z : Str) (L : E2) (past : List E2) (lo : List Addr), vs = [.ref p, .int num] /\ KpAt K C H p kt kg z L past pa lo /\ Fit z kt kg /\ (∀ g ∈ L.1, HG (10 ^ 9) kt kg g) /\ L.1.length <= 16 /\ L.2.length = L.1.length ∧
  past.length <= 1000 /\ num.natAbs.log2 < 1920 /\ LT Pt H ∧
  (∀ i : Nat, num = (i : Int) -> i < L.1.length -> ∀ (H' : Hp) (ha wa cl : Addr) (qs : List Q2), KpAt K C H' p kt kg z (P0 L.1 i, qs) (past ++ [L]) pa (ha :: wa :: lo) -> Shs z (P0 L.1 i) kt kg qs -> H ha = none -> H wa = none -> Left Pt p pa H H' -> LT Pt H' →
    H cl = none -> a9C K H' cl (P0 L.2 i) qs -> cl ≠ ha -> cl ≠ wa -> Q (.ref cl) H') ∧
  (¬ a1i L.1.length num -> ∀ H', Same H H' -> E (.ref CN) none H')
theorem scGoK : i8 ["self", "number", "houses", "ahead"] ["self", "number"] (d9 Y4) := ⟨rfl, rfl, rfl, by decide +kernel, rfl, by decide +kernel, by decide +kernel⟩
set_option maxHeartbeats 2000000 in
theorem b0k {f1 f2 f3 : Addr} {d1 d2 d3 : FuncData} (F : Fun K "go" "Kept.go" Y4 f fd) (TKd : TK K C) (Ct : O9 P w K mg base D4 n C "turn_to" ["self", "houses"] (a0l K C Pt) f1 d1)
    (Cw : a1f P w K mg base n "without" ["houses", "number"] (a1q K CN) f2 d2) (Cc : Cal P w K mg base n "changes" ["ahead", "behind"] (a4c K) f3 d3) :
    FnOk P w K mg base (P1 P w) (n + 1) f fd ["self", "number"] (a5F K C CN Pt) := by
  refine F.ok1 scGoK (fun vs H Q E h => ?_) (fun cdv A outer s H vs Q E hr h => ?_)
  . obtain ⟨p, pa, num, kt, kg, z, L, past, lo, rfl, _⟩ := h
    rfl
  obtain ⟨p, pa, num, kt, kg, z, L, past, lo, rfl, KP, ft, hG, h16, hql, hpl, lm, LTH, q, hN⟩ := h
  refine ⟨_, d8 (l0 (i := 2) scGoK.nd rfl (Or.inl rfl) (j6 Cw.ok hr rfl Cw.m Cw.k Cw.b .nil W2 (a0 (j3 (pv 0) rfl) (a0 (pv 1) d7))))
    (d8 (l0 (i := 3) scGoK.nd rfl (Or.inl rfl) (j6 Cw.ok hr rfl Cw.m Cw.k Cw.b .nil W2 (a0 (j3 (pv 0) rfl) (a0 (pv 1) d7))))
    (PSs.nox (d8 (u0 (G1 (pv 0) TKd.cl Ct.me Ct.ok hr Ct.bd .nil p9 (a0 (pv 2) d7)))
    (g0 (m6 (j6 Cc.ok hr rfl Cc.m Cc.k Cc.b .nil p9 (a0 (pv 3) (a0 (j3 (pv 0) rfl) d7)))))))), ?_⟩
  obtain ⟨dx, ta, wa, pv0, hp, hlv, hpa, hps⟩ := KP.ex
  obtain ⟨lv1, lv2, ⟨xs, hta, hxs⟩, ys, hwa, hys⟩ := hlv
  have xl : xs.length = L.1.length := Paired.length hxs
  have yl : ys.length = L.2.length := x8 hys
  refine ⟨_, rfl, p, C, dx, _, _, rfl, hp, TKd.cl, TKd.nH, rfl, _, rfl, ta, xs, num, rfl, SqL.of hta, by omega, lm, fun i r H1 hi hil e1 hr0 hr1 => ?_, fun bad => hN (by rw [<- xl]; exact bad) H (Same.refl _)⟩
  subst hi
  refine ⟨_, rfl, p, C, dx, _, _, rfl, e1 _ _ hp, TKd.cl, TKd.nW, rfl, _, rfl, wa, ys, (i : Int), rfl, SqL.of (e1 _ _ hwa), by omega, lm, fun i' r2 H2 hi' _ e2 hr20 hr21 => ?_, fun bad => absurd ⟨by omega, by omega⟩ bad⟩
  have : i' = i := by omega
  subst this
  have e12 := e1.trans e2
  have nrpa : r ≠ pa := fun z0 => by subst z0; rw [hpa] at hr0; cases hr0
  refine ⟨_, rfl, p, dx, _, rfl, e12 _ _ hp, rfl, _, rfl, ?_⟩
  refine ⟨p, r, pa, kt, kg, z, L, past, lo, P0 xs i', P0 L.1 i', rfl, KP.same e12, ft, e2 _ _ hr1, Bk.same e12 (hxs.out i'), fun g hg => hG g (a2o hg), Nat.le_trans a0I h16, nrpa, hpl, LTH.same e12, fun H3 wl qs KP2 sh hwl lf L2 => ?_⟩
  have lf0 : Left Pt p pa H H3 := fun b o n1 n2 n3 q0 => lf b o n1 n2 n3 (e12 _ _ q0)
  obtain ⟨dx2, ta2, wa2, pv2, hp2, ⟨m1, m2, _, ys2, hwa2, hys2⟩, hpa2, _⟩ := KP2.ex
  have nr2p : r2 ≠ p := t7 hr21 (e12 _ _ hp) nofun
  have nr2a : r2 ≠ pa := fun z0 => by subst z0; rw [e1 _ _ hpa] at hr20; cases hr20
  have nr2t : r2 ≠ Pt := (LTH.same e12).ne hr21 nofun
  have hr23 : H3 r2 = some (.lst (P0 ys i')) := lf r2 _ nr2p nr2t nr2a hr21
  have hys' : PySem.Paired (FrT H3) ys L.2 := Paired.imp' (fun v q ⟨a, h1, h2⟩ => ⟨a, h1, lf0 a _ (t7 h2 hp nofun) (LTH.ne h2 nofun) (t7 h2 hpa nofun) h2⟩) hys
  have ll : (P0 ys i').length <= 1000 := Nat.le_trans a0I (by omega)
  refine ⟨_, rfl, _, rfl, p, C, dx2, _, _, rfl, hp2, TKd.cl, TKd.nW, rfl, r2, wa2, P0 ys i', ys2, P0 L.2 i', qs, rfl, SqL.of hr23, SqL.of hwa2, O8 (a1a i' hys'), O8 hys2, ll, fun cl ts H4 e4 hcl0 hcl ch => ?_⟩
  have free : ∀ {b : Addr}, H3 b = none -> H b = none := fun h => e12.free (lf.free (by rw [hp2]; nofun) (by rw [hpa2]; nofun) L2 h)
  have ncl : ∀ b ∈ r :: wl :: lo, cl ≠ b := fun b hb z0 => by
    subst z0
    obtain ⟨zs, hz⟩ := KP2.ls cl hb
    rw [hz] at hcl0; cases hcl0
  exact q i' rfl (by omega) H4 r wl cl qs (KP2.same e4) sh hr0 (e12.free hwl) (fun b o n1 n2 n3 q0 => e4 _ _ (lf0 b o n1 n2 n3 q0)) (L2.same e4) (free hcl0) ⟨_, _, ts, FrL.same e4 (O8 (a1a i' hys')), FrL.same e4 (O8 hys2), hcl, ch⟩ (ncl r (.head _)) (ncl wl (.tail _ (.head _)))
def a2z {α : Type} (l : List α) (i : Nat) (x : α) : List α := (l.take i ++ [x]) ++ l.drop (i + 1)
def a0A (K : W.Frag) (C CN CB Pt : Addr) : Sp := fun vs H Q E => ∃ (p pa : Addr) (num : Int) (v : V) (h : h8) (kt kg : Nat) (z : Str) (L : E2) (past : List E2) (lo : List Addr), vs = [.ref p, .int num, v] /\ KpAt K C H p kt kg z L past pa lo /\ Fit z kt kg /\ HS K H v h /\ N4 h /\ (∀ g ∈ L.1, HG (10 ^ 9) kt kg g) /\ L.1.length <= 16 /\ L.2.length = L.1.length ∧
  past.length <= 1000 /\ num.natAbs.log2 < 1920 /\ LT Pt H ∧
  (∀ i : Nat, num = (i : Int) -> i < L.1.length -> GoodK h kt kg -> ∀ (H' : Hp) (ha wa cl : Addr) (qs : List Q2), KpAt K C H' p kt kg z (a2z L.1 i h, qs) (past ++ [L]) pa (ha :: wa :: lo) -> Shs z (a2z L.1 i h) kt kg qs -> H ha = none -> H wa = none -> Left Pt p pa H H' -> LT Pt H' →
    H cl = none -> a9C K H' cl L.2 qs -> cl ≠ ha -> cl ≠ wa -> Q (.ref cl) H') ∧
  (¬ a1i L.1.length num -> ∀ H', Same H H' -> E (.ref CN) none H') /\ (a1i L.1.length num -> ¬ GoodK h kt kg -> ∀ H', Same H H' -> E (.ref CB) none H')
theorem scAlterK : i8 ["self", "number", "house", "ahead"] ["self", "number", "house"] (d9 N7) := ⟨rfl, rfl, rfl, by decide +kernel, rfl, by decide +kernel, by decide +kernel⟩
theorem a2I {α : Type} {l : List α} {i : Nat} {x g : α} (h : g ∈ a2z l i x) : g = x \/ g ∈ l := by
  unfold a2z at h
  simp only [List.mem_append, List.mem_singleton] at h
  rcases h with (h | h) | h
  . exact .inr (List.mem_of_mem_take h)
  . exact .inl h
  . exact .inr (List.mem_of_mem_drop h)
theorem a2j {α : Type} {l : List α} {i : Nat} {x : α} (h : i < l.length) : (a2z l i x).length = l.length := by unfold a2z; simp; omega
set_option maxHeartbeats 2000000 in
theorem a5d {f1 f2 f3 : Addr} {d1 d2 d3 : FuncData} (F : Fun K "alter" "Kept.alter" N7 f fd) (TKd : TK K C) (Ct : O9 P w K mg base D4 n C "turn_to" ["self", "houses"] (a0l K C Pt) f1 d1)
    (Ca : a1f P w K mg base n "with_another" ["houses", "number", "house", "many_takes", "many_gives"] (a1D K CN CB) f2 d2) (Cc : Cal P w K mg base n "changes" ["ahead", "behind"] (a4c K) f3 d3) :
    FnOk P w K mg base (P1 P w) (n + 1) f fd ["self", "number", "house"] (a0A K C CN CB Pt) := by
  refine F.ok1 scAlterK (fun vs H Q E h => ?_) (fun cdv A outer s H vs Q E hr h => ?_)
  . obtain ⟨p, pa, num, v, h, kt, kg, z, L, past, lo, rfl, _⟩ := h
    rfl
  obtain ⟨p, pa, num, v, h, kt, kg, z, L, past, lo, rfl, KP, ft, hH, hs, hG, h16, hql, hpl, lm, LTH, q, hN, hB⟩ := h
  refine ⟨_, d8 (l0 (i := 3) scAlterK.nd rfl (Or.inl rfl) (j3 (pv 0) rfl))
    (d8 (u0 (G1 (pv 0) TKd.cl Ct.me Ct.ok hr Ct.bd .nil p9 (a0 (j6 Ca.ok hr rfl Ca.m Ca.k Ca.b .nil W2 (a0 (j3 (pv 0) rfl) (a0 (pv 1) (a0 (pv 2) (a0 (j3 (pv 0) rfl) (a0 (j3 (pv 0) rfl) d7)))))) d7)))
    (PSs.nox (g0 (m6 (j6 Cc.ok hr rfl Cc.m Cc.k Cc.b .nil p9 (a0 (pv 3) (a0 (j3 (pv 0) rfl) d7))))))), ?_⟩
  obtain ⟨dx, ta, wa, pv0, hp, hlv, hpa, hps⟩ := KP.ex
  obtain ⟨lv1, lv2, ⟨xs, hta, hxs⟩, ys, hwa, hys⟩ := hlv
  have xl : xs.length = L.1.length := Paired.length hxs
  have yl : ys.length = L.2.length := x8 hys
  refine ⟨_, rfl, p, C, dx, _, _, rfl, hp, TKd.cl, TKd.nW, rfl, ?_⟩
  refine ⟨_, rfl, p, dx, _, rfl, hp, rfl, ?_⟩
  refine ⟨_, rfl, p, C, dx, _, _, rfl, hp, TKd.cl, TKd.nH, rfl, _, rfl, _, rfl, _, rfl, p, C, dx, _, _, rfl, hp, TKd.cl, TKd.nT, rfl, _, rfl, p, C, dx, _, _, rfl, hp, TKd.cl, TKd.nG, rfl, ?_⟩
  refine ⟨ta, v, xs, h, num, (kt : Int), (kg : Int), rfl, hta, by omega, hH, hs, lm, N3 (by have := ft.t4; omega), N3 (by have := ft.g4; omega), fun i hi hil g1 r H1 e1 hr0 hr1 => ?_, fun bad H1 e1 => hN (by rw [<- xl]; exact bad) H1 e1, fun gd bad H1 e1 => hB (by rw [<- xl]; exact gd) bad H1 e1⟩
  subst hi
  have nrpa : r ≠ pa := fun z0 => by subst z0; rw [hpa] at hr0; cases hr0
  refine ⟨p, r, pa, kt, kg, z, L, past, lo, _, a2z L.1 i h, rfl, KP.same e1, ft, hr1, Paired.app (Paired.app (Paired.take i (Bk.same e1 hxs)) (.cons (hH.same e1) .nil)) (Paired.drop (i + 1) (Bk.same e1 hxs)), fun g hg => ?_, by rw [a2j (by omega)]; exact h16, nrpa, hpl, LTH.same e1, fun H3 wl qs KP2 sh hwl lf L2 => ?_⟩
  . rcases a2I hg with rfl | hg
    . exact g1.hg
    . exact hG g hg
  have lf0 : Left Pt p pa H H3 := fun b o n1 n2 n3 q0 => lf b o n1 n2 n3 (e1 _ _ q0)
  obtain ⟨dx2, ta2, wa2, pv2, hp2, ⟨m1, m2, _, ys2, hwa2, hys2⟩, hpa2, _⟩ := KP2.ex
  have nwp : wa ≠ p := t7 hwa hp nofun
  have nwa : wa ≠ pa := fun z0 => KP.no (z0 ▸ lv2)
  have nwt : wa ≠ Pt := LTH.ne hwa nofun
  have hwa' : H3 wa = some (.lst ys) := lf0 wa _ nwp nwt nwa hwa
  have hys' : PySem.Paired (FrT H3) ys L.2 := Paired.imp' (fun v q ⟨a, h1, h2⟩ => ⟨a, h1, lf0 a _ (t7 h2 hp nofun) (LTH.ne h2 nofun) (t7 h2 hpa nofun) h2⟩) hys
  refine ⟨_, rfl, _, rfl, p, C, dx2, _, _, rfl, hp2, TKd.cl, TKd.nW, rfl, wa, wa2, ys, ys2, L.2, qs, rfl, SqL.of hwa', SqL.of hwa2, O8 hys', O8 hys2, by omega, fun cl ts H4 e4 hcl0 hcl ch => ?_⟩
  have free : ∀ {b : Addr}, H3 b = none -> H b = none := fun h => e1.free (lf.free (by rw [hp2]; nofun) (by rw [hpa2]; nofun) L2 h)
  have ncl : ∀ b ∈ r :: wl :: lo, cl ≠ b := fun b hb z0 => by
    subst z0
    obtain ⟨zs, hz⟩ := KP2.ls cl hb
    rw [hz] at hcl0; cases hcl0
  exact q i rfl (by omega) g1 H4 r wl cl qs (KP2.same e4) sh hr0 (e1.free hwl) (fun b o n1 n2 n3 q0 => e4 _ _ (lf0 b o n1 n2 n3 q0)) (L2.same e4) (free hcl0) ⟨_, _, ts, FrL.same e4 (O8 hys'), FrL.same e4 (O8 hys2), hcl, ch⟩ (ncl r (.head _)) (ncl wl (.tail _ (.head _)))
def a4h (K : W.Frag) (C CL Pt : Addr) : Sp := fun vs H Q E => ∃ (p pa : Addr) (kt kg : Nat) (z : Str) (L : E2) (past : List E2) (lo : List Addr), vs = [.ref p] /\ KpAt K C H p kt kg z L past pa lo /\ LT Pt H ∧
  (∀ (L0 : E2) (past0 : List E2) (H' : Hp), past = past0 ++ [L0] -> KpAt K C H' p kt kg z L0 past0 pa lo -> Left Pt p pa H H' -> LT Pt H' -> Q .non H') /\ (past = [] -> ∀ H', Same H H' -> E (.ref CL) none H')
theorem a7F : i8 ["self"] ["self"] (d9 P2) := ⟨rfl, rfl, rfl, by decide +kernel, rfl, by decide +kernel, by decide +kernel⟩
theorem LamTab.writeI {Pt : Addr} {H : Hp} {p C dx : Addr} {fs : List (Str × V)} {o : HO} (T : LT Pt H) (h : H p = some (.ins C dx fs)) : LT Pt (j9 H p o) := by
  rcases T with x | ⟨c, x, y⟩
  . exact .inl (by rw [c9 (fun z0 => by rw [z0, h] at x; cases x)]; exact x)
  . exact .inr ⟨c, by rw [c9 (fun z0 => by rw [z0, h] at x; cases x)]; exact x, by rw [c9 (fun z0 => by rw [z0, h] at y; cases y)]; exact y⟩
set_option maxHeartbeats 2000000 in
theorem a6z (F : Fun K "back" "Kept.back" P2 f fd) (TKd : TK K C) (kL : O1 K CL) (mL : mg "NothingLeft" = some (.ref CL)) : FnOk P w K mg base (P1 P w) (n + 1) f fd ["self"] (a4h K C CL Pt) := by
  refine F.ok1 a7F (fun vs H Q E h => ?_) (fun cdv A outer s H vs Q E hr h => ?_)
  . obtain ⟨p, pa, kt, kg, z, L, past, lo, rfl, _⟩ := h
    rfl
  obtain ⟨p, pa, kt, kg, z, L, past, lo, rfl, KP, LTH, q, hL⟩ := h
  refine ⟨_, d8 (v6 (Y3 (a5L (j3 (pv 0) rfl) (fun _ => rfl))) (g0 (V9 kL rfl mL hr.hd (a0 B7 d7))) o4)
    (PSs.nox (g0 (M6 (a5X PySem.F.plainAttrs_list PySem.F.slot_list_pop PySem.F.type_list_pop a6y (j3 (pv 0) rfl)) (X7 rfl (m7 (a7t (pv 0)) (m7 (a7t (pv 0)) A9)))))), ?_⟩
  obtain ⟨dx, ta, wa, pv0, hp, hlv, hpa, hps⟩ := KP.ex
  have lpv : pv0.length = past.length := x8 hps
  refine ⟨_, rfl, p, C, dx, _, _, rfl, hp, TKd.cl, TKd.nP, rfl, _, .inl ⟨_, SqL.of hpa, rfl⟩, ?_⟩
  rcases List.eq_nil_or_concat past with e | ⟨past0, L0, e⟩
  . subst e
    have : pv0 = [] := List.eq_nil_of_length_eq_zero (by simpa using lpv)
    subst this
    refine a0c ?_
    exact ⟨(by show 1 <= 1000; decide), hL rfl H (Same.refl _)⟩
  . rw [List.concat_eq_append] at e
    subst e
    obtain ⟨pv1, v, rfl, l1⟩ := B8 (l := pv0) (k := past0.length) (by rw [lpv]; simp)
    obtain ⟨hps1, t, ta0, wa0, rfl, ht, hl0⟩ := A0 hps
    have ne0 : (!(pv1 ++ [V.ref t]).isEmpty) = true := by simp
    rw [ne0]
    refine K2 ?_
    have gl : (pv1 ++ [V.ref t])[(pv1 ++ [V.ref t]).length - 1]? = some (V.ref t) := by simp
    refine ⟨_, rfl, p, C, dx, _, _, rfl, hp, TKd.cl, TKd.nP, rfl, .inl ⟨rfl, _, SqL.of hpa⟩, pa, _, _, rfl, rfl, hpa, gl, ?_⟩
    have npp : p ≠ pa := t7 hp hpa nofun
    have ntp : t ≠ p := t7 ht hp nofun
    have nta : t ≠ pa := t7 ht hpa nofun
    refine ⟨t, _, rfl, SqT.of (by rw [c9 nta]; exact ht), rfl, _, _, rfl, ⟨_, rfl, p, C, dx, _, rfl, by rw [c9 npp]; exact hp, TKd.cl, TKd.nH, (by show 6 < 1000; decide), _, _, rfl, ⟨_, rfl, p, C, dx, _, rfl, upd_same, TKd.cl, TKd.nW, (by show 6 < 1000; decide), rfl, ?_⟩⟩⟩
    rw [K4]
    have ed : (pv1 ++ [V.ref t]).dropLast = pv1 := by simp
    rw [ed]
    have fr : Fr0 (fun b => b = p \/ b = pa) H (j9 (j9 H pa (HO.lst pv1)) p (HO.ins C dx (G9 "worth" (V.ref wa0) (G9 "there" (V.ref ta0) (KFs kt kg z ta wa pa))))) := by
      refine ⟨fun b o hx e => ?_, fun x hx => ?_⟩
      . rw [c9 fun z => hx (.inl z), c9 fun z => hx (.inr z)]; exact e
      . rcases hx with rfl | rfl
        . exact S4 hp
        . exact D5 hpa
    have nlo : ∀ b ∈ lo, ¬ (b = p \/ b = pa) := fun b hb hx => by
      obtain ⟨zs, hz⟩ := KP.ls b hb
      rcases hx with rfl | rfl
      . rw [hp] at hz; cases hz
      . exact KP.no hb
    refine q L0 past0 _ (by simp) ⟨KP.no, fun b hb => ?_, dx, ta0, wa0, pv1, upd_same, hl0.fr0 fr nlo fun _ h => h, by rw [c9 npp.symm, upd_same], PastAt.fr0 fr nlo (fun _ h => h) hps1⟩ (fun b o n1 n2 n3 e => fr.k b o (fun hx => hx.elim n1 n3) e) ?_
    . obtain ⟨zs, hz⟩ := KP.ls b hb
      exact ⟨zs, fr.k _ _ (nlo b hb) hz⟩
    . exact LamTab.writeI (LTH.write hpa) (by rw [c9 npp]; exact hp)
def a1A (K : W.Frag) (C : Addr) : Sp := fun vs H Q _ => ∃ (p pa : Addr) (kt kg : Nat) (z : Str) (L : E2) (past : List E2) (lo : List Addr), vs = [.ref p] /\ KpAt K C H p kt kg z L past pa lo ∧
  ∀ (l : Addr) (xs : List V) (H' : Hp), Same H H' -> H l = none -> H' l = some (.lst xs) -> Bk K H' xs L.1 -> Q (.ref l) H'
theorem a5B : i8 ["self"] ["self"] (d9 K9) := ⟨rfl, rfl, rfl, by decide +kernel, rfl, by decide +kernel, by decide +kernel⟩
theorem a3o (F : Fun K "houses" "Kept.houses" K9 f fd) (T : t9 mg) (TKd : TK K C) : FnOk P w K mg base D4 (n + 1) f fd ["self"] (a1A K C) := by
  refine F.ok a5B (fun vs H Q E h => ?_) (fun cdv A outer s H vs Q E hr h => ?_)
  . obtain ⟨p, pa, kt, kg, z, L, past, lo, rfl, _⟩ := h
    rfl
  obtain ⟨p, pa, kt, kg, z, L, past, lo, rfl, KP, q⟩ := h
  refine ⟨_, g0 (m6 (u9 A5 rfl T.list PyProof.Rows.boot_list (a0 (j3 (pv 0) rfl) d7))), ?_⟩
  obtain ⟨dx, ta, wa, pv0, hp, ⟨lv1, lv2, ⟨xs, hta, hxs⟩, ys, hwa, hys⟩, hpa, hps⟩ := KP.ex
  refine ⟨_, rfl, p, C, dx, _, _, rfl, hp, TKd.cl, TKd.nH, rfl, ta, xs, rfl, .inl (SqL.of hta), fun l hl => ?_⟩
  have s1 := Same.new hl (.lst xs)
  exact q l xs _ s1 hl upd_same (Bk.same s1 hxs)
end
end Rim
namespace L2
open PySem PySem.W
theorem U6 {K : Frag} {C : Addr} {B : List Value} {nid : String} (q : excIn K C B nid = true) : ∃ nm qn N bs bm hdct sn sub ab col dd k0 k1 k2 k3 k5, K.lookup C = some (excClassObj nm qn C N bs bm hdct sn sub ab col dd k0 k1 k2 k3 k5 nid) /\ nsOkIn K N = true /\ nsIn K N "__init__" = some none /\ tailIn K B bm = true := by
  unfold excIn at q
  split at q
  . rename_i e1 e2 e3 lk
    split at q
    . rename_i C' bm w0 w1 w2 w3 nn w5 em es
      simp only [Bool.and_eq_true, beq_iff_eq, Bool.not_eq_true'] at q
      obtain ⟨⟨⟨⟨⟨u1, u2⟩, u3⟩, u4⟩, u5⟩, u6⟩ := q
      cases u1
      cases u2
      obtain ⟨n1, n2, n3, n4, n5, n6, n7, n8, n9, n10, n11⟩ := e2
      obtain ⟨ls⟩ := e3
      replace em : n3 = _ := em
      replace u3 : n11 = false := u3
      replace es : ls = _ := es
      subst em u3 es
      exact ⟨n1, n5, n4, n2, bm, n6, n7, n8, n9, n10, e1, w0, w1, w2, w3, w5, lk, u5, u6, u4⟩
    . cases q
  . cases q
def FunI (K : Frag) (x qual : Str) (st : Stmt) (f : Addr) (cd : Value) : Prop := ∃ oc od kV dc pm an ct sl, K.lookup f = some ⟨oc, od, .func (fnOf x qual (A3 st) (p7 st) (d9 st) .none kV dc pm an cd ct), sl⟩ /\ codeIn K cd qual = true /\ keepIn K (.ref f) = true
theorem fun_in {K : Frag} {x qual : Str} {st : Stmt} {f : Addr} {cd oc kV dc pm ct : Value} {od an : Option Addr} {sl : Array (Option Value)} (l : K.lookup f = some ⟨oc, od, .func (fnOf x qual (A3 st) (p7 st) (d9 st) .none kV dc pm an cd ct), sl⟩) (c : codeIn K cd qual = true) (k : keepIn K (.ref f) = true) : FunI K x qual st f cd := ⟨_, _, _, _, _, _, _, _, l, c, k⟩
theorem FunI.fn {K : Frag} {x qual : Str} {st : Stmt} {f : Addr} {cd : Value} (h : FunI K x qual st f cd) : ∃ fd, Fun K x qual st f fd /\ fd.code = cd /\ keepIn K (.ref f) = true := by
  obtain ⟨_, _, _, _, _, _, _, _, l, c, k⟩ := h
  exact ⟨_, a6D l c k, rfl, k⟩
theorem Fun.b1 {K : Frag} {x qual : Str} {st : Stmt} {f : Addr} {fd : FuncData} {p0 : Str} (F : Fun K x qual st f fd) (h : ∀ (kV doc pm : Value) (an : Option Addr) (cdv ct v0 : Value), bindArgs (fnOf x qual (A3 st) (p7 st) (d9 st) .none kV doc pm an cdv ct) ⟨[v0], []⟩ = pure [(p0, v0)]) : Binds K fd [p0] [] :=
  F.binds fun a b c d e g us hl => match us, hl with | [v0], _ => h a b c d e g v0
theorem Fun.b2 {K : Frag} {x qual : Str} {st : Stmt} {f : Addr} {fd : FuncData} {p0 p1 : Str} (F : Fun K x qual st f fd) (h : ∀ (kV doc pm : Value) (an : Option Addr) (cdv ct v0 v1 : Value), bindArgs (fnOf x qual (A3 st) (p7 st) (d9 st) .none kV doc pm an cdv ct) ⟨[v0, v1], []⟩ = pure [(p0, v0), (p1, v1)]) : Binds K fd [p0, p1] [] :=
  F.binds fun a b c d e g us hl => match us, hl with | [v0, v1], _ => h a b c d e g v0 v1
theorem Fun.b3 {K : Frag} {x qual : Str} {st : Stmt} {f : Addr} {fd : FuncData} {p0 p1 p2 : Str} (F : Fun K x qual st f fd) (h : ∀ (kV doc pm : Value) (an : Option Addr) (cdv ct v0 v1 v2 : Value), bindArgs (fnOf x qual (A3 st) (p7 st) (d9 st) .none kV doc pm an cdv ct) ⟨[v0, v1, v2], []⟩ = pure [(p0, v0), (p1, v1), (p2, v2)]) : Binds K fd [p0, p1, p2] [] :=
  F.binds fun a b c d e g us hl => match us, hl with | [v0, v1, v2], _ => h a b c d e g v0 v1 v2
theorem Fun.b4 {K : Frag} {x qual : Str} {st : Stmt} {f : Addr} {fd : FuncData} {p0 p1 p2 p3 : Str} (F : Fun K x qual st f fd) (h : ∀ (kV doc pm : Value) (an : Option Addr) (cdv ct v0 v1 v2 v3 : Value), bindArgs (fnOf x qual (A3 st) (p7 st) (d9 st) .none kV doc pm an cdv ct) ⟨[v0, v1, v2, v3], []⟩ = pure [(p0, v0), (p1, v1), (p2, v2), (p3, v3)]) : Binds K fd [p0, p1, p2, p3] [] :=
  F.binds fun a b c d e g us hl => match us, hl with | [v0, v1, v2, v3], _ => h a b c d e g v0 v1 v2 v3
theorem Fun.b5 {K : Frag} {x qual : Str} {st : Stmt} {f : Addr} {fd : FuncData} {p0 p1 p2 p3 p4 : Str} (F : Fun K x qual st f fd) (h : ∀ (kV doc pm : Value) (an : Option Addr) (cdv ct v0 v1 v2 v3 v4 : Value), bindArgs (fnOf x qual (A3 st) (p7 st) (d9 st) .none kV doc pm an cdv ct) ⟨[v0, v1, v2, v3, v4], []⟩ = pure [(p0, v0), (p1, v1), (p2, v2), (p3, v3), (p4, v4)]) : Binds K fd [p0, p1, p2, p3, p4] [] :=
  F.binds fun a b c d e g us hl => match us, hl with | [v0, v1, v2, v3, v4], _ => h a b c d e g v0 v1 v2 v3 v4
end L2
namespace Rim
open PySem L2 Fr
structure a9f (K : W.Frag) (mg : Str -> Option Value) (cE cB cH cR cT cM cL : Addr) : Prop where
  mE : mg "RimError" = some (.ref cE)
  mB : mg "NoBook" = some (.ref cB)
  mH : mg "NoHouse" = some (.ref cH)
  mR : mg "NoRow" = some (.ref cR)
  mT : mg "NoText" = some (.ref cT)
  mM : mg "TooMany" = some (.ref cM)
  mL : mg "NothingLeft" = some (.ref cL)
  kE : O1 K cE
structure a2T (K : W.Frag) (c cE cB cH cR cT cM cL : Addr) (b1 b2 b3 b4 b5 b6 : Bool) : Prop where
  k : O1 K c
  sub : W.mroIn K c (.ref cE) = some true
  i1 : W.kitOne K (.ref c) (.ref cB) = some b1
  i2 : W.kitOne K (.ref c) (.ref cH) = some b2
  i3 : W.kitOne K (.ref c) (.ref cR) = some b3
  i4 : W.kitOne K (.ref c) (.ref cT) = some b4
  i5 : W.kitOne K (.ref c) (.ref cM) = some b5
  i6 : W.kitOne K (.ref c) (.ref cL) = some b6
  v : W.kitOne K (.ref c) (.type "ValueError") = some true
abbrev a3p (b1 b2 b3 b4 b5 b6 : Bool) : List V := [.bl b1, .bl b2, .bl b3, .bl b4, .bl b5, .bl b6, .bl true]
section
variable {P : Program} {w : World} {K : W.Frag} {mg : Str -> Option Value} {base : Heap} {f g : Addr} {fd gd : FuncData} {n : Nat}
def a6N (K : W.Frag) (cE cB cH cR cT cM cL : Addr) : Sp := fun vs H Q _ => ∃ (ea c : Addr) (b1 b2 b3 b4 b5 b6 : Bool), vs = [.ref ea] /\ H ea = some (a5e ea c) /\ a2T K c cE cB cH cR cT cM cL b1 b2 b3 b4 b5 b6 /\ ∀ (r : Addr) (H' : Hp), Same H H' -> H' r = some (.lst (a3p b1 b2 b3 b4 b5 b6)) -> Q (.ref r) H'
theorem scKin : i8 ["e", "kin"] ["e"] (d9 N8) := ⟨rfl, rfl, rfl, by decide +kernel, rfl, by decide +kernel, by decide +kernel⟩
theorem a8e : bootBuiltins "ValueError" = some (.type "ValueError") := by decide +kernel
set_option maxHeartbeats 4000000 in
theorem a8x {cE cB cH cR cT cM cL : Addr} (F : Fun K "_law_a_kin" "_law_a_kin" N8 f fd) (T : t9 mg) (R : a9f K mg cE cB cH cR cT cM cL) : FnU P w K mg base (n + 1) f fd ["e"] (a6N K cE cB cH cR cT cM cL) := by
  refine F.okU scKin (fun vs H Q E h => ?_) (fun cdv A outer s H vs Q E hr h => ?_)
  . obtain ⟨ea, c, b1, b2, b3, b4, b5, b6, rfl, _⟩ := h
    rfl
  obtain ⟨ea, c, b1, b2, b3, b4, b5, b6, rfl, he, M, q⟩ := h
  refine ⟨_, d8 (l0 (i := 1) scKin.nd rfl (Or.inl rfl) (o6 (a0 (j0 x4 rfl T.isi PyProof.Rows.boot_isinstance (a0 (pv 0) (a0 (C5 (v := .ref cB) rfl R.mB rfl) d7)))
      (a0 (j0 x4 rfl T.isi PyProof.Rows.boot_isinstance (a0 (pv 0) (a0 (C5 (v := .ref cH) rfl R.mH rfl) d7)))
      (a0 (j0 x4 rfl T.isi PyProof.Rows.boot_isinstance (a0 (pv 0) (a0 (C5 (v := .ref cR) rfl R.mR rfl) d7)))
      (a0 (j0 x4 rfl T.isi PyProof.Rows.boot_isinstance (a0 (pv 0) (a0 (C5 (v := .ref cT) rfl R.mT rfl) d7))) d7))))))
    (g0 (m6 (i7 v7 (pv 1) (o6 (a0 (j0 x4 rfl T.isi PyProof.Rows.boot_isinstance (a0 (pv 0) (a0 (C5 (v := .ref cM) rfl R.mM rfl) d7)))
      (a0 (j0 x4 rfl T.isi PyProof.Rows.boot_isinstance (a0 (pv 0) (a0 (C5 (v := .ref cL) rfl R.mL rfl) d7)))
      (a0 (j0 x4 rfl T.isi PyProof.Rows.boot_isinstance (a0 (pv 0) (a0 (W8 (v := .ty "ValueError") rfl T.ve a8e rfl) d7))) d7))))))), ?_⟩
  refine ⟨_, rfl, ea, c, _, b1, rfl, he, M.k, fun u ru => by cases ru; exact M.i1, _, rfl, ea, c, _, b2, rfl, he, M.k, fun u ru => by cases ru; exact M.i2, _, rfl, ea, c, _, b3, rfl, he, M.k, fun u ru => by cases ru; exact M.i3,
    _, rfl, ea, c, _, b4, rfl, he, M.k, fun u ru => by cases ru; exact M.i4, (by show 4 <= sizeLine; decide), fun l1 hl1 => ?_⟩
  have s1 := Same.new hl1 (.lst [V.bl b1, V.bl b2, V.bl b3, V.bl b4])
  have he1 := s1 _ _ he
  refine ⟨_, rfl, _, rfl, ea, c, _, b5, rfl, he1, M.k, fun u ru => by cases ru; exact M.i5, _, rfl, ea, c, _, b6, rfl, he1, M.k, fun u ru => by cases ru; exact M.i6, _, rfl, ea, c, _, true, rfl, he1, M.k, fun u ru => by cases ru; exact M.v, (by show 3 <= sizeLine; decide), fun l2 hl2 => ?_⟩
  have s2 := Same.new hl2 (.lst [V.bl b5, V.bl b6, V.bl true])
  refine ⟨l1, l2, _, _, rfl, rfl, s2 _ _ upd_same, upd_same, (by show 7 <= sizeLine; decide), fun l3 hl3 => ?_⟩
  exact q l3 _ (s1.trans (s2.trans (Same.new hl3 _))) upd_same
abbrev a9R (x : Str) : List V := a3p (decide (V.str "NoBook" = V.str x)) (decide (V.str "NoHouse" = V.str x)) (decide (V.str "NoRow" = V.str x)) (decide (V.str "NoText" = V.str x)) (decide (V.str "TooMany" = V.str x)) (decide (V.str "NothingLeft" = V.str x))
def a5Q : Sp := fun vs H Q _ => ∃ x : Str, vs = [.str x] /\ ∀ (r : Addr) (H' : Hp), Same H H' -> H' r = some (.lst (a9R x)) -> Q (.ref r) H'
theorem scDue : i8 ["name", "names"] ["name"] (d9 J5) := ⟨rfl, rfl, rfl, by decide +kernel, rfl, by decide +kernel, by decide +kernel⟩
theorem b0v : (["one", "name"] : List Str).Nodup := by decide +kernel
theorem a8o (F : Fun K "_law_due_kin" "_law_due_kin" J5 f fd) (T : t9 mg) : FnOk P w K mg base D4 (n + 1) f fd ["name"] a5Q := by
  refine F.ok scDue (fun vs H Q E h => ?_) (fun cdv A outer s H vs Q E hr h => ?_)
  . obtain ⟨x, rfl, _⟩ := h
    rfl
  obtain ⟨nm, rfl, q⟩ := h
  refine ⟨_, d8 (l0 (i := 1) scDue.nd rfl (Or.inl rfl) (o6 (a0 B7 (a0 B7 (a0 B7 (a0 B7 (a0 B7 (a0 B7 d7))))))))
    (g0 (m6 (i7 v7 (Z5 ["one"] [0] rfl (V5 (pv 1)) (fun _ _ _ _ => m5 (i := 0) b0v rfl (Or.inl rfl)) (fun _ _ _ _ => M8 T3 (pv 0) (pv 1) (j8 _))) (o6 (a0 a3S d7))))), ?_⟩
  refine ⟨(by show 6 <= sizeLine; decide), fun l1 hl1 => ?_⟩
  have s1 := Same.new hl1 (.lst [.str "NoBook", .str "NoHouse", .str "NoRow", .str "NoText", .str "TooMany", .str "NothingLeft"])
  refine ⟨_, rfl, l1, rfl, ⟨_, SqL.of upd_same⟩, fun p hp => ?_⟩
  refine a0C (R6 (SqL.of upd_same)) hp (by decide) (fun x => .bl (decide (x = .str nm))) (fun i x H' N hx e hN => ?_) ?_
  . have hy : ∃ y, x = .str y := by
      have := List.mem_of_getElem? hx
      simp only [List.mem_cons, List.not_mem_nil, or_false] at this
      rcases this with rfl | rfl | rfl | rfl | rfl | rfl <;> exact ⟨_, rfl⟩
    obtain ⟨y, rfl⟩ := hy
    exact ⟨Wk.set (by decide), _, rfl, _, rfl, rfl, hN⟩
  . have s2 := Same.new hp (.lst (List.map (fun x => V.bl (decide (x = V.str nm))) [.str "NoBook", .str "NoHouse", .str "NoRow", .str "NoText", .str "TooMany", .str "NothingLeft"]))
    refine ⟨(by show 1 <= sizeLine; decide), fun l2 hl2 => ?_⟩
    have s3 := Same.new hl2 (.lst [V.bl true])
    refine ⟨p, l2, _, _, rfl, rfl, s3 _ _ upd_same, upd_same, (by show 7 <= sizeLine; decide), fun l3 hl3 => ?_⟩
    exact q l3 _ (s1.trans (s2.trans (s3.trans (Same.new hl3 _)))) (by rw [upd_same]; congr 2)
structure b2p (P : Program) (w : World) (K : W.Frag) (mg : Str -> Option Value) (base : Heap) (n : Nat) (x : Str) (ps : List Str) (sp : Sp) (fa : Addr) (d : FuncData) : Prop where
  ok : FnU P w K mg base n fa d ps sp
  b : Binds K d ps []
  k : W.keepIn K (.ref fa) = true
  m : mg x = some (.ref fa)
def a8U (b1 b2 b3 b4 b5 b6 : Bool) : PyData := .list [.bool b1, .bool b2, .bool b3, .bool b4, .bool b5, .bool b6, .bool true]
theorem a0f {K : W.Frag} {H : Hp} {a : Addr} {b1 b2 b3 b4 b5 b6 : Bool} (h : H a = some (.lst (a3p b1 b2 b3 b4 b5 b6))) : Dp K H (.ref a) (a8U b1 b2 b3 b4 b5 b6) :=
  .lst (SqL.of h) (.cons (.bl _) (.cons (.bl _) (.cons (.bl _) (.cons (.bl _) (.cons (.bl _) (.cons (.bl _) (.cons (.bl _) .nil)))))))
end
end Rim
namespace L2
open PySem PySem.Spec PyProof.Rows
def a7o (C : Addr) (m : Str) (sp : Sp) (EX : St -> XK) (ta : TE) (t : TA) : TE := fun σ H Q => ta σ H fun x H1 => ∃ a dx fs, x = .ref a /\ H1 a = some (.ins C dx fs) /\ fs.lookup m = none /\ t σ H1 fun vs H2 => sp (x :: vs) H2 Q (EX σ)
section
variable {X : Cx} {CX : CXT} {k : Nat} {f C : Addr} {fd : FuncData} {ps : List Str} {sp : Sp} {EX : St -> XK} {m : Str} {pos apos : Pos} {o e : Expr} {es : List Expr} {ta : TE} {t : TA}
theorem a3V {pins : List (Addr × Obj)} {σ : St} {H : Hp} {s : Shared} {Q : VK} {us : List Value} {vs : List V} (F : FnOk X.prog X.w X.K X.mg X.base CX k f fd ps sp) (hr : Room k X.A) (hb : Binds X.K fd ps []) (hx : X0 CX X EX)
    (I : Inv X pins σ H s) (r : Vals vs us) (h : sp vs H Q (EX σ)) : wpAny (model X.prog X.w) X.A (call (.ref f) us) (EP X pins σ Q) X.xe s := by
  have hl : (us ++ []).length = ps.length := by rw [List.append_nil, <- r.length]; exact F.len _ _ _ _ h
  have hb' := hb s us I.kIn hl
  rw [List.append_nil] at hb'
  refine wpAny_call (codeAny_mono (F.run X.A X.stack s H ⟨us, []⟩ us vs Q (EX σ) hr I.env0 hb' r h) fun rr s' hq => ?_)
  cases rr with
  | error e => exact hx pins σ H s e s' I hq
  | ok fl =>
    cases fl with
    | ret u => exact I.after hq
    | next => exact False.elim hq
    | brk => exact False.elim hq
    | cont => exact False.elim hq
theorem a6n {pl : Sem Bool} (he : PE X o ta) (c : Cls X.K C) (hm : a3n X.K C m f) (F : FnOk X.prog X.w X.K X.mg X.base CX k f fd ps sp) (hr : Room k X.A) (hb : Binds X.K fd ps []) (hx : X0 CX X EX) (ha : PA X (e :: es) t)
    (hst : starEach (e :: es) X.env = (false, eval e X.env) :: starEach es X.env := by rfl) (hpl : (backTo pos (starEach es X.env)).any (·.1) = false := by rfl)
    (ht : eval (.Call (.Attribute o m apos) (e :: es) [] pos) X.env = (do
      let ov <- eval o X.env
      standAt apos.atName
      let (f, first) <- holding [ov] (getMethod ov m pl)
      callWith pos f first (backTo pos (starEach (e :: es) X.env)) (backToKw pos (keywordEach [] X.env))) := by rfl) :
    PE X (.Call (.Attribute o m apos) (e :: es) [] pos) (a7o C m sp EX ta t) := by
  intro pins s σ H Q I h
  refine W.methodCall_KW (pl := pl) (t8 (he pins s σ H _ I h) fun u s1 ⟨x, H1, I1, rx, a, dx, fs, ex, ea, l, q⟩ => ?_) ht
  subst ex
  obtain rfl : u = Value.ref a := rx
  refine M9 I1 ea c hm l ?_
  refine W.callWith_K (first := [.ref a]) (h₀ := X.base) I.ok.mod.kin hm.kp (t8 (ha pos pins s1 σ H1 _ I1 q) fun us s2 ⟨vs, H2, I2, r, q2⟩ => ⟨I2.kIn, ?_⟩) hst hpl
  exact a3V (us := .ref a :: us) (vs := .ref a :: vs) F hr hb hx I2 (.cons rfl r) q2
theorem a4I {pl : Sem Bool} (he : PE X o ta) (c : Cls X.K C) (hm : a3n X.K C m f) (F : FnOk X.prog X.w X.K X.mg X.base CX k f fd ps sp) (hr : Room k X.A) (hb : Binds X.K fd ps []) (hx : X0 CX X EX)
    (ht : eval (.Call (.Attribute o m apos) [] [] pos) X.env = (do
      let ov <- eval o X.env
      standAt apos.atName
      let (f, first) <- holding [ov] (getMethod ov m pl)
      callWith pos f first (backTo pos (starEach [] X.env)) (backToKw pos (keywordEach [] X.env))) := by rfl) :
    PE X (.Call (.Attribute o m apos) [] [] pos) (a7o C m sp EX ta a1h) := by
  intro pins s σ H Q I h
  refine W.methodCall_KW (pl := pl) (t8 (he pins s σ H _ I h) fun u s1 ⟨x, H1, I1, rx, a, dx, fs, ex, ea, l, q⟩ => ?_) ht
  subst ex
  obtain rfl : u = Value.ref a := rx
  refine M9 I1 ea c hm l ?_
  exact W.callWith_K0 (first := [.ref a]) I1.kIn hm.kp (a3V (us := [.ref a]) (vs := [.ref a]) F hr hb hx I1 (.cons rfl .nil) q)
end
end L2
namespace L2
open PySem
def b1y (t : TT) : TT := fun σ H Q => ∃ M : Bool -> Hp -> Prop, t σ H M /\ ∀ b H', M b H' -> Q b H'
theorem a4E {X : Cx} {e : Expr} {t : TT} (h : PT X e t) : PT X e (b1y t) := fun pins s σ H Q I ⟨M, h1, h2⟩ => t8 (h pins s σ H M I h1) fun b s' ⟨H', I', q⟩ => ⟨H', I', h2 b H' q⟩
end L2
namespace Rim
open PySem L2 Fr
section
variable {P : Program} {w : World} {K : W.Frag} {mg : Str -> Option Value} {base : Heap} {f C Pt : Addr} {fd : FuncData} {n : Nat}
def a1x (K : W.Frag) (C Pt : Addr) : Sp := fun vs H Q _ => ∃ (p pa : Addr) (v : V) (kt kg : Nat) (z : Str) (L : E2) (past : List E2) (lo : List Addr), vs = [.ref p, v] /\ KpAt K C H p kt kg z L past pa lo /\ Fit z kt kg /\ LT Pt H ∧
  ((v = .non /\ (∀ (L0 : E2) (past0 : List E2) (H' : Hp) (r : Addr), past = past0 ++ [L0] -> KpAt K C H' p kt kg z L0 past0 pa lo -> Left Pt p pa H H' -> LT Pt H' -> H' r = some (.lst []) -> Q (.ref r) H') ∧
      (past = [] -> ∀ (H' : Hp) (r : Addr), Same H H' -> H' r = some (.lst (a3p false false false false false true)) -> Q (.ref r) H')) ∨
   ∃ h, HS K H v h /\ N4 h /\ GoodK h kt kg /\ (∀ g ∈ L.1, HG (10 ^ 9) kt kg g) /\ L.1.length <= 16 /\ L.2.length = L.1.length /\ past.length <= 1000 ∧
      (L.1.length < 16 -> ∀ (H' : Hp) (ha wa r : Addr) (qs : List Q2), KpAt K C H' p kt kg z (L.1 ++ [h], qs) (past ++ [L]) pa (ha :: wa :: lo) -> qs.length = L.1.length + 1 -> H ha = none -> H wa = none -> Left Pt p pa H H' -> LT Pt H' -> H' r = some (.lst []) -> Q (.ref r) H') ∧
      (16 <= L.1.length -> ∀ (H' : Hp) (r : Addr), Same H H' -> H' r = some (.lst (a3p false false false false true false)) -> Q (.ref r) H'))
theorem scTried33 : i8 ["kept", "house", "kin", "e"] ["kept", "house"] (d9 O5) := ⟨rfl, rfl, rfl, by decide +kernel, rfl, by decide +kernel, by decide +kernel⟩
set_option maxHeartbeats 8000000 in
theorem a3g {cE cB cH cR cT cM cL f1 f2 fc : Addr} {d1 d2 dc : FuncData} (F : Fun K "_law_tried" "_law_tried" O5 f fd) (TKd : TK K C) (R : a9f K mg cE cB cH cR cT cM cL) (MM : a2T K cM cE cB cH cR cT cM cL false false false false true false) (ML : a2T K cL cE cB cH cR cT cM cL false false false false false true)
    (Cb : O9 P w K mg base (P1 P w) n C "back" ["self"] (a4h K C cL Pt) f1 d1) (Cc : O9 P w K mg base (P1 P w) n C "come" ["self", "house"] (a0m K C cB cM Pt) f2 d2) (Ck : b2p P w K mg base n "_law_a_kin" ["e"] (a6N K cE cB cH cR cT cM cL) fc dc) :
    FnOk P w K mg base D4 (n + 1) f fd ["kept", "house"] (a1x K C Pt) := by
  refine F.ok scTried33 (fun vs H Q E h => ?_) (fun cdv A outer s H vs Q E hr h => ?_)
  . obtain ⟨p, pa, v, kt, kg, z, L, past, lo, rfl, _⟩ := h
    rfl
  obtain ⟨p, pa, v, kt, kg, z, L, past, lo, rfl, KP, ft, LTH, hc⟩ := h
  refine ⟨_, d8 (l0 (i := 2) scTried33.nd rfl (Or.inl rfl) (o6 d7))
    (d8 (a9e (i := 3) R.kE scTried33.nd rfl rfl rfl rfl R.mE
      (fun EX pn WE hx => g0 (v6 (j4 a1K (pv 1) J6 (j8 _)) (g0 (u0 (a4I (pv 0) TKd.cl Cb.me Cb.ok hr Cb.bd hx))) (g0 (u0 (a6n (pv 0) TKd.cl Cc.me Cc.ok hr Cc.bd hx (a0 (pv 1) d7))))))
      (fun ea => g0 (l0 (i := 2) scTried33.nd rfl (Or.inl rfl) (a5O Ck.ok (hr.u _) rfl Ck.m Ck.k Ck.b (a0 (pv 3) d7)))))
    (g0 (m6 (pv 2)))), ?_⟩
  refine ⟨(by show 0 <= sizeLine; decide), fun kl hkl => ?_⟩
  have s1 := Same.new hkl (.lst [])
  have hkl1 : (j9 H kl (.lst [])) kl = some (.lst []) := upd_same
  generalize j9 H kl (.lst []) = H1 at *
  obtain ⟨dx, ta, wa, pv0, hp, hlv, hpa, hps⟩ := KP.ex
  have nkp : kl ≠ p := fun z0 => by subst z0; rw [hp] at hkl; cases hkl
  have nka : kl ≠ pa := fun z0 => by subst z0; rw [hpa] at hkl; cases hkl
  have nkt : kl ≠ Pt := (LTH.same s1).ne hkl1 nofun
  refine ⟨fun σ' c _ H' => σ' = [some (.ref p), some v, some (.ref kl), none] /\ Same H H' /\ ((c = .ref cL /\ v = .non /\ past = []) \/ (c = .ref cM /\ v ≠ .non /\ 16 <= L.1.length)), ?_, ?_⟩
  . refine ⟨_, rfl, rfl, _, rfl, ?_⟩
    rcases hc with ⟨rfl, q1, q2⟩ | ⟨h, hH, hs, gk, hG, h16, hql, hpl, q1, q2⟩
    . refine a0c ?_
      refine ⟨_, rfl, p, dx, _, rfl, s1 _ _ hp, rfl, ?_⟩
      refine ⟨p, pa, kt, kg, z, L, past, lo, rfl, KP.same s1, LTH.same s1, fun L0 past0 H2 e KP2 lf L2 => ?_, fun e H2 e2 => ⟨rfl, s1.trans e2, .inl ⟨rfl, rfl, e⟩⟩⟩
      exact ⟨_, rfl, q1 L0 past0 H2 kl e KP2 (fun b o n1 n2 n3 q0 => lf b o n1 n2 n3 (s1 _ _ q0)) L2 (lf kl _ nkp nkt nka hkl1)⟩
    . obtain ⟨va, ht, hg, rfl, r0, r1, r2⟩ := id hH
      refine K2 ?_
      refine ⟨_, rfl, p, dx, _, rfl, s1 _ _ hp, rfl, ?_⟩
      refine ⟨_, rfl, p, pa, .ref va, h, kt, kg, z, L, past, lo, rfl, KP.same s1, ft, hH.same s1, hs, hG, h16, hql, hpl, LTH.same s1, fun _ l16 H2 ha wa' r cl u qs x KP2 sh f1 f2 lf L2 _ _ _ _ _ _ _ => ?_, fun bad => absurd gk bad, fun _ l16 H2 e2 => ⟨rfl, s1.trans e2, .inr ⟨rfl, nofun, l16⟩⟩⟩
      exact ⟨_, rfl, q1 l16 H2 ha wa' kl _ KP2 (by have := sh.1; rw [List.length_append] at this; simpa using this) (s1.free f1) (s1.free f2) (fun b o n1 n2 n3 q0 => lf b o n1 n2 n3 (s1 _ _ q0)) L2 (lf kl _ nkp nkt nka hkl1)⟩
  . rintro σ' H' c ea d' ⟨rfl, e2, hk⟩ hea Da hC
    cases hC
    rcases hk with ⟨hk, rfl, e⟩ | ⟨hk, nv, l16⟩
    . cases hk
      refine ⟨ML.k, ML.sub, ?_⟩
      refine ⟨_, rfl, ea, _, _, _, _, _, _, _, rfl, upd_same, ML, fun r2 H3 e3 hr2 => ?_⟩
      rcases hc with ⟨_, q1, q2⟩ | ⟨h, hH, _⟩
      . exact ⟨_, rfl, q2 e H3 r2 (e2.trans ((Same.new hea _).trans e3)) hr2⟩
      . obtain ⟨_, _, _, z0, _⟩ := hH
        cases z0
    . cases hk
      refine ⟨MM.k, MM.sub, ?_⟩
      refine ⟨_, rfl, ea, _, _, _, _, _, _, _, rfl, upd_same, MM, fun r2 H3 e3 hr2 => ?_⟩
      rcases hc with ⟨z0, _⟩ | ⟨h, hH, hs, gk, hG, h16, hql, hpl, q1, q2⟩
      . exact absurd z0 nv
      . exact ⟨_, rfl, q2 l16 H3 r2 (e2.trans ((Same.new hea _).trans e3)) hr2⟩
def a2G (K : W.Frag) (C Pt : Addr) : Sp := fun vs H Q _ => ∃ (p pa ba : Addr) (pick : Int) (v : V) (h : h8) (kt kg : Nat) (z : Str) (L : E2) (past : List E2) (lo : List Addr) (xs : List V), vs = [.ref p, .ref ba, .int pick, v] /\ KpAt K C H p kt kg z L past pa lo /\ Fit z kt kg /\ LT Pt H ∧
  HS K H v h /\ N4 h /\ GoodK h kt kg /\ (∀ g ∈ L.1, HG (10 ^ 9) kt kg g) /\ L.1.length <= 4 /\ L.2.length = L.1.length /\ past.length <= 1000 /\ 0 <= pick /\ pick < 100000 /\ H ba = some (.lst xs) /\ Bk K H xs L.1 /\ ba ≠ pa ∧
  ∀ (H' : Hp) (ha wa r : Addr) (hs : List h8) (qs : List Q2) (ys : List V), KpAt K C H' p kt kg z (hs, qs) (past ++ [L]) pa (ha :: wa :: lo) -> qs.length = hs.length -> hs.length <= 4 -> (∀ g ∈ hs, HG (10 ^ 9) kt kg g) -> H ha = none -> H wa = none -> Left Pt p pa H H' -> LT Pt H' →
    H r = none -> H' r = some (.lst ys) -> Bk K H' ys hs -> r ≠ ha -> r ≠ wa -> Q (.ref r) H'
theorem scNext33 : i8 ["kept", "book", "pick", "house", "at"] ["kept", "book", "pick", "house"] (d9 C4) := ⟨rfl, rfl, rfl, by decide +kernel, rfl, by decide +kernel, by decide +kernel⟩
set_option maxHeartbeats 8000000 in
noncomputable def b0t {cdv : Value} {A : Around} {outer : List Env} {s : Shared} {H : Hp} {E : XK} {cB cH cM f1 f2 f3 : Addr} {d1 d2 d3 : FuncData} (T : t9 mg) (TKd : TK K C) (Cg : O9 P w K mg base (P1 P w) n C "go" ["self", "number"] (a5F K C cH Pt) f1 d1) (Ca : O9 P w K mg base (P1 P w) n C "alter" ["self", "number", "house"] (a0A K C cH cB Pt) f2 d2) (Cc : O9 P w K mg base (P1 P w) n C "come" ["self", "house"] (a0m K C cB cM Pt) f3 d3)
    (hr : Room n (A.deeper (PyProof.Rows.envOfC "_law_next" (d9 C4) s.heap.objs.size f cdv))) :
    { t : TS // PSs (E7 D4 P w K mg base ["kept", "book", "pick", "house", "at"] "_law_next" (d9 C4) f cdv A outer s H E).nox (p7 C4) t } :=
  ⟨_, t0 (v6 (a4E (PW.pt (a2t (j4 a0O (j0 i9 rfl T.len PySem.boot_len (a0 (pv 1) d7)) e8 (j8 _)) (a0Y (PW.pt (T8 (j4 (E4 hr) (pv 1) (o6 d7) (j8 _)) (O7 (j4 T3 (i7 x6 (pv 2) e8) e8 (j8 _)))))))))
      (d8 (l0 (i := 4) scNext33.nd rfl (Or.inl rfl) (i7 x6 (i7 V7 (pv 2) e8) (j0 i9 rfl T.len PySem.boot_len (a0 (pv 1) d7))))
      (d8 (u0 (G1 (pv 0) TKd.cl Cg.me Cg.ok hr Cg.bd .nil a1M (a0 (pv 4) d7)))
      (g0 (m6 (i7 v7 (x9 A8 (pv 1) B1 (B6 (pv 4))) (x9 A8 (pv 1) (B6 (i7 y8 (pv 4) e8)) B1)))))) o4)
    (t0 (v6 (a4E (PW.pt (T8 (j4 (E4 hr) (pv 1) (o6 d7) (j8 _)) (O7 (j4 T3 (i7 x6 (pv 2) e8) e8 (j8 _))))))
      (d8 (l0 (i := 4) scNext33.nd rfl (Or.inl rfl) (i7 x6 (i7 V7 (pv 2) e8) (j0 i9 rfl T.len PySem.boot_len (a0 (pv 1) d7))))
      (d8 (u0 (G1 (pv 0) TKd.cl Ca.me Ca.ok hr Ca.bd .nil a1M (a0 (pv 4) (a0 (pv 3) d7))))
      (g0 (m6 (i7 v7 (i7 v7 (x9 A8 (pv 1) B1 (B6 (pv 4))) (o6 (a0 (pv 3) d7))) (x9 A8 (pv 1) (B6 (i7 y8 (pv 4) e8)) B1)))))) o4)
    (d8 (u0 (G1 (pv 0) TKd.cl Cc.me Cc.ok hr Cc.bd .nil a1M (a0 (pv 3) d7)))
    (g0 (m6 (i7 v7 (pv 1) (o6 (a0 (pv 3) d7)))))))⟩
end
end Rim
namespace Rim
open PySem L2 Fr
section
variable {P : Program} {w : World} {K : W.Frag} {mg : Str -> Option Value} {base : Heap} {f C Pt : Addr} {fd : FuncData} {n : Nat}
theorem a2L {hs : List h8} : PyData.eqv (.list (hs.map w4)) (.list []) = hs.isEmpty := by
  rw [PyData.eqv]
  cases hs with
  | nil => rw [List.map_nil, PyData.eqvAll]; rfl
  | cons a r => rw [List.map_cons, PyData.eqvAll] <;> first | rfl | simp
theorem Left.lst {p pa b : Addr} {H H' : Hp} {xs : List V} {dx : Addr} {fs : List (Str × V)} (l : Left Pt p pa H H') (hp : H p = some (.ins C dx fs)) (T : LT Pt H) (n : b ≠ pa) (h : H b = some (.lst xs)) : H' b = some (.lst xs) := l b _ (t7 h hp nofun) (T.ne h nofun) n h
theorem Left.fr {p pa : Addr} {H H' : Hp} {dx : Addr} {fs : List (Str × V)} {pv : List V} (l : Left Pt p pa H H') (hp : H p = some (.ins C dx fs)) (ha : H pa = some (.lst pv)) (T : LT Pt H) : Fr0 (fun b => b = p \/ b = pa \/ b = Pt) H H' :=
  ⟨fun b o hx e => l b o (fun z => hx (.inl z)) (fun z => hx (.inr (.inr z))) (fun z => hx (.inr (.inl z))) e, fun x hx => by
    rcases hx with rfl | rfl | rfl
    . exact S4 hp
    . exact D5 ha
    . exact a1F T⟩
set_option maxHeartbeats 8000000 in
theorem a4O {cB cH cM f1 f2 f3 : Addr} {d1 d2 d3 : FuncData} (F : Fun K "_law_next" "_law_next" C4 f fd) (T : t9 mg) (TKd : TK K C) (Cg : O9 P w K mg base (P1 P w) n C "go" ["self", "number"] (a5F K C cH Pt) f1 d1) (Ca : O9 P w K mg base (P1 P w) n C "alter" ["self", "number", "house"] (a0A K C cH cB Pt) f2 d2) (Cc : O9 P w K mg base (P1 P w) n C "come" ["self", "house"] (a0m K C cB cM Pt) f3 d3) :
    FnOk P w K mg base D4 (n + 1) f fd ["kept", "book", "pick", "house"] (a2G K C Pt) := by
  refine F.ok scNext33 (fun vs H Q E h => ?_) (fun cdv A outer s H vs Q E hr h => ?_)
  . obtain ⟨p, pa, ba, pick, v, h, kt, kg, z, L, past, lo, xs, rfl, _⟩ := h
    rfl
  obtain ⟨p, pa, ba, pick, v, h, kt, kg, z, L, past, lo, xs, rfl, KP, ft, LTH, hH, hs, gk, hG, h4, hql, hpl, pk0, pk1, hba, hB, nba, q⟩ := h
  refine ⟨_, (b0t T TKd Cg Ca Cc hr).2, ?_⟩
  obtain ⟨dx, ta, wa, pv0, hp, hlv, hpa, hps⟩ := KP.ex
  have xl : xs.length = L.1.length := Paired.length hB
  have small := j7 (show (1000 : Nat) <= 1000 from Nat.le_refl _)
  have layb : PyData.canLay0 (.list (L.1.map w4)) = true := by rw [PyData.canLay0]; exact W9 _
  have depb : (PyData.list (L.1.map w4)).depth <= 60 := by
    have := M7 L.1
    rw [PyData.depth]
    lia
  -- the deeds, from a heap that has only grown
  have place : 1 <= xs.length -> ∃ i : Nat, i < xs.length /\ pick / 3 % (xs.length : Int) = (i : Int) := fun h1 => by
    have a1 := Int.emod_nonneg (pick / 3) (show (xs.length : Int) ≠ 0 by omega)
    have a2 := Int.emod_lt_of_pos (pick / 3) (show (0 : Int) < (xs.length : Int) by omega)
    exact ⟨(pick / 3 % (xs.length : Int)).toNat, by omega, by omega⟩
  refine ⟨fun σ' H' => σ' = [some (.ref p), some (.ref ba), some (.int pick), some v, none] /\ Same H H' /\ xs.length <= 3, ?_, ?_⟩
  . refine ⟨fun b H1 => Same H H1 /\ (b = true -> 1 <= xs.length) /\ (b = false -> xs.length <= 3), ?_, ?_⟩
    . refine ⟨_, rfl, ba, xs, rfl, .inl (SqL.of hba), _, _, rfl, rfl, _, rfl, ?_⟩
      refine A7 (fun c => ?_) (fun c => ?_)
      . exact ⟨Same.refl _, fun _ => by have := of_decide_eq_true c; omega, nofun⟩
      . have c3 : xs.length <= 3 := by have := of_decide_eq_false (Bool.eq_false_iff.mpr c); omega
        refine ⟨_, rfl, (by show 0 <= sizeLine; decide), fun el hel => ?_⟩
        have t1 := Same.new hel (.lst [])
        refine ⟨.list (L.1.map w4), .list [], .lst (SqL.of (t1 _ _ hba)) (Bk.dps (Bk.same t1 hB)), .lst (SqL.of upd_same) .nil, layb, rfl, Nat.le_trans (Nat.min_le_left _ _) depb, _, rfl, ?_⟩
        rw [a2L]
        refine A7 (fun d => ?_) (fun d => ?_)
        . have d1 : 1 <= xs.length := by
            rw [xl]
            cases hl : L.1 with
            | nil => rw [hl] at d; simp at d
            | cons a r => simp
          exact ⟨_, rfl, _, _, rfl, rfl, (by show (0 : Int) < 3; decide), rfl, _, rfl, t1, fun _ => d1, fun _ => c3⟩
        . exact ⟨t1, nofun, fun _ => c3⟩
    . rintro b H1 ⟨e1, y1, y2⟩
      cases b with
      | false => exact K2 ⟨rfl, e1, y2 rfl⟩
      | true =>
        refine a0c ?_
        have l1 := y1 rfl
        obtain ⟨i, hi, ei⟩ := place l1
        refine ⟨_, rfl, _, _, rfl, rfl, (by show (0 : Int) < 3 /\ (3 : Int) < 1073741824; decide), _, rfl, ba, xs, rfl, .inl (SqL.of (e1 _ _ hba)), _, _, rfl, rfl, (by show (0 : Int) < (xs.length : Int); omega), ?_⟩
        dsimp only
        rw [ei]
        refine ⟨_, rfl, p, dx, _, rfl, e1 _ _ hp, rfl, _, rfl, ?_⟩
        refine ⟨p, pa, (i : Int), kt, kg, z, L, past, lo, rfl, KP.same e1, ft, hG, by omega, hql, hpl, N3 (by omega), LTH.same e1, fun i' hi' hil H2 ha wa' cl qs KP2 sh f1 f2 lf L2 _ _ _ _ => ?_, fun bad => absurd ⟨by omega, by omega⟩ bad⟩
        have : i' = i := by omega
        subst this
        have lf0 : Left Pt p pa H H2 := fun b o n1 n2 n3 q0 => lf b o n1 n2 n3 (e1 _ _ q0)
        have fr := lf0.fr hp hpa LTH
        have hba2 : H2 ba = some (.lst xs) := lf0.lst hp LTH nba hba
        have hB2 : Bk K H2 xs L.1 := hB.fr0 fr
        obtain ⟨dx2, ta2, wa2, pv2, hp2, _, hpa2, _⟩ := KP2.ex
        refine ⟨_, rfl, _, rfl, _, rfl, ba, _, rfl, SqL.of hba2, fun b1 h1 => ?_⟩
        rw [U3 _ _ (by omega)]
        have s1 := Same.new h1 (.lst (xs.take i'))
        refine ⟨_, rfl, _, rfl, _, _, rfl, rfl, _, rfl, ba, _, rfl, SqL.of (s1 _ _ hba2), fun b2 h2 => ?_⟩
        rw [show ((i' : Int) + 1) = ((i' + 1 : Nat) : Int) by omega, Q8 _ _ (by omega)]
        have s2 := Same.new h2 (.lst (xs.drop (i' + 1)))
        refine ⟨b1, b2, _, _, rfl, rfl, s2 _ _ upd_same, upd_same, by simp; omega, fun r hr0 => ?_⟩
        have s3 := Same.new hr0 (.lst (xs.take i' ++ xs.drop (i' + 1)))
        have s23 := s1.trans (s2.trans s3)
        have free : ∀ {b : Addr}, H2 b = none -> H b = none := fun h => e1.free (lf.free (by rw [hp2]; nofun) (by rw [hpa2]; nofun) L2 h)
        have hrN : H2 r = none := (s1.trans s2).free hr0
        have ncl : ∀ b ∈ ha :: wa' :: lo, r ≠ b := fun b hb z0 => by
          subst z0
          obtain ⟨zs, hz⟩ := KP2.ls r hb
          rw [hz] at hrN; cases hrN
        exact q _ ha wa' r (P0 L.1 i') qs _ (KP2.same s23) (by rw [sh.1]) (Nat.le_trans a0I h4) (fun g hg => hG g (a2o hg)) (e1.free f1) (e1.free f2) (fun b o n1 n2 n3 q0 => s23 _ _ (lf0 b o n1 n2 n3 q0)) (L2.same s23) (free hrN) upd_same (Bk.same s23 (hB2.out i')) (ncl ha (.head _)) (ncl wa' (.tail _ (.head _)))
  rintro _ H1 ⟨rfl, e1, l3⟩
  refine ⟨fun σ' H' => σ' = [some (.ref p), some (.ref ba), some (.int pick), some v, none] /\ Same H H', ?_, ?_⟩
  . refine ⟨fun b H2 => Same H H2 /\ (b = true -> 1 <= xs.length), ?_, ?_⟩
    . refine ⟨_, rfl, (by show 0 <= sizeLine; decide), fun el hel => ?_⟩
      have t1 := e1.trans (Same.new hel (.lst []))
      refine ⟨.list (L.1.map w4), .list [], .lst (SqL.of (t1 _ _ hba)) (Bk.dps (Bk.same t1 hB)), .lst (SqL.of upd_same) .nil, layb, rfl, Nat.le_trans (Nat.min_le_left _ _) depb, _, rfl, ?_⟩
      rw [a2L]
      refine A7 (fun d => ?_) (fun d => ?_)
      . have d1 : 1 <= xs.length := by
          rw [xl]
          cases hl : L.1 with
          | nil => rw [hl] at d; simp at d
          | cons a r => simp
        exact ⟨_, rfl, _, _, rfl, rfl, (by show (0 : Int) < 3; decide), rfl, _, rfl, t1, fun _ => d1⟩
      . exact ⟨t1, nofun⟩
    . rintro b H2 ⟨e2, y1⟩
      cases b with
      | false => exact K2 ⟨rfl, e2⟩
      | true =>
        refine a0c ?_
        have l1 := y1 rfl
        obtain ⟨i, hi, ei⟩ := place l1
        refine ⟨_, rfl, _, _, rfl, rfl, (by show (0 : Int) < 3 /\ (3 : Int) < 1073741824; decide), _, rfl, ba, xs, rfl, .inl (SqL.of (e2 _ _ hba)), _, _, rfl, rfl, (by show (0 : Int) < (xs.length : Int); omega), ?_⟩
        dsimp only
        rw [ei]
        refine ⟨_, rfl, p, dx, _, rfl, e2 _ _ hp, rfl, _, rfl, _, rfl, ?_⟩
        refine ⟨p, pa, (i : Int), v, h, kt, kg, z, L, past, lo, rfl, KP.same e2, ft, hH.same e2, hs, hG, by omega, hql, hpl, N3 (by omega), LTH.same e2, fun i' hi' hil _ H3 ha wa' cl qs KP2 sh f1 f2 lf L2 _ _ _ _ => ?_, fun bad => absurd ⟨by omega, by omega⟩ bad, fun _ bad => absurd gk bad⟩
        have : i' = i := by omega
        subst this
        have lf0 : Left Pt p pa H H3 := fun b o n1 n2 n3 q0 => lf b o n1 n2 n3 (e2 _ _ q0)
        have fr := lf0.fr hp hpa LTH
        have hba2 : H3 ba = some (.lst xs) := lf0.lst hp LTH nba hba
        have hB2 : Bk K H3 xs L.1 := hB.fr0 fr
        have hH3 : HS K H3 v h := hH.fr0 fr
        obtain ⟨dx2, ta2, wa2, pv2, hp2, _, hpa2, _⟩ := KP2.ex
        refine ⟨_, rfl, _, rfl, _, rfl, ba, _, rfl, SqL.of hba2, fun b1 h1 => ?_⟩
        rw [U3 _ _ (by omega)]
        have s1 := Same.new h1 (.lst (xs.take i'))
        refine ⟨_, rfl, (by show 1 <= sizeLine; decide), fun b3 h3 => ?_⟩
        have s1b := Same.new h3 (.lst [v])
        refine ⟨b1, b3, _, _, rfl, rfl, s1b _ _ upd_same, upd_same, by simp; omega, fun b4 h4' => ?_⟩
        have s1c := Same.new h4' (.lst (xs.take i' ++ [v]))
        have s1d := s1.trans (s1b.trans s1c)
        refine ⟨_, rfl, _, rfl, _, _, rfl, rfl, _, rfl, ba, _, rfl, SqL.of (s1d _ _ hba2), fun b2 h2 => ?_⟩
        rw [show ((i' : Int) + 1) = ((i' + 1 : Nat) : Int) by omega, Q8 _ _ (by omega)]
        have s2 := Same.new h2 (.lst (xs.drop (i' + 1)))
        refine ⟨b4, b2, _, _, rfl, rfl, s2 _ _ upd_same, upd_same, by simp; omega, fun r hr0 => ?_⟩
        have s3 := Same.new hr0 (.lst ((xs.take i' ++ [v]) ++ xs.drop (i' + 1)))
        have s23 := s1d.trans (s2.trans s3)
        have free : ∀ {b : Addr}, H3 b = none -> H b = none := fun h => e2.free (lf.free (by rw [hp2]; nofun) (by rw [hpa2]; nofun) L2 h)
        have hrN : H3 r = none := (s1d.trans s2).free hr0
        have ncl : ∀ b ∈ ha :: wa' :: lo, r ≠ b := fun b hb z0 => by
          subst z0
          obtain ⟨zs, hz⟩ := KP2.ls r hb
          rw [hz] at hrN; cases hrN
        have bk3 := Bk.same s23 hB2
        refine q _ ha wa' r (a2z L.1 i' h) qs _ (KP2.same s23) (by rw [sh.1]) (by rw [a2j (by omega)]; exact h4) (fun g hg => ?_) (e2.free f1) (e2.free f2) (fun b o n1 n2 n3 q0 => s23 _ _ (lf0 b o n1 n2 n3 q0)) (L2.same s23) (free hrN) upd_same (Paired.app (Paired.app (Paired.take i' bk3) (.cons (hH3.same s23) .nil)) (Paired.drop (i' + 1) bk3)) (ncl ha (.head _)) (ncl wa' (.tail _ (.head _)))
        rcases a2I hg with rfl | hg
        . exact gk.hg
        . exact hG g hg
  rintro _ H2 ⟨rfl, e2⟩
  refine ⟨_, rfl, p, dx, _, rfl, e2 _ _ hp, rfl, _, rfl, ?_⟩
  refine ⟨p, pa, v, h, kt, kg, z, L, past, lo, rfl, KP.same e2, ft, hH.same e2, hs, hG, by omega, hql, hpl, LTH.same e2, fun _ l16 H3 ha wa' r0 cl u qs x KP2 sh f1 f2 lf L2 _ _ _ _ _ _ _ => ?_, fun bad => absurd gk bad, fun _ l16 => absurd l16 (by omega)⟩
  have lf0 : Left Pt p pa H H3 := fun b o n1 n2 n3 q0 => lf b o n1 n2 n3 (e2 _ _ q0)
  have fr := lf0.fr hp hpa LTH
  have hba2 : H3 ba = some (.lst xs) := lf0.lst hp LTH nba hba
  have hB2 : Bk K H3 xs L.1 := hB.fr0 fr
  have hH3 : HS K H3 v h := hH.fr0 fr
  obtain ⟨dx2, ta2, wa2, pv2, hp2, _, hpa2, _⟩ := KP2.ex
  refine ⟨_, rfl, _, rfl, (by show 1 <= sizeLine; decide), fun b3 h3 => ?_⟩
  have s1 := Same.new h3 (.lst [v])
  refine ⟨ba, b3, _, _, rfl, rfl, s1 _ _ hba2, upd_same, by simp; omega, fun r hr0 => ?_⟩
  have s3 := Same.new hr0 (.lst (xs ++ [v]))
  have s23 := s1.trans s3
  have free : ∀ {b : Addr}, H3 b = none -> H b = none := fun h => e2.free (lf.free (by rw [hp2]; nofun) (by rw [hpa2]; nofun) L2 h)
  have hrN : H3 r = none := s1.free hr0
  have ncl : ∀ b ∈ ha :: wa' :: lo, r ≠ b := fun b hb z0 => by
    subst z0
    obtain ⟨zs, hz⟩ := KP2.ls r hb
    rw [hz] at hrN; cases hrN
  refine q _ ha wa' r (L.1 ++ [h]) (qs ++ [x]) _ (KP2.same s23) (by rw [sh.1]) (by rw [List.length_append, List.length_singleton]; omega) (fun g hg => ?_) (e2.free f1) (e2.free f2) (fun b o n1 n2 n3 q0 => s23 _ _ (lf0 b o n1 n2 n3 q0)) (L2.same s23) (free hrN) upd_same (Paired.app (Bk.same s23 hB2) (.cons (hH3.same s23) .nil)) (ncl ha (.head _)) (ncl wa' (.tail _ (.head _)))
  rcases List.mem_append.mp hg with hg | hg
  . exact hG g hg
  . rw [List.mem_singleton.mp hg]; exact gk.hg
end
end Rim
namespace L2
open PySem PySem.Spec PyProof.Rows
open AutoSeq1 (wpAny_loadPart')
theorem Y9 : fillsNumberSlot (.type "tuple") "mul" = pure false :=
  PySem.fillsNumberSlot_seq (id := "tuple.__mul__") (r := some (.builtin "tuple.__rmul__")) F.slot_tuple_mul.lookup (by decide +kernel) F.slot_tuple_rmul.lookup (by decide +kernel)
theorem a2g : seqRepeat? (.type "tuple") = pure (some (.builtin "tuple.__mul__")) := by
  unfold seqRepeat?
  rw [PySem.seqSlot_of (T := "tuple") (name := "__mul__") (id := "tuple.__mul__") F.slot_tuple_mul.lookup (by decide +kernel), PySem.seqSlot_of (T := "tuple") (name := "__rmul__") (id := "tuple.__rmul__") F.slot_tuple_rmul.lookup (by decide +kernel)]
  rfl
theorem a0D (a : Int) (t : Tok) (l : Addr) (items : Array Value) (n : Nat) (d : Option Addr) (sl : Array (Option Value)) :
    Meets (Builtin.«int.__rmul__» ⟨[.int a t, .ref l], []⟩) (fun _ R s => s.heap.get? l = some { cls := .type "tuple", dict := d, data := .seq items n, slots := sl } /\ R (.ok (.ret Value.notImplemented)) s) :=
  .of_wp fun prog w A R s h => by obtain ⟨hp, g, d, tk, os⟩ := s; obtain ⟨hl, h⟩ := h; wp_walk; exact ⟨_, rfl, h⟩
theorem a2E (l : Addr) (items : Array Value) (n : Nat) (d : Option Addr) (sl : Array (Option Value)) (u : Tok) :
    Meets (Builtin.«tuple.__mul__» ⟨[.ref l, .int 1 u], []⟩) (fun _ R s => s.heap.get? l = some { cls := .type "tuple", dict := d, data := .seq items n, slots := sl } /\ R (.ok (.ret (.ref l))) s) :=
  .of_wp fun prog w A R s h => by
    obtain ⟨hp, g, d, tk, os⟩ := s
    obtain ⟨hl, h⟩ := h
    wp_walk using wpAny_loadPart' hl, wpAny_load hl
    exact ⟨_, rfl, h⟩
theorem a1P (l : Addr) (items : Array Value) (n : Nat) (d : Option Addr) (sl : Array (Option Value)) (x : Int) (u : Tok) (h1 : 1 < x) (h2 : x <= 1000) (h0 : items.isEmpty = false) (h3 : items.size <= 1000) :
    Meets (Builtin.«tuple.__mul__» ⟨[.ref l, .int x u], []⟩) (fun _ R s => s.heap.get? l = some { cls := .type "tuple", dict := d, data := .seq items n, slots := sl } /\ R (.ok (.ret (.ref s.heap.objs.size))) { s with heap := s.heap.push { cls := Value.type "tuple", data := Data.seq (List.foldl (fun x1 x2 => x1 ++ x2) #[] (List.replicate x.toNat items)) } }) :=
  .of_wp fun prog w A R s h => by
    obtain ⟨hp, g, d, tk, os⟩ := s
    obtain ⟨hl, h⟩ := h
    wp_walk using wpAny_loadPart' hl, wpAny_load hl
    have c0 : ¬ (decide (x < -2 ^ 63) || decide (x ≥ 2 ^ 63)) = true := by simp; omega
    rw [if_neg c0]
    wp_walk using wpAny_loadPart' hl, wpAny_load hl
    have c1 : ¬ (items.isEmpty || x == 1) = true := by rw [h0]; simp; omega
    rw [if_neg c1]
    have c2 : ¬ (decide (x <= 0) || items.isEmpty) = true := by rw [h0]; simp; omega
    rw [if_neg c2]
    have hm : (items.size : Int) * x <= 1000000 := by
      have a1 : (items.size : Int) * x <= 1000 * x := Int.mul_le_mul_of_nonneg_right (by omega) (by omega)
      omega
    rw [if_neg (by omega)]
    have c3 : ¬ Builtin.Tuple.tupleTooMany ((items.size : Int) * x) = true := by
      unfold Builtin.Tuple.tupleTooMany
      rw [decide_eq_true_iff, sizeLine_eq]
      omega
    rw [if_neg c3]
    have hf : List.foldl (fun x1 x2 => x1 ++ x2) #[] (List.replicate x.toNat items) = (List.replicate x.toNat items.toList).flatten.toArray := by
      have := S8 items.toList x.toNat []
      rw [List.nil_append] at this
      simpa using this
    have hz : (List.foldl (fun x1 x2 => x1 ++ x2) #[] (List.replicate x.toNat items)).size <= sizeLine := by
      rw [hf, List.size_toArray, a1N, sizeLine_eq, Array.length_toList]
      have : x.toNat * items.size <= 1000 * 1000 := Nat.mul_le_mul (by omega) h3
      omega
    exact wpAny_bind (wpAny_newObj_type (wpAny_pure ⟨_, rfl, h⟩) hz)
section
variable {X : Cx}
def a4e (K : W.Frag) : R2 := fun x y H Q => ∃ t k xs, x = .ref t /\ y = .int k /\ SqT K H t xs /\ xs ≠ [] /\ 1 <= k /\ k <= 1000 /\ xs.length <= 1000 /\ (k = 1 -> Q (.ref t) H) /\ (k ≠ 1 -> ∀ p, H p = none -> Q (.ref p) (j9 H p (.tup (List.replicate k.toNat xs).flatten)))
theorem K5 : T9 X (binaryOp .Mult) (a4e X.K) := by
  intro pins s σ H x y v u Q I rx ry h
  obtain ⟨l, k, xs, rfl, rfl, hH, hne, h1, h2, h3, q1, q2⟩ := h
  cases rx
  obtain ⟨t, rfl⟩ := ry
  obtain ⟨its, r, ⟨o, e, hc, n, hd⟩, _⟩ := I.tuple hH
  obtain ⟨oc, od, odata, osl⟩ := o
  dsimp only at hc hd
  subst hc hd
  have lz : its.length = xs.length := r.length.symm
  refine wpAny_binaryOp_repeat_ref (T := "tuple") (U := "int") (by decide) ⟨_, e, rfl⟩ (fun s' => typeIs_int s' k t) Y9 F.fills_int_mul F.slot_int_rmul a2g F.slot_int_index.lookup
    (call_meets F.slot_int_rmul (typeIs_int s k t) F.entry_int_rmul (F.args_int_rmul_2 _ _) (a0D k t l its.toArray n od osl) ⟨e, rfl, ⟨_, e, rfl⟩, ?_⟩)
  by_cases hk : k = 1
  . subst hk
    exact call_meets F.slot_tuple_mul ⟨_, e, rfl⟩ F.entry_tuple_mul (F.args_tuple_mul_2 _ _) (a2E l its.toArray n od osl t) ⟨e, .ref l, H, I, rfl, q1 rfl⟩
  . refine call_meets F.slot_tuple_mul ⟨_, e, rfl⟩ F.entry_tuple_mul (F.args_tuple_mul_2 _ _) (a1P l its.toArray n od osl k t (by omega) h2 ?_ (by rw [List.size_toArray]; omega)) ⟨e, ?_⟩
    . cases its with
      | nil => exact absurd (List.eq_nil_of_length_eq_zero lz.symm) hne
      | cons a r => rfl
    . have hf : List.foldl (fun x1 x2 => x1 ++ x2) #[] (List.replicate k.toNat its.toArray) = (List.replicate k.toNat its).flatten.toArray := by
        have := S8 its k.toNat []
        rw [List.nil_append] at this
        exact this
      rw [hf]
      refine ⟨.ref s.heap.objs.size, _, I.laid (t' := s.toks) (o := .tup (List.replicate k.toNat xs).flatten) (fun b ob q => Heap.get?_push_of_some _ q) (Nat.le_refl _) ?_, rfl, q2 hk _ (I.hok.fresh (Nat.le_refl _))⟩
      refine ⟨?_, _, r.rep k.toNat, IsTup.new _ _⟩
      rw [a1N, sizeLine_eq]
      have : k.toNat * xs.length <= 1000 * 1000 := Nat.mul_le_mul (by omega) h3
      omega
end
end L2
namespace Rim
open PySem L2 Fr
theorem a0h {K : W.Frag} {σ : St} {H : Hp} {Q : VK} {ta tb tc td : TE} {a b : Int} {kt kg : Nat} (ha : ∀ H1 (Q1 : VK), Same H H1 -> Q1 (.int a) H1 -> ta σ H1 Q1) (hc : ∀ H1 (Q1 : VK), Same H H1 -> Q1 (.int (kt : Int)) H1 -> tc σ H1 Q1) (hb : ∀ H1 (Q1 : VK), Same H H1 -> Q1 (.int b) H1 -> tb σ H1 Q1) (hd : ∀ H1 (Q1 : VK), Same H H1 -> Q1 (.int (kg : Int)) H1 -> td σ H1 Q1)
    (k1 : 1 <= kt) (k2 : kt <= 4) (g1 : 1 <= kg) (g2 : kg <= 4) (q : ∀ v H', Same H H' -> HS K H' v (List.replicate kt a, List.replicate kg b) -> Q v H') :
    a4Z (T4 (tOp (a4e K) (a4Z (T4 ta a1h)) tc) (T4 (tOp (a4e K) (a4Z (T4 tb a1h)) td) a1h)) σ H Q := by
  have fl : ∀ (k : Nat) (x : V), (List.replicate k [x]).flatten = List.replicate k x := fun k x => by
    induction k with
    | zero => rfl
    | succ k ih => rw [List.replicate_succ, List.flatten_cons, ih, List.replicate_succ]; rfl
  -- one side
  have side : ∀ {H0 : Hp} {tx ty : TE} {x : Int} {k : Nat} {Q0 : VK}, Same H H0 -> (∀ H1 (Q1 : VK), Same H H1 -> Q1 (.int x) H1 -> tx σ H1 Q1) -> (∀ H1 (Q1 : VK), Same H H1 -> Q1 (.int (k : Int)) H1 -> ty σ H1 Q1) -> 1 <= k -> k <= 4 -> (∀ t H', Same H0 H' -> SqT K H' t ((List.replicate k x).map V.int) -> Q0 (.ref t) H') -> (tOp (a4e K) (a4Z (T4 tx a1h)) ty) σ H0 Q0 := by
    intro H0 tx ty x k Q0 e0 hx hy h1 h4 q0
    refine hx H0 _ e0 ⟨(by show 1 <= sizeLine; decide), fun t1 ht1 => ?_⟩
    have s1 := Same.new ht1 (.tup [V.int x])
    refine hy _ _ (e0.trans s1) ⟨t1, (k : Int), [V.int x], rfl, rfl, SqT.of upd_same, nofun, by omega, by omega, (by show 1 <= 1000; decide), fun e => ?_, fun _ t2 ht2 => ?_⟩
    . have : k = 1 := by omega
      subst this
      exact q0 t1 _ s1 (SqT.of upd_same)
    . have s2 := Same.new ht2 (.tup (List.replicate (k : Int).toNat [V.int x]).flatten)
      refine q0 t2 _ (s1.trans s2) (SqT.of ?_)
      rw [upd_same, fl, Int.toNat_natCast, List.map_replicate]
  refine side (Same.refl _) ha hc k1 k2 fun t1 H1 e1 h1 => ?_
  refine side e1 hb hd g1 g2 fun t2 H2 e2 h2 => ?_
  refine ⟨(by show 2 <= sizeLine; decide), fun r hr => ?_⟩
  have s3 := Same.new hr (.tup [V.ref t1, V.ref t2])
  exact q _ _ (e1.trans (e2.trans s3)) ⟨r, t1, t2, rfl, SqT.of upd_same, (e2.trans s3).tseq h1, s3.tseq h2⟩
theorem W5 {a b : Int} {kt kg : Nat} (a1 : 1 <= a) (a2 : a <= 1000) (b1 : 1 <= b) (b2 : b <= 1000) (g1 : 1 <= kg) (h1 : kt <= 4) (h2 : kg <= 4) : GoodK (List.replicate kt a, List.replicate kg b) kt kg /\ N4 (List.replicate kt a, List.replicate kg b) := by
  refine ⟨⟨⟨by simp, fun x hx => ?_⟩, ⟨by simp, fun x hx => ?_⟩, b, ?_, by omega⟩, by simp; omega, by simp; omega⟩
  . rw [(List.mem_replicate.mp hx).2]; omega
  . rw [(List.mem_replicate.mp hx).2]; omega
  . exact List.mem_replicate.mpr ⟨by omega, rfl⟩
section
variable {P : Program} {w : World} {K : W.Frag} {mg : Str -> Option Value} {base : Heap} {f C Pt : Addr} {fd : FuncData} {n : Nat}
abbrev b0T : List Str := ["script", "heads", "counts", "sizes", "kept", "past", "picks", "pick", "house", "k"]
theorem scLaw : i8 b0T ["script"] (d9 U9) := ⟨rfl, rfl, rfl, by decide +kernel, rfl, by decide +kernel, by decide +kernel⟩
structure Calls (P : Program) (w : World) (K : W.Frag) (mg : Str -> Option Value) (base : Heap) (n : Nat) (C Pt : Addr) (a1 a2 a3 a4 a5 a6 : Addr) (d1 d2 d3 d4 d5 d6 : FuncData) : Prop where
  ce : Cal P w K mg base n "_law_cell_at" ["script", "k"] (a7r K) a1 d1
  dw : Cal P w K mg base n "_law_draws" ["cell", "many", "base"] (a4t K) a2 d2
  ho : O9 P w K mg base D4 n C "houses" ["self"] (a1A K C) a3 d3
  nx : Cal P w K mg base n "_law_next" ["kept", "book", "pick", "house"] (a2G K C Pt) a4 d4
  tr : Cal P w K mg base n "_law_tried" ["kept", "house"] (a1x K C Pt) a5 d5
  du : Cal P w K mg base n "_law_due_kin" ["name"] a5Q a6 d6
structure a8R (P : Program) (w : World) (K : W.Frag) (mg : Str -> Option Value) (base : Heap) (C fi : Addr) (di : FuncData) : Prop where
  mak : Mk K C fi
  ok : ∀ m : Nat, FnOk P w K mg base D4 (m + 1) fi di ["self", "takes", "gives", "sizes"] (a4l K C)
  bd : Binds K di ["self", "takes", "gives", "sizes"] []
  m : mg "Kept" = some (.ref C)
abbrev a9q (P : Program) (w : World) (K : W.Frag) (mg : Str -> Option Value) (base : Heap) (f : Addr) (cdv : Value) (A : Around) (outer : List Env) (s : Shared) (H : Hp) (E : XK) : Cx := (E7 D4 P w K mg base b0T "law" (d9 U9) f cdv A outer s H E).nox
variable {cdv : Value} {A : Around} {outer : List Env} {s : Shared} {H : Hp} {E : XK} {a1 a2 a3 a4 a5 a6 fi : Addr} {d1 d2 d3 d4 d5 d6 di : FuncData}
abbrev nth (i : Nat) : Stmt := (p7 U9).getD i (.Pass ⟨0, 0, 0, 0⟩)
set_option maxHeartbeats 4000000 in
noncomputable def a9E (T : t9 mg) (TKd : TK K C) (Cs : Calls P w K mg base n C Pt a1 a2 a3 a4 a5 a6 d1 d2 d3 d4 d5 d6) (hr : Room n (A.deeper (PyProof.Rows.envOfC "law" (d9 U9) s.heap.objs.size f cdv))) : { t : TS // PS (a9q P w K mg base f cdv A outer s H E) (nth 6) t } :=
  ⟨_, Y5 PassesOwn.never rfl (V5 (x9 A8 (pv 6) B1 (B6 (m8 j5 (o6 (a0 (i7 y8 e8 (i7 x6 (m8 j5 (pv 1) e8 (fun _ _ => rfl)) e8)) (a0 e8 d7))) (u9 a1p rfl T.int PyProof.Rows.boot_int (a0 (M8 T3 (i7 x6 (m8 j5 (pv 1) e8 (fun _ _ => rfl)) e8) e8 (j8 _)) d7)) (fun _ _ => rfl))))) (m5 (i := 7) scLaw.nd rfl (Or.inl rfl))
    (t0 (l0 (i := 8) scLaw.nd rfl (Or.inl rfl) (x5 (a0 (i7 K5 (x5 (a0 (i7 y8 e8 (i7 x6 (pv 7) e8)) d7)) (m8 K8 (pv 2) e8 (fun _ _ => rfl))) (a0 (i7 K5 (x5 (a0 (i7 y8 e8 (i7 x6 (i7 V7 (pv 7) e8) e8)) d7)) (m8 K8 (pv 2) e8 (fun _ _ => rfl))) d7))))
    (t0 (u0 (a2M PySem.F.plainAttrs_list PySem.F.slot_list_append PySem.F.type_list_append G4 (pv 5) (a0 (j6 Cs.nx.ok hr rfl Cs.nx.m Cs.nx.k Cs.nx.b .nil p9 (a0 (pv 4) (a0 (m8 j5 (pv 5) (J8 C2 e8) (fun _ _ => rfl)) (a0 (pv 7) (a0 (pv 8) d7))))) d7)))
    (g0 (v6 (PW.pt (T8 (j4 T3 (i7 x6 (pv 7) e8) e8 (j8 _)) (O7 (j4 (E4 hr) (D9 (pv 4) TKd.cl Cs.ho.me Cs.ho.ok hr Cs.ho.bd .nil p9) (m8 j5 (pv 5) (J8 C2 e8) (fun _ _ => rfl)) (j8 _))))) E1 o4))))⟩
set_option maxHeartbeats 4000000 in
noncomputable def tWh (T : t9 mg) (TKd : TK K C) (Cs : Calls P w K mg base n C Pt a1 a2 a3 a4 a5 a6 d1 d2 d3 d4 d5 d6) (hr : Room n (A.deeper (PyProof.Rows.envOfC "law" (d9 U9) s.heap.objs.size f cdv))) : { t : TS // PS (a9q P w K mg base f cdv A outer s H E) (nth 7) t } :=
  ⟨_, a0u PassesOwn.never (j4 a0O (j0 i9 rfl T.len PySem.boot_len (a0 (pv 5) d7)) e8 (j8 _))
    (t0 (v6 (j4 T3 (i7 x6 (j0 i9 rfl T.len PySem.boot_len (a0 (pv 5) d7)) e8) e8 (j8 _))
      (t0 (v6 (j4 (E4 hr) (j6 Cs.tr.ok hr rfl Cs.tr.m Cs.tr.k Cs.tr.b .nil p9 (a0 (pv 4) (a0 (x5 (a0 (i7 K5 (x5 (a0 e8 d7)) (m8 K8 (pv 2) e8 (fun _ _ => rfl))) (a0 (i7 K5 (x5 (a0 e8 d7)) (m8 K8 (pv 2) e8 (fun _ _ => rfl))) d7))) d7))) (o6 d7) (j8 _)) E1 o4)
      (g0 (v6 (j4 (E4 hr) (j6 Cs.tr.ok hr rfl Cs.tr.m Cs.tr.k Cs.tr.b .nil p9 (a0 (pv 4) (a0 J6 d7))) (o6 d7) (j8 _)) E1 o4))) o4)
    (t0 (v6 (j4 (E4 hr) (j6 Cs.tr.ok hr rfl Cs.tr.m Cs.tr.k Cs.tr.b .nil p9 (a0 (pv 4) (a0 J6 d7))) (o6 d7) (j8 _)) E1 o4)
    (d8 (u0 (a5X PySem.F.plainAttrs_list PySem.F.slot_list_pop PySem.F.type_list_pop a6y (pv 5)))
    (g0 (v6 (PW.pt (T8 (j4 T3 (i7 x6 (j0 i9 rfl T.len PySem.boot_len (a0 (pv 5) d7)) e8) e8 (j8 _)) (O7 (j4 (E4 hr) (D9 (pv 4) TKd.cl Cs.ho.me Cs.ho.ok hr Cs.ho.bd .nil p9) (m8 j5 (pv 5) (J8 C2 e8) (fun _ _ => rfl)) (j8 _))))) E1 o4)))))⟩
set_option maxHeartbeats 4000000 in
noncomputable def b2y (T : t9 mg) (TKd : TK K C) (M : a8R P w K mg base C fi di) (Cs : Calls P w K mg base (n + 2) C Pt a1 a2 a3 a4 a5 a6 d1 d2 d3 d4 d5 d6) (hr : Room (n + 2) (A.deeper (PyProof.Rows.envOfC "law" (d9 U9) s.heap.objs.size f cdv))) : { t : TS // PSs (a9q P w K mg base f cdv A outer s H E) (p7 U9) t } :=
  ⟨_, d8 (l0 (i := 1) scLaw.nd rfl (Or.inl rfl) (j6 Cs.dw.ok hr rfl Cs.dw.m Cs.dw.k Cs.dw.b .nil p9 (a0 (j6 Cs.ce.ok hr rfl Cs.ce.m Cs.ce.k Cs.ce.b .nil p9 (a0 (pv 0) (a0 e8 d7))) (a0 e8 (a0 e8 d7)))))
    (t0 (l0 (i := 2) scLaw.nd rfl (Or.inl rfl) (x5 (a0 (i7 y8 e8 (i7 x6 (m8 j5 (pv 1) e8 (fun _ _ => rfl)) e8)) (a0 (i7 y8 e8 (i7 x6 (m8 j5 (pv 1) e8 (fun _ _ => rfl)) e8)) d7))))
    (t0 (l0 (i := 3) scLaw.nd rfl (Or.inl rfl) (m8 j5 (o6 (a0 B7 (a0 B7 (a0 B7 (a0 B7 d7))))) (i7 x6 (m8 j5 (pv 1) e8 (fun _ _ => rfl)) e8) (fun _ _ => rfl)))
    (t0 (l0 (i := 4) scLaw.nd rfl (Or.inl rfl) (a4m M.mak (M.ok n) hr rfl M.m M.bd .nil p9 (a0 (m8 K8 (pv 2) e8 (fun _ _ => rfl)) (a0 (m8 K8 (pv 2) e8 (fun _ _ => rfl)) (a0 (pv 3) d7)))))
    (d8 (l0 (i := 5) scLaw.nd rfl (Or.inl rfl) (o6 (a0 (o6 d7) d7)))
    (t0 (l0 (i := 6) scLaw.nd rfl (Or.inl rfl) (j6 Cs.dw.ok hr rfl Cs.dw.m Cs.dw.k Cs.dw.b .nil p9 (a0 (j6 Cs.ce.ok hr rfl Cs.ce.m Cs.ce.k Cs.ce.b .nil p9 (a0 (pv 0) (a0 e8 d7))) (a0 e8 (a0 (i7 a5U e8 e8) d7)))))
    (t0 (a9E T TKd Cs hr).2
    (t0 (tWh T TKd Cs hr).2
    (t0 (v6 (PW.pt (a2t (j4 (E4 hr) (j6 Cs.tr.ok hr rfl Cs.tr.m Cs.tr.k Cs.tr.b .nil p9 (a0 (pv 4) (a0 J6 d7))) (j6 Cs.du.ok hr rfl Cs.du.m Cs.du.k Cs.du.b .nil p9 (a0 B7 d7)) (j8 _)) (a0Y (j4 (E4 hr) (D9 (pv 4) TKd.cl Cs.ho.me Cs.ho.ok hr Cs.ho.bd .nil p9) (o6 d7) (j8 _))))) E1 o4)
    (t0 (Y5 PassesOwn.never rfl (M5 rfl T.range (a0 e8 d7)) (m5 (i := 9) scLaw.nd rfl (Or.inl rfl))
      (g0 (v6 (j4 (E4 hr) (j6 Cs.tr.ok hr rfl Cs.tr.m Cs.tr.k Cs.tr.b .nil p9 (a0 (pv 4) (a0 (x5 (a0 (i7 K5 (x5 (a0 (i7 y8 e8 (pv 9)) d7)) (m8 K8 (pv 2) e8 (fun _ _ => rfl))) (a0 (i7 K5 (x5 (a0 (i7 y8 e8 (pv 9)) d7)) (m8 K8 (pv 2) e8 (fun _ _ => rfl))) d7))) d7))) (o6 d7) (j8 _)) E1 o4)))
    (t0 (v6 (j4 (E4 hr) (j6 Cs.tr.ok hr rfl Cs.tr.m Cs.tr.k Cs.tr.b .nil p9 (a0 (pv 4) (a0 (x5 (a0 (i7 K5 (x5 (a0 e8 d7)) (m8 K8 (pv 2) e8 (fun _ _ => rfl))) (a0 (i7 K5 (x5 (a0 e8 d7)) (m8 K8 (pv 2) e8 (fun _ _ => rfl))) d7))) d7))) (j6 Cs.du.ok hr rfl Cs.du.m Cs.du.k Cs.du.b .nil p9 (a0 B7 d7)) (j8 _)) E1 o4)
    (g0 (m6 (M8 T3 (j0 i9 rfl T.len PySem.boot_len (a0 (D9 (pv 4) TKd.cl Cs.ho.me Cs.ho.ok hr Cs.ho.bd .nil p9) d7)) e8 (j8 _))))))))))))))⟩
end
end Rim
namespace Rim
open PySem L2 Fr
def LeftL (Pt p pa pl : Addr) (H H' : Hp) : Prop := ∀ b o, b ≠ p -> b ≠ Pt -> b ≠ pa -> b ≠ pl -> H b = some o -> H' b = some o
theorem LeftL.refl {Pt p pa pl : Addr} {H : Hp} : LeftL Pt p pa pl H H := fun _ _ _ _ _ _ h => h
theorem LeftL.trans {Pt p pa pl : Addr} {H H1 H2 : Hp} (a : LeftL Pt p pa pl H H1) (b : LeftL Pt p pa pl H1 H2) : LeftL Pt p pa pl H H2 := fun c o n1 n2 n3 n4 h => b c o n1 n2 n3 n4 (a c o n1 n2 n3 n4 h)
theorem Left.toL {Pt p pa pl : Addr} {H H' : Hp} (a : Left Pt p pa H H') : LeftL Pt p pa pl H H' := fun c o n1 n2 n3 _ h => a c o n1 n2 n3 h
theorem Same.toL {Pt p pa pl : Addr} {H H' : Hp} (a : Same H H') : LeftL Pt p pa pl H H' := fun c o _ _ _ _ h => a c o h
theorem LeftL.write {Pt p pa pl : Addr} {H H' : Hp} {o : HO} (a : LeftL Pt p pa pl H H') : LeftL Pt p pa pl H (j9 H' pl o) := fun c u n1 n2 n3 n4 h => by rw [c9 n4]; exact a c u n1 n2 n3 n4 h
structure G33 (K : W.Frag) (C Pt : Addr) (H : Hp) (p pa : Addr) (lo : List Addr) (kt kg : Nat) (z : Str) (L : E2) (stk : List E2) : Prop where
  kp : KpAt K C H p kt kg z L stk pa lo
  lt : LT Pt H
  ok : ∀ M ∈ stk ++ [L], M.2.length = M.1.length /\ M.1.length <= 4 /\ ∀ g ∈ M.1, HG (10 ^ 9) kt kg g
structure B33 (K : W.Frag) (H : Hp) (p pa : Addr) (lo : List Addr) (pl : Addr) (as : List Addr) (ms : List E2) : Prop where
  hl : H pl = some (.lst (as.map V.ref))
  al : PySem.Paired (fun a (M : E2) => ∃ xs, H a = some (.lst xs) /\ Bk K H xs M.1) as ms
  n1 : pl ≠ pa
  n2 : pl ∉ lo
  n3 : ∀ a ∈ as, a ≠ pa /\ a ≠ pl
section
variable {K : W.Frag} {C Pt : Addr} {H H' : Hp} {p pa pl : Addr} {lo as : List Addr} {kt kg : Nat} {z : Str} {L : E2} {stk : List E2}
theorem G33.pa' (g : G33 K C Pt H p pa lo kt kg z L stk) : ∃ pv, H pa = some (.lst pv) := by
  obtain ⟨_, _, _, pv, _, _, h, _⟩ := g.kp.ex
  exact ⟨pv, h⟩
theorem G33.p' (g : G33 K C Pt H p pa lo kt kg z L stk) : ∃ dx fs, H p = some (.ins C dx fs) := by
  obtain ⟨dx, _, _, pv, h, _⟩ := g.kp.ex
  exact ⟨dx, _, h⟩
theorem G33.same (e : Same H H') (g : G33 K C Pt H p pa lo kt kg z L stk) : G33 K C Pt H' p pa lo kt kg z L stk := ⟨g.kp.same e, g.lt.same e, g.ok⟩
theorem G33.fr (g : G33 K C Pt H p pa lo kt kg z L stk) (lf : Left Pt p pa H H') : Fr0 (fun b => b = p \/ b = pa \/ b = Pt) H H' := by
  obtain ⟨pv, h⟩ := g.pa'
  obtain ⟨dx, fs, h2⟩ := g.p'
  exact lf.fr h2 h g.lt
theorem G33.lst (g : G33 K C Pt H p pa lo kt kg z L stk) (lf : LeftL Pt p pa pl H H') {b : Addr} {xs : List V} (h : H b = some (.lst xs)) (n : b ≠ pa) (n2 : b ≠ pl) : H' b = some (.lst xs) := by
  obtain ⟨dx, fs, h2⟩ := g.p'
  exact lf b _ (t7 h h2 nofun) (g.lt.ne h nofun) n n2 h
theorem G33.tup (g : G33 K C Pt H p pa lo kt kg z L stk) (lf : LeftL Pt p pa pl H H') {b : Addr} {xs vs : List V} (h : H b = some (.tup xs)) (hpl : H pl = some (.lst vs)) : H' b = some (.tup xs) := by
  obtain ⟨dx, fs, h2⟩ := g.p'
  obtain ⟨pv, h3⟩ := g.pa'
  exact lf b _ (t7 h h2 nofun) (g.lt.ne h nofun) (t7 h h3 nofun) (t7 h hpl nofun) h
theorem B33.left {ms : List E2} {lo' : List Addr} (g : G33 K C Pt H p pa lo kt kg z L stk) (lf : Left Pt p pa H H') (b : B33 K H p pa lo pl as ms) (n : pl ∉ lo') : B33 K H' p pa lo' pl as ms := by
  obtain ⟨dx, fs, h2⟩ := g.p'
  refine ⟨lf.lst h2 g.lt b.n1 b.hl, ?_, b.n1, n, b.n3⟩
  have : ∀ {as : List Addr} {ms : List E2}, (∀ a ∈ as, a ≠ pa) -> PySem.Paired (fun a (M : E2) => ∃ xs, H a = some (.lst xs) /\ Bk K H xs M.1) as ms -> PySem.Paired (fun a (M : E2) => ∃ xs, H' a = some (.lst xs) /\ Bk K H' xs M.1) as ms := by
    intro as ms hn h
    induction h with
    | nil => exact .nil
    | cons r _ ih =>
      obtain ⟨xs, q1, q2⟩ := r
      exact .cons ⟨xs, lf.lst h2 g.lt (hn _ (.head _)) q1, q2.fr0 (g.fr lf)⟩ (ih fun a ha => hn a (.tail _ ha))
  exact this (fun a ha => (b.n3 a ha).1) b.al
theorem B33.same {ms : List E2} (e : Same H H') (b : B33 K H p pa lo pl as ms) : B33 K H' p pa lo pl as ms :=
  ⟨e _ _ b.hl, Paired.imp' (fun _ _ ⟨xs, q1, q2⟩ => ⟨xs, e _ _ q1, Bk.same e q2⟩) b.al, b.n1, b.n2, b.n3⟩
theorem G33.write {vs ws : List V} (g : G33 K C Pt H p pa lo kt kg z L stk) (h : H pl = some (.lst vs)) (n1 : pl ≠ pa) (n2 : pl ∉ lo) : G33 K C Pt (j9 H pl (.lst ws)) p pa lo kt kg z L stk := by
  obtain ⟨dx, fs, h2⟩ := g.p'
  refine ⟨g.kp.fr0 (X := fun b => b = pl) ⟨fun b o hx e => by rw [c9 hx]; exact e, fun x hx => by rw [hx]; exact D5 h⟩ (fun b hb z0 => n2 (z0 ▸ hb)) (fun z0 => t7 h h2 nofun z0.symm) (fun z0 => n1 z0.symm), g.lt.write h, g.ok⟩
theorem a0x {vs : List V} {o : HO} : ∀ {as : List Addr} {ms : List E2}, H pl = some (.lst vs) -> (∀ a ∈ as, a ≠ pl) -> PySem.Paired (fun a (M : E2) => ∃ xs, H a = some (.lst xs) /\ Bk K H xs M.1) as ms -> PySem.Paired (fun a (M : E2) => ∃ xs, (j9 H pl o) a = some (.lst xs) /\ Bk K (j9 H pl o) xs M.1) as ms
  | _, _, _, _, .nil => .nil
  | _, _, h, n, .cons ⟨xs, q1, q2⟩ t => .cons ⟨xs, by rw [c9 (n _ (.head _))]; exact q1, q2.fr0 (X := fun b => b = pl) ⟨fun b o hx e => by rw [c9 hx]; exact e, fun x hx => by rw [hx]; exact D5 h⟩⟩ (a0x h (fun a ha => n a (.tail _ ha)) t)
end
def Bot (ms : List E2) : Prop := ∃ M r, ms = M :: r /\ M.1 = []
theorem Bot.snoc {ms : List E2} {M : E2} (h : Bot ms) : Bot (ms ++ [M]) := by
  obtain ⟨N, r, rfl, e⟩ := h
  exact ⟨N, r ++ [M], rfl, e⟩
theorem Bot.drop {ms : List E2} {M0 M : E2} (h : Bot ((ms ++ [M0]) ++ [M])) : Bot (ms ++ [M0]) := by
  obtain ⟨N, r, e, e2⟩ := h
  cases ms with
  | nil => simp at e; exact ⟨M0, [], rfl, by rw [e.1]; exact e2⟩
  | cons a ms => simp at e; exact ⟨a, ms ++ [M0], rfl, by rw [e.1]; exact e2⟩
section
variable {P : Program} {w : World} {K : W.Frag} {mg : Str -> Option Value} {base : Heap} {f C Pt : Addr} {fd : FuncData} {n : Nat}
theorem a9p : a9R "NothingLeft" = a3p false false false false false true := by decide
theorem b0a : a9R "TooMany" = a3p false false false false true false := by decide
theorem S2 {b1 b2 b3 b4 b5 b6 : Bool} : (a8U b1 b2 b3 b4 b5 b6).canLay0 = true := by rfl
def a3W (K : W.Frag) (Pt : Addr) : Sp := fun vs H Q _ => ∃ (a : Addr) (ns : List Int), vs = [.ref a] /\ SqL K H a (ns.map V.int) /\ ns.length <= 63 /\ LT Pt H /\ ∀ H', Q (.bl true) H'
abbrev b0g : List V := [V.str "any", V.str "one", V.str "less", V.str "more"]
theorem a9D {i : Int} (h0 : 0 <= i) (h4 : i < 4) : ∃ z, X3 b0g i = some (.str z) /\ Szw z := by
  have : i = 0 \/ i = 1 \/ i = 2 \/ i = 3 := by omega
  rcases this with rfl | rfl | rfl | rfl
  . exact ⟨"any", rfl, .inl rfl⟩
  . exact ⟨"one", rfl, .inr (.inl rfl)⟩
  . exact ⟨"less", rfl, .inr (.inr (.inl rfl))⟩
  . exact ⟨"more", rfl, .inr (.inr (.inr rfl))⟩
set_option maxHeartbeats 8000000 in
theorem a9k {a1 a2 a3 a4 a5 a6 fi : Addr} {d1 d2 d3 d4 d5 d6 di : FuncData} (F : Fun K "law" "law" U9 f fd) (T : t9 mg) (TKd : TK K C) (M : a8R P w K mg base C fi di) (Cs : Calls P w K mg base (n + 2) C Pt a1 a2 a3 a4 a5 a6 d1 d2 d3 d4 d5 d6) :
    FnOk P w K mg base D4 (n + 3) f fd ["script"] (a3W K Pt) := by
  refine F.ok scLaw (fun vs H Q E h => ?_) (fun cdv A outer s H vs Q E hr h => ?_)
  . obtain ⟨a, ns, rfl, _⟩ := h
    rfl
  obtain ⟨a, ns, rfl, hS, h63, LTH, q⟩ := h
  refine ⟨_, (b2y T TKd M Cs hr).2, ?_⟩
  -- heads
  refine ⟨_, rfl, a, ns, 0, rfl, hS, by decide, fun c0 => ?_⟩
  refine ⟨_, 5, 1000, rfl, by decide, by decide, by decide, fun hd H1 ds e1 hhd ld bd => ?_⟩
  have at5 : ∀ k : Nat, k < 5 -> ∃ v, v ∈ ds /\ X3 (ds.map V.int) (k : Int) = some (.int v) := fun k hk => a7H (by omega) (by omega)
  have L1 := LTH.same e1
  have hS1 := e1.seq hS
  -- counts
  refine ⟨fun σ' H' => ∃ ca kt kg, σ' = [some (.ref a), some (.ref hd), some (.ref ca), none, none, none, none, none, none, none] /\ Same H1 H' /\ H' ca = some (.tup [.int ((kt : Nat) : Int), .int ((kg : Nat) : Int)]) /\ 1 <= kt /\ kt <= 2 /\ 1 <= kg /\ kg <= 2, ?_, ?_⟩
  . obtain ⟨v0, m0, i0⟩ := at5 0 (by decide)
    obtain ⟨v1, m1, i1⟩ := at5 1 (by decide)
    have b0 := bd v0 m0
    have b1 := bd v1 m1
    refine ⟨_, rfl, hd, _, 0, _, rfl, rfl, SqL.of hhd, i0, _, _, rfl, rfl, (by show (0 : Int) < 2; decide), _, _, rfl, rfl, _, rfl, hd, _, 1, _, rfl, rfl, SqL.of hhd, i1, _, _, rfl, rfl, (by show (0 : Int) < 2; decide), _, _, rfl, rfl, (by show 2 <= sizeLine; decide), fun ca hca => ?_⟩
    refine ⟨ca, (1 + v0 % 2).toNat, (1 + v1 % 2).toNat, rfl, Same.new hca _, ?_, by omega, by omega, by omega, by omega⟩
    rw [upd_same, show (((1 + v0 % 2).toNat : Nat) : Int) = 1 + v0 % 2 by omega, show (((1 + v1 % 2).toNat : Nat) : Int) = 1 + v1 % 2 by omega]
  intro σ2 H2 hM_; refine M4 fun G_ hG_ => ?_; obtain ⟨ca, kt, kg, rfl, e2, hca, kt1, kt2, kg1, kg2⟩ := hM_; subst hG_
  have hhd2 := e2 _ _ hhd
  -- sizes
  refine ⟨fun σ' H' => ∃ z, σ' = [some (.ref a), some (.ref hd), some (.ref ca), some (.str z), none, none, none, none, none, none] /\ Same H2 H' /\ Szw z, ?_, ?_⟩
  . obtain ⟨v2, m2, i2⟩ := at5 2 (by decide)
    have b2 := bd v2 m2
    refine ⟨(by show 4 <= sizeLine; decide), fun sl hsl => ?_⟩
    have s1 := Same.new hsl (.lst b0g)
    obtain ⟨z, hz1, hz2⟩ := a9D (i := v2 % 4) (by omega) (by omega)
    refine ⟨_, rfl, hd, _, 2, _, rfl, rfl, SqL.of (s1 _ _ hhd2), i2, _, _, rfl, rfl, (by show (0 : Int) < 4; decide), sl, b0g, _, _, rfl, rfl, SqL.of upd_same, hz1, ?_⟩
    exact ⟨z, rfl, s1, hz2⟩
  intro σ3 H3 hM_; refine M4 fun G_ hG_ => ?_; obtain ⟨z, rfl, e3, hz⟩ := hM_; subst hG_
  have hca3 := e3 _ _ hca
  have ft : Fit z kt kg := ⟨hz, kt1, by omega, by omega⟩
  -- kept
  refine ⟨fun σ' H' => ∃ p pa lo, σ' = [some (.ref a), some (.ref hd), some (.ref ca), some (.str z), some (.ref p), none, none, none, none, none] /\ Same H3 H' /\ H3 pa = none /\ G33 K C Pt H' p pa lo kt kg z ([], []) [], ?_, ?_⟩
  . refine ⟨_, rfl, ca, _, 0, _, rfl, rfl, SqT.of hca3, rfl, _, rfl, ca, _, 1, _, rfl, rfl, SqT.of hca3, rfl, _, rfl, fun x dx hx hdx nd => ?_⟩
    have sx : ∀ b o, H3 b = some o -> (j9 (j9 H3 dx (.own x)) x (.ins C dx [])) b = some o := fun b o q0 => by rw [c9 (d0 q0 hx), c9 (d0 q0 hdx)]; exact q0
    refine ⟨x, dx, kt, kg, z, rfl, upd_same, fun H4 pa lo KP k f1 f2 => ⟨rfl, x, pa, lo, rfl, fun b o q0 => k b o (d0 q0 hx) (sx b o q0), ?_, ⟨KP, ?_, ?_⟩⟩⟩
    . have nx : pa ≠ x := fun z0 => by subst z0; rw [upd_same] at f1; cases f1
      have nd2 : pa ≠ dx := fun z0 => by subst z0; rw [c9 nd, upd_same] at f1; cases f1
      rw [c9 nx, c9 nd2] at f1; exact f1
    . exact ((L1.same e2).same e3).same fun b o q0 => k b o (d0 q0 hx) (sx b o q0)
    . intro M0 hM0
      rw [List.mem_singleton.mp hM0]
      exact ⟨rfl, by decide, fun g hg => by cases hg⟩
  intro σ4 H4 hM_; refine M4 fun G_ hG_ => ?_; obtain ⟨p, pa, lo, rfl, e4, fpa, g4⟩ := hM_; subst hG_
  have hca4 := e4 _ _ hca3
  have hhd4 := e4 _ _ (e3 _ _ hhd2)
  have nhd : hd ≠ pa := fun z0 => by subst z0; rw [e3 _ _ hhd2] at fpa; cases fpa
  have hS4 : SqL K H4 a (ns.map V.int) := e4.seq (e3.seq (e2.seq hS1))
  -- past
  refine ⟨(by show 0 <= sizeLine; decide), fun al hal => ⟨(by show 1 <= sizeLine; decide), fun pl hpl => ?_⟩⟩
  have s5a := Same.new hal (.lst [])
  have s5b := Same.new hpl (.lst [V.ref al])
  have s5 := s5a.trans s5b
  have g5 := g4.same s5
  have nal : al ≠ pl := d0 upd_same hpl
  obtain ⟨pv4, hpa4⟩ := g4.pa'
  have b5 : B33 K (j9 (j9 H4 al (.lst [])) pl (.lst [V.ref al])) p pa lo pl [al] ([] ++ [(([] : List h8), ([] : List Q2))]) := by
    refine ⟨upd_same, .cons ⟨[], by rw [c9 nal]; exact upd_same, .nil⟩ .nil, ?_, ?_, ?_⟩
    . exact fun z0 => by subst z0; rw [s5a _ _ hpa4] at hpl; cases hpl
    . intro hb
      obtain ⟨zs, hz0⟩ := g4.kp.ls pl hb
      rw [s5a _ _ hz0] at hpl; cases hpl
    . intro b hb
      rw [List.mem_singleton.mp hb]
      exact ⟨fun z0 => (by subst z0; rw [hpa4] at hal; cases hal), nal⟩
  have hca5 := s5 _ _ hca4
  have hhd5 := s5 _ _ hhd4
  have hS5 := s5.seq hS4
  generalize j9 (j9 H4 al (.lst [])) pl (.lst [V.ref al]) = H5 at *
  -- picks
  refine ⟨fun σ' H' => ∃ (pk : Addr) (ds : List Int), σ' = [some (.ref a), some (.ref hd), some (.ref ca), some (.str z), some (.ref p), some (.ref pl), some (.ref pk), none, none, none] /\ Same H5 H' /\ H' pk = some (.lst (ds.map V.int)) /\ ds.length = 320 /\ (∀ d ∈ ds, 0 <= d /\ d < 10000), ?_, ?_⟩
  . refine ⟨_, rfl, a, ns, 1, rfl, hS5, by decide, fun c1 => ?_⟩
    refine ⟨_, _, rfl, rfl, ⟨by decide, by decide, by decide⟩, _, 320, 10000, rfl, by decide, by decide, by decide, fun pk H6 ds' e6 hpk ld' bd' => ?_⟩
    exact ⟨pk, ds', rfl, e6, hpk, ld', bd'⟩
  intro σ6 H6 hM_; refine M4 fun G_ hG_ => ?_; obtain ⟨pk, ps, rfl, e6, hpk, lps, bps⟩ := hM_; subst hG_
  have g6 := g5.same e6
  have b6 := b5.same e6
  have hca6 := e6 _ _ hca5
  have hhd6 := e6 _ _ hhd5
  -- some hundred deeds
  refine ⟨fun σ' H' => ∃ o7 o8 lo' as L stk, σ' = [some (.ref a), some (.ref hd), some (.ref ca), some (.str z), some (.ref p), some (.ref pl), some (.ref pk), o7, o8, none] /\ LeftL Pt p pa pl H6 H' /\ G33 K C Pt H' p pa lo' kt kg z L stk /\ B33 K H' p pa lo' pl as (stk ++ [L]) /\ stk.length <= 320 /\ Bot (stk ++ [L]), ?_, ?_⟩
  . obtain ⟨v3, m3, i3⟩ := at5 3 (by decide)
    obtain ⟨v4, m4, i4⟩ := at5 4 (by decide)
    have b3 := bd v3 m3
    have b4 := bd v4 m4
    refine ⟨_, rfl, _, rfl, hd, _, 3, _, rfl, rfl, SqL.of hhd6, i3, _, _, rfl, rfl, (by show (0 : Int) < 60; decide), _, _, rfl, rfl, (by show 2 <= sizeLine; decide), fun tl htl => ?_⟩
    have s7 := Same.new htl (.lst [V.int (100 + v3 % 60), V.int 320])
    refine ⟨_, rfl, hd, _, 4, _, rfl, rfl, SqL.of (s7 _ _ hhd6), i4, _, _, rfl, rfl, (by show (0 : Int) < 8; decide), rfl, ?_⟩
    obtain ⟨m, hm, hat⟩ : ∃ m : Nat, m <= 320 /\ X3 [V.int (100 + v3 % 60), V.int 320] (if decide (V.int (v4 % 8) = V.int 0) = true then 1 else 0) = some (V.int (m : Int)) := by
      by_cases hk : decide (V.int (v4 % 8) = V.int 0) = true
      . exact ⟨320, by omega, by rw [if_pos hk]; rfl⟩
      . refine ⟨(100 + v3 % 60).toNat, by omega, ?_⟩
        rw [if_neg hk, show (((100 + v3 % 60).toNat : Nat) : Int) = 100 + v3 % 60 by omega]; rfl
    refine .inr ⟨_, rfl, tl, _, _, _, rfl, rfl, SqL.of upd_same, hat, (m : Int), rfl, pk, _, rfl, SqL.of (s7 _ _ hpk), fun sl hsl => ?_⟩
    rw [U3 _ _ (by rw [List.length_map]; omega), <- List.map_take]
    have s8 := Same.new hsl (.lst ((ps.take m).map V.int))
    have s78 := s7.trans s8
    have g8 := g6.same s78
    have b8 := b6.same s78
    have hca8 := s78 _ _ hca6
    have nsl : sl ≠ pa := fun z0 => by
      obtain ⟨pv, hq⟩ := (g6.same s7).pa'
      subst z0; rw [hq] at hsl; cases hsl
    have nsp : sl ≠ pl := fun z0 => by
      have := (b6.same s7).hl
      subst z0; rw [this] at hsl; cases hsl
    have hsl8 : (j9 (j9 H6 tl (.lst [V.int (100 + v3 % 60), V.int 320])) sl (.lst ((ps.take m).map V.int))) sl = some (.lst ((ps.take m).map V.int)) := upd_same
    generalize j9 (j9 H6 tl (.lst [V.int (100 + v3 % 60), V.int 320])) sl (.lst ((ps.take m).map V.int)) = H8 at *
    refine ⟨sl, rfl, ⟨_, SqL.of hsl8⟩, ?_⟩
    refine a5M (xs := (ps.take m).map V.int) (fun i σ H' => ∃ o7 o8 lo' as L stk, σ = [some (.ref a), some (.ref hd), some (.ref ca), some (.str z), some (.ref p), some (.ref pl), some (.ref pk), o7, o8, none] /\ LeftL Pt p pa pl H8 H' /\ G33 K C Pt H' p pa lo' kt kg z L stk /\ B33 K H' p pa lo' pl as (stk ++ [L]) /\ stk.length = i /\ Bot (stk ++ [L]))
      ⟨_, _, lo, [al], _, [], rfl, LeftL.refl, g8, b8, rfl, ⟨_, [], rfl, rfl⟩⟩ (fun i σ H' _ ⟨_, _, _, _, _, _, _, lf, _⟩ => SqL.of (g8.lst lf hsl8 nsl nsp)) ?_ ?_
    rotate_left
    . rintro σ H9 ⟨o7, o8, lo', as, L, stk, rfl, lf, g9, b9, hl9, bot9⟩
      refine ⟨o7, o8, lo', as, L, stk, rfl, (Same.toL s78).trans lf, g9, b9, ?_, bot9⟩
      rw [hl9, List.length_map, List.length_take]; omega
    rintro i x σ H9 hx ⟨o7, o8, lo', as, L, stk, rfl, lf, g9, b9, hl9, bot9⟩
    obtain ⟨pick, rfl⟩ := U0 hx
    have pkb : 0 <= pick /\ pick < 10000 := by
      rw [List.getElem?_map] at hx
      cases e : (ps.take m)[i]? with
      | none => rw [e] at hx; cases hx
      | some v => rw [e] at hx; cases hx; exact bps _ (List.mem_of_mem_take (List.mem_of_getElem? e))
    have hca9 : H9 ca = some (.tup [.int ((kt : Nat) : Int), .int ((kg : Nat) : Int)]) := g8.tup lf hca8 b8.hl
    have ilt : i < 320 := by
      have := (List.getElem?_eq_some_iff.mp hx).1
      rw [List.length_map, List.length_take] at this
      omega
    -- the house
    refine ⟨fun σ' H' => ∃ hv, σ' = [some (.ref a), some (.ref hd), some (.ref ca), some (.str z), some (.ref p), some (.ref pl), some (.ref pk), some (.int pick), some hv, none] /\ Same H9 H' /\ HS K H' hv (List.replicate kt (1 + pick % 9), List.replicate kg (1 + pick / 9 % 9)), ?_, ?_⟩
    . refine a0h (a := 1 + pick % 9) (b := 1 + pick / 9 % 9) (kt := kt) (kg := kg) (fun H1 Q1 e1 h1 => ⟨_, rfl, _, _, rfl, rfl, (by show (0 : Int) < 9; decide), _, _, rfl, rfl, h1⟩) (fun H1 Q1 e1 h1 => ⟨_, rfl, ca, _, 0, _, rfl, rfl, SqT.of (e1 _ _ hca9), rfl, h1⟩)
        (fun H1 Q1 e1 h1 => ⟨_, rfl, _, _, rfl, rfl, (by show (0 : Int) < 9 /\ (9 : Int) < 1073741824; decide), _, _, rfl, rfl, (by show (0 : Int) < 9; decide), _, _, rfl, rfl, h1⟩) (fun H1 Q1 e1 h1 => ⟨_, rfl, ca, _, 1, _, rfl, rfl, SqT.of (e1 _ _ hca9), rfl, h1⟩) kt1 (by omega) kg1 (by omega) (fun v H' e hv => ?_)
      exact ⟨v, rfl, e, hv⟩
    intro σ10 H10 hM_; refine M4 fun G_ hG_ => ?_; obtain ⟨hv, rfl, e10, hH⟩ := hM_; subst hG_
    have g10 := g9.same e10
    have b10 := b9.same e10
    obtain ⟨gk, sk⟩ := W5 (a := 1 + pick % 9) (b := 1 + pick / 9 % 9) (kt := kt) (kg := kg) (by omega) (by omega) (by omega) (by omega) kg1 (by omega) (by omega)
    -- the deed
    obtain ⟨as0, al0, eas, las0⟩ := B8 (l := as) (k := stk.length) (by have := x8 b9.al; rw [List.length_append] at this; simpa using this)
    subst eas
    obtain ⟨al1, xs0, hal0, hB0⟩ := A0 b10.al
    have okL := g10.ok L (List.mem_append_right _ (.head _))
    refine ⟨fun σ' H' => ∃ lo2 as2 L2, σ' = [some (.ref a), some (.ref hd), some (.ref ca), some (.str z), some (.ref p), some (.ref pl), some (.ref pk), some (.int pick), some hv, none] /\ LeftL Pt p pa pl H10 H' /\ G33 K C Pt H' p pa lo2 kt kg z L2 (stk ++ [L]) /\ B33 K H' p pa lo2 pl as2 ((stk ++ [L]) ++ [L2]), ?_, ?_⟩
    . refine ⟨_, rfl, .inl ⟨rfl, _, SqL.of b10.hl⟩, ?_⟩
      have atl : X3 ((as0 ++ [al0]).map V.ref) (-1) = some (V.ref al0) := by rw [List.map_append]; exact V1 _ _
      refine ⟨_, rfl, _, rfl, _, rfl, pl, _, _, _, rfl, rfl, SqL.of b10.hl, atl, _, rfl, _, rfl, ?_⟩
      refine ⟨p, pa, al0, pick, hv, _, kt, kg, z, L, stk, lo', xs0, rfl, g10.kp, ft, g10.lt, hH, sk, gk, okL.2.2, okL.2.1, okL.1, by omega, pkb.1, by omega, hal0, hB0, (b10.n3 al0 (List.mem_append_right _ (.head _))).1, fun H11 ha wa r hs qs ys KP lq l4 hG f1 f2 lf11 L11 hr0 hr hB n1 n2 => ?_⟩
      have okall : ∀ M0 ∈ (stk ++ [L]) ++ [(hs, qs)], M0.2.length = M0.1.length /\ M0.1.length <= 4 /\ ∀ g ∈ M0.1, HG (10 ^ 9) kt kg g := fun M0 h0 => by
        rcases List.mem_append.mp h0 with h0 | h0
        . exact g10.ok M0 h0
        . rw [List.mem_singleton.mp h0]; exact ⟨lq, l4, hG⟩
      have g11 : G33 K C Pt H11 p pa (ha :: wa :: lo') kt kg z (hs, qs) (stk ++ [L]) := ⟨KP, L11, okall⟩
      have npl2 : pl ∉ ha :: wa :: lo' := fun hb => by
        rcases List.mem_cons.mp hb with z0 | hb
        . subst z0; rw [b10.hl] at f1; cases f1
        . rcases List.mem_cons.mp hb with z0 | hb
          . subst z0; rw [b10.hl] at f2; cases f2
          . exact b10.n2 hb
      have b11 := B33.left g10 lf11 b10 npl2
      obtain ⟨pv10, hpa10⟩ := g10.pa'
      have nrpa : r ≠ pa := fun z0 => by subst z0; rw [hpa10] at hr0; cases hr0
      have nrpl : r ≠ pl := fun z0 => by subst z0; rw [b10.hl] at hr0; cases hr0
      have lenm : ((as0 ++ [al0]).map V.ref).length < sizeLine := by
        rw [List.length_map, List.length_append, las0]
        exact Nat.lt_of_le_of_lt (show stk.length + [al0].length <= 1000 by simp; omega) (by decide)
      refine ⟨pl, _, _, rfl, rfl, b11.hl, lenm, _, as0 ++ [al0] ++ [r], (hs, qs), rfl, (Left.toL lf11).write, g11.write b11.hl b11.n1 npl2, ?_⟩
      refine ⟨by rw [upd_same, List.map_append (l₁ := as0 ++ [al0])]; rfl, ?_, b11.n1, npl2, fun b hb => ?_⟩
      . refine Paired.app (a0x b11.hl (fun b hb => (b11.n3 b hb).2) b11.al) (.cons ⟨ys, by rw [c9 nrpl]; exact hr, ?_⟩ .nil)
        exact hB.fr0 (X := fun b => b = pl) ⟨fun b o hx e => by rw [c9 hx]; exact e, fun x hx => by rw [hx]; exact D5 b11.hl⟩
      . rcases List.mem_append.mp hb with hb | hb
        . exact b11.n3 b hb
        . rw [List.mem_singleton.mp hb]; exact ⟨nrpa, nrpl⟩
    intro σ11 H11 hM_; refine M4 fun G_ hG_ => ?_; obtain ⟨lo2, as2, L2, rfl, lf11, g11, b11⟩ := hM_; subst hG_
    have fin : ∀ {H' : Hp}, Same H11 H' -> ∃ o7 o8 lo' as L0 stk0, [some (V.ref a), some (V.ref hd), some (V.ref ca), some (V.str z), some (V.ref p), some (V.ref pl), some (V.ref pk), some (V.int pick), some hv, none] = [some (V.ref a), some (V.ref hd), some (V.ref ca), some (V.str z), some (V.ref p), some (V.ref pl), some (V.ref pk), o7, o8, none] /\ LeftL Pt p pa pl H8 H' /\ G33 K C Pt H' p pa lo' kt kg z L0 stk0 /\ B33 K H' p pa lo' pl as (stk0 ++ [L0]) /\ stk0.length = i + 1 /\ Bot (stk0 ++ [L0]) := fun e =>
      ⟨_, _, lo2, as2, L2, stk ++ [L], rfl, (lf.trans (Same.toL e10)).trans (lf11.trans (Same.toL e)), g11.same e, b11.same e, by rw [List.length_append, hl9]; rfl, bot9.snoc⟩
    refine ⟨_, rfl, _, _, rfl, rfl, (by show (0 : Int) < 16; decide), rfl, _, rfl, ?_⟩
    refine A7 (fun c => ?_) (fun c => ?_)
    . obtain ⟨dx, fs, hp11⟩ := g11.p'
      obtain ⟨as3, al3, eas3, las3⟩ := B8 (l := as2) (k := (stk ++ [L]).length) (by have := x8 b11.al; rw [List.length_append (as := stk ++ [L])] at this; simpa using this)
      subst eas3
      obtain ⟨_, xs3, hal3, hB3⟩ := A0 b11.al
      have atl : X3 ((as3 ++ [al3]).map V.ref) (-1) = some (V.ref al3) := by rw [List.map_append]; exact V1 _ _
      obtain ⟨dx4, ta4, wa4, pv4', hp4', _⟩ := g11.kp.ex
      refine ⟨_, rfl, p, dx4, _, rfl, hp4', rfl, p, pa, kt, kg, z, L2, stk ++ [L], lo2, rfl, g11.kp, fun hl hxs H12 e12 hl0 hl1 hB12 => ?_⟩
      have layb : PyData.canLay0 (.list (L2.1.map w4)) = true := by rw [PyData.canLay0]; exact W9 _
      have depb : (PyData.list (L2.1.map w4)).depth <= 60 := by
        have := M7 L2.1
        rw [PyData.depth]
        lia
      refine ⟨_, rfl, _, rfl, pl, _, _, _, rfl, rfl, SqL.of (e12 _ _ b11.hl), atl, .list (L2.1.map w4), .list (L2.1.map w4), .lst (SqL.of hl1) (Bk.dps hB12), .lst (SqL.of (e12 _ _ hal3)) (Bk.dps (Bk.same e12 hB3)), layb, layb, Nat.le_trans (Nat.min_le_left _ _) depb, _, rfl, ?_⟩
      rw [R1 _ layb]
      exact K2 (fin e12)
    . exact K2 (fin (Same.refl _))
  intro σ7 H7 hM_; refine M4 fun G_ hG_ => ?_; obtain ⟨o7, o8, lo7, as7, L7, stk7, rfl, lf7, g7, b7, hs7, bot7⟩ := hM_; subst hG_
  have hca7 : H7 ca = some (.tup [.int ((kt : Nat) : Int), .int ((kg : Nat) : Int)]) := g6.tup lf7 hca6 b6.hl
  -- all taken back
  refine ⟨fun σ' H' => ∃ lo' L, σ' = [some (.ref a), some (.ref hd), some (.ref ca), some (.str z), some (.ref p), some (.ref pl), some (.ref pk), o7, o8, none] /\ H' ca = some (.tup [.int ((kt : Nat) : Int), .int ((kg : Nat) : Int)]) /\ G33 K C Pt H' p pa lo' kt kg z L [] /\ L.1 = [], ?_, ?_⟩
  . refine ⟨fun m σ' H' => ∃ lo' as L stk, m = stk.length /\ σ' = [some (.ref a), some (.ref hd), some (.ref ca), some (.str z), some (.ref p), some (.ref pl), some (.ref pk), o7, o8, none] /\ H' ca = some (.tup [.int ((kt : Nat) : Int), .int ((kg : Nat) : Int)]) /\ G33 K C Pt H' p pa lo' kt kg z L stk /\ B33 K H' p pa lo' pl as (stk ++ [L]) /\ stk.length <= 320 /\ Bot (stk ++ [L]), ⟨_, lo7, as7, L7, stk7, rfl, rfl, hca7, g7, b7, hs7, bot7⟩, ?_⟩
    rintro m σ' H8 ⟨lo8, as8, L8, stk8, rfl, rfl, hca8, g8, b8, hs8, bot8⟩
    have las : as8.length = stk8.length + 1 := by have := x8 b8.al; rw [List.length_append] at this; simpa using this
    refine ⟨_, rfl, pl, _, rfl, .inl (SqL.of b8.hl), _, _, rfl, rfl, _, rfl, ?_⟩
    rw [List.length_map, las]
    rcases List.eq_nil_or_concat stk8 with e | ⟨stk9, L9, e⟩
    . subst e
      rw [decide_eq_false (show ¬ (1 : Int) < (([] : List E2).length + 1 : Nat) by simp)]
      refine K2 ⟨lo8, L8, rfl, hca8, g8, ?_⟩
      obtain ⟨M0, r, e, e2⟩ := bot8
      simp at e
      rw [e.1]; exact e2
    rw [List.concat_eq_append] at e
    subst e
    rw [decide_eq_true (show (1 : Int) < ((stk9 ++ [L9]).length + 1 : Nat) by simp; omega)]
    refine a0c ?_
    refine ⟨fun σ' H' => ∃ lo' as, σ' = [some (.ref a), some (.ref hd), some (.ref ca), some (.str z), some (.ref p), some (.ref pl), some (.ref pk), o7, o8, none] /\ H' ca = some (.tup [.int ((kt : Nat) : Int), .int ((kg : Nat) : Int)]) /\ G33 K C Pt H' p pa lo' kt kg z L9 stk9 /\ B33 K H' p pa lo' pl as (stk9 ++ [L9]), fun σ' H' ⟨lo', as, h1, h2, h3, h4⟩ => ⟨stk9.length, by simp, lo', as, L9, stk9, rfl, h1, h2, h3, h4, by simp at hs8; omega, bot8.drop⟩, ?_⟩
    -- one that comes and is taken back
    refine ⟨fun σ' H' => ∃ lo', σ' = [some (.ref a), some (.ref hd), some (.ref ca), some (.str z), some (.ref p), some (.ref pl), some (.ref pk), o7, o8, none] /\ H' ca = some (.tup [.int ((kt : Nat) : Int), .int ((kg : Nat) : Int)]) /\ G33 K C Pt H' p pa lo' kt kg z L8 (stk9 ++ [L9]) /\ B33 K H' p pa lo' pl as8 ((stk9 ++ [L9]) ++ [L8]), ?_, ?_⟩
    . refine ⟨_, rfl, pl, _, rfl, .inl (SqL.of b8.hl), _, _, rfl, rfl, (by show (0 : Int) < 40; decide), rfl, _, rfl, ?_⟩
      refine A7 (fun c => ?_) (fun c => ?_)
      rotate_left
      . exact ⟨lo8, rfl, hca8, g8, b8⟩
      have okL := g8.ok L8 (List.mem_append_right _ (.head _))
      refine ⟨fun σ' H' => ∃ lo' L0, σ' = [some (.ref a), some (.ref hd), some (.ref ca), some (.str z), some (.ref p), some (.ref pl), some (.ref pk), o7, o8, none] /\ H' ca = some (.tup [.int ((kt : Nat) : Int), .int ((kg : Nat) : Int)]) /\ LT Pt H' /\ KpAt K C H' p kt kg z L0 ((stk9 ++ [L9]) ++ [L8]) pa lo' /\ B33 K H' p pa lo' pl as8 ((stk9 ++ [L9]) ++ [L8]), ?_, ?_⟩
      . refine ⟨_, rfl, ?_⟩
        refine a0h (a := 2) (b := 3) (kt := kt) (kg := kg) (fun H1 Q1 e1 h1 => h1) (fun H1 Q1 e1 h1 => ⟨_, rfl, ca, _, 0, _, rfl, rfl, SqT.of (e1 _ _ hca8), rfl, h1⟩) (fun H1 Q1 e1 h1 => h1) (fun H1 Q1 e1 h1 => ⟨_, rfl, ca, _, 1, _, rfl, rfl, SqT.of (e1 _ _ hca8), rfl, h1⟩) kt1 (by omega) kg1 (by omega) (fun v H9 e9 hv => ?_)
        obtain ⟨gk, sk⟩ := W5 (a := 2) (b := 3) (kt := kt) (kg := kg) (by omega) (by omega) (by omega) (by omega) kg1 (by omega) (by omega)
        have g9 := g8.same e9
        have b9 := b8.same e9
        refine ⟨p, pa, v, kt, kg, z, L8, stk9 ++ [L9], lo8, rfl, g9.kp, ft, g9.lt, .inr ⟨_, hv, sk, gk, okL.2.2, by omega, okL.1, by omega, fun _ H10 ha wa r qs KP lq f1 f2 lf10 L10 hr => ?_, fun bad => absurd bad (by omega)⟩⟩
        have npl2 : pl ∉ ha :: wa :: lo8 := fun hb => by
          rcases List.mem_cons.mp hb with z0 | hb
          . subst z0; rw [b9.hl] at f1; cases f1
          . rcases List.mem_cons.mp hb with z0 | hb
            . subst z0; rw [b9.hl] at f2; cases f2
            . exact b9.n2 hb
        have b10 := B33.left g9 lf10 b9 npl2
        have hca10 : H10 ca = some (.tup [.int ((kt : Nat) : Int), .int ((kg : Nat) : Int)]) := g9.tup (Left.toL lf10) (e9 _ _ hca8) b9.hl
        refine ⟨(by show 0 <= sizeLine; decide), fun el hel => ?_⟩
        have s11 := Same.new hel (.lst [])
        refine ⟨.list [], .list [], .lst (SqL.of (s11 _ _ hr)) .nil, .lst (SqL.of upd_same) .nil, rfl, rfl, by decide, _, rfl, ?_⟩
        rw [a0Z]
        exact K2 ⟨_, (_, qs), rfl, s11 _ _ hca10, L10.same s11, KP.same s11, b10.same s11⟩
      intro σ9 H9 hM_; refine M4 fun G_ hG_ => ?_; obtain ⟨lo9, L0, rfl, hca9, LT9, KP9, b9⟩ := hM_; subst hG_
      refine ⟨_, rfl, p, pa, .non, kt, kg, z, L0, (stk9 ++ [L9]) ++ [L8], lo9, rfl, KP9, ft, LT9, .inl ⟨rfl, fun La pasta H10 r ea KP10 lf10 L10 hr => ?_, fun bad => by simp at bad⟩⟩
      have ee := List.append_inj' ea rfl
      have e1' : pasta = stk9 ++ [L9] := ee.1.symm
      have e2' : La = L8 := by have := ee.2; simp at this; exact this.symm
      subst e1' e2'
      obtain ⟨dx9, ta9, wa9, pv9, hp9, _, hpa9, _⟩ := KP9.ex
      have hca10 : H10 ca = some (.tup [.int ((kt : Nat) : Int), .int ((kg : Nat) : Int)]) := lf10 ca _ (t7 hca9 hp9 nofun) (LT9.ne hca9 nofun) (t7 hca9 hpa9 nofun) hca9
      have fr10 := lf10.fr hp9 hpa9 LT9
      have b10 : B33 K H10 p pa lo9 pl as8 ((stk9 ++ [L9]) ++ [La]) := by
        refine ⟨lf10.lst hp9 LT9 b9.n1 b9.hl, ?_, b9.n1, b9.n2, b9.n3⟩
        have : ∀ {as : List Addr} {ms : List E2}, (∀ a ∈ as, a ≠ pa) -> PySem.Paired (fun a (M : E2) => ∃ xs, H9 a = some (.lst xs) /\ Bk K H9 xs M.1) as ms -> PySem.Paired (fun a (M : E2) => ∃ xs, H10 a = some (.lst xs) /\ Bk K H10 xs M.1) as ms := by
          intro as ms hn h
          induction h with
          | nil => exact .nil
          | cons r _ ih =>
            obtain ⟨xs, q1, q2⟩ := r
            exact .cons ⟨xs, lf10.lst hp9 LT9 (hn _ (.head _)) q1, q2.fr0 fr10⟩ (ih fun a ha => hn a (.tail _ ha))
        exact this (fun a ha => (b9.n3 a ha).1) b9.al
      refine ⟨(by show 0 <= sizeLine; decide), fun el hel => ?_⟩
      have s11 := Same.new hel (.lst [])
      refine ⟨.list [], .list [], .lst (SqL.of (s11 _ _ hr)) .nil, .lst (SqL.of upd_same) .nil, rfl, rfl, by decide, _, rfl, ?_⟩
      rw [a0Z]
      exact K2 ⟨lo9, rfl, s11 _ _ hca10, ⟨KP10.same s11, L10.same s11, g8.ok⟩, b10.same s11⟩
    intro σ9 H9 hM_; refine M4 fun G_ hG_ => ?_; obtain ⟨lo9, rfl, hca9, g9, b9⟩ := hM_; subst hG_
    -- taken back
    refine ⟨fun σ' H' => σ' = [some (.ref a), some (.ref hd), some (.ref ca), some (.str z), some (.ref p), some (.ref pl), some (.ref pk), o7, o8, none] /\ H' ca = some (.tup [.int ((kt : Nat) : Int), .int ((kg : Nat) : Int)]) /\ G33 K C Pt H' p pa lo9 kt kg z L9 stk9 /\ B33 K H' p pa lo9 pl as8 ((stk9 ++ [L9]) ++ [L8]), ?_, ?_⟩
    . refine ⟨_, rfl, p, pa, .non, kt, kg, z, L8, stk9 ++ [L9], lo9, rfl, g9.kp, ft, g9.lt, .inl ⟨rfl, fun La pasta H10 r ea KP10 lf10 L10 hr => ?_, fun bad => by simp at bad⟩⟩
      have ee := List.append_inj' ea rfl
      have e1' : pasta = stk9 := ee.1.symm
      have e2' : La = L9 := by have := ee.2; simp at this; exact this.symm
      subst e1' e2'
      have b10 := B33.left g9 lf10 b9 b9.n2
      have hca10 : H10 ca = some (.tup [.int ((kt : Nat) : Int), .int ((kg : Nat) : Int)]) := g9.tup (Left.toL lf10) hca9 b9.hl
      refine ⟨(by show 0 <= sizeLine; decide), fun el hel => ?_⟩
      have s11 := Same.new hel (.lst [])
      refine ⟨.list [], .list [], .lst (SqL.of (s11 _ _ hr)) .nil, .lst (SqL.of upd_same) .nil, rfl, rfl, by decide, _, rfl, ?_⟩
      rw [a0Z]
      exact K2 ⟨rfl, s11 _ _ hca10, ⟨KP10.same s11, L10.same s11, fun M0 h0 => g9.ok M0 (List.mem_append_left _ h0)⟩, b10.same s11⟩
    rintro _ H10 ⟨rfl, hca10, g10, b10⟩
    -- past.pop()
    obtain ⟨as9, al9, eas, las9⟩ := B8 (l := as8) (k := (stk9 ++ [L9]).length) (by rw [las])
    subst eas
    obtain ⟨al10, _⟩ := A0 b10.al
    have gl : ((as9 ++ [al9]).map V.ref)[((as9 ++ [al9]).map V.ref).length - 1]? = some (V.ref al9) := by simp
    refine ⟨_, rfl, .inl ⟨rfl, _, SqL.of b10.hl⟩, pl, _, _, rfl, rfl, b10.hl, gl, ?_⟩
    have ed : ((as9 ++ [al9]).map V.ref).dropLast = as9.map V.ref := by simp
    rw [ed]
    have g11 := g10.write (ws := as9.map V.ref) b10.hl b10.n1 b10.n2
    have b11 : B33 K (j9 H10 pl (.lst (as9.map V.ref))) p pa lo9 pl as9 (stk9 ++ [L9]) :=
      ⟨upd_same, a0x b10.hl (fun b hb => (b10.n3 b (List.mem_append_left _ hb)).2) al10, b10.n1, b10.n2, fun b hb => b10.n3 b (List.mem_append_left _ hb)⟩
    have hca11 : (j9 H10 pl (.lst (as9.map V.ref))) ca = some (.tup [.int ((kt : Nat) : Int), .int ((kg : Nat) : Int)]) := by rw [c9 (t7 hca10 b10.hl nofun)]; exact hca10
    generalize j9 H10 pl (.lst (as9.map V.ref)) = H11 at *
    refine ⟨_, rfl, pl, _, rfl, .inl (SqL.of b11.hl), _, _, rfl, rfl, (by show (0 : Int) < 20; decide), rfl, _, rfl, ?_⟩
    refine A7 (fun c => ?_) (fun c => ?_)
    . obtain ⟨as3, al3, eas3, las3⟩ := B8 (l := as9) (k := stk9.length) (by have := x8 b11.al; rw [List.length_append] at this; simpa using this)
      subst eas3
      obtain ⟨_, xs3, hal3, hB3⟩ := A0 b11.al
      have atl : X3 ((as3 ++ [al3]).map V.ref) (-1) = some (V.ref al3) := by rw [List.map_append]; exact V1 _ _
      obtain ⟨dx4, ta4, wa4, pv4', hp4', _⟩ := g11.kp.ex
      refine ⟨_, rfl, p, dx4, _, rfl, hp4', rfl, p, pa, kt, kg, z, L9, stk9, lo9, rfl, g11.kp, fun hl hxs H12 e12 hl0 hl1 hB12 => ?_⟩
      have layb : PyData.canLay0 (.list (L9.1.map w4)) = true := by rw [PyData.canLay0]; exact W9 _
      have depb : (PyData.list (L9.1.map w4)).depth <= 60 := by
        have := M7 L9.1
        rw [PyData.depth]
        lia
      refine ⟨_, rfl, _, rfl, pl, _, _, _, rfl, rfl, SqL.of (e12 _ _ b11.hl), atl, .list (L9.1.map w4), .list (L9.1.map w4), .lst (SqL.of hl1) (Bk.dps hB12), .lst (SqL.of (e12 _ _ hal3)) (Bk.dps (Bk.same e12 hB3)), layb, layb, Nat.le_trans (Nat.min_le_left _ _) depb, _, rfl, ?_⟩
      rw [R1 _ layb]
      exact K2 ⟨lo9, _, rfl, e12 _ _ hca11, g11.same e12, b11.same e12⟩
    . exact K2 ⟨lo9, as9, rfl, hca11, g11, b11⟩
  intro σ8 H8 hM_; refine M4 fun G_ hG_ => ?_; obtain ⟨lo8, L8, rfl, hca8, g8, hL8⟩ := hM_; subst hG_
  -- nothing is left
  refine ⟨fun σ' H' => σ' = [some (.ref a), some (.ref hd), some (.ref ca), some (.str z), some (.ref p), some (.ref pl), some (.ref pk), o7, o8, none] /\ Same H8 H', ?_, ?_⟩
  . refine ⟨_, rfl, p, pa, .non, kt, kg, z, L8, [], lo8, rfl, g8.kp, ft, g8.lt, .inl ⟨rfl, fun La pasta H9 r ea => by simp at ea, fun _ H9 r e9 hr => ?_⟩⟩
    refine ⟨"NothingLeft", rfl, fun r2 H10 e10 hr2 => ?_⟩
    rw [a9p] at hr2
    refine ⟨_, _, a0f (e10 _ _ hr), a0f hr2, S2, S2, by decide, _, rfl, ?_⟩
    rw [R1 _ S2]
    refine K2 ?_
    have g10 := (g8.same e9).same e10
    obtain ⟨dx4, ta4, wa4, pv4', hp4', _⟩ := g10.kp.ex
    refine ⟨_, rfl, p, dx4, _, rfl, hp4', rfl, p, pa, kt, kg, z, L8, [], lo8, rfl, g10.kp, fun hl hxs H12 e12 hl0 hl1 hB12 => ?_⟩
    rw [hL8] at hB12
    have exs : hxs = [] := List.eq_nil_of_length_eq_zero (Paired.length hB12)
    subst exs
    refine ⟨(by show 0 <= sizeLine; decide), fun el hel => ?_⟩
    have s13 := Same.new hel (.lst [])
    refine ⟨.list [], .list [], .lst (SqL.of (s13 _ _ hl1)) .nil, .lst (SqL.of upd_same) .nil, rfl, rfl, by decide, _, rfl, ?_⟩
    rw [a0Z]
    exact K2 ⟨rfl, e9.trans (e10.trans (e12.trans s13))⟩
  rintro _ H9 ⟨rfl, e9⟩
  have g9 := g8.same e9
  have hca9 := e9 _ _ hca8
  have okL8 := g8.ok L8 (List.mem_append_right _ (.head _))
  -- sixteen houses
  refine ⟨fun σ' H' => ∃ o9 lo' L stk, σ' = [some (.ref a), some (.ref hd), some (.ref ca), some (.str z), some (.ref p), some (.ref pl), some (.ref pk), o7, o8, o9] /\ H' ca = some (.tup [.int ((kt : Nat) : Int), .int ((kg : Nat) : Int)]) /\ LT Pt H' /\ KpAt K C H' p kt kg z L stk pa lo' /\ L.2.length = L.1.length /\ L.1.length = 16 /\ (∀ g ∈ L.1, HG (10 ^ 9) kt kg g) /\ stk.length <= 16, ?_, ?_⟩
  . refine ⟨16, rfl, by omega, by omega, ?_⟩
    refine Y8 (n := 16) (fun i σ H' => ∃ o9 lo' L stk, σ = [some (.ref a), some (.ref hd), some (.ref ca), some (.str z), some (.ref p), some (.ref pl), some (.ref pk), o7, o8, o9] /\ H' ca = some (.tup [.int ((kt : Nat) : Int), .int ((kg : Nat) : Int)]) /\ LT Pt H' /\ KpAt K C H' p kt kg z L stk pa lo' /\ L.2.length = L.1.length /\ L.1.length = i /\ (∀ g ∈ L.1, HG (10 ^ 9) kt kg g) /\ stk.length = i)
      ⟨_, lo8, L8, [], rfl, hca9, g9.lt, g9.kp, okL8.1, by rw [hL8]; rfl, okL8.2.2, rfl⟩ ?_ ?_
    rotate_left
    . rintro σ H10 ⟨o9, lo', L, stk, rfl, h1, h2, h3, h4, h5, h6, h7⟩
      exact ⟨o9, lo', L, stk, rfl, h1, h2, h3, h4, h5, h6, by omega⟩
    rintro i σ H10 hi ⟨o9, lo', L, stk, rfl, h1, h2, h3, h4, h5, h6, h7⟩
    rw [Int.zero_add]
    refine ⟨_, rfl, ?_⟩
    refine a0h (a := 1 + (i : Int)) (b := 2 + (i : Int)) (kt := kt) (kg := kg) (fun H1 Q1 e1 hq => ⟨_, rfl, _, _, rfl, rfl, hq⟩) (fun H1 Q1 e1 hq => ⟨_, rfl, ca, _, 0, _, rfl, rfl, SqT.of (e1 _ _ h1), rfl, hq⟩) (fun H1 Q1 e1 hq => ⟨_, rfl, _, _, rfl, rfl, hq⟩) (fun H1 Q1 e1 hq => ⟨_, rfl, ca, _, 1, _, rfl, rfl, SqT.of (e1 _ _ h1), rfl, hq⟩) kt1 (by omega) kg1 (by omega) (fun v H11 e11 hv => ?_)
    obtain ⟨gk, sk⟩ := W5 (a := 1 + (i : Int)) (b := 2 + (i : Int)) (kt := kt) (kg := kg) (by omega) (by omega) (by omega) (by omega) kg1 (by omega) (by omega)
    refine ⟨p, pa, v, kt, kg, z, L, stk, lo', rfl, h3.same e11, ft, h2.same e11, .inr ⟨_, hv, sk, gk, h6, by omega, h4, by omega, fun _ H12 ha wa r qs KP lq f1 f2 lf12 L12 hr => ?_, fun bad => absurd bad (by omega)⟩⟩
    obtain ⟨dx9, ta9, wa9, pv9, hp9, _, hpa9, _⟩ := (h3.same e11).ex
    have hca12 : H12 ca = some (.tup [.int ((kt : Nat) : Int), .int ((kg : Nat) : Int)]) := lf12 ca _ (t7 (e11 _ _ h1) hp9 nofun) ((h2.same e11).ne (e11 _ _ h1) nofun) (t7 (e11 _ _ h1) hpa9 nofun) (e11 _ _ h1)
    refine ⟨(by show 0 <= sizeLine; decide), fun el hel => ?_⟩
    have s13 := Same.new hel (.lst [])
    refine ⟨.list [], .list [], .lst (SqL.of (s13 _ _ hr)) .nil, .lst (SqL.of upd_same) .nil, rfl, rfl, by decide, _, rfl, ?_⟩
    rw [a0Z]
    refine K2 ⟨_, _, _, _, rfl, s13 _ _ hca12, L12.same s13, KP.same s13, ?_, ?_, fun g hg => ?_, by rw [List.length_append, h7]; rfl⟩
    . rw [lq, List.length_append]; rfl
    . rw [List.length_append, h5]; rfl
    . rcases List.mem_append.mp hg with hg | hg
      . exact h6 g hg
      . rw [List.mem_singleton.mp hg]; exact gk.hg
  intro σ10 H10 hM_; refine M4 fun G_ hG_ => ?_; obtain ⟨o9, lo', L, stk, rfl, h1, h2, h3, h4, h5, h6, h7⟩ := hM_; subst hG_
  -- a seventeenth
  refine ⟨fun σ' H' => σ' = [some (.ref a), some (.ref hd), some (.ref ca), some (.str z), some (.ref p), some (.ref pl), some (.ref pk), o7, o8, o9] /\ Same H10 H', ?_, ?_⟩
  . refine ⟨_, rfl, ?_⟩
    refine a0h (a := 1) (b := 1) (kt := kt) (kg := kg) (fun H1 Q1 e1 hq => hq) (fun H1 Q1 e1 hq => ⟨_, rfl, ca, _, 0, _, rfl, rfl, SqT.of (e1 _ _ h1), rfl, hq⟩) (fun H1 Q1 e1 hq => hq) (fun H1 Q1 e1 hq => ⟨_, rfl, ca, _, 1, _, rfl, rfl, SqT.of (e1 _ _ h1), rfl, hq⟩) kt1 (by omega) kg1 (by omega) (fun v H11 e11 hv => ?_)
    obtain ⟨gk, sk⟩ := W5 (a := 1) (b := 1) (kt := kt) (kg := kg) (by omega) (by omega) (by omega) (by omega) kg1 (by omega) (by omega)
    refine ⟨p, pa, v, kt, kg, z, L, stk, lo', rfl, h3.same e11, ft, h2.same e11, .inr ⟨_, hv, sk, gk, h6, by omega, h4, by omega, fun bad => absurd bad (by omega), fun _ H12 r e12 hr => ?_⟩⟩
    refine ⟨"TooMany", rfl, fun r2 H13 e13 hr2 => ?_⟩
    rw [b0a] at hr2
    refine ⟨_, _, a0f (e13 _ _ hr), a0f hr2, S2, S2, by decide, _, rfl, ?_⟩
    rw [R1 _ S2]
    exact K2 ⟨rfl, e11.trans (e12.trans e13)⟩
  rintro _ H11 ⟨rfl, e11⟩
  have h3' := h3.same e11
  obtain ⟨dx4, ta4, wa4, pv4', hp4', _⟩ := h3'.ex
  refine ⟨_, rfl, p, dx4, _, rfl, hp4', rfl, p, pa, kt, kg, z, L, stk, lo', rfl, h3', fun hl hxs H12 e12 hl0 hl1 hB12 => ?_⟩
  have lx : hxs.length = 16 := by rw [Paired.length hB12, h5]
  refine ⟨hl, hxs, rfl, .inl (SqL.of hl1), rfl, ?_⟩
  rw [lx]
  exact q _
end
end Rim
namespace Rim
open PySem L2 Fr
set_option maxHeartbeats 16000000 in
theorem all_mk {l : W.OpenLaw} {w : World} {K : W.Frag} {h : Heap} {mg : Str -> Option Value} {fa : Addr} {Ct Pt : Addr} (X : K.In h) (G : h.Ns mainGlobals mg) (hfa : mg "law" = some (.ref fa))
    {f1 f2 f3 f4 f5 f6 f7 f8 f9 f10 f11 f12 f13 f14 f15 f16 f17 f18 f19 f20 f21 f22 f23 f24 f25 f26 f27 f28 f29 f30 f31 f32 f33 f34 f35 f36 f37 f38 CB CK dS tS0 tS1 tS2 tS3 cE_NoHouse cE_NoBook cE_RimError cE_NoRow cE_NoText cE_TooMany cE_NothingLeft : Addr} {cd1 cd2 cd3 cd4 cd5 cd6 cd8 cd9 cd10 cd11 cd12 cd13 cd14 cd15 cd16 cd17 cd18 cd19 cd20 cd21 cd22 cd23 cd24 cd25 cd26 cd27 cd28 cd29 cd30 cd31 cd32 cd33 cd34 cd35 cd36 cd37 ocL kVL dcL pmL cdL ctL : Value} {odL anL : Option Addr} {slL : Array (Option Value)} {odS0 odS1 odS2 odS3 : Option Addr} {slS0 slS1 slS2 slS3 : Array (Option Value)} {eS : Array DictEntry} {nS nS0 nS1 nS2 nS3 : Nat} {tkA tkB tkC tkD : Tok} {tkC_MOST_AMOUNT : Tok} {tkC_MOST_HOUSES : Tok}
    (aK : W.nsIn K mainGlobals "Kept" = some (some (.ref CK)))
    (aB : W.nsIn K mainGlobals "Board" = some (some (.ref CB)))
    (a1 : W.findIn K (.ref CK) "__init__" = some (some (.ref f1)))
    (l1 : FunI K "__init__" "Kept.__init__" E6 f1 cd1)
    (n1 : W.isFn K (.ref f1) = true)
    (a2 : W.nsIn K mainGlobals "_law_cell_at" = some (some (.ref f2)))
    (l2 : FunI K "_law_cell_at" "_law_cell_at" a7n f2 cd2)
    (a3 : W.nsIn K mainGlobals "_law_draws" = some (some (.ref f3)))
    (l3 : FunI K "_law_draws" "_law_draws" a3i f3 cd3)
    (a4 : W.findIn K (.ref CK) "houses" = some (some (.ref f4)))
    (l4 : FunI K "houses" "Kept.houses" K9 f4 cd4)
    (n4 : W.isFn K (.ref f4) = true)
    (a5 : W.nsIn K mainGlobals "house_of" = some (some (.ref f5)))
    (l5 : FunI K "house_of" "house_of" a9r f5 cd5)
    (a6 : W.findIn K (.ref CB) "__init__" = some (some (.ref f6)))
    (l6 : FunI K "__init__" "Board.__init__" a2H f6 cd6)
    (n6 : W.isFn K (.ref f6) = true)
    (a7 : W.findIn K (.ref CB) "coming" = some (some (.ref f7)))
    (l7 : FunI K "coming" "Board.coming" a1T f7 (.ref Ct))
    (n7 : W.isFn K (.ref f7) = true)
    (a8 : W.findIn K (.ref CB) "is_ahead" = some (some (.ref f8)))
    (l8 : FunI K "is_ahead" "Board.is_ahead" a3K f8 cd8)
    (n8 : W.isFn K (.ref f8) = true)
    (a9 : W.findIn K (.ref CB) "going" = some (some (.ref f9)))
    (l9 : FunI K "going" "Board.going" a3q f9 cd9)
    (n9 : W.isFn K (.ref f9) = true)
    (a10 : W.nsIn K mainGlobals "swept" = some (some (.ref f10)))
    (l10 : FunI K "swept" "swept" a3r f10 cd10)
    (a11 : W.findIn K (.ref CB) "exchange" = some (some (.ref f11)))
    (l11 : FunI K "exchange" "Board.exchange" G5 f11 cd11)
    (n11 : W.isFn K (.ref f11) = true)
    (a12 : W.findIn K (.ref CB) "amounts" = some (some (.ref f12)))
    (l12 : FunI K "amounts" "Board.amounts" a7i f12 cd12)
    (n12 : W.isFn K (.ref f12) = true)
    (a13 : W.findIn K (.ref CB) "weights" = some (some (.ref f13)))
    (l13 : FunI K "weights" "Board.weights" a9X f13 cd13)
    (n13 : W.isFn K (.ref f13) = true)
    (a14 : W.nsIn K mainGlobals "greatest" = some (some (.ref f14)))
    (l14 : FunI K "greatest" "greatest" D7 f14 cd14)
    (a15 : W.nsIn K mainGlobals "house_rows" = some (some (.ref f15)))
    (l15 : FunI K "house_rows" "house_rows" G8 f15 cd15)
    (a16 : W.nsIn K mainGlobals "greatest_earned" = some (some (.ref f16)))
    (l16 : FunI K "greatest_earned" "greatest_earned" S7 f16 cd16)
    (a17 : W.nsIn K mainGlobals "common_divisor" = some (some (.ref f17)))
    (l17 : FunI K "common_divisor" "common_divisor" a9j f17 cd17)
    (a18 : W.nsIn K mainGlobals "lowest" = some (some (.ref f18)))
    (l18 : FunI K "lowest" "lowest" a9H f18 cd18)
    (a19 : W.nsIn K mainGlobals "held_against" = some (some (.ref f19)))
    (l19 : FunI K "held_against" "held_against" a6j f19 cd19)
    (a20 : W.nsIn K mainGlobals "share" = some (some (.ref f20)))
    (l20 : FunI K "share" "share" a3d f20 cd20)
    (a21 : W.findIn K (.ref CK) "turn_to" = some (some (.ref f21)))
    (l21 : FunI K "turn_to" "Kept.turn_to" x0 f21 cd21)
    (n21 : W.isFn K (.ref f21) = true)
    (a22 : W.nsIn K mainGlobals "without" = some (some (.ref f22)))
    (l22 : FunI K "without" "without" a0R f22 cd22)
    (a23 : W.nsIn K mainGlobals "changes" = some (some (.ref f23)))
    (l23 : FunI K "changes" "changes" Y1 f23 cd23)
    (a24 : W.findIn K (.ref CK) "go" = some (some (.ref f24)))
    (l24 : FunI K "go" "Kept.go" Y4 f24 cd24)
    (n24 : W.isFn K (.ref f24) = true)
    (a25 : W.nsIn K mainGlobals "is_whole" = some (some (.ref f25)))
    (l25 : FunI K "is_whole" "is_whole" U7 f25 cd25)
    (a26 : W.nsIn K mainGlobals "are_amounts" = some (some (.ref f26)))
    (l26 : FunI K "are_amounts" "are_amounts" L6 f26 cd26)
    (a27 : W.nsIn K mainGlobals "is_house" = some (some (.ref f27)))
    (l27 : FunI K "is_house" "is_house" U1 f27 cd27)
    (a28 : W.nsIn K mainGlobals "refuse_unfit" = some (some (.ref f28)))
    (l28 : FunI K "refuse_unfit" "refuse_unfit" G7 f28 cd28)
    (a29 : W.nsIn K mainGlobals "with_another" = some (some (.ref f29)))
    (l29 : FunI K "with_another" "with_another" J4 f29 cd29)
    (a30 : W.findIn K (.ref CK) "alter" = some (some (.ref f30)))
    (l30 : FunI K "alter" "Kept.alter" N7 f30 cd30)
    (n30 : W.isFn K (.ref f30) = true)
    (a31 : W.nsIn K mainGlobals "with_one_more" = some (some (.ref f31)))
    (l31 : FunI K "with_one_more" "with_one_more" E5 f31 cd31)
    (a32 : W.findIn K (.ref CK) "come" = some (some (.ref f32)))
    (l32 : FunI K "come" "Kept.come" P3 f32 cd32)
    (n32 : W.isFn K (.ref f32) = true)
    (a33 : W.nsIn K mainGlobals "_law_next" = some (some (.ref f33)))
    (l33 : FunI K "_law_next" "_law_next" C4 f33 cd33)
    (a34 : W.findIn K (.ref CK) "back" = some (some (.ref f34)))
    (l34 : FunI K "back" "Kept.back" P2 f34 cd34)
    (n34 : W.isFn K (.ref f34) = true)
    (a35 : W.nsIn K mainGlobals "_law_a_kin" = some (some (.ref f35)))
    (l35 : FunI K "_law_a_kin" "_law_a_kin" N8 f35 cd35)
    (a36 : W.nsIn K mainGlobals "_law_tried" = some (some (.ref f36)))
    (l36 : FunI K "_law_tried" "_law_tried" O5 f36 cd36)
    (a37 : W.nsIn K mainGlobals "_law_due_kin" = some (some (.ref f37)))
    (l37 : FunI K "_law_due_kin" "_law_due_kin" J5 f37 cd37)
    (a38 : W.nsIn K mainGlobals "law" = some (some (.ref f38)))
    (l38 : K.lookup f38 = some ⟨ocL, odL, .func (W.fnOf "law" "law" (A3 U9) (p7 U9) (d9 U9) .none kVL dcL pmL anL cdL ctL), slL⟩)
    (c38 : W.codeIn K cdL "law" = true)
    (k38 : W.keepIn K (.ref f38) = true)
    (z1 : W.nsIn K mainGlobals "len" = some none)
    (z2 : W.nsIn K mainGlobals "all" = some none)
    (z3 : W.nsIn K mainGlobals "any" = some none)
    (z4 : W.nsIn K mainGlobals "max" = some none)
    (z5 : W.nsIn K mainGlobals "min" = some none)
    (z6 : W.nsIn K mainGlobals "sum" = some none)
    (z7 : W.nsIn K mainGlobals "tuple" = some none)
    (z8 : W.nsIn K mainGlobals "list" = some none)
    (z9 : W.nsIn K mainGlobals "int" = some none)
    (z10 : W.nsIn K mainGlobals "bool" = some none)
    (z11 : W.nsIn K mainGlobals "range" = some none)
    (z12 : W.nsIn K mainGlobals "isinstance" = some none)
    (z13 : W.nsIn K mainGlobals "abs" = some none)
    (z14 : W.nsIn K mainGlobals "zip" = some none)
    (z15 : W.nsIn K mainGlobals "enumerate" = some none)
    (z16 : W.nsIn K mainGlobals "ValueError" = some none)
    (z17 : W.nsIn K mainGlobals "sorted" = some none)
    (bp : W.plainGet K CB Str.empty = true)
    (bh : W.hasDictIn K CB = true)
    (bo : W.plainOver K CB = true)
    (bs : W.findIn K (.ref CB) "__setattr__" = some (some (.builtin "object.__setattr__")))
    (b_many : W.findIn K (.ref CB) "many" = some none)
    (b_scale : W.findIn K (.ref CB) "scale" = some none)
    (b_cells : W.findIn K (.ref CB) "cells" = some none)
    (b_outs : W.findIn K (.ref CB) "outs" = some none)
    (b_ins : W.findIn K (.ref CB) "ins" = some none)
    (bm : W.makesIn K CB = true)
    (bk : W.keepIn K (.ref CB) = true)
    (kp : W.plainGet K CK Str.empty = true)
    (kh : W.hasDictIn K CK = true)
    (ko : W.plainOver K CK = true)
    (ks : W.findIn K (.ref CK) "__setattr__" = some (some (.builtin "object.__setattr__")))
    (k_many_takes : W.findIn K (.ref CK) "many_takes" = some none)
    (k_many_gives : W.findIn K (.ref CK) "many_gives" = some none)
    (k_sizes : W.findIn K (.ref CK) "sizes" = some none)
    (k_there : W.findIn K (.ref CK) "there" = some none)
    (k_worth : W.findIn K (.ref CK) "worth" = some none)
    (k_past : W.findIn K (.ref CK) "past" = some none)
    (km : W.makesIn K CK = true)
    (kk : W.keepIn K (.ref CK) = true)
    (s1 : W.nsIn K mainGlobals "SIZE_SIGNS" = some (some (.ref dS)))
    (s3 : K.lookup dS = some ⟨.type "dict", none, .dict eS nS, #[]⟩)
    (s4 : W.KeysLit w.params eS.toList)
    (sa0 : W.nsIn K dS "any" = some (some (.ref tS0)))
    (sb0 : K.lookup tS0 = some ⟨.type "tuple", odS0, .seq #[] nS0, slS0⟩)
    (sa1 : W.nsIn K dS "one" = some (some (.ref tS1)))
    (sb1 : K.lookup tS1 = some ⟨.type "tuple", odS1, .seq #[.int 1 tkA, .int (-1) tkB] nS1, slS1⟩)
    (sa2 : W.nsIn K dS "less" = some (some (.ref tS2)))
    (sb2 : K.lookup tS2 = some ⟨.type "tuple", odS2, .seq #[.int (-1) tkC] nS2, slS2⟩)
    (sa3 : W.nsIn K dS "more" = some (some (.ref tS3)))
    (sb3 : K.lookup tS3 = some ⟨.type "tuple", odS3, .seq #[.int 1 tkD] nS3, slS3⟩)
    (xmNoHouse : W.nsIn K mainGlobals "NoHouse" = some (some (.ref cE_NoHouse)))
    (xoNoHouse : W.excIn K cE_NoHouse [.type "ValueError", .type "Exception", .type "BaseException", .type "object"] "ValueError.__new__" = true)
    (xgaNoHouse : W.findIn K (.ref cE_NoHouse) "__getattribute__" = some (some (.builtin "BaseException.__getattribute__")))
    (xgnNoHouse : W.findIn K (.ref cE_NoHouse) "__getattr__" = some none)
    (xcaNoHouse : W.findIn K (.ref cE_NoHouse) "__class__" = some (some (.builtin "object.__class__")))
    (xmoNoHouse : W.mroIn K cE_NoHouse (.type "object") = some true)
    (xmbNoHouse : W.mroIn K cE_NoHouse (.type "BaseException") = some true)
    (xmNoBook : W.nsIn K mainGlobals "NoBook" = some (some (.ref cE_NoBook)))
    (xoNoBook : W.excIn K cE_NoBook [.type "ValueError", .type "Exception", .type "BaseException", .type "object"] "ValueError.__new__" = true)
    (xgaNoBook : W.findIn K (.ref cE_NoBook) "__getattribute__" = some (some (.builtin "BaseException.__getattribute__")))
    (xgnNoBook : W.findIn K (.ref cE_NoBook) "__getattr__" = some none)
    (xcaNoBook : W.findIn K (.ref cE_NoBook) "__class__" = some (some (.builtin "object.__class__")))
    (xmoNoBook : W.mroIn K cE_NoBook (.type "object") = some true)
    (xmbNoBook : W.mroIn K cE_NoBook (.type "BaseException") = some true)
    (xmRimError : W.nsIn K mainGlobals "RimError" = some (some (.ref cE_RimError)))
    (xoRimError : W.excIn K cE_RimError [.type "ValueError", .type "Exception", .type "BaseException", .type "object"] "ValueError.__new__" = true)
    (xgaRimError : W.findIn K (.ref cE_RimError) "__getattribute__" = some (some (.builtin "BaseException.__getattribute__")))
    (xgnRimError : W.findIn K (.ref cE_RimError) "__getattr__" = some none)
    (xcaRimError : W.findIn K (.ref cE_RimError) "__class__" = some (some (.builtin "object.__class__")))
    (xmoRimError : W.mroIn K cE_RimError (.type "object") = some true)
    (xmbRimError : W.mroIn K cE_RimError (.type "BaseException") = some true)
    (xmNoRow : W.nsIn K mainGlobals "NoRow" = some (some (.ref cE_NoRow)))
    (xoNoRow : W.excIn K cE_NoRow [.type "ValueError", .type "Exception", .type "BaseException", .type "object"] "ValueError.__new__" = true)
    (xgaNoRow : W.findIn K (.ref cE_NoRow) "__getattribute__" = some (some (.builtin "BaseException.__getattribute__")))
    (xgnNoRow : W.findIn K (.ref cE_NoRow) "__getattr__" = some none)
    (xcaNoRow : W.findIn K (.ref cE_NoRow) "__class__" = some (some (.builtin "object.__class__")))
    (xmoNoRow : W.mroIn K cE_NoRow (.type "object") = some true)
    (xmbNoRow : W.mroIn K cE_NoRow (.type "BaseException") = some true)
    (xmNoText : W.nsIn K mainGlobals "NoText" = some (some (.ref cE_NoText)))
    (xoNoText : W.excIn K cE_NoText [.type "ValueError", .type "Exception", .type "BaseException", .type "object"] "ValueError.__new__" = true)
    (xgaNoText : W.findIn K (.ref cE_NoText) "__getattribute__" = some (some (.builtin "BaseException.__getattribute__")))
    (xgnNoText : W.findIn K (.ref cE_NoText) "__getattr__" = some none)
    (xcaNoText : W.findIn K (.ref cE_NoText) "__class__" = some (some (.builtin "object.__class__")))
    (xmoNoText : W.mroIn K cE_NoText (.type "object") = some true)
    (xmbNoText : W.mroIn K cE_NoText (.type "BaseException") = some true)
    (xmTooMany : W.nsIn K mainGlobals "TooMany" = some (some (.ref cE_TooMany)))
    (xoTooMany : W.excIn K cE_TooMany [.type "ValueError", .type "Exception", .type "BaseException", .type "object"] "ValueError.__new__" = true)
    (xgaTooMany : W.findIn K (.ref cE_TooMany) "__getattribute__" = some (some (.builtin "BaseException.__getattribute__")))
    (xgnTooMany : W.findIn K (.ref cE_TooMany) "__getattr__" = some none)
    (xcaTooMany : W.findIn K (.ref cE_TooMany) "__class__" = some (some (.builtin "object.__class__")))
    (xmoTooMany : W.mroIn K cE_TooMany (.type "object") = some true)
    (xmbTooMany : W.mroIn K cE_TooMany (.type "BaseException") = some true)
    (xmNothingLeft : W.nsIn K mainGlobals "NothingLeft" = some (some (.ref cE_NothingLeft)))
    (xoNothingLeft : W.excIn K cE_NothingLeft [.type "ValueError", .type "Exception", .type "BaseException", .type "object"] "ValueError.__new__" = true)
    (xgaNothingLeft : W.findIn K (.ref cE_NothingLeft) "__getattribute__" = some (some (.builtin "BaseException.__getattribute__")))
    (xgnNothingLeft : W.findIn K (.ref cE_NothingLeft) "__getattr__" = some none)
    (xcaNothingLeft : W.findIn K (.ref cE_NothingLeft) "__class__" = some (some (.builtin "object.__class__")))
    (xmoNothingLeft : W.mroIn K cE_NothingLeft (.type "object") = some true)
    (xmbNothingLeft : W.mroIn K cE_NothingLeft (.type "BaseException") = some true)
    (cmMOST_AMOUNT : W.nsIn K mainGlobals "MOST_AMOUNT" = some (some (.int 1000000000 tkC_MOST_AMOUNT)))
    (cmMOST_HOUSES : W.nsIn K mainGlobals "MOST_HOUSES" = some (some (.int 16 tkC_MOST_HOUSES)))
    (eSub_TooMany : W.mroIn K cE_TooMany (.ref cE_RimError) = some true)
    (eI_TooMany_NoBook : W.kitOne K (.ref cE_TooMany) (.ref cE_NoBook) = some false)
    (eI_TooMany_NoHouse : W.kitOne K (.ref cE_TooMany) (.ref cE_NoHouse) = some false)
    (eI_TooMany_NoRow : W.kitOne K (.ref cE_TooMany) (.ref cE_NoRow) = some false)
    (eI_TooMany_NoText : W.kitOne K (.ref cE_TooMany) (.ref cE_NoText) = some false)
    (eI_TooMany_NothingLeft : W.kitOne K (.ref cE_TooMany) (.ref cE_NothingLeft) = some false)
    (eIV_TooMany : W.kitOne K (.ref cE_TooMany) (.type "ValueError") = some true)
    (eSub_NothingLeft : W.mroIn K cE_NothingLeft (.ref cE_RimError) = some true)
    (eI_NothingLeft_NoBook : W.kitOne K (.ref cE_NothingLeft) (.ref cE_NoBook) = some false)
    (eI_NothingLeft_NoHouse : W.kitOne K (.ref cE_NothingLeft) (.ref cE_NoHouse) = some false)
    (eI_NothingLeft_NoRow : W.kitOne K (.ref cE_NothingLeft) (.ref cE_NoRow) = some false)
    (eI_NothingLeft_NoText : W.kitOne K (.ref cE_NothingLeft) (.ref cE_NoText) = some false)
    (eI_NothingLeft_TooMany : W.kitOne K (.ref cE_NothingLeft) (.ref cE_TooMany) = some false)
    (eIV_NothingLeft : W.kitOne K (.ref cE_NothingLeft) (.type "ValueError") = some true)
    : ∃ fd : FuncData, (∀ (s : Shared) (v : Value), BindsTo s fd ⟨[v], []⟩ [("script", v)]) /\ ∀ base : Heap, K.In base -> base.Ns mainGlobals mg -> O6 mg base -> (∀ t ∈ [(Ct, Pt)], W.CodeHd base t.1 t.2) -> FnOk l.prog w K mg base D4 12 fa fd ["script"] (a3W K Pt) := by
  have e := hfa.symm.trans (W.mg_of X G a38)
  cases e
  obtain ⟨_, F1, hc1, k1⟩ := l1.fn
  obtain ⟨_, F2, hc2, k2⟩ := l2.fn
  obtain ⟨_, F3, hc3, k3⟩ := l3.fn
  obtain ⟨_, F4, hc4, k4⟩ := l4.fn
  obtain ⟨_, F5, hc5, k5⟩ := l5.fn
  obtain ⟨_, F6, hc6, k6⟩ := l6.fn
  obtain ⟨_, F7, hc7, k7⟩ := l7.fn
  obtain ⟨_, F8, hc8, k8⟩ := l8.fn
  obtain ⟨_, F9, hc9, k9⟩ := l9.fn
  obtain ⟨_, F10, hc10, k10⟩ := l10.fn
  obtain ⟨_, F11, hc11, k11⟩ := l11.fn
  obtain ⟨_, F12, hc12, k12⟩ := l12.fn
  obtain ⟨_, F13, hc13, k13⟩ := l13.fn
  obtain ⟨_, F14, hc14, k14⟩ := l14.fn
  obtain ⟨_, F15, hc15, k15⟩ := l15.fn
  obtain ⟨_, F16, hc16, k16⟩ := l16.fn
  obtain ⟨_, F17, hc17, k17⟩ := l17.fn
  obtain ⟨_, F18, hc18, k18⟩ := l18.fn
  obtain ⟨_, F19, hc19, k19⟩ := l19.fn
  obtain ⟨_, F20, hc20, k20⟩ := l20.fn
  obtain ⟨_, F21, hc21, k21⟩ := l21.fn
  obtain ⟨_, F22, hc22, k22⟩ := l22.fn
  obtain ⟨_, F23, hc23, k23⟩ := l23.fn
  obtain ⟨_, F24, hc24, k24⟩ := l24.fn
  obtain ⟨_, F25, hc25, k25⟩ := l25.fn
  obtain ⟨_, F26, hc26, k26⟩ := l26.fn
  obtain ⟨_, F27, hc27, k27⟩ := l27.fn
  obtain ⟨_, F28, hc28, k28⟩ := l28.fn
  obtain ⟨_, F29, hc29, k29⟩ := l29.fn
  obtain ⟨_, F30, hc30, k30⟩ := l30.fn
  obtain ⟨_, F31, hc31, k31⟩ := l31.fn
  obtain ⟨_, F32, hc32, k32⟩ := l32.fn
  obtain ⟨_, F33, hc33, k33⟩ := l33.fn
  obtain ⟨_, F34, hc34, k34⟩ := l34.fn
  obtain ⟨_, F35, hc35, k35⟩ := l35.fn
  obtain ⟨_, F36, hc36, k36⟩ := l36.fn
  obtain ⟨_, F37, hc37, k37⟩ := l37.fn
  have F38 := a6D (st := U9) l38 c38 k38
  have b1 : Binds K _ ["self", "takes", "gives", "sizes"] [] := F1.b4 fun _ _ _ _ _ _ _ _ _ _ => rfl
  have b2 : Binds K _ ["script", "k"] [] := F2.b2 fun _ _ _ _ _ _ _ _ => rfl
  have b3 : Binds K _ ["cell", "many", "base"] [] := F3.b3 fun _ _ _ _ _ _ _ _ _ => rfl
  have b4 : Binds K _ ["self"] [] := F4.b1 fun _ _ _ _ _ _ _ => rfl
  have b5 : Binds K _ ["book", "number"] [] := F5.b2 fun _ _ _ _ _ _ _ _ => rfl
  have b6 : Binds K _ ["self", "goal", "rows", "bounds"] [] := F6.b4 fun _ _ _ _ _ _ _ _ _ _ => rfl
  have b7 : Binds K _ ["self"] [] := F7.b1 fun _ _ _ _ _ _ _ => rfl
  have b8 : Binds K _ ["self", "row", "other", "column"] [] := F8.b4 fun _ _ _ _ _ _ _ _ _ _ => rfl
  have b9 : Binds K _ ["self", "column"] [] := F9.b2 fun _ _ _ _ _ _ _ _ => rfl
  have b10 : Binds K _ ["cells", "lead", "column", "scale"] [] := F10.b4 fun _ _ _ _ _ _ _ _ _ _ => rfl
  have b11 : Binds K _ ["self", "row", "column"] [] := F11.b3 fun _ _ _ _ _ _ _ _ _ => rfl
  have b12 : Binds K _ ["self"] [] := F12.b1 fun _ _ _ _ _ _ _ => rfl
  have b13 : Binds K _ ["self"] [] := F13.b1 fun _ _ _ _ _ _ _ => rfl
  have b14 : Binds K _ ["goal", "rows", "bounds"] [] := F14.b3 fun _ _ _ _ _ _ _ _ _ => rfl
  have b15 : Binds K _ ["houses", "sizes"] [] := F15.b2 fun _ _ _ _ _ _ _ _ => rfl
  have b16 : Binds K _ ["houses", "house", "sizes"] [] := F16.b3 fun _ _ _ _ _ _ _ _ _ => rfl
  have b17 : Binds K _ ["one", "other"] [] := F17.b2 fun _ _ _ _ _ _ _ _ => rfl
  have b18 : Binds K _ ["top", "bottom"] [] := F18.b2 fun _ _ _ _ _ _ _ _ => rfl
  have b19 : Binds K _ ["houses", "house", "sizes"] [] := F19.b3 fun _ _ _ _ _ _ _ _ _ => rfl
  have b20 : Binds K _ ["book", "number", "sizes"] [] := F20.b3 fun _ _ _ _ _ _ _ _ _ => rfl
  have b21 : Binds K _ ["self", "houses"] [] := F21.b2 fun _ _ _ _ _ _ _ _ => rfl
  have b22 : Binds K _ ["houses", "number"] [] := F22.b2 fun _ _ _ _ _ _ _ _ => rfl
  have b23 : Binds K _ ["ahead", "behind"] [] := F23.b2 fun _ _ _ _ _ _ _ _ => rfl
  have b24 : Binds K _ ["self", "number"] [] := F24.b2 fun _ _ _ _ _ _ _ _ => rfl
  have b25 : Binds K _ ["thing"] [] := F25.b1 fun _ _ _ _ _ _ _ => rfl
  have b26 : Binds K _ ["thing", "many", "least"] [] := F26.b3 fun _ _ _ _ _ _ _ _ _ => rfl
  have b27 : Binds K _ ["thing", "many_takes", "many_gives"] [] := F27.b3 fun _ _ _ _ _ _ _ _ _ => rfl
  have b28 : Binds K _ ["thing", "many_takes", "many_gives"] [] := F28.b3 fun _ _ _ _ _ _ _ _ _ => rfl
  have b29 : Binds K _ ["houses", "number", "house", "many_takes", "many_gives"] [] := F29.b5 fun _ _ _ _ _ _ _ _ _ _ _ => rfl
  have b30 : Binds K _ ["self", "number", "house"] [] := F30.b3 fun _ _ _ _ _ _ _ _ _ => rfl
  have b31 : Binds K _ ["houses", "house", "many_takes", "many_gives"] [] := F31.b4 fun _ _ _ _ _ _ _ _ _ _ => rfl
  have b32 : Binds K _ ["self", "house"] [] := F32.b2 fun _ _ _ _ _ _ _ _ => rfl
  have b33 : Binds K _ ["kept", "book", "pick", "house"] [] := F33.b4 fun _ _ _ _ _ _ _ _ _ _ => rfl
  have b34 : Binds K _ ["self"] [] := F34.b1 fun _ _ _ _ _ _ _ => rfl
  have b35 : Binds K _ ["e"] [] := F35.b1 fun _ _ _ _ _ _ _ => rfl
  have b36 : Binds K _ ["kept", "house"] [] := F36.b2 fun _ _ _ _ _ _ _ _ => rfl
  have b37 : Binds K _ ["name"] [] := F37.b1 fun _ _ _ _ _ _ _ => rfl
  have T : t9 mg := ⟨W.mg_none_of X G z1, W.mg_none_of X G z2, W.mg_none_of X G z3, W.mg_none_of X G z4, W.mg_none_of X G z5, W.mg_none_of X G z6, W.mg_none_of X G z7, W.mg_none_of X G z8, W.mg_none_of X G z9, W.mg_none_of X G z10, W.mg_none_of X G z11, W.mg_none_of X G z12, W.mg_none_of X G z13, W.mg_none_of X G z14, W.mg_none_of X G z15, W.mg_none_of X G z16, W.mg_none_of X G z17⟩
  have TBd : TB K CB := ⟨⟨bp, bh, bo, bs⟩, b_many, b_scale, b_cells, b_outs, b_ins⟩
  have TKd : TK K CK := ⟨⟨kp, kh, ko, ks⟩, k_many_takes, k_many_gives, k_sizes, k_there, k_worth, k_past⟩
  have SG : Sg K w.params mg dS := ⟨W.mg_of X G s1, ⟨_, _, s3, s4⟩, fun z hz => by
    rcases hz with rfl | rfl | rfl | rfl
    . exact ⟨_, sa0, fun H => .inr ⟨_, _, _, sb0, rfl, rfl, (by show 0 <= sizeLine; decide), .nil⟩⟩
    . exact ⟨_, sa1, fun H => .inr ⟨_, _, _, sb1, rfl, rfl, (by show 2 <= sizeLine; decide), .cons ⟨_, rfl⟩ (.cons ⟨_, rfl⟩ .nil)⟩⟩
    . exact ⟨_, sa2, fun H => .inr ⟨_, _, _, sb2, rfl, rfl, (by show 1 <= sizeLine; decide), .cons ⟨_, rfl⟩ .nil⟩⟩
    . exact ⟨_, sa3, fun H => .inr ⟨_, _, _, sb3, rfl, rfl, (by show 1 <= sizeLine; decide), .cons ⟨_, rfl⟩ .nil⟩⟩
    ⟩
  have C_MOST_AMOUNT : ∃ t, mg "MOST_AMOUNT" = some (.int 1000000000 t) := ⟨_, W.mg_of X G cmMOST_AMOUNT⟩
  have C_MOST_HOUSES : ∃ t, mg "MOST_HOUSES" = some (.int 16 t) := ⟨_, W.mg_of X G cmMOST_HOUSES⟩
  have k_NoHouse : O1 K cE_NoHouse := ⟨U6 xoNoHouse, xgaNoHouse, xgnNoHouse, xcaNoHouse, xmoNoHouse, xmbNoHouse⟩
  have m_NoHouse := W.mg_of X G xmNoHouse
  have k_NoBook : O1 K cE_NoBook := ⟨U6 xoNoBook, xgaNoBook, xgnNoBook, xcaNoBook, xmoNoBook, xmbNoBook⟩
  have m_NoBook := W.mg_of X G xmNoBook
  have k_RimError : O1 K cE_RimError := ⟨U6 xoRimError, xgaRimError, xgnRimError, xcaRimError, xmoRimError, xmbRimError⟩
  have m_RimError := W.mg_of X G xmRimError
  have k_NoRow : O1 K cE_NoRow := ⟨U6 xoNoRow, xgaNoRow, xgnNoRow, xcaNoRow, xmoNoRow, xmbNoRow⟩
  have m_NoRow := W.mg_of X G xmNoRow
  have k_NoText : O1 K cE_NoText := ⟨U6 xoNoText, xgaNoText, xgnNoText, xcaNoText, xmoNoText, xmbNoText⟩
  have m_NoText := W.mg_of X G xmNoText
  have k_TooMany : O1 K cE_TooMany := ⟨U6 xoTooMany, xgaTooMany, xgnTooMany, xcaTooMany, xmoTooMany, xmbTooMany⟩
  have m_TooMany := W.mg_of X G xmTooMany
  have k_NothingLeft : O1 K cE_NothingLeft := ⟨U6 xoNothingLeft, xgaNothingLeft, xgnNothingLeft, xcaNothingLeft, xmoNothingLeft, xmbNothingLeft⟩
  have m_NothingLeft := W.mg_of X G xmNothingLeft
  have R : a9f K mg cE_RimError cE_NoBook cE_NoHouse cE_NoRow cE_NoText cE_TooMany cE_NothingLeft := ⟨m_RimError, m_NoBook, m_NoHouse, m_NoRow, m_NoText, m_TooMany, m_NothingLeft, k_RimError⟩
  have M_TooMany : a2T K cE_TooMany cE_RimError cE_NoBook cE_NoHouse cE_NoRow cE_NoText cE_TooMany cE_NothingLeft false false false false true false := ⟨k_TooMany, eSub_TooMany, eI_TooMany_NoBook, eI_TooMany_NoHouse, eI_TooMany_NoRow, eI_TooMany_NoText, P6 _, eI_TooMany_NothingLeft, eIV_TooMany⟩
  have M_NothingLeft : a2T K cE_NothingLeft cE_RimError cE_NoBook cE_NoHouse cE_NoRow cE_NoText cE_TooMany cE_NothingLeft false false false false false true := ⟨k_NothingLeft, eSub_NothingLeft, eI_NothingLeft_NoBook, eI_NothingLeft_NoHouse, eI_NothingLeft_NoRow, eI_NothingLeft_NoText, eI_NothingLeft_TooMany, P6 _, eIV_NothingLeft⟩
  refine ⟨W.fnOf "law" "law" (A3 U9) (p7 U9) (d9 U9) .none kVL dcL pmL anL cdL ctL, fun s v => .of_eq rfl, fun base _ _ BM hCH => ?_⟩
  have g1 := fun n : Nat => a6C (mg := mg) (P := l.prog) (w := w) (base := base) (n := n) F1 TKd
  have g2 := fun n : Nat => a7V (mg := mg) (P := l.prog) (w := w) (base := base) (n := n) F2 T
  have g3 := fun n : Nat => a5I (mg := mg) (P := l.prog) (w := w) (base := base) (n := n) F3 T
  have g4 := fun n : Nat => a3o (mg := mg) (P := l.prog) (w := w) (base := base) (n := n) F4 T TKd
  have g5 := fun n : Nat => a9n (mg := mg) (P := l.prog) (w := w) (base := base) (n := n) F5 T k_NoHouse m_NoHouse
  have g6 := fun n : Nat => a8h (mg := mg) (P := l.prog) (w := w) (base := base) (n := n) F6 T TBd
  have g7 := fun n : Nat => a4W (mg := mg) (P := l.prog) (w := w) (base := base) (n := n) F7 hc7 (hCH _ (.head _)) BM T TBd
  have g8 := fun n : Nat => a7d (mg := mg) (P := l.prog) (w := w) (base := base) (n := n) F8 TBd
  have g9 := fun n : Nat => a5S (mg := mg) (P := l.prog) (w := w) (base := base) F9 T TBd ⟨g8 (n + 0), b8, ⟨a8, n8, k8⟩⟩
  have g10 := fun n : Nat => a6S (mg := mg) (P := l.prog) (w := w) (base := base) (n := n) F10 T
  have g11 := fun n : Nat => a2U (mg := mg) (P := l.prog) (w := w) (base := base) F11 TBd ⟨g10 (n + 0), b10, k10, (W.mg_of X G a10)⟩
  have g12 := fun n : Nat => a8i (mg := mg) (P := l.prog) (w := w) (base := base) (n := n) F12 T TBd
  have g13 := fun n : Nat => a9w (mg := mg) (P := l.prog) (w := w) (base := base) (n := n) F13 T TBd
  have g14 := fun n : Nat => a2y (mg := mg) (P := l.prog) (w := w) (base := base) F14 TBd ⟨⟨bm, a6, n6, bk⟩, g6 (n + 2), b6, W.mg_of X G aB, ⟨g7 (n + 0), b7, ⟨a7, n7, k7⟩⟩, ⟨g9 (n + 1), b9, ⟨a9, n9, k9⟩⟩, ⟨g11 (n + 1), b11, ⟨a11, n11, k11⟩⟩, ⟨g12 (n + 2), b12, ⟨a12, n12, k12⟩⟩, ⟨g13 (n + 2), b13, ⟨a13, n13, k13⟩⟩⟩
  have g15 := fun n : Nat => a1H (mg := mg) (P := l.prog) (w := w) (base := base) (n := n) F15 T SG
  have g16 := fun n : Nat => a5w (mg := mg) (P := l.prog) (w := w) (base := base) F16 T SG ⟨g14 (n + 0), b14, k14, (W.mg_of X G a14)⟩ ⟨g15 (n + 4), b15, k15, (W.mg_of X G a15)⟩
  have g17 := fun n : Nat => a9M (mg := mg) (P := l.prog) (w := w) (base := base) (n := n) F17 T
  have g18 := fun n : Nat => a9T (mg := mg) (P := l.prog) (w := w) (base := base) F18 T ⟨g17 (n + 0), b17, k17, (W.mg_of X G a17)⟩
  have g19 := fun n : Nat => a7J (mg := mg) (P := l.prog) (w := w) (base := base) F19 ⟨g16 (n + 0), b16, k16, (W.mg_of X G a16)⟩ ⟨g18 (n + 4), b18, k18, (W.mg_of X G a18)⟩
  have g20 := fun n : Nat => a6a (mg := mg) (P := l.prog) (w := w) (base := base) F20 ⟨g5 (n + 6), b5, k5, (W.mg_of X G a5)⟩ ⟨g19 (n + 0), b19, k19, (W.mg_of X G a19)⟩
  have g21 := fun n : Nat => a6c (mg := mg) (P := l.prog) (w := w) (base := base) F21 T TKd ⟨g20 (n + 0), b20, k20, (W.mg_of X G a20)⟩
  have g22 := fun n : Nat => a3c (mg := mg) (P := l.prog) (w := w) (base := base) F22 ⟨g5 (n + 0), b5, k5, (W.mg_of X G a5)⟩
  have g23 := fun n : Nat => a2Z (mg := mg) (P := l.prog) (w := w) (base := base) (n := n) F23 T
  have g24 := fun n : Nat => b0k (mg := mg) (P := l.prog) (w := w) (base := base) F24 TKd ⟨g21 (n + 0), b21, ⟨a21, n21, k21⟩⟩ ⟨g22 (n + 7), b22, k22, (W.mg_of X G a22)⟩ ⟨g23 (n + 8), b23, k23, (W.mg_of X G a23)⟩
  have g25 := fun n : Nat => a8l (mg := mg) (P := l.prog) (w := w) (base := base) (n := n) F25 T
  have g26 := fun n : Nat => a7W (mg := mg) (P := l.prog) (w := w) (base := base) F26 T C_MOST_AMOUNT ⟨g25 (n + 0), b25, k25, (W.mg_of X G a25)⟩
  have g27 := fun n : Nat => a8f (mg := mg) (P := l.prog) (w := w) (base := base) F27 T ⟨g26 (n + 0), b26, k26, (W.mg_of X G a26)⟩
  have g28 := fun n : Nat => a5t (mg := mg) (P := l.prog) (w := w) (base := base) F28 k_NoBook m_NoBook ⟨g27 (n + 0), b27, k27, (W.mg_of X G a27)⟩
  have g29 := fun n : Nat => a3u (mg := mg) (P := l.prog) (w := w) (base := base) F29 ⟨g5 (n + 3), b5, k5, (W.mg_of X G a5)⟩ ⟨g28 (n + 0), b28, k28, (W.mg_of X G a28)⟩
  have g30 := fun n : Nat => a5d (mg := mg) (P := l.prog) (w := w) (base := base) F30 TKd ⟨g21 (n + 0), b21, ⟨a21, n21, k21⟩⟩ ⟨g29 (n + 4), b29, k29, (W.mg_of X G a29)⟩ ⟨g23 (n + 8), b23, k23, (W.mg_of X G a23)⟩
  have g31 := fun n : Nat => a3G (mg := mg) (P := l.prog) (w := w) (base := base) F31 T k_TooMany m_TooMany C_MOST_HOUSES ⟨g28 (n + 0), b28, k28, (W.mg_of X G a28)⟩
  have g32 := fun n : Nat => a6w (mg := mg) (P := l.prog) (w := w) (base := base) F32 TKd ⟨g21 (n + 0), b21, ⟨a21, n21, k21⟩⟩ ⟨g31 (n + 4), b31, k31, (W.mg_of X G a31)⟩ ⟨g23 (n + 8), b23, k23, (W.mg_of X G a23)⟩
  have g33 := fun n : Nat => a4O (mg := mg) (P := l.prog) (w := w) (base := base) F33 T TKd ⟨g24 (n + 0), b24, ⟨a24, n24, k24⟩⟩ ⟨g30 (n + 0), b30, ⟨a30, n30, k30⟩⟩ ⟨g32 (n + 0), b32, ⟨a32, n32, k32⟩⟩
  have g34 := fun n : Nat => a6z (Pt := Pt) (mg := mg) (P := l.prog) (w := w) (base := base) (n := n) F34 TKd k_NothingLeft m_NothingLeft
  have g35 := fun n : Nat => a8x (mg := mg) (P := l.prog) (w := w) (base := base) (n := n) F35 T R
  have g36 := fun n : Nat => a3g (mg := mg) (P := l.prog) (w := w) (base := base) F36 TKd R M_TooMany M_NothingLeft ⟨g34 (n + 9), b34, ⟨a34, n34, k34⟩⟩ ⟨g32 (n + 0), b32, ⟨a32, n32, k32⟩⟩ ⟨g35 (n + 9), b35, k35, (W.mg_of X G a35)⟩
  have g37 := fun n : Nat => a8o (mg := mg) (P := l.prog) (w := w) (base := base) (n := n) F37 T
  exact a9k F38 T TKd ⟨⟨km, a1, n1, kk⟩, g1, b1, W.mg_of X G aK⟩ ⟨⟨g2 10, b2, k2, (W.mg_of X G a2)⟩, ⟨g3 10, b3, k3, (W.mg_of X G a3)⟩, ⟨g4 10, b4, ⟨a4, n4, k4⟩⟩, ⟨g33 0, b33, k33, (W.mg_of X G a33)⟩, ⟨g36 0, b36, k36, (W.mg_of X G a36)⟩, ⟨g37 10, b37, k37, (W.mg_of X G a37)⟩⟩
end Rim
def PySem.W.Fast.tw8716493084593994089 : Nat := 0
def PySem.W.Fast.tw198328158843628090 : Nat := 0
def PySem.W.Fast.tw11180979057283445417 : Nat := 0
def PySem.W.Fast.tw2932833842208425445 : Nat := 0
def PySem.W.Fast.tw943819779037200022 : Nat := 0
def PySem.W.Fast.tw5725890254232187408 : Nat := 0
def PySem.W.Fast.tw13817166040800951107 : Nat := 0
def PySem.W.Fast.tw2258960282393138742 : Nat := 0
def PySem.W.Fast.tw14184119122001758079 : Nat := 0
def PySem.W.Fast.tw13292094579842097820 : Nat := 0
def PySem.W.Fast.tw11761051751685769873 : Nat := 0
def PySem.W.Fast.tw1482096369099340615 : Nat := 0
def PySem.W.Fast.tw2691188310336668951 : Nat := 0
def PySem.W.Fast.tw11783129491928302164 : Nat := 0
def PySem.W.Fast.tw6569132739151058493 : Nat := 0
def PySem.W.Fast.tw15551220490399597068 : Nat := 0
def PySem.W.Fast.tw4814800019401455348 : Nat := 0
def PySem.W.Fast.tw2798843312147028782 : Nat := 0
def PySem.W.Fast.tw5416713231463950771 : Nat := 0
def PySem.W.Fast.tw9222932310825809690 : Nat := 0
def PySem.W.Fast.tw14167955886736892583 : Nat := 0
def PySem.W.Fast.tw13220250827191934248 : Nat := 0
def PySem.W.Fast.tw17169775342725679385 : Nat := 0
def PySem.W.Fast.tw4023056490317793203 : Nat := 0
def PySem.W.Fast.tw8349736637531897375 : Nat := 0
def PySem.W.Fast.tw6292235407927701368 : Nat := 0
def PySem.W.Fast.tw14462766848163618351 : Nat := 0
def PySem.W.Fast.tw16812659014128233533 : Nat := 0
def PySem.W.Fast.tw11529428548328667156 : Nat := 0
def PySem.W.Fast.tw3753318307321268269 : Nat := 0
def PySem.W.Fast.tw8675494015825468757 : Nat := 0
def PySem.W.Fast.tw15896921981682592040 : Nat := 0
def PySem.W.Fast.tw13333051116557783283 : Nat := 0
def PySem.W.Fast.tw8782164939742754566 : Nat := 0
def PySem.W.Fast.tw8447913119234385582 : Nat := 0
def PySem.W.Fast.tw2940164647202640788 : Nat := 0
def PySem.W.Fast.tw8952941299394644916 : Nat := 0
def PySem.W.Fast.tw10247165971476626949 : Nat := 0
def PySem.W.Fast.tw13812713605477798491 : Nat := 0
def PySem.W.Fast.tw12368795666925669893 : Nat := 0
def PySem.W.Fast.tw4496011268629728496 : Nat := 0
def PySem.W.Fast.tw126271429079999180 : Nat := 0
def PySem.W.Fast.tw7900518093741892005 : Nat := 0
def PySem.W.Fast.tw11704987720459919593 : Nat := 0
def PySem.W.Fast.tw4863566348848505654 : Nat := 0
def PySem.W.Fast.tw16628317961679527676 : Nat := 0
def PySem.W.Fast.tw7047551651328797167 : Nat := 0
def PySem.W.Fast.tw9471720859561593230 : Nat := 0
def PySem.W.Fast.tw203355648404017609 : Nat := 0
def PySem.W.Fast.tw2642129404634603420 : Nat := 0
def PySem.W.Fast.tw1331784381556673652 : Nat := 0
def PySem.W.Fast.tw11544146616312138636 : Nat := 0
def PySem.W.Fast.tw14408200524092344709 : Nat := 0
def PySem.W.Fast.tw5763172728365042991 : Nat := 0
def PySem.W.Fast.tw11431409725536561236 : Nat := 0
def PySem.W.Fast.tw13599550104183636043 : Nat := 0
def PySem.W.Fast.tw17998074498289942325 : Nat := 0
def PySem.W.Fast.tw4204103809247001962 : Nat := 0
def PySem.W.Fast.tw3206909064644800398 : Nat := 0
def PySem.W.Fast.tw7340505473650796367 : Nat := 0
def PySem.W.Fast.tw14752342179133645919 : Nat := 0
def PySem.W.Fast.tw2418298551514561305 : Nat := 0
def PySem.W.Fast.tw16865102046785140446 : Nat := 0
def PySem.W.Fast.tw12488679766740421034 : Nat := 0
def PySem.W.Fast.tw16785855639473103370 : Nat := 0
def PySem.W.Fast.tw15117338227790819818 : Nat := 0
def PySem.W.Fast.tw2157705290857274893 : Nat := 0
def PySem.W.Fast.tw10595719715164892053 : Nat := 0
def PySem.W.Fast.tw914642272800998188 : Nat := 0
def PySem.W.Fast.tw14681709233474822056 : Nat := 0
def PySem.W.Fast.tw855449103522422943 : Nat := 0
def PySem.W.Fast.tw6810073562629793337 : Nat := 0
def PySem.W.Fast.tw12672791242019152702 : Nat := 0
def PySem.W.Fast.tw883249160607793142 : Nat := 0
def PySem.W.Fast.tw11273380267428612767 : Nat := 0
def PySem.W.Fast.tw9904226511302163850 : Nat := 0
def PySem.W.Fast.tw17591324565897943667 : Nat := 0
def PySem.W.Fast.tw1335563749720320982 : Nat := 0
def PySem.W.Fast.tw13532768291160576399 : Nat := 0
def PySem.W.Fast.tw13066387702046505180 : Nat := 0
def PySem.W.Fast.tw12621179438625222558 : Nat := 0
def PySem.W.Fast.tw8529942913321242671 : Nat := 0
def PySem.W.Fast.tw1561798709941735019 : Nat := 0
def PySem.W.Fast.tw11189248384308774930 : Nat := 0
def PySem.W.Fast.tw9503878921031505417 : Nat := 0
def PySem.W.Fast.tw5839945696689110816 : Nat := 0
def PySem.W.Fast.tw8757250931213687460 : Nat := 0
def PySem.W.Fast.tw2716272223572663511 : Nat := 0
def PySem.W.Fast.tw6633096554511372371 : Nat := 0
def PySem.W.Fast.tw8840439179193500459 : Nat := 0
def PySem.W.Fast.tw9875962644940576127 : Nat := 0
def PySem.W.Fast.tw10673528619837213936 : Nat := 0
def PySem.W.Fast.tw9215953156498318038 : Nat := 0
def PySem.W.Fast.tw5622389669578330646 : Nat := 0
def PySem.W.Fast.tw7467828387523882088 : Nat := 0
def PySem.W.Fast.tw4788403991064467891 : Nat := 0
def PySem.W.Fast.tw16146490662009430484 : Nat := 0
namespace Rim
open PySem L2 Fr
theorem walk {l : W.OpenLaw} {q : Program} {loose : List Str} {XP : (Str -> Option Value) -> Heap -> Prop} {YP : World -> Heap -> Prop} {d : DefRec} {K : Params -> W.Frag} {Ct Pt : Addr} (hn : l.most = some 63) (hdf : d.params.defaults = [])
    (hY : ∀ (w : World) (h : Heap), YP w h -> (K w.params).In h /\ ∀ t ∈ [(Ct, Pt)], h.get? t.2 = some (W.tabObj #[]))
    (hC : ∀ (w : World), ∀ t ∈ [(Ct, Pt)], W.codeHdIn (K w.params) t.1 t.2 = true /\ (K w.params).lookup t.2 = none)
    (F : ∀ (w : World) (mg : Str -> Option Value) (fa : Addr) (h : Heap), (K w.params).In h -> h.Ns mainGlobals mg -> mg d.name = some (.ref fa) →
      ∃ fd : FuncData, (∀ (s : Shared) (u : Value), BindsTo s fd ⟨[u], []⟩ [("script", u)]) /\ ∀ base : Heap, (K w.params).In base -> base.Ns mainGlobals mg -> O6 mg base -> (∀ t ∈ [(Ct, Pt)], W.CodeHd base t.1 t.2) -> FnOk l.prog w (K w.params) mg base D4 12 fa fd ["script"] (a3W (K w.params) Pt)) :
    W.WalkO q loose XP YP l.row.toRowW d [] (fun f vs => PySem.call f vs) :=
  L2.walk_ofT (n := 63) (k := 12) (x := "script") (Ts := [(Ct, Pt)]) (CX := fun _ => D4) (sp := fun w => a3W (K w.params) Pt) hn (by decide) hdf ⟨rfl, by decide, by decide⟩ hY hC F (fun _ _ a ns hl hT hS => ⟨a, ns, rfl, hS, hl, .inl (hT _ (.head _)), fun _ => rfl⟩) fun _ _ _ _ _ z => z
end Rim
open PySem PySem.W PyProof.Rows
set_option maxRecDepth 100000 in
set_option maxHeartbeats 0 in
theorem PySem.Challenge.cw_rimhouse_k33_hundreds_of_kept_deeds_holds : PySem.Challenge.rw_rimhouse_k33_hundreds_of_kept_deeds.Holds := by
  w_on; o_law; km_head; (case hw => w_witness2)
  k_fill
  refine' Rim.walk (l := PySem.Challenge.rw_rimhouse_k33_hundreds_of_kept_deeds) (Ct := _) (Pt := 191) rfl rfl ?Y ?C ?F
  case Y => exact fun w h Y => ⟨W.km_in_of Y, fun t ht => by rw [List.mem_singleton.mp ht]; exact W.km_tabs_of Y _ (.head _)⟩
  case F =>
    intro w mg fa h KX G hmg
    refine' Rim.all_mk KX G hmg ?aK ?aB ?a1 ?l1 ?n1 ?a2 ?l2 ?a3 ?l3 ?a4 ?l4 ?n4 ?a5 ?l5 ?a6 ?l6 ?n6 ?a7 ?l7 ?n7 ?a8 ?l8 ?n8 ?a9 ?l9 ?n9 ?a10 ?l10 ?a11 ?l11 ?n11 ?a12 ?l12 ?n12 ?a13 ?l13 ?n13 ?a14 ?l14 ?a15 ?l15 ?a16 ?l16 ?a17 ?l17 ?a18 ?l18 ?a19 ?l19 ?a20 ?l20 ?a21 ?l21 ?n21 ?a22 ?l22 ?a23 ?l23 ?a24 ?l24 ?n24 ?a25 ?l25 ?a26 ?l26 ?a27 ?l27 ?a28 ?l28 ?a29 ?l29 ?a30 ?l30 ?n30 ?a31 ?l31 ?a32 ?l32 ?n32 ?a33 ?l33 ?a34 ?l34 ?n34 ?a35 ?l35 ?a36 ?l36 ?a37 ?l37 ?a38 ?l38 ?c38 ?k38 ?z1 ?z2 ?z3 ?z4 ?z5 ?z6 ?z7 ?z8 ?z9 ?z10 ?z11 ?z12 ?z13 ?z14 ?z15 ?z16 ?z17 ?bp ?bh ?bo ?bs ?b_many ?b_scale ?b_cells ?b_outs ?b_ins ?bm ?bk ?kp ?kh ?ko ?ks ?k_many_takes ?k_many_gives ?k_sizes ?k_there ?k_worth ?k_past ?km ?kk ?s1 ?s3 ?s4 ?sa0 ?sb0 ?sa1 ?sb1 ?sa2 ?sb2 ?sa3 ?sb3 ?xmNoHouse ?xoNoHouse ?xgaNoHouse ?xgnNoHouse ?xcaNoHouse ?xmoNoHouse ?xmbNoHouse ?xmNoBook ?xoNoBook ?xgaNoBook ?xgnNoBook ?xcaNoBook ?xmoNoBook ?xmbNoBook ?xmRimError ?xoRimError ?xgaRimError ?xgnRimError ?xcaRimError ?xmoRimError ?xmbRimError ?xmNoRow ?xoNoRow ?xgaNoRow ?xgnNoRow ?xcaNoRow ?xmoNoRow ?xmbNoRow ?xmNoText ?xoNoText ?xgaNoText ?xgnNoText ?xcaNoText ?xmoNoText ?xmbNoText ?xmTooMany ?xoTooMany ?xgaTooMany ?xgnTooMany ?xcaTooMany ?xmoTooMany ?xmbTooMany ?xmNothingLeft ?xoNothingLeft ?xgaNothingLeft ?xgnNothingLeft ?xcaNothingLeft ?xmoNothingLeft ?xmbNothingLeft ?cmMOST_AMOUNT ?cmMOST_HOUSES ?eSub_TooMany ?eI_TooMany_NoBook ?eI_TooMany_NoHouse ?eI_TooMany_NoRow ?eI_TooMany_NoText ?eI_TooMany_NothingLeft ?eIV_TooMany ?eSub_NothingLeft ?eI_NothingLeft_NoBook ?eI_NothingLeft_NoHouse ?eI_NothingLeft_NoRow ?eI_NothingLeft_NoText ?eI_NothingLeft_TooMany ?eIV_NothingLeft
    (case aK => k_is)
    (case aB => k_is)
    (case a1 => k_is)
    (case l1 => (refine' L2.fun_in ?l ?c ?k; (case l => k_is); (case c => k_is); (case k => k_is)))
    (case n1 => k_is)
    (case a2 => k_is)
    (case l2 => (refine' L2.fun_in ?l ?c ?k; (case l => k_is); (case c => k_is); (case k => k_is)))
    (case a3 => k_is)
    (case l3 => (refine' L2.fun_in ?l ?c ?k; (case l => k_is); (case c => k_is); (case k => k_is)))
    (case a4 => k_is)
    (case l4 => (refine' L2.fun_in ?l ?c ?k; (case l => k_is); (case c => k_is); (case k => k_is)))
    (case n4 => k_is)
    (case a5 => k_is)
    (case l5 => (refine' L2.fun_in ?l ?c ?k; (case l => k_is); (case c => k_is); (case k => k_is)))
    (case a6 => k_is)
    (case l6 => (refine' L2.fun_in ?l ?c ?k; (case l => k_is); (case c => k_is); (case k => k_is)))
    (case n6 => k_is)
    (case a7 => k_is)
    (case l7 => (refine' L2.fun_in ?l ?c ?k; (case l => k_is); (case c => k_is); (case k => k_is)))
    (case n7 => k_is)
    (case a8 => k_is)
    (case l8 => (refine' L2.fun_in ?l ?c ?k; (case l => k_is); (case c => k_is); (case k => k_is)))
    (case n8 => k_is)
    (case a9 => k_is)
    (case l9 => (refine' L2.fun_in ?l ?c ?k; (case l => k_is); (case c => k_is); (case k => k_is)))
    (case n9 => k_is)
    (case a10 => k_is)
    (case l10 => (refine' L2.fun_in ?l ?c ?k; (case l => k_is); (case c => k_is); (case k => k_is)))
    (case a11 => k_is)
    (case l11 => (refine' L2.fun_in ?l ?c ?k; (case l => k_is); (case c => k_is); (case k => k_is)))
    (case n11 => k_is)
    (case a12 => k_is)
    (case l12 => (refine' L2.fun_in ?l ?c ?k; (case l => k_is); (case c => k_is); (case k => k_is)))
    (case n12 => k_is)
    (case a13 => k_is)
    (case l13 => (refine' L2.fun_in ?l ?c ?k; (case l => k_is); (case c => k_is); (case k => k_is)))
    (case n13 => k_is)
    (case a14 => k_is)
    (case l14 => (refine' L2.fun_in ?l ?c ?k; (case l => k_is); (case c => k_is); (case k => k_is)))
    (case a15 => k_is)
    (case l15 => (refine' L2.fun_in ?l ?c ?k; (case l => k_is); (case c => k_is); (case k => k_is)))
    (case a16 => k_is)
    (case l16 => (refine' L2.fun_in ?l ?c ?k; (case l => k_is); (case c => k_is); (case k => k_is)))
    (case a17 => k_is)
    (case l17 => (refine' L2.fun_in ?l ?c ?k; (case l => k_is); (case c => k_is); (case k => k_is)))
    (case a18 => k_is)
    (case l18 => (refine' L2.fun_in ?l ?c ?k; (case l => k_is); (case c => k_is); (case k => k_is)))
    (case a19 => k_is)
    (case l19 => (refine' L2.fun_in ?l ?c ?k; (case l => k_is); (case c => k_is); (case k => k_is)))
    (case a20 => k_is)
    (case l20 => (refine' L2.fun_in ?l ?c ?k; (case l => k_is); (case c => k_is); (case k => k_is)))
    (case a21 => k_is)
    (case l21 => (refine' L2.fun_in ?l ?c ?k; (case l => k_is); (case c => k_is); (case k => k_is)))
    (case n21 => k_is)
    (case a22 => k_is)
    (case l22 => (refine' L2.fun_in ?l ?c ?k; (case l => k_is); (case c => k_is); (case k => k_is)))
    (case a23 => k_is)
    (case l23 => (refine' L2.fun_in ?l ?c ?k; (case l => k_is); (case c => k_is); (case k => k_is)))
    (case a24 => k_is)
    (case l24 => (refine' L2.fun_in ?l ?c ?k; (case l => k_is); (case c => k_is); (case k => k_is)))
    (case n24 => k_is)
    (case a25 => k_is)
    (case l25 => (refine' L2.fun_in ?l ?c ?k; (case l => k_is); (case c => k_is); (case k => k_is)))
    (case a26 => k_is)
    (case l26 => (refine' L2.fun_in ?l ?c ?k; (case l => k_is); (case c => k_is); (case k => k_is)))
    (case a27 => k_is)
    (case l27 => (refine' L2.fun_in ?l ?c ?k; (case l => k_is); (case c => k_is); (case k => k_is)))
    (case a28 => k_is)
    (case l28 => (refine' L2.fun_in ?l ?c ?k; (case l => k_is); (case c => k_is); (case k => k_is)))
    (case a29 => k_is)
    (case l29 => (refine' L2.fun_in ?l ?c ?k; (case l => k_is); (case c => k_is); (case k => k_is)))
    (case a30 => k_is)
    (case l30 => (refine' L2.fun_in ?l ?c ?k; (case l => k_is); (case c => k_is); (case k => k_is)))
    (case n30 => k_is)
    (case a31 => k_is)
    (case l31 => (refine' L2.fun_in ?l ?c ?k; (case l => k_is); (case c => k_is); (case k => k_is)))
    (case a32 => k_is)
    (case l32 => (refine' L2.fun_in ?l ?c ?k; (case l => k_is); (case c => k_is); (case k => k_is)))
    (case n32 => k_is)
    (case a33 => k_is)
    (case l33 => (refine' L2.fun_in ?l ?c ?k; (case l => k_is); (case c => k_is); (case k => k_is)))
    (case a34 => k_is)
    (case l34 => (refine' L2.fun_in ?l ?c ?k; (case l => k_is); (case c => k_is); (case k => k_is)))
    (case n34 => k_is)
    (case a35 => k_is)
    (case l35 => (refine' L2.fun_in ?l ?c ?k; (case l => k_is); (case c => k_is); (case k => k_is)))
    (case a36 => k_is)
    (case l36 => (refine' L2.fun_in ?l ?c ?k; (case l => k_is); (case c => k_is); (case k => k_is)))
    (case a37 => k_is)
    (case l37 => (refine' L2.fun_in ?l ?c ?k; (case l => k_is); (case c => k_is); (case k => k_is)))
    (case a38 => k_is)
    (case l38 => k_is)
    (case c38 => k_is)
    (case k38 => k_is)
    (case z1 => k_is)
    (case z2 => k_is)
    (case z3 => k_is)
    (case z4 => k_is)
    (case z5 => k_is)
    (case z6 => k_is)
    (case z7 => k_is)
    (case z8 => k_is)
    (case z9 => k_is)
    (case z10 => k_is)
    (case z11 => k_is)
    (case z12 => k_is)
    (case z13 => k_is)
    (case z14 => k_is)
    (case z15 => k_is)
    (case z16 => k_is)
    (case z17 => k_is)
    (case bp => k_is)
    (case bh => k_is)
    (case bo => k_is)
    (case bs => k_is)
    (case b_many => k_is)
    (case b_scale => k_is)
    (case b_cells => k_is)
    (case b_outs => k_is)
    (case b_ins => k_is)
    (case bm => k_is)
    (case bk => k_is)
    (case kp => k_is)
    (case kh => k_is)
    (case ko => k_is)
    (case ks => k_is)
    (case k_many_takes => k_is)
    (case k_many_gives => k_is)
    (case k_sizes => k_is)
    (case k_there => k_is)
    (case k_worth => k_is)
    (case k_past => k_is)
    (case km => k_is)
    (case kk => k_is)
    (case s1 => k_is)
    (case s3 => k_is)
    (case s4 => k_keys)
    (case sa0 => k_is)
    (case sb0 => k_is)
    (case sa1 => k_is)
    (case sb1 => k_is)
    (case sa2 => k_is)
    (case sb2 => k_is)
    (case sa3 => k_is)
    (case sb3 => k_is)
    (case xmNoHouse => k_is)
    (case xoNoHouse => k_exc)
    (case xgaNoHouse => k_is)
    (case xgnNoHouse => k_is)
    (case xcaNoHouse => k_is)
    (case xmoNoHouse => k_is)
    (case xmbNoHouse => k_is)
    (case xmNoBook => k_is)
    (case xoNoBook => k_exc)
    (case xgaNoBook => k_is)
    (case xgnNoBook => k_is)
    (case xcaNoBook => k_is)
    (case xmoNoBook => k_is)
    (case xmbNoBook => k_is)
    (case xmRimError => k_is)
    (case xoRimError => k_exc)
    (case xgaRimError => k_is)
    (case xgnRimError => k_is)
    (case xcaRimError => k_is)
    (case xmoRimError => k_is)
    (case xmbRimError => k_is)
    (case xmNoRow => k_is)
    (case xoNoRow => k_exc)
    (case xgaNoRow => k_is)
    (case xgnNoRow => k_is)
    (case xcaNoRow => k_is)
    (case xmoNoRow => k_is)
    (case xmbNoRow => k_is)
    (case xmNoText => k_is)
    (case xoNoText => k_exc)
    (case xgaNoText => k_is)
    (case xgnNoText => k_is)
    (case xcaNoText => k_is)
    (case xmoNoText => k_is)
    (case xmbNoText => k_is)
    (case xmTooMany => k_is)
    (case xoTooMany => k_exc)
    (case xgaTooMany => k_is)
    (case xgnTooMany => k_is)
    (case xcaTooMany => k_is)
    (case xmoTooMany => k_is)
    (case xmbTooMany => k_is)
    (case xmNothingLeft => k_is)
    (case xoNothingLeft => k_exc)
    (case xgaNothingLeft => k_is)
    (case xgnNothingLeft => k_is)
    (case xcaNothingLeft => k_is)
    (case xmoNothingLeft => k_is)
    (case xmbNothingLeft => k_is)
    (case cmMOST_AMOUNT => k_is)
    (case cmMOST_HOUSES => k_is)
    (case eSub_TooMany => k_is)
    (case eI_TooMany_NoBook => kit_is)
    (case eI_TooMany_NoHouse => kit_is)
    (case eI_TooMany_NoRow => kit_is)
    (case eI_TooMany_NoText => kit_is)
    (case eI_TooMany_NothingLeft => kit_is)
    (case eIV_TooMany => kit_is)
    (case eSub_NothingLeft => k_is)
    (case eI_NothingLeft_NoBook => kit_is)
    (case eI_NothingLeft_NoHouse => kit_is)
    (case eI_NothingLeft_NoRow => kit_is)
    (case eI_NothingLeft_NoText => kit_is)
    (case eI_NothingLeft_TooMany => kit_is)
    (case eIV_NothingLeft => kit_is)
  case C => exact fun w t ht => by rw [List.mem_singleton.mp ht]; exact ⟨by kernel_rfl, by kernel_rfl⟩
