import PyProof.Rows.All
import Wide.All
import OpenK.AllK
import Wide.FinOn
import Lean
import PyProof.EqAt
import PyProof.EqKinds
import PyProof.TupleCall
import PyProof.NeData
import PyProof.ZipIter
import PyProof.EnumMake
import PyProof.EnumFor
import KE.KMinKey
import KE.KUnpack
import KE.KNestM
import KE.KLam
import PySem.Challenge.RW_rimhouse_k22_whole_against_a_book
set_option Elab.async false
set_option linter.all false
set_option maxRecDepth 100000
namespace L2
open PySem PySem.Spec PyProof.Rows
abbrev Key := Sum Int Str
def a9h : Key -> Value -> Bool
  | .inl k, v => Value.isInt k v
  | .inr x, v => Value.isStrOf x v
def b2x (w : World) : Key -> Int
  | .inl k => hashInt k
  | .inr x => hashStr w x
theorem C5 : ∀ {k : Key} {v : Value}, a9h k v = true -> (∃ i t, k = Sum.inl i /\ v = Value.int i t) \/ (∃ x t, k = Sum.inr x /\ v = Value.str x t)
  | .inl i, v, h => by
    obtain ⟨t, e⟩ := Value.isInt_shape (k := i) (v := v) h
    exact .inl ⟨i, t, rfl, e⟩
  | .inr x, v, h => by
    obtain ⟨t, e⟩ := Value.isStrOf_shape (x := x) (v := v) h
    exact .inr ⟨x, t, rfl, e⟩
theorem b0u (a b : Int) : decide ((Sum.inl a : Key) = Sum.inl b) = (a == b) := by
  by_cases e : a = b
  . subst e; simp
  . have h : ¬ (Sum.inl a : Key) = Sum.inl b := fun q => e (Sum.inl.inj q)
    rw [decide_eq_false h]
    exact (beq_eq_false_iff_ne.mpr e).symm
theorem a9P (a b : Str) : decide ((Sum.inr a : Key) = Sum.inr b) = decide (a = b) := by
  by_cases e : a = b
  . subst e; simp
  . have h : ¬ (Sum.inr a : Key) = Sum.inr b := fun q => e (Sum.inr.inj q)
    rw [decide_eq_false h, decide_eq_false e]
theorem a9X (a : Int) (b : Str) : decide ((Sum.inl a : Key) = Sum.inr b) = false := decide_eq_false (fun q => nomatch q)
theorem a9E (a : Str) (b : Int) : decide ((Sum.inr a : Key) = Sum.inl b) = false := decide_eq_false (fun q => nomatch q)
def a4h (prog : Program) (w : World) : PySem.KeyKind prog w Key where
  is := a9h
  hash := b2x w
  inj := fun v a b ha hb => by
    rcases C5 ha with ⟨i, t, rfl, rfl⟩ | ⟨x, t, rfl, rfl⟩
    . rcases C5 hb with ⟨j, u, rfl, e⟩ | ⟨y, u, rfl, e⟩
      . injection e with e1 _; rw [e1]
      . exact nomatch e
    . rcases C5 hb with ⟨j, u, rfl, e⟩ | ⟨y, u, rfl, e⟩
      . exact nomatch e
      . injection e with e1 _; rw [e1]
  byValue := fun k v h => by
    rcases C5 h with ⟨i, t, rfl, rfl⟩ | ⟨x, t, rfl, rfl⟩ <;> rfl
  pyHash := fun hv h => by
    rcases C5 hv with ⟨i, t, rfl, rfl⟩ | ⟨x, t, rfl, rfl⟩
    . exact wpAny_pyHash_int h
    . exact wpAny_pyHash_str h
  eqBool := fun hu hv h => by
    rcases C5 hu with ⟨i, t, rfl, rfl⟩ | ⟨x, t, rfl, rfl⟩
    . rcases C5 hv with ⟨j, u, rfl, rfl⟩ | ⟨y, u, rfl, rfl⟩
      . rw [b0u] at h; exact wpAny_eqBool_int h
      . rw [a9X] at h; exact SeqAt.EqAt.int_str i t y u _ _ _ _ h
    . rcases C5 hv with ⟨j, u, rfl, rfl⟩ | ⟨y, u, rfl, rfl⟩
      . rw [a9E] at h; exact SeqAt.EqAt.str_int x t j u _ _ _ _ h
      . rw [a9P] at h; exact wpAny_eqBool_str h
  «strs» := fun k x t v h => by
    rcases C5 h with ⟨i, u, rfl, e⟩ | ⟨y, u, rfl, e⟩
    . exact nomatch e
    . injection e with e1 _
      subst e1
      cases v <;> rfl
end L2
namespace L2
open PySem PySem.Spec PyProof.Rows
inductive V where
  | non | bl (b : Bool) | int (i : Int) | str (x : Str) | byt (b : Array UInt8) | flt (b : UInt64) | ref (a : Addr) | ty (n : String)
  deriving DecidableEq
def RelV : V -> Value -> Prop
  | .non, u => u = Value.none
  | .bl b, u => u = Value.bool b
  | .int i, u => ∃ t, u = Value.int i t
  | .str x, u => ∃ t, u = Value.str x t
  | .byt b, u => ∃ t, u = Value.bytes b t
  | .flt b, u => ∃ t, u = Value.float b t
  | .ref a, u => u = Value.ref a
  | .ty n, u => u = Value.type n
abbrev Vals : List V -> List Value -> Prop := Paired RelV
theorem Vals.length {xs : List V} {us : List Value} (r : Vals xs us) : xs.length = us.length := Paired.length r
theorem Vals.get : ∀ {xs : List V} {us : List Value} {i : Nat} {x : V}, Vals xs us -> xs[i]? = some x -> ∃ u, us[i]? = some u /\ RelV x u
  | _, _, _, _, .nil, e => by simp at e
  | _, _, 0, _, .cons r _, e => by simp at e; subst e; exact ⟨_, rfl, r⟩
  | _, _, i + 1, x, .cons _ t, e => by
    obtain ⟨u, h1, h2⟩ := Vals.get (i := i) (x := x) t (by simpa using e)
    exact ⟨u, by simpa using h1, h2⟩
theorem Vals.set {x : V} {u : Value} (r : RelV x u) : ∀ {xs : List V} {us : List Value} (i : Nat), Vals xs us -> Vals (xs.set i x) (us.set i u)
  | _, _, _, .nil => .nil
  | _, _, 0, .cons _ t => .cons r t
  | _, _, i + 1, .cons q t => .cons q (Vals.set r i t)
theorem Vals.append : ∀ {xs ys : List V} {us ws : List Value}, Vals xs us -> Vals ys ws -> Vals (xs ++ ys) (us ++ ws)
  | _, _, _, _, .nil, s => s
  | _, _, _, _, .cons r t, s => .cons r (Vals.append t s)
theorem Vals.take : ∀ {xs : List V} {us : List Value} (n : Nat), Vals xs us -> Vals (xs.take n) (us.take n)
  | _, _, 0, _ => .nil
  | _, _, _ + 1, .nil => .nil
  | _, _, n + 1, .cons r t => .cons r (Vals.take n t)
theorem Vals.drop : ∀ {xs : List V} {us : List Value} (n : Nat), Vals xs us -> Vals (xs.drop n) (us.drop n)
  | _, _, 0, r => r
  | _, _, _ + 1, .nil => .nil
  | _, _, n + 1, .cons _ t => Vals.drop n t
theorem Vals.none_of : ∀ {xs : List V} {us : List Value} {i : Nat}, Vals xs us -> xs[i]? = none -> us[i]? = none := fun {xs us i} r e => by
  have h1 := r.length
  have h2 : xs.length <= i := List.getElem?_eq_none_iff.mp e
  exact List.getElem?_eq_none_iff.mpr (by omega)
def RelO : Option V -> Option Value -> Prop
  | some v, some u => RelV v u
  | none, none => True
  | _, _ => False
def KV {κ : Type} : List (κ × V) -> List (κ × Value) -> Prop := Paired fun (p : κ × V) (q : κ × Value) => p.1 = q.1 /\ RelV p.2 q.2
def kV : Key -> V
  | .inl i => .int i
  | .inr x => .str x
inductive HO where
  /-- a list -/
  | lst (xs : List V)
  /-- a tuple (never changes) -/
  | tup (xs : List V)
  /-- a dict whose keys are ints and texts; one whose keys are tuples of ints and texts (the empty one is both) -/
  | dK (kvs : List (Key × V)) | dT (kvs : List (List Key × V))
  /-- a set of ints: its members, its size -/
  | set (S : Int -> Bool) (n : Nat)
  /-- an instance of the class at C, its dict at dx, its attributes -/
  | ins (C dx : Addr) (fs : List (Str × V))
  /-- the dict of the instance at x -/
  | own (x : Addr)
  /-- the dict of an exception -/
  | xd (fs : List (Str × V))
  /-- a bound method, f of x -/
  | met (f x : Addr)
  /-- a range object lo, lo + 1, .. below hi -/
  | rng (lo hi : Int)
  /-- a thing that is known to the object (the script; a dict while a loop walks it): read, never written while it is so -/
  | frz (o : Obj) (u : HO)
  /-- a code object's table -/
  | tbl (ps : Array Value)
  /-- any other thing, by what is true of its one object (a def of one's own: SetO a S n := HO.ext fun h => ..) -/
  | ext (φ : Heap -> Prop)
abbrev Hp := Addr -> Option HO
def upd (H : Hp) (a : Addr) (o : HO) : Hp := fun b => if b = a then some o else H b
theorem upd_same {H : Hp} {a : Addr} {o : HO} : upd H a o a = some o := by unfold upd; rw [if_pos rfl]
theorem h8 {H : Hp} {a b : Addr} {o : HO} (h : b ≠ a) : upd H a o b = H b := by unfold upd; rw [if_neg h]
theorem a0w {H : Hp} {a : Addr} {o u : HO} : upd (upd H a o) a u = upd H a u := by
  funext b; unfold upd; split <;> rfl
theorem a1o {H : Hp} {a b : Addr} {o u : HO} (h : H a = some o) (h' : H b = some u) (d : o ≠ u) : a ≠ b := by
  intro e; subst e; rw [h] at h'; exact d (Option.some.inj h')
theorem i7 {H : Hp} {a b : Addr} {o : HO} (h : H a = some o) (h' : H b = none) : a ≠ b := by
  intro e; subst e; rw [h] at h'; cases h'
section
variable (P : Program) (w : World)
def ObjOk (H : Hp) (h : Heap) (a : Addr) : HO -> Prop
  | .lst xs => xs.length <= sizeLine /\ ∃ (its : List Value) (n : Nat), Vals xs its /\ h.get? a = some { cls := .type "list", data := .seq its.toArray n }
  | .tup xs => xs.length <= sizeLine /\ ∃ its : List Value, Vals xs its /\ IsTup h a its.toArray
  | .dK kvs => kvs.length <= sizeLine /\ (a == sysModules) = false /\ ∃ vs, KV kvs vs /\ h.DictOf (a4h P w) a vs
  | .dT kvs => kvs.length <= sizeLine /\ (a == sysModules) = false /\ ∃ xs : List (List Key × Addr × Value),
      Paired (fun (p : List Key × V) (q : List Key × Addr × Value) => p.1 = q.1 /\ H q.2.1 = some (.tup (p.1.map kV)) /\ RelV p.2 q.2.2) kvs xs ∧
      ∃ o es ep, h.get? a = some o /\ o.ExactDict /\ o.data = .dict es ep /\ es.toList = xs.map (entryOfKey (tupleKind (a4h P w))) /\ (xs.map (·.1)).Nodup
  | .set S n => h.SetOf (intKind P w) a S n
  | .ins C dx fs => H dx = some (.own a) /\ fs.length <= 1000 /\ dx ≠ a /\ h.get? a = some (W.instObj C dx) ∧
      ∃ mA, h.Ns1 dx mA /\ (∀ f, RelO (fs.lookup f) (mA f)) /\ PySem.Within mA (fs.map (·.1))
  | .own _ => ∃ o, h.get? a = some o
  | .xd fs => ∃ mA, h.Ns1 a mA /\ ∀ f, RelO (fs.lookup f) (mA f)
  | .rng lo hi => ∃ t u v, h.get? a = some { cls := .type "range", data := .fields #[.int lo t, .int hi u, .int 1 v] }
  | .frz o u => h.get? a = some o /\ ObjOk H h a u
  | .tbl ps => h.get? a = some { cls := .none, data := .fields ps }
  | .met f x => h.get? a = some (W.methodObj (.ref f) (.ref x))
  | .ext φ => φ h /\ (∃ o, h.get? a = some o) /\ ∀ h1 h2 : Heap, φ h1 -> (∀ o, h1.get? a = some o -> h2.get? a = some o) -> φ h2
def HOk (H : Hp) (h : Heap) : Prop := ∀ a o, H a = some o -> ObjOk P w H h a o
end
section
variable {P : Program} {w : World} {H H' : Hp} {h h' : Heap} {a : Addr} {o : HO}
theorem ObjOk.lt (x : ObjOk P w H h a o) : a < h.objs.size := by
  cases o with
  | lst xs => obtain ⟨_, _, _, _, e⟩ := x; exact Heap.lt_size e
  | tup xs => obtain ⟨_, _, _, p⟩ := x; exact p.lt
  | dK kvs => obtain ⟨_, _, _, _, o, _, _, e, _⟩ := x; exact Heap.lt_size e
  | dT kvs => obtain ⟨_, _, _, _, o, _, _, e, _⟩ := x; exact Heap.lt_size e
  | set S n => obtain ⟨o, _, _, _, e, _⟩ := x; exact Heap.lt_size e
  | ins C dx fs => obtain ⟨_, _, _, e, _⟩ := x; exact Heap.lt_size e
  | own y => obtain ⟨_, e⟩ := x; exact Heap.lt_size e
  | xd fs => obtain ⟨_, ⟨_, _, _, e, _⟩, _⟩ := x; exact Heap.lt_size e
  | rng lo hi => obtain ⟨_, _, _, e⟩ := x; exact Heap.lt_size e
  | frz ob u => obtain ⟨e, _⟩ := x; exact Heap.lt_size e
  | tbl ps => exact Heap.lt_size (show h.get? a = some _ from x)
  | met f y => exact Heap.lt_size (show h.get? a = some _ from x)
  | ext φ => obtain ⟨_, ⟨_, e⟩, _⟩ := x; exact Heap.lt_size e
theorem Paired.mapP {α β : Type} {F G : α -> β -> Prop} : ∀ {l₁ : List α} {l₂ : List β}, Paired F l₁ l₂ -> (∀ a b, F a b -> G a b) -> Paired G l₁ l₂
  | _, _, .nil, _ => .nil
  | _, _, .cons r t, f => .cons (f _ _ r) (Paired.mapP t f)
theorem Paired.imp' {α β : Type} {F G : α -> β -> Prop} (f : ∀ a b, F a b -> G a b) {l₁ : List α} {l₂ : List β} (r : Paired F l₁ l₂) : Paired G l₁ l₂ := Paired.mapP r f
theorem ObjOk.stay (x : ObjOk P w H h a o) (k : ∀ b u, (b = a \/ H b = some (.own a)) -> h.get? b = some u -> h'.get? b = some u)
    (ho : ∀ b, H b = some (.own a) -> H' b = some (.own a)) (ht : ∀ b xs, H b = some (.tup xs) -> H' b = some (.tup xs)) : ObjOk P w H' h' a o := by
  induction o with
  | lst xs => obtain ⟨z, its, n, r, e⟩ := x; exact ⟨z, its, n, r, k _ _ (.inl rfl) e⟩
  | tup xs => obtain ⟨z, its, r, ob, e, c⟩ := x; exact ⟨z, its, r, ob, k _ _ (.inl rfl) e, c⟩
  | dK kvs => obtain ⟨z, y, vs, r, ob, es, ep, e, c⟩ := x; exact ⟨z, y, vs, r, ob, es, ep, k _ _ (.inl rfl) e, c⟩
  | dT kvs =>
    obtain ⟨z, y, xs, r, ob, es, ep, e, c⟩ := x
    exact ⟨z, y, xs, Paired.mapP r fun p q z => ⟨z.1, ht _ _ z.2.1, z.2.2⟩, ob, es, ep, k _ _ (.inl rfl) e, c⟩
  | set S n => obtain ⟨ob, es, ep, t, e, c⟩ := x; exact ⟨ob, es, ep, t, k _ _ (.inl rfl) e, c⟩
  | ins C dx fs =>
    obtain ⟨d, z, ne, e, mA, ⟨od, es, ep, e2, c⟩, r⟩ := x
    exact ⟨ho _ d, z, ne, k _ _ (.inl rfl) e, mA, ⟨od, es, ep, k _ _ (.inr d) e2, c⟩, r⟩
  | own y => obtain ⟨ob, e⟩ := x; exact ⟨ob, k _ _ (.inl rfl) e⟩
  | xd fs => obtain ⟨mA, ⟨od, es, ep, e, c⟩, r⟩ := x; exact ⟨mA, ⟨od, es, ep, k _ _ (.inl rfl) e, c⟩, r⟩
  | rng lo hi => obtain ⟨t, u, v, e⟩ := x; exact ⟨t, u, v, k _ _ (.inl rfl) e⟩
  | frz ob u ih => obtain ⟨e, q⟩ := x; exact ⟨k _ _ (.inl rfl) e, ih q⟩
  | tbl ps =>
    have e : h.get? a = some { cls := .none, data := .fields ps } := x
    show h'.get? a = some { cls := .none, data := .fields ps }
    exact k a _ (.inl rfl) e
  | met f y =>
    have e : h.get? a = some (W.methodObj (.ref f) (.ref y)) := x
    show h'.get? a = some (W.methodObj (.ref f) (.ref y))
    exact k a _ (.inl rfl) e
  | ext φ => obtain ⟨p, ⟨o, e⟩, st⟩ := x; exact ⟨st _ _ p fun o q => k _ _ (.inl rfl) q, ⟨o, k _ _ (.inl rfl) e⟩, st⟩
theorem HOk.lt (x : HOk P w H h) (e : H a = some o) : a < h.objs.size := (x a o e).lt
theorem HOk.fresh (x : HOk P w H h) (e : h.objs.size <= a) : H a = none := by
  cases q : H a with
  | none => rfl
  | some u => exact absurd (Nat.lt_of_lt_of_le (x.lt q) e) (Nat.lt_irrefl _)
theorem HOk.kept (x : HOk P w H h) (k : ∀ b u, h.get? b = some u -> h'.get? b = some u) : HOk P w H h' := fun a o e =>
  (x a o e).stay (fun b u _ q => k b u q) (fun _ q => q) fun _ _ q => q
theorem HOk.laid (x : HOk P w H h) (k : ∀ b u, h.get? b = some u -> h'.get? b = some u) (hp : h.objs.size <= a) (new : ObjOk P w (upd H a o) h' a o) : HOk P w (upd H a o) h' := fun b u e => by
  have hn := x.fresh hp
  by_cases hb : b = a
  . subst hb; rw [upd_same] at e; cases e; exact new
  . rw [h8 hb] at e
    exact (x b u e).stay (fun c v _ q => k c v q) (fun c q => by rw [h8 (i7 q hn)]; exact q) fun c xs q => by rw [h8 (i7 q hn)]; exact q
end
def Rd (H : Hp) (a : Addr) (u : HO) : Prop := H a = some u \/ ∃ o, H a = some (.frz o u)
theorem Rd.ok {P : Program} {w : World} {H : Hp} {h : Heap} {a : Addr} {u : HO} (r : Rd H a u) (x : HOk P w H h) : ObjOk P w H h a u := by
  rcases r with r | ⟨o, r⟩
  . exact x a u r
  . obtain ⟨_, q⟩ := x a _ r
    exact q
def Mut : Option HO -> Prop
  | some (.lst _) => True
  | some (.dK _) => True
  | some (.dT _) => True
  | some (.set _ _) => True
  | some (.ins _ _ _) => True
  | some (.ext _) => True
  | _ => False
section
variable {P : Program} {w : World} {H : Hp} {h h' : Heap} {x e : Addr} {o' : HO}
theorem HOk.write (ok : HOk P w H h) (mu : Mut (H x)) (he : e = x \/ H e = some (.own x)) (k : ∀ b u, b ≠ e -> h.get? b = some u -> h'.get? b = some u) (heo : ∃ u, h'.get? e = some u)
    (new : ObjOk P w (upd H x o') h' x o') : HOk P w (upd H x o') h' := fun b u q => by
  have nown : ∀ c y, H c = some (.own y) -> c ≠ x := fun c y r z => by subst z; rw [r] at mu; exact mu
  have ntup : ∀ c xs, H c = some (.tup xs) -> c ≠ x := fun c xs r z => by subst z; rw [r] at mu; exact mu
  by_cases hb : b = x
  . subst hb; rw [upd_same] at q; cases q; exact new
  . rw [h8 hb] at q
    by_cases hbe : b = e
    . have q' : H b = some (.own x) := by
        rcases he with z | z
        . exact absurd (hbe.trans z) hb
        . rw [hbe]; exact z
      rw [q] at q'; cases q'
      obtain ⟨v, hv⟩ := heo
      exact ⟨v, by rw [hbe]; exact hv⟩
    . refine (ok b u q).stay (fun c v hc r => k c v ?_ r) (fun c r => by rw [h8 (nown c b r)]; exact r) fun c xs r => by rw [h8 (ntup c xs r)]; exact r
      rcases hc with rfl | hc
      . exact hbe
      . rintro rfl
        rcases he with z | z
        . exact nown c b hc z
        . rw [hc] at z; cases z; exact hb rfl
end
structure Un (fs ex : List Addr) (H H' : Hp) (h h' : Heap) : Prop where
  keep : ∀ b o, h.get? b = some o -> H b = none -> b ∉ fs -> b ∉ ex -> h'.get? b = some o
  slot : ∀ b o, h.get? b = some o -> H b = none -> b ∈ fs -> b ∉ ex -> ∃ sl, h'.get? b = some { o with slots := sl }
  free : ∀ b o, h.get? b = some o -> H b = none -> b ∉ ex -> H' b = none
  there : ∀ b o, h.get? b = some o -> b ∉ ex -> ∃ o', h'.get? b = some o'
  tups : ∀ b xs, H b = some (.tup xs) -> H' b = some (.tup xs)
  frzs : ∀ b o u, H b = some (.frz o u) -> H' b = some (.frz o u)
  tbls : ∀ b ps, H b = some (.tbl ps) -> ∃ more, H' b = some (.tbl (ps ++ more))
section
variable {fs fs' ex ex' : List Addr} {H H1 H2 : Hp} {h h1 h2 h' : Heap} {a x e : Addr} {o : HO}
theorem Un.any (u : Un fs ex H H1 h h1) {b : Addr} {ob : Obj} (q : h.get? b = some ob) (n : H b = none) (hx : b ∉ ex) : ∃ sl, h1.get? b = some { ob with slots := sl } := by
  by_cases hb : b ∈ fs
  . exact u.slot b ob q n hb hx
  . exact ⟨ob.slots, u.keep b ob q n hb hx⟩
theorem Un.kept (k : ∀ b u, h.get? b = some u -> h'.get? b = some u) : Un fs ex H H h h' :=
  ⟨fun b ob q _ _ _ => k b ob q, fun b ob q _ _ _ => ⟨ob.slots, k b ob q⟩, fun _ _ _ n _ => n, fun b ob q _ => ⟨ob, k b ob q⟩, fun _ _ q => q, fun _ _ _ q => q, fun _ ps q => ⟨#[], by rw [q]; simp⟩⟩
theorem Un.refl : Un fs ex H H h h := Un.kept fun _ _ q => q
theorem Un.laid (k : ∀ b u, h.get? b = some u -> h'.get? b = some u) (hp : h.objs.size <= a) (hn : H a = none) : Un fs ex H (upd H a o) h h' where
  keep := fun b u q _ _ _ => k b u q
  slot := fun b u q _ _ _ => ⟨u.slots, k b u q⟩
  free := fun b u q n _ => by rw [h8 (Nat.ne_of_lt (Nat.lt_of_lt_of_le (Heap.lt_size q) hp))]; exact n
  there := fun b u q _ => ⟨u, k b u q⟩
  tups := fun b xs q => by rw [h8 (i7 q hn)]; exact q
  frzs := fun b u xs q => by rw [h8 (i7 q hn)]; exact q
  tbls := fun b ps q => ⟨#[], by rw [h8 (i7 q hn), q]; simp⟩
theorem Un.write (mu : Mut (H x)) (he : e = x \/ H e = some (.own x)) (k : ∀ b u, b ≠ e -> h.get? b = some u -> h'.get? b = some u) (heo : ∃ u, h'.get? e = some u) : Un fs ex H (upd H x o) h h' := by
  have hx : ∀ b, H b = none -> b ≠ x := fun b n z => by subst z; rw [n] at mu; exact mu
  have hb : ∀ b, H b = none -> b ≠ e := fun b n z => by
    subst z
    rcases he with r | r
    . exact hx b n r
    . rw [n] at r; cases r
  have hm : ∀ b u, H b = some u -> ¬ Mut (some u) -> b ≠ x := fun b u q nm z => by subst z; rw [q] at mu; exact nm mu
  refine ⟨fun b u q n _ _ => k b u (hb b n) q, fun b u q n _ _ => ⟨u.slots, k b u (hb b n) q⟩, fun b u q n _ => by rw [h8 (hx b n)]; exact n, fun b u q _ => ?_,
    fun b xs q => by rw [h8 (hm b _ q fun z => z)]; exact q, fun b u xs q => by rw [h8 (hm b _ q fun z => z)]; exact q, fun b ps q => ⟨#[], by rw [h8 (hm b _ q fun z => z), q]; simp⟩⟩
  by_cases hbe : b = e
  . subst hbe; exact heo
  . exact ⟨u, k b u hbe q⟩
end
def trk (h : Heap) (H : Hp) : List Addr := (List.range h.objs.size).filter fun a => (H a).isSome
def a1v (h : Heap) (H : Hp) : Heap := W.hideAll h (trk h H)
theorem a5H (h : Heap) (H : Hp) : (a1v h H).objs.size = h.objs.size := W.hideAll_size _ _
theorem a6q {h : Heap} {H : Hp} {b : Addr} {o : Obj} (e : h.get? b = some o) (n : H b = none) : (a1v h H).get? b = some o :=
  W.hideAll_get _ e fun hm => by
    have q : (H b).isSome = true := (List.mem_filter.mp hm).2
    rw [n] at q; simp at q
theorem a8T {h : Heap} {H : Hp} {b : Addr} {o : Obj} (e : (a1v h H).get? b = some o) : h.get? b = some o /\ H b = none := by
  have e' : h.get? b = some o := W.of_hideAll (trk h H) e
  refine ⟨e', ?_⟩
  cases q : H b with
  | none => rfl
  | some x =>
    have hm : b ∈ trk h H := List.mem_filter.mpr ⟨List.mem_range.mpr (Heap.lt_size e'), by simp [q]⟩
    have z : (a1v h H).get? b = none := W.hideAll_none (trk h H) hm
    rw [z] at e; cases e
def a8E (g h : Heap) (L : Addr) : List (Addr × Obj) := (List.range h.objs.size).filterMap fun a => if a = L \/ (g.get? a).isSome = true then none else (h.get? a).map fun o => (a, o)
def rest (g h : Heap) (L d : Addr) : List (Addr × Obj) := (a8E g h L).filter fun p => decide (p.1 ≠ d)
end L2
namespace L2
open PySem PySem.Spec PyProof.Rows
structure Mod (K : W.Frag) (mg : Str -> Option Value) (base : Heap) : Prop where
  kin : K.In base
  glob : base.Ns mainGlobals mg
  blt : ∃ mb, base.Ns builtinsNs mb /\ ∀ x : Str, x ≠ "__name__" -> mb x = bootBuiltins x
  nolimit : base.NoLimit
structure Cx where
  prog : Program
  w : World
  K : W.Frag
  mg : Str -> Option Value
  base : Heap
  A : Around
  N : List Str
  s₀ : Shared
  H₀ : Hp
  env : Env
  outer : List Env
  stack : List Env
  ex : List Addr
  fn : Str -> Bool
  calm : Bool
  pn : List (Addr × Obj)
  xe : Value -> Shared -> Prop
def frs (l : List Env) : List Addr := l.filterMap (·.frame)
abbrev Cx.fs (X : Cx) : List Addr := frs X.outer
def Vis (sc : Scope) (x : Str) : Prop := sc.names.lookup x = some .local \/ sc.names.lookup x = some .cell \/ sc.names.lookup x = some .free
def Loc (sc : Scope) (x : Str) : Prop := sc.names.lookup x = some .local \/ sc.names.lookup x = some .cell
def b2C (env : Env) (h : Heap) (m : Str -> Option Value) (x : Str) (u : Value) : Prop :=
  (env.kindOf x = some .local /\ m x = some u) \/ ((env.kindOf x = some .cell \/ env.kindOf x = some .free) /\ ∃ c, env.cells.lookup x = some c /\ h.IsCell c (some u))
structure Cx.Ok (X : Cx) : Prop where
  mod : Mod X.K X.mg X.base
  kind : X.env.scope.kind = .function
  glob : X.env.globals = mainGlobals
  blt : X.env.builtins = builtinsNs
  above : X.s₀.heap.objs.size <= X.env.locals
  inj : ∀ x y c, X.env.cells.lookup x = some c -> X.env.cells.lookup y = some c -> x = y
  has : ∀ x, (X.env.kindOf x = some .cell \/ X.env.kindOf x = some .free) -> ∃ c, X.env.cells.lookup x = some c
  cab : ∀ x c, X.fn x = true -> X.env.cells.lookup x = some c -> X.s₀.heap.objs.size <= c
  hd : X.calm = true -> X.A.handled = none
  frames : X.A.frames = some X.stack
  stk : X.stack = X.outer \/ (X.stack = X.env :: X.outer /\ X.env.frame = some X.env.locals)
  exf : ∀ b ∈ X.ex, b ≠ X.env.locals /\ ∀ x c, X.env.cells.lookup x = some c -> c ≠ b
  bs : ∀ b o, X.base.get? b = some o -> X.s₀.heap.get? b = some o /\ X.H₀ b = none
  bsz : X.base.objs.size <= X.s₀.heap.objs.size
  noex : ∀ b o, X.base.get? b = some o -> b ∉ X.ex
  exfs : ∀ b ∈ X.ex, b ∉ X.fs
  funs : X.s₀.heap.FunFrames X.base X.outer
  frf : ∀ b ∈ X.fs, X.H₀ b = none
structure Inv (X : Cx) (pins : List (Addr × Obj)) (σ : List (Option V)) (H : Hp) (s : Shared) : Prop where
  ok : X.Ok
  os : s.os = X.s₀.os
  bare : AllBare s.gens
  base : Un X.fs X.ex X.H₀ H X.s₀.heap s.heap
  loc : ∃ m, s.heap.Ns X.env.locals m /\ ∀ (i : Nat) (x : Str) (v : V), X.N[i]? = some x -> σ[i]? = some (some v) -> Vis X.env.scope x -> ∃ u, RelV v u /\ b2C X.env s.heap m x u
  cell : ∀ x c, X.env.cells.lookup x = some c -> ∃ v, s.heap.IsCell c v
  free : H X.env.locals = none
  freeC : ∀ x c, X.env.cells.lookup x = some c -> H c = none
  pin : ∀ p ∈ X.pn ++ pins, s.heap.get? p.1 = some p.2 /\ H p.1 = none /\ p.1 ≠ X.env.locals /\ p.1 ∉ X.fs /\ ∀ v, p.2.data ≠ .cell v
  hok : HOk X.prog X.w H s.heap
  len : σ.length = X.N.length
section
variable {X : Cx} {pins : List (Addr × Obj)} {σ : List (Option V)} {H H' : Hp} {s : Shared} {h' : Heap}
theorem Cx.Ok.nofr (ok : X.Ok) {b : Addr} {o : Obj} (e : X.base.get? b = some o) : b ∉ X.fs := fun hb => by
  have := (ok.funs.mem hb).1
  rw [e] at this; cases this
theorem Inv.bs (I : Inv X pins σ H s) : ∀ b o, X.base.get? b = some o -> s.heap.get? b = some o /\ H b = none := fun b o e =>
  ⟨I.base.keep b o (I.ok.bs b o e).1 (I.ok.bs b o e).2 (I.ok.nofr e) (I.ok.noex b o e), I.base.free b o (I.ok.bs b o e).1 (I.ok.bs b o e).2 (I.ok.noex b o e)⟩
theorem Inv.bk (I : Inv X pins σ H s) : ∀ b o, X.base.get? b = some o -> s.heap.get? b = some o := fun b o e => (I.bs b o e).1
theorem Inv.mod (I : Inv X pins σ H s) : Mod X.K X.mg X.base := I.ok.mod
theorem Inv.kIn (I : Inv X pins σ H s) : X.K.In s.heap := I.ok.mod.kin.keeps I.bk
theorem Inv.nolimit (I : Inv X pins σ H s) : s.heap.NoLimit := I.ok.mod.nolimit.keeps I.bk
theorem Inv.fr (I : Inv X pins σ H s) : ∃ m, Fr X.base X.env.locals s.heap m :=
  let ⟨m, hn, _⟩ := I.loc
  ⟨m, hn, I.bk, Nat.le_trans I.ok.bsz I.ok.above⟩
theorem Inv.lt (I : Inv X pins σ H s) : X.env.locals < s.heap.objs.size := let ⟨_, hn, _⟩ := I.loc; hn.lt
theorem Inv.sz (I : Inv X pins σ H s) : X.s₀.heap.objs.size <= s.heap.objs.size := Nat.le_trans I.ok.above (Nat.le_of_lt I.lt)
theorem Inv.nofs (I : Inv X pins σ H s) {a : Addr} (h : s.heap.objs.size <= a) : a ∉ X.fs := fun hb => by
  obtain ⟨_, o, ho, _⟩ := I.ok.funs.mem hb
  exact absurd (Nat.lt_of_lt_of_le (Heap.lt_size ho) (Nat.le_trans I.sz h)) (Nat.lt_irrefl _)
theorem Inv.cne (I : Inv X pins σ H s) : ∀ x c, X.env.cells.lookup x = some c -> c ≠ X.env.locals := fun x c e z => by
  obtain ⟨v, o, ho, hd⟩ := I.cell x c e
  obtain ⟨m, ⟨o', es, ep, ho', hd', _⟩, _⟩ := I.loc
  rw [z, ho'] at ho; cases ho; rw [hd'] at hd; cases hd
theorem Inv.funs (I : Inv X pins σ H s) : s.heap.FunFrames X.base X.outer := by
  have all : ∀ (l : List Env), (∀ b ∈ frs l, b ∈ X.fs) -> X.s₀.heap.FunFrames X.base l -> s.heap.FunFrames X.base l := by
    intro l
    induction l with
    | nil => intro _ _; trivial
    | cons env r ih =>
      intro hs hl
      obtain ⟨hk, ⟨L, o, hf, hn, ho, hd⟩, hr⟩ := hl
      have hL : L ∈ X.fs := hs L (by unfold frs; rw [List.filterMap_cons, hf]; exact List.mem_cons_self)
      obtain ⟨sl, e⟩ := I.base.slot L o ho (I.ok.frf L hL) hL fun z => I.ok.exfs L z hL
      exact ⟨hk, ⟨L, _, hf, hn, e, hd⟩, ih (fun b hb => hs b (by unfold frs; rw [List.filterMap_cons, hf]; exact List.mem_cons_of_mem _ hb)) hr⟩
  exact all X.outer (fun _ hb => hb) I.ok.funs
theorem Inv.stack (I : Inv X pins σ H s) : s.heap.FunFrames X.base X.stack := by
  rcases I.ok.stk with e | ⟨e, hf⟩
  . rw [e]; exact I.funs
  . rw [e]
    obtain ⟨m, hn, _⟩ := I.loc
    refine .cons (by rw [I.ok.kind]; decide) hf hn ?_ I.funs
    exact Heap.get?_none_of_le (Nat.le_trans I.ok.bsz I.ok.above)
theorem Inv.stkSub (I : Inv X pins σ H s) : ∀ b ∈ frs X.stack, b ∈ X.env.locals :: X.fs := fun b hb => by
  rcases I.ok.stk with e | ⟨e, hf⟩
  . rw [e] at hb; exact List.mem_cons_of_mem _ hb
  . rw [e] at hb
    unfold frs at hb
    rw [List.filterMap_cons, hf] at hb
    exact hb
theorem Inv.stkFree (I : Inv X pins σ H s) : ∀ b ∈ frs X.stack, H b = none := fun b hb => by
  rcases List.mem_cons.mp (I.stkSub b hb) with e | hb
  . rw [e]; exact I.free
  . obtain ⟨_, o, ho, _⟩ := I.ok.funs.mem hb
    exact I.base.free b o ho (I.ok.frf b hb) fun z => I.ok.exfs b z hb
theorem Inv.step {g' : Array GenState} {t' : Nat} {d' : Drawn} {ch : List Addr} (I : Inv X pins σ H s)
    (hch : ∀ b ∈ ch, (b ∈ X.ex \/ X.s₀.heap.objs.size <= b) /\ b ≠ X.env.locals /\ (∀ x c, X.env.cells.lookup x = some c -> c ≠ b) /\ ∀ p ∈ X.pn ++ pins, p.1 ≠ b)
    (keep : ∀ b o, b ≠ X.env.locals -> b ∉ X.fs -> b ∉ ch -> s.heap.get? b = some o -> H b = none -> h'.get? b = some o)
    (slot : ∀ b o, b ≠ X.env.locals -> b ∈ X.fs -> b ∉ ch -> s.heap.get? b = some o -> H b = none -> ∃ sl, h'.get? b = some { o with slots := sl }) (free : ∀ b o, b ∉ ch -> s.heap.get? b = some o -> H b = none -> H' b = none)
    (there : ∀ b o, b ∉ ch -> s.heap.get? b = some o -> ∃ o', h'.get? b = some o')
    (tups : ∀ b xs, H b = some (.tup xs) -> H' b = some (.tup xs)) (frzs : ∀ b o u, H b = some (.frz o u) -> H' b = some (.frz o u)) (tbls : ∀ b ps, H b = some (.tbl ps) -> ∃ more, H' b = some (.tbl (ps ++ more)))
    (ns : ∀ m, s.heap.Ns X.env.locals m -> h'.Ns X.env.locals m) (hok : HOk X.prog X.w H' h') (hg : AllBare g') :
    Inv X pins σ H' { s with heap := h', gens := g', drawn := d', toks := t' } := by
  have neL : ∀ b o, X.s₀.heap.get? b = some o -> b ≠ X.env.locals := fun b o e => Nat.ne_of_lt (Nat.lt_of_lt_of_le (Heap.lt_size e) I.ok.above)
  have neC : ∀ b o, X.s₀.heap.get? b = some o -> b ∉ X.ex -> b ∉ ch := fun b o e hx hb => by
    rcases (hch b hb).1 with z | z
    . exact hx z
    . exact absurd (Nat.lt_of_lt_of_le (Heap.lt_size e) z) (Nat.lt_irrefl _)
  have cellK : ∀ x c, X.env.cells.lookup x = some c -> ∀ v, s.heap.IsCell c v -> h'.IsCell c v := fun x c e v ⟨o, ho, hd⟩ => by
    have nch : c ∉ ch := fun z => (hch c z).2.2.1 x c e rfl
    by_cases hc : c ∈ X.fs
    . obtain ⟨sl, q⟩ := slot c o (I.cne x c e) hc nch ho (I.freeC x c e)
      exact ⟨_, q, hd⟩
    . exact ⟨o, keep c o (I.cne x c e) hc nch ho (I.freeC x c e), hd⟩
  refine ⟨I.ok, I.os, hg, ⟨fun b o e n hb hx => ?_, fun b o e n hb hx => ?_, fun b o e n hx => ?_, fun b o e hx => ?_, fun b xs e => tups b xs (I.base.tups b xs e), fun b o xs e => frzs b o xs (I.base.frzs b o xs e), fun b ps e => ?_⟩, ?_, fun x c e => ?_, ?_, fun x c e => ?_, fun p hp => ?_, hok, I.len⟩
  . exact keep b o (neL b o e) hb (neC b o e hx) (I.base.keep b o e n hb hx) (I.base.free b o e n hx)
  . obtain ⟨sl, e1⟩ := I.base.slot b o e n hb hx
    obtain ⟨sl', e2⟩ := slot b _ (neL b o e) hb (neC b o e hx) e1 (I.base.free b o e n hx)
    exact ⟨sl', e2⟩
  . obtain ⟨o', e1⟩ := I.base.there b o e hx
    exact free b o' (neC b o e hx) e1 (I.base.free b o e n hx)
  . obtain ⟨o', e1⟩ := I.base.there b o e hx
    exact there b o' (neC b o e hx) e1
  . obtain ⟨m1, e1⟩ := I.base.tbls b ps e
    obtain ⟨m2, e2⟩ := tbls b _ e1
    exact ⟨m1 ++ m2, by rw [e2, Array.append_assoc]⟩
  . obtain ⟨m, hn, hl⟩ := I.loc
    refine ⟨m, ns m hn, fun i x v e1 e2 e3 => ?_⟩
    obtain ⟨u, r, l⟩ := hl i x v e1 e2 e3
    refine ⟨u, r, ?_⟩
    rcases l with l | ⟨k, c, e, z⟩
    . exact .inl l
    . exact .inr ⟨k, c, e, cellK x c e _ z⟩
  . obtain ⟨v, z⟩ := I.cell x c e
    exact ⟨v, cellK x c e v z⟩
  . obtain ⟨m, ⟨o, _, _, ho, _⟩, _⟩ := I.loc
    exact free _ o (fun z => (hch _ z).2.1 rfl) ho I.free
  . obtain ⟨v, o, ho, hd⟩ := I.cell x c e
    exact free c o (fun z => (hch c z).2.2.1 x c e rfl) ho (I.freeC x c e)
  . obtain ⟨e, n, ne, nf, d⟩ := I.pin p hp
    have nch : p.1 ∉ ch := fun z => (hch p.1 z).2.2.2 p hp rfl
    exact ⟨keep p.1 p.2 ne nf nch e n, free p.1 p.2 nch e n, ne, nf, d⟩
theorem Inv.un {t' : Nat} (I : Inv X pins σ H s) (u : Un X.fs [] H H' s.heap h') (hok : HOk X.prog X.w H' h') : Inv X pins σ H' { s with heap := h', toks := t' } := by
  obtain ⟨m, ⟨o, es, ep, ho, r⟩, _⟩ := id I.loc
  obtain ⟨sl, hL⟩ := u.any ho I.free (by simp)
  exact I.step (g' := s.gens) (d' := s.drawn) (ch := []) (fun _ z => nomatch z) (fun b o _ hb _ e n => u.keep b o e n hb (by simp)) (fun b o _ hb _ e n => u.slot b o e n hb (by simp)) (fun b o _ e n => u.free b o e n (by simp)) (fun b o _ e => u.there b o e (by simp)) u.tups u.frzs u.tbls (fun m' hm => by
    obtain ⟨o', es', ep', ho', r'⟩ := hm
    rw [ho] at ho'; cases ho'
    exact ⟨_, es', ep', hL, r'⟩) hok I.bare
theorem Inv.call {g' : Array GenState} {t' : Nat} {d' : Drawn} {ch : List Addr} (I : Inv X pins σ H s) (u : Un (frs X.stack) ch H H' s.heap h') (hok : HOk X.prog X.w H' h') (hg : AllBare g')
    (hch : ∀ b ∈ ch, (b ∈ X.ex \/ X.s₀.heap.objs.size <= b) /\ b ≠ X.env.locals /\ (∀ x c, X.env.cells.lookup x = some c -> c ≠ b) /\ ∀ p ∈ X.pn ++ pins, p.1 ≠ b) :
    Inv X pins σ H' { s with heap := h', gens := g', drawn := d', toks := t' } := by
  obtain ⟨m, ⟨o, es, ep, ho, r⟩, _⟩ := id I.loc
  obtain ⟨sl, hL⟩ := u.any ho I.free fun z => (hch _ z).2.1 rfl
  exact I.step (ch := ch) hch (fun b o hL hb hc e n => u.keep b o e n (fun z => (List.mem_cons.mp (I.stkSub b z)).elim hL hb) hc) (fun b o _ _ hc e n => u.any e n hc) (fun b o hc e n => u.free b o e n hc) (fun b o hc e => u.there b o e hc) u.tups u.frzs u.tbls (fun m' hm => by
    obtain ⟨o', es', ep', ho', r'⟩ := hm
    rw [ho] at ho'; cases ho'
    exact ⟨_, es', ep', hL, r'⟩) hok hg
theorem Inv.turned {t' : Nat} {it : Addr} (I : Inv X pins σ H s) (k : ∀ b o, b ≠ it -> s.heap.get? b = some o -> h'.get? b = some o) (hn : H it = none) (hL : it ≠ X.env.locals)
    (h1 : it ∈ X.ex \/ X.s₀.heap.objs.size <= it) (h2 : ∀ x c, X.env.cells.lookup x = some c -> c ≠ it) (h3 : ∀ p ∈ X.pn ++ pins, p.1 ≠ it) : Inv X pins σ H { s with heap := h', toks := t' } := by
  have nit : ∀ b u, H b = some u -> b ≠ it := fun b u e z => by rw [z, hn] at e; cases e
  refine I.step (g' := s.gens) (d' := s.drawn) (ch := [it]) (fun b hb => ?_) (fun b o _ _ hc e _ => k b o (fun z => hc (by simp [z])) e) (fun b o _ _ hc e _ => ⟨o.slots, k b o (fun z => hc (by simp [z])) e⟩) (fun _ _ _ _ n => n)
    (fun b o hc e => ⟨o, k b o (fun z => hc (by simp [z])) e⟩) (fun _ _ e => e) (fun _ _ _ e => e) (fun b ps e => ⟨#[], by rw [e]; simp⟩) (fun m hm => ?_) (fun b u e => ?_) I.bare
  . have e : b = it := by simpa using hb
    subst e
    exact ⟨h1, hL, h2, h3⟩
  . obtain ⟨o, es, ep, ho, r⟩ := hm
    exact ⟨o, es, ep, k _ o (Ne.symm hL) ho, r⟩
  . refine (I.hok b u e).stay (fun c v hc q => k c v ?_ q) (fun _ q => q) fun _ _ q => q
    rcases hc with z | z
    . rw [z]; exact nit b u e
    . exact nit c _ z
theorem Inv.tok (I : Inv X pins σ H s) (t : Nat) : Inv X pins σ H { s with toks := t } := I.un (h' := s.heap) (t' := t) Un.refl I.hok
theorem Inv.kept {t' : Nat} (I : Inv X pins σ H s) (k : ∀ b u, s.heap.get? b = some u -> h'.get? b = some u) : Inv X pins σ H { s with heap := h', toks := t' } := I.un (Un.kept k) (I.hok.kept k)
theorem Inv.laid {a : Addr} {o : HO} {t' : Nat} (I : Inv X pins σ H s) (k : ∀ b u, s.heap.get? b = some u -> h'.get? b = some u) (hp : s.heap.objs.size <= a) (new : ObjOk X.prog X.w (upd H a o) h' a o) :
    Inv X pins σ (upd H a o) { s with heap := h', toks := t' } := I.un (Un.laid k hp (I.hok.fresh hp)) (I.hok.laid k hp new)
theorem Inv.write {x e : Addr} {o : HO} {t' : Nat} (I : Inv X pins σ H s) (mu : Mut (H x)) (he : e = x \/ H e = some (.own x)) (k : ∀ b u, b ≠ e -> s.heap.get? b = some u -> h'.get? b = some u) (heo : ∃ u, h'.get? e = some u)
    (new : ObjOk X.prog X.w (upd H x o) h' x o) : Inv X pins σ (upd H x o) { s with heap := h', toks := t' } := I.un (Un.write mu he k heo) (I.hok.write mu he k heo new)
theorem Inv.weak {σ' : List (Option V)} (I : Inv X pins σ H s) (hl : σ'.length = σ.length) (w : ∀ (i : Nat) v, σ'[i]? = some (some v) -> σ[i]? = some (some v)) : Inv X pins σ' H s :=
  ⟨I.ok, I.os, I.bare, I.base, let ⟨m, hn, hl'⟩ := I.loc; ⟨m, hn, fun i x v e1 e2 e3 => hl' i x v e1 (w i v e2) e3⟩, I.cell, I.free, I.freeC, I.pin, I.hok, hl.trans I.len⟩
theorem Inv.pins_of {pins' : List (Addr × Obj)} (I : Inv X pins σ H s) (h : ∀ p ∈ pins', s.heap.get? p.1 = some p.2 /\ H p.1 = none /\ p.1 ≠ X.env.locals /\ p.1 ∉ X.fs /\ ∀ v, p.2.data ≠ .cell v) : Inv X pins' σ H s :=
  ⟨I.ok, I.os, I.bare, I.base, I.loc, I.cell, I.free, I.freeC, fun p hp => (List.mem_append.mp hp).elim (fun z => I.pin p (List.mem_append_left _ z)) (h p), I.hok, I.len⟩
theorem a0S {N : List Str} (hN : N.Nodup) {i j : Nat} {x : Str} (a : N[i]? = some x) (b : N[j]? = some x) : i = j := by
  obtain ⟨h1, e1⟩ := List.getElem?_eq_some_iff.mp a
  obtain ⟨h2, e2⟩ := List.getElem?_eq_some_iff.mp b
  exact (List.getElem_inj hN).mp (e1.trans e2.symm)
theorem a0k {M : Model} {A : Around} {E : Value -> Shared -> Prop} {i : Nat} {x : Str} {v : V} {u : Value} {Q : Unit -> Shared -> Prop} (I : Inv X pins σ H s) (hN : X.N.Nodup) (hi : X.N[i]? = some x) (hx : Loc X.env.scope x) (r : RelV v u)
    (h : ∀ s', Inv X pins (σ.set i (some v)) H s' -> (∃ a, Heap.SameBut a s.heap s'.heap /\ (a = X.env.locals \/ X.env.cells.lookup x = some a)) -> Q () s') (hf : X.fn x = true \/ X.env.scope.names.lookup x = some .local := by first | exact .inl rfl | exact .inr rfl | assumption) : wpAny M A (storeName X.env x u) Q E s := by
  obtain ⟨m, hn, hl⟩ := id I.loc
  have hcls : (X.env.scope.kind == .class || (X.env.scope.kind == .module && X.env.locals != X.env.globals)) = false := by rw [I.ok.kind]; rfl
  have hiσ : i < σ.length := by rw [I.len]; exact (List.getElem?_eq_some_iff.mp hi).1
  have cne := I.cne
  have tracked : ∀ {a : Addr} {h' : Heap}, (∃ o, s.heap.get? a = some o /\ H a = none) -> Heap.SameBut a s.heap h' -> HOk X.prog X.w H h' := fun {a h'} ha hs b ob e => by
    obtain ⟨_, _, hfree⟩ := ha
    refine (I.hok b ob e).stay (fun c w' hc q => (hs.2 c ?_).trans q) (fun _ q => q) fun _ _ q => q
    rintro rfl
    rcases hc with rfl | hc
    . rw [hfree] at e; cases e
    . rw [hfree] at hc; cases hc
  rcases hx with hk | hk
  . refine wpAny_storeName_local hk hn (fun h' hn' hs => ?_) hcls
    obtain ⟨oL, _, _, hoL, _⟩ := id hn
    refine h _ ⟨I.ok, I.os, I.bare, ⟨fun b o e n hb hx => ?_, fun b o e n hb hx => ?_, I.base.free, fun b o e hx => ?_, I.base.tups, I.base.frzs, I.base.tbls⟩, ⟨_, hn', fun j y v' e1 e2 e3 => ?_⟩, fun y c e => ?_, I.free, I.freeC, fun p hp => ?_, tracked ⟨oL, hoL, I.free⟩ hs, by simpa using I.len⟩ ⟨_, hs, .inl rfl⟩
    . exact (hs.2 b (Nat.ne_of_lt (Nat.lt_of_lt_of_le (Heap.lt_size e) I.ok.above))).trans (I.base.keep b o e n hb hx)
    . obtain ⟨sl, e1⟩ := I.base.slot b o e n hb hx
      exact ⟨sl, (hs.2 b (Nat.ne_of_lt (Nat.lt_of_lt_of_le (Heap.lt_size e) I.ok.above))).trans e1⟩
    . obtain ⟨o', e1⟩ := I.base.there b o e hx
      exact ⟨o', (hs.2 b (Nat.ne_of_lt (Nat.lt_of_lt_of_le (Heap.lt_size e) I.ok.above))).trans e1⟩
    . by_cases hj : j = i
      . subst hj
        rw [hi] at e1; cases e1
        rw [List.getElem?_set_self hiσ] at e2
        cases e2
        exact ⟨u, r, .inl ⟨hk, by simp⟩⟩
      . rw [List.getElem?_set_ne (Ne.symm hj)] at e2
        obtain ⟨u', r', q⟩ := hl j y v' e1 e2 e3
        refine ⟨u', r', ?_⟩
        rcases q with ⟨k, e⟩ | ⟨k, c, e, z⟩
        . refine .inl ⟨k, ?_⟩
          have : y ≠ x := fun e => hj (a0S hN e1 (e ▸ hi))
          simp [this, e]
        . exact .inr ⟨k, c, e, z.sameBut hs (cne y c e)⟩
    . obtain ⟨w', z⟩ := I.cell y c e
      exact ⟨w', z.sameBut hs (cne y c e)⟩
    . obtain ⟨e, n, ne, nf, d⟩ := I.pin p hp
      exact ⟨(hs.2 p.1 ne).trans e, n, ne, nf, d⟩
  . have hfn : X.fn x = true := by
      rcases hf with z | z
      . exact z
      . rw [z] at hk; cases hk
    obtain ⟨c, hc⟩ := I.ok.has x (.inl hk)
    obtain ⟨w', z⟩ := I.cell x c hc
    refine wpAny_storeName_cell I.ok.kind hk hc z (fun h' hc' hs => ?_)
    obtain ⟨oc, hoc, hocd⟩ := id z
    refine h { s with heap := h' } ⟨I.ok, I.os, I.bare, ⟨fun b o e n hb hx => ?_, fun b o e n hb hx => ?_, I.base.free, fun b o e hx => ?_, I.base.tups, I.base.frzs, I.base.tbls⟩, ⟨m, hn.sameBut hs (Ne.symm (cne x c hc)), fun j y v' e1 e2 e3 => ?_⟩, fun y c' e => ?_, I.free, I.freeC, fun p hp => ?_, tracked ⟨oc, hoc, I.freeC x c hc⟩ hs, by simpa using I.len⟩ ⟨c, hs, .inr hc⟩
    . exact (hs.2 b (Nat.ne_of_lt (Nat.lt_of_lt_of_le (Heap.lt_size e) (I.ok.cab x c hfn hc)))).trans (I.base.keep b o e n hb hx)
    . obtain ⟨sl, e1⟩ := I.base.slot b o e n hb hx
      exact ⟨sl, (hs.2 b (Nat.ne_of_lt (Nat.lt_of_lt_of_le (Heap.lt_size e) (I.ok.cab x c hfn hc)))).trans e1⟩
    . obtain ⟨o', e1⟩ := I.base.there b o e hx
      exact ⟨o', (hs.2 b (Nat.ne_of_lt (Nat.lt_of_lt_of_le (Heap.lt_size e) (I.ok.cab x c hfn hc)))).trans e1⟩
    . by_cases hj : j = i
      . subst hj
        rw [hi] at e1; cases e1
        rw [List.getElem?_set_self hiσ] at e2
        cases e2
        exact ⟨u, r, .inr ⟨.inl hk, c, hc, hc'⟩⟩
      . rw [List.getElem?_set_ne (Ne.symm hj)] at e2
        obtain ⟨u', r', q⟩ := hl j y v' e1 e2 e3
        refine ⟨u', r', ?_⟩
        rcases q with q | ⟨k, c', e, z'⟩
        . exact .inl q
        . refine .inr ⟨k, c', e, z'.sameBut hs ?_⟩
          rintro rfl
          exact hj (a0S hN e1 (I.ok.inj _ _ _ e hc ▸ hi))
    . by_cases hcc : c' = c
      . subst hcc; exact ⟨_, hc'⟩
      . obtain ⟨w2, z2⟩ := I.cell y c' e
        exact ⟨w2, z2.sameBut hs hcc⟩
    . obtain ⟨e, n, ne, nf, d⟩ := I.pin p hp
      refine ⟨(hs.2 p.1 ?_).trans e, n, ne, nf, d⟩
      intro q
      rw [q, hoc] at e
      have q' : oc = p.2 := Option.some.inj e
      exact d w' (by rw [<- q']; exact hocd)
theorem R9 {M : Model} {A : Around} {E : Value -> Shared -> Prop} {i : Nat} {x : Str} {v : V} {u : Value} {Q : Unit -> Shared -> Prop} (I : Inv X pins σ H s) (hN : X.N.Nodup) (hi : X.N[i]? = some x) (hx : Loc X.env.scope x) (r : RelV v u)
    (h : ∀ s', Inv X pins (σ.set i (some v)) H s' -> Q () s') (hf : X.fn x = true \/ X.env.scope.names.lookup x = some .local := by first | exact .inl rfl | exact .inr rfl | assumption) : wpAny M A (storeName X.env x u) Q E s :=
  a0k I hN hi hx r (fun s' I' _ => h s' I') hf
theorem Inv.call' {s' : Shared} {ch : List Addr} (I : Inv X pins σ H s) (ho : s'.os = s.os) (u : Un (frs X.stack) ch H H' s.heap s'.heap) (hok : HOk X.prog X.w H' s'.heap) (hg : AllBare s'.gens)
    (hch : ∀ b ∈ ch, (b ∈ X.ex \/ X.s₀.heap.objs.size <= b) /\ b ≠ X.env.locals /\ (∀ x c, X.env.cells.lookup x = some c -> c ≠ b) /\ ∀ p ∈ X.pn ++ pins, p.1 ≠ b) : Inv X pins σ H' s' := by
  obtain ⟨h', g', d', t', o'⟩ := s'
  have e : o' = s.os := ho
  subst e
  exact I.call (g' := g') (t' := t') (d' := d') u hok hg hch
end
abbrev XK := Value -> Option Addr -> Hp -> Prop
abbrev St := List (Option V)
abbrev VK := V -> Hp -> Prop
abbrev TE := St -> Hp -> VK -> Prop
abbrev TT := St -> Hp -> (Bool -> Hp -> Prop) -> Prop
abbrev TA := St -> Hp -> (List V -> Hp -> Prop) -> Prop
structure Ends where
  nx : St -> Hp -> Prop
  rt : VK
  bk : St -> Hp -> Prop := fun _ _ => False
  ct : St -> Hp -> Prop := fun _ _ => False
abbrev TS := Ends -> St -> Hp -> Prop
def EP (X : Cx) (pins : List (Addr × Obj)) (σ : St) (Q : VK) (u : Value) (s' : Shared) : Prop := ∃ v H', Inv X pins σ H' s' /\ RelV v u /\ Q v H'
def TP (X : Cx) (pins : List (Addr × Obj)) (σ : St) (Q : Bool -> Hp -> Prop) (b : Bool) (s' : Shared) : Prop := ∃ H', Inv X pins σ H' s' /\ Q b H'
def AP (X : Cx) (pins : List (Addr × Obj)) (σ : St) (Q : List V -> Hp -> Prop) (us : List Value) (s' : Shared) : Prop := ∃ vs H', Inv X pins σ H' s' /\ Vals vs us /\ Q vs H'
def SP (X : Cx) (pins : List (Addr × Obj)) (D : Ends) (f : Flow) (s' : Shared) : Prop :=
  match f with
  | .next => ∃ σ' H', Inv X pins σ' H' s' /\ D.nx σ' H'
  | .brk => ∃ σ' H', Inv X pins σ' H' s' /\ D.bk σ' H'
  | .cont => ∃ σ' H', Inv X pins σ' H' s' /\ D.ct σ' H'
  | .ret u => ∃ v σ' H', Inv X pins σ' H' s' /\ RelV v u /\ D.rt v H'
def PE (X : Cx) (e : Expr) (t : TE) : Prop :=
  ∀ (pins : List (Addr × Obj)) (s : Shared) (σ : St) (H : Hp) (Q : VK), Inv X pins σ H s -> t σ H Q -> wpAny (model X.prog X.w) X.A (eval e X.env) (EP X pins σ Q) X.xe s
def PT (X : Cx) (e : Expr) (t : TT) : Prop :=
  ∀ (pins : List (Addr × Obj)) (s : Shared) (σ : St) (H : Hp) (Q : Bool -> Hp -> Prop), Inv X pins σ H s -> t σ H Q -> wpAny (model X.prog X.w) X.A (isTrue e X.env (eval e X.env)) (TP X pins σ Q) X.xe s
def PW (X : Cx) (e : Expr) (t : TT) : Prop :=
  ∀ (whole : Sem Value) (pins : List (Addr × Obj)) (s : Shared) (σ : St) (H : Hp) (Q : Bool -> Hp -> Prop), Inv X pins σ H s -> t σ H Q -> wpAny (model X.prog X.w) X.A (isTrue e X.env whole) (TP X pins σ Q) X.xe s
theorem PW.pt {X : Cx} {e : Expr} {t : TT} (h : PW X e t) : PT X e t := h _
def PA (X : Cx) (es : List Expr) (t : TA) : Prop :=
  ∀ (pos : Pos) (pins : List (Addr × Obj)) (s : Shared) (σ : St) (H : Hp) (Q : List V -> Hp -> Prop), Inv X pins σ H s -> t σ H Q -> wpAny (model X.prog X.w) X.A (spliced (backTo pos (starEach es X.env))) (AP X pins σ Q) X.xe s
def PS (X : Cx) (st : Stmt) (t : TS) : Prop :=
  ∀ (pins : List (Addr × Obj)) (s : Shared) (σ : St) (H : Hp) (D : Ends), Inv X pins σ H s -> t D σ H -> wpAny (model X.prog X.w) X.A (exec st X.env) (SP X pins D) X.xe s
def PSs (X : Cx) (st : List Stmt) (t : TS) : Prop :=
  ∀ (pins : List (Addr × Obj)) (s : Shared) (σ : St) (H : Hp) (D : Ends), Inv X pins σ H s -> t D σ H -> wpAny (model X.prog X.w) X.A (execs st X.env) (SP X pins D) X.xe s
theorem C9 {α : Type} {t : Sem α} {Q Q' : α -> Shared -> Prop} {M : Model} {A : Around} {E : Value -> Shared -> Prop} {s : Shared} (h : wpAny M A t Q E s) (hQ : ∀ a s, Q a s -> Q' a s) : wpAny M A t Q' E s := wpAny_mono h hQ fun _ _ x => x
end L2
namespace L2
open PySem PySem.Spec PyProof.Rows
section
variable {X : Cx}
theorem bin {a b : Expr} {ta tb : TE} (ha : PE X a ta) (hb : PE X b tb) {pins : List (Addr × Obj)} {s : Shared} {σ : St} {H : Hp} {R : V -> V -> Hp -> Prop} (I : Inv X pins σ H s) (h : ta σ H fun x H1 => tb σ H1 fun y H2 => R x y H2)
    {α : Type} {Q : α -> Shared -> Prop} {f : Value -> Value -> Sem α}
    (hf : ∀ v u s2 x y H2, Inv X pins σ H2 s2 -> RelV x v -> RelV y u -> R x y H2 -> wpAny (model X.prog X.w) X.A (f v u) Q X.xe s2) :
    wpAny (model X.prog X.w) X.A (eval a X.env) (fun v s₁ => wpAny (model X.prog X.w) X.A (eval b X.env) (fun u s₂ => wpAny (model X.prog X.w) X.A (f v u) Q X.xe s₂) X.xe s₁) X.xe s := by
  refine C9 (ha pins s σ H _ I h) fun v s1 ⟨x, H1, I1, r1, q1⟩ => ?_
  refine C9 (hb pins s1 σ H1 _ I1 q1) fun u s2 ⟨y, H2, I2, r2, q2⟩ => ?_
  exact hf v u s2 x y H2 I2 r1 r2 q2
def a8B (i : Nat) : TE := fun σ H Q => ∃ v, σ[i]? = some (some v) /\ Q v H
def tC (v : V) : TE := fun _ H Q => Q v H
theorem b0f {i : Nat} {x : Str} {pos : Pos} (hN : X.N[i]? = some x) (hv : Vis X.env.scope x) (hd : (x == ("__debug__" : Str)) = false := by decide) (hcd : (x == ("__classdict__" : Str)) = false := by decide) : PE X (.Name x pos) (a8B i) := by
  intro pins s σ H Q I h
  obtain ⟨v, e, h⟩ := h
  obtain ⟨m, hn, hl⟩ := I.loc
  obtain ⟨u, r, l⟩ := hl i x v hN e hv
  have fin : EP X pins σ Q u s := ⟨v, H, I, r, h⟩
  rcases l with ⟨hk, hm⟩ | ⟨hk, c, hc, hcell⟩
  . exact wpAny_Name (wpAny_loadName_local I.ok.kind hk hn hm fin) hd
  . rcases hk with hk | hk
    . exact wpAny_Name (wpAny_loadName_cell I.ok.kind hk hc hcell fin) hd
    . exact wpAny_Name (wpAny_loadName_free I.ok.kind hk hc hcell fin hcd) hd
theorem c6 {i j pos} : PE X (.Constant (.int i) j pos) (tC (.int i)) := fun _ _ _ H _ I h => wpAny_Constant_int ⟨.int i, H, I.tok _, ⟨_, rfl⟩, h⟩
theorem a3Y {b j pos} : PE X (.Constant (.bool b) j pos) (tC (.bl b)) := fun _ _ _ H _ I h => Constant_bool ⟨.bl b, H, I, rfl, h⟩
theorem N3 {j pos} : PE X (.Constant .none j pos) (tC .non) := fun _ _ _ H _ I h => Constant_none ⟨.non, H, I, rfl, h⟩
theorem J7 {x j pos} : PE X (.Constant (.str x) j pos) (tC (.str x)) := fun _ _ _ H _ I h => Calls.Constant_str ⟨.str x, H, I.tok _, ⟨_, rfl⟩, h⟩
def Gl (X : Cx) (x : Str) : Prop := X.env.kindOf x = some .globalImplicit
theorem P6 {E : Value -> Shared -> Prop} {pins : List (Addr × Obj)} {s : Shared} {σ : St} {H : Hp} {x : Str} {u : Value} {pos : Pos} {Q : Value -> Shared -> Prop} (I : Inv X pins σ H s) (hg : Gl X x) (hm : X.mg x = some u) (h : Q u s)
    (hd : (x == ("__debug__" : Str)) = false := by decide) : wpAny (model X.prog X.w) X.A (eval (.Name x pos) X.env) Q E s :=
  Calls.Name_function_global I.ok.kind hg (Calls.loadGlobal_global (by rw [I.ok.glob]; exact I.mod.glob.keeps I.bk) hm h) hd
theorem X5 {E : Value -> Shared -> Prop} {pins : List (Addr × Obj)} {s : Shared} {σ : St} {H : Hp} {x : Str} {u : Value} {pos : Pos} {Q : Value -> Shared -> Prop} (I : Inv X pins σ H s) (hg : Gl X x) (hm : X.mg x = none) (hv : bootBuiltins x = some u) (h : Q u s)
    (hn : x ≠ "__name__" := by decide) (hd : (x == ("__debug__" : Str)) = false := by decide) : wpAny (model X.prog X.w) X.A (eval (.Name x pos) X.env) Q E s := by
  obtain ⟨mb, h1, h2⟩ := I.mod.blt
  exact Calls.Name_function_global I.ok.kind hg (Calls.loadGlobal_builtin (by rw [I.ok.glob]; exact I.mod.glob.keeps I.bk) hm (by rw [I.ok.blt]; exact h1.keeps I.bk) ((h2 x hn).trans hv) h) hd
theorem N8 {x : Str} {v : V} {u : Value} {pos : Pos} (hg : Gl X x) (hm : X.mg x = some u) (r : RelV v u) (hd : (x == ("__debug__" : Str)) = false := by decide) : PE X (.Name x pos) (tC v) :=
  fun _ _ _ H _ I h => P6 I hg hm ⟨v, H, I, r, h⟩ hd
theorem a0x {x : Str} {v : V} {u : Value} {pos : Pos} (hg : Gl X x) (hm : X.mg x = none) (hv : bootBuiltins x = some u) (r : RelV v u) (hn : x ≠ "__name__" := by decide) (hd : (x == ("__debug__" : Str)) = false := by decide) : PE X (.Name x pos) (tC v) :=
  fun _ _ _ H _ I h => X5 I hg hm hv ⟨v, H, I, r, h⟩ hn hd
variable {a b : Expr} {ta tb : TE} {pos : Pos}
def tB (t : TE) : TT := fun σ H Q => t σ H fun x H1 => ∃ c, x = .bl c /\ Q c H1
theorem Q1 {e : Expr} {t : TE} (h : PE X e t) (he : ∀ whole, isTrue e X.env whole = (do let v <- whole; standAt e.pos; holding [v] (truthy v)) := by intro _; rfl) : PT X e (tB t) := by
  intro pins s σ H Q I hw
  refine isTrue_plain (C9 (h pins s σ H _ I hw) fun v s1 ⟨x, H1, I1, r1, q1⟩ => ?_) (he _)
  obtain ⟨d, rfl, q⟩ := q1
  cases r1
  exact wpAny_truthy_bool ⟨H1, I1, q⟩
variable {tA tB' : TT} {rest : List Expr}
def b2R (t u : TT) : TT := fun σ H Q => t σ H fun c H1 => if c = true then u σ H1 Q else Q false H1
def tOr (t u : TT) : TT := fun σ H Q => t σ H fun c H1 => if c = true then Q true H1 else u σ H1 Q
def b2k (t : TT) : TT := fun σ H Q => t σ H fun c H1 => Q (!c) H1
theorem U8 (ha : PT X a tA) : PW X (.BoolOp .And [a] pos) tA := by
  intro wh pins s σ H Q I h
  refine isTrue_and (C9 (ha pins s σ H Q I h) fun c s1 e => ?_)
  cases c with
  | true => exact isTrue_and_nil e
  | false => exact e
theorem a2o (ha : PT X a tA) : PW X (.BoolOp .Or [a] pos) tA := by
  intro wh pins s σ H Q I h
  refine isTrue_or (C9 (ha pins s σ H Q I h) fun c s1 e => ?_)
  cases c with
  | false => exact isTrue_or_nil e
  | true => exact e
theorem Y9 (ha : PT X a tA) (hb : PW X (.BoolOp .And (b :: rest) pos) tB') : PW X (.BoolOp .And (a :: b :: rest) pos) (b2R tA tB') := by
  intro wh pins s σ H Q I h
  refine isTrue_and (C9 (ha pins s σ H _ I h) fun c s1 ⟨H1, I1, q1⟩ => ?_)
  cases c with
  | true => exact hb wh pins s1 σ H1 Q I1 q1
  | false => exact ⟨H1, I1, q1⟩
theorem a4H (ha : PT X a tA) (hb : PW X (.BoolOp .Or (b :: rest) pos) tB') : PW X (.BoolOp .Or (a :: b :: rest) pos) (tOr tA tB') := by
  intro wh pins s σ H Q I h
  refine isTrue_or (C9 (ha pins s σ H _ I h) fun c s1 ⟨H1, I1, q1⟩ => ?_)
  cases c with
  | true => exact ⟨H1, I1, q1⟩
  | false => exact hb wh pins s1 σ H1 Q I1 q1
theorem P5 (ha : PT X a tA) : PT X (.UnaryOp .Not a pos) (b2k tA) := by
  intro pins s σ H Q I h
  exact isTrue_not (ha pins s σ H (fun c H1 => Q (!c) H1) I h)
def b1b (ta tb : TE) : TE := fun σ H Q => ta σ H fun x H1 => ∃ c, x = .bl c /\ if c = true then tb σ H1 Q else Q (.bl false) H1
def b2E (ta tb : TE) : TE := fun σ H Q => ta σ H fun x H1 => ∃ c, x = .bl c /\ if c = true then Q (.bl true) H1 else tb σ H1 Q
def b0J (ta : TE) : TE := fun σ H Q => ta σ H fun x H1 => ∃ c, x = .bl c /\ Q (.bl (!c)) H1
theorem a0W {op} {t : TE} (h : PE X a t) : PE X (.BoolOp op [a] pos) t := fun pins s σ H Q I hw => BoolOp_one (h pins s σ H Q I hw)
theorem a2k (ha : PE X a ta) (hb : PE X (.BoolOp .And (b :: rest) pos) tb) : PE X (.BoolOp .And (a :: b :: rest) pos) (b1b ta tb) := by
  intro pins s σ H Q I h
  refine BoolOp_and (C9 (ha pins s σ H _ I h) fun v s1 ⟨x, H1, I1, r1, q1⟩ => ?_)
  obtain ⟨c, rfl, q1⟩ := q1
  cases r1
  refine wpAny_truthy_bool ?_
  cases c with
  | true => exact hb pins s1 σ H1 Q I1 q1
  | false => exact ⟨.bl false, H1, I1, rfl, q1⟩
theorem b0N (ha : PE X a ta) (hb : PE X (.BoolOp .Or (b :: rest) pos) tb) : PE X (.BoolOp .Or (a :: b :: rest) pos) (b2E ta tb) := by
  intro pins s σ H Q I h
  refine BoolOp_or (C9 (ha pins s σ H _ I h) fun v s1 ⟨x, H1, I1, r1, q1⟩ => ?_)
  obtain ⟨c, rfl, q1⟩ := q1
  cases r1
  refine wpAny_truthy_bool ?_
  cases c with
  | false => exact hb pins s1 σ H1 Q I1 q1
  | true => exact ⟨.bl true, H1, I1, rfl, q1⟩
theorem a7d (ha : PE X a ta) : PE X (.UnaryOp .Not a pos) (b0J ta) := by
  intro pins s σ H Q I h
  refine UnaryOp_ (C9 (ha pins s σ H _ I h) fun v s1 ⟨x, H1, I1, r1, q1⟩ => ?_)
  obtain ⟨c, rfl, q1⟩ := q1
  cases r1
  exact not_of (wpAny_truthy_bool ⟨.bl (!c), H1, I1, rfl, q1⟩)
end
end L2
namespace L2
open PySem PySem.Spec PyProof.Rows
def SqL (K : W.Frag) (H : Hp) (a : Addr) (xs : List V) : Prop :=
  Rd H a (.lst xs) ∨
    ∃ (o : Obj) (its : Array Value) (n : Nat), K.lookup a = some o /\ o.cls = .type "list" /\ o.dict = none /\ o.data = .seq its n /\ its.size <= sizeLine /\ Vals xs its.toList
def SqT (K : W.Frag) (H : Hp) (a : Addr) (xs : List V) : Prop :=
  Rd H a (.tup xs) ∨
    ∃ (o : Obj) (its : Array Value) (n : Nat), K.lookup a = some o /\ o.cls = .type "tuple" /\ o.data = .seq its n /\ its.size <= sizeLine /\ Vals xs its.toList
def b2J : Value -> Option V
  | .none => some .non
  | .bool b => some (.bl b)
  | .int i _ => some (.int i)
  | .str x _ => some (.str x)
  | .bytes b _ => some (.byt b)
  | .float b _ => some (.flt b)
  | .ref a => some (.ref a)
  | .type n => some (.ty n)
  | _ => none
theorem RelV.abs {x : V} {u : Value} (r : RelV x u) : b2J u = some x := by
  cases x with
  | non => cases r; rfl
  | bl _ => cases r; rfl
  | int _ => obtain ⟨t, rfl⟩ := r; rfl
  | str _ => obtain ⟨t, rfl⟩ := r; rfl
  | byt _ => obtain ⟨t, rfl⟩ := r; rfl
  | flt _ => obtain ⟨t, rfl⟩ := r; rfl
  | ref _ => cases r; rfl
  | ty _ => cases r; rfl
theorem RelV.inj {x y : V} {u : Value} (r : RelV x u) (q : RelV y u) : x = y := Option.some.inj (r.abs.symm.trans q.abs)
theorem Vals.inj : ∀ {xs ys : List V} {us : List Value}, Vals xs us -> Vals ys us -> xs = ys
  | _, _, _, .nil, .nil => rfl
  | _, _, _, .cons r t, .cons r' t' => by rw [r.inj r', Vals.inj t t']
section
variable {X : Cx} {pins : List (Addr × Obj)} {σ : St} {H : Hp} {s : Shared} {a : Addr} {xs ys : List V}
theorem SqL.of {K : W.Frag} (h : H a = some (.lst xs)) : SqL K H a xs := .inl (.inl h)
theorem SqT.of {K : W.Frag} (h : H a = some (.tup xs)) : SqT K H a xs := .inl (.inl h)
theorem Inv.list (I : Inv X pins σ H s) (h : SqL X.K H a xs) : ∃ its : List Value, Vals xs its /\ PlainL s.heap a its.toArray /\ xs.length <= sizeLine := by
  rcases h with h | ⟨o, its, n, hk, hc, hd, hs, hz, r⟩
  . obtain ⟨z, its, n, r, e⟩ := h.ok I.hok
    exact ⟨its, r, ⟨_, n, e, rfl, rfl, rfl⟩, z⟩
  . refine ⟨its.toList, r, ⟨o, n, I.kIn a o hk, hc, hd, by simpa using hs⟩, ?_⟩
    have e := r.length
    simp only [Array.length_toList] at e
    omega
theorem Inv.tuple (I : Inv X pins σ H s) (h : SqT X.K H a xs) : ∃ its : List Value, Vals xs its /\ IsTup s.heap a its.toArray /\ xs.length <= sizeLine := by
  rcases h with h | ⟨o, its, n, hk, hc, hs, hz, r⟩
  . obtain ⟨z, its, r, p⟩ := h.ok I.hok
    exact ⟨its, r, p, z⟩
  . refine ⟨its.toList, r, ⟨o, I.kIn a o hk, hc, n, by simpa using hs⟩, ?_⟩
    have e := r.length
    simp only [Array.length_toList] at e
    omega
theorem Inv.list_inj (I : Inv X pins σ H s) (h : SqL X.K H a xs) (h' : SqL X.K H a ys) : xs = ys := by
  obtain ⟨its, r, ⟨o, n, e, _, _, d⟩, _⟩ := I.list h
  obtain ⟨its', r', ⟨o', n', e', _, _, d'⟩, _⟩ := I.list h'
  rw [e] at e'; cases e'
  rw [d] at d'
  injection d' with d1 _
  have : its = its' := by simpa using congrArg Array.toList d1
  subst this
  exact r.inj r'
theorem Inv.tuple_inj (I : Inv X pins σ H s) (h : SqT X.K H a xs) (h' : SqT X.K H a ys) : xs = ys := by
  obtain ⟨its, r, ⟨o, e, _, n, d⟩, _⟩ := I.tuple h
  obtain ⟨its', r', ⟨o', e', _, n', d'⟩, _⟩ := I.tuple h'
  rw [e] at e'; cases e'
  rw [d] at d'
  injection d' with d1 _
  have : its = its' := by simpa using congrArg Array.toList d1
  subst this
  exact r.inj r'
end
abbrev Cx.wish (X : Cx) (E : Value -> Shared -> Prop) : Cx := { X with xe := E }
abbrev Cx.nox (X : Cx) : Cx := X.wish fun _ _ => False
theorem Cx.Ok.wish {X : Cx} (ok : X.Ok) (E : Value -> Shared -> Prop) : (X.wish E).Ok :=
  ⟨ok.mod, ok.kind, ok.glob, ok.blt, ok.above, ok.inj, ok.has, ok.cab, ok.hd, ok.frames, ok.stk, ok.exf, ok.bs, ok.bsz, ok.noex, ok.exfs, ok.funs, ok.frf⟩
theorem Cx.Ok.unwish {X : Cx} {E : Value -> Shared -> Prop} (ok : (X.wish E).Ok) : X.Ok :=
  ⟨ok.mod, ok.kind, ok.glob, ok.blt, ok.above, ok.inj, ok.has, ok.cab, ok.hd, ok.frames, ok.stk, ok.exf, ok.bs, ok.bsz, ok.noex, ok.exfs, ok.funs, ok.frf⟩
section
variable {X : Cx} {pins : List (Addr × Obj)} {σ : St} {H : Hp} {s : Shared} {E : Value -> Shared -> Prop}
theorem Inv.wish (I : Inv X pins σ H s) (E : Value -> Shared -> Prop) : Inv (X.wish E) pins σ H s := ⟨I.ok.wish E, I.os, I.bare, I.base, I.loc, I.cell, I.free, I.freeC, I.pin, I.hok, I.len⟩
theorem Inv.unwish (I : Inv (X.wish E) pins σ H s) : Inv X pins σ H s := ⟨I.ok.unwish, I.os, I.bare, I.base, I.loc, I.cell, I.free, I.freeC, I.pin, I.hok, I.len⟩
theorem SP.unwish {D : Ends} {f : Flow} {s' : Shared} (h : SP (X.wish E) pins D f s') : SP X pins D f s' := by
  cases f with
  | next => obtain ⟨σ', H', I, q⟩ := h; exact ⟨σ', H', I.unwish, q⟩
  | brk => obtain ⟨σ', H', I, q⟩ := h; exact ⟨σ', H', I.unwish, q⟩
  | cont => obtain ⟨σ', H', I, q⟩ := h; exact ⟨σ', H', I.unwish, q⟩
  | ret u => obtain ⟨v, σ', H', I, r, q⟩ := h; exact ⟨v, σ', H', I.unwish, r, q⟩
theorem PSs.nox {st : List Stmt} {t : TS} (h : PSs X.nox st t) : PSs X st t := fun pins s σ H D I hw =>
  wpAny_mono (h pins s σ H D (I.wish _) hw) (fun _ _ q => q.unwish) fun _ _ z => False.elim z
end
section
variable {X : Cx} {st : Stmt} {rest : List Stmt} {t u : TS} {e : Expr} {te : TE} {pos : Pos}
def b1n : TS := fun D σ H => D.nx σ H
def b1T (t u : TS) : TS := fun D σ H => t { D with nx := u D } σ H
theorem t0 : PSs X [] b1n := fun _ _ σ H _ I h => wpAny_execs_nil ⟨σ, H, I, h⟩
theorem j0 (h1 : PS X st t) (h2 : PSs X rest u) : PSs X (st :: rest) (b1T t u) := by
  intro pins s σ H D I h
  refine wpAny_execs_cons (C9 (h1 pins s σ H { D with nx := u D } I h) fun f s1 q => ?_)
  cases f with
  | next =>
    obtain ⟨σ', H', I', q⟩ := q
    exact h2 pins s1 σ' H' D I' q
  | ret v => exact q
  | brk => exact q
  | cont => exact q
theorem j4 (h1 : PS X st t) : PSs X [st] t := by
  intro pins s σ H D I h
  refine wpAny_execs_cons (C9 (h1 pins s σ H D I h) fun f s1 q => ?_)
  cases f with
  | next => exact wpAny_execs_nil q
  | ret v => exact q
  | brk => exact q
  | cont => exact q
theorem Inv.quiet {pins : List (Addr × Obj)} {σ : St} {H : Hp} {s : Shared} (I : Inv X pins σ H s) : interactive X.env = false := by simp [interactive, I.ok.kind]
def b1i (te : TE) : TS := fun D σ H => te σ H fun _ H1 => D.nx σ H1
theorem V3 (he : PE X e te) (hs : swapsWith e none pos.line X.env = pure false := by rfl) : PS X (.Expr e pos) (b1i te) := by
  intro pins s σ H D I h
  exact wpAny_Expr_any (C9 (he pins s σ H _ I h) fun v s1 ⟨x, H1, I1, r1, q1⟩ => ⟨σ, H1, I1, q1⟩) I.quiet hs
def b1W (te : TE) : TS := fun D σ H => te σ H D.rt
theorem t7 (he : PE X e te) : PS X (.Return (some e) pos) (b1W te) := by
  intro pins s σ H D I h
  exact wpAny_Return_some (C9 (he pins s σ H _ I h) fun v s1 ⟨x, H1, I1, r1, q1⟩ => ⟨x, σ, H1, I1, r1, q1⟩)
def b1Y (c : TT) (t u : TS) : TS := fun D σ H => c σ H fun b H1 => if b = true then t D σ H1 else u D σ H1
theorem A5 {c : Expr} {a b : List Stmt} {tc : TT} (hc : PT X c tc) (ha : PSs X a t) (hb : PSs X b u) : PS X (.If c a b pos) (b1Y tc t u) := by
  intro pins s σ H D I h
  refine wpAny_If (C9 (hc pins s σ H _ I h) fun d s1 ⟨H1, I1, q1⟩ => ?_)
  cases d with
  | true => exact ha pins s1 σ H1 D I1 q1
  | false => exact hb pins s1 σ H1 D I1 q1
def b0q : TS := fun _ _ _ => False
theorem a1G {sts : List Stmt} : PSs X sts b0q := fun _ _ _ _ _ _ h => h.elim
end
abbrev TG := V -> St -> Hp -> (St -> Hp -> Prop) -> Prop
abbrev TGs := List V -> St -> Hp -> (St -> Hp -> Prop) -> Prop
def PG (X : Cx) (target : Expr) (t : TG) : Prop :=
  ∀ (pins : List (Addr × Obj)) (s : Shared) (σ : St) (H : Hp) (v : V) (u : Value) (Q : St -> Hp -> Prop), Inv X pins σ H s -> RelV v u -> t v σ H Q →
    wpAny (model X.prog X.w) X.A (assign target X.env u) (fun _ s' => ∃ σ' H', Inv X pins σ' H' s' /\ Q σ' H') X.xe s
def PGs (X : Cx) (ts : List Expr) (t : TGs) : Prop :=
  ∀ (pins : List (Addr × Obj)) (s : Shared) (σ : St) (H : Hp) (vs : List V) (us : List Value) (Q : St -> Hp -> Prop), Inv X pins σ H s -> Vals vs us -> t vs σ H Q →
    wpAny (model X.prog X.w) X.A (assignInOrder ((assignEach ts X.env).map (·.2)) us) (fun _ s' => ∃ σ' H', Inv X pins σ' H' s' /\ Q σ' H') X.xe s
abbrev a9N := V -> V -> V -> Hp -> (Hp -> Prop) -> Prop
def b0V (X : Cx) (t : a9N) : Prop :=
  ∀ (pins : List (Addr × Obj)) (s : Shared) (σ : St) (H : Hp) (o i v : V) (ov iv u : Value) (Q : Hp -> Prop), Inv X pins σ H s -> RelV o ov -> RelV i iv -> RelV v u -> t o i v H Q →
    wpAny (model X.prog X.w) X.A (setItem ov iv u) (fun _ s' => ∃ H', Inv X pins σ H' s' /\ Q H') X.xe s
section
variable {X : Cx} {pos : Pos}
def Q8 (i : Nat) : TG := fun v σ H Q => Q (σ.set i (some v)) H
theorem m9 {i : Nat} {x : Str} (hN : X.N.Nodup) (hi : X.N[i]? = some x) (hx : Loc X.env.scope x) (hf : X.fn x = true \/ X.env.scope.names.lookup x = some .local := by first | exact .inl rfl | exact .inr rfl | assumption) : PG X (.Name x pos) (Q8 i) := by
  intro pins s σ H v u Q I r h
  exact wpAny_assign_Name (R9 I hN hi hx r (fun s' I' => ⟨_, H, I', h⟩) hf)
def a7O : TGs := fun vs σ H Q => vs = [] /\ Q σ H
def a1c (t : TG) (u : TGs) : TGs := fun vs σ H Q => ∃ v r, vs = v :: r /\ t v σ H fun σ' H' => u r σ' H' Q
theorem J4 : PGs X [] a7O := by
  intro pins s σ H vs us Q I r h
  obtain ⟨e, h⟩ := h
  subst e
  cases r
  exact assignInOrder_nil ⟨σ, H, I, h⟩
theorem v6 {e : Expr} {es : List Expr} {t : TG} {u : TGs} (h1 : PG X e t) (h2 : PGs X es u)
    (hs : (assignEach (e :: es) X.env).map (·.2) = assign e X.env :: (assignEach es X.env).map (·.2) := by rfl) : PGs X (e :: es) (a1c t u) := by
  intro pins s σ H vs us Q I r h
  obtain ⟨v, vr, e1, h⟩ := h
  subst e1
  cases r with
  | cons r rr =>
    rw [hs]
    refine assignInOrder_cons (C9 (h1 pins s σ H _ _ _ I r h) fun _ s1 ⟨σ1, H1, I1, q1⟩ => ?_)
    exact h2 pins s1 σ1 H1 _ _ Q I1 rr q1
def a7q (K : W.Frag) (n : Nat) (t : TGs) : TG := fun v σ H Q => ∃ a xs, v = .ref a /\ SqT K H a xs /\ xs.length = n /\ t xs σ H Q
theorem X4 {es : List Expr} {k : Nat} {t : TGs} {n : Nat} (hc : X.calm = true) (h : PGs X es t)
    (hn : (assignEach es X.env).length = n := by rfl) (hst : (assignEach es X.env).findIdx? (·.1) = none := by rfl) : PG X (.Tuple es k pos) (a7q X.K n t) := by
  intro pins s σ H v u Q I r hw
  obtain ⟨a, xs, e1, hq, hl, hw⟩ := hw
  subst e1
  cases r
  obtain ⟨its, rv, ht, hz⟩ := I.tuple hq
  refine assign_Tuple_tuple (I.ok.hd hc) ht (by simp [hn, <- hl, rv.length]) hst fun h' hx => ?_
  have I1 : Inv X pins σ H { s with heap := h' } := I.kept (t' := s.toks) fun b o e => hx b o (Nat.ne_of_lt (Heap.lt_size e)) e
  exact h pins _ σ H xs _ Q I1 (by simpa using rv) hw
def b2w (to ti : TE) (t : a9N) : TG := fun v σ H Q => to σ H fun o H1 => ti σ H1 fun i H2 => t o i v H2 fun H3 => Q σ H3
theorem O3 {o i : Expr} {to ti : TE} {t : a9N} (ho : PE X o to) (hi : PE X i ti) (hs : b0V X t)
    (ha : ∀ v, assign (.Subscript o i pos) X.env v = (do
      let ov <- holding [v] (eval o X.env)
      let iv <- holding [v, ov] (eval i X.env)
      standAt pos
      holding [v, ov, iv] (setItem ov iv v)
      release [v, ov, iv] []) := by intro _; rfl) : PG X (.Subscript o i pos) (b2w to ti t) := by
  intro pins s σ H v u Q I r h
  rw [ha]
  refine wpAny_bind (wpAny_holding (C9 (ho pins s σ H _ I h) fun ov s1 ⟨x, H1, I1, r1, q1⟩ => ?_))
  refine wpAny_bind (wpAny_holding (C9 (hi pins s1 σ H1 _ I1 q1) fun iv s2 ⟨y, H2, I2, r2, q2⟩ => ?_))
  refine wpAny_bind (wpAny_standAt (wpAny_bind (wpAny_holding (C9 (hs pins s2 σ H2 x y v ov iv u _ I2 r1 r2 r q2) fun _ s3 ⟨H3, I3, q3⟩ => ?_))))
  exact wpAny_release ⟨σ, H3, I3, q3⟩
def a5q (te : TE) (g : TG) : TS := fun D σ H => te σ H fun x H1 => g x σ H1 D.nx
theorem J3 {tg e : Expr} {te : TE} {g : TG} (he : PE X e te) (hg : PG X tg g) (hs : swapsWithSole [tg] e pos.line X.env = pure false := by rfl) (hw : swappedStores [tg] e X.env = pure none := by rfl)
    (h1 : (assignEach [tg] X.env).map (·.2) = [assign tg X.env] := by rfl) : PS X (.Assign [tg] e pos) (a5q te g) := by
  intro pins s σ H D I h
  refine wpAny_Assign_stores (C9 (he pins s σ H _ I h) fun v s1 ⟨x, H1, I1, r1, q1⟩ => ?_) hs hw
  rw [h1]
  exact C9 (hg pins s1 σ H1 x v _ I1 r1 q1) fun _ s2 q => q
theorem l0 {i : Nat} {x : Str} {e : Expr} {te : TE} {pos' : Pos} (hN : X.N.Nodup) (hi : X.N[i]? = some x) (hx : Loc X.env.scope x) (he : PE X e te) (hs : swapsWith e (some (.Name x pos')) pos.line X.env = pure false := by rfl) (hf : X.fn x = true \/ X.env.scope.names.lookup x = some .local := by first | exact .inl rfl | exact .inr rfl | assumption) :
    PS X (.Assign [.Name x pos'] e pos) (a5q te (Q8 i)) := by
  intro pins s σ H D I h
  refine wpAny_Assign_Name (C9 (he pins s σ H _ I h) fun v s1 ⟨y, H1, I1, r1, q1⟩ => ?_) hs
  exact R9 I1 hN hi hx r1 (fun s2 I2 => ⟨_, H1, I2, q1⟩) hf
def b2F (i j : Nat) (ta : TA) : TS := fun D σ H => ta σ H fun vs H1 => ∃ v w, vs = [v, w] /\ D.nx ((σ.set i (some v)).set j (some w)) H1
theorem a6P {i j : Nat} {x y : Str} {a b : Expr} {ta : TA} {px py pt : Pos} {kt k2 pt2} (hc : X.calm = true) (hN : X.N.Nodup) (hi : X.N[i]? = some x) (hj : X.N[j]? = some y) (hij : i ≠ j)
    (hx : X.env.scope.names.lookup x = some .local) (hy : X.env.scope.names.lookup y = some .local) (ha : PA X [a, b] ta)
    (hw : swappedStores [.Tuple [.Name x px, .Name y py] kt pt] (.Tuple [a, b] k2 pt2) X.env = pure (some [x, y]))
    (hs : swapsWithSole [.Tuple [.Name x px, .Name y py] kt pt] (.Tuple [a, b] k2 pt2) pos.line X.env = pure false := by rfl) :
    PS X (.Assign [.Tuple [.Name x px, .Name y py] kt pt] (.Tuple [a, b] k2 pt2) pos) (b2F i j ta) := by
  intro pins s σ H D I h
  rw [exec_Assign_arm]
  refine wpAny_bind (wpAny_standAt ?_)
  rw [hs]
  refine wpAny_bind (wpAny_pure ?_)
  rw [if_neg (by decide)]
  refine wpAny_bind (Tuple_ (C9 (ha _ pins s σ H _ I h) fun us s1 ⟨vs, H1, I1, r1, q1⟩ => ?_))
  obtain ⟨v, w, e1, q1⟩ := q1
  subst e1
  obtain ⟨u1, u2, rfl, rv, rw'⟩ : ∃ u1 u2, us = [u1, u2] /\ RelV v u1 /\ RelV w u2 := by
    cases r1 with
    | cons p q =>
      cases q with
      | cons p' q' =>
        cases q'
        exact ⟨_, _, rfl, p, p'⟩
  refine wpAny_newObj_type ?_ (by show 2 <= sizeLine; decide)
  have I2 : Inv X pins σ H1 { s1 with heap := s1.heap.push { cls := .type "tuple", data := .seq [u1, u2].toArray } } := I1.kept (t' := s1.toks) fun b o e => Heap.get?_push_of_some _ e
  rw [hw]
  refine wpAny_bind (wpAny_pure ?_)
  show wpAny (model X.prog X.w) X.A (do rule "assign.swapped-stores"; let items <- unpackItems (.ref s1.heap.objs.size) 2 none; assignInOrder [fun v => bindName X.env y v, fun v => bindName X.env x v] items.reverse; pure Flow.next) _ _ _
  refine wpAny_bind (wpAny_rule (wpAny_bind (unpackItems_tuple (items := #[u1, u2]) (I.ok.hd hc) (IsTup.new s1.heap _) fun h' hx' => ?_)))
  have I3 := I2.kept (h' := h') (t' := s1.toks) fun b o e => hx' b o (Nat.ne_of_lt (Heap.lt_size e)) e
  show wpAny _ _ (assignInOrder [fun v => bindName X.env y v, fun v => bindName X.env x v] [u2, u1] >>= fun _ => pure Flow.next) _ _ _
  refine wpAny_bind (assignInOrder_cons (wpAny_bindName (R9 I3 hN hj (.inl hy) rw' (fun s2 I4 => ?_) (.inr hy))))
  refine assignInOrder_cons (wpAny_bindName (R9 I4 hN hi (.inl hx) rv (fun s3 I5 => assignInOrder_nil (wpAny_pure ?_)) (.inr hx)))
  rw [List.set_comm _ _ (Ne.symm hij)] at I5
  exact ⟨_, H1, I5, q1⟩
end
section
variable {X : Cx} {pos : Pos}
def a6Z (c : TT) (tb : TS) : TS := fun D σ H => ∃ W : Nat -> St -> Hp -> Prop, (∃ m, W m σ H) /\ ∀ m σ H, W m σ H →
  c σ H fun b H1 => if b = true then ∃ N : St -> Hp -> Prop, (∀ σ' H', N σ' H' -> ∃ m', m' < m /\ W m' σ' H') /\ tb { D with nx := N, ct := N, bk := D.nx } σ H1 else D.nx σ H1
theorem a0E {c : Expr} {body : List Stmt} {tc : TT} {tb : TS} (hp : PassesOwn (model X.prog X.w) X.A X.env X.xe) (hc : PT X c tc) (hb : PSs X body tb) : PS X (.While c body [] pos) (a6Z tc tb) := by
  intro pins s σ H D I h
  obtain ⟨W, ⟨m0, w0⟩, turn⟩ := h
  refine wpAny_While (codeAny_whileLoop (fun n s' => ∃ σ' H', Inv X pins σ' H' s' /\ W n σ' H') ?_ m0 ⟨σ, H, I, w0⟩)
  rintro n s1 ⟨σ1, H1, I1, w1⟩
  refine wpAny_passesOwn hp (C9 (hc pins s1 σ1 H1 _ I1 (turn n σ1 H1 w1)) fun b s2 ⟨H2, I2, q2⟩ => ?_)
  cases b with
  | true =>
    obtain ⟨N, hN, q2⟩ := q2
    rw [if_pos rfl]
    refine wpAny_passesOwn hp (C9 (hb pins s2 σ1 H2 _ I2 q2) fun f s3 q3 => ?_)
    cases f with
    | next =>
      obtain ⟨σ3, H3, I3, n3⟩ := q3
      obtain ⟨m', hm, w3⟩ := hN σ3 H3 n3
      exact ⟨m', hm, σ3, H3, I3, w3⟩
    | cont =>
      obtain ⟨σ3, H3, I3, n3⟩ := q3
      obtain ⟨m', hm, w3⟩ := hN σ3 H3 n3
      exact ⟨m', hm, σ3, H3, I3, w3⟩
    | brk => exact q3
    | ret v => exact q3
  | false =>
    rw [if_neg Bool.false_ne_true]
    exact wpAny_execs_nil ⟨σ1, H2, I2, q2⟩
end
structure It where
  go : Nat -> Hp -> Prop
  yld : Nat -> Hp -> V -> Hp -> Prop
  stop : Nat -> Hp -> Prop
def Q7 (X : Cx) (pins : List (Addr × Obj)) (H : Hp) (b : Addr) : Prop :=
  H b = none /\ b ≠ X.env.locals /\ b ∉ X.fs /\ (b ∈ X.ex \/ X.s₀.heap.objs.size <= b) /\ (∀ x c, X.env.cells.lookup x = some c -> c ≠ b) /\ ∀ p ∈ X.pn ++ pins, p.1 ≠ b
theorem Inv.fpOk {X : Cx} {pins : List (Addr × Obj)} {σ : St} {H H' : Hp} {s : Shared} {b : Addr} (I : Inv X pins σ H s) (hb : s.heap.objs.size <= b) (hn : H' b = none) : Q7 X pins H' b := by
  refine ⟨hn, Nat.ne_of_gt (Nat.lt_of_lt_of_le I.lt hb), I.nofs hb, .inr (Nat.le_trans I.sz hb), fun x c e z => ?_, fun p hp z => ?_⟩
  . obtain ⟨v, q⟩ := I.cell x c e
    exact absurd (Nat.lt_of_lt_of_le q.lt (by rw [z]; exact hb)) (Nat.lt_irrefl _)
  . exact absurd (Nat.lt_of_lt_of_le (Heap.lt_size (I.pin p hp).1) (by rw [z]; exact hb)) (Nat.lt_irrefl _)
structure a5o (P : Program) (w : World) (K : W.Frag) (tg : Expr) (J : It) (fp : List Addr) (it : Addr) (tn : Nat -> Heap -> Prop) : Prop where
  mem : it ∈ fp
  obj : ∀ i h, tn i h -> ∀ b ∈ fp, ∃ o, h.get? b = some o /\ ∀ v, o.data ≠ .cell v
  keep : ∀ i h h', tn i h -> (∀ b ∈ fp, ∀ o, h.get? b = some o -> h'.get? b = some o) -> tn i h'
  item : ∀ (X : Cx), X.prog = P -> X.w = w -> X.K = K -> X.calm = true -> ∀ (i : Nat) (pins : List (Addr × Obj)) (s : Shared) (σ : St) (H : Hp) (E : Value -> Shared -> Prop), Inv X pins σ H s -> (∀ b ∈ fp, Q7 X pins H b) -> tn i s.heap -> J.go i H →
    wpAny (model P w) X.A (pyNext (.ref it)) (fun r s1 => ∃ u, r = some u ∧
      wpAny (model P w) X.A (letOwnedTupleGo tg (.ref it) u) (fun _ s2 => ∃ x H', Inv X pins σ H' s2 /\ RelV x u /\ J.yld i H x H' /\ tn (i + 1) s2.heap /\ ∀ b ∈ fp, H' b = none) E s1) E s
  done : ∀ (X : Cx), X.prog = P -> X.w = w -> X.K = K -> X.calm = true -> ∀ (i : Nat) (pins : List (Addr × Obj)) (s : Shared) (σ : St) (H : Hp) (E : Value -> Shared -> Prop), Inv X pins σ H s -> (∀ b ∈ fp, Q7 X pins H b) -> tn i s.heap -> J.stop i H →
    wpAny (model P w) X.A (pyNext (.ref it)) (fun r s1 => r = none /\ Inv X pins σ H s1) E s
  self : ∀ (A : Around) (i : Nat) (s : Shared) (Q : Value -> Shared -> Prop) (E : Value -> Shared -> Prop), tn i s.heap -> Q (.ref it) s -> wpAny (model P w) A (pyIter (.ref it)) Q E s
abbrev TI := St -> Hp -> (It -> Hp -> Prop) -> Prop
def PIE (X : Cx) (pins : List (Addr × Obj)) (σ : St) (tg : Expr) (R : It -> Hp -> Prop) (itv : Value) (s2 : Shared) : Prop :=
  ∃ (it : Addr) (fp : List Addr) (tn : Nat -> Heap -> Prop) (J : It) (H' : Hp), itv = .ref it /\ Inv X pins σ H' s2 /\ a5o X.prog X.w X.K tg J fp it tn /\ tn 0 s2.heap /\ (∀ b ∈ fp, Q7 X pins H' b) /\ R J H'
def PI (X : Cx) (tg iter : Expr) (wi : TI) : Prop :=
  ∀ (pins : List (Addr × Obj)) (s : Shared) (σ : St) (H : Hp) (R : It -> Hp -> Prop), Inv X pins σ H s -> wi σ H R →
    wpAny (model X.prog X.w) X.A (eval iter X.env) (fun v s1 => wpAny (model X.prog X.w) X.A (pyIter v) (PIE X pins σ tg R) X.xe s1) X.xe s
theorem a6t {M : Model} {A : Around} {E : Value -> Shared -> Prop} {s : Shared} {tg : Expr} {it : Addr} {u : Value} {o : Obj} {n : String} {vs : Array Value} {Q : Unit -> Shared -> Prop} (ho : s.heap.get? it = some o) (hc : o.cls = .type n) (hd : o.data = .fields vs)
    (hn : ["enumerate", "zip", "dict_itemiterator", "dict_reverseitemiterator", "odict_iterator", "itertools.zip_longest", "itertools.pairwise"].contains n = false) (hQ : Q () s) : wpAny M A (letOwnedTupleGo tg (.ref it) u) Q E s := by
  unfold letOwnedTupleGo
  cases tg <;> first
    | exact wpAny_pure hQ
    | (cases u <;> first
        | exact wpAny_pure hQ
        | (refine wpAny_bind (wpAny_load ho ?_)
           rw [hc, hd]
           show wpAny M A (if (["enumerate", "zip", "dict_itemiterator", "dict_reverseitemiterator", "odict_iterator", "itertools.zip_longest", "itertools.pairwise"].contains n && vs[0]? == some (rawInt _)) = true then _ else _) Q E s
           rw [if_neg (by intro h; rw [hn, Bool.false_and] at h; cases h)]
           exact wpAny_pure hQ))
def Itl (K : W.Frag) (a : Addr) : It :=
  ⟨fun i H => ∃ xs x, SqL K H a xs /\ xs[i]? = some x, fun i H x H' => H' = H /\ ∀ xs, SqL K H a xs -> xs[i]? = some x, fun i H => ∃ xs, SqL K H a xs /\ xs.length <= i⟩
def Itt (K : W.Frag) (a : Addr) : It :=
  ⟨fun i H => ∃ xs x, SqT K H a xs /\ xs[i]? = some x, fun i H x H' => H' = H /\ ∀ xs, SqT K H a xs -> xs[i]? = some x, fun i H => ∃ xs, SqT K H a xs /\ xs.length <= i⟩
def Itr (lo : Int) (n : Nat) : It := ⟨fun i _ => i < n, fun i H x H' => H' = H /\ x = .int (lo + i), fun i _ => n <= i⟩
theorem a5h {P : Program} {w : World} {K : W.Frag} {tg : Expr} (a it : Addr) : a5o P w K tg (Itl K a) [it] it (fun i h => h.IsListIter it a i) where
  mem := by simp
  obj := fun i h st b hb => by
    have e : b = it := by simpa using hb
    subst e
    obtain ⟨o, e, c, d⟩ := st
    exact ⟨o, e, fun v z => by rw [d] at z; cases z⟩
  keep := fun i h h' st k => st.at fun o e => k it (by simp) o e
  item := by
    intro X hP hw hK hc i pins s σ H E I hf st hg
    subst hP hw hK
    obtain ⟨xs, x, hq, hx⟩ := hg
    obtain ⟨its, rv, p, hz⟩ := I.list hq
    obtain ⟨u, hu, ru⟩ := rv.get hx
    obtain ⟨f0, f1, f2, f3, f4, f5⟩ := hf it (by simp)
    refine wpAny_pyNext_list_item st p.isList (x := u) (by simpa using hu) fun h' st' sb => ?_
    have I1 : Inv X pins σ H { s with heap := h' } := I.turned (t' := s.toks) (fun b o hb e => (sb.2 b hb).trans e) f0 f1 f3 f4 f5
    obtain ⟨o, e, c, d⟩ := id st'
    exact ⟨u, rfl, a6t (s := { s with heap := h' }) e c d (by decide) ⟨x, H, I1, ru, ⟨rfl, fun ys hy => by rw [I.list_inj hy hq]; exact hx⟩, st', fun b hb => (hf b hb).1⟩⟩
  done := by
    intro X hP hw hK hc i pins s σ H E I hf st hg
    subst hP hw hK
    obtain ⟨xs, hq, hx⟩ := hg
    obtain ⟨its, rv, p, hz⟩ := I.list hq
    obtain ⟨f0, f1, f2, f3, f4, f5⟩ := hf it (by simp)
    have hl := rv.length
    exact wpAny_pyNext_list_end (I.ok.hd hc) st p.isList (by simp; omega) fun h' eb => ⟨rfl, I.turned (t' := s.toks) (fun b o hb e => eb b o hb e) f0 f1 f3 f4 f5⟩
  self := fun _ _ _ _ _ st h => wpAny_pyIter_listiter st h
theorem a3V {P : Program} {w : World} {K : W.Frag} {tg : Expr} (a it : Addr) : a5o P w K tg (Itt K a) [it] it (fun i h => h.IsTupleIter it a i) where
  mem := by simp
  obj := fun i h st b hb => by
    have e : b = it := by simpa using hb
    subst e
    obtain ⟨o, e, c, d⟩ := st
    exact ⟨o, e, fun v z => by rw [d] at z; cases z⟩
  keep := fun i h h' st k => st.at fun o e => k it (by simp) o e
  item := by
    intro X hP hw hK hc i pins s σ H E I hf st hg
    subst hP hw hK
    obtain ⟨xs, x, hq, hx⟩ := hg
    obtain ⟨its, rv, p, hz⟩ := I.tuple hq
    obtain ⟨u, hu, ru⟩ := rv.get hx
    obtain ⟨f0, f1, f2, f3, f4, f5⟩ := hf it (by simp)
    refine wpAny_pyNext_tuple_item st (show s.heap.IsTuple a its.toArray from p) (x := u) (by simpa using hu) fun h' st' sb => ?_
    have I1 : Inv X pins σ H { s with heap := h' } := I.turned (t' := s.toks) (fun b o hb e => (sb.2 b hb).trans e) f0 f1 f3 f4 f5
    obtain ⟨o, e, c, d⟩ := id st'
    exact ⟨u, rfl, a6t (s := { s with heap := h' }) e c d (by decide) ⟨x, H, I1, ru, ⟨rfl, fun ys hy => by rw [I.tuple_inj hy hq]; exact hx⟩, st', fun b hb => (hf b hb).1⟩⟩
  done := by
    intro X hP hw hK hc i pins s σ H E I hf st hg
    subst hP hw hK
    obtain ⟨xs, hq, hx⟩ := hg
    obtain ⟨its, rv, p, hz⟩ := I.tuple hq
    obtain ⟨f0, f1, f2, f3, f4, f5⟩ := hf it (by simp)
    have hl := rv.length
    exact wpAny_pyNext_tuple_end (I.ok.hd hc) st (show s.heap.IsTuple a its.toArray from p) (by simp; omega) fun h' eb => ⟨rfl, I.turned (t' := s.toks) (fun b o hb e => eb b o hb e) f0 f1 f3 f4 f5⟩
  self := fun _ _ _ _ _ st h => wpAny_pyIter_tupleiter st h
theorem a3z {P : Program} {w : World} {K : W.Frag} {tg : Expr} (it : Addr) (lo : Int) (n : Nat) : a5o P w K tg (Itr lo n) [it] it (fun i h => IsRangeIter h it (lo + (i : Nat) * 1) ((n : Int) - (i : Nat)) 1) where
  mem := by simp
  obj := fun i h st b hb => by
    have e : b = it := by simpa using hb
    subst e
    exact ⟨_, st, fun v z => by
      have z' : Data.fields _ = Data.cell v := z
      cases z'⟩
  keep := fun i h h' st k => k it (by simp) _ st
  item := by
    intro X hP hw hK hc i pins s σ H E I hf st hg
    subst hP hw hK
    obtain ⟨f0, f1, f2, f3, f4, f5⟩ := hf it (by simp)
    have W := Walks.range (prog := X.prog) (w := X.w) (I.ok.hd hc) it lo 1 n
    refine W.item i s _ _ hg st fun v h' tk hv st' kk => ?_
    obtain ⟨t, rfl⟩ := hv
    have I1 : Inv X pins σ H { s with heap := h', toks := tk } := I.turned (fun b o hb e => kk b o (by simpa using hb) e) f0 f1 f3 f4 f5
    refine ⟨_, rfl, a6t (s := { s with heap := h', toks := tk }) (n := "range_iterator") st' rfl rfl (by decide) ⟨.int (lo + i), H, I1, ⟨t, ?_⟩, ⟨rfl, rfl⟩, st', fun b hb => (hf b hb).1⟩⟩
    rw [Int.mul_one]
  done := by
    intro X hP hw hK hc i pins s σ H E I hf st hg
    subst hP hw hK
    obtain ⟨f0, f1, f2, f3, f4, f5⟩ := hf it (by simp)
    exact wpAny_pyNext_range_end (I.ok.hd hc) st (by have : n <= i := hg; omega) fun h' eb => ⟨rfl, I.turned (t' := s.toks) (fun b o hb e => eb b o hb e) f0 f1 f3 f4 f5⟩
  self := fun _ _ _ _ _ st h => wpAny_pyIter_rangeiter st h
end L2
namespace L2
open PySem PySem.Spec PyProof.Rows
section
variable {X : Cx} {tg : Expr}
def b0K (K : W.Frag) (tl : TE) : TI := fun σ H R => tl σ H fun x H1 => ∃ a, x = .ref a /\ (∃ xs, SqL K H1 a xs) /\ R (Itl K a) H1
def b0B (K : W.Frag) (tl : TE) : TI := fun σ H R => tl σ H fun x H1 => ∃ a, x = .ref a /\ (∃ xs, SqT K H1 a xs) /\ R (Itt K a) H1
theorem G5 {l : Expr} {tl : TE} (hl : PE X l tl) : PI X tg l (b0K X.K tl) := by
  intro pins s σ H R I h
  refine C9 (hl pins s σ H _ I h) fun v s1 ⟨x, H1, I1, r1, q1⟩ => ?_
  obtain ⟨a, e, ⟨xs, hq⟩, q⟩ := q1
  subst e
  cases r1
  obtain ⟨its, rv, p, hz⟩ := I1.list hq
  refine wpAny_pyIter_list p.isList ?_
  refine ⟨s1.heap.objs.size, [s1.heap.objs.size], _, _, H1, rfl, I1.kept (t' := s1.toks) fun b o e => Heap.get?_push_of_some _ e, a5h a _, ⟨_, Heap.get?_push_size _ rfl, rfl, rfl⟩, fun b hb => ?_, q⟩
  have e : b = s1.heap.objs.size := by simpa using hb
  subst e
  exact I1.fpOk (Nat.le_refl _) (I1.hok.fresh (Nat.le_refl _))
theorem a0F {l : Expr} {tl : TE} (hl : PE X l tl) : PI X tg l (b0B X.K tl) := by
  intro pins s σ H R I h
  refine C9 (hl pins s σ H _ I h) fun v s1 ⟨x, H1, I1, r1, q1⟩ => ?_
  obtain ⟨a, e, ⟨xs, hq⟩, q⟩ := q1
  subst e
  cases r1
  obtain ⟨its, rv, p, hz⟩ := I1.tuple hq
  refine wpAny_pyIter_tuple (show s1.heap.IsTuple a its.toArray from p) ?_
  refine ⟨s1.heap.objs.size, [s1.heap.objs.size], _, _, H1, rfl, I1.kept (t' := s1.toks) fun b o e => Heap.get?_push_of_some _ e, a3V a _, ⟨_, Heap.get?_push_size _ rfl, rfl, rfl⟩, fun b hb => ?_, q⟩
  have e : b = s1.heap.objs.size := by simpa using hb
  subst e
  exact I1.fpOk (Nat.le_refl _) (I1.hok.fresh (Nat.le_refl _))
theorem a6T {pins : List (Addr × Obj)} {σ : St} {H : Hp} {s : Shared} {R : It -> Hp -> Prop} {E : Value -> Shared -> Prop} {lo hi : Int} {t u v : Tok} {tk : Nat} (I : Inv X pins σ H s) (h1 : -(2 ^ 62) <= lo) (h2 : lo < 2 ^ 62) (h3 : -(2 ^ 62) <= hi) (h4 : hi < 2 ^ 62)
    (q : R (Itr lo (hi - lo).toNat) H) : wpAny (model X.prog X.w) X.A (pyIter (.ref s.heap.objs.size)) (PIE X pins σ tg R) E { s with heap := s.heap.push { cls := .type "range", data := .fields #[.int lo t, .int hi u, .int 1 v] }, toks := tk } := by
  refine wpAny_pyIter_range (IsRange.new ..) (small_one h1 h2 h3 h4) ?_
  have I1 : Inv X pins σ H { s with heap := s.heap.push { cls := .type "range", data := .fields #[.int lo t, .int hi u, .int 1 v] }, toks := tk } := I.kept fun b o e => Heap.get?_push_of_some _ e
  refine ⟨(s.heap.push { cls := .type "range", data := .fields #[.int lo t, .int hi u, .int 1 v] }).objs.size, [(s.heap.push { cls := .type "range", data := .fields #[.int lo t, .int hi u, .int 1 v] }).objs.size], _, _, H, rfl,
    I1.kept (t' := tk) fun b o e => Heap.get?_push_of_some _ e, a3z _ lo (hi - lo).toNat, ?_, fun b hb => ?_, q⟩
  . have e1 : lo + ((0 : Nat) : Int) * 1 = lo := by simp
    have e2 : (((hi - lo).toNat : Nat) : Int) - ((0 : Nat) : Int) = Builtin.Range.rangeSize lo hi 1 := by rw [rangeSize_one]; split <;> omega
    show IsRangeIter _ _ (lo + ((0 : Nat) : Int) * 1) ((((hi - lo).toNat : Nat) : Int) - ((0 : Nat) : Int)) 1
    rw [e1, e2]
    exact Heap.get?_push_size _ rfl
  . have e : b = (s.heap.push { cls := .type "range", data := .fields #[.int lo t, .int hi u, .int 1 v] }).objs.size := by simpa using hb
    subst e
    exact I1.fpOk (Nat.le_refl _) (I1.hok.fresh (Nat.le_refl _))
def b0I (ta : TA) : TI := fun σ H R => ta σ H fun vs H1 => ∃ j : Int, vs = [.int j] /\ -(2 ^ 62) <= j /\ j < 2 ^ 62 /\ R (Itr 0 j.toNat) H1
theorem V2 {a : Expr} {ta : TA} {p pos : Pos} (hg : Gl X "range") (hm : X.mg "range" = none) (ha : PA X [a] ta) (hs : starEach [a] X.env = [(false, eval a X.env)] := by rfl) : PI X tg (.Call (.Name "range" p) [a] [] pos) (b0I ta) := by
  intro pins s σ H R I h
  refine Call_ (X5 I hg hm boot_range (PyProof.Rows.callWith_type1 (C9 (ha pos pins s σ H _ I h) fun us s1 ⟨vs, H1, I1, r1, q1⟩ => ?_) hs rfl))
  obtain ⟨j, e, q1, q2, q⟩ := q1
  subst e
  cases r1 with
  | cons r rr =>
    cases rr
    obtain ⟨t, rfl⟩ := r
    exact call_range_1 (a6T I1 (by omega) (by omega) q1 q2 (by simpa using q))
def b2u (wi : TI) (g : TG) (tb : TS) : TS := fun D σ H => wi σ H fun J H1 => ∃ W : Nat -> Nat -> St -> Hp -> Prop, (∃ m, W 0 m σ H1) /\ ∀ i m σ H, W i m σ H →
  (J.stop i H /\ D.nx σ H) \/ (J.go i H /\ ∃ N : St -> Hp -> Prop, (∀ σ' H', N σ' H' -> ∃ m', m' < m /\ W (i + 1) m' σ' H') /\ ∀ x H', J.yld i H x H' -> g x σ H' fun σ2 H2 => tb { D with nx := N, ct := N, bk := D.nx } σ2 H2)
def a1m (fp : List Addr) (h : Heap) : List (Addr × Obj) := fp.filterMap fun b => (h.get? b).map fun o => (b, o)
theorem P4 {fp : List Addr} {h : Heap} {b : Addr} {o : Obj} (hb : b ∈ fp) (e : h.get? b = some o) : (b, o) ∈ a1m fp h := List.mem_filterMap.mpr ⟨b, hb, by rw [e]; rfl⟩
theorem a5E {fp : List Addr} {h : Heap} {p : Addr × Obj} (hp : p ∈ a1m fp h) : p.1 ∈ fp /\ h.get? p.1 = some p.2 := by
  obtain ⟨b, hb, e⟩ := List.mem_filterMap.mp hp
  cases q : h.get? b with
  | none => rw [q] at e; cases e
  | some o =>
    rw [q] at e
    have e' : (b, o) = p := Option.some.inj e
    subst e'
    exact ⟨hb, q⟩
theorem Inv.pinned {pins : List (Addr × Obj)} {σ : St} {H : Hp} {s : Shared} {fp : List Addr} (I : Inv X pins σ H s) (hf : ∀ b ∈ fp, Q7 X pins H b) (ho : ∀ b ∈ fp, ∃ o, s.heap.get? b = some o /\ ∀ v, o.data ≠ .cell v) : Inv X (pins ++ a1m fp s.heap) σ H s :=
  I.pins_of fun p hp => (List.mem_append.mp hp).elim (fun z => I.pin p (List.mem_append_right _ z)) fun z => by
    obtain ⟨hb, e⟩ := a5E z
    obtain ⟨f0, f1, f2, _⟩ := hf p.1 hb
    obtain ⟨o, e', d⟩ := ho p.1 hb
    rw [e] at e'; cases e'
    exact ⟨e, f0, f1, f2, d⟩
theorem Inv.unpinned {pins pl : List (Addr × Obj)} {σ : St} {H : Hp} {s : Shared} (I : Inv X (pins ++ pl) σ H s) : Inv X pins σ H s := I.pins_of fun p hp => I.pin p (List.mem_append_right _ (List.mem_append_left _ hp))
theorem T0 {iter : Expr} {body : List Stmt} {wi : TI} {g : TG} {tb : TS} {pos : Pos} (hp : PassesOwn (model X.prog X.w) X.A X.env X.xe) (hc : X.calm = true) (hi : PI X tg iter wi) (hg : PG X tg g) (hb : PSs X body tb)
    (hs : ∀ x, foldedSetIterable iter X.env x = pure x := by intro _; rfl) : PS X (.For tg iter body [] pos) (b2u wi g tb) := by
  intro pins s σ H D I h
  refine wpAny_For (C9 (hi pins s σ H _ I h) fun v s1 h1 => C9 h1 fun itv s2 h2 => ?_) hs
  obtain ⟨it, fp, tn, J, H2, e, I2, T, st2, f2, W, ⟨m0, w0⟩, turn⟩ := h2
  subst e
  -- what stays true of the iterator's objects through the loop
  have stat : ∀ {H' : Hp}, (∀ b ∈ fp, H' b = none) -> ∀ b ∈ fp, Q7 X pins H' b := fun hn b hb => ⟨hn b hb, (f2 b hb).2⟩
  refine codeAny_forLoop_any (fun n s' => ∃ i σ' H', Inv X pins σ' H' s' /\ tn i s'.heap /\ (∀ b ∈ fp, H' b = none) /\ W i n σ' H') ?_ m0 ⟨0, σ, H2, I2, st2, fun b hb => (f2 b hb).1, w0⟩
  rintro n s3 ⟨i, σ3, H3, I3, st3, fr3, w3⟩
  rcases turn i n σ3 H3 w3 with ⟨stop, qn⟩ | ⟨go, N, hN, step⟩
  . refine wpAny_passesOwn hp (C9 (T.done X rfl rfl rfl hc i pins s3 σ3 H3 X.xe I3 (stat fr3) st3 stop) fun r s4 ⟨hr, I4⟩ => ?_)
    subst hr
    exact wpAny_execs_nil ⟨σ3, H3, I4, qn⟩
  . refine wpAny_passesOwn hp (C9 (T.item X rfl rfl rfl hc i pins s3 σ3 H3 X.xe I3 (stat fr3) st3 go) fun r s4 ⟨u, hr, h4⟩ => ?_)
    subst hr
    refine wpAny_passesOwn hp (C9 h4 fun _ s5 ⟨x, H5, I5, r5, y5, st5, fr5⟩ => ?_)
    have I5' := I5.pinned (stat fr5) (T.obj _ _ st5)
    refine wpAny_passesOwn hp (C9 (hg _ s5 σ3 H5 x u _ I5' r5 (step x H5 y5)) fun _ s6 ⟨σ6, H6, I6, q6⟩ => ?_)
    refine wpAny_passesOwn hp (C9 (hb _ s6 σ6 H6 _ I6 q6) fun f s7 q7 => ?_)
    have again : ∀ {σ7 : St} {H7 : Hp}, Inv X (pins ++ a1m fp s5.heap) σ7 H7 s7 -> N σ7 H7 -> ∃ m, m < n /\ ∃ i σ' H', Inv X pins σ' H' s7 /\ tn i s7.heap /\ (∀ b ∈ fp, H' b = none) /\ W i m σ' H' := fun {σ7 H7} I7 n7 => by
      obtain ⟨m', hm, w7⟩ := hN σ7 H7 n7
      refine ⟨m', hm, i + 1, σ7, H7, I7.unpinned, T.keep _ _ _ st5 fun b hb o e => (I7.pin (b, o) (List.mem_append_right _ (List.mem_append_right _ (P4 hb e)))).1, fun b hb => ?_, w7⟩
      obtain ⟨o, e, d⟩ := T.obj _ _ st5 b hb
      exact (I7.pin (b, o) (List.mem_append_right _ (List.mem_append_right _ (P4 hb e)))).2.1
    cases f with
    | next => obtain ⟨σ7, H7, I7, n7⟩ := q7; exact again I7 n7
    | cont => obtain ⟨σ7, H7, I7, n7⟩ := q7; exact again I7 n7
    | brk => obtain ⟨σ7, H7, I7, q7⟩ := q7; exact ⟨σ7, H7, I7.unpinned, q7⟩
    | ret v => obtain ⟨x7, σ7, H7, I7, r7, q7⟩ := q7; exact ⟨x7, σ7, H7, I7.unpinned, r7, q7⟩
end
theorem a1i {K : W.Frag} {a : Addr} {xs : List V} {g : TG} {tb : TS} {D : Ends} {σ : St} {H : Hp} (Pv : Nat -> St -> Hp -> Prop) (h0 : Pv 0 σ H) (hl : ∀ i σ H, i <= xs.length -> Pv i σ H -> SqL K H a xs)
    (hs : ∀ i x σ H, xs[i]? = some x -> Pv i σ H -> g x σ H fun σ2 H2 => tb { D with nx := Pv (i + 1), ct := Pv (i + 1), bk := D.nx } σ2 H2) (hd : ∀ σ H, Pv xs.length σ H -> D.nx σ H) :
    ∃ W : Nat -> Nat -> St -> Hp -> Prop, (∃ m, W 0 m σ H) /\ ∀ i m σ H, W i m σ H →
      ((Itl K a).stop i H /\ D.nx σ H) \/ ((Itl K a).go i H /\ ∃ N : St -> Hp -> Prop, (∀ σ' H', N σ' H' -> ∃ m', m' < m /\ W (i + 1) m' σ' H') /\ ∀ x H', (Itl K a).yld i H x H' -> g x σ H' fun σ2 H2 => tb { D with nx := N, ct := N, bk := D.nx } σ2 H2) := by
  refine ⟨fun i m σ H => m = xs.length - i /\ i <= xs.length /\ Pv i σ H, ⟨xs.length, by simp, Nat.zero_le _, h0⟩, ?_⟩
  rintro i m σ H ⟨rfl, hi, p⟩
  have q := hl i σ H hi p
  by_cases hlt : i < xs.length
  . refine .inr ⟨⟨xs, xs[i], q, by simp [hlt]⟩, Pv (i + 1), fun σ' H' p' => ⟨xs.length - (i + 1), by omega, rfl, hlt, p'⟩, fun x H' y => ?_⟩
    obtain ⟨e, y⟩ := y
    subst e
    exact hs i x σ _ (y xs q) p
  . have e : i = xs.length := by omega
    subst e
    exact .inl ⟨⟨xs, q, Nat.le_refl _⟩, hd σ H p⟩
theorem a0a {lo : Int} {n : Nat} {g : TG} {tb : TS} {D : Ends} {σ : St} {H : Hp} (Pv : Nat -> St -> Hp -> Prop) (h0 : Pv 0 σ H)
    (hs : ∀ i σ H, i < n -> Pv i σ H -> g (.int (lo + i)) σ H fun σ2 H2 => tb { D with nx := Pv (i + 1), ct := Pv (i + 1), bk := D.nx } σ2 H2) (hd : ∀ σ H, Pv n σ H -> D.nx σ H) :
    ∃ W : Nat -> Nat -> St -> Hp -> Prop, (∃ m, W 0 m σ H) /\ ∀ i m σ H, W i m σ H →
      ((Itr lo n).stop i H /\ D.nx σ H) \/ ((Itr lo n).go i H /\ ∃ N : St -> Hp -> Prop, (∀ σ' H', N σ' H' -> ∃ m', m' < m /\ W (i + 1) m' σ' H') /\ ∀ x H', (Itr lo n).yld i H x H' -> g x σ H' fun σ2 H2 => tb { D with nx := N, ct := N, bk := D.nx } σ2 H2) := by
  refine ⟨fun i m σ H => m = n - i /\ i <= n /\ Pv i σ H, ⟨n, by simp, Nat.zero_le _, h0⟩, ?_⟩
  rintro i m σ H ⟨rfl, hi, p⟩
  by_cases hlt : i < n
  . refine .inr ⟨hlt, Pv (i + 1), fun σ' H' p' => ⟨n - (i + 1), by omega, rfl, hlt, p'⟩, fun x H' y => ?_⟩
    obtain ⟨e, y⟩ := y
    subst e y
    exact hs i σ _ hlt p
  . have e : i = n := by omega
    subst e
    exact .inl ⟨Nat.le_refl _, hd σ H p⟩
theorem a3n {c : TT} {tb : TS} {D : Ends} {σ : St} {H : Hp} (Pv : St -> Hp -> Prop) (μ : St -> Hp -> Nat) (h0 : Pv σ H)
    (hs : ∀ σ H, Pv σ H -> c σ H fun b H1 => if b = true then tb { D with nx := fun σ' H' => Pv σ' H' /\ μ σ' H' < μ σ H, ct := fun σ' H' => Pv σ' H' /\ μ σ' H' < μ σ H, bk := D.nx } σ H1 else D.nx σ H1)
    (mono : ∀ σ H Q Q', (∀ b H1, Q b H1 -> Q' b H1) -> c σ H Q -> c σ H Q') : a6Z c tb D σ H := by
  refine ⟨fun m σ H => m = μ σ H /\ Pv σ H, ⟨_, rfl, h0⟩, ?_⟩
  rintro m σ H ⟨rfl, p⟩
  refine mono σ H _ _ (fun b H1 q => ?_) (hs σ H p)
  cases b with
  | true => exact ⟨_, fun σ' H' ⟨p', l⟩ => ⟨_, l, rfl, p'⟩, q⟩
  | false => exact q
end L2
namespace L2
open PySem PySem.Spec PyProof.Rows
abbrev R2 := V -> V -> Hp -> VK -> Prop
def X6 (X : Cx) (f : Value -> Value -> Sem Value) (r : R2) : Prop :=
  ∀ (pins : List (Addr × Obj)) (s : Shared) (σ : St) (H : Hp) (x y : V) (v u : Value) (Q : VK), Inv X pins σ H s -> RelV x v -> RelV y u -> r x y H Q →
    wpAny (model X.prog X.w) X.A (f v u) (EP X pins σ Q) X.xe s
def UnR (X : Cx) (f : Value -> Sem Value) (r : V -> Hp -> VK -> Prop) : Prop :=
  ∀ (pins : List (Addr × Obj)) (s : Shared) (σ : St) (H : Hp) (x : V) (v : Value) (Q : VK), Inv X pins σ H s -> RelV x v -> r x H Q →
    wpAny (model X.prog X.w) X.A (f v) (EP X pins σ Q) X.xe s
def M3 (X : Cx) (f : Value) (r : List V -> Hp -> VK -> Prop) : Prop :=
  ∀ (pins : List (Addr × Obj)) (s : Shared) (σ : St) (H : Hp) (xs : List V) (us : List Value) (Q : VK), Inv X pins σ H s -> Vals xs us -> r xs H Q →
    wpAny (model X.prog X.w) X.A (call f us) (EP X pins σ Q) X.xe s
def tOp (r : R2) (ta tb : TE) : TE := fun σ H Q => ta σ H fun x H1 => tb σ H1 fun y H2 => r x y H2 Q
def tUn (r : V -> Hp -> VK -> Prop) (ta : TE) : TE := fun σ H Q => ta σ H fun x H1 => r x H1 Q
def rI (C : Int -> Int -> Prop) (g : Int -> Int -> V) : R2 := fun x y H Q => ∃ i j, x = .int i /\ y = .int j /\ C i j /\ Q (g i j) H
def rI0 (g : Int -> Int -> V) : R2 := fun x y H Q => ∃ i j, x = .int i /\ y = .int j /\ Q (g i j) H
def rU (g : Int -> V) : V -> Hp -> VK -> Prop := fun x H Q => ∃ i, x = .int i /\ Q (g i) H
section
variable {X : Cx} {a b c : Expr} {ta tb tc : TE} {pos : Pos}
theorem b0g (ha : PE X a ta) (hb : PE X b tb) {pins : List (Addr × Obj)} {s : Shared} {σ : St} {H : Hp} {R : V -> V -> Hp -> Prop} (I : Inv X pins σ H s)
    (h : ta σ H fun x H1 => tb σ H1 fun y H2 => R x y H2) {Q : Value -> Shared -> Prop} {f : Value -> Value -> Sem Value}
    (hf : ∀ v u s2 x y H2, Inv X pins σ H2 s2 -> RelV x v -> RelV y u -> R x y H2 -> wpAny (model X.prog X.w) X.A (f v u) Q X.xe s2) :
    wpAny (model X.prog X.w) X.A (eval a X.env) (fun v s₁ => wpAny (model X.prog X.w) X.A (eval b X.env) (fun u s₂ => wpAny (model X.prog X.w) X.A (f v u) Q X.xe s₂) X.xe s₁) X.xe s := by
  refine C9 (ha pins s σ H _ I h) fun v s1 ⟨x, H1, I1, r1, q1⟩ => ?_
  refine C9 (hb pins s1 σ H1 _ I1 q1) fun u s2 ⟨y, H2, I2, r2, q2⟩ => ?_
  exact hf v u s2 x y H2 I2 r1 r2 q2
theorem j3 {op : Operator} {r : R2} (ho : X6 X (binaryOp op) r) (ha : PE X a ta) (hb : PE X b tb) : PE X (.BinOp a op b pos) (tOp r ta tb) := by
  intro pins s σ H Q I h
  exact wpAny_BinOp (b0g ha hb I h fun v u s2 x y H2 I2 rx ry q => ho pins s2 σ H2 x y v u Q I2 rx ry q)
theorem Q4 {op : UnaryOp} {r : V -> Hp -> VK -> Prop} (ho : UnR X (unaryOp op) r) (ha : PE X a ta) : PE X (.UnaryOp op a pos) (tUn r ta) := by
  intro pins s σ H Q I h
  exact UnaryOp_ (C9 (ha pins s σ H _ I h) fun v s1 ⟨x, H1, I1, r1, q1⟩ => ho pins s1 σ H1 x v Q I1 r1 q1)
theorem opI {f : Value -> Value -> Sem Value} {C : Int -> Int -> Prop} {g : Int -> Int -> Int}
    (rule : ∀ (i j : Int) (t u : Tok) (s : Shared) (Q : Value -> Shared -> Prop) (E : Value -> Shared -> Prop), C i j -> Q (.int (g i j) s.toks) { s with toks := s.toks + 1 } -> wpAny (model X.prog X.w) X.A (f (.int i t) (.int j u)) Q E s) :
    X6 X f (rI C fun i j => .int (g i j)) := by
  intro pins s σ H x y v u Q I rx ry h
  obtain ⟨i, j, rfl, rfl, hc, q⟩ := h
  obtain ⟨t, rfl⟩ := rx
  obtain ⟨t', rfl⟩ := ry
  exact rule i j t t' s _ _ hc ⟨.int (g i j), H, I.tok _, ⟨_, rfl⟩, q⟩
theorem b0L {f : Value -> Value -> Sem Value} {g : Int -> Int -> Int}
    (rule : ∀ (i j : Int) (t u : Tok) (s : Shared) (Q : Value -> Shared -> Prop) (E : Value -> Shared -> Prop), Q (.int (g i j) s.toks) { s with toks := s.toks + 1 } -> wpAny (model X.prog X.w) X.A (f (.int i t) (.int j u)) Q E s) :
    X6 X f (rI0 fun i j => .int (g i j)) := by
  intro pins s σ H x y v u Q I rx ry h
  obtain ⟨i, j, rfl, rfl, q⟩ := h
  obtain ⟨t, rfl⟩ := rx
  obtain ⟨t', rfl⟩ := ry
  exact rule i j t t' s _ _ ⟨.int (g i j), H, I.tok _, ⟨_, rfl⟩, q⟩
theorem a8h {f : Value -> Value -> Sem Value} {g : Int -> Int -> Bool}
    (rule : ∀ (i j : Int) (t u : Tok) (s : Shared) (Q : Value -> Shared -> Prop) (E : Value -> Shared -> Prop), Q (.bool (g i j)) s -> wpAny (model X.prog X.w) X.A (f (.int i t) (.int j u)) Q E s) :
    X6 X f (rI0 fun i j => .bl (g i j)) := by
  intro pins s σ H x y v u Q I rx ry h
  obtain ⟨i, j, rfl, rfl, q⟩ := h
  obtain ⟨t, rfl⟩ := rx
  obtain ⟨t', rfl⟩ := ry
  exact rule i j t t' s _ _ ⟨.bl (g i j), H, I, rfl, q⟩
def b1U (i j : Int) : Prop := 0 < j /\ j < 1073741824
def b2j (i j : Int) : Prop := 0 <= j /\ j <= 1000000 /\ i.natAbs < 2 ^ 64
def CMul (i j : Int) : Prop := (-(2 ^ 64) < i /\ i < 2 ^ 64) \/ (-(2 ^ 64) < j /\ j < 2 ^ 64)
theorem CMul.ok {i j : Int} (h : CMul i j) : IntMulOk i j := by
  rcases h with ⟨h1, h2⟩ | ⟨h1, h2⟩
  . exact .of_left (intBits_le_64 h1 h2)
  . exact .of_right (intBits_le_64 h1 h2)
theorem A4 : X6 X (binaryOp .Add) (rI0 fun i j => .int (i + j)) := b0L fun _ _ _ _ _ _ _ q => add_int q
theorem a3Q : X6 X (binaryOp .Sub) (rI0 fun i j => .int (i - j)) := b0L fun _ _ _ _ _ _ _ q => sub_int q
theorem P7 : X6 X (binaryOp .Mult) (rI CMul fun i j => .int (i * j)) := opI fun _ _ _ _ _ _ _ hc q => mul_int q hc.ok
theorem N7 : X6 X (binaryOp .FloorDiv) (rI b1U fun i j => .int (i / j)) := opI fun i j _ _ _ _ _ hc q => by
  have h1 : (0 : Int) < j := hc.1
  have h2 : j < 1073741824 := hc.2
  exact floordiv_int (by omega) (by rw [Int.fdiv_eq_ediv_of_nonneg i (by omega)]; exact q) (.inl (PyProof.noPylong_small (by omega)))
theorem v5 : X6 X (binaryOp .Mod) (rI (fun _ j => 0 < j) fun i j => .int (i % j)) := opI fun i j _ _ _ _ _ hc q => by
  have h1 : (0 : Int) < j := hc
  exact mod_int' (by omega) (by rw [Int.fmod_eq_emod_of_nonneg i (by omega)]; exact q)
theorem W5 : X6 X (binaryOp .Pow) (rI b2j fun i j => .int (i ^ j.toNat)) := opI fun _ _ _ _ _ _ _ hc q => pow_int_small hc.1 hc.2.1 hc.2.2 q
theorem unI {f : Value -> Sem Value} {g : Int -> Int}
    (rule : ∀ (i : Int) (t : Tok) (s : Shared) (Q : Value -> Shared -> Prop) (E : Value -> Shared -> Prop), Q (.int (g i) s.toks) { s with toks := s.toks + 1 } -> wpAny (model X.prog X.w) X.A (f (.int i t)) Q E s) :
    UnR X f (rU fun i => .int (g i)) := by
  intro pins s σ H x v Q I rx h
  obtain ⟨i, rfl, q⟩ := h
  obtain ⟨t, rfl⟩ := rx
  exact rule i t s _ _ ⟨.int (g i), H, I.tok _, ⟨_, rfl⟩, q⟩
theorem M0 : UnR X (unaryOp .USub) (rU fun i => .int (-i)) := unI fun _ _ _ _ _ q => neg_int q
end
def b0M : V -> V -> Bool
  | .non, .non => true | .non, .int _ => true | .int _, .non => true | .non, .bl _ => true | .bl _, .non => true | .non, .str _ => true | .str _, .non => true
  | .int _, .int _ => true | .bl _, .bl _ => true | .str _, .str _ => true | .byt _, .byt _ => true
  | .int _, .str _ => true | .str _, .int _ => true | .bl _, .str _ => true | .str _, .bl _ => true
  | _, _ => false
def rEq : R2 := fun x y H Q => b0M x y = true /\ Q (.bl (decide (x = y))) H
def rNe : R2 := fun x y H Q => b0M x y = true /\ Q (.bl (!decide (x = y))) H
theorem a4b {i j : Int} : decide (V.int i = V.int j) = (i == j) := by
  rw [Bool.eq_iff_iff]
  simp
theorem a6L {i j : Bool} : decide (V.bl i = V.bl j) = (i == j) := by
  rw [Bool.eq_iff_iff]
  simp
theorem a4s {i j : Str} : decide (V.str i = V.str j) = (i == j) := by
  rw [Bool.eq_iff_iff]
  simp
theorem a3X {i j : Array UInt8} : decide (V.byt i = V.byt j) = (i.toList == j.toList) := by
  rw [Bool.eq_iff_iff]
  cases i
  cases j
  simp
section
variable {X : Cx} {a b c : Expr} {ta tb tc : TE} {pos : Pos}
theorem x9 {pins : List (Addr × Obj)} {σ : St} {H : Hp} {s : Shared} {Q : VK} {k k' : Bool} (I : Inv X pins σ H s) (q : Q (.bl k) H) (e : k = k') : EP X pins σ Q (.bool k') s := by
  subst e
  exact ⟨.bl k, H, I, rfl, q⟩
theorem R6 : X6 X (compareOp .Eq) rEq := by
  intro pins s σ H x y v u Q I rx ry h
  obtain ⟨hs, q⟩ := h
  cases x with
  | non =>
    cases rx
    cases y with
    | non => cases ry; exact PySem.EqNone.eq_none_none (x9 I q (by simp))
    | bl j => cases ry; exact PySem.EqNone.eq_none_bool (x9 I q (by simp))
    | int j => obtain ⟨t', rfl⟩ := ry; exact PySem.EqNone.eq_none_int (x9 I q (by simp))
    | str j => obtain ⟨t', rfl⟩ := ry; exact PySem.EqNone.eq_none_str (x9 I q (by simp))
    | _ => exact absurd (show false = true from hs) Bool.false_ne_true
  | bl i =>
    cases rx
    cases y with
    | non => cases ry; exact PySem.EqNone.eq_bool_none (x9 I q (by simp))
    | bl j => cases ry; exact eq_bool (x9 I q a6L)
    | str j => obtain ⟨t', rfl⟩ := ry; exact PySem.EqMixed.eq_bool_str (x9 I q (by simp))
    | _ => exact absurd (show false = true from hs) Bool.false_ne_true
  | int i =>
    obtain ⟨t, rfl⟩ := rx
    cases y with
    | non => cases ry; exact PySem.EqNone.eq_int_none (x9 I q (by simp))
    | int j => obtain ⟨t', rfl⟩ := ry; exact eq_int (x9 I q a4b)
    | str j => obtain ⟨t', rfl⟩ := ry; exact PySem.EqMixed.eq_int_str (x9 I q (by simp))
    | _ => exact absurd (show false = true from hs) Bool.false_ne_true
  | str i =>
    obtain ⟨t, rfl⟩ := rx
    cases y with
    | non => cases ry; exact PySem.EqNone.eq_str_none (x9 I q (by simp))
    | bl j => cases ry; exact PySem.EqMixed.eq_str_bool (x9 I q (by simp))
    | int j => obtain ⟨t', rfl⟩ := ry; exact PySem.EqMixed.eq_str_int (x9 I q (by simp))
    | str j => obtain ⟨t', rfl⟩ := ry; exact eq_str (x9 I q a4s)
    | _ => exact absurd (show false = true from hs) Bool.false_ne_true
  | byt i =>
    obtain ⟨t, rfl⟩ := rx
    cases y with
    | byt j => obtain ⟨t', rfl⟩ := ry; exact W.eq_bytes (x9 I q a3X)
    | _ => exact absurd (show false = true from hs) Bool.false_ne_true
  | _ => cases y <;> exact absurd (show false = true from hs) Bool.false_ne_true
theorem a8X : X6 X (compareOp .NotEq) rNe := by
  intro pins s σ H x y v u Q I rx ry h
  obtain ⟨hs, q⟩ := h
  cases x with
  | non =>
    cases rx
    cases y with
    | non => cases ry; exact PySem.EqNone.ne_none_none (x9 I q (by simp))
    | bl j => cases ry; exact PySem.EqNone.ne_none_bool (x9 I q (by simp))
    | int j => obtain ⟨t', rfl⟩ := ry; exact PySem.EqNone.ne_none_int (x9 I q (by simp))
    | str j => obtain ⟨t', rfl⟩ := ry; exact PySem.EqNone.ne_none_str (x9 I q (by simp))
    | _ => exact absurd (show false = true from hs) Bool.false_ne_true
  | bl i =>
    cases rx
    cases y with
    | non => cases ry; exact PySem.EqNone.ne_bool_none (x9 I q (by simp))
    | bl j => cases ry; exact ne_bool (x9 I q (congrArg not a6L))
    | str j => obtain ⟨t', rfl⟩ := ry; exact PySem.EqMixed.ne_bool_str (x9 I q (by simp))
    | _ => exact absurd (show false = true from hs) Bool.false_ne_true
  | int i =>
    obtain ⟨t, rfl⟩ := rx
    cases y with
    | non => cases ry; exact PySem.EqNone.ne_int_none (x9 I q (by simp))
    | int j => obtain ⟨t', rfl⟩ := ry; exact ne_int (x9 I q (congrArg not a4b))
    | str j => obtain ⟨t', rfl⟩ := ry; exact PySem.EqMixed.ne_int_str (x9 I q (by simp))
    | _ => exact absurd (show false = true from hs) Bool.false_ne_true
  | str i =>
    obtain ⟨t, rfl⟩ := rx
    cases y with
    | non => cases ry; exact PySem.EqNone.ne_str_none (x9 I q (by simp))
    | bl j => cases ry; exact PySem.EqMixed.ne_str_bool (x9 I q (by simp))
    | int j => obtain ⟨t', rfl⟩ := ry; exact PySem.EqMixed.ne_str_int (x9 I q (by simp))
    | str j => obtain ⟨t', rfl⟩ := ry; exact ne_str (x9 I q (congrArg not a4s))
    | _ => exact absurd (show false = true from hs) Bool.false_ne_true
  | byt i =>
    obtain ⟨t, rfl⟩ := rx
    cases y with
    | byt j => obtain ⟨t', rfl⟩ := ry; exact W.ne_bytes (x9 I q (congrArg not a3X))
    | _ => exact absurd (show false = true from hs) Bool.false_ne_true
  | _ => cases y <;> exact absurd (show false = true from hs) Bool.false_ne_true
theorem R5 : X6 X (compareOp .Lt) (rI0 fun i j => .bl (decide (i < j))) := a8h fun _ _ _ _ _ _ _ q => lt_int q
theorem b1B : X6 X (compareOp .LtE) (rI0 fun i j => .bl (decide (i <= j))) := a8h fun _ _ _ _ _ _ _ q => le_int q
theorem S7 : X6 X (compareOp .Gt) (rI0 fun i j => .bl (decide (j < i))) := a8h fun _ _ _ _ _ _ _ q => gt_int q
theorem a9l : X6 X (compareOp .GtE) (rI0 fun i j => .bl (decide (j <= i))) := a8h fun _ _ _ _ _ _ _ q => ge_int q
theorem a2s : X6 X (compareOp .Is) (fun x y H Q => y = .non /\ Q (.bl (decide (x = .non))) H) := by
  intro pins s σ H x y v u Q I rx ry h
  obtain ⟨rfl, q⟩ := h
  cases ry
  refine is_none_gen (x9 I q ?_)
  cases x <;> first
    | (cases rx; rfl)
    | (obtain ⟨t, rfl⟩ := rx; rfl)
theorem a2m : X6 X (compareOp .IsNot) (fun x y H Q => y = .non /\ Q (.bl (!decide (x = .non))) H) := by
  intro pins s σ H x y v u Q I rx ry h
  obtain ⟨rfl, q⟩ := h
  cases ry
  refine isnot_none_gen (x9 I q ?_)
  cases x <;> first
    | (cases rx; rfl)
    | (obtain ⟨t, rfl⟩ := rx; rfl)
theorem r6 (b : Expr) {op : CmpOp} (h : op ≠ .In := by decide) (h2 : op ≠ .NotIn := by decide) : behindInMarks op b = false := by
  have e1 : (op == CmpOp.In) = false := by cases op <;> first | rfl | exact absurd rfl h
  have e2 : (op == CmpOp.NotIn) = false := by cases op <;> first | rfl | exact absurd rfl h2
  cases b <;> simp [behindInMarks, e1, e2]
theorem E4 {op : CmpOp} {r : R2} (ho : X6 X (compareOp op) r) (ha : PE X a ta) (hb : PE X b tb) (hm : behindInMarks op b = false) : PE X (.Compare a [op] [b] pos) (tOp r ta tb) := by
  intro pins s σ H Q I h
  exact wpAny_Compare1 (b0g ha hb I h fun v u s2 x y H2 I2 rx ry q => ho pins s2 σ H2 x y v u Q I2 rx ry q) hm
def a9k (t : TE) : TT := fun σ H Q => t σ H fun x H' => ∃ k, x = .bl k /\ Q k H'
theorem r8 {op : CmpOp} {r : R2} (ho : X6 X (compareOp op) r) (ha : PE X a ta) (hb : PE X b tb) (hm : behindInMarks op b = false) : PT X (.Compare a [op] [b] pos) (a9k (tOp r ta tb)) := by
  intro pins s σ H Q I h
  refine wpAny_isTrue_Compare1 (C9 (ha pins s σ H _ I h) fun v s1 ⟨x, H1, I1, r1, q1⟩ => C9 (hb pins s1 σ H1 _ I1 q1) fun u s2 ⟨y, H2, I2, r2, q2⟩ =>
    C9 (ho pins s2 σ H2 x y v u _ I2 r1 r2 q2) fun c s3 ⟨z, H3, I3, r3, k, e, q3⟩ => ?_) hm
  subst e
  cases r3
  exact wpAny_truthy_bool ⟨H3, I3, q3⟩
def b0h (r r' : R2) (ta tb tc : TE) : TE := fun σ H Q => ta σ H fun x H1 => tb σ H1 fun y H2 => r x y H2 fun z H3 => ∃ k, z = .bl k ∧
  (if k = true then tc σ H3 fun w' H4 => r' y w' H4 Q else Q (.bl false) H3)
theorem a6j {op op' : CmpOp} {r r' : R2} (ho : X6 X (compareOp op) r) (ho' : X6 X (compareOp op') r') (ha : PE X a ta) (hb : PE X b tb) (hc : PE X c tc)
    (hm : lastMarks [op, op'] [b, c] = false := by with_unfolding_all rfl) : PT X (.Compare a [op, op'] [b, c] pos) (a9k (b0h r r' ta tb tc)) := by
  intro pins s σ H Q I h
  refine isTrue_chain (C9 (ha pins s σ H _ I h) fun v s1 ⟨x, H1, I1, r1, q1⟩ => test_link (C9 (hb pins s1 σ H1 _ I1 q1) fun u s2 ⟨y, H2, I2, r2, q2⟩ =>
    C9 (ho pins s2 σ H2 x y v u _ I2 r1 r2 q2) fun d s3 ⟨z, H3, I3, r3, k, e, q3⟩ => ?_)) hm
  subst e
  cases r3
  refine wpAny_truthy_bool ?_
  cases k with
  | false =>
    obtain ⟨k', e', q'⟩ := q3
    cases e'
    exact ite_ff ⟨H3, I3, q'⟩
  | true =>
    refine ite_tt (test_last (C9 (hc pins s3 σ H3 _ I3 q3) fun w' s4 ⟨z', H4, I4, r4, q4⟩ => C9 (ho' pins s4 σ H4 y z' u w' _ I4 r2 r4 q4) fun d' s5 ⟨z2, H5, I5, r5, k2, e2, q5⟩ => ?_))
    subst e2
    cases r5
    exact wpAny_truthy_bool ⟨H5, I5, q5⟩
theorem a2v : (sizeLine : Nat) < 2 ^ 63 := by rw [sizeLine_eq]; decide
theorem R3 {x : V} {us : List Value} (r : Vals [x] us) : ∃ u, us = [u] /\ RelV x u := by
  cases r with
  | cons r1 r2 => cases r2; exact ⟨_, rfl, r1⟩
theorem a1I {x y : V} {us : List Value} (r : Vals [x, y] us) : ∃ u w', us = [u, w'] /\ RelV x u /\ RelV y w' := by
  cases r with
  | cons r1 r2 =>
    cases r2 with
    | cons r3 r4 => cases r4; exact ⟨_, _, rfl, r1, r3⟩
theorem a6u : M3 X (.builtin "abs") (fun xs H Q => ∃ i, xs = [.int i] /\ Q (.int (if i < 0 then -i else i)) H) := by
  intro pins s σ H xs us Q I r h
  obtain ⟨i, rfl, q⟩ := h
  obtain ⟨u, rfl, t, rfl⟩ := R3 r
  exact call_abs_int fun u tk => ⟨.int (if i < 0 then -i else i), H, I.tok _, ⟨_, rfl⟩, q⟩
theorem a5V (hc : X.calm = true) : M3 X (.builtin "max") (fun xs H Q => ∃ i j, xs = [.int i, .int j] /\ Q (.int (if j > i then j else i)) H) := by
  intro pins s σ H xs us Q I r h
  obtain ⟨i, j, rfl, q⟩ := h
  obtain ⟨u, w', rfl, ⟨t, rfl⟩, ⟨t', rfl⟩⟩ := a1I r
  refine max_two_ints (I.ok.hd hc) fun h' tk k => ⟨_, H, I.kept k, ?_, q⟩
  by_cases hj : j > i
  . rw [if_pos hj, if_pos hj]; exact ⟨_, rfl⟩
  . rw [if_neg hj, if_neg hj]; exact ⟨_, rfl⟩
theorem O8 (hc : X.calm = true) : M3 X (.builtin "min") (fun xs H Q => ∃ i j, xs = [.int i, .int j] /\ Q (.int (if j < i then j else i)) H) := by
  intro pins s σ H xs us Q I r h
  obtain ⟨i, j, rfl, q⟩ := h
  obtain ⟨u, w', rfl, ⟨t, rfl⟩, ⟨t', rfl⟩⟩ := a1I r
  refine min_two_ints (I.ok.hd hc) fun h' tk k => ⟨_, H, I.kept k, ?_, q⟩
  by_cases hj : j < i
  . rw [if_pos hj, if_pos hj]; exact ⟨_, rfl⟩
  . rw [if_neg hj, if_neg hj]; exact ⟨_, rfl⟩
theorem a0h : M3 X (.type "int") (fun xs H Q => (∃ i, xs = [.int i] /\ Q (.int i) H) \/ ∃ k, xs = [.bl k] /\ Q (.int (if k then 1 else 0)) H) := by
  intro pins s σ H xs us Q I r h
  rcases h with ⟨i, rfl, q⟩ | ⟨k, rfl, q⟩
  . obtain ⟨u, rfl, t, rfl⟩ := R3 r
    exact call_int_int ⟨.int i, H, I, ⟨_, rfl⟩, q⟩
  . obtain ⟨u, rfl, r1⟩ := R3 r
    cases r1
    exact call_int_bool ⟨.int (if k then 1 else 0), H, I.tok _, ⟨_, rfl⟩, q⟩
end
end L2
namespace L2
open PySem PySem.Spec PyProof.Rows
structure ObjM (h : Heap) (x dx C : Addr) (mA : Str -> Option Value) : Prop where
  obj : h.get? x = some (W.instObj C dx)
  ns : h.Ns1 dx mA
  ne : dx ≠ x
theorem a5Q {h : Heap} {dx : Addr} {mA : Str -> Option Value} (n : h.Ns1 dx mA) : ∃ od, h.get? dx = some od /\ ∀ name, W.lookIn name od = some (mA name) := by
  obtain ⟨o, es, ep, ho, hd, hk, _, hm⟩ := n
  refine ⟨o, ho, fun name => ?_⟩
  have e := hm name
  unfold nsFind findBy at e
  rw [<- Array.find?_toList] at e
  unfold W.lookIn
  rw [hd]
  dsimp only
  split
  . rename_i y q
    rw [q] at e
    exact congrArg some e
  . rename_i q
    rw [q] at e
    have a : es.toList.any (·.refKey) = false := by
      rw [List.any_eq_false]
      intro y hy
      obtain ⟨z, t, hkey⟩ := hk y (Array.mem_toList_iff.mp hy)
      simp [DictEntry.refKey, hkey]
    have a' : ¬ es.toList.any (·.refKey) = true := by rw [a]; exact Bool.false_ne_true
    rw [if_neg a']
    exact congrArg some e
theorem ObjM.look {h : Heap} {x dx C : Addr} {mA : Str -> Option Value} (I : ObjM h x dx C mA) : ∃ od, W.InstAt h x (W.instObj C dx) C (some od) /\ ∀ name, W.lookIn name od = some (mA name) :=
  let ⟨od, ho, hl⟩ := a5Q I.ns
  ⟨od, ⟨I.obj, rfl, rfl, ho⟩, hl⟩
section
variable {prog : Program} {w : World} {A : Around} {E : Value -> Shared -> Prop} {s : Shared} {K : W.Frag} {x dx C f : Addr} {mA : Str -> Option Value} {name : Str} {v : Value}
theorem a7N {expr : Bool} {Q : Value -> Shared -> Prop} (X : K.In s.heap) (I : ObjM s.heap x dx C mA) (hg : W.plainGet K C name = true) (hh : W.hasDictIn K C = true)
    (ha : W.findIn K (.ref C) name = some none) (hv : mA name = some v) (hv' : W.handedIn v = true) (h : Q v { s with toks := s.toks + 1 }) :
    wpAny (model prog w) A (getAttr (.ref x) name expr) Q E s := by
  obtain ⟨od, J, hl⟩ := I.look
  exact W.get_value X J (W.plainGet_of hg).1 (W.findObj_own hh ha rfl (by rw [hl, hv])) hv' h
theorem a6D {pl : Sem Bool} {Q : Value × List Value -> Shared -> Prop} (X : K.In s.heap) (I : ObjM s.heap x dx C mA) (hg : W.plainGet K C name = true)
    (hf : W.findIn K (.ref C) name = some (some (.ref f))) (ht : W.isFn K (.ref f) = true) (hv : mA name = none) (h : Q (.ref f, [.ref x]) s) :
    wpAny (model prog w) A (getMethod (.ref x) name pl) Q E s := by
  obtain ⟨od, J, hl⟩ := I.look
  exact W.method_fn X J (W.plainGet_of hg).1 (W.plainGet_of hg).2 hf (beq_iff_eq.mp ht) (by show (W.lookIn name od).map (·.isSome) = some false; rw [hl, hv]; rfl) h
theorem a8g {ns : List Str} {Q : Unit -> Shared -> Prop} (X : K.In s.heap) (I : ObjM s.heap x dx C mA)
    (hs : W.findIn K (.ref C) "__setattr__" = some (some (.builtin "object.__setattr__"))) (hp : W.plainOver K C = true) (ht : W.takerIn K C name = some none) (hh : W.hasDictIn K C = true)
    (hw : PySem.Within mA ns) (hsz : ns.length <= sizeLine)
    (h : ∀ h', ObjM h' x dx C (fun y => if y = name then some v else mA y) -> Heap.SameBut dx s.heap h' -> Q () { s with heap := h', toks := s.toks + 2 }) :
    wpAny (model prog w) A (setAttr (.ref x) name v) Q E s := by
  obtain ⟨od, J, hl⟩ := I.look
  refine W.set_plain X J hs (W.osa_open (s := { s with toks := s.toks + 1 }) (r := none) X J hp ht fun b => ?_)
  obtain ⟨cd, hc, hd'⟩ := W.any_some hh
  have hx : s.heap.get? x = some ⟨.ref C, some dx, .plain, #[]⟩ := I.obj
  refine wpAny_bind (wpAny_pure (wpAny_bind (wpAny_bind (wpAny_loadPart hx (wpAny_bind (W.Looks.here (s := { s with toks := s.toks + 1 }) (W.looks_clsIn X hc) ?_))))))
  rw [hd']
  refine wpAny_pure (a := some dx) (wpAny_bind (wpAny_pure (wpAny_bind ?_)))
  refine wpAny_nsSet1 (s := { s with toks := s.toks + 1 }) I.ns fun h' hn2 hs2 => ?_
  obtain ⟨oD, esD, epD, hoD, hdD, hcD⟩ := hn2.count (PySem.Within.cons name v hw)
  refine wpAny_bind (wpAny_lookBehind hoD (by rw [hdD]; exact pastItsLine_dict (Nat.le_trans hcD (by rw [List.length_cons]; omega))) ?_)
  exact wpAny_pure (h _ ⟨(hs2.2 _ (Ne.symm I.ne)).trans I.obj, hn2, I.ne⟩ hs2)
theorem a6d {R : Result -> Shared -> Prop} {vs : List Value} {kw : List (Str × Value)} (X : K.In s.heap) (hm : W.makesIn K C = true)
    (hi : W.findIn K (.ref C) "__init__" = some (some (.ref f))) (hf : W.typeIn K (.ref f) = some (.type "function"))
    (h : codeAny (model prog w) (A.under (.builtin "type.__call__" ⟨.ref C :: vs, kw⟩)) (.call (.ref f) ⟨.ref (s.heap.objs.size + 1) :: vs, kw⟩) (W.InitBack (s.heap.objs.size + 1) R)
      { s with heap := (s.heap.push W.emptyDict).push (W.instObj C s.heap.objs.size) }) :
    codeAny (model prog w) A (.call (.ref C) ⟨vs, kw⟩) R s := by
  obtain ⟨hh, g, d, t, os⟩ := s
  exact W.make_core (W.makes_of X hm) (W.looks_findIn X hi) (fun self => W.bind_fn X self hf) (.inl rfl) h
end
def W2 (f : Str) (v : V) : List (Str × V) -> List (Str × V)
  | [] => [(f, v)]
  | (g, x) :: r => if g = f then (g, v) :: r else (g, x) :: W2 f v r
theorem a0p (f g : Str) (v : V) : ∀ fs : List (Str × V), (W2 f v fs).lookup g = if g = f then some v else fs.lookup g
  | [] => by
    show List.lookup g [(f, v)] = _
    by_cases h : g = f
    . have hb : (g == f) = true := beq_iff_eq.mpr h
      simp only [List.lookup, hb, if_pos h]
    . have hb : (g == f) = false := beq_eq_false_iff_ne.mpr h
      simp only [List.lookup, hb, if_neg h]
  | (k, x) :: r => by
    have ih := a0p f g v r
    rw [show W2 f v ((k, x) :: r) = (if k = f then (k, v) :: r else (k, x) :: W2 f v r) from rfl]
    by_cases hk : k = f
    . rw [if_pos hk]
      by_cases h : g = k
      . have hb : (g == k) = true := beq_iff_eq.mpr h
        simp only [List.lookup, hb, if_pos (h.trans hk)]
      . have hb : (g == k) = false := beq_eq_false_iff_ne.mpr h
        simp only [List.lookup, hb, if_neg (fun e : g = f => h (e.trans hk.symm))]
    . rw [if_neg hk]
      by_cases h : g = k
      . have hb : (g == k) = true := beq_iff_eq.mpr h
        simp only [List.lookup, hb, if_neg (fun e : g = f => hk (h.symm.trans e))]
      . have hb : (g == k) = false := beq_eq_false_iff_ne.mpr h
        simp only [List.lookup, hb]
        exact ih
theorem Z2 (f : Str) (v : V) : ∀ fs : List (Str × V), f ∈ (W2 f v fs).map (·.1) /\ ∀ g, g ∈ fs.map (·.1) -> g ∈ (W2 f v fs).map (·.1)
  | [] => ⟨by simp [W2], fun g h => by simp at h⟩
  | (k, x) :: r => by
    obtain ⟨i1, i2⟩ := Z2 f v r
    rw [show W2 f v ((k, x) :: r) = (if k = f then (k, v) :: r else (k, x) :: W2 f v r) from rfl]
    by_cases hk : k = f
    . rw [if_pos hk]
      subst hk
      exact ⟨by simp, fun g h => by simpa using h⟩
    . rw [if_neg hk]
      refine ⟨?_, fun g h => ?_⟩
      . rw [List.map_cons]
        exact List.mem_cons_of_mem _ i1
      . rw [List.map_cons] at h ⊢
        rcases List.mem_cons.mp h with e | e
        . exact List.mem_cons.mpr (.inl e)
        . exact List.mem_cons_of_mem _ (i2 g e)
theorem a0l (f : Str) (v : V) : ∀ fs : List (Str × V), (W2 f v fs).length <= fs.length + 1
  | [] => by simp [W2]
  | (k, x) :: r => by
    have ih := a0l f v r
    rw [show W2 f v ((k, x) :: r) = (if k = f then (k, v) :: r else (k, x) :: W2 f v r) from rfl]
    by_cases hk : k = f
    . rw [if_pos hk, List.length_cons, List.length_cons]; omega
    . rw [if_neg hk, List.length_cons, List.length_cons]; omega
theorem RelO.some_of {v : V} {o : Option Value} (r : RelO (some v) o) : ∃ u, o = some u /\ RelV v u := by
  cases o with
  | none => exact (show False from r).elim
  | some u => exact ⟨u, rfl, r⟩
theorem RelO.none_of {o : Option Value} (r : RelO none o) : o = none := by
  cases o with
  | none => rfl
  | some u => exact (show False from r).elim
theorem a5f {v : V} {u : Value} (r : RelV v u) : W.handedIn u = true := by
  cases v with
  | non => cases (show u = Value.none from r); rfl
  | bl b => cases (show u = Value.bool b from r); rfl
  | int i => obtain ⟨t, e⟩ := (show ∃ t, u = Value.int i t from r); cases e; rfl
  | str x => obtain ⟨t, e⟩ := (show ∃ t, u = Value.str x t from r); cases e; rfl
  | byt b => obtain ⟨t, e⟩ := (show ∃ t, u = Value.bytes b t from r); cases e; rfl
  | flt b => obtain ⟨t, e⟩ := (show ∃ t, u = Value.float b t from r); cases e; rfl
  | ref a => cases (show u = Value.ref a from r); rfl
  | ty n => cases (show u = Value.type n from r); rfl
section
variable {P : Program} {w : World} {H H' : Hp} {h h' : Heap} {a C dx : Addr} {fs fs' : List (Str × V)}
theorem a0y (hok : HOk P w H h) (e : H a = some (.ins C dx fs)) : ∃ mA, ObjM h a dx C mA /\ (∀ f, RelO (fs.lookup f) (mA f)) /\ PySem.Within mA (fs.map (·.1)) /\ fs.length <= 1000 /\ H dx = some (.own a) := by
  obtain ⟨d, z, ne, ob, mA, n, r, q⟩ := (show ObjOk P w H h a (.ins C dx fs) from hok a _ e)
  exact ⟨mA, ⟨ob, n, ne⟩, r, q, z, d⟩
end
structure Cls (K : W.Frag) (C : Addr) : Prop where
  pg : W.plainGet K C Str.empty = true
  hd : W.hasDictIn K C = true
  po : W.plainOver K C = true
  sa : W.findIn K (.ref C) "__setattr__" = some (some (.builtin "object.__setattr__"))
theorem Cls.get {K : W.Frag} {C : Addr} (c : Cls K C) (f : Str) : W.plainGet K C f = true := c.pg
def NoAttr (K : W.Frag) (C : Addr) (f : Str) : Prop := W.findIn K (.ref C) f = some none
theorem NoAttr.taker {K : W.Frag} {C : Addr} {f : Str} (n : NoAttr K C f) : W.takerIn K C f = some none := by
  unfold W.takerIn
  rw [show W.findIn K (.ref C) f = some none from n]
  rfl
structure Con (K : W.Frag) (C : Addr) (f : Str) (v : V) (u : Value) : Prop where
  at_ : W.findIn K (.ref C) f = some (some u)
  rel : RelV v u
  get : W.specialIn K u "__get__" = some none
  cp : W.copiedNames.contains f = false
structure a8s (K : W.Frag) (C : Addr) (m : Str) (f : Addr) : Prop where
  at_ : W.findIn K (.ref C) m = some (some (.ref f))
  fn : W.isFn K (.ref f) = true
  kp : W.keepIn K (.ref f) = true
section
variable {X : Cx} {pins : List (Addr × Obj)} {σ : St} {H : Hp} {s : Shared} {a C dx : Addr} {fs : List (Str × V)} {f : Str} {v : V} {A : Around} {E : Value -> Shared -> Prop}
theorem a3N {b : Bool} {Q : Value -> Shared -> Prop} (I : Inv X pins σ H s) (e : H a = some (.ins C dx fs)) (c : Cls X.K C) (n : NoAttr X.K C f) (l : fs.lookup f = some v)
    (h : ∀ u s', Inv X pins σ H s' -> RelV v u -> Q u s') : wpAny (model X.prog X.w) A (getAttr (.ref a) f b) Q E s := by
  obtain ⟨mA, O, r, _, _, _⟩ := a0y I.hok e
  obtain ⟨u, hu, ru⟩ := RelO.some_of (v := v) (o := mA f) (by rw [<- l]; exact r f)
  exact a7N I.kIn O (c.get f) c.hd n hu (a5f ru) (h u _ (I.tok _) ru)
theorem a0Z {m : Str} {g : Addr} {pl : Sem Bool} {Q : Value × List Value -> Shared -> Prop} (I : Inv X pins σ H s) (e : H a = some (.ins C dx fs)) (c : Cls X.K C) (k : a8s X.K C m g) (l : fs.lookup m = none)
    (h : Q (.ref g, [.ref a]) s) : wpAny (model X.prog X.w) A (getMethod (.ref a) m pl) Q E s := by
  obtain ⟨mA, O, r, _, _, _⟩ := a0y I.hok e
  have hn : mA m = none := RelO.none_of (by rw [<- l]; exact r m)
  exact a6D I.kIn O (c.get m) k.at_ k.fn hn h
theorem a3C {y : V} {u : Value} {Q : Unit -> Shared -> Prop} (I : Inv X pins σ H s) (e : H a = some (.ins C dx fs)) (c : Cls X.K C) (n : NoAttr X.K C f) (hl : fs.length < 1000) (ry : RelV y u)
    (h : ∀ s', Inv X pins σ (upd H a (.ins C dx (W2 f y fs))) s' -> Q () s') : wpAny (model X.prog X.w) A (setAttr (.ref a) f u) Q E s := by
  obtain ⟨mA, O, r, wi, _, ho⟩ := a0y I.hok e
  have hz : (fs.map (·.1)).length <= sizeLine := by rw [List.length_map, sizeLine_eq]; omega
  refine a8g I.kIn O c.sa c.po n.taker c.hd wi hz fun h' O' sb => h _ ?_
  have hd : ∃ o, h'.get? dx = some o := let ⟨o, _, _, e', _⟩ := O'.ns; ⟨o, e'⟩
  refine I.write (x := a) (e := dx) (by rw [e]; exact True.intro) (.inr ho) (fun b q hb z => (sb.2 b hb).trans z) hd ?_
  refine ⟨by rw [h8 O.ne]; exact ho, ?_, O.ne, O'.obj, _, O'.ns, fun g => ?_, fun g hg => ?_⟩
  . have := a0l f y fs; omega
  . show RelO ((W2 f y fs).lookup g) (if g = f then some u else mA g)
    rw [a0p]
    by_cases q : g = f
    . rw [if_pos q, if_pos q]; exact ry
    . rw [if_neg q, if_neg q]; exact r g
  . by_cases q : g = f
    . rw [q]; exact (Z2 f y fs).1
    . refine (Z2 f y fs).2 g (wi g fun z => hg ?_)
      show (if g = f then some u else mA g) = none
      rw [if_neg q]; exact z
theorem Inv.made (I : Inv X pins σ H s) : Inv X pins σ (upd (upd H s.heap.objs.size (.own (s.heap.objs.size + 1))) (s.heap.objs.size + 1) (.ins C s.heap.objs.size []))
    { s with heap := (s.heap.push W.emptyDict).push (W.instObj C s.heap.objs.size) } := by
  have e1 : (s.heap.push W.emptyDict).get? s.heap.objs.size = some W.emptyDict := Heap.get?_push_size s.heap rfl
  have e2 : ((s.heap.push W.emptyDict).push (W.instObj C s.heap.objs.size)).get? (s.heap.objs.size + 1) = some (W.instObj C s.heap.objs.size) := by
    have := Heap.get?_push_size (s.heap.push W.emptyDict) (o := W.instObj C s.heap.objs.size) rfl
    rwa [Heap.size_push] at this
  have e3 : (s.heap.push W.emptyDict).Ns s.heap.objs.size (fun _ => none) := ⟨W.emptyDict, #[], _, e1, rfl, (fun e he => absurd he (by simp)), fun _ => rfl⟩
  have I1 := I.laid (a := s.heap.objs.size) (o := .own (s.heap.objs.size + 1)) (h' := s.heap.push W.emptyDict) (t' := s.toks) (fun b u q => Heap.get?_push_of_some _ q) (Nat.le_refl _) ⟨_, e1⟩
  refine I1.laid (a := s.heap.objs.size + 1) (o := .ins C s.heap.objs.size []) (t' := s.toks) (fun b u q => Heap.get?_push_of_some _ q) (Nat.le_of_eq (Heap.size_push _ _)) ?_
  have ne : s.heap.objs.size ≠ s.heap.objs.size + 1 := Nat.ne_of_lt (Nat.lt_succ_self _)
  refine ⟨by rw [h8 ne, upd_same], Nat.zero_le _, ne, e2, fun _ => none, (Heap.Ns1.of_empty e3).at fun o q => Heap.get?_push_of_some _ q, fun _ => True.intro, fun y hy => absurd rfl hy⟩
theorem a8x {prog : Program} {w : World} {env : Env} {e : Expr} {f : Str} {pos : Pos} {s : Shared} {Q : Value -> Shared -> Prop} (hb : attributeBase e f env (eval e env) = eval e env)
    (h : wpAny (model prog w) A (eval e env) (fun o s₁ => wpAny (model prog w) A (getAttr o f true) Q E s₁) E s) : wpAny (model prog w) A (eval (.Attribute e f pos) env) Q E s :=
  Attribute_any_ h (by rw [arm_eval_Attribute, hb])
end
def b0Y (K : W.Frag) (ta : TE) (f : Str) : TE := fun σ H Q => ta σ H fun x H1 => ∃ a C dx fs v, x = .ref a /\ H1 a = some (.ins C dx fs) /\ Cls K C /\ NoAttr K C f /\ fs.lookup f = some v /\ Q v H1
def b1Z (K : W.Frag) (ta tv : TE) (f : Str) : TS := fun D σ H => tv σ H fun y H1 => ta σ H1 fun x H2 => ∃ a C dx fs, x = .ref a /\ H2 a = some (.ins C dx fs) /\ Cls K C /\ NoAttr K C f /\ fs.length < 1000 ∧
  D.nx σ (upd H2 a (.ins C dx (W2 f y fs)))
section
variable {X : Cx} {o e value : Expr} {f : Str} {pos pos' tpos : Pos} {ta tv : TE}
theorem v9 (he : PE X e ta) (hb : attributeBase e f X.env (eval e X.env) = eval e X.env) : PE X (.Attribute e f pos) (b0Y X.K ta f) := by
  intro pins s σ H Q I h
  refine a8x hb (C9 (he pins s σ H _ I h) fun u s1 ⟨x, H1, I1, rx, a, C, dx, fs, v, ex, ea, c, n, l, q⟩ => ?_)
  subst ex
  obtain rfl : u = Value.ref a := rx
  exact a3N I1 ea c n l fun u' s2 I2 ru => ⟨v, H1, I2, ru, q⟩
theorem X2 (ha : PE X o ta) (hv : PE X value tv) (hs : swapsWith value (some (.Attribute o f pos')) pos.line X.env = pure false) : PS X (.Assign [.Attribute o f pos'] value pos) (b1Z X.K ta tv f) := by
  intro pins s σ H D I h
  refine plainObj_wpAny_Assign_Attribute (C9 (hv pins s σ H _ I h) fun u s1 ⟨y, H1, I1, ry, q⟩ => C9 (ha pins s1 σ H1 _ I1 q) fun ov s2 ⟨x, H2, I2, rx, a, C, dx, fs, ex, ea, c, n, l, q2⟩ => ?_) hs
  subst ex
  obtain rfl : ov = Value.ref a := rx
  exact a3C I2 ea c n l ry fun s3 I3 => ⟨σ, _, I3, q2⟩
end
section
variable {X : Cx} {pins : List (Addr × Obj)} {σ : St} {H : Hp} {s : Shared} {A : Around} {E : Value -> Shared -> Prop} {Q : Value -> Shared -> Prop} {c : Value} {b : Bool}
inductive a0g (K : W.Frag) (H : Hp) : V -> Value -> Prop where
  | non : a0g K H .non (.type "NoneType")
  | bl (x : Bool) : a0g K H (.bl x) (.type "bool")
  | int (i : Int) : a0g K H (.int i) (.type "int")
  | str (x : Str) : a0g K H (.str x) (.type "str")
  | flt (x : UInt64) : a0g K H (.flt x) (.type "float")
  | lst {a : Addr} {xs : List V} (e : H a = some (.lst xs)) : a0g K H (.ref a) (.type "list")
  | frz {a : Addr} {o : Obj} {xs : List V} (e : H a = some (.frz o (.lst xs))) : a0g K H (.ref a) (.type "list")
  | tup {a : Addr} {xs : List V} (e : H a = some (.tup xs)) : a0g K H (.ref a) (.type "tuple")
  | dK {a : Addr} {kvs : List (Key × V)} (e : H a = some (.dK kvs)) : a0g K H (.ref a) (.type "dict")
  | dT {a : Addr} {kvs : List (List Key × V)} (e : H a = some (.dT kvs)) : a0g K H (.ref a) (.type "dict")
  | ins {a C dx : Addr} {fs : List (Str × V)} (e : H a = some (.ins C dx fs)) (cl : Cls K C) (ha : W.findIn K (.ref C) "__class__" = some (some (.builtin "object.__class__")))
      (hn : W.specialIn K (.builtin "object.__class__") "__get__" = some (some (.builtin "getset_descriptor.__get__"))) (htk : W.takesIn K (.builtin "object.__class__") = some true)
      (hm : W.mroIn K C (.type "object") = some true) : a0g K H (.ref a) (.ref C)
theorem a5y {x : V} {u t : Value} (I : Inv X pins σ H s) (rx : RelV x u) (ty : a0g X.K H x t) (e : W.kitOne X.K t c = some b) (h : ∀ tk, Q (.bool b) { s with toks := tk }) :
    wpAny (model X.prog X.w) A (call (.builtin "isinstance") [u, c]) Q E s := by
  cases ty with
  | non => cases (show u = Value.none from rx); exact W.kia_one W.kitx_none I.kIn True.intro e (fun z => nomatch z) h
  | bl y => cases (show u = Value.bool y from rx); exact W.kia_one W.kitx_bool I.kIn True.intro e (fun z => nomatch z) h
  | int i => obtain ⟨t, q⟩ := (show ∃ t, u = Value.int i t from rx); cases q; exact W.kia_one W.kitx_int I.kIn True.intro e (fun z => nomatch z) h
  | str y => obtain ⟨t, q⟩ := (show ∃ t, u = Value.str y t from rx); cases q; exact W.kia_one W.kitx_str I.kIn True.intro e (fun z => nomatch z) h
  | flt y => obtain ⟨t, q⟩ := (show ∃ t, u = Value.float y t from rx); cases q; exact W.kia_one W.kitx_float I.kIn True.intro e (fun z => nomatch z) h
  | @lst a xs ea =>
    cases (show u = Value.ref a from rx)
    obtain ⟨_, _, n, _, h1⟩ := (show ObjOk X.prog X.w H s.heap a (.lst xs) from I.hok a _ ea)
    exact W.kia_one W.kitx_list I.kIn ⟨_, h1, rfl⟩ e (fun z => nomatch z) h
  | @frz a ob xs ea =>
    cases (show u = Value.ref a from rx)
    obtain ⟨_, _, _, n, _, h1⟩ := (show ObjOk X.prog X.w H s.heap a (.frz ob (.lst xs)) from I.hok a _ ea)
    exact W.kia_one W.kitx_list I.kIn ⟨_, h1, rfl⟩ e (fun z => nomatch z) h
  | @tup a xs ea =>
    cases (show u = Value.ref a from rx)
    obtain ⟨_, _, _, p⟩ := (show ObjOk X.prog X.w H s.heap a (.tup xs) from I.hok a _ ea)
    obtain ⟨o, h1, h2, _⟩ := p
    exact W.kia_one W.kitx_tuple I.kIn ⟨o, h1, h2⟩ e (fun z => nomatch z) h
  | @dK a kvs ea =>
    cases (show u = Value.ref a from rx)
    obtain ⟨_, _, vs, _, p⟩ := (show ObjOk X.prog X.w H s.heap a (.dK kvs) from I.hok a _ ea)
    obtain ⟨o, es, ep, h1, h2, _⟩ := p
    exact W.kia_one W.kitx_dict I.kIn ⟨o, h1, h2.1⟩ e (fun z => nomatch z) h
  | @dT a kvs ea =>
    cases (show u = Value.ref a from rx)
    obtain ⟨_, _, xs, _, o, es, ep, h1, h2, _⟩ := (show ObjOk X.prog X.w H s.heap a (.dT kvs) from I.hok a _ ea)
    exact W.kia_one W.kitx_dict I.kIn ⟨o, h1, h2.1⟩ e (fun z => nomatch z) h
  | @ins a C dx fs ea cl ha hn htk hm =>
    cases (show u = Value.ref a from rx)
    obtain ⟨mA, O, _⟩ := a0y I.hok ea
    obtain ⟨od, J, _⟩ := O.look
    exact W.kia_one (W.kitx_own (cl.get _) cl.hd ha hn htk hm) I.kIn J e (fun z => nomatch z) h
end
end L2
namespace L2
open PySem PySem.Spec PyProof.Rows
structure Room (k : Nat) (A : Around) : Prop where
  hd : A.handled = none
  dp : A.depth + 3 * k + 5 < recursionLimit
  un : A.units + 16 * k + 200 < cLine
theorem Room.mono {j k : Nat} {A : Around} (r : Room k A) (h : j <= k) : Room j A := ⟨r.hd, by have := r.dp; omega, by have := r.un; omega⟩
theorem Room.deeper {k : Nat} {A : Around} (r : Room (k + 1) A) (env : Env) : Room k (A.deeper env) :=
  ⟨r.hd, by have := r.dp; show A.depth + 1 + 3 * k + 5 < _; omega, by have := r.un; show A.units + 3 + 16 * k + 200 < _; omega⟩
theorem Room.in1 {k : Nat} {A : Around} (r : Room (k + 1) A) : Room k A.in1 :=
  ⟨r.hd, by have := r.dp; show A.depth + 3 * k + 5 < _; omega, by have := r.un; show A.units + 1 + 16 * k + 200 < _; omega⟩
theorem a3w {A : Around} {C : Addr} {us : List Value} {kw : List (Str × Value)} : (A.under (.builtin "type.__call__" ⟨.ref C :: us, kw⟩)).depth = A.depth + 1 := by
  first | rfl | simp [Around.under, Code.weight, Code.isCreation, Code.isGuard, Code.isCaller, Code.frames, Code.isFrame, guardIds]
theorem a3B {A : Around} {C : Addr} {us : List Value} {kw : List (Str × Value)} : (A.under (.builtin "type.__call__" ⟨.ref C :: us, kw⟩)).units = A.units + 1 := by
  first | rfl | simp [Around.under, Code.cUnits, Code.frames, Code.isFrame]
theorem Room.make {k : Nat} {A : Around} (r : Room (k + 1) A) (C : Addr) (us : List Value) (kw : List (Str × Value)) : Room k (A.under (.builtin "type.__call__" ⟨.ref C :: us, kw⟩)) :=
  ⟨r.hd, by have := r.dp; rw [a3w]; omega, by have := r.un; rw [a3B]; omega⟩
theorem Room.depth {k : Nat} {A : Around} (r : Room k A) : A.depth < recursionLimit := by have := r.dp; omega
theorem Room.units {k : Nat} {A : Around} (r : Room k A) : A.units + 64 < cLine := by have := r.un; omega
def a8i : TA := fun _ H Q => Q [] H
def a9t (ta : TE) (tr : TA) : TA := fun σ H Q => ta σ H fun x H1 => tr σ H1 fun xs H2 => Q (x :: xs) H2
section
variable {X : Cx} {e : Expr} {es : List Expr} {te : TE} {t : TA} {pos : Pos}
theorem c7 : PA X [] a8i := fun _ _ _ _ H Q I h => Calls.spliced_nil ⟨[], H, I, .nil, h⟩
theorem c5 (ha : PE X e te) (hr : PA X es t) (hs : starEach (e :: es) X.env = (false, eval e X.env) :: starEach es X.env := by rfl) : PA X (e :: es) (a9t te t) := by
  intro pos pins s σ H Q I h
  rw [hs]
  show wpAny _ _ (spliced ((false, eval e X.env) :: backTo pos (starEach es X.env))) _ _ s
  refine Calls.spliced_cons (C9 (ha pins s σ H _ I h) fun u s1 ⟨x, H1, I1, r1, q1⟩ => ?_)
  exact C9 (hr pos pins s1 σ H1 _ I1 q1) fun us s2 ⟨xs, H2, I2, r2, q2⟩ => ⟨x :: xs, H2, I2, .cons r1 r2, q2⟩
def b2i (t : TA) : TE := fun σ H Q => t σ H fun xs H1 => xs.length <= sizeLine /\ ∀ p, H1 p = none -> Q (.ref p) (upd H1 p (.tup xs))
def b2I (t : TA) : TE := fun σ H Q => t σ H fun xs H1 => xs.length <= sizeLine /\ ∀ p, H1 p = none -> Q (.ref p) (upd H1 p (.lst xs))
theorem D7 {x1} (h : PA X es t) : PE X (.Tuple es x1 pos) (b2i t) := by
  intro pins s σ H Q I hq
  refine wpAny_Tuple_spliced (C9 (h pos pins s σ H _ I hq) fun us s1 ⟨xs, H1, I1, r, z, q⟩ => ⟨by rw [<- r.length]; exact z, ?_⟩)
  have hf : H1 s1.heap.objs.size = none := I1.hok.fresh (Nat.le_refl _)
  refine ⟨.ref s1.heap.objs.size, upd H1 s1.heap.objs.size (.tup xs), I1.laid (t' := s1.toks) (fun b u e => Heap.get?_push_of_some _ e) (Nat.le_refl _) ?_, rfl, q _ hf⟩
  exact ⟨z, us, r, ⟨_, Heap.get?_push_size _ rfl, rfl, _, rfl⟩⟩
theorem x6 (h : PA X es t) : PE X (.List es pos) (b2I t) := by
  intro pins s σ H Q I hq
  refine wpAny_List_spliced (C9 (h pos pins s σ H _ I hq) fun us s1 ⟨xs, H1, I1, r, z, q⟩ => ⟨by rw [<- r.length]; exact z, ?_⟩)
  have hf : H1 s1.heap.objs.size = none := I1.hok.fresh (Nat.le_refl _)
  refine ⟨.ref s1.heap.objs.size, upd H1 s1.heap.objs.size (.lst xs), I1.laid (t' := s1.toks) (fun b u e => Heap.get?_push_of_some _ e) (Nat.le_refl _) ?_, rfl, q _ hf⟩
  exact ⟨z, us, 0, r, Heap.get?_push_size _ rfl⟩
end
abbrev Sp := List V -> Hp -> VK -> XK -> Prop
abbrev CXT := List Env -> Hp -> Shared -> XK -> Value -> Shared -> Prop
structure Env0 (P : Program) (w : World) (K : W.Frag) (mg : Str -> Option Value) (base : Heap) (A : Around) (outer : List Env) (s : Shared) (H : Hp) : Prop where
  frames : A.frames = some outer
  mod : Mod K mg base
  bs : ∀ b o, base.get? b = some o -> s.heap.get? b = some o /\ H b = none
  bsz : base.objs.size <= s.heap.objs.size
  funs : s.heap.FunFrames base outer
  frf : ∀ b ∈ frs outer, H b = none
  hok : HOk P w H s.heap
  bare : AllBare s.gens
def CE (outer : List Env) (P : Program) (w : World) (H : Hp) (s : Shared) (Q : VK) (u : Value) (s' : Shared) : Prop :=
  ∃ v H', s'.os = s.os /\ AllBare s'.gens /\ Un (frs outer) [] H H' s.heap s'.heap /\ HOk P w H' s'.heap /\ RelV v u /\ Q v H'
def CR (CX : CXT) (outer : List Env) (P : Program) (w : World) (H : Hp) (s : Shared) (Q : VK) (E : XK) (r : Result) (s' : Shared) : Prop :=
  match r with
  | .ok (.ret u) => CE outer P w H s Q u s'
  | .ok _ => False
  | .error e => CX outer H s E e s'
structure FnOk (P : Program) (w : World) (K : W.Frag) (mg : Str -> Option Value) (base : Heap) (CX : CXT) (k : Nat) (f : Addr) (fd : FuncData) (ps : List Str) (sp : Sp) : Prop where
  len : ∀ vs H Q E, sp vs H Q E -> vs.length = ps.length
  run : ∀ (A : Around) (outer : List Env) (s : Shared) (H : Hp) (args : Args) (us : List Value) (vs : List V) (Q : VK) (E : XK), Room k A -> Env0 P w K mg base A outer s H -> BindsTo s fd args (ps.zip us) -> Vals vs us -> sp vs H Q E →
    codeAny (model P w) A (.call (.ref f) args) (CR CX outer P w H s Q E) s
theorem FnOk.imp {P : Program} {w : World} {K : W.Frag} {mg : Str -> Option Value} {base : Heap} {CX : CXT} {k : Nat} {f : Addr} {fd : FuncData} {ps : List Str} {sp sp' : Sp} (F : FnOk P w K mg base CX k f fd ps sp)
    (h : ∀ vs H Q E, sp' vs H Q E -> sp vs H Q E) : FnOk P w K mg base CX k f fd ps sp' :=
  ⟨fun vs H Q E q => F.len vs H Q E (h _ _ _ _ q), fun A outer s H args us vs Q E hr he hb hv hs => F.run A outer s H args us vs Q E hr he hb hv (h _ _ _ _ hs)⟩
theorem Env0.make {P : Program} {w : World} {K : W.Frag} {mg : Str -> Option Value} {base : Heap} {A : Around} {outer : List Env} {s : Shared} {H : Hp} (e : Env0 P w K mg base A outer s H) (C : Addr) (us : List Value) (kw : List (Str × Value)) :
    Env0 P w K mg base (A.under (.builtin "type.__call__" ⟨.ref C :: us, kw⟩)) outer s H := ⟨by first | exact e.frames | (simpa [Around.under, Code.envs, Code.isFrame, pushEnvs] using e.frames), e.mod, e.bs, e.bsz, e.funs, e.frf, e.hok, e.bare⟩
section
variable {X : Cx} {pins : List (Addr × Obj)} {σ : St} {H : Hp} {s s' : Shared}
theorem Inv.env0 (I : Inv X pins σ H s) : Env0 X.prog X.w X.K X.mg X.base X.A X.stack s H :=
  ⟨I.ok.frames, I.ok.mod, I.bs, Nat.le_trans I.ok.bsz I.sz, I.stack, I.stkFree, I.hok, I.bare⟩
theorem Inv.after {Q : VK} {u : Value} (I : Inv X pins σ H s) (h : CE X.stack X.prog X.w H s Q u s') : EP X pins σ Q u s' := by
  obtain ⟨v, H', os, bare, un, hok, r, q⟩ := h
  obtain ⟨hh, g, d, t, os'⟩ := s'
  obtain rfl : os' = s.os := os
  exact ⟨v, H', I.call (h' := hh) (g' := g) (d' := d) (t' := t) (ch := []) un hok bare (fun b z => absurd z (by simp)), r, q⟩
end
def a9p (sp : Sp) (dvs : List V) (E : XK) (t : TA) : TE := fun σ H Q => t σ H fun vs H1 => sp (vs ++ dvs) H1 Q E
def a9j (C : Addr) (m : Str) (sp : Sp) (dvs : List V) (E : XK) (ta : TE) (t : TA) : TE := fun σ H Q => ta σ H fun x H1 => ∃ a dx fs, x = .ref a /\ H1 a = some (.ins C dx fs) /\ fs.lookup m = none ∧
  t σ H1 fun vs H2 => sp (x :: (vs ++ dvs)) H2 Q E
def b1l (C : Addr) (sp : Sp) (dvs : List V) (E : XK) (t : TA) : TE := fun σ H Q => t σ H fun vs H1 => ∀ x dx, H1 x = none -> H1 dx = none -> dx ≠ x →
  sp (.ref x :: (vs ++ dvs)) (upd (upd H1 dx (.own x)) x (.ins C dx [])) (fun v H2 => v = .non /\ Q (.ref x) H2) E
def Binds (K : W.Frag) (fd : FuncData) (ps : List Str) (ds : List Value) : Prop :=
  ∀ (s : Shared) (us : List Value), K.In s.heap -> (us ++ ds).length = ps.length -> BindsTo s fd ⟨us, []⟩ (ps.zip (us ++ ds))
theorem Binds.all {K : W.Frag} {fd : FuncData} {ps : List Str} (h : ∀ us : List Value, us.length = ps.length -> bindArgs fd ⟨us, []⟩ = pure (ps.zip us)) : Binds K fd ps [] := fun s us _ hl => by
  rw [List.append_nil] at hl ⊢
  exact .of_eq (h us hl)
def P2 (CX : CXT) (X : Cx) (E : XK) : Prop := ∀ (pins : List (Addr × Obj)) (σ : St) (H : Hp) (s : Shared) (e : Value) (s' : Shared), Inv X pins σ H s -> CX X.stack H s E e s' -> X.xe e s'
section
variable {X : Cx} {CX : CXT} {k : Nat} {f C : Addr} {fd : FuncData} {ps : List Str} {sp : Sp} {dvs : List V} {ds : List Value} {E : XK} {x m : Str} {p pos apos : Pos} {e o : Expr} {es : List Expr} {ta : TE} {t : TA}
theorem a3E {pins : List (Addr × Obj)} {σ : St} {H : Hp} {s : Shared} {Q : VK} {us : List Value} {vs : List V} (F : FnOk X.prog X.w X.K X.mg X.base CX k f fd ps sp) (hr : Room k X.A) (hb : Binds X.K fd ps ds) (hd : Vals dvs ds) (hx : P2 CX X E)
    (I : Inv X pins σ H s) (r : Vals vs us) (h : sp (vs ++ dvs) H Q E) : wpAny (model X.prog X.w) X.A (call (.ref f) us) (EP X pins σ Q) X.xe s := by
  have r2 : Vals (vs ++ dvs) (us ++ ds) := r.append hd
  have hl : (us ++ ds).length = ps.length := by rw [<- r2.length]; exact F.len _ _ _ _ h
  refine wpAny_call (codeAny_mono (F.run X.A X.stack s H ⟨us, []⟩ (us ++ ds) (vs ++ dvs) Q E hr I.env0 (hb s us I.kIn hl) r2 h) fun r s' hq => ?_)
  cases r with
  | error e => exact hx pins σ H s e s' I hq
  | ok fl =>
    cases fl with
    | ret u => exact I.after hq
    | next => exact False.elim hq
    | brk => exact False.elim hq
    | cont => exact False.elim hq
theorem m8 (F : FnOk X.prog X.w X.K X.mg X.base CX k f fd ps sp) (hr : Room k X.A) (hg : Gl X x) (hm : X.mg x = some (.ref f)) (hk : W.keepIn X.K (.ref f) = true) (hb : Binds X.K fd ps ds) (hd : Vals dvs ds) (hx : P2 CX X E)
    (ha : PA X (e :: es) t) (hdb : (x == ("__debug__" : Str)) = false := by decide) (he : starEach (e :: es) X.env = (false, eval e X.env) :: starEach es X.env := by rfl) (hpl : (backTo pos (starEach es X.env)).any (·.1) = false := by rfl) :
    PE X (.Call (.Name x p) (e :: es) [] pos) (a9p sp dvs E t) := by
  intro pins s σ H Q I h
  refine wpAny_Call_Name_kw (P6 I hg hm ?_ hdb)
  refine W.callWith_K (h₀ := X.base) I.ok.mod.kin hk (C9 (ha pos pins s σ H _ I h) fun us s1 ⟨vs, H1, I1, r, q⟩ => ⟨I1.kIn, ?_⟩) he hpl
  exact a3E F hr hb hd hx I1 r q
theorem a1Z {pl : Sem Bool} (he : PE X o ta) (c : Cls X.K C) (hm : a8s X.K C m f) (F : FnOk X.prog X.w X.K X.mg X.base CX k f fd ps sp) (hr : Room k X.A) (hb : Binds X.K fd ps ds) (hd : Vals dvs ds) (hx : P2 CX X E) (ha : PA X (e :: es) t)
    (hst : starEach (e :: es) X.env = (false, eval e X.env) :: starEach es X.env := by rfl) (hpl : (backTo pos (starEach es X.env)).any (·.1) = false := by rfl)
    (ht : eval (.Call (.Attribute o m apos) (e :: es) [] pos) X.env = (do
      let ov <- eval o X.env
      standAt apos.atName
      let (f, first) <- holding [ov] (getMethod ov m pl)
      callWith pos f first (backTo pos (starEach (e :: es) X.env)) (backToKw pos (keywordEach [] X.env))) := by rfl) :
    PE X (.Call (.Attribute o m apos) (e :: es) [] pos) (a9j C m sp dvs E ta t) := by
  intro pins s σ H Q I h
  refine W.methodCall_KW (pl := pl) (C9 (he pins s σ H _ I h) fun u s1 ⟨x, H1, I1, rx, a, dx, fs, ex, ea, l, q⟩ => ?_) ht
  subst ex
  obtain rfl : u = Value.ref a := rx
  refine a0Z I1 ea c hm l ?_
  refine W.callWith_K (first := [.ref a]) (h₀ := X.base) I.ok.mod.kin hm.kp (C9 (ha pos pins s1 σ H1 _ I1 q) fun us s2 ⟨vs, H2, I2, r, q2⟩ => ⟨I2.kIn, ?_⟩) hst hpl
  exact a3E (us := .ref a :: us) (vs := .ref a :: vs) F hr hb hd hx I2 (.cons rfl r) q2
theorem Y8 {pl : Sem Bool} (he : PE X o ta) (c : Cls X.K C) (hm : a8s X.K C m f) (F : FnOk X.prog X.w X.K X.mg X.base CX k f fd ps sp) (hr : Room k X.A) (hb : Binds X.K fd ps ds) (hd : Vals dvs ds) (hx : P2 CX X E)
    (ht : eval (.Call (.Attribute o m apos) [] [] pos) X.env = (do
      let ov <- eval o X.env
      standAt apos.atName
      let (f, first) <- holding [ov] (getMethod ov m pl)
      callWith pos f first (backTo pos (starEach [] X.env)) (backToKw pos (keywordEach [] X.env))) := by rfl) :
    PE X (.Call (.Attribute o m apos) [] [] pos) (a9j C m sp dvs E ta a8i) := by
  intro pins s σ H Q I h
  refine W.methodCall_KW (pl := pl) (C9 (he pins s σ H _ I h) fun u s1 ⟨x, H1, I1, rx, a, dx, fs, ex, ea, l, q⟩ => ?_) ht
  subst ex
  obtain rfl : u = Value.ref a := rx
  refine a0Z I1 ea c hm l ?_
  exact W.callWith_K0 (first := [.ref a]) I1.kIn hm.kp (a3E (us := [.ref a]) (vs := [.ref a]) F hr hb hd hx I1 (.cons rfl .nil) q)
structure Mk (K : W.Frag) (C f : Addr) : Prop where
  makes : W.makesIn K C = true
  init : W.findIn K (.ref C) "__init__" = some (some (.ref f))
  fn : W.isFn K (.ref f) = true
  kp : W.keepIn K (.ref C) = true
theorem a6U {pins : List (Addr × Obj)} {σ : St} {H : Hp} {s : Shared} {Q : VK} {us : List Value} {vs : List V} (M : Mk X.K C f) (F : FnOk X.prog X.w X.K X.mg X.base CX k f fd ps sp) (hr : Room (k + 1) X.A) (hb : Binds X.K fd ps ds) (hd : Vals dvs ds)
    (hx : P2 CX X E) (I : Inv X pins σ H s) (r : Vals vs us)
    (h : ∀ x dx, H x = none -> H dx = none -> dx ≠ x -> sp (.ref x :: (vs ++ dvs)) (upd (upd H dx (.own x)) x (.ins C dx [])) (fun v H2 => v = .non /\ Q (.ref x) H2) E) :
    wpAny (model X.prog X.w) X.A (call (.ref C) us) (EP X pins σ Q) X.xe s := by
  have hq := h (s.heap.objs.size + 1) s.heap.objs.size (I.hok.fresh (Nat.le_succ _)) (I.hok.fresh (Nat.le_refl _)) (Nat.ne_of_lt (Nat.lt_succ_self _))
  have I2 := Inv.made (C := C) I
  have r2 : Vals (V.ref (s.heap.objs.size + 1) :: (vs ++ dvs)) (Value.ref (s.heap.objs.size + 1) :: (us ++ ds)) := .cons rfl (r.append hd)
  have hl : (Value.ref (s.heap.objs.size + 1) :: us ++ ds).length = ps.length := by
    have e := r2.length
    rw [F.len _ _ _ _ hq] at e
    exact e.symm
  refine wpAny_call (a6d (f := f) I.kIn M.makes M.init (beq_iff_eq.mp M.fn) (codeAny_mono (F.run _ X.stack _ _ ⟨Value.ref (s.heap.objs.size + 1) :: us, []⟩ (Value.ref (s.heap.objs.size + 1) :: (us ++ ds)) _ _ E (hr.make C us [])
    (I2.env0.make C us []) (hb _ (Value.ref (s.heap.objs.size + 1) :: us) I2.kIn hl) r2 hq) fun r s' hq' => ?_))
  cases r with
  | error e => exact hx pins σ _ _ e s' I2 hq'
  | ok fl =>
    cases fl with
    | ret u =>
      obtain ⟨v, H', I3, rv, ev, q3⟩ := I2.after hq'
      subst ev
      exact ⟨rv, ⟨V.ref (s.heap.objs.size + 1), H', I3, rfl, q3⟩⟩
    | next => exact False.elim hq'
    | brk => exact False.elim hq'
    | cont => exact False.elim hq'
theorem a7S (M : Mk X.K C f) (F : FnOk X.prog X.w X.K X.mg X.base CX k f fd ps sp) (hr : Room (k + 1) X.A) (hg : Gl X x) (hm : X.mg x = some (.ref C)) (hb : Binds X.K fd ps ds) (hd : Vals dvs ds) (hx : P2 CX X E)
    (ha : PA X (e :: es) t) (hdb : (x == ("__debug__" : Str)) = false := by decide) (he : starEach (e :: es) X.env = (false, eval e X.env) :: starEach es X.env := by rfl) (hpl : (backTo pos (starEach es X.env)).any (·.1) = false := by rfl) :
    PE X (.Call (.Name x p) (e :: es) [] pos) (b1l C sp dvs E t) := by
  intro pins s σ H Q I h
  refine wpAny_Call_Name_kw (P6 I hg hm ?_ hdb)
  refine W.callWith_K (h₀ := X.base) I.ok.mod.kin M.kp (C9 (ha pos pins s σ H _ I h) fun us s1 ⟨vs, H1, I1, r, q⟩ => ⟨I1.kIn, ?_⟩) he hpl
  exact a6U M F hr hb hd hx I1 r q
end
section
variable {X : Cx} {CX : CXT} {k : Nat} {f C : Addr} {fd : FuncData} {ps ks : List Str} {sp : Sp} {E : XK} {x m : Str} {p pos apos kpos : Pos} {e o : Expr} {es : List Expr} {kws : List Keyword} {te ta : TE} {t tk : TA} {nm : Option Str}
structure b2U (K : W.Frag) (fd : FuncData) (ps ks : List Str) (g : List Value -> List Value -> List Value) (gV : List V -> List V -> List V) : Prop where
  to : ∀ (s : Shared) (us ws : List Value), K.In s.heap -> (g us ws).length = ps.length -> BindsTo s fd ⟨us, ks.zip ws⟩ (ps.zip (g us ws))
  rel : ∀ {vs : List V} {us : List Value} {zs : List V} {ws : List Value}, Vals vs us -> Vals zs ws -> Vals (gV vs zs) (g us ws)
variable {g : List Value -> List Value -> List Value} {gV : List V -> List V -> List V}
end
structure m6 (N P : List Str) (sc : Scope) : Prop where
  kind : sc.kind = .function
  co : sc.isCoroutine = false
  gen : sc.isGenerator = false
  nd : N.Nodup
  pre : N.take P.length = P
  par : ∀ x ∈ P, sc.names.lookup x = some .local \/ sc.names.lookup x = some .cell
  nofree : ∀ y ∈ sc.names, y.2 ≠ .free
theorem a1N {kindOf : Str -> Option NameKind} {x : Str} : ∀ {binds : List (Str × Value)} {m : Str -> Option Value}, (∀ v, (x, v) ∉ binds) -> bindL kindOf binds m x = m x
  | [], _, _ => rfl
  | (n, v) :: r, m, h => by
    unfold bindL
    rw [a1N fun w hw => h w (List.mem_cons_of_mem _ hw)]
    split
    . have : x ≠ n := by rintro rfl; exact h v List.mem_cons_self
      simp [this]
    . rfl
theorem a1M {kindOf : Str -> Option NameKind} {x : Str} : ∀ {binds : List (Str × Value)} {m : Str -> Option Value}, (∀ v, (x, v) ∉ binds) -> bindC kindOf binds m x = m x
  | [], _, _ => rfl
  | (n, v) :: r, m, h => by
    unfold bindC
    rw [a1M fun w hw => h w (List.mem_cons_of_mem _ hw)]
    split
    . rfl
    . have : x ≠ n := by rintro rfl; exact h v List.mem_cons_self
      simp [this]
theorem a1E {kindOf : Str -> Option NameKind} {x : Str} {v : Value} : ∀ {P : List Str} {vs : List Value} {i : Nat} {m : Str -> Option Value}, P.Nodup -> P[i]? = some x -> vs[i]? = some v -> kindOf x = some .local →
    bindL kindOf (P.zip vs) m x = some v
  | [], _, _, _, _, h, _, _ => by simp at h
  | _ :: _, [], _, _, _, _, h, _ => by simp at h
  | p :: P, w :: vs, 0, m, nd, h1, h2, hk => by
    simp at h1 h2; subst h1; subst h2
    show bindL kindOf ((p, w) :: P.zip vs) m p = _
    unfold bindL
    rw [a1N fun v hv => (List.nodup_cons.mp nd).1 (List.of_mem_zip hv).1, if_pos hk]
    simp
  | p :: P, w :: vs, i + 1, m, nd, h1, h2, hk => by
    show bindL kindOf ((p, w) :: P.zip vs) m x = _
    unfold bindL
    exact a1E (i := i) (List.nodup_cons.mp nd).2 (by simpa using h1) (by simpa using h2) hk
theorem a1K {kindOf : Str -> Option NameKind} {x : Str} {v : Value} : ∀ {P : List Str} {vs : List Value} {i : Nat} {m : Str -> Option Value}, P.Nodup -> P[i]? = some x -> vs[i]? = some v -> kindOf x ≠ some .local →
    bindC kindOf (P.zip vs) m x = some v
  | [], _, _, _, _, h, _, _ => by simp at h
  | _ :: _, [], _, _, _, _, h, _ => by simp at h
  | p :: P, w :: vs, 0, m, nd, h1, h2, hk => by
    simp at h1 h2; subst h1; subst h2
    show bindC kindOf ((p, w) :: P.zip vs) m p = _
    unfold bindC
    rw [a1M fun v hv => (List.nodup_cons.mp nd).1 (List.of_mem_zip hv).1, if_neg hk]
    simp
  | p :: P, w :: vs, i + 1, m, nd, h1, h2, hk => by
    show bindC kindOf ((p, w) :: P.zip vs) m x = _
    unfold bindC
    exact a1K (i := i) (List.nodup_cons.mp nd).2 (by simpa using h1) (by simpa using h2) hk
def M2 (N : List Str) (vs : List V) : St := vs.map some ++ List.replicate (N.length - vs.length) none
def M1 (CX : CXT) (P : Program) (w : World) (K : W.Frag) (mg : Str -> Option Value) (base : Heap) (N : List Str) (qual : Str) (scope : Scope) (f : Addr) (cd : Value) (A : Around) (outer : List Env) (s : Shared) (H : Hp) (E : XK) : Cx where
  prog := P
  w := w
  K := K
  mg := mg
  base := base
  A := A.deeper (envOfC qual scope s.heap.objs.size f cd)
  N := N
  s₀ := s
  H₀ := H
  env := envOfC qual scope s.heap.objs.size f cd
  outer := outer
  stack := envOfC qual scope s.heap.objs.size f cd :: outer
  ex := []
  calm := true
  fn := fun _ => true
  pn := []
  xe := fun e s' => wpAny (model P w) (A.deeper (envOfC qual scope s.heap.objs.size f cd)) (leaving (envOfC qual scope s.heap.objs.size f cd) e) (fun _ s'' => CX outer H s E e s'') (fun e' s'' => CX outer H s E e' s'') s'
theorem a2N {sc : Scope} {n : Nat} {x : Str} (h : sc.names.lookup x = some .cell) : ∃ c, (cellsFrom n sc.names []).lookup x = some c := by
  have q := W.cellsFrom_some sc.names n [] (.inl h)
  exact Option.isSome_iff_exists.mp q
theorem a1B {CX : CXT} {P : Program} {w : World} {K : W.Frag} {mg : Str -> Option Value} {base : Heap} {N ps : List Str} {qual : Str} {scope : Scope} {f : Addr} {cd : Value} {A : Around} {outer : List Env} {s s1 : Shared} {H : Hp} {E : XK} {us : List Value} {vs : List V}
    (S : m6 N ps scope) (hd : A.handled = none) (e0 : Env0 P w K mg base A outer s H) (hl : vs.length = ps.length) (r : Vals vs us)
    (x : InCallC s s.heap.objs.size (bindL (envOfC qual scope s.heap.objs.size f cd).kindOf (ps.zip us) fun _ => none) (cellsFrom (s.heap.objs.size + 1) scope.names []) (bindC (envOfC qual scope s.heap.objs.size f cd).kindOf (ps.zip us) fun _ => none) s1) :
    Inv (M1 CX P w K mg base N qual scope f cd A outer s H E) [] (M2 N vs) H s1 := by
  have hpl : ps.length <= N.length := by have := congrArg List.length S.pre; rw [List.length_take] at this; omega
  obtain ⟨h1, tk, rfl, hk⟩ := x.done
  have noA : ∀ b : Addr, b ∉ (M1 CX P w K mg base N qual scope f cd A outer s H E).ex := fun b z => absurd (show b ∈ ([] : List Addr) from z) (by simp)
  refine ⟨⟨e0.mod, S.kind, rfl, rfl, Nat.le_refl _, fun y z c h1 h2 => ?_, fun y hy => ?_, fun y c _ h => ?_, fun _ => hd, Around.frames_deeper e0.frames, .inr ⟨rfl, rfl⟩, fun b z => absurd z (noA b), e0.bs, e0.bsz, fun b _ _ => noA b, fun b z => absurd z (noA b), e0.funs, e0.frf⟩,
    rfl, e0.bare, Un.kept hk, ⟨_, x.toInCall.ns, fun i y v h1 h2 h3 => ?_⟩, fun y c h => ⟨_, x.cell y c h⟩, e0.hok.fresh (Nat.le_refl _), fun y c h => ?_, fun p hp => absurd (show p ∈ ([] : List (Addr × Obj)) from hp) (by simp), e0.hok.kept hk, ?_⟩
  . exact name_of_addr x.apart (PySem.mem_of_lookup h1) (PySem.mem_of_lookup h2)
  . have hy : scope.names.lookup y = some .cell \/ scope.names.lookup y = some .free := hy
    rcases hy with hy | hy
    . exact a2N hy
    . exact absurd rfl (S.nofree _ (PySem.mem_of_lookup hy))
  . exact Nat.le_of_lt (x.above y c (PySem.mem_of_lookup h))
  . have hi : i < vs.length := by
      unfold M2 at h2
      by_cases hi : i < vs.length
      . exact hi
      . rw [List.getElem?_append_right (by simpa using hi)] at h2
        rw [List.getElem?_replicate] at h2
        split at h2 <;> cases h2
    have ha : vs[i]? = some v := by
      unfold M2 at h2
      rw [List.getElem?_append_left (by simpa using hi), List.getElem?_map] at h2
      cases e : vs[i]? with
      | none => rw [e] at h2; cases h2
      | some a => rw [e] at h2; cases h2; rfl
    obtain ⟨u, hu, rv⟩ := r.get ha
    have hp : ps[i]? = some y := by
      rw [<- S.pre, List.getElem?_take_of_lt (by omega)]; exact h1
    have ndP : ps.Nodup := by rw [<- S.pre]; exact S.nd.sublist (List.take_sublist _ _)
    refine ⟨u, rv, ?_⟩
    rcases S.par y (List.mem_of_getElem? hp) with k | k
    . exact .inl ⟨k, a1E ndP hp hu k⟩
    . obtain ⟨c, e⟩ := a2N (n := s.heap.objs.size + 1) k
      refine .inr ⟨.inl k, c, e, ?_⟩
      have q := x.cell y c e
      rw [a1K ndP hp hu (by show scope.names.lookup y ≠ _; rw [k]; decide)] at q
      exact q
  . exact e0.hok.fresh (Nat.le_of_lt (x.above y c (PySem.mem_of_lookup h)))
  . unfold M2
    show _ = N.length
    rw [List.length_append, List.length_map, List.length_replicate]
    omega
theorem a7v {CX : CXT} {P : Program} {w : World} {K : W.Frag} {mg : Str -> Option Value} {base : Heap} {k : Nat} {f : Addr} {name qual : Str} {params : Arguments} {body : List Stmt} {scope : Scope} {dV kV doc pm cdv ct oc : Value} {an od : Option Addr}
    {osl : Array (Option Value)} {N ps : List Str} {sp : Sp} (lk : K.lookup f = some ⟨oc, od, .func (W.fnOf name qual params body scope dV kV doc pm an cdv ct), osl⟩) (hcd : W.codeIn K cdv qual = true) (S : m6 N ps scope)
    (len : ∀ vs H Q E, sp vs H Q E -> vs.length = ps.length)
    (hbody : ∀ (A : Around) (outer : List Env) (s : Shared) (H : Hp) (vs : List V) (Q : VK) (E : XK), Room k (A.deeper (envOfC qual scope s.heap.objs.size f cdv)) -> sp vs H Q E →
      ∃ t, PSs (M1 CX P w K mg base N qual scope f cdv A outer s H E) body t /\ t { nx := fun _ H' => Q .non H', rt := Q } (M2 N vs) H) :
    FnOk P w K mg base CX (k + 1) f (W.fnOf name qual params body scope dV kV doc pm an cdv ct) ps sp := by
  refine ⟨len, fun A outer s H args us vs Q E hr e0 hb r hsp => ?_⟩
  have hl := len _ _ _ _ hsp
  have KX : K.In s.heap := e0.mod.kin.keeps fun b o e => (e0.bs b o e).1
  have lim : s.heap.NoLimit := e0.mod.nolimit.keeps fun b o e => (e0.bs b o e).1
  have hkind : ∀ y ∈ ps.zip us, scope.names.lookup y.1 = some .local \/ (scope.names.lookup y.1 = some .cell /\ ((cellsFrom (s.heap.objs.size + 1) scope.names []).lookup y.1).isSome = true) := fun ⟨n, v⟩ hy => by
    rcases S.par n (List.of_mem_zip hy).1 with q | q
    . exact .inl q
    . exact .inr ⟨q, W.cellsFrom_some _ _ _ (.inl q)⟩
  refine codeAny_call_function hr.depth (KX _ _ lk) rfl S.co S.gen rfl (W.codeRec_of KX hcd) (hb _ _ _ _ ?_)
  refine wpAny_newFunctionEnv_cells S.kind hkind fun env he s1 x => ?_
  subst he
  refine ⟨lim.keeps x.toInCall.keep, codeAny_func ?_⟩
  obtain ⟨t, ht, hq⟩ := hbody A outer s H vs Q E (hr.deeper _) hsp
  have I : Inv (M1 CX P w K mg base N qual scope f cdv A outer s H E) [] (M2 N vs) H s1 := a1B S hr.hd e0 hl r x
  refine wpAny_mono (ht [] s1 (M2 N vs) H _ I hq) (fun fl s' hs => ?_) fun e s' hs => hs
  have fin : ∀ {σ' : St} {H' : Hp} {v : V} {u : Value}, Inv (M1 CX P w K mg base N qual scope f cdv A outer s H E) [] σ' H' s' -> RelV v u -> Q v H' -> CE outer P w H s Q u s' :=
    fun {σ' H' v u} J rv q => ⟨v, H', J.os, J.bare, J.base, J.hok, rv, q⟩
  cases fl with
  | ret u =>
    obtain ⟨v, σ', H', J, rv, q⟩ := hs
    exact fin J rv q
  | next =>
    obtain ⟨σ', H', J, q⟩ := hs
    exact fin (v := V.non) (u := Value.none) J rfl q
  | brk =>
    obtain ⟨_, _, _, q⟩ := hs
    exact False.elim q
  | cont =>
    obtain ⟨_, _, _, q⟩ := hs
    exact False.elim q
end L2
namespace L2
open PySem PySem.Spec PyProof.Rows
section
variable {X : Cx} {x : Str} {p pos : Pos} {e : Expr} {es : List Expr} {t : TA} {id T : String} {r : List V -> Hp -> VK -> Prop}
def tCB (r : List V -> Hp -> VK -> Prop) (t : TA) : TE := fun σ H Q => t σ H fun vs H1 => r vs H1 Q
theorem j8 (hc : M3 X (.builtin id) r) (hg : Gl X x) (hm : X.mg x = none) (hv : bootBuiltins x = some (.builtin id)) (ha : PA X (e :: es) t) (hn : x ≠ "__name__" := by decide) (hdb : (x == ("__debug__" : Str)) = false := by decide)
    (he : starEach (e :: es) X.env = (false, eval e X.env) :: starEach es X.env := by rfl) (hpl : (backTo pos (starEach es X.env)).any (·.1) = false := by rfl) : PE X (.Call (.Name x p) (e :: es) [] pos) (tCB r t) := by
  intro pins s σ H Q I h
  refine wpAny_Call_Name_kw (X5 I hg hm hv ?_ hn hdb)
  exact PyProof.Rows.callWith_builtin1 (C9 (ha pos pins s σ H _ I h) fun us s1 ⟨vs, H1, I1, r1, q1⟩ => hc pins s1 σ H1 vs us Q I1 r1 q1) he hpl
theorem u0 (hc : M3 X (.type T) r) (hg : Gl X x) (hm : X.mg x = none) (hv : bootBuiltins x = some (.type T)) (ha : PA X (e :: es) t) (hn : x ≠ "__name__" := by decide) (hdb : (x == ("__debug__" : Str)) = false := by decide)
    (he : starEach (e :: es) X.env = (false, eval e X.env) :: starEach es X.env := by rfl) (hpl : (backTo pos (starEach es X.env)).any (·.1) = false := by rfl) : PE X (.Call (.Name x p) (e :: es) [] pos) (tCB r t) := by
  intro pins s σ H Q I h
  refine wpAny_Call_Name_kw (X5 I hg hm hv ?_ hn hdb)
  exact PyProof.Rows.callWith_type1 (C9 (ha pos pins s σ H _ I h) fun us s1 ⟨vs, H1, I1, r1, q1⟩ => hc pins s1 σ H1 vs us Q I1 r1 q1) he hpl
end
end L2
namespace HT
open PySem PyProof.Rows
section
open PySem.SeqAt
open PySem.AutoSeq1 (wpAny_loadPart')
open PySem.MeetsSeq PySem.MeetsSeq2 PySem.MeetsSeq3
end
section
variable {prog : Program} {w : World} {A : Around} {E : Value -> Shared -> Prop} {s : Shared}
theorem cat_tup {t b : Addr} {vs ws : List Value} {Q : Value -> Shared -> Prop} (ht : IsTup s.heap t vs.toArray) (hb : IsTup s.heap b ws.toArray) (hv : vs ≠ [])
    (h1 : ws = [] -> Q (.ref t) s) (h2 : ws ≠ [] -> Q (.ref s.heap.objs.size) { s with heap := s.heap.push { cls := .type "tuple", data := .seq (vs ++ ws).toArray } })
    (hsz : vs.length + ws.length <= sizeLine) : wpAny (model prog w) A (binaryOp .Add (.ref t) (.ref b)) Q E s := by
  obtain ⟨⟨cls, dd, data, sl⟩, ho, hc, n, hd⟩ := id ht
  obtain ⟨⟨cls2, dd2, data2, sl2⟩, ho2, hc2, n2, hd2⟩ := id hb
  simp only at hc hd hc2 hd2
  subst hc hd hc2 hd2
  have e : vs.toArray ++ ws.toArray = (vs ++ ws).toArray := by simp
  by_cases hw : ws = []
  . exact concat_meets ⟨_, ho, rfl⟩ ⟨_, ho2, rfl⟩ noFill_tuple_add seq_tuple_add PySem.F.slot_tuple_add PySem.F.entry_tuple_add (PySem.F.args_tuple_add_2 _ _)
      (tuple_addW1 t b vs.toArray ws.toArray n n2 dd dd2 sl sl2 (by simpa using hv) (by simp [hw])) ⟨ho, ho2, h1 hw⟩
  . refine concat_meets ⟨_, ho, rfl⟩ ⟨_, ho2, rfl⟩ noFill_tuple_add seq_tuple_add PySem.F.slot_tuple_add PySem.F.entry_tuple_add (PySem.F.args_tuple_add_2 _ _)
      (tuple_addW2 t b vs.toArray ws.toArray n n2 dd dd2 sl sl2 (by simpa using hv) (by simpa using hw) (by rw [List.size_toArray, List.size_toArray]; exact hsz)) ⟨ho, ho2, ?_⟩
    rw [e]
    exact h2 hw
def sIx (n d : Nat) : Option Int -> Nat
  | none => d
  | some v => if v < 0 then (v + (n : Int)).toNat else min v.toNat n
theorem sIx_none (n d : Nat) : sIx n d none = d := rfl
theorem sIx_nat (n d k : Nat) : sIx n d (some (k : Int)) = min k n := by
  show (if (k : Int) < 0 then ((k : Int) + (n : Int)).toNat else min (k : Int).toNat n) = min k n
  rw [if_neg (by omega), Int.toNat_natCast]
theorem a9A (n d : Nat) (hd : d <= n) (o : Option Int) : sIx n d o <= n := by
  cases o with
  | none => exact hd
  | some v =>
    show (if v < 0 then (v + (n : Int)).toNat else min v.toNat n) <= n
    by_cases hv : v < 0
    . rw [if_pos hv]; omega
    . rw [if_neg hv]; exact Nat.min_le_right _ _
theorem a4A (v : Int) (n d : Nat) : (if v < 0 then max (v + (n : Int)) 0 else min v (n : Int)) = ((sIx n d (some v) : Nat) : Int) := by
  show (if v < 0 then max (v + (n : Int)) 0 else min v (n : Int)) = (((if v < 0 then (v + (n : Int)).toNat else min v.toNat n) : Nat) : Int)
  by_cases hv : v < 0
  . simp only [if_pos hv]; omega
  . simp only [if_neg hv]; omega
theorem a3J (lo hi : Option Int) (n : Nat) : Builtin.Slice.sliceAdjust lo hi 1 (n : Int) = (((sIx n 0 lo : Nat) : Int), ((sIx n n hi : Nat) : Int)) := by
  have h1 : ¬ ((1 : Int) < 0) := by omega
  unfold Builtin.Slice.sliceAdjust
  simp only [h1, if_false]
  refine Prod.ext ?_ ?_
  . cases lo with
    | none => rfl
    | some v => exact a4A v n 0
  . cases hi with
    | none => rfl
    | some v => exact a4A v n n
theorem a3P (i j : Nat) : Builtin.Slice.slicePlaces (i : Int) (j : Int) 1 = j - i := by
  unfold Builtin.Slice.slicePlaces
  have h1 : (1 : Int) > 0 := by omega
  simp only [h1, if_true, Int.ediv_one]
  split <;> omega
theorem a0Y {v : Value} {o : Option Int} {Q : Option Int -> Shared -> Prop} (p : IsPart v o) (h : Q o s) : wpAny (model prog w) A (Builtin.Slice.slicePartIndex v) Q E s := by
  cases p with
  | none => exact slicePart_none h
  | int i t => exact slicePart_int h
theorem O6 {sl : Addr} {vl vu : Value} {lo hi : Option Int} {n : Nat} {Q : Int × Int × Nat -> Shared -> Prop} (hs : s.heap.IsSliceOf sl vl vu .none) (pl : IsPart vl lo) (pu : IsPart vu hi)
    (h : Q (((sIx n 0 lo : Nat) : Int), 1, sIx n n hi - sIx n 0 lo) s) : wpAny (model prog w) A (Builtin.Slice.sliceApplied (.ref sl) (pure (n : Int))) Q E s := by
  obtain ⟨os, hos, hcs, hds⟩ := id hs
  unfold Builtin.Slice.sliceApplied Builtin.Slice.sliceFields
  refine wpAny_bind (wpAny_bind (wpAny_field hos hds (x := vl) rfl (wpAny_bind (wpAny_field hos hds (x := vu) rfl (wpAny_bind (wpAny_field hos hds (x := .none) rfl (wpAny_pure ?_)))))))
  refine wpAny_bind (slicePart_none ?_)
  show wpAny _ _ (if ((1 : Int) == 0) = true then _ else _) _ _ s
  rw [if_neg (by decide)]
  refine wpAny_bind (a0Y pl (wpAny_bind (a0Y pu (wpAny_bind (wpAny_pure ?_)))))
  show wpAny _ _ (match Builtin.Slice.sliceAdjust lo hi 1 (n : Int) with | (lo, hi) => pure (lo, (1 : Int), Builtin.Slice.slicePlaces lo hi 1)) _ _ s
  rw [a3J lo hi n]
  show wpAny _ _ (pure (((sIx n 0 lo : Nat) : Int), (1 : Int), Builtin.Slice.slicePlaces ((sIx n 0 lo : Nat) : Int) ((sIx n n hi : Nat) : Int) 1)) _ _ s
  rw [a3P]
  exact wpAny_pure h
theorem a7a (xs : Array Value) (i k : Nat) : ((List.range k).filterMap fun (m : Nat) => xs[((i : Int) + (m : Int) * 1).toNat]?).toArray = ((xs.toList.drop i).take k).toArray := by
  have e : (fun (m : Nat) => xs[((i : Int) + (m : Int) * 1).toNat]?) = fun m => xs[i + m]? := by
    funext m
    have : ((i : Int) + (m : Int) * 1).toNat = i + m := by omega
    rw [this]
  rw [e]
  have := pick_run xs i k
  rw [List.filterMap_map] at this
  have e2 : ((fun x => xs[x]?) ∘ fun x => i + x) = fun m => xs[i + m]? := rfl
  rw [e2] at this
  rw [this]
theorem getItem_tuple_cut {t sl : Addr} {items : Array Value} {vl vu : Value} {lo hi : Option Int} {Q : Value -> Shared -> Prop} (ht : IsTup s.heap t items) (hs : s.heap.IsSliceOf sl vl vu .none) (pl : IsPart vl lo) (pu : IsPart vu hi)
    (hw : ¬ (sIx items.size 0 lo = 0 /\ sIx items.size items.size hi = items.size))
    (h : Q (.ref s.heap.objs.size) { s with heap := s.heap.push { cls := .type "tuple", data := .seq ((items.toList.drop (sIx items.size 0 lo)).take (sIx items.size items.size hi - sIx items.size 0 lo)).toArray } })
    (hsz : items.size <= sizeLine) : wpAny (model prog w) A (getItem (.ref t) (.ref sl)) Q E s := by
  have htake : sizeOk (.seq ((items.toList.drop (sIx items.size 0 lo)).take (sIx items.size items.size hi - sIx items.size 0 lo)).toArray) := by
    show ((items.toList.drop (sIx items.size 0 lo)).take (sIx items.size items.size hi - sIx items.size 0 lo)).toArray.size <= sizeLine
    rw [List.size_toArray, List.length_take, List.length_drop, Array.length_toList]
    omega
  have hj : sIx items.size items.size hi <= items.size := a9A _ _ (Nat.le_refl _) hi
  obtain ⟨os, hos, hcs, hds⟩ := id hs
  have hTs : s.TypeIs (.ref sl) "slice" := ⟨os, hos, hcs⟩
  unfold getItem
  try with_reducible refine wpAny_holding ?_
  first | refine wpAny_bind (wpAny_pure ?_) | skip
  refine wpAny_bind (wpAny_sequenceKey ht.typeIs (by decide) ?_)
  refine wpAny_bind (wpAny_callSpecial?_slot (name := Str.ofString "__getitem__") ht.typeIs PyProof.Rows.slot_tuple_getitem
    (wpAny_call_entry PyProof.Rows.slot_tuple_getitem ht.typeIs entry_tuple_getitem ?_ (args_tuple_getitem _ _)))
  show wpAny _ _ (Builtin.Tuple.tupleItemsOf (.ref t) >>= _) _ _ s
  refine wpAny_bind (tupleItemsOf_ ht ?_)
  refine wpAny_bind (wpAny_typeOf hTs ?_)
  rw [if_pos (by decide)]
  refine wpAny_bind (O6 hs pl pu ?_)
  have hno : ¬ ((((sIx items.size 0 lo : Nat) : Int) == 0 && (1 : Int) == 1 && (sIx items.size items.size hi - sIx items.size 0 lo) == items.size) = true) := by
    intro q
    rw [Bool.and_eq_true, Bool.and_eq_true] at q
    have q1 : ((sIx items.size 0 lo : Nat) : Int) = 0 := eq_of_beq q.1.1
    have q2 : sIx items.size items.size hi - sIx items.size 0 lo = items.size := eq_of_beq q.2
    exact hw ⟨by omega, by omega⟩
  show wpAny _ _ (if (((sIx items.size 0 lo : Nat) : Int) == 0 && (1 : Int) == 1 && (sIx items.size items.size hi - sIx items.size 0 lo) == items.size) = true then _ else _) _ _ s
  rw [if_neg hno, a7a]
  first
    | exact wpAny_bind (m := Builtin.Tuple.tupleExact _) (wpAny_newObj_type (wpAny_pure ⟨_, rfl, wpAny_pure h⟩) htake)
    | exact wpAny_bind (m := Builtin.Tuple.tupleExact _) (wpAny_newObj_type (wpAny_bind (wpAny_pure (wpAny_pure ⟨_, rfl, wpAny_pure h⟩))) htake)
    | exact wpAny_bind (wpAny_bind (m := Builtin.Tuple.tupleExact _) (wpAny_newObj_type (wpAny_pure (wpAny_pure ⟨_, rfl, wpAny_pure h⟩)) htake))
    | exact wpAny_bind (wpAny_bind (m := Builtin.Tuple.tupleExact _) (wpAny_newObj_type (wpAny_pure ⟨_, rfl, wpAny_pure h⟩) htake))
end
end HT
namespace L2
open PySem PySem.Spec PyProof.Rows
abbrev TO := St -> Hp -> (Option Int -> Hp -> Prop) -> Prop
def PO (X : Cx) (e : Option Expr) (t : TO) : Prop :=
  ∀ (pins : List (Addr × Obj)) (s : Shared) (σ : St) (H : Hp) (Q : Option Int -> Hp -> Prop), Inv X pins σ H s -> t σ H Q →
    wpAny (model X.prog X.w) X.A (evalPart e X.env) (fun u s' => ∃ o H', Inv X pins σ H' s' /\ IsPart u o /\ Q o H') X.xe s
def a8F : TO := fun _ H Q => Q none H
def b0D (t : TE) : TO := fun σ H Q => t σ H fun x H1 => ∃ i, x = .int i /\ Q (some i) H1
section
variable {X : Cx} {e : Expr} {te : TE} {lo hi : Option Expr} {tl th : TO} {pos p2 : Pos}
theorem F0 : PO X none a8F := by
  intro pins s σ H Q I h
  rw [evalPart_none]
  exact wpAny_pure ⟨none, H, I, .none, h⟩
theorem C3 (h : PE X e te) : PO X (some e) (b0D te) := by
  intro pins s σ H Q I hw
  rw [evalPart_some]
  refine C9 (h pins s σ H _ I hw) fun u s1 ⟨x, H1, I1, r1, q1⟩ => ?_
  obtain ⟨i, rfl, q⟩ := q1
  obtain ⟨t, rfl⟩ := r1
  exact ⟨some i, H1, I1, .int i t, q⟩
def SlR (X : Cx) (r : V -> Option Int -> Option Int -> Hp -> VK -> Prop) : Prop :=
  ∀ (pins : List (Addr × Obj)) (s : Shared) (σ : St) (H : Hp) (x : V) (v vl vu : Value) (lo hi : Option Int) (sl : Addr) (Q : VK), Inv X pins σ H s -> RelV x v -> s.heap.IsSliceOf sl vl vu .none -> IsPart vl lo -> IsPart vu hi -> r x lo hi H Q →
    ∃ T id, typeLookup (.type T) "__getitem__" = pure (some (.builtin id)) /\ s.TypeIs v T /\ wpAny (model X.prog X.w) X.A (getItem v (.ref sl)) (EP X pins σ Q) X.xe s
def tSl (r : V -> Option Int -> Option Int -> Hp -> VK -> Prop) (te : TE) (tl th : TO) : TE := fun σ H Q => te σ H fun x H1 => tl σ H1 fun l H2 => th σ H2 fun u H3 => r x l u H3 Q
theorem B6 {r : V -> Option Int -> Option Int -> Hp -> VK -> Prop} (hr : SlR X r) (he : PE X e te) (hl : PO X lo tl) (hu : PO X hi th) : PE X (.Subscript e (.Slice lo hi none p2) pos) (tSl r te tl th) := by
  intro pins s σ H Q I h
  refine Subscript_ (C9 (he pins s σ H _ I h) fun v s1 ⟨x, H1, I1, r1, q1⟩ => ?_)
  refine wpAny_Slice (C9 (hl pins s1 σ H1 _ I1 q1) fun vl s2 ⟨l, H2, I2, pl, q2⟩ => C9 (hu pins s2 σ H2 _ I2 q2) fun vu s3 ⟨u, H3, I3, pu, q3⟩ => ?_)
  rw [evalPart_none]
  refine wpAny_pure ?_
  have I4 : Inv X pins σ H3 { s3 with heap := s3.heap.push { cls := .type "slice", data := .fields #[vl, vu, .none] } } := I3.kept (t' := s3.toks) fun b ob q => Heap.get?_push_of_some _ q
  obtain ⟨T, id, hT, ht, hg⟩ := hr pins { s3 with heap := s3.heap.push { cls := .type "slice", data := .fields #[vl, vu, .none] } } σ H3 x v vl vu l u s3.heap.objs.size Q I4 r1 (Heap.IsSliceOf.new ..) pl pu q3
  show wpAny (model X.prog X.w) X.A (subscriptTail e (.Slice lo hi none p2) v (.ref s3.heap.objs.size)) (EP X pins σ Q) X.xe { s3 with heap := s3.heap.push { cls := .type "slice", data := .fields #[vl, vu, .none] } }
  exact tail_any (ops := [.ref s3.heap.objs.size, v]) ht hT hg (by with_unfolding_all rfl)
def A6 (xs : List V) (lo hi : Option Int) : List V := (xs.drop (HT.sIx xs.length 0 lo)).take (HT.sIx xs.length xs.length hi - HT.sIx xs.length 0 lo)
theorem S8 (xs : List V) (lo hi : Option Int) : (A6 xs lo hi).length <= xs.length := by
  unfold A6
  rw [List.length_take, List.length_drop]
  omega
def b2P (K : W.Frag) : V -> Option Int -> Option Int -> Hp -> VK -> Prop := fun x lo hi H Q => ∃ a xs, x = .ref a /\ SqT K H a xs ∧
  ¬ (HT.sIx xs.length 0 lo = 0 /\ HT.sIx xs.length xs.length hi = xs.length) /\ ∀ p, H p = none -> Q (.ref p) (upd H p (.tup (A6 xs lo hi)))
theorem b0o : SlR X (b2P X.K) := by
  intro pins s σ H x v vl vu lo hi sl Q I rx hs pl pu h
  obtain ⟨a, xs, rfl, hx, hw, q⟩ := h
  cases rx
  obtain ⟨its, r, ht, hz⟩ := I.tuple hx
  have hlen : its.toArray.size = xs.length := by rw [List.size_toArray]; exact r.length.symm
  refine ⟨"tuple", _, PyProof.Rows.slot_tuple_getitem.lookup, ht.typeIs, ?_⟩
  refine HT.getItem_tuple_cut ht hs pl pu (by rw [hlen]; exact hw) ?_ (by rw [hlen]; exact hz)
  rw [hlen]
  refine ⟨.ref s.heap.objs.size, _, I.laid (t' := s.toks) (o := .tup (A6 xs lo hi)) (fun b ob q => Heap.get?_push_of_some _ q) (Nat.le_refl _) ?_, rfl, q _ (I.hok.fresh (Nat.le_refl _))⟩
  exact ⟨Nat.le_trans (S8 xs lo hi) hz, _, (r.drop (HT.sIx xs.length 0 lo)).take (HT.sIx xs.length xs.length hi - HT.sIx xs.length 0 lo), IsTup.new _ _⟩
def b1c (K : W.Frag) : R2 := fun x y H Q => ∃ a b xs ys, x = .ref a /\ y = .ref b /\ SqT K H a xs /\ SqT K H b ys /\ xs ≠ [] /\ xs.length + ys.length <= sizeLine ∧
  (ys = [] -> Q (.ref a) H) /\ (ys ≠ [] -> ∀ p, H p = none -> Q (.ref p) (upd H p (.tup (xs ++ ys))))
theorem Vals.nil_iff {xs : List V} {us : List Value} (r : Vals xs us) : us = [] ↔ xs = [] := by
  cases r with
  | nil => simp
  | cons _ _ => simp
theorem a0B : X6 X (binaryOp .Add) (b1c X.K) := by
  intro pins s σ H x y v u Q I rx ry h
  obtain ⟨a, b, xs, ys, rfl, rfl, ha, hb, hx, hz, q1, q2⟩ := h
  cases rx
  cases ry
  obtain ⟨its, r1, p1, _⟩ := I.tuple ha
  obtain ⟨its2, r2, p2, _⟩ := I.tuple hb
  refine HT.cat_tup p1 p2 (fun z => hx (r1.nil_iff.mp z)) (fun z => ⟨.ref a, H, I, rfl, q1 (r2.nil_iff.mp z)⟩) (fun z => ?_) (by rw [<- r1.length, <- r2.length]; exact hz)
  refine ⟨.ref s.heap.objs.size, _, I.laid (t' := s.toks) (o := .tup (xs ++ ys)) (fun b ob q => Heap.get?_push_of_some _ q) (Nat.le_refl _) ?_, rfl, q2 (fun w => z (r2.nil_iff.mpr w)) _ (I.hok.fresh (Nat.le_refl _))⟩
  exact ⟨by rw [List.length_append]; exact hz, _, r1.append r2, IsTup.new _ _⟩
end
end L2
namespace L2
open PySem PySem.Spec PyProof.Rows
def ixN (n : Nat) (i : Int) : Option Nat := if 0 <= i then (if i < n then some i.toNat else none) else if -(n : Int) <= i then some (i + n).toNat else none
def X7 {α : Type} (xs : List α) (i : Int) : Option α := (ixN xs.length i).bind fun j => xs[j]?
theorem a4C {n : Nat} {i : Int} {j : Nat} (h : ixN n i = some j) : seqIndex? i n = some j /\ j < n /\ -(n : Int) <= i /\ i < n := by
  unfold ixN at h
  by_cases h0 : 0 <= i
  . rw [if_pos h0] at h
    by_cases h1 : i < n
    . rw [if_pos h1] at h
      have e : i.toNat = j := Option.some.inj h
      exact ⟨by rw [seqIndex_of h0 h1, e], by omega, by omega, h1⟩
    . rw [if_neg h1] at h; cases h
  . rw [if_neg h0] at h
    by_cases h1 : -(n : Int) <= i
    . rw [if_pos h1] at h
      have e : (i + n).toNat = j := Option.some.inj h
      exact ⟨by rw [seqIndex_neg (by omega) h1, e], by omega, h1, by omega⟩
    . rw [if_neg h1] at h; cases h
theorem a4N {α : Type} {xs : List α} {i : Int} {v : α} (h : X7 xs i = some v) : ∃ j, seqIndex? i xs.length = some j /\ xs[j]? = some v /\ j < xs.length /\ -(xs.length : Int) <= i /\ i < xs.length := by
  unfold X7 at h
  cases e : ixN xs.length i with
  | none => rw [e] at h; cases h
  | some j =>
    rw [e] at h
    obtain ⟨h1, h2, h3, h4⟩ := a4C e
    exact ⟨j, h1, h, h2, h3, h4⟩
theorem y6 {α : Type} {xs : List α} {j : Nat} {v : α} (h : xs[j]? = some v) : X7 xs (j : Int) = some v := by
  have hj : j < xs.length := (List.getElem?_eq_some_iff.mp h).1
  have e : ixN xs.length (j : Int) = some j := by
    unfold ixN
    rw [if_pos (by omega), if_pos (by omega)]; simp
  unfold X7; rw [e]; exact h
def a8q (b : Expr) : Prop := ∀ o i, subscripted b false o i = operate [o, i] (getItem o i)
def IxR (X : Cx) (r : R2) : Prop :=
  ∀ (value slice : Expr) (pins : List (Addr × Obj)) (s : Shared) (σ : St) (H : Hp) (x y : V) (v u : Value) (Q : VK), Inv X pins σ H s -> RelV x v -> RelV y u -> r x y H Q →
    subscripted slice false v u = operate [v, u] (getItem v u) -> wpAny (model X.prog X.w) X.A (subscriptTail value slice v u) (EP X pins σ Q) X.xe s
def MtR (X : Cx) (id : String) (r : V -> List V -> Hp -> VK -> Prop) : Prop :=
  ∀ (pins : List (Addr × Obj)) (s : Shared) (σ : St) (H : Hp) (x : V) (xs : List V) (v : Value) (us : List Value) (Q : VK), Inv X pins σ H s -> RelV x v -> Vals xs us -> r x xs H Q →
    wpAny (model X.prog X.w) X.A (call (.builtin id) (v :: us)) (EP X pins σ Q) X.xe s
section
variable {X : Cx} {a b : Expr} {ta tb : TE} {pos : Pos}
theorem j6 {r : R2} (hr : IxR X r) (ha : PE X a ta) (hb : PE X b tb) (hs : a8q b) : PE X (.Subscript a b pos) (tOp r ta tb) := by
  intro pins s σ H Q I h
  exact Subscript_ (b0g ha hb I h fun v u s2 x y H2 I2 rx ry q => hr a b pins s2 σ H2 x y v u Q I2 rx ry q (hs _ _))
def b1E (K : W.Frag) : R2 := fun x y H Q => ∃ p xs i v, x = .ref p /\ y = .int i /\ SqL K H p xs /\ X7 xs i = some v /\ Q v H
def b2M (K : W.Frag) : R2 := fun x y H Q => ∃ p xs i v, x = .ref p /\ y = .int i /\ SqT K H p xs /\ X7 xs i = some v /\ Q v H
theorem j5 : IxR X (b1E X.K) := by
  intro value slice pins s σ H x y v u Q I rx ry h hs
  obtain ⟨p, xs, i, z, rfl, rfl, hq, he, q⟩ := h
  cases rx
  obtain ⟨t, rfl⟩ := ry
  obtain ⟨its, r, pl, hz⟩ := I.list hq
  obtain ⟨j, h1, h2, h3, h4, h5⟩ := a4N he
  obtain ⟨w, ew, rw'⟩ := r.get h2
  have hl := r.length
  have hn := a2v
  have fin : EP X pins σ Q w s := ⟨z, H, I, rw', q⟩
  by_cases h0 : 0 <= i
  . have hj : i.toNat = j := by
      rw [seqIndex_of h0 h5] at h1
      exact Option.some.inj h1
    exact item_listR pl.isList h0 (by omega) (by rw [hj]; simpa using ew) fin hs
  . have hj : (i + (its.toArray.size : Int)).toNat = j := by
      rw [seqIndex_neg (by omega) h4] at h1
      rw [List.size_toArray, <- hl]
      exact Option.some.inj h1
    exact subscriptTail_builtinR (x := w) pl.isList.typeIs slot_list_getitem.lookup
      (wpAny_getItem_list_neg (Q := fun r s' => r = w /\ EP X pins σ Q r s') pl.isList (by omega) (by rw [List.size_toArray] <;> omega) (by omega) (by rw [hj]; simpa using ew) ⟨rfl, fin⟩) hs
theorem B8 : IxR X (b2M X.K) := by
  intro value slice pins s σ H x y v u Q I rx ry h hs
  obtain ⟨p, xs, i, z, rfl, rfl, hq, he, q⟩ := h
  cases rx
  obtain ⟨t, rfl⟩ := ry
  obtain ⟨its, r, pl, hz⟩ := I.tuple hq
  obtain ⟨j, h1, h2, h3, h4, h5⟩ := a4N he
  obtain ⟨w, ew, rw'⟩ := r.get h2
  have hl := r.length
  have hn := a2v
  have fin : EP X pins σ Q w s := ⟨z, H, I, rw', q⟩
  exact subscriptTail_builtinR (x := w) pl.typeIs slot_tuple_getitem.lookup
    (getItem_tuple (j := j) (Q := fun r s' => r = w /\ EP X pins σ Q r s') pl (by omega) (by omega) (by rw [List.size_toArray, <- hl]; exact h1) (by simpa using ew) ⟨rfl, fin⟩) hs
theorem a3D (its : List Value) (n j : Nat) (u : Value) : Obj.mapSeq (·.setIfInBounds j u) { cls := .type "list", data := .seq its.toArray n } = { cls := .type "list", data := .seq (its.set j u).toArray n } := by
  simp [Obj.mapSeq]
theorem Inv.lst {pins : List (Addr × Obj)} {σ : St} {H : Hp} {s : Shared} {p : Addr} {xs : List V} (I : Inv X pins σ H s) (h : H p = some (.lst xs)) :
    ∃ (its : List Value) (n : Nat), Vals xs its /\ s.heap.get? p = some { cls := .type "list", data := .seq its.toArray n } /\ xs.length <= sizeLine := by
  obtain ⟨z, its, n, r, e⟩ := I.hok p _ h
  exact ⟨its, n, r, e, z⟩
theorem Inv.lstUpd {pins : List (Addr × Obj)} {σ : St} {H : Hp} {s : Shared} {p : Addr} {xs ys : List V} {its its' : List Value} {n n' : Nat} {f : Obj -> Obj} (I : Inv X pins σ H s) (h : H p = some (.lst xs))
    (ho : s.heap.get? p = some { cls := .type "list", data := .seq its.toArray n }) (hf : f { cls := .type "list", data := .seq its.toArray n } = { cls := .type "list", data := .seq its'.toArray n' }) (r : Vals ys its') (hz : ys.length <= sizeLine) (t : Nat) :
    Inv X pins σ (upd H p (.lst ys)) { s with heap := s.heap.update p f, toks := t } := by
  have e : (s.heap.update p f).get? p = some { cls := .type "list", data := .seq its'.toArray n' } := by
    rw [Heap.get?_update_self f ho (by rw [hf] <;> rfl), hf]
  refine I.write (x := p) (e := p) (by rw [h]; trivial) (.inl rfl) (fun b u hb q => (Heap.get?_update_other _ _ (Ne.symm hb)).trans q) ⟨_, e⟩ ?_
  exact ⟨hz, its', n', r, e⟩
def b0G : V -> V -> V -> Hp -> (Hp -> Prop) -> Prop := fun o i v H Q => ∃ p xs k j, o = .ref p /\ i = .int k /\ H p = some (.lst xs) /\ ixN xs.length k = some j /\ Q (upd H p (.lst (xs.set j v)))
theorem E8 : b0V X b0G := by
  intro pins s σ H o i v ov iv u Q I ro ri rv h
  obtain ⟨p, xs, k, j, rfl, rfl, hp, hj, q⟩ := h
  cases ro
  obtain ⟨t, rfl⟩ := ri
  obtain ⟨its, n, r, ho, hz⟩ := I.lst hp
  obtain ⟨h1, h2, h3, h4⟩ := a4C hj
  have hl := r.length
  have hn := a2v
  have I' : Inv X pins σ (upd H p (.lst (xs.set j v))) { s with heap := s.heap.update p (Obj.mapSeq (·.setIfInBounds j u)) } :=
    I.lstUpd hp ho (a3D its n j u) (r.set rv j) (by rw [List.length_set]; exact hz) s.toks
  by_cases h0 : 0 <= k
  . have hk : k.toNat = j := by
      rw [seqIndex_of h0 h4] at h1
      exact Option.some.inj h1
    exact W.ki_setAt ho h0 (by omega) (by rw [List.size_toArray, <- hl]; exact h4) (by rw [hk]; exact ⟨_, I', q⟩)
  . have hk : (k + (its.toArray.size : Int)).toNat = j := by
      rw [seqIndex_neg (by omega) h3] at h1
      rw [List.size_toArray, <- hl]
      exact Option.some.inj h1
    exact W.ki_setBack ho (by omega) (by rw [List.size_toArray, <- hl]; exact h3) (by omega) (by rw [hk]; exact ⟨_, I', q⟩)
theorem a2b (lo hi : Option Int) (n : Nat) : (sliceBounds lo hi none n).1 = ((HT.sIx n 0 lo : Nat) : Int) /\ (sliceBounds lo hi none n).2.1 = ((HT.sIx n n hi : Nat) : Int) /\ (sliceBounds lo hi none n).2.2 = 1 := by
  refine ⟨?_, ?_, rfl⟩
  . cases lo with
    | none => simp [sliceBounds, HT.sIx]
    | some i =>
      simp only [sliceBounds, HT.sIx, Option.getD_none, show (1 : Int) > 0 by decide, if_true]
      by_cases h : i < 0
      . simp only [h, if_true] <;> omega
      . simp only [h, if_false] <;> omega
  . cases hi with
    | none => simp [sliceBounds, HT.sIx]
    | some i =>
      simp only [sliceBounds, HT.sIx, Option.getD_none, show (1 : Int) > 0 by decide, if_true]
      by_cases h : i < 0
      . simp only [h, if_true] <;> omega
      . simp only [h, if_false] <;> omega
theorem a1u (its : List Value) (lo hi : Option Int) : slicePick its.toArray lo hi none = ((its.drop (HT.sIx its.length 0 lo)).take (HT.sIx its.length its.length hi - HT.sIx its.length 0 lo)).toArray := by
  obtain ⟨h1, h2, h3⟩ := a2b lo hi its.toArray.size
  unfold slicePick
  rw [h1, h2, h3]
  simp only [sliceRange_one, pick_run, List.size_toArray] <;> rfl
def b2q (K : W.Frag) : V -> Option Int -> Option Int -> Hp -> VK -> Prop := fun x lo hi H Q => ∃ a xs, x = .ref a /\ SqL K H a xs /\ ∀ p, H p = none -> Q (.ref p) (upd H p (.lst (A6 xs lo hi)))
theorem G4 : SlR X (b2q X.K) := by
  intro pins s σ H x v vl vu lo hi sl Q I rx hs pl pu h
  obtain ⟨a, xs, rfl, hx, q⟩ := h
  cases rx
  obtain ⟨its, r, ht, hz⟩ := I.list hx
  have hlen := r.length
  refine ⟨"list", _, slot_list_getitem.lookup, ht.isList.typeIs, ?_⟩
  refine wpAny_getItem_list_slice ht.isList hs pl pu .none (by simp) ?_ (by rw [List.size_toArray] <;> omega)
  rw [a1u, <- hlen]
  refine ⟨.ref s.heap.objs.size, _, I.laid (t' := s.toks) (o := .lst (A6 xs lo hi)) (fun b ob q => Heap.get?_push_of_some _ q) (Nat.le_refl _) ?_, rfl, q _ (I.hok.fresh (Nat.le_refl _))⟩
  exact ⟨Nat.le_trans (S8 xs lo hi) hz, _, 0, (r.drop (HT.sIx xs.length 0 lo)).take (HT.sIx xs.length xs.length hi - HT.sIx xs.length 0 lo), Heap.get?_push_size _ rfl⟩
theorem j9 : M3 X (.builtin "len") (fun xs H Q => ∃ p ys, xs = [.ref p] /\ (SqL X.K H p ys \/ SqT X.K H p ys) /\ Q (.int ys.length) H) := by
  intro pins s σ H xs us Q I r h
  obtain ⟨p, ys, rfl, hq, q⟩ := h
  obtain ⟨u, rfl, rx⟩ := R3 r
  cases rx
  have hn := a2v
  rcases hq with hq | hq
  . obtain ⟨its, r', pl, hz⟩ := I.list hq
    have hlen := r'.length
    exact Calls.call_len_list pl.isList (by simp only [List.size_toArray] <;> omega) ⟨.int ys.length, H, I.tok _, ⟨s.toks + 1, by rw [List.size_toArray, hlen]⟩, q⟩
  . obtain ⟨its, r', pl, hz⟩ := I.tuple hq
    have hlen := r'.length
    exact len_tuple pl (by simp only [List.size_toArray] <;> omega) ⟨.int ys.length, H, I.tok _, ⟨s.toks + 1, by rw [List.size_toArray, hlen]⟩, q⟩
theorem E5 : M3 X (.type "list") (fun xs H Q => ∃ p ys, xs = [.ref p] /\ (SqL X.K H p ys \/ SqT X.K H p ys) /\ ∀ l, H l = none -> Q (.ref l) (upd H l (.lst ys))) := by
  intro pins s σ H xs us Q I r h
  obtain ⟨p, ys, rfl, hq, q⟩ := h
  obtain ⟨u, rfl, rx⟩ := R3 r
  cases rx
  have fin : ∀ (its : List Value), Vals ys its -> ys.length <= sizeLine -> ∀ (h' : Heap) (c' : Nat), (∀ b o', s.heap.get? b = some o' -> h'.get? b = some o') →
      h'.get? s.heap.objs.size = some { cls := .type "list", dict := none, data := .seq its.toArray c', slots := #[] } -> EP X pins σ Q (.ref s.heap.objs.size) { s with heap := h' } := fun its r' hz h' c' kp e =>
    ⟨.ref s.heap.objs.size, _, I.laid (t' := s.toks) kp (Nat.le_refl _) (show ObjOk X.prog X.w _ h' _ (.lst ys) from ⟨hz, its, c', r', e⟩), rfl, q _ (I.hok.fresh (Nat.le_refl _))⟩
  rcases hq with hq | hq
  . obtain ⟨its, r', pl, hz⟩ := I.list hq
    have hlen := r'.length
    obtain ⟨o, ho, hc, n, hd⟩ := pl.isList
    exact call_list_seq p (.inl rfl) ho hc hd (fun h' c' kp e => fin its r' hz h' c' kp e) (by simp only [List.size_toArray] <;> omega)
  . obtain ⟨its, r', pl, hz⟩ := I.tuple hq
    have hlen := r'.length
    obtain ⟨o, ho, hc, n, hd⟩ := pl
    exact call_list_seq p (.inr rfl) ho hc hd (fun h' c' kp e => fin its r' hz h' c' kp e) (by simp only [List.size_toArray] <;> omega)
theorem A8 : M3 X (.type "tuple") (fun xs H Q => ∃ p ys, xs = [.ref p] /\ ((SqL X.K H p ys /\ ∀ l, H l = none -> Q (.ref l) (upd H l (.tup ys))) \/ (SqT X.K H p ys /\ Q (.ref p) H))) := by
  intro pins s σ H xs us Q I r h
  obtain ⟨p, ys, rfl, h⟩ := h
  obtain ⟨u, rfl, rx⟩ := R3 r
  cases rx
  rcases h with ⟨hq, q⟩ | ⟨hq, q⟩
  . obtain ⟨its, r', pl, hz⟩ := I.list hq
    have hlen := r'.length
    refine call_tuple_list pl.isList (fun h' kp => ?_) (by simp only [List.size_toArray] <;> omega)
    have I1 : Inv X pins σ H { s with heap := h' } := I.kept (t' := s.toks) kp
    have I2 : Inv X pins σ (upd H h'.objs.size (.tup ys)) { s with heap := h'.push { cls := .type "tuple", data := .seq its.toArray } } :=
      I1.laid (t' := s.toks) (fun b o e => Heap.get?_push_of_some _ e) (Nat.le_refl _) (show ObjOk X.prog X.w _ _ _ (.tup ys) from ⟨hz, its, r', IsTup.new _ _⟩)
    exact ⟨.ref h'.objs.size, _, I2, rfl, q _ (I1.hok.fresh (Nat.le_refl _))⟩
  . obtain ⟨its, r', pl, hz⟩ := I.tuple hq
    exact call_tuple_same pl ⟨.ref p, H, I, rfl, q⟩
def tyV (K : W.Frag) (T : String) (x : V) (H : Hp) : Prop := match x with
  | .str _ => T = "str"
  | .int _ => T = "int"
  | .ref p => (T = "list" /\ ∃ xs, SqL K H p xs) \/ (T = "tuple" /\ ∃ o, K.lookup p = some o /\ o.cls = .type "tuple" /\ o.dict = none) ∨
      (T = "dict" /\ ((∃ kvs, H p = some (.dK kvs)) \/ ∃ kvs, H p = some (.dT kvs))) \/ (T = "set" /\ ∃ S n, H p = some (.set S n))
  | _ => False
theorem a9z {pins : List (Addr × Obj)} {σ : St} {H : Hp} {s : Shared} {T : String} {x : V} {v : Value} (I : Inv X pins σ H s) (r : RelV x v) (ty : tyV X.K T x H) :
    s.TypeIs v T /\ ∀ a, v = .ref a -> ∃ ob, s.heap.get? a = some ob /\ ob.dict = none := by
  cases x with
  | str z =>
    obtain ⟨t, rfl⟩ := r
    cases (show T = "str" from ty)
    exact ⟨typeIs_str s z t, fun _ e => nomatch e⟩
  | int i =>
    obtain ⟨t, rfl⟩ := r
    cases (show T = "int" from ty)
    exact ⟨typeIs_int s i t, fun _ e => nomatch e⟩
  | ref p =>
    cases r
    rcases ty with ⟨rfl, xs, hq⟩ | ⟨rfl, o, hk, hc, hd⟩ | ⟨rfl, hk⟩ | ⟨rfl, S, n, hk⟩
    . obtain ⟨its, _, pl, _⟩ := I.list hq
      refine ⟨pl.isList.typeIs, fun a e => ?_⟩
      cases e
      obtain ⟨o, n, e, c, hd, _⟩ := pl
      exact ⟨o, e, hd⟩
    . refine ⟨⟨o, I.kIn p o hk, hc⟩, fun a e => ?_⟩
      cases e
      exact ⟨o, I.kIn _ o hk, hd⟩
    . have z : ∃ o, s.heap.get? p = some o /\ o.ExactDict := by
        rcases hk with ⟨kvs, hk⟩ | ⟨kvs, hk⟩
        . obtain ⟨_, _, _, _, o, _, _, e, ex, _⟩ := I.hok p _ hk
          exact ⟨o, e, ex⟩
        . obtain ⟨_, _, _, _, o, _, _, e, ex, _⟩ := I.hok p _ hk
          exact ⟨o, e, ex⟩
      obtain ⟨o, e, ex⟩ := z
      refine ⟨⟨o, e, ex.1⟩, fun a e2 => ?_⟩
      cases e2
      exact ⟨o, e, ex.2.1⟩
    . obtain ⟨o, _, _, _, e, ex, _⟩ := I.hok p _ hk
      refine ⟨⟨o, e, ex.1⟩, fun a e2 => ?_⟩
      cases e2
      exact ⟨o, e, ex.2.1⟩
  | _ => exact False.elim ty
def tBM (K : W.Frag) (T : String) (r : V -> List V -> Hp -> VK -> Prop) (to : TE) (t : TA) : TE := fun σ H Q => to σ H fun x H1 => tyV K T x H1 /\ t σ H1 fun xs H2 => r x xs H2 Q
variable {o e : Expr} {es : List Expr} {to : TE} {t : TA} {name : Str} {apos cpos : Pos} {T id : String} {r : V -> List V -> Hp -> VK -> Prop}
theorem a2Q (pa : PlainAttrs T) (slot : Slot T name id) (hty : typeOf (.builtin id) = pure (.type "method_descriptor")) (hm : MtR X id r) (ho : PE X o to) (ha : PA X (e :: es) t)
    (hbase : attributeBase o name X.env (eval o X.env) = eval o X.env := by rfl)
    (hfew : ((backTo cpos (starEach (e :: es) X.env)).all (fun x => !x.1) && (backToKw cpos (keywordEach [] X.env)).all (fun x => x.1.isSome)
      && decide ((e :: es).length + ([] : List Keyword).length + (if ([] : List Keyword).isEmpty then 0 else 1) < 30)) = true := by rfl)
    (hline : (apos.endLine == cpos.line) = true := by rfl) (hs : starEach (e :: es) X.env = (false, eval e X.env) :: starEach es X.env := by rfl) (hplain : (backTo cpos (starEach es X.env)).any (·.1) = false := by rfl) :
    PE X (.Call (.Attribute o name apos) (e :: es) [] cpos) (tBM X.K T r to t) := by
  intro pins s σ H Q I h
  refine wpAny_Call_method_late hbase hfew hline rfl (C9 (ho pins s σ H _ I h) fun v s1 ⟨x, H1, I1, r1, ty, q1⟩ => ?_)
  obtain ⟨h1, h2⟩ := a9z I1 r1 ty
  refine ⟨T, id, pa, slot, hty, h1, h2, ?_⟩
  have hA := ha cpos pins s1 σ H1 _ I1 q1
  rw [hs] at hA ⊢
  refine Calls.callWith_builtin (by show (false || (backTo cpos (starEach es X.env)).any (·.1)) = false; rw [hplain] <;> rfl) (Calls.evalArgs_plain ?_)
  exact C9 hA fun us s2 ⟨vs, H2, I2, r2, q2⟩ => hm pins s2 σ H2 x vs v us Q I2 r1 r2 q2
/- xs.append(e), list.index on a module's tuple .. are MtR facts of 06m -/
end
end L2
namespace L2
open PySem PySem.Spec PyProof.Rows
def MtM (X : Cx) (id : String) (r : V -> List V -> Hp -> VK -> Prop) : Prop :=
  ∀ (pins : List (Addr × Obj)) (s : Shared) (σ : St) (H : Hp) (x : V) (xs : List V) (v : Value) (us : List Value) (Q : VK), Inv X pins σ H s -> RelV x v -> Vals xs us -> r x xs H Q →
    wpAny (model X.prog X.w) X.A (call (.builtin id) (v :: us)) (EP X pins σ Q) X.xe s
theorem Vals.one : ∀ {x : V} {us : List Value}, Vals [x] us -> ∃ u, us = [u] /\ RelV x u
  | _, _, .cons r .nil => ⟨_, rfl, r⟩
theorem Vals.rep {xs : List V} {us : List Value} (h : Vals xs us) : ∀ k : Nat, Vals (List.replicate k xs).flatten (List.replicate k us).flatten
  | 0 => .nil
  | k + 1 => by
    rw [List.replicate_succ, List.replicate_succ, List.flatten_cons, List.flatten_cons]
    exact Vals.append h (Vals.rep h k)
theorem a1F (its : List Value) : ∀ (k : Nat) (acc : List Value),
    List.foldl (fun x1 x2 => x1 ++ x2) acc.toArray (List.replicate k its.toArray) = (acc ++ (List.replicate k its).flatten).toArray
  | 0, acc => by simp
  | k + 1, acc => by
    have e : acc.toArray ++ its.toArray = (acc ++ its).toArray := by simp
    have e2 : (acc ++ its) ++ (List.replicate k its).flatten = acc ++ (List.replicate (k + 1) its).flatten := by
      rw [List.replicate_succ, List.flatten_cons, List.append_assoc]
    rw [<- e2, <- a1F its k (acc ++ its), <- e, List.replicate_succ, List.foldl_cons]
section
variable {X : Cx} {pins : List (Addr × Obj)} {σ : St} {H : Hp} {s : Shared} {l b : Addr} {xs ys zs : List V}
theorem Inv.lset {its its' : List Value} {n : Nat} {f : Array Value -> Array Value} {t' : Nat} (I : Inv X pins σ H s) (hH : H l = some (.lst xs))
    (e : s.heap.get? l = some { cls := .type "list", data := .seq its.toArray n }) (hf : f its.toArray = its'.toArray) (hv : Vals ys its') (hz : ys.length <= sizeLine) :
    Inv X pins σ (upd H l (.lst ys)) { s with heap := s.heap.update l (Obj.mapSeq f), toks := t' } := by
  have q := PySem.IsL.update e f
  rw [hf] at q
  refine I.write (x := l) (e := l) (by rw [hH]; exact trivial) (.inl rfl) (fun b' u hb hu => (Heap.get?_update_other s.heap (Obj.mapSeq f) (Ne.symm hb)).trans hu) ⟨_, q⟩ ?_
  exact ⟨hz, its', _, hv, q⟩
theorem Inv.lnew {its : List Value} {t' : Nat} (I : Inv X pins σ H s) (hv : Vals ys its) (hz : ys.length <= sizeLine) :
    Inv X pins σ (upd H s.heap.objs.size (.lst ys)) { s with heap := s.heap.push { cls := .type "list", data := .seq its.toArray }, toks := t' } :=
  I.laid (fun _ _ q => Heap.get?_push_of_some _ q) (Nat.le_refl _) ⟨hz, its, 0, hv, Heap.get?_push_size _ rfl⟩
theorem Inv.fresh (I : Inv X pins σ H s) : H s.heap.objs.size = none := I.hok.fresh (Nat.le_refl _)
theorem Inv.lstM (I : Inv X pins σ H s) (hH : H l = some (.lst xs)) : xs.length <= sizeLine /\ ∃ (its : List Value) (n : Nat), Vals xs its /\ xs.length = its.length /\ s.heap.get? l = some { cls := .type "list", data := .seq its.toArray n } := by
  obtain ⟨z, its, n, r, e⟩ := I.hok l _ hH
  exact ⟨z, its, n, r, r.length, e⟩
theorem a6R {n : Nat} (h : n <= sizeLine) : Builtin.List.listTooLong n = false := by
  unfold Builtin.List.listTooLong
  exact decide_eq_false (by omega)
end
section
variable {X : Cx}
def a8I : V -> List V -> Hp -> VK -> Prop := fun x vs H Q => ∃ l xs y, x = .ref l /\ vs = [y] /\ H l = some (.lst xs) /\ xs.length < sizeLine /\ Q .non (upd H l (.lst (xs ++ [y])))
theorem O9 : MtM X "list.append" a8I := by
  intro pins s σ H x vs v us Q I rx rv h
  obtain ⟨l, xs, y, rfl, rfl, hH, hz, q⟩ := h
  cases rx
  obtain ⟨u, rfl, ru⟩ := rv.one
  obtain ⟨z, its, n, r, hl, e⟩ := I.lstM hH
  refine call_meets F.slot_list_append ⟨_, e, rfl⟩ F.entry_list_append (F.args_list_append_2 _ _) (PySem.list_append l its.toArray n u (by rw [List.size_toArray]; omega)) ⟨e, ?_⟩
  refine ⟨.non, _, I.lset (its' := its ++ [u]) hH e (by simp) (r.append (.cons ru .nil)) ?_, rfl, q⟩
  rw [List.length_append, List.length_singleton]
  omega
def b2G : R2 := fun x y H Q => ∃ l b xs zs, x = .ref l /\ y = .ref b /\ H l = some (.lst xs) /\ H b = some (.lst zs) /\ xs.length + zs.length <= sizeLine /\ ∀ p, H p = none -> Q (.ref p) (upd H p (.lst (xs ++ zs)))
theorem D6 : X6 X (binaryOp .Add) b2G := by
  intro pins s σ H x y v u Q I rx ry h
  obtain ⟨l, b, xs, zs, rfl, rfl, hH, hB, hz, q⟩ := h
  cases rx
  cases ry
  obtain ⟨z, its, n, r, hl, e⟩ := I.lstM hH
  obtain ⟨z2, its2, n2, r2, hl2, e2⟩ := I.lstM hB
  refine PySem.P.add_list e e2 ?_ (by rw [List.size_toArray, List.size_toArray]; omega)
  have ea : its.toArray ++ its2.toArray = (its ++ its2).toArray := by simp
  rw [ea]
  exact ⟨.ref _, _, I.lnew (t' := s.toks) (r.append r2) (by rw [List.length_append]; omega), rfl, q _ I.fresh⟩
def b2A : R2 := fun x y H Q => ∃ l k xs, x = .ref l /\ y = .int k /\ H l = some (.lst xs) /\ -(2 ^ 63) <= k /\ k < 2 ^ 63 /\ xs.length * k.toNat <= sizeLine ∧
  ∀ p, H p = none -> Q (.ref p) (upd H p (.lst (List.replicate k.toNat xs).flatten))
theorem a8R {α : Type} (xs : List α) (k : Nat) : (List.replicate k xs).flatten.length = k * xs.length := by
  induction k with
  | zero => simp
  | succ k ih => rw [List.replicate_succ, List.flatten_cons, List.length_append, ih, Nat.succ_mul, Nat.add_comm]
theorem Z0 : X6 X (binaryOp .Mult) b2A := by
  intro pins s σ H x y v u Q I rx ry h
  obtain ⟨l, k, xs, rfl, rfl, hH, h1, h2, hz, q⟩ := h
  cases rx
  obtain ⟨t, rfl⟩ := ry
  obtain ⟨z, its, n, r, hl, e⟩ := I.lstM hH
  have hlen : its.toArray.size * k.toNat <= sizeLine := by rw [List.size_toArray, <- hl]; exact hz
  have hcap : ¬ its.toArray.size * k.toNat > (2 ^ 63 - 1) / 8 := by
    have : (sizeLine : Nat) <= (2 ^ 63 - 1) / 8 := by decide
    omega
  have hfit : ¬ (!Builtin.List.listFitsIndex k) = true := by
    rw [fitsIndex_both h1 h2]
    exact Bool.false_ne_true
  have hlong : ¬ Builtin.List.listTooLong (its.toArray.size * k.toNat) = true := by
    rw [a6R hlen]
    exact Bool.false_ne_true
  have hnew : List.foldl (fun x1 x2 => x1 ++ x2) #[] (List.replicate (if its.toArray.isEmpty = true then 0 else k.toNat) its.toArray) = (List.replicate k.toNat its).flatten.toArray := by
    have f0 : ∀ m : Nat, List.foldl (fun x1 x2 => x1 ++ x2) #[] (List.replicate m its.toArray) = (List.replicate m its).flatten.toArray := fun m => by
      have := a1F its m []
      rw [List.nil_append] at this
      exact this
    rw [f0]
    cases its with
    | nil => simp
    | cons a r' => rw [if_neg (by simp)]
  refine wpAny_binaryOp_repeat_ref (T := "list") (U := "int") (by decide) ⟨_, e, rfl⟩ (fun s' => typeIs_int s' k t) noFill_list_mul F.fills_int_mul F.slot_int_rmul repeat_list F.slot_int_index.lookup
    (call_meets F.slot_int_rmul (typeIs_int s k t) F.entry_int_rmul (F.args_int_rmul_2 _ _) (int___rmul___int_list k t l its.toArray n)
      ⟨e, rfl, ⟨_, e, rfl⟩, call_meets F.slot_list_mul ⟨_, e, rfl⟩ F.entry_list_mul (F.args_list_mul_2 _ _) (AutoListH.list___mul___list_int_3 l its.toArray n k t hfit hcap hlong) ⟨e, ?_⟩⟩)
  rw [hnew]
  exact ⟨.ref _, _, I.lnew (t' := s.toks) (r.rep k.toNat) (by rw [a8R, Nat.mul_comm]; exact hz), rfl, q _ I.fresh⟩
end
section
variable {prog : Program} {w : World} {A : Around} {E : Value -> Shared -> Prop} {s : Shared}
end
section
variable {X : Cx}
end
end L2
namespace Att
open PySem PySem.W PySem.Calls PyProof.Rows
theorem a0t {P : Params} {h : Heap} : ∀ (ns : List Int) (vs : List Value), WellAll P h vs (ns.map WData.int) -> IntsAre vs ns := by
  intro ns
  induction ns with
  | nil =>
    intro vs w
    rw [List.map_nil] at w
    cases w
    exact .nil
  | cons n ns ih =>
    intro vs w
    rw [List.map_cons] at w
    cases w with
    | cons a b =>
      cases a
      exact .cons _ _ (ih _ b)
theorem a5L {l : OpenLaw} {n : Nat} (hn : l.most = some n) {P : Params} {h : Heap} {args : List WData} {vals : List Value}
    (hpre : l.row.toRowW.claim.pre args = true) (hwl : WellAll P h vals args) :
    ∃ a vs ns, vals = [Value.ref a] /\ args = [WData.list (ns.map WData.int)] /\ h.get? a = some { cls := .type "list", data := .seq vs.toArray } /\ IntsAre vs ns /\ ns.length <= n := by
  have hsh : WShape.hasAll [] args [.list .int] = true := (pre_splitW hpre).1
  have hc : l.pre.holds [] { args := args } = true := (pre_splitW hpre).2
  obtain ⟨d, r, rfl, h1, h2⟩ := hasAllW_cons hsh
  obtain rfl := hasAllW_nil h2
  obtain ⟨xs, rfl, h3⟩ := hasW_list h1
  obtain ⟨ns, rfl⟩ := items_int h3
  have hlen : ns.length <= n := by
    unfold OpenLaw.pre at hc
    have h4 : (WTm.not (.lt (.lit (.int (n : Int))) (.len (.arg 0)))).holds [] { args := [.list (ns.map .int)] } = true := by
      have h4 := (holds_andW hc).1
      rw [hn] at h4
      exact h4
    have h5 := condW_of h4 (w_not (w_lt w_lit (w_len_list (w_arg rfl))))
    rw [List.length_map] at h5
    refine Nat.le_of_not_lt fun q => ?_
    have q' : (n : Int) < ((ns.length : Nat) : Int) := by omega
    first
      | (rw [decide_eq_true q'] at h5; exact absurd h5 (by decide))
      | (simp at h5; omega)
  cases hwl with
  | cons w1 w2 =>
    cases w2
    cases w1 with
    | list ho hall => exact ⟨_, _, ns, rfl, rfl, ho, a0t ns _ hall, hlen⟩
theorem a5N (l : OpenLaw) (args : List WData) : l.row.toRowW.claim.post args (.bool true) args = true :=
  postW_of (r := l.row.toRowW) (X := (true == true))
    (show WShape.has [] (.bool true) .bool = true by first | rfl | decide | simp [WShape.has, WShape.arms, WShape.armsAll])
    (show (WTm.eq .res (.lit (.bool true))).value [] { args := args, res := some (.bool true), after := args } = some (.bool (true == true)) from w_eq_bool (w_res rfl) w_lit) rfl
theorem attach_call {l : OpenLaw} {n : Nat} {q : Program} {loose : List Str} {XP : (Str -> Option Value) -> Heap -> Prop} {YP : World -> Heap -> Prop} {d : DefRec}
    (hn : l.most = some n) (hdf : d.params.defaults = [])
    (call : ∀ (w : World) (s₀ s₁ : Shared) (mg mb : Str -> Option Value) (fa : Addr) (o : Obj) (pm cd doc : Value) (a : Addr) (vs : List Value) (ns : List Int),
      Ground q loose [] XP w s₀ mg mb s₁.heap -> YP w s₁.heap →
      s₁.heap.get? fa = some o -> o.data = .func (docDef d.name d.params d.body d.scope pm cd doc) -> s₁.heap.CodeRec cd d.name -> mg d.name = some (.ref fa) →
      s₁.heap.get? a = some { cls := .type "list", data := .seq vs.toArray } -> IntsAre vs ns -> ns.length <= n -> s₁.gens = #[] →
      codeAny (model l.prog w) callerA (.call (.ref fa) ⟨[.ref a], []⟩) (fun r s' => r = .ok (.ret (.bool true)) /\ OldK s₁.heap s'.heap /\ s'.os = s₁.os /\ AllBare s'.gens) s₁) :
    WalkO q loose XP YP l.row.toRowW d [] (fun f vs => PySem.call f vs) := by
  intro w s₀ s₁ mg mb G Y fa o pm cd doc dV kV ho hd hcd hD hmg hg args vals as hpre hlay hrd hwl hlo
  obtain rfl : dV = .none := Dflts.none hD hdf
  obtain rfl : kV = .none := Dflts.noKw hD
  obtain ⟨a, vs, ns, rfl, rfl, hobj, hints, hlen⟩ := a5L hn hpre hwl
  refine enter_call (codeAny_mono (call w s₀ s₁ mg mb fa o pm cd doc a vs ns G Y ho (fd_plain hd) hcd hmg hobj hints hlen hg) fun r s' hq => ?_)
  obtain ⟨rfl, h2, h3, h4⟩ := hq
  exact ⟨.inl ⟨.bool true, .bool true, [], rfl, fun _ => rfl, .bool true, a5N l _, fun _ => ⟨List.Pairwise.nil, fun _ hm => (nomatch hm)⟩⟩, h2, h3, h4⟩
section
variable {prog : Program} {w : World} {A : Around} {E : Value -> Shared -> Prop} {s : Shared} {K : Frag}
end
end Att
namespace L2
open PySem PySem.Spec PyProof.Rows
theorem a1y : ∀ {vs : List Value} {ns : List Int}, IntsAre vs ns -> Vals (ns.map V.int) vs
  | _, _, .nil => .nil
  | _, _, .cons n t h => .cons ⟨t, rfl⟩ (a1y h)
end L2
namespace L2
open PySem PySem.Spec PyProof.Rows
end L2
namespace L2
open PySem PySem.Spec PyProof.Rows
def P9 (s : Stmt) (j : Nat) : Stmt := match s with
  | .ClassDef _ _ _ body _ _ _ _ _ _ _ => body.getD j (.Pass ⟨0, 0, 0, 0⟩)
  | _ => .Pass ⟨0, 0, 0, 0⟩
def G3 (s : Stmt) : Arguments := match s with
  | .FunctionDef _ a _ _ _ _ _ _ _ _ => a
  | _ => { posonlyargs := [], args := [], vararg := none, kwonlyargs := [], kw_defaults := [], kwarg := none, defaults := [] }
def y4 (s : Stmt) : List Stmt := match s with
  | .FunctionDef _ _ b _ _ _ _ _ _ _ => b
  | _ => []
def i9 (s : Stmt) : Scope := match s with
  | .FunctionDef _ _ _ _ _ _ sc _ _ _ => sc
  | _ => { kind := .function, names := [], isGenerator := false, isCoroutine := false }
abbrev G8 : CXT := fun _ _ _ _ _ _ => False
abbrev E0 : XK := fun _ _ _ => False
theorem v8 {X : Cx} : P2 G8 X E0 := fun _ _ _ _ _ _ _ h => h.elim
structure Fun (K : W.Frag) (x qual : Str) (st : Stmt) (f : Addr) (fd : FuncData) : Prop where
  ex : ∃ (oc : Value) (od : Option Addr) (kV doc pm : Value) (an : Option Addr) (cdv ct : Value) (osl : Array (Option Value)),
    fd = W.fnOf x qual (G3 st) (y4 st) (i9 st) .none kV doc pm an cdv ct /\ K.lookup f = some ⟨oc, od, .func fd, osl⟩ /\ W.codeIn K cdv qual = true
  kp : W.keepIn K (.ref f) = true
section
variable {P : Program} {w : World} {K : W.Frag} {mg : Str -> Option Value} {base : Heap}
theorem Fun.ok {x qual : Str} {st : Stmt} {f : Addr} {fd : FuncData} {N ps : List Str} {k : Nat} {sp : Sp} (F : Fun K x qual st f fd) (S : m6 N ps (i9 st)) (len : ∀ vs H Q E, sp vs H Q E -> vs.length = ps.length)
    (hbody : ∀ (cdv : Value) (A : Around) (outer : List Env) (s : Shared) (H : Hp) (vs : List V) (Q : VK) (E : XK), Room k (A.deeper (envOfC qual (i9 st) s.heap.objs.size f cdv)) -> sp vs H Q E →
      ∃ t, PSs (M1 G8 P w K mg base N qual (i9 st) f cdv A outer s H E).nox (y4 st) t /\ t { nx := fun _ H' => Q .non H', rt := Q } (M2 N vs) H) : FnOk P w K mg base G8 (k + 1) f fd ps sp := by
  obtain ⟨oc, od, kV, doc, pm, an, cdv, ct, osl, rfl, lk, hcd⟩ := F.ex
  refine a7v lk hcd S len fun A outer s H vs Q E hr hsp => ?_
  obtain ⟨t, h, q⟩ := hbody cdv A outer s H vs Q E hr hsp
  exact ⟨t, h.nox, q⟩
theorem Fun.binds {x qual : Str} {st : Stmt} {f : Addr} {fd : FuncData} {ps : List Str} (F : Fun K x qual st f fd)
    (h : ∀ (kV doc pm : Value) (an : Option Addr) (cdv ct : Value) (us : List Value), us.length = ps.length -> bindArgs (W.fnOf x qual (G3 st) (y4 st) (i9 st) .none kV doc pm an cdv ct) ⟨us, []⟩ = pure (ps.zip us)) : Binds K fd ps [] := by
  obtain ⟨oc, od, kV, doc, pm, an, cdv, ct, osl, rfl, lk, hcd⟩ := F.ex
  exact .all (h kV doc pm an cdv ct)
theorem a6z {x qual : Str} {st : Stmt} {f : Addr} {oc : Value} {od an : Option Addr} {osl : Array (Option Value)} {kV doc pm cdv ct : Value} (l : K.lookup f = some ⟨oc, od, .func (W.fnOf x qual (G3 st) (y4 st) (i9 st) .none kV doc pm an cdv ct), osl⟩)
    (c : W.codeIn K cdv qual = true) (k : W.keepIn K (.ref f) = true) : Fun K x qual st f (W.fnOf x qual (G3 st) (y4 st) (i9 st) .none kV doc pm an cdv ct) := ⟨⟨oc, od, kV, doc, pm, an, cdv, ct, osl, rfl, l, c⟩, k⟩
end
theorem j7 {n : Nat} (h : n <= 1000) : n < sizeLine := Nat.lt_of_le_of_lt h (by decide)
section
variable {X : Cx}
theorem pv (i : Nat) {x : Str} {pos : Pos} (hN : X.N[i]? = some x := by rfl) (hv : Vis X.env.scope x := by first | exact Or.inl rfl | exact Or.inr (Or.inl rfl) | exact Or.inr (Or.inr rfl)) (hd : (x == ("__debug__" : Str)) = false := by decide)
    (hcd : (x == ("__classdict__" : Str)) = false := by decide) : PE X (.Name x pos) (a8B i) := b0f hN hv hd hcd
end
theorem N5 {A B : Prop} (h : B) : if false = true then A else B := by
  rw [if_neg Bool.false_ne_true]
  exact h
theorem a2D {A B : Prop} (h : A) : if true = true then A else B := by
  rw [if_pos rfl]
  exact h
theorem D8 {c A B : Prop} [Decidable c] (h1 : c -> A) (h2 : ¬ c -> B) : if c then A else B := by
  by_cases h : c
  . rw [if_pos h]
    exact h1 h
  . rw [if_neg h]
    exact h2 h
theorem b0X {c A B : Prop} [Decidable c] (hc : c) (h : B) : if (!decide c) = true then A else B := by
  rw [decide_eq_true hc]
  exact N5 h
def Same (H H' : Hp) : Prop := ∀ b o, H b = some o -> H' b = some o
theorem Same.refl (H : Hp) : Same H H := fun _ _ h => h
theorem Same.trans {H H1 H2 : Hp} (a : Same H H1) (b : Same H1 H2) : Same H H2 := fun c o h => b c o (a c o h)
theorem Same.free {H H' : Hp} (e : Same H H') {l : Addr} (h : H' l = Option.none) : H l = Option.none := by
  cases q : H l with
  | none => rfl
  | some o =>
    rw [e l o q] at h
    cases h
theorem Same.seq {K : W.Frag} {H H' : Hp} {a : Addr} {xs : List V} (e : Same H H') (h : SqL K H a xs) : SqL K H' a xs := by
  rcases h with (h | ⟨o, h⟩) | h
  . exact .inl (.inl (e _ _ h))
  . exact .inl (.inr ⟨o, e _ _ h⟩)
  . exact .inr h
end L2
namespace L2
open PySem PySem.Spec PyProof.Rows
def clo (env : Env) : List (Str × NameKind) -> List (Str × Addr) -> List (Str × Addr)
  | [], cs => cs
  | (n, k) :: r, cs => if k == .free then (match env.cells.lookup n with | some a => clo env r ((n, a) :: cs) | none => clo env r cs) else clo env r cs
theorem K1 {scope : Scope} {env : Env} (h : ∀ n, (n, NameKind.free) ∈ scope.names -> ∃ c, env.cells.lookup n = some c) : closureFor scope env = pure (clo env scope.names []) := by
  simp only [closureFor]
  generalize ([] : List (Str × Addr)) = cs
  revert h
  generalize scope.names = l
  intro h
  induction l generalizing cs with
  | nil => rfl
  | cons x r ih =>
    obtain ⟨n, k⟩ := x
    have hr : ∀ n, (n, NameKind.free) ∈ r -> ∃ c, env.cells.lookup n = some c := fun n hn => h n (List.mem_cons_of_mem _ hn)
    by_cases hk : k = .free
    . subst hk
      obtain ⟨c, hc⟩ := h n List.mem_cons_self
      have q := ih ((n, c) :: cs) hr
      simp only [List.forIn_cons, clo, hc, beq_self_eq_true, if_true, cellOf]
      exact q
    . have hb : (k == NameKind.free) = false := by simpa using hk
      have q := ih cs hr
      simp only [List.forIn_cons, clo, hb, Bool.false_eq_true, if_false]
      exact q
theorem Y7 {env : Env} {x : Str} {c : Addr} : ∀ {l : List (Str × NameKind)} {cs : List (Str × Addr)}, (∀ x c, cs.lookup x = some c -> env.cells.lookup x = some c) -> (clo env l cs).lookup x = some c -> env.cells.lookup x = some c
  | [], _, h, e => h x c e
  | (n, k) :: r, cs, h, e => by
    unfold clo at e
    by_cases hk : (k == NameKind.free) = true
    . rw [if_pos hk] at e
      cases q : env.cells.lookup n with
      | none => rw [q] at e; exact Y7 h e
      | some a =>
        rw [q] at e
        refine Y7 (cs := (n, a) :: cs) (fun y d z => ?_) e
        rw [List.lookup_cons] at z
        cases hy : y == n with
        | true =>
          rw [hy] at z
          have : y = n := by simpa using hy
          subst this
          rw [q]; exact z
        | false => rw [hy] at z; exact h y d z
    . rw [if_neg hk] at e
      exact Y7 h e
theorem a0A {env : Env} {x : Str} {c : Addr} : ∀ {l : List (Str × NameKind)} {cs : List (Str × Addr)}, (x, c) ∈ clo env l cs -> (env.cells.lookup x = some c /\ (x, NameKind.free) ∈ l) \/ (x, c) ∈ cs
  | [], _, e => .inr e
  | (n, k) :: r, cs, e => by
    unfold clo at e
    by_cases hk : (k == NameKind.free) = true
    . rw [if_pos hk] at e
      have hk' : k = .free := by simpa using hk
      cases q : env.cells.lookup n with
      | none =>
        rw [q] at e
        exact (a0A e).imp (fun z => ⟨z.1, List.mem_cons_of_mem _ z.2⟩) id
      | some a =>
        rw [q] at e
        rcases a0A (cs := (n, a) :: cs) e with z | z
        . exact .inl ⟨z.1, List.mem_cons_of_mem _ z.2⟩
        . rcases List.mem_cons.mp z with z | z
          . cases z
            exact .inl ⟨q, by rw [hk']; exact List.mem_cons_self⟩
          . exact .inr z
    . rw [if_neg hk] at e
      exact (a0A e).imp (fun z => ⟨z.1, List.mem_cons_of_mem _ z.2⟩) id
theorem v7 : ∀ (names : List (Str × NameKind)) (n : Nat) (acc : List (Str × Addr)), cellsFrom n names acc = cellsFrom n names [] ++ acc
  | [], _, _ => rfl
  | (x, k) :: r, n, acc => by
    unfold cellsFrom
    split
    . rw [v7 r (n + 1) ((x, n) :: acc), v7 r (n + 1) [(x, n)], List.append_assoc]; rfl
    . exact v7 r n acc
theorem J8 {x : Str} {c : Addr} : ∀ {names : List (Str × NameKind)} {n : Nat}, (x, c) ∈ cellsFrom n names [] -> (x, NameKind.cell) ∈ names
  | [], _, e => by cases e
  | (y, k) :: r, n, e => by
    unfold cellsFrom at e
    by_cases hk : (k == NameKind.cell) = true
    . rw [if_pos hk, v7] at e
      have hk' : k = .cell := by simpa using hk
      rcases List.mem_append.mp e with z | z
      . exact List.mem_cons_of_mem _ (J8 z)
      . rw [List.mem_singleton] at z
        cases z
        rw [hk']; exact List.mem_cons_self
    . rw [if_neg hk] at e
      exact List.mem_cons_of_mem _ (J8 e)
theorem O4 {x : Str} : ∀ {names : List (Str × NameKind)} {n : Nat}, (x, NameKind.cell) ∈ names -> ∃ c, (x, c) ∈ cellsFrom n names []
  | (y, k) :: r, n, e => by
    unfold cellsFrom
    rcases List.mem_cons.mp e with z | z
    . cases z
      rw [if_pos (by rfl), v7]
      exact ⟨n, List.mem_append_right _ List.mem_cons_self⟩
    . split
      . rw [v7]
        obtain ⟨c, hc⟩ := O4 (n := n + 1) z
        exact ⟨c, List.mem_append_left _ hc⟩
      . exact O4 z
theorem a0U {α : Type} {x : Str} : ∀ {l₁ l₂ : List (Str × α)}, (l₁ ++ l₂).lookup x = match l₁.lookup x with | some c => some c | none => l₂.lookup x
  | [], _ => rfl
  | (n, c) :: r, l₂ => by
    rw [List.cons_append, List.lookup_cons, List.lookup_cons]
    cases hx : x == n with
    | true => rfl
    | false => exact a0U (l₁ := r)
theorem W4 {α : Type} {x : Str} {c : α} : ∀ {l : List (Str × α)}, (x, c) ∈ l -> ∃ c', l.lookup x = some c'
  | (n, d) :: r, h => by
    rw [List.lookup_cons]
    cases hx : x == n with
    | true => exact ⟨d, rfl⟩
    | false =>
      rcases List.mem_cons.mp h with z | z
      . cases z; simp at hx
      . exact W4 z
theorem U1 {env : Env} {x : Str} : ∀ {l : List (Str × NameKind)} {cs : List (Str × Addr)}, (∃ c, cs.lookup x = some c) -> ∃ c, (clo env l cs).lookup x = some c
  | [], _, h => h
  | (n, k) :: r, cs, h => by
    unfold clo
    split
    . split
      . refine U1 ?_
        rw [List.lookup_cons]
        cases hy : x == n with
        | true => exact ⟨_, rfl⟩
        | false => exact h
      . exact U1 h
    . exact U1 h
theorem V1 {env : Env} {x : Str} (hx : ∃ c, env.cells.lookup x = some c) : ∀ {l : List (Str × NameKind)} {cs : List (Str × Addr)}, (x, NameKind.free) ∈ l -> ∃ c, (clo env l cs).lookup x = some c
  | (n, k) :: r, cs, h => by
    rcases List.mem_cons.mp h with e | e
    . cases e
      obtain ⟨c, hc⟩ := hx
      unfold clo
      rw [if_pos (by rfl), hc]
      refine U1 ⟨c, ?_⟩
      simp [List.lookup_cons]
    . unfold clo
      split
      . split
        . exact V1 hx e
        . exact V1 hx e
      . exact V1 hx e
def O1 (env : Env) (scope : Scope) (C : Addr) : List (Str × Addr) := cellsFrom (C + 1) scope.names (clo env scope.names [])
theorem E2 {env : Env} {scope : Scope} {C : Addr} {x : Str} {c : Addr} (h : (O1 env scope C).lookup x = some c) :
    ((x, c) ∈ cellsFrom (C + 1) scope.names [] /\ (x, NameKind.cell) ∈ scope.names) \/ (env.cells.lookup x = some c /\ (x, NameKind.free) ∈ scope.names) := by
  have m := mem_of_lookup h
  unfold O1 at m
  rw [v7] at m
  rcases List.mem_append.mp m with z | z
  . exact .inl ⟨z, J8 z⟩
  . rcases a0A z with y | y
    . exact .inr y
    . cases y
theorem a0o {env : Env} {scope : Scope} {C : Addr} {x : Str} (hx : ∃ c, env.cells.lookup x = some c) (hf : (x, NameKind.free) ∈ scope.names) (hn : (x, NameKind.cell) ∉ scope.names) : (O1 env scope C).lookup x = env.cells.lookup x := by
  obtain ⟨c, hc⟩ := V1 (env := env) (cs := []) hx hf
  have hc' := Y7 (env := env) (fun _ _ z => by simp at z) hc
  unfold O1
  rw [v7, a0U]
  cases q : (cellsFrom (C + 1) scope.names []).lookup x with
  | some d => exact absurd (J8 (mem_of_lookup q)) hn
  | none => rw [hc', <- hc]
def blk (X : Cx) (os : List Str) (fr : List Nat) (scope : Scope) (C : Addr) (fp : List Addr) (s₀ : Shared) (H₀ : Hp) : Cx :=
  { X with N := os ++ fr.map (fun j => X.N.getD j ""), s₀ := s₀, H₀ := H₀, env := compEnvC scope (O1 X.env scope C) C X.env, outer := X.stack, ex := fp, fn := fun x => scope.names.lookup x == some .cell, pn := [], xe := fun _ _ => False }
def frv (fr : List Nat) (σ : St) : St := fr.map fun j => (σ[j]?).join
def blkσ (n : Nat) (fr : List Nat) (σ : St) : St := List.replicate n none ++ frv fr σ
def Wk (σ0 σ2 : St) : Prop := σ2.length = σ0.length /\ ∀ (i : Nat) v, σ0[i]? = some (some v) -> σ2[i]? = some (some v)
def a0j (outer : Scope) (scope : Scope) (N : List Str) (fr : List Nat) : Bool :=
  (scope.names.all fun p => (scope.names.lookup p.1 == some p.2) && (p.2 != .free || outer.names.lookup p.1 == some .cell)) &&
  (fr.all fun j => decide (j < N.length) && (outer.names.lookup (N.getD j "") == some .cell) && (scope.names.lookup (N.getD j "") == some .free))
theorem G6 {x : Str} {k : NameKind} : ∀ {l : List (Str × NameKind)}, l.lookup x = some k -> (x, k) ∈ l
  | (n, j) :: r, h => by
    rw [List.lookup_cons] at h
    cases hx : x == n with
    | true =>
      rw [hx] at h
      have : x = n := by simpa using hx
      subst this
      cases h
      exact List.mem_cons_self
    | false => rw [hx] at h; exact List.mem_cons_of_mem _ (G6 h)
theorem M4 {env : Env} {x : Str} {k : NameKind} : ∀ {names : List (Str × NameKind)},
    (names.map fun (n, k) => if (k == NameKind.free && env.scope.kind == .function && env.kindOf n == some .cell) then (n, NameKind.cell) else (n, k)).lookup x = some k →
    (x, k) ∈ names \/ (x, NameKind.free) ∈ names
  | [], h => by simp at h
  | (n, j) :: r, h => by
    rw [List.map_cons] at h
    dsimp only at h
    by_cases hc : (j == NameKind.free && env.scope.kind == .function && env.kindOf n == some .cell) = true
    . rw [if_pos hc, List.lookup_cons] at h
      have hj : j = .free := by
        have := (Bool.and_eq_true _ _ ▸ (Bool.and_eq_true _ _ ▸ hc).1).1
        simpa using this
      cases hx : x == n with
      | true =>
        have : x = n := by simpa using hx
        subst this
        subst hj
        exact .inr List.mem_cons_self
      | false =>
        rw [hx] at h
        exact (M4 h).imp (List.mem_cons_of_mem _) (List.mem_cons_of_mem _)
    . rw [if_neg hc, List.lookup_cons] at h
      cases hx : x == n with
      | true =>
        rw [hx] at h
        have : x = n := by simpa using hx
        subst this
        cases h
        exact .inl List.mem_cons_self
      | false =>
        rw [hx] at h
        exact (M4 h).imp (List.mem_cons_of_mem _) (List.mem_cons_of_mem _)
section
variable {X : Cx} {os : List Str} {fr : List Nat} {scope : Scope}
theorem O5 (h : a0j X.env.scope scope X.N fr = true) : ∀ p ∈ scope.names, scope.names.lookup p.1 = some p.2 /\ (p.2 = .free -> X.env.scope.names.lookup p.1 = some .cell) := fun p hp => by
  have q := List.all_eq_true.mp (Bool.and_eq_true _ _ ▸ h).1 p hp
  simp only [Bool.and_eq_true, bne_iff_ne, Bool.or_eq_true, beq_iff_eq, ne_eq] at q
  refine ⟨q.1, fun e => ?_⟩
  rcases q.2 with z | z
  . exact absurd e z
  . exact z
theorem a3M (h : a0j X.env.scope scope X.N fr = true) {x : Str} {a b : NameKind} (ha : (x, a) ∈ scope.names) (hb : (x, b) ∈ scope.names) : a = b := by
  have h1 := (O5 h _ ha).1
  have h2 := (O5 h _ hb).1
  rw [h1] at h2
  exact Option.some.inj h2
theorem a9n (h : a0j X.env.scope scope X.N fr = true) : ∀ j ∈ fr, j < X.N.length /\ X.env.scope.names.lookup (X.N.getD j "") = some .cell /\ scope.names.lookup (X.N.getD j "") = some .free := fun j hj => by
  have q := List.all_eq_true.mp (Bool.and_eq_true _ _ ▸ h).2 j hj
  simp only [Bool.and_eq_true, beq_iff_eq, decide_eq_true_eq] at q
  exact ⟨q.1.1, q.1.2, q.2⟩
theorem U5 {pins : List (Addr × Obj)} {σ : St} {H : Hp} {s : Shared} (I : Inv X pins σ H s) (h : a0j X.env.scope scope X.N fr = true) : ∀ n, (n, NameKind.free) ∈ scope.names -> ∃ c, X.env.cells.lookup n = some c := fun n hn =>
  I.ok.has n (.inl ((O5 h _ hn).2 rfl))
theorem Inv.block {pins : List (Addr × Obj)} {σ : St} {H : Hp} {s : Shared} {fp : List Addr} {h₁ : Heap} {t' : Nat} (I : Inv X pins σ H s) (hk : scope.kind = .function) (h : a0j X.env.scope scope X.N fr = true)
    (hf : ∀ b ∈ fp, Q7 X pins H b) (ho : ∀ b ∈ fp, ∃ o, s.heap.get? b = some o) (hns : h₁.Ns s.heap.objs.size fun _ => none) (hkeep : ∀ b o, s.heap.get? b = some o -> h₁.get? b = some o)
    (hcl : CellsOk h₁ (s.heap.objs.size + 1) (cellsFrom (s.heap.objs.size + 1) scope.names [])) :
    Inv (blk X os fr scope s.heap.objs.size fp s H) [] (blkσ os.length fr σ) H { s with heap := h₁, toks := t' } where
  ok := {
    mod := I.ok.mod
    kind := hk
    glob := I.ok.glob
    blt := I.ok.blt
    above := Nat.le_refl _
    inj := fun x y c e1 e2 => by
      have old : ∀ {z : Str}, X.env.cells.lookup z = some c -> c < s.heap.objs.size := fun {z} e => by
        obtain ⟨v, q⟩ := I.cell z c e
        exact q.lt
      rcases E2 e1 with z1 | z1 <;> rcases E2 e2 with z2 | z2
      . exact name_of_addr hcl.apart z1.1 z2.1
      . exact absurd (Nat.lt_of_lt_of_le (Nat.lt_succ_of_lt (old z2.1)) (hcl.empty _ _ z1.1).2) (Nat.lt_irrefl _)
      . exact absurd (Nat.lt_of_lt_of_le (Nat.lt_succ_of_lt (old z1.1)) (hcl.empty _ _ z2.1).2) (Nat.lt_irrefl _)
      . exact I.ok.inj x y c z1.1 z2.1
    has := fun x hx => by
      have hm : (x, NameKind.cell) ∈ scope.names \/ (x, NameKind.free) ∈ scope.names := by
        rcases hx with e | e
        . exact M4 e
        . rcases M4 e with z | z
          . exact .inr z
          . exact .inr z
      rcases hm with z | z
      . obtain ⟨c, hc⟩ := O4 (n := s.heap.objs.size + 1) z
        refine W4 (c := c) ?_
        show (x, c) ∈ O1 _ _ _
        unfold O1
        rw [v7]
        exact List.mem_append_left _ hc
      . obtain ⟨c, hc⟩ := U5 I h x z
        refine ⟨c, ?_⟩
        show (O1 _ _ _).lookup x = _
        rw [a0o ⟨c, hc⟩ z (fun w => by cases a3M h z w)]
        exact hc
    cab := fun x c hx e => by
      have hx' : scope.names.lookup x = some .cell := by simpa using (show (scope.names.lookup x == some .cell) = true from hx)
      rcases E2 e with z | z
      . exact Nat.le_of_lt (Nat.lt_of_succ_le (hcl.empty _ _ z.1).2)
      . cases a3M h (G6 hx') z.2
    hd := I.ok.hd
    frames := I.ok.frames
    stk := .inl rfl
    exf := fun b hb => by
      obtain ⟨o, e⟩ := ho b hb
      refine ⟨Nat.ne_of_lt (Heap.lt_size e), fun x c e1 => ?_⟩
      rcases E2 e1 with z | z
      . intro w
        have := (hcl.empty _ _ z.1).2
        rw [w] at this
        exact absurd (Nat.lt_of_lt_of_le (Nat.lt_succ_of_lt (Heap.lt_size e)) this) (Nat.lt_irrefl _)
      . exact (hf b hb).2.2.2.2.1 x c z.1
    bs := I.bs
    bsz := Nat.le_trans I.ok.bsz I.sz
    noex := fun b o e hb => by
      rcases (hf b hb).2.2.2.1 with z | z
      . exact I.ok.noex b o e z
      . exact absurd (Nat.lt_of_lt_of_le (Heap.lt_size e) (Nat.le_trans I.ok.bsz z)) (Nat.lt_irrefl _)
    exfs := fun b hb hz => by
      rcases List.mem_cons.mp (I.stkSub b hz) with e | e
      . exact (hf b hb).2.1 e
      . exact (hf b hb).2.2.1 e
    funs := I.stack
    frf := I.stkFree }
  os := rfl
  bare := I.bare
  base := Un.kept hkeep
  loc := by
    refine ⟨_, hns, fun i x v e1 e2 _ => ?_⟩
    have hi : os.length <= i := by
      refine Nat.le_of_not_lt fun hlt => ?_
      unfold blkσ at e2
      rw [List.getElem?_append_left (by simpa using hlt)] at e2
      rw [List.getElem?_replicate] at e2
      split at e2 <;> cases e2
    have e1' : (fr.map fun j => X.N.getD j "")[i - os.length]? = some x := by
      rw [<- List.getElem?_append_right (l₁ := os) hi]; exact e1
    have e2' : (fr.map fun j => (σ[j]?).join)[i - os.length]? = some (some v) := by
      have z : (List.replicate os.length (none : Option V)).length <= i := by simpa using hi
      unfold blkσ at e2
      rw [List.getElem?_append_right z, List.length_replicate] at e2
      exact e2
    rw [List.getElem?_map] at e1' e2'
    cases q : fr[i - os.length]? with
    | none => rw [q] at e1'; cases e1'
    | some j =>
      rw [q] at e1' e2'
      have hj : j ∈ fr := List.mem_of_getElem? q
      obtain ⟨hjl, hjc, hjf⟩ := a9n h j hj
      have ex : X.N.getD j "" = x := Option.some.inj e1'
      have ev : (σ[j]?).join = some v := Option.some.inj e2'
      have hN : X.N[j]? = some x := by
        rw [<- ex, List.getD_eq_getElem?_getD, List.getElem?_eq_getElem hjl]; rfl
      have hσ : σ[j]? = some (some v) := by
        cases r : σ[j]? with
        | none => rw [r] at ev; cases ev
        | some y => rw [r] at ev; exact congrArg some ev
      rw [ex] at hjc hjf
      obtain ⟨m, _, hl⟩ := I.loc
      obtain ⟨u, r, lk⟩ := hl j x v hN hσ (.inr (.inl hjc))
      refine ⟨u, r, ?_⟩
      have kc : Env.kindOf X.env x = some .cell := hjc
      rcases lk with ⟨k1, _⟩ | ⟨_, c, ec, z⟩
      . rw [kc] at k1; cases k1
      . have hfm := G6 hjf
        have ec' : (O1 X.env scope s.heap.objs.size).lookup x = some c := by
          rw [a0o ⟨c, ec⟩ hfm (fun w => by cases a3M h hfm w)]; exact ec
        refine .inr ⟨?_, c, ec', ?_⟩
        . have kk : ∀ {names : List (Str × NameKind)}, names.lookup x = some .free -> (names.map fun (n, k) => if (k == NameKind.free && X.env.scope.kind == .function && X.env.kindOf n == some .cell) then (n, NameKind.cell) else (n, k)).lookup x = some .cell := by
            intro names
            induction names with
            | nil => intro e; simp at e
            | cons p r ih =>
              obtain ⟨n, k⟩ := p
              intro e
              rw [List.lookup_cons] at e
              rw [List.map_cons]
              dsimp only
              cases hx : x == n with
              | true =>
                rw [hx] at e
                cases e
                have hxn : x = n := by simpa using hx
                subst hxn
                rw [if_pos (by rw [I.ok.kind, kc]; rfl), List.lookup_cons]
                simp
              | false =>
                rw [hx] at e
                by_cases hc : (k == NameKind.free && X.env.scope.kind == .function && X.env.kindOf n == some .cell) = true
                . rw [if_pos hc, List.lookup_cons, hx]; exact ih e
                . rw [if_neg hc, List.lookup_cons, hx]; exact ih e
          exact .inl (kk hjf)
        . obtain ⟨o, ho', hd⟩ := z
          exact ⟨o, hkeep _ _ ho', hd⟩
  cell := fun x c e => by
    rcases E2 e with z | z
    . exact ⟨_, (hcl.empty _ _ z.1).1⟩
    . obtain ⟨v, o, ho', hd⟩ := I.cell x c z.1
      exact ⟨v, o, hkeep _ _ ho', hd⟩
  free := I.hok.fresh (Nat.le_refl _)
  freeC := fun x c e => by
    rcases E2 e with z | z
    . exact I.hok.fresh (Nat.le_of_lt (Nat.lt_of_succ_le (hcl.empty _ _ z.1).2))
    . exact I.freeC x c z.1
  pin := fun p hp => nomatch hp
  hok := I.hok.kept hkeep
  len := by simp [blkσ, frv, blk]
theorem Inv.unblock {pins : List (Addr × Obj)} {σ σ' : St} {H H' : Hp} {s s' : Shared} {fp : List Addr} {C : Addr} (I : Inv X pins σ H s) (hf : ∀ b ∈ fp, Q7 X pins H b) (J : Inv (blk X os fr scope C fp s H) [] σ' H' s') : Inv X pins σ H' s' :=
  I.call' J.os J.base J.hok J.bare fun b hb => ⟨(hf b hb).2.2.2.1, (hf b hb).2.1, (hf b hb).2.2.2.2.1, (hf b hb).2.2.2.2.2⟩
theorem Inv.letgo {pins : List (Addr × Obj)} {σ : St} {H H₀ : Hp} {s s₀ : Shared} {C : Addr} {h' : Heap} (I₀ : Inv X pins σ₀ H₀ s₀) (I : Inv X pins σ H s) (hn : H C = none) (hC : s₀.heap.objs.size <= C) (hs : Heap.SameBut C s.heap h') : Inv X pins σ H { s with heap := h' } :=
  I.turned (t' := s.toks) (it := C) (fun b o hb e => (hs.2 b hb).trans e) hn (Nat.ne_of_gt (Nat.lt_of_lt_of_le I₀.lt hC)) (.inr (Nat.le_trans I₀.sz hC))
    (fun x c e z => by
      obtain ⟨v, q⟩ := I₀.cell x c e
      exact absurd (Nat.lt_of_lt_of_le q.lt (by rw [z]; exact hC)) (Nat.lt_irrefl _))
    fun p hp z => absurd (Nat.lt_of_lt_of_le (Heap.lt_size (I₀.pin p hp).1) (by rw [z]; exact hC)) (Nat.lt_irrefl _)
end
def a9O (X : Cx) (ifs : List Expr) (t : TT) : Prop :=
  ∀ (pins : List (Addr × Obj)) (s : Shared) (σ : St) (H : Hp) (Q : Bool -> Hp -> Prop), Inv X pins σ H s -> t σ H Q →
    wpAny (model X.prog X.w) X.A (forIn ifs true fun c r => if r = true then do let ok <- isTrue c X.env (eval c X.env); pure (ForInStep.yield ok) else pure (ForInStep.yield r)) (TP X pins σ Q) X.xe s
def a6Q : TT := fun _ H Q => Q true H
theorem a2Y {X : Cx} : a9O X [] a6Q := fun _ _ _ H _ I h => wpAny_tests_nil ⟨H, I, h⟩
theorem a6a {X : Cx} {c : Expr} {t : TT} (h : PT X c t) : a9O X [c] t := fun pins s σ H Q I q => wpAny_tests_one (h pins s σ H Q I q)
theorem a1S {M : Model} {A : Around} {E : Value -> Shared -> Prop} {s : Shared} {scope : Scope} {globals : Addr} {closure : List (Str × Addr)} {qual : Str} {env : Env} {Q : Env -> Shared -> Prop}
    (hQ : Q { scope, locals := s.heap.objs.size, globals, cells := cellsFrom (s.heap.objs.size + 1) scope.names closure, qual, func := none, code := env.code, frame := env.frame, builtins := env.builtins } { s with heap := pushCells (s.heap.push { cls := .type "dict", data := .dict #[] }) scope.names }) :
    wpAny M A (newFunctionEnv scope globals closure [] qual none .none (some env)) Q E s := by
  simp only [newFunctionEnv, Option.isSome_some, if_true]
  refine wpAny_bind (wpAny_alloc ?_)
  refine wpAny_bind (wpAny_layCells _ (fun name kind cells => by cases hkc : kind == NameKind.cell <;> simp [hkc]) _ _ _ _ ?_)
  rw [show ({ s with heap := s.heap.push { cls := .type "dict", data := .dict #[] } } : Shared).heap.objs.size = s.heap.objs.size + 1 from Heap.size_push ..]
  simp only [List.forIn_nil]
  exact wpAny_bind (wpAny_pure (wpAny_pure hQ))
theorem a2x {prog : Program} {w : World} {A : Around} {R : Result -> Shared -> Prop} {s : Shared} {elt target iter : Expr} {ifs : List Expr} {scope : Scope} {pos : Pos} {it acc : Value} {env : Env} (I : Nat -> Shared -> Prop)
    (turn : ∀ n s, I n s -> wpAny (model prog w) A (pyNext it) (fun r s₁ => match r with
      | none => R (.ok .next) s₁
      | some v => wpAny (model prog w) A (letOwnedTupleGo target it v) (fun _ s₀ => wpAny (model prog w) A (assign target env v) (fun _ s₂ =>
          wpAny (model prog w) A (forIn ifs true fun c r => if r = true then do let ok <- isTrue c env (eval c env); pure (ForInStep.yield ok) else pure (ForInStep.yield r)) (fun ok s₃ =>
            if ok = true then wpAny (model prog w) A (eval elt env) (fun x s₄ =>
              wpAny (model prog w) A (call (.builtin "list.append") [acc, x]) (fun _ s₅ => ∃ m, m < n /\ I m s₅) (fun _ _ => False) s₄) (fun _ _ => False) s₃
            else ∃ m, m < n /\ I m s₃) (fun _ _ => False) s₂) (fun _ _ => False) s₀) (fun _ _ => False) s₁) (fun _ _ => False) s)
    (n : Nat) (h : I n s) :
    codeAny (model prog w) A (.compLoop (.ListComp elt [⟨target, iter, ifs, 0⟩] scope pos) 0 it acc env) R s := by
  refine codeAny_loop rfl I (fun n s hI => ?_) n h
  show wpAny _ A ((compTurn (.ListComp elt [⟨target, iter, ifs, 0⟩] scope pos) 0 it acc env).onRaise (fun x => do noteFrame x env; theTreesLotGoes x)) _ _ s
  refine wpAny_noted ?_
  rw [compTurn_list]
  refine wpAny_bind (wpAny_standAt (wpAny_bind (wpAny_mono (turn n s hI) (fun r s₁ h₁ => ?_) fun _ _ h' => h'.elim)))
  cases r with
  | none => exact wpAny_pure h₁
  | some v =>
    refine wpAny_bind (wpAny_mono h₁ (fun _ s₀ h₀ => ?_) fun _ _ h' => h'.elim)
    refine wpAny_bind (wpAny_mono h₀ (fun _ s₂ h₂ => wpAny_bind (wpAny_mono h₂ (fun ok s₃ h₃ => ?_) fun _ _ h' => h'.elim)) fun _ _ h' => h'.elim)
    cases ok with
    | false => exact wpAny_pure ⟨rfl, h₃⟩
    | true =>
      exact wpAny_bind (wpAny_bind (wpAny_mono h₃ (fun x s₄ h₄ => wpAny_bind (wpAny_mono h₄ (fun _ s₅ h₅ => wpAny_pure (wpAny_pure ⟨rfl, h₅⟩)) fun _ _ h' => h'.elim)) fun _ _ h' => h'.elim))
def lcW (n : Nat) (fr : List Nat) (g : TG) (te : TE) (σ : St) (J : It) (H1 : Hp) (p : Addr) (D : Hp -> Prop) : Prop :=
  ∃ W : Nat -> Nat -> List V -> Hp -> Prop, (∃ m, W 0 m [] (upd H1 p (.lst []))) /\ ∀ i m ys H, W i m ys H →
    (J.stop i H /\ D H) \/ (J.go i H /\ ∀ x H', J.yld i H x H' -> g x (blkσ n fr σ) H' fun σ2 H2 => Wk (blkσ n fr σ) σ2 /\ te σ2 H2 fun v H3 => H3 p = some (.lst ys) /\ ys.length < sizeLine /\ ∃ m', m' < m /\ W (i + 1) m' (ys ++ [v]) (upd H3 p (.lst (ys ++ [v]))))
def tLC (n : Nat) (fr : List Nat) (wi : TI) (g : TG) (te : TE) : TE := fun σ H Q => wi σ H fun J H1 => ∀ p, H1 p = none -> lcW n fr g te σ J H1 p (Q (.ref p))
def lcI (n : Nat) (fr : List Nat) (g : TG) (tc : TT) (te : TE) (σ : St) (J : It) (H1 : Hp) (p : Addr) (D : Hp -> Prop) : Prop :=
  ∃ W : Nat -> Nat -> List V -> Hp -> Prop, (∃ m, W 0 m [] (upd H1 p (.lst []))) /\ ∀ i m ys H, W i m ys H →
    (J.stop i H /\ D H) \/ (J.go i H /\ ∀ x H', J.yld i H x H' -> g x (blkσ n fr σ) H' fun σ2 H2 => Wk (blkσ n fr σ) σ2 /\ tc σ2 H2 fun ok H2' =>
      if ok = true then te σ2 H2' fun v H3 => H3 p = some (.lst ys) /\ ys.length < sizeLine /\ ∃ m', m' < m /\ W (i + 1) m' (ys ++ [v]) (upd H3 p (.lst (ys ++ [v]))) else ∃ m', m' < m /\ W (i + 1) m' ys H2')
def b2r (n : Nat) (fr : List Nat) (wi : TI) (g : TG) (tc : TT) (te : TE) : TE := fun σ H Q => wi σ H fun J H1 => ∀ p, H1 p = none -> lcI n fr g tc te σ J H1 p (Q (.ref p))
theorem a2R {n : Nat} {fr : List Nat} {g : TG} {te : TE} {σ : St} {J : It} {H1 : Hp} {p : Addr} {D : Hp -> Prop} : lcI n fr g a6Q te σ J H1 p D = lcW n fr g te σ J H1 p D := by
  unfold lcI lcW a6Q
  simp only [if_true]
section
variable {X : Cx} {os : List Str} {fr : List Nat} {scope : Scope} {elt tg iter : Expr} {pos : Pos} {wi : TI} {g : TG} {te : TE}
theorem a1h {ifs : List Expr} {tc : TT} {pins : List (Addr × Obj)} {σ : St} {s2 : Shared} {D : Addr -> Hp -> Prop} {itv : Value} {RR : Value -> Addr -> Result -> Shared -> Prop}
    (hc : X.calm = true) (hg : ∀ C fp s₀ H₀, PG (blk X os fr scope C fp s₀ H₀) tg g) (ht : ∀ C fp s₀ H₀, a9O (blk X os fr scope C fp s₀ H₀) ifs tc) (he : ∀ C fp s₀ H₀, PE (blk X os fr scope C fp s₀ H₀) elt te)
    (hk : scope.kind = .function) (hok : a0j X.env.scope scope X.N fr = true)
    (h2 : PIE X pins σ tg (fun J H1 => ∀ p, H1 p = none -> lcI os.length fr g tc te σ J H1 p (D p)) itv s2)
    (hRR : ∀ p C s3 H3 s' H', Inv X pins σ H3 s3 -> s3.heap.objs.size = C -> H' C = none -> Inv X pins σ H' s' -> (∃ m, s'.heap.Ns C m) -> D p H' -> RR (.ref p) C (.ok .next) s') :
    wpAny (model X.prog X.w) X.A (newList []) (fun acc s₃ => wpAny (model X.prog X.w) X.A (newFunctionEnv scope X.env.globals (clo X.env scope.names []) [] X.env.qual none .none (some X.env)) (fun cenv s₄ =>
      codeAny (model X.prog X.w) X.A (.compStart (.ListComp elt [⟨tg, iter, ifs, 0⟩] scope pos) 0 itv acc { cenv with scope := relabel scope X.env }) (RR acc cenv.locals) s₄) X.xe s₃) X.xe s2 := by
  obtain ⟨it, fp, tn, J, H2, e, I2, T, st2, f2, hR⟩ := h2
  subst e
  refine wpAny_newObj_type ?_
  have fresh : H2 s2.heap.objs.size = none := I2.fresh
  obtain ⟨W, ⟨m0, w0⟩, turn⟩ := hR s2.heap.objs.size fresh
  have I3 : Inv X pins σ (upd H2 s2.heap.objs.size (.lst [])) { s2 with heap := s2.heap.push { cls := .type "list", dict := none, data := .seq ([] : List Value).toArray } } := I2.lnew (ys := []) (its := []) (t' := s2.toks) .nil (Nat.zero_le _)
  have obj2 := T.obj _ _ st2
  have ne2 : ∀ b ∈ fp, b ≠ s2.heap.objs.size := fun b hb => by
    obtain ⟨o, e, _⟩ := obj2 b hb
    exact Nat.ne_of_lt (Heap.lt_size e)
  have st3 : tn 0 (s2.heap.push { cls := .type "list", dict := none, data := .seq ([] : List Value).toArray }) := T.keep _ _ _ st2 fun b hb o e => Heap.get?_push_of_some _ e
  have f3 : ∀ b ∈ fp, Q7 X pins (upd H2 s2.heap.objs.size (.lst [])) b := fun b hb => ⟨by rw [h8 (ne2 b hb)]; exact (f2 b hb).1, (f2 b hb).2⟩
  generalize hs3 : ({ s2 with heap := s2.heap.push { cls := .type "list", dict := none, data := .seq ([] : List Value).toArray } } : Shared) = s3 at I3 ⊢
  have st3' : tn 0 s3.heap := by rw [<- hs3]; exact st3
  generalize s2.heap.objs.size = p at *
  refine a1S ?_
  have hns : (pushCells (s3.heap.push { cls := .type "dict", data := .dict #[] }) scope.names).Ns s3.heap.objs.size fun _ => none := (Heap.Ns.new s3.heap (.type "dict")).keeps (pushCells_keeps _ _)
  have hkeep : ∀ b o, s3.heap.get? b = some o -> (pushCells (s3.heap.push { cls := .type "dict", data := .dict #[] }) scope.names).get? b = some o := fun b o e => pushCells_keeps _ _ b o (Heap.get?_push_of_some _ e)
  have hcl := cellsFrom_ok scope.names (s3.heap.push { cls := .type "dict", data := .dict #[] }) (s3.heap.objs.size + 1) [] ⟨fun _ _ hm => (nomatch hm), List.Pairwise.nil⟩ (by rw [Heap.size_push]; exact Nat.le_refl _)
  rw [Heap.size_push] at hcl
  generalize pushCells (s3.heap.push { cls := .type "dict", data := .dict #[] }) scope.names = h₁ at hns hkeep hcl ⊢
  have obj3 : ∀ b ∈ fp, ∃ o, s3.heap.get? b = some o := fun b hb => by
    obtain ⟨o, e, _⟩ := T.obj _ _ st3' b hb
    exact ⟨o, e⟩
  have J0 := I3.block (os := os) (t' := s3.toks) hk hok f3 obj3 (h₁ := h₁) hns hkeep hcl
  have ok0 := J0.ok
  have fpY : ∀ {H' : Hp}, (∀ b ∈ fp, H' b = none) -> ∀ b ∈ fp, Q7 (blk X os fr scope s3.heap.objs.size fp s3 (upd H2 p (.lst []))) [] H' b := fun hn b hb =>
    ⟨hn b hb, (ok0.exf b hb).1, ok0.exfs b hb, .inl hb, (ok0.exf b hb).2, fun q hq => nomatch hq⟩
  have st4 : tn 0 h₁ := T.keep _ _ _ st3' fun b hb o e => hkeep b o e
  have fr0 : ∀ b ∈ fp, upd H2 p (.lst []) b = none := fun b hb => (f3 b hb).1
  have loop : ∀ s4 : Shared, s4 = { s3 with heap := h₁, toks := s3.toks } →
      codeAny (model X.prog X.w) X.A (.compLoop (.ListComp elt [⟨tg, iter, ifs, 0⟩] scope pos) 0 (.ref it) (.ref p) (compEnvC scope (O1 X.env scope s3.heap.objs.size) s3.heap.objs.size X.env)) (RR (.ref p) s3.heap.objs.size) s4 := by
    rintro s4 rfl
    refine a2x (fun n s' => ∃ i ys H', Inv (blk X os fr scope s3.heap.objs.size fp s3 (upd H2 p (.lst []))) [] (blkσ os.length fr σ) H' s' /\ tn i s'.heap /\ (∀ b ∈ fp, H' b = none) /\ W i n ys H') ?_ m0 ⟨0, [], _, J0, st4, fr0, w0⟩
    rintro n s5 ⟨i, ys, H5, I5, st5, fr5, w5⟩
    rcases turn i n ys H5 w5 with ⟨stop, qd⟩ | ⟨go, step⟩
    . refine C9 (T.done (blk X os fr scope s3.heap.objs.size fp s3 (upd H2 p (.lst []))) rfl rfl rfl hc i [] s5 _ H5 (fun _ _ => False) I5 (fpY fr5) st5 stop) fun r s6 ⟨hr, I6⟩ => ?_
      subst hr
      exact hRR p _ s3 _ s6 H5 I3 rfl I6.free (I3.unblock f3 I6) (let ⟨m, hm, _⟩ := I6.loc; ⟨m, hm⟩) qd
    . refine C9 (T.item (blk X os fr scope s3.heap.objs.size fp s3 (upd H2 p (.lst []))) rfl rfl rfl hc i [] s5 _ H5 (fun _ _ => False) I5 (fpY fr5) st5 go) fun r s6 ⟨u, hr, h6⟩ => ?_
      subst hr
      refine C9 h6 fun _ s7 ⟨x, H7, I7, r7, y7, st7, fr7⟩ => ?_
      have I7' := I7.pinned (fpY fr7) (T.obj _ _ st7)
      refine C9 (hg _ _ _ _ _ s7 _ H7 x u _ I7' r7 (step x H7 y7)) fun _ s8 ⟨σ8, H8, I8, wk8, q8⟩ => ?_
      have again : ∀ {H' : Hp} {s' : Shared} {zs : List V} {m' : Nat}, Inv (blk X os fr scope s3.heap.objs.size fp s3 (upd H2 p (.lst []))) ([] ++ a1m fp s7.heap) σ8 H' s' -> m' < n -> W (i + 1) m' zs H' →
          ∃ m, m < n /\ ∃ i ys H', Inv (blk X os fr scope s3.heap.objs.size fp s3 (upd H2 p (.lst []))) [] (blkσ os.length fr σ) H' s' /\ tn i s'.heap /\ (∀ b ∈ fp, H' b = none) /\ W i m ys H' := fun {H' s' zs m'} J' hm' w' => by
        refine ⟨m', hm', i + 1, zs, H', (J'.weak wk8.1.symm fun i v e => wk8.2 i v e).unpinned, T.keep _ _ _ st7 fun b hb o e => (J'.pin (b, o) (List.mem_append_right _ (List.mem_append_right _ (P4 hb e)))).1, fun b hb => ?_, w'⟩
        obtain ⟨o, e, d⟩ := T.obj _ _ st7 b hb
        exact (J'.pin (b, o) (List.mem_append_right _ (List.mem_append_right _ (P4 hb e)))).2.1
      refine C9 (ht _ _ _ _ _ s8 σ8 H8 _ I8 q8) fun ok s9 ⟨H9, I9, q9⟩ => ?_
      cases ok with
      | false =>
        obtain ⟨m', hm', w9⟩ := q9
        exact again I9 hm' w9
      | true =>
        refine C9 (he _ _ _ _ _ s9 σ8 H9 _ I9 q9) fun y s10 ⟨v, H10, I10, r10, hp10, hz10, m', hm', w10⟩ => ?_
        refine C9 (O9 (X := blk X os fr scope s3.heap.objs.size fp s3 (upd H2 p (.lst []))) _ s10 σ8 H10 (.ref p) [v] (.ref p) [y] (fun _ H' => H' = upd H10 p (.lst (ys ++ [v]))) I10 rfl (.cons r10 .nil) ⟨p, ys, v, rfl, rfl, hp10, hz10, rfl⟩) fun _ s11 ⟨_, H11, I11, _, e11⟩ => ?_
        subst e11
        exact again I11 hm' w10
  exact codeAny_compStart_list (loop _ rfl) (T.self _ 0 _ _ _ st4 (loop _ rfl))
theorem R0 (os : List Str) (fr : List Nat) (hc : X.calm = true) (hi : PI X tg iter wi) (hg : ∀ C fp s₀ H₀, PG (blk X os fr scope C fp s₀ H₀) tg g) (he : ∀ C fp s₀ H₀, PE (blk X os fr scope C fp s₀ H₀) elt te)
    (hk : scope.kind = .function := by rfl) (hok : a0j X.env.scope scope X.N fr = true := by rfl) (hs : ∀ x, foldedSetIterable iter X.env x = pure x := by intro _; rfl) :
    PE X (.ListComp elt [⟨tg, iter, [], 0⟩] scope pos) (tLC os.length fr wi g te) := by
  intro pins s σ H Q I h
  unfold tLC at h
  simp only [<- a2R] at h
  rw [eval_ListComp]
  refine wpAny_comprehension_free (use := none) rfl hs (K1 (U5 I hok)) hk (fun x hx hl => by have := (O5 hok x hx).1; rw [hl] at this; exact this) (C9 (hi pins s σ H _ I h) fun v s1 h1 => C9 h1 fun itv s2 h2 => ?_)
  refine a1h (os := os) (D := fun p H' => Q (.ref p) H') (RR := fun acc C => compPost (model X.prog X.w) X.A X.xe none (EP X pins σ Q) acc C) hc hg (fun _ _ _ _ => a2Y) he hk hok h2 ?_
  intro p C s3 H3 s' H' I3 eC hn I' ⟨m, hm⟩ q
  refine ⟨m, hm, fun h' hs' => ⟨.ref p, H', I3.letgo I' hn (by omega) hs', rfl, q⟩⟩
theorem a2I {i : Nat} {x : Str} {pos' spos : Pos} (os : List Str) (fr : List Nat) (hN : X.N.Nodup) (hi' : X.N[i]? = some x) (hx : X.env.scope.names.lookup x = some .local)
    (hc : X.calm = true) (hi : PI X tg iter wi) (hg : ∀ C fp s₀ H₀, PG (blk X os fr scope C fp s₀ H₀) tg g) (he : ∀ C fp s₀ H₀, PE (blk X os fr scope C fp s₀ H₀) elt te)
    (hsw : swapsWith (.ListComp elt [⟨tg, iter, [], 0⟩] scope pos) (some (.Name x pos')) spos.line X.env = pure true := by rfl)
    (hk : scope.kind = .function := by rfl) (hok : a0j X.env.scope scope X.N fr = true := by rfl) (hs : ∀ x, foldedSetIterable iter X.env x = pure x := by intro _; rfl) :
    PS X (.Assign [.Name x pos'] (.ListComp elt [⟨tg, iter, [], 0⟩] scope pos) spos) (a5q (tLC os.length fr wi g te) (Q8 i)) := by
  intro pins s σ H D I h
  unfold a5q tLC at h
  simp only [<- a2R] at h
  rw [exec_Assign_Name_used _ _ _ _ hsw]
  refine wpAny_bind (wpAny_standAt (wpAny_bind ?_))
  show wpAny _ X.A (do let _ <- comprehension (.ListComp elt [⟨tg, iter, [], 0⟩] scope pos) scope X.env _ (newList []) false (eval iter X.env) (some (assign (.Name x pos') X.env))) _ _ s
  refine wpAny_bind (wpAny_mono (wpAny_comprehension_free (use := some (assign (.Name x pos') X.env)) (Q := fun _ s' => SP X pins D .next s') rfl hs (K1 (U5 I hok)) hk (fun x hx hl => by have := (O5 hok x hx).1; rw [hl] at this; exact this)
    (C9 (hi pins s σ H _ I h) fun v s1 h1 => C9 h1 fun itv s2 h2 => ?_)) (fun _ s' hq => wpAny_pure (wpAny_pure hq)) fun _ _ e => e)
  refine a1h (os := os) (D := fun p H' => D.nx (σ.set i (some (.ref p))) H') (RR := fun acc C => compPost (model X.prog X.w) X.A X.xe (some (assign (.Name x pos') X.env)) (fun _ s' => SP X pins D .next s') acc C) hc hg (fun _ _ _ _ => a2Y) he hk hok h2 ?_
  intro p C s3 H3 s' H' I3 eC hn I' ⟨m, hm⟩ q
  show wpAny _ X.A (assign (.Name x pos') X.env (.ref p)) _ _ _
  refine wpAny_assign_Name (a0k (v := .ref p) I' hN hi' (.inl hx) rfl (fun s'' I'' ⟨a, hsa, ha⟩ => ?_) (.inr hx))
  have hCa : C ≠ a := by
    rcases ha with e | e
    . rw [e]; exact Nat.ne_of_gt (by rw [<- eC]; exact I3.lt)
    . obtain ⟨v, z⟩ := I3.cell x a e
      exact Nat.ne_of_gt (by rw [<- eC]; exact z.lt)
  exact ⟨m, hm.sameBut hsa hCa, fun h' hs' => ⟨_, H', I3.letgo I'' hn (by omega) hs', q⟩⟩
end
end L2
namespace L2
open PySem PySem.Spec PyProof.Rows
section
variable {X : Cx} {pins : List (Addr × Obj)} {σ : St} {H : Hp} {s : Shared} {a : Addr} {xs : List V}
abbrev SqA (K : W.Frag) (H : Hp) (a : Addr) (xs : List V) : Prop := SqL K H a xs \/ SqT K H a xs
theorem a7Z {h' : Heap} {o : Obj} {h : Heap} (hk : ∀ b x, b ∉ [h.objs.size] -> (h.push o).get? b = some x -> h'.get? b = some x) : ∀ b x, h.get? b = some x -> h'.get? b = some x :=
  fun b x e => hk b x (fun hm => by rw [List.mem_singleton.mp hm] at e; exact Nat.lt_irrefl _ (Heap.lt_size e)) (Heap.get?_push_of_some _ e)
theorem a6i (hc : X.calm = true) (I : Inv X pins σ H s) (h : SqA X.K H a xs) : ∃ its : List Value, Vals xs its /\ ∀ (Q : Value -> Shared -> Prop) (E : Value -> Shared -> Prop),
    (∀ (o : Obj) (St : Nat -> Heap -> Prop), Walks X.prog X.w X.A.in1 s.heap.objs.size [s.heap.objs.size, a] [s.heap.objs.size] its.toArray.size (fun i v => its.toArray[i]? = some v) St -> St 0 (s.heap.push o) →
      (∀ b ∈ [s.heap.objs.size, a], b < (s.heap.push o).objs.size) -> Q (.ref s.heap.objs.size) { s with heap := s.heap.push o }) -> wpAny (model X.prog X.w) X.A.in1 (pyIter (.ref a)) Q E s := by
  have hh := I.ok.hd hc
  have lt2 : ∀ (o : Obj), a < s.heap.objs.size -> ∀ b ∈ [s.heap.objs.size, a], b < (s.heap.push o).objs.size := fun o hlt b hb => by
    rw [Heap.size_push]
    rcases List.mem_cons.mp hb with rfl | hb
    . exact Nat.lt_succ_self _
    . rw [List.mem_singleton.mp hb]; exact Nat.lt_succ_of_lt hlt
  rcases h with h | h
  . obtain ⟨its, r, p, hz⟩ := I.list h
    have hl := p.isList
    have hlt : a < s.heap.objs.size := by obtain ⟨_, e, _⟩ := hl; exact Heap.lt_size e
    refine ⟨its, r, fun Q E hQ => wpAny_pyIter_list hl ?_⟩
    exact hQ _ _ (Walks.list (A := X.A.in1) hh _ a (Nat.ne_of_lt hlt) its.toArray) ⟨⟨_, Heap.get?_push_size _ rfl, rfl, rfl⟩, hl.push _⟩ (lt2 _ hlt)
  . obtain ⟨its, r, p, hz⟩ := I.tuple h
    have hl : s.heap.IsTuple a its.toArray := p
    have hlt : a < s.heap.objs.size := by obtain ⟨_, e, _⟩ := hl; exact Heap.lt_size e
    refine ⟨its, r, fun Q E hQ => wpAny_pyIter_tuple hl ?_⟩
    exact hQ _ _ (Walks.tuple (A := X.A.in1) hh _ a (Nat.ne_of_lt hlt) its.toArray) ⟨⟨_, Heap.get?_push_size _ rfl, rfl, rfl⟩, hl.push _⟩ (lt2 _ hlt)
theorem a8m {ys : List V} {its : List Value} (r : Vals ys its) {i : Nat} {v : Value} (e : its.toArray[i]? = some v) : ∃ y, ys[i]? = some y /\ RelV y v := by
  have e' : its[i]? = some v := by simpa using e
  cases q : ys[i]? with
  | none => rw [r.none_of q] at e'; cases e'
  | some y =>
    obtain ⟨u, h1, h2⟩ := r.get q
    rw [e'] at h1; cases h1
    exact ⟨y, rfl, h2⟩
end
section
variable {X : Cx}
theorem a4D {ns : List Int} {its : List Value} (rv : Vals (ns.map V.int) its) : ∀ (i : Nat) (v : Value), its.toArray[i]? = some v -> ∃ t, v = Value.int (ns.getD i 0) t := fun i v hP => by
  obtain ⟨y, e, ry⟩ := a8m rv hP
  rw [List.getElem?_map] at e
  cases en : ns[i]? with
  | none => rw [en] at e; cases e
  | some n =>
    rw [en] at e; cases e
    obtain ⟨t, rfl⟩ := ry
    exact ⟨t, by rw [List.getD_eq_getElem?_getD, en]; rfl⟩
theorem a5n {l : List Int} {j : Nat} (h : j < l.length) : l.getD j 0 ∈ l := by
  rw [List.getD_eq_getElem?_getD, List.getElem?_eq_getElem h]; exact List.getElem_mem h
theorem a5P {l : List Int} {a : Int} (h : a ∈ l) : ∃ j, j < l.length /\ l.getD j 0 = a := by
  obtain ⟨j, hj, e⟩ := List.getElem_of_mem h
  exact ⟨j, hj, by rw [List.getD_eq_getElem?_getD, List.getElem?_eq_getElem hj]; exact e⟩
theorem T8 (hc : X.calm = true) : M3 X (.builtin "max") (fun vs H Q => ∃ (a : Addr) (ns : List Int), vs = [.ref a] /\ SqA X.K H a (ns.map V.int) /\ ns ≠ [] /\ ∀ M, M ∈ ns -> (∀ n ∈ ns, n <= M) -> Q (.int M) H) := by
  intro pins s σ H vs us Q I r h
  obtain ⟨a, ns, rfl, hs, hne, q⟩ := h
  obtain ⟨u, rfl, ru⟩ := R3 r
  cases ru
  obtain ⟨its, rv, walk⟩ := a6i hc I hs
  have hlen : its.toArray.size = ns.length := by rw [List.size_toArray, <- rv.length, List.length_map]
  have hpos : 0 < ns.length := List.length_pos_iff.mpr hne
  refine call_max_walk (walk _ _ fun o St W st fp => ?_)
  refine ⟨_, _, _, _, _, _, _, rfl, W, st, fp, by rw [hlen]; exact hpos, CmpOf.ints_gt (fun i => ns.getD i 0) (a4D rv), fun v h' tk hP hk => ?_⟩
  obtain ⟨h1, h2⟩ := argBest_gt (fun i => ns.getD i 0) (its.toArray.size - 1)
  obtain ⟨t, rfl⟩ := a4D rv _ v hP
  refine ⟨.int _, H, I.kept (a7Z hk), ⟨_, rfl⟩, q _ (a5n (by omega)) fun n hn => ?_⟩
  obtain ⟨j, hj, rfl⟩ := a5P hn
  exact h2 j (by omega)
theorem S9 : M3 X (.builtin "isinstance") (fun vs H Q => ∃ x t n b, vs = [x, .ty n] /\ a0g X.K H x t /\ W.kitOne X.K t (.type n) = some b /\ Q (.bl b) H) := by
  intro pins s σ H vs us Q I r h
  obtain ⟨x, t, n, b, rfl, ty, e, q⟩ := h
  obtain ⟨u, v, rfl, ru, rv⟩ := a1I r
  cases rv
  exact a5y I ru ty e fun tk => ⟨.bl b, H, I.tok _, rfl, q⟩
end
mutual
inductive Dp (K : W.Frag) (H : Hp) : V -> PyData -> Prop
  | non : Dp K H .non .none
  | bl (b : Bool) : Dp K H (.bl b) (.bool b)
  | int (i : Int) : Dp K H (.int i) (.int i)
  | str (x : Str) : Dp K H (.str x) (.str x)
  | lst {a : Addr} {xs : List V} {ds : List PyData} : SqL K H a xs -> Dps K H xs ds -> Dp K H (.ref a) (.list ds)
  | tup {a : Addr} {xs : List V} {ds : List PyData} : SqT K H a xs -> Dps K H xs ds -> Dp K H (.ref a) (.tuple ds)
inductive Dps (K : W.Frag) (H : Hp) : List V -> List PyData -> Prop
  | nil : Dps K H [] []
  | cons {x : V} {xs : List V} {d : PyData} {ds : List PyData} : Dp K H x d -> Dps K H xs ds -> Dps K H (x :: xs) (d :: ds)
end
theorem Same.tseq {K : W.Frag} {H H' : Hp} {a : Addr} {xs : List V} (e : Same H H') (h : SqT K H a xs) : SqT K H' a xs := by
  rcases h with (h | ⟨o, h⟩) | h
  . exact .inl (.inl (e _ _ h))
  . exact .inl (.inr ⟨o, e _ _ h⟩)
  . exact .inr h
mutual
theorem Dp.same {K : W.Frag} {H H' : Hp} (e : Same H H') : ∀ {x : V} {d : PyData}, Dp K H x d -> Dp K H' x d
  | _, _, .non => .non
  | _, _, .bl b => .bl b
  | _, _, .int i => .int i
  | _, _, .str x => .str x
  | _, _, .lst h r => .lst (e.seq h) (Dps.same e r)
  | _, _, .tup h r => .tup (e.tseq h) (Dps.same e r)
theorem Dps.same {K : W.Frag} {H H' : Hp} (e : Same H H') : ∀ {xs : List V} {ds : List PyData}, Dps K H xs ds -> Dps K H' xs ds
  | _, _, .nil => .nil
  | _, _, .cons a r => .cons (Dp.same e a) (Dps.same e r)
end
section
variable {X : Cx} {pins : List (Addr × Obj)} {σ : St} {H : Hp} {s : Shared}
mutual
theorem Dp.reads (I : Inv X pins σ H s) : ∀ {x : V} {d : PyData}, Dp X.K H x d -> ∀ {u : Value}, RelV x u -> ∃ as, Reads s.heap u d as
  | _, _, .non, u, r => by cases r; exact ⟨_, .none⟩
  | _, _, .bl b, u, r => by cases r; exact ⟨_, .bool b⟩
  | _, _, .int i, u, r => by obtain ⟨t, rfl⟩ := r; exact ⟨_, .int i t⟩
  | _, _, .str x, u, r => by obtain ⟨t, rfl⟩ := r; exact ⟨_, .str x t⟩
  | _, _, .lst h q, u, r => by
    cases r
    obtain ⟨its, rv, p, hz⟩ := I.list h
    obtain ⟨o, e1, e2, n, e3⟩ := p.isList
    obtain ⟨as, ra⟩ := Dps.reads I q rv
    exact ⟨_, .list e1 e2 e3 (by simpa using ra)⟩
  | _, _, .tup h q, u, r => by
    cases r
    obtain ⟨its, rv, p, hz⟩ := I.tuple h
    obtain ⟨o, e1, e2, n, e3⟩ := (show s.heap.IsTuple _ its.toArray from p)
    obtain ⟨as, ra⟩ := Dps.reads I q rv
    exact ⟨_, .tuple e1 e2 e3 (by simpa using ra)⟩
theorem Dps.reads (I : Inv X pins σ H s) : ∀ {xs : List V} {ds : List PyData}, Dps X.K H xs ds -> ∀ {us : List Value}, Vals xs us -> ∃ as, ReadsAll s.heap us ds as
  | _, _, .nil, us, r => by cases r; exact ⟨_, .nil⟩
  | _, _, .cons a q, us, r => by
    cases r with
    | cons r1 r2 =>
      obtain ⟨as, h1⟩ := Dp.reads I a r1
      obtain ⟨bs, h2⟩ := Dps.reads I q r2
      exact ⟨_, .cons h1 h2⟩
end
end
section
variable {X : Cx}
def b2y (K : W.Frag) : R2 := fun x y H Q => ∃ d e, Dp K H x d /\ Dp K H y e /\ d.canLay0 = true /\ e.canLay0 = true /\ min d.depth e.depth <= 60 /\ Q (.bl (!PyData.eqv d e)) H
theorem Z8 {k : Nat} (hr : Room k X.A) : X6 X (compareOp .NotEq) (b2y X.K) := by
  intro pins s σ H x y v u Q I rx ry h
  obtain ⟨d, e, h1, h2, c1, c2, hd, q⟩ := h
  obtain ⟨as, r1⟩ := h1.reads I rx
  obtain ⟨bs, r2⟩ := h2.reads I ry
  exact SeqAt.compareNe_reads r1 r2 c1 c2 (by have := hr.units; omega) ⟨.bl _, H, I, rfl, q⟩
end
theorem Same.new {H : Hp} {p : Addr} (h : H p = none) (o : HO) : Same H (upd H p o) := fun b u q => by rw [h8 (i7 q h)]; exact q
theorem Wk.set {n : Nat} {fr : List Nat} {σ : St} {i : Nat} {v : V} (hi : i < n) : Wk (blkσ n fr σ) ((blkσ n fr σ).set i (some v)) := by
  refine ⟨by simp, fun j w e => ?_⟩
  by_cases hj : j = i
  . subst hj
    unfold blkσ at e
    rw [List.getElem?_append_left (by simpa using hi), List.getElem?_replicate] at e
    split at e <;> cases e
  . rw [List.getElem?_set_ne (Ne.symm hj)]; exact e
structure a5t (J : It) (H1 : Hp) (xs : List V) : Prop where
  go : ∀ i H, Same H1 H -> i < xs.length -> J.go i H
  yld : ∀ i H x H', Same H1 H -> i < xs.length -> J.yld i H x H' -> H' = H /\ xs[i]? = some x
  stop : ∀ H, Same H1 H -> J.stop xs.length H
theorem E1 {K : W.Frag} {a : Addr} {xs : List V} {H1 : Hp} (h : SqL K H1 a xs) : a5t (Itl K a) H1 xs :=
  ⟨fun i H e hi => ⟨xs, xs[i], e.seq h, List.getElem?_eq_getElem hi⟩, fun i H x H' e hi y => ⟨y.1, y.2 xs (e.seq h)⟩, fun H e => ⟨xs, e.seq h, Nat.le_refl _⟩⟩
theorem S2 {K : W.Frag} {a : Addr} {xs : List V} {H1 : Hp} (h : SqT K H1 a xs) : a5t (Itt K a) H1 xs :=
  ⟨fun i H e hi => ⟨xs, xs[i], e.tseq h, List.getElem?_eq_getElem hi⟩, fun i H x H' e hi y => ⟨y.1, y.2 xs (e.tseq h)⟩, fun H e => ⟨xs, e.tseq h, Nat.le_refl _⟩⟩
theorem a3K {lo : Int} {n : Nat} {H1 : Hp} : a5t (Itr lo n) H1 ((List.range n).map fun (i : Nat) => V.int (lo + (i : Int))) :=
  ⟨fun i H e hi => (show i < n from by simpa using hi), fun i H x H' e hi y => ⟨y.1, by rw [y.2, List.getElem?_map, List.getElem?_range (by simpa using hi)]; rfl⟩, fun H e => by simp [Itr]⟩
theorem Paired.app {α β : Type} {F : α -> β -> Prop} : ∀ {a c : List α} {b d : List β}, Paired F a b -> Paired F c d -> Paired F (a ++ c) (b ++ d)
  | _, _, _, _, .nil, s => s
  | _, _, _, _, .cons r t, s => .cons r (Paired.app t s)
section
variable {xs : List V} {J : It} {n : Nat} {fr : List Nat} {g : TG} {te : TE} {σ : St} {H1 : Hp} {p : Addr} {D : Hp -> Prop}
theorem M8 (hJ : a5t J H1 xs) (hp : H1 p = none) (hz : xs.length < sizeLine) (F : V -> V)
    (step : ∀ (i : Nat) x H (N : VK), xs[i]? = some x -> Same H1 H -> N (F x) H -> g x (blkσ n fr σ) H fun σ2 H2 => Wk (blkσ n fr σ) σ2 /\ te σ2 H2 N)
    (hd : D (upd H1 p (.lst (xs.map F)))) : lcW n fr g te σ J H1 p D := by
  refine ⟨fun i m ys H => m = xs.length - i /\ i <= xs.length /\ ys = (xs.take i).map F /\ H = upd H1 p (.lst ys), ⟨xs.length, by simp, Nat.zero_le _, by simp, rfl⟩, ?_⟩
  rintro i m ys H ⟨rfl, hi, rfl, rfl⟩
  have e := Same.new (o := .lst ((xs.take i).map F)) hp
  by_cases hlt : i < xs.length
  . refine .inr ⟨hJ.go i _ e hlt, fun x H' y => ?_⟩
    obtain ⟨rfl, hx⟩ := hJ.yld i _ x H' e hlt y
    refine step i x _ _ hx e ⟨upd_same, by rw [List.length_map, List.length_take]; omega, xs.length - (i + 1), by omega, rfl, hlt, ?_, a0w⟩
    rw [List.take_succ, hx, List.map_append]; rfl
  . have : i = xs.length := by omega
    subst this
    refine .inl ⟨hJ.stop _ e, ?_⟩
    rw [List.take_of_length_le (Nat.le_refl _)]; exact hd
theorem a2e (hJ : a5t J H1 xs) (hp : H1 p = none) (hz : xs.length < sizeLine) (R : Nat -> V -> Hp -> Prop) (hR : ∀ i y H H', R i y H -> (∀ b o, b ≠ p -> H b = some o -> H' b = some o) -> R i y H')
    (step : ∀ (i : Nat) x H ys (N : VK), xs[i]? = some x -> Same H1 H -> H p = some (.lst ys) -> (∀ v H3, Same H H3 -> R i v H3 -> N v H3) -> g x (blkσ n fr σ) H fun σ2 H2 => Wk (blkσ n fr σ) σ2 /\ te σ2 H2 N)
    (hd : ∀ ys H, Same H1 H -> H p = some (.lst ys) -> ys.length = xs.length -> (∀ i y, ys[i]? = some y -> R i y H) -> D H) : lcW n fr g te σ J H1 p D := by
  refine ⟨fun i m ys H => m = xs.length - i /\ i <= xs.length /\ Same H1 H /\ H p = some (.lst ys) /\ ys.length = i /\ ∀ j y, ys[j]? = some y -> R j y H, ⟨xs.length, by simp, Nat.zero_le _, Same.new hp _, upd_same, rfl, fun j y e => by simp at e⟩, ?_⟩
  rintro i m ys H ⟨rfl, hi, e, hH, len, pr⟩
  by_cases hlt : i < xs.length
  . refine .inr ⟨hJ.go i _ e hlt, fun x H' y => ?_⟩
    obtain ⟨rfl, hx⟩ := hJ.yld i _ x H' e hlt y
    refine step i x _ ys _ hx e hH fun v H3 s3 r3 => ⟨s3 _ _ hH, by omega, xs.length - (i + 1), by omega, rfl, hlt, fun b o q => ?_, upd_same, by rw [List.length_append, len]; rfl, fun j y ey => ?_⟩
    . rw [h8 (i7 q hp)]; exact s3 _ _ (e _ _ q)
    . have up : ∀ b o, b ≠ p -> H3 b = some o -> upd H3 p (.lst (ys ++ [v])) b = some o := fun b o hb q => by rw [h8 hb]; exact q
      by_cases hj : j < ys.length
      . rw [List.getElem?_append_left hj] at ey
        exact hR j y _ _ (pr j y ey) fun b o hb q => up b o hb (s3 _ _ q)
      . rw [List.getElem?_append_right (by omega)] at ey
        have hj' : j - ys.length = 0 := by
          cases q : j - ys.length with
          | zero => rfl
          | succ k => rw [q] at ey; simp at ey
        rw [hj'] at ey
        have : j = i := by omega
        subst this
        simp at ey
        subst ey
        exact hR j v _ _ r3 up
  . have : i = xs.length := by omega
    subst this
    exact .inl ⟨hJ.stop _ e, hd ys H e hH len pr⟩
end
end L2
namespace L2
open PySem PySem.Spec PyProof.Rows
theorem Inv.turnedLaid {X : Cx} {pins : List (Addr × Obj)} {σ : St} {H : Hp} {s : Shared} {h' : Heap} {fp : List Addr} {T : Addr} {xs : List V} {its : List Value} (I : Inv X pins σ H s) (hf : ∀ b ∈ fp, Q7 X pins H b)
    (k : ∀ b o, b ∉ fp -> s.heap.get? b = some o -> h'.get? b = some o) (ho : ∀ b ∈ fp, ∃ o, h'.get? b = some o) (hT : s.heap.objs.size <= T) (hz : xs.length <= sizeLine) (hv : Vals xs its) (ht : IsTup h' T its.toArray) :
    Inv X pins σ (upd H T (.tup xs)) { s with heap := h' } := by
  have hTn : H T = none := I.hok.fresh hT
  have neT : ∀ b o, s.heap.get? b = some o -> b ≠ T := fun b o e => Nat.ne_of_lt (Nat.lt_of_lt_of_le (Heap.lt_size e) hT)
  refine I.step (g' := s.gens) (t' := s.toks) (d' := s.drawn) (ch := fp) (fun b hb => ⟨(hf b hb).2.2.2.1, (hf b hb).2.1, (hf b hb).2.2.2.2.1, (hf b hb).2.2.2.2.2⟩) (fun b o _ _ hc e _ => k b o hc e) (fun b o _ _ hc e _ => ⟨o.slots, k b o hc e⟩)
    (fun b o hc e n => by rw [h8 (neT b o e)]; exact n) (fun b o hc e => ⟨o, k b o hc e⟩) (fun b ys e => by rw [h8 (i7 e hTn)]; exact e) (fun b o u e => by rw [h8 (i7 e hTn)]; exact e) (fun b ps e => ⟨#[], by rw [h8 (i7 e hTn), e]; simp⟩)
    (fun m hm => ?_) (fun b u e => ?_) I.bare
  . obtain ⟨o, es, ep, e1, r⟩ := hm
    exact ⟨o, es, ep, k _ o (fun z => (hf _ z).2.1 rfl) e1, r⟩
  . by_cases hb : b = T
    . subst hb; rw [upd_same] at e; cases e
      exact ⟨hz, its, hv, ht⟩
    . rw [h8 hb] at e
      have nit : ∀ c u, H c = some u -> c ∉ fp := fun c u q z => by rw [(hf c z).1] at q; cases q
      refine (I.hok b u e).stay (fun c v hc q => k c v ?_ q) (fun c q => by rw [h8 (i7 q hTn)]; exact q) fun c ys q => by rw [h8 (i7 q hTn)]; exact q
      rcases hc with z | z
      . rw [z]; exact nit b u e
      . exact nit c _ z
theorem Inv.turnedAll {X : Cx} {pins : List (Addr × Obj)} {σ : St} {H : Hp} {s : Shared} {h' : Heap} {fp : List Addr} (I : Inv X pins σ H s) (hf : ∀ b ∈ fp, Q7 X pins H b)
    (k : ∀ b o, b ∉ fp -> s.heap.get? b = some o -> h'.get? b = some o) : Inv X pins σ H { s with heap := h' } := by
  refine I.step (g' := s.gens) (t' := s.toks) (d' := s.drawn) (ch := fp) (fun b hb => ⟨(hf b hb).2.2.2.1, (hf b hb).2.1, (hf b hb).2.2.2.2.1, (hf b hb).2.2.2.2.2⟩) (fun b o _ _ hc e _ => k b o hc e) (fun b o _ _ hc e _ => ⟨o.slots, k b o hc e⟩)
    (fun b o hc e n => n) (fun b o hc e => ⟨o, k b o hc e⟩) (fun b ys e => e) (fun b o u e => e) (fun b ps e => ⟨#[], by rw [e]; simp⟩)
    (fun m hm => ?_) (fun b u e => ?_) I.bare
  . obtain ⟨o, es, ep, e1, r⟩ := hm
    exact ⟨o, es, ep, k _ o (fun z => (hf _ z).2.1 rfl) e1, r⟩
  . have nit : ∀ c u, H c = some u -> c ∉ fp := fun c u q z => by rw [(hf c z).1] at q; cases q
    refine (I.hok b u e).stay (fun c v hc q => k c v ?_ q) (fun c q => q) fun c ys q => q
    rcases hc with z | z
    . rw [z]; exact nit b u e
    . exact nit c _ z
theorem b0a (n l1 l2 : Nat) (h1 : l1 < n) (h2 : l2 < n) : ZipApart (n + 4) (n + 2) (n + 3) n (n + 1) l1 l2 where
  TIz := (by omega : (n + 2 : Nat) ≠ n + 4)
  TOz := (by omega : (n + 3 : Nat) ≠ n + 4)
  i1z := (by omega : (n : Nat) ≠ n + 4)
  i2z := (by omega : (n + 1 : Nat) ≠ n + 4)
  TITO := (by omega : (n + 2 : Nat) ≠ n + 3)
  TIi1 := (by omega : (n + 2 : Nat) ≠ n)
  TIi2 := (by omega : (n + 2 : Nat) ≠ n + 1)
  TOi1 := (by omega : (n + 3 : Nat) ≠ n)
  TOi2 := (by omega : (n + 3 : Nat) ≠ n + 1)
  i12 := (by omega : (n : Nat) ≠ n + 1)
  l1z := (by omega : (l1 : Nat) ≠ n + 4)
  l1TO := (by omega : (l1 : Nat) ≠ n + 3)
  l1i1 := (by omega : (l1 : Nat) ≠ n)
  l1i2 := (by omega : (l1 : Nat) ≠ n + 1)
  l2z := (by omega : (l2 : Nat) ≠ n + 4)
  l2TO := (by omega : (l2 : Nat) ≠ n + 3)
  l2i1 := (by omega : (l2 : Nat) ≠ n)
  l2i2 := (by omega : (l2 : Nat) ≠ n + 1)
section
variable {X : Cx}
def b0U (i j : Int) : Prop := 0 < j /\ j < 2 ^ 8000
theorem log2_lt {y : Nat} (h : y < 2 ^ 8000) : y.log2 < 9000 := by
  by_cases h0 : y = 0
  . subst h0; decide
  . exact Nat.lt_of_lt_of_le ((Nat.log2_lt h0).mpr h) (by decide)
theorem a1g : X6 X (binaryOp .FloorDiv) (rI b0U fun i j => .int (i / j)) := opI fun i j _ _ _ _ _ hc q => by
  have h0 : j ≠ 0 := by have := hc.1; omega
  have e : i.fdiv j = i / j := Int.fdiv_eq_ediv_of_nonneg i (Int.le_of_lt hc.1)
  refine floordiv_int h0 (by rw [e]; exact q) (.inl (PyProof.noPylong_of_log2 (log2_lt ?_)))
  have := hc.1
  have := hc.2
  omega
def Big (n : Nat) (i : Int) : Prop := i.natAbs < 2 ^ n
def b0Q (i j : Int) : Prop := Big 1000000 i /\ Big 1000000 j
theorem a4F {i : Int} (h : Big 1000000 i) : Builtin.Int.intBits i <= 2 ^ 20 := by
  unfold Builtin.Int.intBits
  split
  . exact Nat.zero_le _
  . rename_i h0
    have h0' : i.natAbs ≠ 0 := by
      intro z
      exact h0 (by rw [Int.natAbs_eq_zero.mp z]; rfl)
    have := (Nat.log2_lt h0').mpr h
    omega
theorem V0 : X6 X (binaryOp .Mult) (rI b0Q fun i j => .int (i * j)) := opI fun _ _ _ _ _ _ _ hc q => mul_int q (IntMulOk.of_bits (a4F hc.1) (a4F hc.2))
end
theorem Same.write {H H' : Hp} {p : Addr} {o : HO} (e : Same H H') (hp : H p = none) : Same H (upd H' p o) := fun b u q => by rw [h8 (i7 q hp)]; exact e b u q
section
variable {xs : List V} {J : It} {fr : List Nat} {tc : TT} {σ : St} {H1 : Hp} {p : Addr} {D : Hp -> Prop}
end
end L2
namespace L2
open PySem PySem.W
theorem S5 : typeOf (.builtin "object.__class__") = pure (.type "getset_descriptor") := by kernel_rfl
theorem a1Q : (".".intercalate ("object.__class__".cutAt '.').dropLast) = "object" := by
  have e0 : "object.__class__".cutAt '.' = ["object", "__class__"] := by decide +kernel
  rw [e0]
  decide +kernel
section
variable {prog : Program} {w : World} {A : Around} {E : Value -> Shared -> Prop} {s : Shared} {K : Frag} {x C D : Addr} {ox : Obj}
theorem a6X {R : Result -> Shared -> Prop} (X : K.In s.heap) (hx : s.heap.get? x = some ox) (hc : ox.cls = .ref D) (hm : mroIn K D (.type "object") = some true) (hq : R (.ok (.ret (.ref D))) s) :
    codeAny (model prog w) A (.call (.builtin "getset_descriptor.__get__") ⟨[.builtin "object.__class__", .ref x, .ref D], []⟩) R s := by
  obtain ⟨h, g, d, t, os⟩ := s
  have L1 := looks_mroIn (M := model prog w) X hm
  have hT5 : (⟨h, g, d, t, os⟩ : Shared).TypeIs (.builtin "object.__class__") "getset_descriptor" := S5
  refine codeAny_call_builtin F.slot_gs_get.plain F.entry_gs_get (F.slot_gs_get.check _ _ _ _ _ _ _ _ hT5 (F.args_gs_get _ _ _) ?_)
  repeat (any_goals (first | assumption | (with_reducible refine wpAny_loadPart_at hx ?_; rw [hc]) | with_reducible refine L1.at ?_ | wp_step))
  rw [a1Q]
  refine L1.at ?_
  repeat (any_goals (first | assumption | wp_step))
  refine ⟨Code.quiet_builtin _ (by decide +kernel), codeAny_builtin KF.entry_class ?_⟩
  unfold Builtin.«object.__class__»
  repeat (any_goals (first | assumption | (with_reducible refine wpAny_loadPart_at hx ?_; rw [hc]) | wp_step))
theorem a5Y {tk : Tok} {Q : PySem.Fin -> Shared -> Prop} (X : K.In s.heap) (hx : s.heap.get? x = some ox) (hc : ox.cls = .ref D) (ha : findIn K (.ref D) "__class__" = some (some (.builtin "object.__class__")))
    (hm : mroIn K D (.type "object") = some true)
    (hq : Q (.done (.ret (.ref D))) s) :
    wpAny (model prog w) A (Builtin.«object.__getattribute__» ⟨[.ref x, .str "__class__" tk], []⟩) Q E s := by
  obtain ⟨h, g, d, t, os⟩ := s
  have L1 := looks_findIn (M := model prog w) X ha
  have hT5 : (⟨h, g, d, t, os⟩ : Shared).TypeIs (.builtin "object.__class__") "getset_descriptor" := S5
  have f5 := S5
  have f6 := F.slot_gs_get.lookup
  have f7 := F.slot_gs_set.lookup
  unfold Builtin.«object.__getattribute__»
  repeat (any_goals (first | assumption | (with_reducible refine wpAny_loadPart_at hx ?_; rw [hc]) | with_reducible refine L1.at ?_ | wp_step))
  refine a6X X hx hc hm ?_
  repeat (any_goals (first | assumption | wp_step))
theorem a5G {nv : Value} {Q : Unit -> Shared -> Prop} (X : K.In s.heap) (hx : s.heap.get? x = some ox) (hc : ox.cls = .ref D) (hb : mroIn K D (.type "BaseException") = some true) (hq : Q () s) :
    wpAny (model prog w) A (checkBuiltinCall "BaseException.__getattribute__" ⟨[.ref x, nv], []⟩) Q E s := by
  have hk : builtinKind "BaseException.__getattribute__" = some .slot := by decide +kernel
  have hsplit : splitId "BaseException.__getattribute__" = some ("BaseException", "__getattribute__") := by decide +kernel
  have ag := F.args_bexc_ga (.ref x) nv
  obtain ⟨h, g, d, t, os⟩ := s
  have L1 := looks_mroIn (M := model prog w) X hb
  simp only [checkBuiltinCall, hk, hsplit]
  refine wpAny_bind ?_
  unfold isInstance
  repeat (first | (with_reducible refine wpAny_loadPart_at hx ?_; rw [hc]) | with_reducible refine L1.at ?_ | wp_step)
  exact hq
theorem a6O {tk : Tok} {R : Result -> Shared -> Prop} (X : K.In s.heap) (hx : s.heap.get? x = some ox) (hc : ox.cls = .ref D) (ha : findIn K (.ref D) "__class__" = some (some (.builtin "object.__class__")))
    (hm : mroIn K D (.type "object") = some true) (hb : mroIn K D (.type "BaseException") = some true) (hq : R (.ok (.ret (.ref D))) s) :
    codeAny (model prog w) A (.call (.builtin "BaseException.__getattribute__") ⟨[.ref x, .str "__class__" tk], []⟩) R s :=
  codeAny_call_builtin F.excAttr_ValueError.ga.plain F.entry_bexc_ga (a5G X hx hc hb (a5Y X hx hc ha hm hq))
theorem a5B {Q : Option Value -> Shared -> Prop} (X : K.In s.heap) (hx : s.heap.get? x = some ox) (hc : ox.cls = .ref D) (hga : findIn K (.ref D) "__getattribute__" = some (some (.builtin "BaseException.__getattribute__")))
    (hgn : findIn K (.ref D) "__getattr__" = some none) (ha : findIn K (.ref D) "__class__" = some (some (.builtin "object.__class__")))
    (hm : mroIn K D (.type "object") = some true) (hb : mroIn K D (.type "BaseException") = some true) (hq : Q (some (.ref D)) { s with toks := s.toks + 1 }) :
    wpAny (model prog w) A (getAttr? (.ref x) "__class__") Q E s := by
  obtain ⟨h, g, d, t, os⟩ := s
  have L1 := looks_findIn (M := model prog w) X hga
  have L2 := looks_findIn (M := model prog w) X hgn
  have f3 := F.excAttr_ValueError.ga.bind (.ref x)
  have hx2 : (Value.builtin "BaseException.__getattribute__" == Value.builtin "object.__getattribute__") = false := by decide +kernel
  have hx1 : (onTheHeap (Value.ref D) && Value.builtin "BaseException.__getattribute__" == Value.builtin "object.__getattribute__") = false := by rw [hx2]; rfl
  have hx0 : (false && onTheHeap (Value.builtin "BaseException.__getattribute__")) = false := rfl
  unfold getAttr?
  repeat (any_goals (first | assumption | (with_reducible refine wpAny_loadPart_at hx ?_; rw [hc]) | with_reducible refine L1.at ?_ | with_reducible refine L2.at ?_ | wp_step))
  refine a6O X hx hc ha hm hb ?_
  repeat (any_goals (first | assumption | wp_step))
end
structure R7 (K : Frag) (D : Addr) : Prop where
  ob : ∃ nm q N bs bm hdct sn sub ab col dd k0 k1 k2 k3 k5, K.lookup D = some (excClassObj nm q D N bs bm hdct sn sub ab col dd k0 k1 k2 k3 k5 "ValueError.__new__") /\ nsOkIn K N = true /\ nsIn K N "__init__" = some none ∧
    tailIn K [.type "ValueError", .type "Exception", .type "BaseException", .type "object"] bm = true
  ga : findIn K (.ref D) "__getattribute__" = some (some (.builtin "BaseException.__getattribute__"))
  gn : findIn K (.ref D) "__getattr__" = some none
  ca : findIn K (.ref D) "__class__" = some (some (.builtin "object.__class__"))
  mo : mroIn K D (.type "object") = some true
  mb : mroIn K D (.type "BaseException") = some true
def a4n (ea D : Addr) (h : Heap) : Prop := ∃ o, h.get? ea = some o /\ o.cls = .ref D
theorem a6r {K : Frag} {D ea : Addr} (k : R7 K D) : KitX K (.ref ea) (.ref D) (a4n ea D) where
  ty := fun M h X p => by
    obtain ⟨o, h1, h2⟩ := p
    exact h2 ▸ (Looks.ld h1).andThen .now
  it := fun M h X p => by
    obtain ⟨_, _, _, _, _, _, _, _, _, _, _, _, _, _, _, _, lk, _⟩ := k.ob
    intro A' Q' E' s' kk q
    unfold isType loadHead
    exact wpAny_bind (wpAny_loadPart (kk _ _ (X _ _ lk)) (wpAny_pure q))
  ne := fun h tp dd its n sl X htp => Bool.eq_false_iff.mpr fun q => by
    obtain ⟨_, _, _, _, _, _, _, _, _, _, _, _, _, _, _, _, lk, _⟩ := k.ob
    have e : D = tp := Value.ref.inj (beq_iff_eq.mp q)
    subst e
    have z := (X _ _ lk).symm.trans htp
    exact absurd (Value.type.inj (congrArg Obj.cls (Option.some.inj z))) (by decide)
  ca := fun {prog w A E Q s} X p kk => by
    obtain ⟨o, h1, h2⟩ := p
    exact a5B X h1 h2 k.ga k.gn k.ca k.mo k.mb kk
def a5b (ea D : Addr) : HO := .ext (a4n ea D)
theorem a8o {P : Program} {w : World} {H : Hp} {h : Heap} {ea D : Addr} (e : a4n ea D h) : ObjOk P w H h ea (a5b ea D) :=
  ⟨e, let ⟨o, h1, _⟩ := e; ⟨o, h1⟩, fun h1 h2 ⟨o, a, b⟩ k => ⟨o, k o a, b⟩⟩
theorem D3 {X : Cx} : M3 X (.builtin "isinstance") (fun vs H Q => ∃ (ea D : Addr) (c : V) (b : Bool), vs = [.ref ea, c] /\ H ea = some (a5b ea D) /\ R7 X.K D /\ (∀ u, RelV c u -> kitOne X.K (.ref D) u = some b) /\ Q (.bl b) H) := by
  intro pins s σ H vs us Q I r h
  obtain ⟨ea, D, c, b, rfl, he, k, e, q⟩ := h
  obtain ⟨u, v, rfl, ru, rv⟩ := a1I r
  cases (show u = Value.ref ea from ru)
  have ho : ObjOk X.prog X.w H s.heap ea (a5b ea D) := I.hok ea _ he
  exact kia_one (a6r k) I.kIn ho.1 (e v rv) (fun z => nomatch z) fun tk => ⟨.bl b, H, I.tok _, rfl, q⟩
theorem a5s {prog : Program} {w : World} {A : Around} {E : Value -> Shared -> Prop} {s : Shared} {K : Frag} {ea D R : Addr} {oe : Obj} {Q : Bool -> Shared -> Prop} (X : K.In s.heap) (hx : s.heap.get? ea = some oe) (hc : oe.cls = .ref D)
    (hs : mroIn K D (.ref R) = some true) (kR : R7 K R) (hq : Q true s) : wpAny (model prog w) A (excMatches (.ref ea) (.ref R)) Q E s := by
  obtain ⟨h, g, d, t, os⟩ := s
  obtain ⟨_, _, _, _, _, _, _, _, _, _, _, _, _, _, _, _, lk, _⟩ := kR.ob
  have hR := X _ _ lk
  have L1 := looks_mroIn (M := model prog w) X hs
  have L2 := looks_mroIn (M := model prog w) X kR.mb
  have f := tc_notTuple
  unfold excMatches
  repeat (first | with_reducible refine L1.at ?_ | with_reducible refine L2.at ?_ | (with_reducible refine wpAny_loadPart_at hx ?_; rw [hc]) | with_reducible refine wpAny_loadPart_at hR ?_ | wp_step)
  exact hq
end L2
namespace L2
open PySem PySem.Spec PyProof.Rows
theorem ObjOk.got {P : Program} {w : World} {H : Hp} {h : Heap} {a : Addr} {o : HO} (x : ObjOk P w H h a o) : ∃ ob, h.get? a = some ob := by
  cases o with
  | lst xs => obtain ⟨_, _, _, _, e⟩ := x; exact ⟨_, e⟩
  | tup xs => obtain ⟨_, _, _, ob, e, _⟩ := x; exact ⟨ob, e⟩
  | dK kvs => obtain ⟨_, _, _, _, ob, _, _, e, _⟩ := x; exact ⟨ob, e⟩
  | dT kvs => obtain ⟨_, _, _, _, ob, _, _, e, _⟩ := x; exact ⟨ob, e⟩
  | set S n => obtain ⟨ob, _, _, _, e, _⟩ := x; exact ⟨ob, e⟩
  | ins C dx fs => obtain ⟨_, _, _, e, _⟩ := x; exact ⟨_, e⟩
  | own y => exact x
  | xd fs => obtain ⟨_, ⟨ob, _, _, e, _⟩, _⟩ := x; exact ⟨ob, e⟩
  | rng lo hi => obtain ⟨_, _, _, e⟩ := x; exact ⟨_, e⟩
  | frz ob u => obtain ⟨e, _⟩ := x; exact ⟨_, e⟩
  | tbl ps => exact ⟨_, (show h.get? a = some _ from x)⟩
  | met f y => exact ⟨_, (show h.get? a = some _ from x)⟩
  | ext φ => obtain ⟨_, e, _⟩ := x; exact e
theorem Un.slots {fs ex : List Addr} {H0 H' : Hp} {h0 h1 h2 : Heap} (u : Un fs ex H0 H' h0 h1) (hb : ∀ b o, h1.get? b = some o -> (∃ o0, h0.get? b = some o0) -> b ∉ fs -> h2.get? b = some o)
    (hf : ∀ b ∈ fs, ∀ o, h1.get? b = some o -> ∃ sl, h2.get? b = some { o with slots := sl }) : Un fs ex H0 H' h0 h2 where
  keep := fun b o q n hfs hx => hb b o (u.keep b o q n hfs hx) ⟨o, q⟩ hfs
  slot := fun b o q n hfs hx => by
    obtain ⟨sl, e⟩ := u.slot b o q n hfs hx
    obtain ⟨sl', e'⟩ := hf b hfs _ e
    exact ⟨sl', e'⟩
  free := u.free
  there := fun b o q hx => by
    obtain ⟨o', e⟩ := u.there b o q hx
    by_cases hm : b ∈ fs
    . obtain ⟨sl, e'⟩ := hf b hm _ e; exact ⟨_, e'⟩
    . exact ⟨_, hb b o' e ⟨o, q⟩ hm⟩
  tups := u.tups
  frzs := u.frzs
  tbls := u.tbls
theorem HOk.slots {P : Program} {w : World} {H : Hp} {h h' : Heap} (x : HOk P w H h) (k : ∀ b u o, H b = some u -> h.get? b = some o -> h'.get? b = some o) : HOk P w H h' := fun a o e =>
  (x a o e).stay (fun b u hb q => by
    rcases hb with rfl | hb
    . exact k b o u e q
    . exact k b _ u hb q) (fun _ q => q) fun _ _ q => q
structure Fly (P : Program) (w : World) (l : List Env) (H : Hp) (s : Shared) (ea t D : Addr) (B : Heap) (H' : Hp) (s' : Shared) : Prop where
  os : s'.os = s.os
  bare : AllBare s'.gens
  un : Un (frs l) [] H H' s.heap s'.heap
  hok : HOk P w H' s'.heap
  fly : Heap.FlyingW B l ea (.ref D) (.ref t) s'.heap
  inb : ∀ b o, s'.heap.get? b = some o -> ((∃ o0, s.heap.get? b = some o0) /\ b ∉ frs l) \/ H' b ≠ none -> B.get? b = some o
def CX1 (P : Program) (w : World) : CXT := fun l H s E e s' => ∃ (ea t D : Addr) (B : Heap) (H' : Hp), e = .ref ea /\ Fly P w l H s ea t D B H' s' /\ E (.ref D) none H'
section
variable {P : Program} {w : World} {l : List Env} {H : Hp} {s s' : Shared} {ea t D : Addr} {B h' : Heap} {H' : Hp}
theorem Fly.slots (F : Fly P w l H s ea t D B H' s') (fl : Heap.FlyingW B l ea (.ref D) (.ref t) h') (up : s'.heap.UpToSlots h') : Fly P w l H s ea t D B H' { s' with heap := h' } := by
  have st : ∀ b o, B.get? b = some o -> h'.get? b = some o := fl.1
  refine ⟨F.os, F.bare, F.un.slots (fun b o q z hn => st b o (F.inb b o q (.inl ⟨z, hn⟩))) (fun b hb o q => ?_), F.hok.slots (fun b u o e q => st b o (F.inb b o q (.inr (by rw [e]; simp)))), fl, fun b o q z => ?_⟩
  . obtain ⟨_, o', ho', hd⟩ := F.fly.2.2.1.mem hb
    rw [q] at ho'; cases ho'
    exact up b o q hd
  . have : ∃ o1, s'.heap.get? b = some o1 := by
      rcases z with ⟨⟨o0, z⟩, _⟩ | z
      . exact F.un.there b o0 z (by simp)
      . cases e : H' b with
        | none => exact absurd e z
        | some u => exact (F.hok b u e).got
    obtain ⟨o1, q1⟩ := this
    have b1 := F.inb b o1 q1 z
    have := st b o1 b1
    rw [show h'.get? b = some o from q] at this
    cases this
    exact b1
theorem Fly.new (F : Fly P w l H s ea t D B H' s') : s.heap.get? ea = none /\ H' ea = none := by
  obtain ⟨_, hb, hfr, oe, vs, T, oT, ts, he, hc, hd, _⟩ := F.fly
  have nb : ∀ o, B.get? ea ≠ some o := fun o z => by rw [hb] at z; cases z
  constructor
  . cases q : s.heap.get? ea with
    | none => rfl
    | some o0 =>
      refine absurd (F.inb ea oe he (.inl ⟨⟨o0, q⟩, fun hm => ?_⟩)) (nb _)
      obtain ⟨_, o, ho, hnf⟩ := hfr.mem hm
      rw [he] at ho; cases ho
      exact hnf vs hd
  . cases q : H' ea with
    | none => rfl
    | some u => exact absurd (F.inb ea oe he (.inr (by rw [q]; simp))) (nb _)
theorem Fly.at (F : Fly P w l H s ea t D B H' s') : a4n ea D s'.heap := by
  obtain ⟨o, h1, h2⟩ := F.fly.there
  exact ⟨o, h1, h2⟩
theorem Fly.inv {X : Cx} {pins : List (Addr × Obj)} {σ : St} (I : Inv X pins σ H s) (F : Fly X.prog X.w X.stack H s ea t D B H' s') : Inv X pins σ H' s' :=
  I.call' F.os F.un F.hok F.bare (fun b z => absurd z (by simp))
theorem Fly.track {X : Cx} {pins : List (Addr × Obj)} {σ : St} (I : Inv X pins σ H s) (F : Fly X.prog X.w X.stack H s ea t D B H' s') : Inv X pins σ (upd H' ea (a5b ea D)) s' := by
  obtain ⟨n1, n2⟩ := F.new
  have u := F.un
  refine I.call' F.os (ch := []) ⟨u.keep, u.slot, fun b o q n hx => ?_, u.there, fun b xs q => ?_, fun b o xs q => ?_, fun b ps q => ?_⟩ (fun a o e => ?_) F.bare (fun b z => absurd z (by simp))
  . rw [h8 (fun z => by rw [z, n1] at q; cases q)]; exact u.free b o q n hx
  . have := u.tups b xs q
    rw [h8 (i7 this n2)]; exact this
  . have := u.frzs b o xs q
    rw [h8 (i7 this n2)]; exact this
  . obtain ⟨m, e⟩ := u.tbls b ps q
    exact ⟨m, by rw [h8 (i7 e n2)]; exact e⟩
  . by_cases ha : a = ea
    . subst ha; rw [upd_same] at e; cases e
      exact a8o F.at
    . rw [h8 ha] at e
      exact (F.hok a o e).stay (fun _ _ _ q => q) (fun c q => by rw [h8 (i7 q n2)]; exact q) fun c xs q => by rw [h8 (i7 q n2)]; exact q
end
section
variable {P : Program} {w : World} {K : W.Frag} {mg : Str -> Option Value} {base : Heap} {N : List Str} {qual : Str} {scope : Scope} {f : Addr} {cd : Value} {A : Around} {outer : List Env} {s₀ : Shared} {H₀ : Hp} {E : XK}
theorem Z1 {b : Addr} {o : Obj} {X : Cx} {pins : List (Addr × Obj)} {σ : St} {H : Hp} {s : Shared} (I : Inv X pins σ H s) (e : X.s₀.heap.get? b = some o) (hb : b ∉ frs X.outer) : b ∉ frs X.stack := fun z => by
  rcases List.mem_cons.mp (I.stkSub b z) with q | q
  . have := Nat.lt_of_lt_of_le (Heap.lt_size e) I.ok.above
    rw [q] at this
    exact Nat.lt_irrefl _ this
  . exact hb q
theorem a4O : P2 (CX1 P w) (M1 (CX1 P w) P w K mg base N qual scope f cd A outer s₀ H₀ E) E := by
  intro pins σ H s e s' I h
  obtain ⟨ea, t, D, B, H', rfl, F, hE⟩ := h
  have I' := F.inv I
  refine wpAny_leaves_onW I.ok.frames rfl F.fly fun h' fl up => ?_
  have st : ∀ b o, B.get? b = some o -> h'.get? b = some o := fl.1
  have bin : ∀ b o, s'.heap.get? b = some o -> (∃ o0, s₀.heap.get? b = some o0) -> b ∉ frs outer -> B.get? b = some o := fun b o q ⟨o0, z⟩ hn => by
    obtain ⟨o1, q1⟩ := I.base.there b o0 z (by show b ∉ ([] : List Addr); simp)
    exact F.inb b o q (.inl ⟨⟨o1, q1⟩, Z1 I z hn⟩)
  refine ⟨ea, t, D, B, H', rfl, ⟨I'.os, F.bare, I'.base.slots (fun b o q z hn => st b o (bin b o q z hn)) (fun b hb o q => ?_), F.hok.slots (fun b u o e q => st b o (F.inb b o q (.inr (by rw [e]; simp)))), fl, fun b o q z => ?_⟩, hE⟩
  . obtain ⟨_, o', ho', hd⟩ := F.fly.2.2.1.2.2.mem hb
    rw [q] at ho'; cases ho'
    exact up b o q hd
  . have : ∃ o1, s'.heap.get? b = some o1 /\ B.get? b = some o1 := by
      rcases z with ⟨⟨o0, z⟩, hn⟩ | z
      . obtain ⟨o1, q1⟩ := I'.base.there b o0 z (by show b ∉ ([] : List Addr); simp)
        exact ⟨o1, q1, bin b o1 q1 ⟨o0, z⟩ hn⟩
      . cases e : H' b with
        | none => exact absurd e z
        | some u =>
          obtain ⟨o1, q1⟩ := (F.hok b u e).got
          exact ⟨o1, q1, F.inb b o1 q1 (.inr z)⟩
    obtain ⟨o1, _, b1⟩ := this
    have := st b o1 b1
    rw [show h'.get? b = some o from q] at this
    cases this
    exact b1
theorem b1u {pins : List (Addr × Obj)} {σ : St} {H : Hp} {s : Shared} {h1 : Heap} {ea D : Addr} {vs : List Value} (I : Inv (M1 (CX1 P w) P w K mg base N qual scope f cd A outer s₀ H₀ E) pins σ H s) (hx : Heap.MadeExcOf s.heap h1 ea (.ref D) vs)
    (hE : E (.ref D) none H) : (M1 (CX1 P w) P w K mg base N qual scope f cd A outer s₀ H₀ E).xe (.ref ea) { s with heap := h1 } := by
  have hin : ∀ env ∈ (envOfC qual scope s₀.heap.objs.size f cd :: outer), ∀ b, env.frame = some b -> b ∈ frs (envOfC qual scope s₀.heap.objs.size f cd :: outer) := fun env he b hb => List.mem_filterMap.mpr ⟨env, he, hb⟩
  refine wpAny_leaves_madeW (base := W.hideAll s.heap (frs (envOfC qual scope s₀.heap.objs.size f cd :: outer))) (h := s.heap) I.ok.frames rfl (fun b o q => W.of_hideAll _ q) (W.funFrames_hide I.stack hin) hx fun h' t fl _ _ up => ?_
  have st : ∀ b o, s.heap.get? b = some o -> b ∉ frs (envOfC qual scope s₀.heap.objs.size f cd :: outer) -> h'.get? b = some o := fun b o q hn => fl.1 b o (W.hideAll_get _ q hn)
  have trn : ∀ b u, H b = some u -> b ∉ frs (envOfC qual scope s₀.heap.objs.size f cd :: outer) := fun b u e z => by
    have := I.stkFree b z
    rw [e] at this; cases this
  refine ⟨ea, t, D, _, H, rfl, ⟨I.os, I.bare, I.base.slots (fun b o q ⟨o0, z⟩ hn => st b o q (Z1 I z hn)) (fun b hb o q => ?_), I.hok.slots (fun b u o e q => st b o q (trn b u e)), fl, fun b o q z => ?_⟩, hE⟩
  . obtain ⟨_, o', ho', hd⟩ := I.funs.mem hb
    rw [q] at ho'; cases ho'
    exact up b o (hx.keeps b o q) hd
  . have : ∃ o1, s.heap.get? b = some o1 /\ b ∉ frs (envOfC qual scope s₀.heap.objs.size f cd :: outer) := by
      rcases z with ⟨⟨o0, z⟩, hn⟩ | z
      . obtain ⟨o1, q1⟩ := I.base.there b o0 z (by show b ∉ ([] : List Addr); simp)
        exact ⟨o1, q1, Z1 I z hn⟩
      . cases e : H b with
        | none => exact absurd e z
        | some u =>
          obtain ⟨o1, q1⟩ := (I.hok b u e).got
          exact ⟨o1, q1, trn b u e⟩
    obtain ⟨o1, q1, hn⟩ := this
    have := st b o1 q1 hn
    rw [show h'.get? b = some o from q] at this
    cases this
    exact W.hideAll_get _ q1 hn
end
end L2
namespace L2
open PySem PySem.Spec PyProof.Rows
section
variable {X : Cx} {e : Expr} {te : TE} {a : Str} {j : Nat} {p1 p2 p3 : Pos}
def tFs (te : TE) : TE := fun σ H Q => te σ H fun v H1 => ∃ i : Int, v = .int i /\ i.natAbs.log2 < 1920 /\ ∀ x, Q (.str x) H1
theorem a8c (he : PE X e te) (ha : a.length <= 1000) : PE X (.JoinedStr [.Constant (.str a) j p1, .FormattedValue e (-1) none p2] p3) (tFs te) := by
  intro pins s σ H Q I h
  refine JoinedStr_many (joinParts_cons ?_)
  refine C9 (J7 pins s σ H (fun v H' => v = .str a /\ H' = H) I ⟨rfl, rfl⟩) fun u s1 ⟨v, H1, I1, r, hv, hH⟩ => ?_
  subst hv; subst hH
  obtain ⟨tk, rfl⟩ := r
  have e0 : (Str.empty ++ a).length = a.length := by rw [strLen_append]; show 0 + a.length = a.length; omega
  refine ⟨by rw [e0]; exact Nat.le_trans ha (by decide), joinParts_cons (FormattedValue_plain ?_)⟩
  refine C9 (he pins s1 σ H1 _ I1 h) fun u s2 ⟨v, H2, I2, r, i, hv, hi, q⟩ => ?_
  subst hv
  obtain ⟨tk2, rfl⟩ := r
  refine formatField_int_small hi ?_
  have hl : (Str.empty ++ a ++ Str.ofString (toString i)).length <= sizeLine := by
    rw [strLen_append, e0]
    have h1 := int_text_length_le (a := i) (k := 1920) (by decide) hi
    rw [PySem.ofString_length, sizeLine_eq]
    omega
  refine ⟨hl, joinParts_nil ?_ hl⟩
  exact ⟨.str _, H2, (I2.tok _).tok _, ⟨_, rfl⟩, q _⟩
end
section
variable {P : Program} {w : World} {K : W.Frag} {mg : Str -> Option Value} {base : Heap} {N : List Str} {qual : Str} {scope : Scope} {f : Addr} {cd : Value} {A : Around} {outer : List Env} {s₀ : Shared} {H₀ : Hp} {E : XK}
  {x : Str} {D : Addr} {e : Expr} {t : TA} {np cpos pos : Pos}
def a6N (t : TA) (D : Addr) (E : XK) : TS := fun _ σ H => t σ H fun vs H1 => vs.length <= 1000 /\ E (.ref D) none H1
theorem a2Z (k : R7 K D) (hg : Gl (M1 (CX1 P w) P w K mg base N qual scope f cd A outer s₀ H₀ E) x) (hm : mg x = some (.ref D)) (hh : A.handled = none)
    (ha : PA (M1 (CX1 P w) P w K mg base N qual scope f cd A outer s₀ H₀ E) [e] t)
    (he : starEach [e] (envOfC qual scope s₀.heap.objs.size f cd) = [(false, eval e (envOfC qual scope s₀.heap.objs.size f cd))] := by rfl) (hdb : (x == ("__debug__" : Str)) = false := by decide) :
    PS (M1 (CX1 P w) P w K mg base N qual scope f cd A outer s₀ H₀ E) (.Raise (some (.Call (.Name x np) [e] [] cpos)) none pos) (a6N t D E) := by
  intro pins s σ H Dn I h
  obtain ⟨nm, q, Na, bs, bm, hdct, sn, sub, ab, col, dd, k0, k1, k2, k3, k5, lk, ok, ni, tl⟩ := k.ob
  have tb : ∀ h : Heap, K.In h -> OwnTail h [.type "ValueError", .type "Exception", .type "BaseException", .type "object"] bm := fun h X => W.tail_of_in X tl
  have nsf : ∀ h : Heap, K.In h -> h.Ns Na (h.nsMap Na) /\ h.nsMap Na "__init__" = none := fun h X => ⟨.of_isNs (W.isNs_of_in X ok), W.nsMap_none_of_in X ok ni⟩
  have hN0 := (nsf s.heap I.kIn).1
  refine wpAny_Raise_call_subT (C := D) (nm := nm) (q := q) (N := Na) (bs := bs) (bm := bm) (hdct := hdct) (sn := sn) (sub := sub) (ab := ab) (col := col) (dd := dd) (k0 := k0) (k1 := k1) (k2 := k2) (k3 := k3) (k5 := k5) (newId := "ValueError.__new__")
    F.excBase_ValueError (mN := base.nsMap Na) ((tb base I.mod.kin).hasType (by decide +kernel)) (by show (A.deeper _).handled = none; exact hh) (by rw [show starEach [e] (M1 (CX1 P w) P w K mg base N qual scope f cd A outer s₀ H₀ E).env = _ from he]; rfl)
    (nsf base I.mod.kin).2 (P6 I hg hm ⟨rfl, ?_⟩ hdb)
  have h2 := ha cpos pins s σ H _ I h
  rw [show starEach [e] (M1 (CX1 P w) P w K mg base N qual scope f cd A outer s₀ H₀ E).env = _ from he] at h2 ⊢
  refine Calls.evalArgs_plain (wpAny_mono h2 (fun us s2 ⟨vs, H2, I2, r, hl, hE⟩ => ⟨rfl, by rw [<- r.length]; exact Nat.le_of_lt (j7 hl), I2.kIn _ _ lk, (nsf base I.mod.kin).1.keeps I2.bk, tb _ I2.kIn, fun h' ea hx => b1u I2 hx hE⟩) fun _ _ z => z)
end
def a2l (CX : CXT) (X : Cx) (EX : St -> XK) : Prop := ∀ (pins : List (Addr × Obj)) (σ : St) (H : Hp) (s : Shared) (e : Value) (s' : Shared), Inv X pins σ H s -> CX X.stack H s (EX σ) e s' -> X.xe e s'
def b0v (sp : Sp) (EX : St -> XK) (t : TA) : TE := fun σ H Q => t σ H fun vs H1 => sp vs H1 Q (EX σ)
section
variable {X : Cx} {CX : CXT} {k : Nat} {f : Addr} {fd : FuncData} {ps : List Str} {sp : Sp} {EX : St -> XK} {x : Str} {p pos : Pos} {e : Expr} {es : List Expr} {t : TA}
theorem a7w (F : FnOk X.prog X.w X.K X.mg X.base CX k f fd ps sp) (hr : Room k X.A) (hg : Gl X x) (hm : X.mg x = some (.ref f)) (hk : W.keepIn X.K (.ref f) = true) (hb : Binds X.K fd ps []) (hx : a2l CX X EX)
    (ha : PA X (e :: es) t) (hdb : (x == ("__debug__" : Str)) = false := by decide) (he : starEach (e :: es) X.env = (false, eval e X.env) :: starEach es X.env := by rfl) (hpl : (backTo pos (starEach es X.env)).any (·.1) = false := by rfl) :
    PE X (.Call (.Name x p) (e :: es) [] pos) (b0v sp EX t) := by
  intro pins s σ H Q I h
  refine wpAny_Call_Name_kw (P6 I hg hm ?_ hdb)
  refine W.callWith_K (h₀ := X.base) I.ok.mod.kin hk (C9 (ha pos pins s σ H _ I h) fun us s1 ⟨vs, H1, I1, r, q⟩ => ⟨I1.kIn, ?_⟩) he hpl
  have hl : (us ++ []).length = ps.length := by rw [List.append_nil, <- r.length]; exact F.len _ _ _ _ q
  have hb' := hb s1 us I1.kIn hl
  rw [List.append_nil] at hb'
  refine wpAny_call (codeAny_mono (F.run X.A X.stack s1 H1 ⟨us, []⟩ us vs Q (EX σ) hr I1.env0 hb' r q) fun rr s' hq => ?_)
  cases rr with
  | error e => exact hx pins σ H1 s1 e s' I1 hq
  | ok fl =>
    cases fl with
    | ret u => exact I1.after hq
    | next => exact False.elim hq
    | brk => exact False.elim hq
    | cont => exact False.elim hq
end
abbrev Cx.held (X : Cx) (ea : Addr) : Cx := { X with A := X.A.mark (some (.ref ea)), calm := false, xe := fun _ _ => False }
abbrev Cx.tried (X : Cx) (pn : List (Addr × Obj)) (E : Value -> Shared -> Prop) : Cx := { X with pn := pn, xe := E }
section
variable {X : Cx} {pins : List (Addr × Obj)} {σ : St} {H : Hp} {s : Shared} {ea : Addr}
theorem Cx.Ok.held (ok : X.Ok) : (X.held ea).Ok :=
  ⟨ok.mod, ok.kind, ok.glob, ok.blt, ok.above, ok.inj, ok.has, ok.cab, (fun z => Bool.noConfusion z), ok.frames, ok.stk, ok.exf, ok.bs, ok.bsz, ok.noex, ok.exfs, ok.funs, ok.frf⟩
theorem Inv.held (I : Inv X pins σ H s) (ea : Addr) : Inv (X.held ea) pins σ H s := ⟨I.ok.held, I.os, I.bare, I.base, I.loc, I.cell, I.free, I.freeC, I.pin, I.hok, I.len⟩
theorem Inv.unheld (ok : X.Ok) (I : Inv (X.held ea) pins σ H s) : Inv X pins σ H s := ⟨ok, I.os, I.bare, I.base, I.loc, I.cell, I.free, I.freeC, I.pin, I.hok, I.len⟩
theorem Cx.Ok.tried (ok : X.Ok) {pn : List (Addr × Obj)} {E : Value -> Shared -> Prop} : (X.tried pn E).Ok :=
  ⟨ok.mod, ok.kind, ok.glob, ok.blt, ok.above, ok.inj, ok.has, ok.cab, ok.hd, ok.frames, ok.stk, ok.exf, ok.bs, ok.bsz, ok.noex, ok.exfs, ok.funs, ok.frf⟩
theorem Inv.tried (I : Inv X pins σ H s) {E : Value -> Shared -> Prop} : Inv (X.tried (X.pn ++ pins) E) [] σ H s := ⟨I.ok.tried, I.os, I.bare, I.base, I.loc, I.cell, I.free, I.freeC, by rw [List.append_nil]; exact I.pin, I.hok, I.len⟩
theorem Inv.untried (ok : X.Ok) {E : Value -> Shared -> Prop} {pins' : List (Addr × Obj)} (I : Inv (X.tried (X.pn ++ pins) E) pins' σ H s) : Inv X pins σ H s :=
  ⟨ok, I.os, I.bare, I.base, I.loc, I.cell, I.free, I.freeC, fun p hp => I.pin p (List.mem_append_left _ hp), I.hok, I.len⟩
theorem U2 {M : Model} {A : Around} {E : Value -> Shared -> Prop} {i : Nat} {n : Str} {pos : Pos} {Q : Unit -> Shared -> Prop} (I : Inv X pins σ H s) (hN : X.N.Nodup) (hi : X.N[i]? = some n) (hk : X.env.scope.names.lookup n = some .local)
    (h : ∀ s', Inv X pins (σ.set i none) H s' -> Q () s') : wpAny M A (do bindName X.env n .none; unbindBehindTheSuite X.env n pos) Q E s := by
  obtain ⟨m, hn, hl⟩ := id I.loc
  have hcls : (X.env.scope.kind == .class || (X.env.scope.kind == .module && X.env.locals != X.env.globals)) = false := by rw [I.ok.kind]; rfl
  have hiσ : i < σ.length := by rw [I.len]; exact (List.getElem?_eq_some_iff.mp hi).1
  have cne := I.cne
  refine wpAny_nameGoes_keeps hk hn hcls fun h' v hn' hs => ?_
  obtain ⟨oL, _, _, hoL, _⟩ := id hn
  have far : ∀ b o, X.s₀.heap.get? b = some o -> b ≠ X.env.locals := fun b o e => Nat.ne_of_lt (Nat.lt_of_lt_of_le (Heap.lt_size e) I.ok.above)
  refine h _ ⟨I.ok, I.os, I.bare, ⟨fun b o e n hb hx => ?_, fun b o e n hb hx => ?_, I.base.free, fun b o e hx => ?_, I.base.tups, I.base.frzs, I.base.tbls⟩, ⟨_, hn', fun j y v' e1 e2 e3 => ?_⟩, fun y c e => ?_, I.free, I.freeC, fun p hp => ?_, fun b ob e => ?_, by simpa using I.len⟩
  . exact (hs.2 b (far b o e)).trans (I.base.keep b o e n hb hx)
  . obtain ⟨sl, e1⟩ := I.base.slot b o e n hb hx
    exact ⟨sl, (hs.2 b (far b o e)).trans e1⟩
  . obtain ⟨o', e1⟩ := I.base.there b o e hx
    exact ⟨o', (hs.2 b (far b o e)).trans e1⟩
  . by_cases hj : j = i
    . subst hj
      rw [List.getElem?_set_self hiσ] at e2
      cases e2
    . rw [List.getElem?_set_ne (Ne.symm hj)] at e2
      obtain ⟨u', r', q⟩ := hl j y v' e1 e2 e3
      refine ⟨u', r', ?_⟩
      rcases q with ⟨k, e⟩ | ⟨k, c, e, z⟩
      . refine .inl ⟨k, ?_⟩
        have : y ≠ n := fun e => hj (a0S hN e1 (e ▸ hi))
        simp [this, e]
      . exact .inr ⟨k, c, e, z.sameBut hs (cne y c e)⟩
  . obtain ⟨w', z⟩ := I.cell y c e
    exact ⟨w', z.sameBut hs (cne y c e)⟩
  . obtain ⟨e, n, ne, nf, d⟩ := I.pin p hp
    exact ⟨(hs.2 p.1 ne).trans e, n, ne, nf, d⟩
  . refine (I.hok b ob e).stay (fun c w' hc q => (hs.2 c ?_).trans q) (fun _ q => q) fun _ _ q => q
    rintro rfl
    rcases hc with z | hc
    . rw [<- z, I.free] at e; cases e
    . rw [I.free] at hc; cases hc
end
def Ends.less (D : Ends) (i : Nat) : Ends := { nx := fun σ H => D.nx (σ.set i none) H, rt := D.rt, bk := fun σ H => D.bk (σ.set i none) H, ct := fun σ H => D.ct (σ.set i none) H }
def b2z (K : W.Frag) (R : Addr) (tb : (St -> XK) -> TS) (i : Nat) (ts : TS) : TS := fun D σ H => ∃ EX : St -> XK, tb EX D σ H ∧
  ∀ σ' H' C ea d, EX σ' C d H' -> H' ea = none -> ∀ Da, C = .ref Da -> R7 K Da /\ W.mroIn K Da (.ref R) = some true /\ ts (D.less i) (σ'.set i (some (.ref ea))) (upd H' ea (a5b ea Da))
section
variable {X : Cx} {x n : Str} {R : Addr} {i : Nat} {tb : (St -> XK) -> TS} {ts : TS} {body suite : List Stmt} {b₀ : Stmt} {np hpos pos : Pos}
theorem a9U (kR : R7 X.K R) (hN : X.N.Nodup) (hi : X.N[i]? = some n) (hk : X.env.scope.names.lookup n = some .local) (hst : X.stack = X.env :: X.outer) (hgl : Gl X x) (hm : X.mg x = some (.ref R))
    (hb : ∀ (EX : St -> XK) (pn : List (Addr × Obj)) (E : Value -> Shared -> Prop), a2l (CX1 X.prog X.w) (X.tried pn E) EX -> PSs (X.tried pn E) body (tb EX))
    (hs : ∀ ea, PSs (X.held ea) (b₀ :: suite) ts) (hdb : (x == ("__debug__" : Str)) = false := by decide) :
    PS X (.Try body [.ExceptHandler (some (.Name x np)) (some n) (b₀ :: suite) hpos] [] [] pos) (b2z X.K R tb i ts) := by
  intro pins s σ H D I ⟨EX, hq, hh⟩
  refine wpAny_Try_except ?_
  have pass : a2l (CX1 X.prog X.w) (X.tried (X.pn ++ pins) fun e s' => ∃ σ' H0 s0, Inv X pins σ' H0 s0 /\ CX1 X.prog X.w X.stack H0 s0 (EX σ') e s') EX := fun pins' σ' H0 s0 e s' I0 q => ⟨σ', H0, s0, I0.untried I.ok, q⟩
  refine wpAny_mono (hb EX _ _ pass [] s σ H D I.tried hq) (fun f s1 q => ?_) fun e s1 ⟨σ', H0, s0, I0, cx⟩ => ?_
  . cases f with
    | next => obtain ⟨σ', H', J, q⟩ := q; exact wpAny_execs_nil ⟨σ', H', J.untried I.ok, q⟩
    | brk => obtain ⟨σ', H', J, q⟩ := q; exact ⟨σ', H', J.untried I.ok, q⟩
    | cont => obtain ⟨σ', H', J, q⟩ := q; exact ⟨σ', H', J.untried I.ok, q⟩
    | ret u => obtain ⟨v, σ', H', J, r, q⟩ := q; exact ⟨v, σ', H', J.untried I.ok, r, q⟩
  . obtain ⟨ea, t, Da, B, H', rfl, F, hE⟩ := cx
    have hfr : X.A.frames = some (X.env :: X.outer) := by rw [I.ok.frames, hst]
    have hf : X.env.frame = some X.env.locals := by
      rcases I.ok.stk with z | ⟨_, z⟩
      . rw [hst] at z
        have := congrArg List.length z
        simp at this
      . exact z
    have Ffly := F.fly
    rw [hst] at Ffly
    refine wpAny_looks_onW hfr hf Ffly fun h4 held4 up4 => wpAny_landsW held4 fun h5 fly5 up5 => ?_
    have F5 := F.slots (by rw [hst]; exact fly5) (up4.trans up5)
    refine wpAny_handleBy_cons (codeAny_handlers_test ?_) (by intro q; cases q)
    have I5 := (F5.inv I0).held ea
    refine P6 I5 hgl hm ?_ hdb
    obtain ⟨kD, hsub, hts⟩ := hh σ' H' _ ea none hE F.new.2 Da rfl
    obtain ⟨oe, he, hc⟩ := F5.at
    refine a5s I5.kIn he hc hsub kR ?_
    refine codeAny_handlers_suite_as ?_
    refine lands_againW fly5 fun h6 fly6 up6 => ?_
    have F6 := F5.slots (by rw [hst]; exact fly6) up6
    have I6 := (F6.track I0).held ea
    refine R9 (X := X.held ea) (v := .ref ea) I6 hN hi (Or.inl hk) (rfl : RelV (.ref ea) (.ref ea)) (fun s7 I7 => ?_) (.inr hk)
    refine wpAny_mono (hs ea pins s7 _ _ (D.less i) I7 hts) (fun f s8 q => ?_) fun _ _ z => z.elim
    cases f with
    | next => obtain ⟨σ2, H2, J, q⟩ := q; exact U2 (J.unheld I.ok) hN hi hk fun s9 J9 => ⟨_, _, J9, q⟩
    | brk => obtain ⟨σ2, H2, J, q⟩ := q; exact U2 (J.unheld I.ok) hN hi hk fun s9 J9 => ⟨_, _, J9, q⟩
    | cont => obtain ⟨σ2, H2, J, q⟩ := q; exact U2 (J.unheld I.ok) hN hi hk fun s9 J9 => ⟨_, _, J9, q⟩
    | ret u => obtain ⟨v, σ2, H2, J, r, q⟩ := q; exact U2 (J.unheld I.ok) hN hi hk fun s9 J9 => ⟨v, _, _, J9, r, q⟩
end
end L2
namespace L2
open PySem PySem.Spec PyProof.Rows
structure a2E (k : Nat) (A : Around) : Prop where
  dp : A.depth + 3 * k + 5 < recursionLimit
  un : A.units + 16 * k + 200 < cLine
theorem Room.u {k : Nat} {A : Around} (r : Room k A) (e : Option Value) : a2E k (A.mark e) := ⟨r.dp, r.un⟩
structure FnU (P : Program) (w : World) (K : W.Frag) (mg : Str -> Option Value) (base : Heap) (k : Nat) (f : Addr) (fd : FuncData) (ps : List Str) (sp : Sp) : Prop where
  len : ∀ vs H Q E, sp vs H Q E -> vs.length = ps.length
  run : ∀ (A : Around) (outer : List Env) (s : Shared) (H : Hp) (args : Args) (us : List Value) (vs : List V) (Q : VK) (E : XK), a2E k A -> Env0 P w K mg base A outer s H -> BindsTo s fd args (ps.zip us) -> Vals vs us -> sp vs H Q E →
    codeAny (model P w) A (.call (.ref f) args) (CR G8 outer P w H s Q E) s
abbrev a3d (P : Program) (w : World) (K : W.Frag) (mg : Str -> Option Value) (base : Heap) (N : List Str) (qual : Str) (scope : Scope) (f : Addr) (cd : Value) (A : Around) (outer : List Env) (s : Shared) (H : Hp) : Cx :=
  { M1 G8 P w K mg base N qual scope f cd A outer s H E0 with calm := false, xe := fun _ _ => False }
theorem a3R {P : Program} {w : World} {K : W.Frag} {mg : Str -> Option Value} {base : Heap} {N ps : List Str} {qual : Str} {scope : Scope} {f : Addr} {cd : Value} {A : Around} {outer : List Env} {s s1 : Shared} {H : Hp} {us : List Value} {vs : List V}
    (S : m6 N ps scope) (e0 : Env0 P w K mg base A outer s H) (hl : vs.length = ps.length) (r : Vals vs us)
    (x : InCallC s s.heap.objs.size (bindL (envOfC qual scope s.heap.objs.size f cd).kindOf (ps.zip us) fun _ => none) (cellsFrom (s.heap.objs.size + 1) scope.names []) (bindC (envOfC qual scope s.heap.objs.size f cd).kindOf (ps.zip us) fun _ => none) s1) :
    Inv (a3d P w K mg base N qual scope f cd A outer s H) [] (M2 N vs) H s1 := by
  have e1 : Env0 P w K mg base ({ A with handled := none }) outer s H := ⟨e0.frames, e0.mod, e0.bs, e0.bsz, e0.funs, e0.frf, e0.hok, e0.bare⟩
  have I := a1B (CX := G8) (E := E0) (qual := qual) (f := f) (cd := cd) S (A := { A with handled := none }) rfl e1 hl r x
  have ok := I.ok
  exact ⟨⟨ok.mod, ok.kind, ok.glob, ok.blt, ok.above, ok.inj, ok.has, ok.cab, (fun z => Bool.noConfusion z), Around.frames_deeper e0.frames, .inr ⟨rfl, rfl⟩, ok.exf, ok.bs, ok.bsz, ok.noex, ok.exfs, ok.funs, ok.frf⟩, I.os, I.bare, I.base, I.loc, I.cell, I.free, I.freeC, I.pin, I.hok, I.len⟩
theorem a9I {P : Program} {w : World} {K : W.Frag} {mg : Str -> Option Value} {base : Heap} {k : Nat} {f : Addr} {name qual : Str} {params : Arguments} {body : List Stmt} {scope : Scope} {dV kV doc pm cdv ct oc : Value} {an od : Option Addr}
    {osl : Array (Option Value)} {N ps : List Str} {sp : Sp} (lk : K.lookup f = some ⟨oc, od, .func (W.fnOf name qual params body scope dV kV doc pm an cdv ct), osl⟩) (hcd : W.codeIn K cdv qual = true) (S : m6 N ps scope)
    (len : ∀ vs H Q E, sp vs H Q E -> vs.length = ps.length)
    (hbody : ∀ (A : Around) (outer : List Env) (s : Shared) (H : Hp) (vs : List V) (Q : VK) (E : XK), a2E k (A.deeper (envOfC qual scope s.heap.objs.size f cdv)) -> sp vs H Q E →
      ∃ t, PSs (a3d P w K mg base N qual scope f cdv A outer s H) body t /\ t { nx := fun _ H' => Q .non H', rt := Q } (M2 N vs) H) :
    FnU P w K mg base (k + 1) f (W.fnOf name qual params body scope dV kV doc pm an cdv ct) ps sp := by
  refine ⟨len, fun A outer s H args us vs Q E hr e0 hb r hsp => ?_⟩
  have hl := len _ _ _ _ hsp
  have KX : K.In s.heap := e0.mod.kin.keeps fun b o e => (e0.bs b o e).1
  have lim : s.heap.NoLimit := e0.mod.nolimit.keeps fun b o e => (e0.bs b o e).1
  have hkind : ∀ y ∈ ps.zip us, scope.names.lookup y.1 = some .local \/ (scope.names.lookup y.1 = some .cell /\ ((cellsFrom (s.heap.objs.size + 1) scope.names []).lookup y.1).isSome = true) := fun ⟨n, v⟩ hy => by
    rcases S.par n (List.of_mem_zip hy).1 with q | q
    . exact .inl q
    . exact .inr ⟨q, W.cellsFrom_some _ _ _ (.inl q)⟩
  refine codeAny_call_function (by have := hr.dp; omega) (KX _ _ lk) rfl S.co S.gen rfl (W.codeRec_of KX hcd) (hb _ _ _ _ ?_)
  refine wpAny_newFunctionEnv_cells S.kind hkind fun env he s1 x => ?_
  subst he
  refine ⟨lim.keeps x.toInCall.keep, codeAny_func ?_⟩
  obtain ⟨t, ht, hq⟩ := hbody A outer s H vs Q E ⟨by have := hr.dp; show A.depth + 1 + 3 * k + 5 < _; omega, by have := hr.un; show A.units + 3 + 16 * k + 200 < _; omega⟩ hsp
  have I : Inv (a3d P w K mg base N qual scope f cdv A outer s H) [] (M2 N vs) H s1 := a3R S e0 hl r x
  refine wpAny_mono (ht [] s1 (M2 N vs) H _ I hq) (fun fl s' hs => ?_) fun e s' hs => hs.elim
  have fin : ∀ {σ' : St} {H' : Hp} {v : V} {u : Value}, Inv (a3d P w K mg base N qual scope f cdv A outer s H) [] σ' H' s' -> RelV v u -> Q v H' -> CE outer P w H s Q u s' :=
    fun {σ' H' v u} J rv q => ⟨v, H', J.os, J.bare, J.base, J.hok, rv, q⟩
  cases fl with
  | ret u =>
    obtain ⟨v, σ', H', J, rv, q⟩ := hs
    exact fin J rv q
  | next =>
    obtain ⟨σ', H', J, q⟩ := hs
    exact fin (v := V.non) (u := Value.none) J rfl q
  | brk =>
    obtain ⟨_, _, _, q⟩ := hs
    exact False.elim q
  | cont =>
    obtain ⟨_, _, _, q⟩ := hs
    exact False.elim q
section
variable {P : Program} {w : World} {K : W.Frag} {mg : Str -> Option Value} {base : Heap}
theorem Fun.okU {x qual : Str} {st : Stmt} {f : Addr} {fd : FuncData} {N ps : List Str} {k : Nat} {sp : Sp} (F : Fun K x qual st f fd) (S : m6 N ps (i9 st)) (len : ∀ vs H Q E, sp vs H Q E -> vs.length = ps.length)
    (hbody : ∀ (cdv : Value) (A : Around) (outer : List Env) (s : Shared) (H : Hp) (vs : List V) (Q : VK) (E : XK), a2E k (A.deeper (envOfC qual (i9 st) s.heap.objs.size f cdv)) -> sp vs H Q E →
      ∃ t, PSs (a3d P w K mg base N qual (i9 st) f cdv A outer s H) (y4 st) t /\ t { nx := fun _ H' => Q .non H', rt := Q } (M2 N vs) H) : FnU P w K mg base (k + 1) f fd ps sp := by
  obtain ⟨oc, od, kV, doc, pm, an, cdv, ct, osl, rfl, lk, hcd⟩ := F.ex
  exact a9I lk hcd S len fun A outer s H vs Q E hr hsp => hbody cdv A outer s H vs Q E hr hsp
theorem Fun.ok1 {x qual : Str} {st : Stmt} {f : Addr} {fd : FuncData} {N ps : List Str} {k : Nat} {sp : Sp} (F : Fun K x qual st f fd) (S : m6 N ps (i9 st)) (len : ∀ vs H Q E, sp vs H Q E -> vs.length = ps.length)
    (hbody : ∀ (cdv : Value) (A : Around) (outer : List Env) (s : Shared) (H : Hp) (vs : List V) (Q : VK) (E : XK), Room k (A.deeper (envOfC qual (i9 st) s.heap.objs.size f cdv)) -> sp vs H Q E →
      ∃ t, PSs (M1 (CX1 P w) P w K mg base N qual (i9 st) f cdv A outer s H E) (y4 st) t /\ t { nx := fun _ H' => Q .non H', rt := Q } (M2 N vs) H) : FnOk P w K mg base (CX1 P w) (k + 1) f fd ps sp := by
  obtain ⟨oc, od, kV, doc, pm, an, cdv, ct, osl, rfl, lk, hcd⟩ := F.ex
  exact a7v lk hcd S len fun A outer s H vs Q E hr hsp => hbody cdv A outer s H vs Q E hr hsp
end
section
variable {X : Cx} {k : Nat} {f : Addr} {fd : FuncData} {ps : List Str} {sp : Sp} {x : Str} {p pos : Pos} {e : Expr} {es : List Expr} {t : TA}
theorem a6M (F : FnU X.prog X.w X.K X.mg X.base k f fd ps sp) (hr : a2E k X.A) (hg : Gl X x) (hm : X.mg x = some (.ref f)) (hk : W.keepIn X.K (.ref f) = true) (hb : Binds X.K fd ps [])
    (ha : PA X (e :: es) t) (hdb : (x == ("__debug__" : Str)) = false := by decide) (he : starEach (e :: es) X.env = (false, eval e X.env) :: starEach es X.env := by rfl) (hpl : (backTo pos (starEach es X.env)).any (·.1) = false := by rfl) :
    PE X (.Call (.Name x p) (e :: es) [] pos) (a9p sp [] E0 t) := by
  intro pins s σ H Q I h
  refine wpAny_Call_Name_kw (P6 I hg hm ?_ hdb)
  refine W.callWith_K (h₀ := X.base) I.ok.mod.kin hk (C9 (ha pos pins s σ H _ I h) fun us s1 ⟨vs, H1, I1, r, q⟩ => ⟨I1.kIn, ?_⟩) he hpl
  replace q : sp (vs ++ []) H1 Q E0 := q
  rw [List.append_nil] at q
  have hl : (us ++ []).length = ps.length := by rw [List.append_nil, <- r.length]; exact F.len _ _ _ _ q
  have hb' := hb s1 us I1.kIn hl
  rw [List.append_nil] at hb'
  refine wpAny_call (codeAny_mono (F.run X.A X.stack s1 H1 ⟨us, []⟩ us vs Q E0 hr I1.env0 hb' r q) fun rr s' hq => ?_)
  cases rr with
  | error e => exact False.elim hq
  | ok fl =>
    cases fl with
    | ret u => exact I1.after hq
    | next => exact False.elim hq
    | brk => exact False.elim hq
    | cont => exact False.elim hq
end
end L2
namespace L2
open PySem PySem.Spec PyProof.Rows
section
variable {prog : Program} {w : World} {A : Around} {E : Value -> Shared -> Prop} {s : Shared}
theorem a8W {j tp : Addr} {i : Nat} {vs : Array Value} {x : Value} {Q : Value -> Shared -> Prop} (q1 : IsTupIter s.heap j tp i) (q2 : IsTup s.heap tp vs) (q3 : vs[i]? = some x)
    (q : ∀ h', IsTupIter h' j tp (i + 1) -> Heap.SameBut j s.heap h' -> Q x { s with heap := h' }) : wpAny (model prog w) A (Builtin.SmallTypes.nextOf (.ref j)) Q E s := by
  obtain ⟨oj, g1, g2, g3⟩ := id q1
  obtain ⟨ot, g4, _, nt, g5⟩ := q2
  unfold Builtin.SmallTypes.nextOf
  refine wpAny_bind (wpAny_callSpecial?_slot (name := Str.ofString "__next__") q1.typeIs slot_tupleiter_next (wpAny_call_entry slot_tupleiter_next q1.typeIs entry_tupleiter_next ?_ (args_tupleiter_next _)))
  show wpAny _ _ (field (.ref j) 0 >>= _) _ _ s
  refine wpAny_bind (wpAny_field g1 g3 (x := .ref tp) rfl ?_)
  show wpAny _ _ (if (Value.ref tp == Value.none) = true then _ else _) _ _ s
  rw [if_neg (fun z => by cases z)]
  show wpAny _ _ (field (.ref j) 1 >>= _) _ _ s
  refine wpAny_bind (wpAny_field g1 g3 (x := .int i 0) rfl ?_)
  show wpAny _ _ (seqItems? (.ref tp) >>= _) _ _ s
  refine wpAny_bind (wpAny_seqItems g4 g5 ?_)
  simp only [Int.toNat_natCast, q3]
  refine wpAny_bind (wpAny_setField g1 g3 (by simp) (wpAny_pure ⟨x, rfl, wpAny_pure (q _ ?_ (Heap.SameBut.update ..))⟩))
  refine ⟨_, Heap.get?_update_self _ g1 (Obj.isFreed_of_fields (Obj.data_mapFields g3 _)), (Obj.cls_mapFields ..).trans g2, ?_⟩
  rw [Obj.data_mapFields g3]
  simp [rawInt]
theorem a9G {j tp : Addr} {i : Nat} {vs : Array Value} {Q : Value -> Shared -> Prop} (hh : A.handled = none) (q1 : IsTupIter s.heap j tp i) (q2 : IsTup s.heap tp vs) (q3 : vs[i]? = none)
    (q : ∀ h' e, Heap.ExtBut j s.heap h' -> (∃ o, h'.get? e = some o /\ o.cls = .type "StopIteration") -> E (.ref e) { s with heap := h' }) : wpAny (model prog w) A (Builtin.SmallTypes.nextOf (.ref j)) Q E s := by
  obtain ⟨oj, g1, g2, g3⟩ := id q1
  obtain ⟨ot, g4, _, nt, g5⟩ := q2
  unfold Builtin.SmallTypes.nextOf
  refine wpAny_bind (wpAny_callSpecial?_slot (name := Str.ofString "__next__") q1.typeIs slot_tupleiter_next (wpAny_call_entry slot_tupleiter_next q1.typeIs entry_tupleiter_next ?_ (args_tupleiter_next _)))
  show wpAny _ _ (field (.ref j) 0 >>= _) _ _ s
  refine wpAny_bind (wpAny_field g1 g3 (x := .ref tp) rfl ?_)
  show wpAny _ _ (if (Value.ref tp == Value.none) = true then _ else _) _ _ s
  rw [if_neg (fun z => by cases z)]
  show wpAny _ _ (field (.ref j) 1 >>= _) _ _ s
  refine wpAny_bind (wpAny_field g1 g3 (x := .int i 0) rfl ?_)
  show wpAny _ _ (seqItems? (.ref tp) >>= _) _ _ s
  refine wpAny_bind (wpAny_seqItems g4 g5 ?_)
  simp only [Int.toNat_natCast, q3]
  refine wpAny_bind (wpAny_rule (wpAny_bind (wpAny_setField g1 g3 (by simp) ?_)))
  show wpAny _ _ (do let e <- newExc (.type "StopIteration") []; _) _ _ _
  simp only [newExc, newTuple]
  refine wpAny_bind (wpAny_bind (wpAny_newObj_type (wpAny_bind (m := firstArgMember _ _) (wpAny_of_eq (a := Value.none) (by first | rfl | (simp only [firstArgMember]; rfl)) (wpAny_newObj_type ?_ (by size_fits)))) (by size_fits)))
  simp only [raiseNew]
  refine wpAny_bind (wpAny_handled ?_)
  rw [show A.in1.handled = none from hh]
  exact wpAny_bind (wpAny_pure (wpAny_throw (q _ _ (((Heap.SameBut.update ..).extBut.push _).push _) ⟨_, Heap.get?_push_size _ rfl, rfl⟩)))
theorem IsTupIter.at' {h h' : Heap} {a t : Addr} {i : Nat} (x : IsTupIter h a t i) (e : ∀ o, h.get? a = some o -> h'.get? a = some o) : IsTupIter h' a t i := let ⟨o, ho, r⟩ := x; ⟨o, e _ ho, r⟩
end
def IsB : Bool -> Heap -> Addr -> Array Value -> Prop
  | true, h, t, xs => h.IsList t xs
  | false, h, t, xs => IsTup h t xs
def ItB : Bool -> Heap -> Addr -> Addr -> Nat -> Prop
  | true, h, j, t, k => h.IsListIter j t k
  | false, h, j, t, k => IsTupIter h j t k
def SqB : Bool -> W.Frag -> Hp -> Addr -> List V -> Prop
  | true, K, H, a, xs => SqL K H a xs
  | false, K, H, a, xs => SqT K H a xs
def itN : Bool -> String
  | true => "list_iterator"
  | false => "tuple_iterator"
section
variable {b : Bool} {h h' : Heap} {j t c : Addr} {k : Nat} {xs : Array Value}
theorem ItB.at' (x : ItB b h j t k) (e : ∀ o, h.get? j = some o -> h'.get? j = some o) : ItB b h' j t k := by
  cases b
  . exact IsTupIter.at' x e
  . exact Heap.IsListIter.at x e
theorem ItB.extBut (x : ItB b h j t k) (hs : Heap.ExtBut c h h') (n : j ≠ c) : ItB b h' j t k := x.at' fun o e => hs j o n e
theorem IsB.at' (x : IsB b h t xs) (e : ∀ o, h.get? t = some o -> h'.get? t = some o) : IsB b h' t xs := by
  cases b
  . obtain ⟨o, ho, r⟩ := x; exact ⟨o, e o ho, r⟩
  . obtain ⟨o, ho, r⟩ := x; exact ⟨o, e o ho, r⟩
theorem IsB.extBut (x : IsB b h t xs) (hs : Heap.ExtBut c h h') (n : t ≠ c) : IsB b h' t xs := x.at' fun o e => hs t o n e
theorem IsB.push (x : IsB b h t xs) (o : Obj) : IsB b (h.push o) t xs := x.at' fun _ e => Heap.get?_push_of_some _ e
theorem IsB.lt (x : IsB b h t xs) : t < h.objs.size := by
  cases b
  . obtain ⟨o, ho, _⟩ := x; exact Heap.lt_size ho
  . obtain ⟨o, ho, _⟩ := x; exact Heap.lt_size ho
theorem ItB.mk (e : h.get? j = some { cls := .type (itN b), data := .fields #[.ref t, .int 0 0] }) : ItB b h j t 0 := by
  cases b
  . exact ⟨_, e, rfl, rfl⟩
  . exact ⟨_, e, rfl, rfl⟩
theorem ItB.obj (x : ItB b h j t k) : ∃ o, h.get? j = some o /\ ∃ vs, o.data = .fields vs := by
  cases b
  . obtain ⟨o, ho, _, d⟩ := x; exact ⟨o, ho, _, d⟩
  . obtain ⟨o, ho, _, d⟩ := x; exact ⟨o, ho, _, d⟩
theorem Same.sqB {K : W.Frag} {H H' : Hp} {a : Addr} {ys : List V} (e : Same H H') (x : SqB b K H a ys) : SqB b K H' a ys := by
  cases b
  . exact e.tseq x
  . exact e.seq x
theorem Inv.sqB {X : Cx} {pins : List (Addr × Obj)} {σ : St} {H : Hp} {s : Shared} {a : Addr} {ys : List V} (I : Inv X pins σ H s) (x : SqB b X.K H a ys) : ∃ its : List Value, Vals ys its /\ IsB b s.heap a its.toArray /\ ys.length <= sizeLine := by
  cases b
  . exact I.tuple x
  . obtain ⟨i, r, p, z⟩ := I.list x
    exact ⟨i, r, p.isList, z⟩
theorem Inv.sqB_inj {X : Cx} {pins : List (Addr × Obj)} {σ : St} {H : Hp} {s : Shared} {a : Addr} {ys zs : List V} (I : Inv X pins σ H s) (x : SqB b X.K H a ys) (y : SqB b X.K H a zs) : ys = zs := by
  cases b
  . exact I.tuple_inj x y
  . exact I.list_inj x y
end
section
variable {prog : Program} {w : World} {A : Around} {E : Value -> Shared -> Prop} {s : Shared}
theorem a0M {b : Bool} {j tp : Addr} {i : Nat} {vs : Array Value} {x : Value} {Q : Value -> Shared -> Prop} (q1 : ItB b s.heap j tp i) (q2 : IsB b s.heap tp vs) (q3 : vs[i]? = some x)
    (q : ∀ h', ItB b h' j tp (i + 1) -> Heap.SameBut j s.heap h' -> Q x { s with heap := h' }) : wpAny (model prog w) A (Builtin.SmallTypes.nextOf (.ref j)) Q E s := by
  cases b
  . exact a8W q1 q2 q3 q
  . exact wpAny_nextOf_list_item q1 q2 q3 q
theorem a4L {b : Bool} {j tp : Addr} {i : Nat} {vs : Array Value} {Q : Value -> Shared -> Prop} (hh : A.handled = none) (q1 : ItB b s.heap j tp i) (q2 : IsB b s.heap tp vs) (q3 : vs[i]? = none)
    (q : ∀ h' e, Heap.ExtBut j s.heap h' -> (∃ o, h'.get? e = some o /\ o.cls = .type "StopIteration") -> E (.ref e) { s with heap := h' }) : wpAny (model prog w) A (Builtin.SmallTypes.nextOf (.ref j)) Q E s := by
  cases b
  . exact a9G hh q1 q2 q3 q
  . exact wpAny_nextOf_list_end hh q1 q2 q3 q
theorem a9f {b : Bool} {t : Addr} {xs : Array Value} {Q : Value -> Shared -> Prop} (m : IsB b s.heap t xs) (h : Q (.ref s.heap.objs.size) { s with heap := s.heap.push { cls := .type (itN b), data := .fields #[.ref t, .int 0 0] } }) : wpAny (model prog w) A (pyIter (.ref t)) Q E s := by
  cases b
  . exact iter_tuple m h
  . exact wpAny_pyIter_list m h
theorem a8N {b1 b2 : Bool} {z ti to j1 j2 t1 t2 : Addr} {k1 k2 : Nat} {xs ys : Array Value} {x y a b : Value} {Q : Value -> Shared -> Prop} (D : ZipApart z ti to j1 j2 t1 t2)
    (q0 : IsZip s.heap z ti to .none) (p1 : IsPair s.heap ti (.ref j1) (.ref j2)) (p2 : IsPair s.heap to a b)
    (i1 : ItB b1 s.heap j1 t1 k1) (i2 : ItB b2 s.heap j2 t2 k2) (l1 : IsB b1 s.heap t1 xs) (l2 : IsB b2 s.heap t2 ys) (ex : xs[k1]? = some x) (ey : ys[k2]? = some y)
    (q : ∀ h', IsZip h' z ti to (rawInt s.heap.objs.size) -> IsPair h' to x y -> ItB b1 h' j1 t1 (k1 + 1) -> ItB b2 h' j2 t2 (k2 + 1) -> IsPair h' s.heap.objs.size x y →
      (∀ c o, c ≠ z -> c ≠ to -> c ≠ j1 -> c ≠ j2 -> s.heap.get? c = some o -> h'.get? c = some o) -> Q (.ref s.heap.objs.size) { s with heap := h' }) :
    wpAny (model prog w) A (Builtin.«zip.__next__» ⟨[.ref z], []⟩) (fun fin s' => ∃ v, fin = .done (.ret v) /\ Q v s') E s := by
  show wpAny _ _ (field (.ref z) 2 >>= _) _ _ _
  refine wpAny_bind (wpAny_field q0 rfl (x := .bool false) rfl (show wpAny _ _ (field (.ref z) 3 >>= _) _ _ _ from wpAny_bind (wpAny_field q0 rfl (x := .ref ti) rfl (wpAny_bind (wpAny_seqItems p1 rfl ?_)))))
  show wpAny _ _ (do let free <- Builtin.SmallTypes.ownedTupleIsFree (.ref z); _) _ _ _
  unfold Builtin.SmallTypes.ownedTupleIsFree
  refine wpAny_bind (wpAny_bind (wpAny_field q0 rfl (x := .none) rfl (wpAny_pure ?_)))
  simp only [if_true]
  refine wpAny_bind (wpAny_rule (wpAny_bind (wpAny_field q0 rfl (x := .ref to) rfl (wpAny_bind (wpAny_setField_rec q0 (by simp) fun u1 z1 s1 => ?_)))))
  have z1' : IsZip u1 z ti to .ellipsis := z1
  refine wpAny_bind ?_
  simp only [List.zipIdx_cons, List.zipIdx_nil, List.forIn_cons, List.forIn_nil]
  refine wpAny_bind (wpAny_bind (wpAny_onRaise (show wpAny _ _ (Builtin.SmallTypes.nextOf (.ref j1) >>= _) _ _ _ from wpAny_bind (a0M (i1.extBut s1.extBut D.i1z) (l1.extBut s1.extBut D.l1z) ex fun u2 j1' s2 => wpAny_pure ?_))))
  have to2 : IsPair u2 to a b := s2.extBut _ _ D.TOi1 (s1.extBut _ _ D.TOz p2)
  refine wpAny_bind (wpAny_seqItems to2 rfl (wpAny_bind (wpAny_updateSeq_pair to2 fun u3 to3 s3 => wpAny_bind (wpAny_letGo (wpAny_pure ?_)))))
  have to3' : IsPair u3 to x b := to3
  refine wpAny_bind (wpAny_bind (wpAny_onRaise (show wpAny _ _ (Builtin.SmallTypes.nextOf (.ref j2) >>= _) _ _ _ from wpAny_bind (a0M (((i2.extBut s1.extBut D.i2z).extBut s2.extBut D.i12.symm).extBut s3.extBut D.TOi2.symm)
    (((l2.extBut s1.extBut D.l2z).extBut s2.extBut D.l2i1).extBut s3.extBut D.l2TO) ey fun u4 j2' s4 => wpAny_pure ?_))))
  have to4 : IsPair u4 to x b := s4.extBut _ _ D.TOi2 to3'
  refine wpAny_bind (wpAny_seqItems to4 rfl (wpAny_bind (wpAny_updateSeq_pair to4 fun u5 to5 s5 => wpAny_bind (wpAny_letGo (wpAny_pure (wpAny_pure ?_))))))
  have to5' : IsPair u5 to x y := to5
  refine wpAny_bind (wpAny_seqItems to5' rfl (wpAny_bind (wpAny_newTuple ?_)))
  have sz : u5.objs.size = s.heap.objs.size := by rw [s5.1, s4.1, s3.1, s2.1, s1.1]
  have z5 : IsZip u5 z ti to .ellipsis := s5.extBut _ _ D.TOz.symm (s4.extBut _ _ D.i2z.symm (s3.extBut _ _ D.TOz.symm (s2.extBut _ _ D.i1z.symm z1')))
  have kp : ∀ c o, c ≠ z -> c ≠ to -> c ≠ j1 -> c ≠ j2 -> s.heap.get? c = some o -> u5.get? c = some o := fun c o n1 n2 n3 n4 e => s5.extBut _ _ n2 (s4.extBut _ _ n4 (s3.extBut _ _ n2 (s2.extBut _ _ n3 (s1.extBut _ _ n1 e))))
  have a1 : ItB b1 u5 j1 t1 (k1 + 1) := ((j1'.extBut s3.extBut D.TOi1.symm).extBut s4.extBut D.i12).extBut s5.extBut D.TOi1.symm
  have a2 : ItB b2 u5 j2 t2 (k2 + 1) := j2'.extBut s5.extBut D.TOi2.symm
  have zl : z < u5.objs.size := Heap.lt_size z5
  show wpAny _ _ (do let r <- Builtin.SmallTypes.ownedTupleHandOut (.ref z) (.ref u5.objs.size); _) _ _ _
  unfold Builtin.SmallTypes.ownedTupleHandOut
  have z6 : IsZip (u5.push { cls := .type "tuple", data := .seq #[x, y] }) z ti to .ellipsis := Heap.get?_push_of_some _ z5
  refine wpAny_bind (wpAny_bind (wpAny_setField_rec z6 (by simp) fun u7 z7 s7 => ?_))
  have z7' : IsZip u7 z ti to (rawInt u5.objs.size) := z7
  refine wpAny_setField_rec z7' (by simp) fun u8 z8 s8 => ?_
  have z8' : IsZip u8 z ti to (rawInt u5.objs.size) := z8
  have up : ∀ c o, c ≠ z -> u5.get? c = some o -> u8.get? c = some o := fun c o n1 e => s8.extBut _ _ n1 (s7.extBut _ _ n1 (Heap.get?_push_of_some _ e))
  have nt8 : IsPair u8 u5.objs.size x y := s8.extBut _ _ (Nat.ne_of_gt zl) (s7.extBut _ _ (Nat.ne_of_gt zl) (Heap.get?_push_size _ rfl))
  rw [sz] at z8' nt8
  refine wpAny_pure ⟨_, rfl, ?_⟩
  show Q (.ref u5.objs.size) _
  rw [sz]
  exact q u8 z8' (up _ _ D.TOz to5') (ItB.at' a1 fun o e => up _ o D.i1z e) (ItB.at' a2 fun o e => up _ o D.i2z e) nt8 fun c o n1 n2 n3 n4 e => up c o n1 (kp c o n1 n2 n3 n4 e)
theorem a9C {b1 b2 : Bool} {z ti to j1 j2 t1 t2 : Addr} {k1 k2 : Nat} {xs ys : Array Value} {a b : Value} {Q : PySem.Fin -> Shared -> Prop} (hh : A.handled = none) (D : ZipApart z ti to j1 j2 t1 t2)
    (q0 : IsZip s.heap z ti to .none) (p1 : IsPair s.heap ti (.ref j1) (.ref j2)) (p2 : IsPair s.heap to a b)
    (i1 : ItB b1 s.heap j1 t1 k1) (i2 : ItB b2 s.heap j2 t2 k2) (l1 : IsB b1 s.heap t1 xs) (l2 : IsB b2 s.heap t2 ys) (en : xs[k1]? = none \/ ys[k2]? = none)
    (q : ∀ h' e, (∀ c o, c ≠ z -> c ≠ to -> c ≠ j1 -> c ≠ j2 -> s.heap.get? c = some o -> h'.get? c = some o) -> (∃ o, h'.get? e = some o /\ o.cls = .type "StopIteration") -> E (.ref e) { s with heap := h' }) :
    wpAny (model prog w) A (Builtin.«zip.__next__» ⟨[.ref z], []⟩) Q E s := by
  show wpAny _ _ (field (.ref z) 2 >>= _) _ _ _
  refine wpAny_bind (wpAny_field q0 rfl (x := .bool false) rfl (show wpAny _ _ (field (.ref z) 3 >>= _) _ _ _ from wpAny_bind (wpAny_field q0 rfl (x := .ref ti) rfl (wpAny_bind (wpAny_seqItems p1 rfl ?_)))))
  show wpAny _ _ (do let free <- Builtin.SmallTypes.ownedTupleIsFree (.ref z); _) _ _ _
  unfold Builtin.SmallTypes.ownedTupleIsFree
  refine wpAny_bind (wpAny_bind (wpAny_field q0 rfl (x := .none) rfl (wpAny_pure ?_)))
  simp only [if_true]
  refine wpAny_bind (wpAny_rule (wpAny_bind (wpAny_field q0 rfl (x := .ref to) rfl (wpAny_bind (wpAny_setField_rec q0 (by simp) fun u1 z1 s1 => ?_)))))
  have z1' : IsZip u1 z ti to .ellipsis := z1
  refine wpAny_bind ?_
  simp only [List.zipIdx_cons, List.zipIdx_nil, List.forIn_cons, List.forIn_nil]
  cases ex : xs[k1]? with
  | none =>
    refine wpAny_bind (wpAny_bind (wpAny_onRaise (show wpAny _ _ (Builtin.SmallTypes.nextOf (.ref j1) >>= _) _ _ _ from wpAny_bind (a4L hh (i1.extBut s1.extBut D.i1z) (l1.extBut s1.extBut D.l1z) ex fun u2 e s2 ⟨oe, e1, e2⟩ => ?_))))
    have z2 : IsZip u2 z ti to .ellipsis := s2 _ _ D.i1z.symm z1'
    have ne : e ≠ z := fun c => by subst c; rw [z2] at e1; cases e1; simp at e2
    exact wpAny_setField_rec z2 (by simp) fun u3 _ s3 => q u3 e (fun c o n1 _ n3 _ m => s3.extBut _ _ n1 (s2 _ _ n3 (s1.extBut _ _ n1 m))) ⟨oe, s3.extBut _ _ ne e1, e2⟩
  | some x =>
    have ey : ys[k2]? = none := by
      rcases en with m | m
      . rw [ex] at m; cases m
      . exact m
    refine wpAny_bind (wpAny_bind (wpAny_onRaise (show wpAny _ _ (Builtin.SmallTypes.nextOf (.ref j1) >>= _) _ _ _ from wpAny_bind (a0M (i1.extBut s1.extBut D.i1z) (l1.extBut s1.extBut D.l1z) ex fun u2 j1' s2 => wpAny_pure ?_))))
    have to2 : IsPair u2 to a b := s2.extBut _ _ D.TOi1 (s1.extBut _ _ D.TOz p2)
    refine wpAny_bind (wpAny_seqItems to2 rfl (wpAny_bind (wpAny_updateSeq_pair to2 fun u3 to3 s3 => wpAny_bind (wpAny_letGo (wpAny_pure ?_)))))
    refine wpAny_bind (wpAny_bind (wpAny_onRaise (show wpAny _ _ (Builtin.SmallTypes.nextOf (.ref j2) >>= _) _ _ _ from wpAny_bind (a4L hh (((i2.extBut s1.extBut D.i2z).extBut s2.extBut D.i12.symm).extBut s3.extBut D.TOi2.symm)
      (((l2.extBut s1.extBut D.l2z).extBut s2.extBut D.l2i1).extBut s3.extBut D.l2TO) ey fun u4 e s4 ⟨oe, e1, e2⟩ => ?_))))
    have z4 : IsZip u4 z ti to .ellipsis := s4 _ _ D.i2z.symm (s3.extBut _ _ D.TOz.symm (s2.extBut _ _ D.i1z.symm z1'))
    have ne : e ≠ z := fun c => by subst c; rw [z4] at e1; cases e1; simp at e2
    exact wpAny_setField_rec z4 (by simp) fun u5 _ s5 => q u5 e (fun c o n1 n2 n3 n4 m => s5.extBut _ _ n1 (s4 _ _ n4 (s3.extBut _ _ n2 (s2.extBut _ _ n3 (s1.extBut _ _ n1 m))))) ⟨oe, s5.extBut _ _ ne e1, e2⟩
theorem a8b {b1 b2 : Bool} {z ti to j1 j2 t1 t2 : Addr} {k1 k2 : Nat} {xs ys : Array Value} {x y a b : Value} {Q : Option Value -> Shared -> Prop} (D : ZipApart z ti to j1 j2 t1 t2)
    (q0 : IsZip s.heap z ti to .none) (p1 : IsPair s.heap ti (.ref j1) (.ref j2)) (p2 : IsPair s.heap to a b)
    (i1 : ItB b1 s.heap j1 t1 k1) (i2 : ItB b2 s.heap j2 t2 k2) (l1 : IsB b1 s.heap t1 xs) (l2 : IsB b2 s.heap t2 ys) (ex : xs[k1]? = some x) (ey : ys[k2]? = some y)
    (q : ∀ h', IsZip h' z ti to (rawInt s.heap.objs.size) -> IsPair h' to x y -> ItB b1 h' j1 t1 (k1 + 1) -> ItB b2 h' j2 t2 (k2 + 1) -> IsPair h' s.heap.objs.size x y →
      (∀ c o, c ≠ z -> c ≠ to -> c ≠ j1 -> c ≠ j2 -> s.heap.get? c = some o -> h'.get? c = some o) -> Q (some (.ref s.heap.objs.size)) { s with heap := h' }) :
    wpAny (model prog w) A (pyNext (.ref z)) Q E s := by
  have ty : s.TypeIs (.ref z) "zip" := ⟨_, q0, rfl⟩
  unfold pyNext
  exact wpAny_bind (wpAny_attempt (wpAny_callSpecial?_slot (name := Str.ofString "__next__") ty F.slot_zip_next (wpAny_call_entry F.slot_zip_next ty F.entry_zip_next
    (a8N D q0 p1 p2 i1 i2 l1 l2 ex ey fun h' b1 b2 b3 b4 b5 b6 => wpAny_pure (q h' b1 b2 b3 b4 b5 b6)) (F.args_zip_next_1 _))))
theorem a8f {b1 b2 : Bool} {z ti to j1 j2 t1 t2 : Addr} {k1 k2 : Nat} {xs ys : Array Value} {a b : Value} {Q : Option Value -> Shared -> Prop} (hh : A.handled = none) (D : ZipApart z ti to j1 j2 t1 t2)
    (q0 : IsZip s.heap z ti to .none) (p1 : IsPair s.heap ti (.ref j1) (.ref j2)) (p2 : IsPair s.heap to a b)
    (i1 : ItB b1 s.heap j1 t1 k1) (i2 : ItB b2 s.heap j2 t2 k2) (l1 : IsB b1 s.heap t1 xs) (l2 : IsB b2 s.heap t2 ys) (en : xs[k1]? = none \/ ys[k2]? = none)
    (q : ∀ h', (∀ c o, c ≠ z -> c ≠ to -> c ≠ j1 -> c ≠ j2 -> s.heap.get? c = some o -> h'.get? c = some o) -> Q none { s with heap := h' }) : wpAny (model prog w) A (pyNext (.ref z)) Q E s := by
  have ty : s.TypeIs (.ref z) "zip" := ⟨_, q0, rfl⟩
  unfold pyNext
  refine wpAny_bind (wpAny_attempt (wpAny_callSpecial?_slot (name := Str.ofString "__next__") ty F.slot_zip_next (wpAny_call_entry F.slot_zip_next ty F.entry_zip_next
    (a9C hh D q0 p1 p2 i1 i2 l1 l2 en fun h' e kp ⟨o, e1, e2⟩ => wpAny_bind (wpAny_isInstance (T := "StopIteration") (b := true) ⟨o, e1, e2⟩ isSubtype_stop (wpAny_pure (q _ kp)))) (F.args_zip_next_1 _))))
end
abbrev zg1 (b1 : Bool) (h : Heap) (t1 : Addr) : Heap := h.push { cls := .type (itN b1), data := .fields #[.ref t1, .int 0 0] }
abbrev zg2 (b1 b2 : Bool) (h : Heap) (t1 t2 : Addr) : Heap := (zg1 b1 h t1).push { cls := .type (itN b2), data := .fields #[.ref t2, .int 0 0] }
abbrev zg3 (b1 b2 : Bool) (h : Heap) (t1 t2 : Addr) : Heap := (zg2 b1 b2 h t1 t2).push { cls := .type "tuple", data := .seq #[.ref h.objs.size, .ref (zg1 b1 h t1).objs.size] }
abbrev zg4 (b1 b2 : Bool) (h : Heap) (t1 t2 : Addr) : Heap := (zg3 b1 b2 h t1 t2).push { cls := .type "tuple", data := .seq #[.none, .none] }
abbrev zg5 (b1 b2 : Bool) (h : Heap) (t1 t2 : Addr) : Heap := (zg4 b1 b2 h t1 t2).push { cls := .type "zip", data := .fields #[.none, .bool false, .bool false, .ref (zg2 b1 b2 h t1 t2).objs.size, .ref (zg3 b1 b2 h t1 t2).objs.size] }
theorem b0l (b1 b2 : Bool) (t1 t2 : Addr) (xs ys : Array Value) :
    Meets (Builtin.«zip.__new__» ⟨[.type "zip", .ref t1, .ref t2], []⟩) (fun _ R s => IsB b1 s.heap t1 xs /\ IsB b2 s.heap t2 ys /\ R (.ok (.ret (.ref (zg4 b1 b2 s.heap t1 t2).objs.size))) { s with heap := zg5 b1 b2 s.heap t1 t2 }) :=
  .of_wp fun prog w A R s h => by
    obtain ⟨hp, g, d, tk, os⟩ := s
    obtain ⟨e1, e2, h⟩ := h
    have hsub := sub_zip
    have m1 : IsB b1 (Shared.heap ⟨hp, g, d, tk, os⟩) t1 xs := e1
    have m2 : IsB b2 (Shared.heap ⟨hp.push { cls := .type (itN b1), data := .fields #[.ref t1, .int 0 0] }, g, d, tk, os⟩) t2 ys := IsB.push e2 _
    wp_walk using a9f m1, a9f m2
    exact ⟨_, rfl, h⟩
section
variable {prog : Program} {w : World} {A : Around} {E : Value -> Shared -> Prop} {s : Shared}
theorem a8D {b1 b2 : Bool} {t1 t2 : Addr} {xs ys : Array Value} {Q : Value -> Shared -> Prop} (l1 : IsB b1 s.heap t1 xs) (l2 : IsB b2 s.heap t2 ys)
    (q : ∀ h', IsZip h' (s.heap.objs.size + 4) (s.heap.objs.size + 2) (s.heap.objs.size + 3) .none -> IsPair h' (s.heap.objs.size + 2) (.ref s.heap.objs.size) (.ref (s.heap.objs.size + 1)) -> IsPair h' (s.heap.objs.size + 3) .none .none →
      ItB b1 h' s.heap.objs.size t1 0 -> ItB b2 h' (s.heap.objs.size + 1) t2 0 -> (∀ c o, s.heap.get? c = some o -> h'.get? c = some o) -> Q (.ref (s.heap.objs.size + 4)) { s with heap := h' }) :
    wpAny (model prog w) A (call (.type "zip") [.ref t1, .ref t2]) Q E s := by
  refine callType_new F.called_zip (by decide) (F.typeCall_zip_2 _ _) (F.newCall_zip_2 _ _) (fun ob => F.args_object_init_3 ob _ _) F.entry_zip_new (b0l b1 b2 t1 t2 xs ys) ⟨l1, l2, ?_⟩
  have n1 : (zg1 b1 s.heap t1).objs.size = s.heap.objs.size + 1 := Heap.size_push ..
  have n2 : (zg2 b1 b2 s.heap t1 t2).objs.size = s.heap.objs.size + 2 := by rw [Heap.size_push, n1]
  have n3 : (zg3 b1 b2 s.heap t1 t2).objs.size = s.heap.objs.size + 3 := by rw [Heap.size_push, n2]
  have n4 : (zg4 b1 b2 s.heap t1 t2).objs.size = s.heap.objs.size + 4 := by rw [Heap.size_push, n3]
  have p5 : (zg5 b1 b2 s.heap t1 t2).get? (zg4 b1 b2 s.heap t1 t2).objs.size = some _ := Heap.get?_push_size _ rfl
  have p4 : (zg5 b1 b2 s.heap t1 t2).get? (zg3 b1 b2 s.heap t1 t2).objs.size = some _ := Heap.get?_push_of_some _ (Heap.get?_push_size _ rfl)
  have p3 : (zg5 b1 b2 s.heap t1 t2).get? (zg2 b1 b2 s.heap t1 t2).objs.size = some _ := Heap.get?_push_of_some _ (Heap.get?_push_of_some _ (Heap.get?_push_size _ rfl))
  have p2 : (zg5 b1 b2 s.heap t1 t2).get? (zg1 b1 s.heap t1).objs.size = some _ := Heap.get?_push_of_some _ (Heap.get?_push_of_some _ (Heap.get?_push_of_some _ (Heap.get?_push_size _ rfl)))
  have p1 : (zg5 b1 b2 s.heap t1 t2).get? s.heap.objs.size = some _ := Heap.get?_push_of_some _ (Heap.get?_push_of_some _ (Heap.get?_push_of_some _ (Heap.get?_push_of_some _ (Heap.get?_push_size _ rfl))))
  rw [n2, n3, n4] at p5
  rw [n1, n2] at p3
  rw [n3] at p4
  rw [n1] at p2
  show _ /\ _
  rw [n4]
  refine ⟨⟨_, p5, rfl⟩, q _ p5 p3 p4 (ItB.mk p1) (ItB.mk p2) fun c o m => ?_⟩
  exact Heap.get?_push_of_some _ (Heap.get?_push_of_some _ (Heap.get?_push_of_some _ (Heap.get?_push_of_some _ (Heap.get?_push_of_some _ m))))
end
def Itg (b1 b2 : Bool) (K : W.Frag) (l1 l2 : Addr) : It :=
  ⟨fun i H => ∃ xs ys x y, SqB b1 K H l1 xs /\ SqB b2 K H l2 ys /\ xs[i]? = some x /\ ys[i]? = some y,
   fun i H x H' => ∃ p a b, H p = none /\ x = .ref p /\ H' = upd H p (.tup [a, b]) /\ ∀ xs ys, SqB b1 K H l1 xs -> SqB b2 K H l2 ys -> xs[i]? = some a /\ ys[i]? = some b,
   fun i H => ∃ xs ys, SqB b1 K H l1 xs /\ SqB b2 K H l2 ys /\ (xs.length <= i \/ ys.length <= i)⟩
theorem a8e {b1 b2 : Bool} {P : Program} {w : World} {K : W.Frag} {elts : List Expr} {x1 : Nat} {pos : Pos} {z ti to j1 j2 l1 l2 : Addr} (D : ZipApart z ti to j1 j2 l1 l2) :
    a5o P w K (.Tuple elts x1 pos) (Itg b1 b2 K l1 l2) [z, ti, to, j1, j2] z (fun i h => IsZip h z ti to .none /\ IsPair h ti (.ref j1) (.ref j2) /\ (∃ a b, IsPair h to a b) /\ ItB b1 h j1 l1 i /\ ItB b2 h j2 l2 i) where
  mem := by simp
  obj := fun i h st b hb => by
    obtain ⟨hz, hti, ⟨a, c, hto⟩, h1, h2⟩ := st
    obtain ⟨o1, e1, v1, d1⟩ := h1.obj
    obtain ⟨o2, e2, v2, d2⟩ := h2.obj
    simp only [List.mem_cons, List.not_mem_nil, or_false] at hb
    rcases hb with rfl | rfl | rfl | rfl | rfl
    . exact ⟨_, hz, fun v q => by cases q⟩
    . exact ⟨_, hti, fun v q => by cases q⟩
    . exact ⟨_, hto, fun v q => by cases q⟩
    . exact ⟨o1, e1, fun v q => by rw [d1] at q; cases q⟩
    . exact ⟨o2, e2, fun v q => by rw [d2] at q; cases q⟩
  keep := fun i h h' st k => by
    obtain ⟨hz, hti, ⟨a, c, hto⟩, h1, h2⟩ := st
    exact ⟨k z (by simp) _ hz, k ti (by simp) _ hti, ⟨a, c, k to (by simp) _ hto⟩, ItB.at' h1 fun o e => k j1 (by simp) o e, ItB.at' h2 fun o e => k j2 (by simp) o e⟩
  item := by
    intro X hP hw hK hc i pins s σ H E I hf st hg
    subst hP hw hK
    obtain ⟨xs, ys, x, y, hq1, hq2, hx, hy⟩ := hg
    obtain ⟨hz, hti, ⟨a, c, hto⟩, h1, h2⟩ := st
    obtain ⟨its1, rv1, p1, _⟩ := I.sqB hq1
    obtain ⟨its2, rv2, p2, _⟩ := I.sqB hq2
    obtain ⟨u1, hu1, ru1⟩ := rv1.get hx
    obtain ⟨u2, hu2, ru2⟩ := rv2.get hy
    refine a8b D hz hti hto h1 h2 p1 p2 (x := u1) (y := u2) (by simpa using hu1) (by simpa using hu2) fun h' a1 a2 a3 a4 a5 a7 => ?_
    refine ⟨_, rfl, wpAny_letOwnedTupleGo_zip (s := { s with heap := h' }) a1 fun h'' hz'' hs'' => ?_⟩
    have neT : ∀ b ∈ [z, ti, to, j1, j2], b ≠ s.heap.objs.size := fun b hb e => by
      have : ∃ o, s.heap.get? b = some o := by
        obtain ⟨o1, e1, _⟩ := h1.obj
        obtain ⟨o2, e2, _⟩ := h2.obj
        simp only [List.mem_cons, List.not_mem_nil, or_false] at hb
        rcases hb with rfl | rfl | rfl | rfl | rfl
        . exact ⟨_, hz⟩
        . exact ⟨_, hti⟩
        . exact ⟨_, hto⟩
        . exact ⟨_, e1⟩
        . exact ⟨_, e2⟩
      obtain ⟨o, ho⟩ := this
      exact absurd (Heap.lt_size ho) (by rw [e]; exact Nat.lt_irrefl _)
    have kk : ∀ b o, b ∉ [z, ti, to, j1, j2] -> s.heap.get? b = some o -> h''.get? b = some o := fun b o hb e => by
      simp only [List.mem_cons, List.not_mem_nil, or_false, not_or] at hb
      exact hs''.extBut b o hb.1 (a7 b o hb.1 hb.2.2.1 hb.2.2.2.1 hb.2.2.2.2 e)
    have tti : h'.get? ti = _ := a7 ti _ D.TIz D.TITO D.TIi1 D.TIi2 hti
    have st' : IsZip h'' z ti to .none /\ IsPair h'' ti (.ref j1) (.ref j2) /\ (∃ a b, IsPair h'' to a b) /\ ItB b1 h'' j1 l1 (i + 1) /\ ItB b2 h'' j2 l2 (i + 1) :=
      ⟨hz'', hs''.extBut _ _ D.TIz tti, ⟨_, _, hs''.extBut _ _ D.TOz a2⟩, a3.extBut hs''.extBut D.i1z, a4.extBut hs''.extBut D.i2z⟩
    have hoF : ∀ b ∈ [z, ti, to, j1, j2], ∃ o, h''.get? b = some o := fun b hb => by
      obtain ⟨q1, q2, ⟨_, _, q3⟩, q4, q5⟩ := st'
      obtain ⟨o1, e1, _⟩ := q4.obj
      obtain ⟨o2, e2, _⟩ := q5.obj
      simp only [List.mem_cons, List.not_mem_nil, or_false] at hb
      rcases hb with rfl | rfl | rfl | rfl | rfl
      . exact ⟨_, q1⟩
      . exact ⟨_, q2⟩
      . exact ⟨_, q3⟩
      . exact ⟨_, e1⟩
      . exact ⟨_, e2⟩
    have zs : z ≠ s.heap.objs.size := neT z (by simp)
    have tup : IsTup h'' s.heap.objs.size [u1, u2].toArray := ⟨_, hs''.extBut _ _ (Ne.symm zs) a5, rfl, 0, rfl⟩
    refine ⟨.ref s.heap.objs.size, upd H s.heap.objs.size (.tup [x, y]), I.turnedLaid (h' := h'') hf kk hoF (Nat.le_refl _) (by show 2 <= sizeLine; decide) (.cons ru1 (.cons ru2 .nil)) tup, rfl, ⟨_, x, y, I.fresh, rfl, rfl, fun xs' ys' q1 q2 => ?_⟩, st', fun b hb => ?_⟩
    . rw [I.sqB_inj q1 hq1, I.sqB_inj q2 hq2]; exact ⟨hx, hy⟩
    . rw [h8 (neT b hb)]; exact (hf b hb).1
  done := by
    intro X hP hw hK hc i pins s σ H E I hf st hg
    subst hP hw hK
    obtain ⟨xs, ys, hq1, hq2, hend⟩ := hg
    obtain ⟨hz, hti, ⟨a, c, hto⟩, h1, h2⟩ := st
    obtain ⟨its1, rv1, p1, _⟩ := I.sqB hq1
    obtain ⟨its2, rv2, p2, _⟩ := I.sqB hq2
    have hl1 := rv1.length
    have hl2 := rv2.length
    refine a8f (I.ok.hd hc) D hz hti hto h1 h2 p1 p2 (by
      rcases hend with q | q
      . exact .inl (by simp; omega)
      . exact .inr (by simp; omega)) fun h' k => ⟨rfl, I.turnedAll hf fun b o hb e => ?_⟩
    simp only [List.mem_cons, List.not_mem_nil, or_false, not_or] at hb
    exact k b o hb.1 hb.2.2.1 hb.2.2.2.1 hb.2.2.2.2 e
  self := fun _ _ _ _ _ st h => wpAny_pyIter_zip st.1 h
def iZg (b1 b2 : Bool) (K : W.Frag) (ta : TA) : TI := fun σ H R => ta σ H fun vs H1 => ∃ l1 l2, vs = [.ref l1, .ref l2] /\ (∃ xs, SqB b1 K H1 l1 xs) /\ (∃ ys, SqB b2 K H1 l2 ys) /\ R (Itg b1 b2 K l1 l2) H1
theorem a9e (b1 b2 : Bool) (K : W.Frag) {X : Cx} {a b : Expr} {ta : TA} {p pos pos' : Pos} {elts : List Expr} {x1 : Nat} (hK : X.K = K) (hg : Gl X "zip") (hm : X.mg "zip" = none) (ha : PA X [a, b] ta) (hs : starEach [a, b] X.env = [(false, eval a X.env), (false, eval b X.env)] := by rfl) (hs2 : starEach [b] X.env = [(false, eval b X.env)] := by rfl) :
    PI X (.Tuple elts x1 pos') (.Call (.Name "zip" p) [a, b] [] pos) (iZg b1 b2 K ta) := by
  subst hK
  intro pins s σ H R I h
  refine Call_ (X5 I hg hm boot_zip (PyProof.Rows.callWith_type1 (C9 (ha pos pins s σ H _ I h) fun us s1 ⟨vs, H1, I1, r1, q1⟩ => ?_) (by rw [hs, hs2]) (by rw [hs2]; rfl)))
  obtain ⟨l1, l2, e, ⟨xs, q1⟩, ⟨ys, q2⟩, q⟩ := q1
  subst e
  obtain ⟨u1, u2, rfl, ru1, ru2⟩ := a1I r1
  cases ru1
  cases ru2
  obtain ⟨its1, rv1, p1, _⟩ := I1.sqB q1
  obtain ⟨its2, rv2, p2, _⟩ := I1.sqB q2
  refine a8D p1 p2 fun h' z1 z2 z3 z4 z5 k => ?_
  have I2 : Inv X pins σ H1 { s1 with heap := h' } := I1.kept (t' := s1.toks) k
  refine wpAny_pyIter_zip z1 ?_
  have D : ZipApart (s1.heap.objs.size + 4) (s1.heap.objs.size + 2) (s1.heap.objs.size + 3) s1.heap.objs.size (s1.heap.objs.size + 1) l1 l2 := b0a _ _ _ p1.lt p2.lt
  refine ⟨s1.heap.objs.size + 4, [s1.heap.objs.size + 4, s1.heap.objs.size + 2, s1.heap.objs.size + 3, s1.heap.objs.size, s1.heap.objs.size + 1], _, _, H1, rfl, I2, a8e D, ⟨z1, z2, ⟨_, _, z3⟩, z4, z5⟩, fun b hb => ?_, q⟩
  have hb' : s1.heap.objs.size <= b := by
    simp only [List.mem_cons, List.not_mem_nil, or_false] at hb
    rcases hb with rfl | rfl | rfl | rfl | rfl
    . exact Nat.le_add_right _ _
    . exact Nat.le_add_right _ _
    . exact Nat.le_add_right _ _
    . exact Nat.le_refl _
    . exact Nat.le_add_right _ _
  exact I1.fpOk hb' (I1.hok.fresh hb')
section
variable {b1 b2 : Bool} {xs ys : List V} {K : W.Frag} {l1 l2 : Addr} {fr : List Nat} {te : TE} {σ : St} {H1 : Hp} {p : Addr} {D : Hp -> Prop}
theorem a7e (h1 : SqB b1 K H1 l1 xs) (h2 : SqB b2 K H1 l2 ys) (hp : H1 p = none) (hz : xs.length < sizeLine) (R : Nat -> V -> Hp -> Prop) (hR : ∀ i y H H', R i y H -> (∀ b o, b ≠ p -> H b = some o -> H' b = some o) -> R i y H')
    (step : ∀ (i : Nat) x y H zs (N : VK), xs[i]? = some x -> ys[i]? = some y -> Same H1 H -> H p = some (.lst zs) -> (∀ v H3, Same H H3 -> R i v H3 -> N v H3) -> te (((blkσ 2 fr σ).set 0 (some x)).set 1 (some y)) H N)
    (hd : ∀ zs H, Same H1 H -> H p = some (.lst zs) -> zs.length = min xs.length ys.length -> (∀ i z, zs[i]? = some z -> R i z H) -> D H) : lcW 2 fr (a7q K 2 (a1c (Q8 0) (a1c (Q8 1) a7O))) te σ (Itg b1 b2 K l1 l2) H1 p D := by
  refine ⟨fun i m zs H => m = min xs.length ys.length - i /\ i <= min xs.length ys.length /\ Same H1 H /\ H p = some (.lst zs) /\ zs.length = i /\ ∀ j y, zs[j]? = some y -> R j y H, ⟨_, rfl, Nat.zero_le _, Same.new hp _, upd_same, rfl, fun j y e => by simp at e⟩, ?_⟩
  rintro i m zs H ⟨rfl, hi, e, hH, len, pr⟩
  by_cases hlt : i < min xs.length ys.length
  . have hx : i < xs.length := by omega
    have hy : i < ys.length := by omega
    refine .inr ⟨⟨xs, ys, xs[i], ys[i], e.sqB h1, e.sqB h2, List.getElem?_eq_getElem hx, List.getElem?_eq_getElem hy⟩, fun u H' y => ?_⟩
    obtain ⟨q, a, b, hq, rfl, rfl, hab⟩ := y
    obtain ⟨ha, hb⟩ := hab xs ys (e.sqB h1) (e.sqB h2)
    have s1 := Same.new hq (.tup [a, b])
    refine ⟨q, _, rfl, SqT.of upd_same, rfl, _, _, rfl, _, _, rfl, rfl, ?_, ?_⟩
    . refine ⟨by simp, fun k w ek => ?_⟩
      have : ¬ k < 2 := fun hk => by
        unfold blkσ at ek
        rw [List.getElem?_append_left (by simpa using hk), List.getElem?_replicate] at ek
        split at ek <;> cases ek
      rw [List.getElem?_set_ne (by omega), List.getElem?_set_ne (by omega)]; exact ek
    . refine step i a b _ zs _ ha hb (e.trans s1) (s1 _ _ hH) fun v H3 s3 r3 => ⟨s3 _ _ (s1 _ _ hH), by omega, min xs.length ys.length - (i + 1), by omega, rfl, hlt, fun b' o q' => ?_, upd_same, by rw [List.length_append, len]; rfl, fun j y ey => ?_⟩
      . rw [h8 (i7 q' hp)]; exact s3 _ _ (s1 _ _ (e _ _ q'))
      . have up : ∀ b o, b ≠ p -> H3 b = some o -> upd H3 p (.lst (zs ++ [v])) b = some o := fun b o hb q => by rw [h8 hb]; exact q
        by_cases hj : j < zs.length
        . rw [List.getElem?_append_left hj] at ey
          exact hR j y _ _ (pr j y ey) fun b o hb q => up b o hb (s3 _ _ (s1 _ _ q))
        . rw [List.getElem?_append_right (by omega)] at ey
          have hj' : j - zs.length = 0 := by
            cases q : j - zs.length with
            | zero => rfl
            | succ k => rw [q] at ey; simp at ey
          rw [hj'] at ey
          have : j = i := by omega
          subst this
          simp at ey
          subst ey
          exact hR j v _ _ r3 up
  . have : i = min xs.length ys.length := by omega
    subst this
    exact .inl ⟨⟨xs, ys, e.sqB h1, e.sqB h2, by omega⟩, hd zs H e hH len pr⟩
theorem b1w (h1 : SqB b1 K H1 l1 xs) (h2 : SqB b2 K H1 l2 ys) (hp : H1 p = none) (hz : xs.length < sizeLine) (F : V -> V -> V)
    (step : ∀ (i : Nat) x y H (N : VK), xs[i]? = some x -> ys[i]? = some y -> Same H1 H -> N (F x y) H -> te (((blkσ 2 fr σ).set 0 (some x)).set 1 (some y)) H N)
    (hd : ∀ H, Same H1 H -> H p = some (.lst (List.zipWith F xs ys)) -> D H) : lcW 2 fr (a7q K 2 (a1c (Q8 0) (a1c (Q8 1) a7O))) te σ (Itg b1 b2 K l1 l2) H1 p D := by
  refine a7e h1 h2 hp hz (fun i v _ => ∀ x y, xs[i]? = some x -> ys[i]? = some y -> v = F x y) (fun _ _ _ _ r _ => r) (fun i x y H zs N hx hy e _ hN => step i x y H N hx hy e (hN _ _ (Same.refl _) fun x' y' ex ey => ?_)) fun zs H e hH hl hr => hd H e ?_
  . rw [hx] at ex; rw [hy] at ey; cases ex; cases ey; rfl
  . rw [hH]
    congr 2
    refine List.ext_getElem? fun i => ?_
    by_cases hi : i < min xs.length ys.length
    . have a1 : i < zs.length := by omega
      have a2 : i < xs.length := by omega
      have a3 : i < ys.length := by omega
      rw [List.getElem?_eq_getElem a1, List.getElem?_eq_getElem (by rw [List.length_zipWith]; exact hi), List.getElem_zipWith, hr i _ (List.getElem?_eq_getElem a1) _ _ (List.getElem?_eq_getElem a2) (List.getElem?_eq_getElem a3)]
    . rw [List.getElem?_eq_none (by omega), List.getElem?_eq_none (by rw [List.length_zipWith]; omega)]
end
def Ite (K : W.Frag) (l : Addr) : It :=
  ⟨fun i H => ∃ xs x, SqL K H l xs /\ xs[i]? = some x,
   fun i H x H' => ∃ p a, H p = none /\ x = .ref p /\ H' = upd H p (.tup [.int (i : Int), a]) /\ ∀ xs, SqL K H l xs -> xs[i]? = some a,
   fun i H => ∃ xs, SqL K H l xs /\ xs.length <= i⟩
theorem a5p {P : Program} {w : World} {K : W.Frag} {elts : List Expr} {x1 : Nat} {pos : Pos} {e it l : Addr} (hne : e ≠ it) (hle : l ≠ e) (hli : l ≠ it) :
    a5o P w K (.Tuple elts x1 pos) (Ite K l) [e, it] e (fun i h => (∃ old, IsEnum h e it (i : Int) old) /\ h.IsListIter it l i) where
  mem := by simp
  obj := fun i h st b hb => by
    obtain ⟨⟨old, he⟩, ⟨o1, e1, c1, d1⟩⟩ := st
    simp only [List.mem_cons, List.not_mem_nil, or_false] at hb
    rcases hb with rfl | rfl
    . exact ⟨_, he, fun v q => by cases q⟩
    . exact ⟨o1, e1, fun v q => by rw [d1] at q; cases q⟩
  keep := fun i h h' st k => by
    obtain ⟨⟨old, he⟩, h1⟩ := st
    exact ⟨⟨old, k e (by simp) _ he⟩, h1.at fun o q => k it (by simp) o q⟩
  item := by
    intro X hP hw hK hc i pins s σ H E I hf st hg
    subst hP hw hK
    obtain ⟨xs, x, hq, hx⟩ := hg
    obtain ⟨⟨old, he⟩, h1⟩ := st
    obtain ⟨its, rv, p, _⟩ := I.list hq
    obtain ⟨u, hu, ru⟩ := rv.get hx
    refine wpAny_pyNext_enum_item he h1 p.isList (x := u) (by simpa using hu) hne fun h' a1 a2 a3 a4 a5 => ?_
    refine ⟨_, rfl, wpAny_letOwnedTupleGo_enum (s := { s with heap := h', toks := s.toks + 1 }) a1 fun h'' he'' hs'' => ?_⟩
    have ie : s.heap.get? e = _ := he
    obtain ⟨o1, ei, _⟩ := id h1
    have neT : ∀ b ∈ [e, it], b ≠ s.heap.objs.size := fun b hb q => by
      have : ∃ o, s.heap.get? b = some o := by
        simp only [List.mem_cons, List.not_mem_nil, or_false] at hb
        rcases hb with rfl | rfl
        . exact ⟨_, ie⟩
        . exact ⟨_, ei⟩
      obtain ⟨o, ho⟩ := this
      exact absurd (Heap.lt_size ho) (by rw [q]; exact Nat.lt_irrefl _)
    have kk : ∀ b o, b ∉ [e, it] -> s.heap.get? b = some o -> h''.get? b = some o := fun b o hb q => by
      simp only [List.mem_cons, List.not_mem_nil, or_false, not_or] at hb
      exact hs''.extBut b o hb.1 (a5 b o hb.1 hb.2 q)
    have it'' : h''.IsListIter it l (i + 1) := a2.extBut hs''.extBut (Ne.symm hne)
    have hoF : ∀ b ∈ [e, it], ∃ o, h''.get? b = some o := fun b hb => by
      obtain ⟨o2, e2, _⟩ := it''
      simp only [List.mem_cons, List.not_mem_nil, or_false] at hb
      rcases hb with rfl | rfl
      . exact ⟨_, he''⟩
      . exact ⟨_, e2⟩
    have es : e ≠ s.heap.objs.size := neT e (by simp)
    have tup : IsTup h'' s.heap.objs.size [Value.int (i : Int) s.toks, u].toArray := ⟨_, hs''.extBut _ _ (Ne.symm es) a3, rfl, 0, rfl⟩
    refine ⟨.ref s.heap.objs.size, upd H s.heap.objs.size (.tup [.int (i : Int), x]), (I.turnedLaid (h' := h'') hf kk hoF (Nat.le_refl _) (by show 2 <= sizeLine; decide) (show Vals [.int (i : Int), x] [Value.int (i : Int) s.toks, u] from .cons ⟨_, rfl⟩ (.cons ru .nil)) tup).tok _, rfl, ⟨_, x, I.fresh, rfl, rfl, fun xs' q1 => ?_⟩, ⟨⟨_, he''⟩, it''⟩, fun b hb => ?_⟩
    . rw [I.list_inj q1 hq]; exact hx
    . rw [h8 (neT b hb)]; exact (hf b hb).1
  done := by
    intro X hP hw hK hc i pins s σ H E I hf st hg
    subst hP hw hK
    obtain ⟨xs, hq, hend⟩ := hg
    obtain ⟨⟨old, he⟩, h1⟩ := st
    obtain ⟨its, rv, p, _⟩ := I.list hq
    have hl := rv.length
    refine wpAny_pyNext_enum_end (I.ok.hd hc) he h1 p.isList (by simp; omega) fun h' k => ⟨rfl, I.turnedAll hf fun b o hb q => ?_⟩
    simp only [List.mem_cons, List.not_mem_nil, or_false, not_or] at hb
    exact k b o hb.2 q
  self := fun _ _ _ _ _ st h => by
    obtain ⟨⟨old, he⟩, _⟩ := st
    exact wpAny_pyIter_enum he h
def b1m (K : W.Frag) (ta : TA) : TI := fun σ H R => ta σ H fun vs H1 => ∃ l, vs = [.ref l] /\ (∃ xs, SqL K H1 l xs) /\ R (Ite K l) H1
theorem a3Z (K : W.Frag) {X : Cx} {a : Expr} {ta : TA} {p pos pos' : Pos} {elts : List Expr} {x1 : Nat} (hK : X.K = K) (hg : Gl X "enumerate") (hm : X.mg "enumerate" = none) (ha : PA X [a] ta) (hs : starEach [a] X.env = [(false, eval a X.env)] := by rfl) (hs2 : starEach ([] : List Expr) X.env = [] := by rfl) :
    PI X (.Tuple elts x1 pos') (.Call (.Name "enumerate" p) [a] [] pos) (b1m K ta) := by
  subst hK
  intro pins s σ H R I h
  refine Call_ (X5 I hg hm boot_enumerate (PyProof.Rows.callWith_type1 (C9 (ha pos pins s σ H _ I h) fun us s1 ⟨vs, H1, I1, r1, q1⟩ => ?_) (by rw [hs, hs2]) (by rw [hs2]; rfl)))
  obtain ⟨l, e, ⟨xs, q1⟩, q⟩ := q1
  subst e
  obtain ⟨u, rfl, ru⟩ := R3 r1
  cases ru
  obtain ⟨its, rv, p, _⟩ := I1.list q1
  have lt1 : l < s1.heap.objs.size := by obtain ⟨_, e, _⟩ := p.isList; exact Heap.lt_size e
  refine call_enumerate_list p.isList fun h' z1 z2 z3 k => ?_
  have I2 : Inv X pins σ H1 { s1 with heap := h' } := I1.kept (t' := s1.toks) k
  refine wpAny_pyIter_enum z1 ?_
  refine ⟨s1.heap.objs.size + 1, [s1.heap.objs.size + 1, s1.heap.objs.size], _, _, H1, rfl, I2, a5p (l := l) (e := s1.heap.objs.size + 1) (it := s1.heap.objs.size) (Nat.succ_ne_self _) (Nat.ne_of_lt (Nat.lt_succ_of_lt lt1)) (Nat.ne_of_lt lt1), ⟨⟨_, z1⟩, z2⟩, fun b hb => ?_, q⟩
  have hb' : s1.heap.objs.size <= b := by
    simp only [List.mem_cons, List.not_mem_nil, or_false] at hb
    rcases hb with rfl | rfl
    . exact Nat.le_succ _
    . exact Nat.le_refl _
  exact I1.fpOk hb' (I1.hok.fresh hb')
section
variable {xs ys : List V} {K : W.Frag} {l1 l2 : Addr} {fr : List Nat} {te : TE} {σ : St} {H1 : Hp} {p : Addr} {D : Hp -> Prop}
theorem a3l {i1 i2 : Nat} {tb : TS} {D : Ends} {H : Hp} (Pv : Nat -> St -> Hp -> Prop) (h0 : Pv 0 σ H) (hl : ∀ i σ H, Pv i σ H -> SqL K H l1 xs)
    (hs : ∀ i x σ H q, xs[i]? = some x -> Pv i σ H -> H q = none -> tb { D with nx := Pv (i + 1), ct := Pv (i + 1), bk := D.nx } ((σ.set i1 (some (.int (i : Int)))).set i2 (some x)) (upd H q (.tup [.int (i : Int), x]))) (hd : ∀ σ H, Pv xs.length σ H -> D.nx σ H) :
    ∃ W : Nat -> Nat -> St -> Hp -> Prop, (∃ m, W 0 m σ H) /\ ∀ i m σ H, W i m σ H →
      ((Ite K l1).stop i H /\ D.nx σ H) \/ ((Ite K l1).go i H /\ ∃ N : St -> Hp -> Prop, (∀ σ' H', N σ' H' -> ∃ m', m' < m /\ W (i + 1) m' σ' H') /\ ∀ x H', (Ite K l1).yld i H x H' -> a7q K 2 (a1c (Q8 i1) (a1c (Q8 i2) a7O)) x σ H' fun σ2 H2 => tb { D with nx := N, ct := N, bk := D.nx } σ2 H2) := by
  refine ⟨fun i m σ H => m = xs.length - i /\ i <= xs.length /\ Pv i σ H, ⟨_, rfl, Nat.zero_le _, h0⟩, ?_⟩
  rintro i m σ H ⟨rfl, hi, p⟩
  have q1 := hl i σ H p
  by_cases hlt : i < xs.length
  . refine .inr ⟨⟨xs, xs[i], q1, List.getElem?_eq_getElem hlt⟩, Pv (i + 1), fun σ' H' p' => ⟨xs.length - (i + 1), by omega, rfl, hlt, p'⟩, fun u H' y => ?_⟩
    obtain ⟨q, a, hq, rfl, rfl, hab⟩ := y
    have ha := hab xs q1
    exact ⟨q, _, rfl, SqT.of upd_same, rfl, _, _, rfl, _, _, rfl, rfl, hs i a σ H q ha p hq⟩
  . have : i = xs.length := by omega
    subst this
    exact .inl ⟨⟨xs, q1, by omega⟩, hd σ H p⟩
end
end L2
namespace Fr
abbrev Q2 := Int × Int
def gI (a b : Int) : Int := (Int.gcd a b : Int)
def low (t b : Int) : Q2 := (t / gI t b, b / gI t b)
def a4w (f : Q2) : Prop := 0 < f.2 /\ Int.gcd f.1 f.2 = 1
theorem U4 (a b : Int) : 0 <= gI a b := Int.natCast_nonneg _
theorem K7 (a b : Int) : gI a b ∣ a := Int.gcd_dvd_left ..
theorem C7 (a b : Int) : gI a b ∣ b := Int.gcd_dvd_right ..
theorem Z6 {a b : Int} (hb : 0 < b) : 0 < gI a b := by
  have h0 := U4 a b
  by_cases z : gI a b = 0
  . have := C7 a b
    rw [z, Int.zero_dvd] at this
    omega
  . omega
theorem b1o {a b : Int} (hb : 0 < b) : gI a b <= b := Int.le_of_dvd hb (C7 a b)
theorem a3G {c a b : Int} (h1 : c ∣ a) (h2 : c ∣ b) : c ∣ gI a b := Int.dvd_coe_gcd h1 h2
theorem a0c {a b : Int} (ha : 0 <= a) (hb : 0 <= b) (h1 : a ∣ b) (h2 : b ∣ a) : a = b := Int.dvd_antisymm ha hb h1 h2
theorem a4P (a b : Int) : gI b (a % b) = gI a b := by
  refine a0c (U4 _ _) (U4 _ _) (a3G ?_ (K7 _ _)) (a3G (C7 _ _) ?_)
  . have h1 := K7 b (a % b)
    have h2 := C7 b (a % b)
    have := Int.dvd_add (Int.dvd_mul_of_dvd_left (c := a / b) h1) h2
    rw [Int.mul_ediv_add_emod] at this
    exact this
  . have h1 := K7 a b
    have h2 := C7 a b
    have := Int.dvd_sub h1 (Int.dvd_mul_of_dvd_left (c := a / b) h2)
    rw [Int.emod_def]
    exact this
theorem a4c (a : Int) : gI a 0 = a.natAbs := by unfold gI; rw [Int.gcd_zero_right]
theorem a9F (a b : Int) : gI (-a) b = gI a b := by unfold gI; rw [Int.neg_gcd]
theorem a4T {t b : Int} (hb : 0 < b) : 0 < (low t b).2 := by
  have h := Z6 (a := t) hb
  obtain ⟨k, hk⟩ := C7 t b
  show 0 < b / gI t b
  have e : b / gI t b = k := by
    have : b / gI t b = (gI t b * k) / gI t b := by rw [<- hk]
    rw [this, Int.mul_ediv_cancel_left _ (by omega)]
  rw [e]
  by_cases z : 0 < k
  . exact z
  . have := Int.mul_nonneg (Int.le_of_lt h) (show 0 <= -k by omega)
    rw [Int.mul_neg] at this
    omega
theorem M5 {t b : Int} (hb : 0 < b) : t = gI t b * (low t b).1 /\ b = gI t b * (low t b).2 :=
  ⟨(Int.mul_ediv_cancel' (K7 t b)).symm, (Int.mul_ediv_cancel' (C7 t b)).symm⟩
theorem a1L {t b : Int} (hb : 0 < b) : (low t b).1 * b = t * (low t b).2 := by
  obtain ⟨h1, h2⟩ := M5 (t := t) hb
  generalize gI t b = g at h1 h2
  generalize low t b = f at h1 h2
  rw [h1, h2]
  ac_rfl
theorem a0b {t b : Int} (hb : 0 < b) : a4w (low t b) := by
  refine ⟨a4T hb, ?_⟩
  obtain ⟨h1, h2⟩ := M5 (t := t) hb
  have hg := Z6 (a := t) hb
  have q : gI t b * gI (low t b).1 (low t b).2 ∣ gI t b * 1 := by
    rw [Int.mul_one]
    refine a3G ?_ ?_
    . have := Int.mul_dvd_mul_left (gI t b) (K7 (low t b).1 (low t b).2)
      rw [<- h1] at this
      exact this
    . have := Int.mul_dvd_mul_left (gI t b) (C7 (low t b).1 (low t b).2)
      rw [<- h2] at this
      exact this
  have q2 : gI (low t b).1 (low t b).2 ∣ 1 := Int.dvd_of_mul_dvd_mul_left (by omega) q
  have q3 : gI (low t b).1 (low t b).2 = 1 := a0c (U4 _ _) (by decide) q2 (Int.one_dvd _)
  unfold gI at q3
  omega
theorem a0m {a b c : Int} (h : Int.gcd a b = 1) (d : b ∣ a * c) : b ∣ c := by
  have h' : Nat.Coprime b.natAbs a.natAbs := by
    rw [Nat.coprime_comm]; exact h
  have d' : b.natAbs ∣ a.natAbs * c.natAbs := by rw [<- Int.natAbs_mul]; exact Int.natAbs_dvd_natAbs.mpr d
  exact Int.natAbs_dvd_natAbs.mp (h'.dvd_of_dvd_mul_left d')
theorem a2u {f g : Q2} (hf : a4w f) (hg : a4w g) (h : f.1 * g.2 = g.1 * f.2) : f = g := by
  have d1 : f.2 ∣ g.2 := a0m hf.2 ⟨g.1, by rw [h, Int.mul_comm]⟩
  have d2 : g.2 ∣ f.2 := a0m hg.2 ⟨f.1, by rw [<- h, Int.mul_comm]⟩
  have e2 : f.2 = g.2 := a0c (Int.le_of_lt hf.1) (Int.le_of_lt hg.1) d1 d2
  have e1 : f.1 = g.1 := by
    rw [e2] at h
    exact Int.eq_of_mul_eq_mul_right (by have := hg.1; omega) h
  exact Prod.ext e1 e2
theorem a7i {t b t' b' : Int} (hb : 0 < b) (hb' : 0 < b') (h : t * b' = t' * b) : low t b = low t' b' := by
  refine a2u (a0b hb) (a0b hb') ?_
  have c1 := a1L (t := t) hb
  have c2 := a1L (t := t') hb'
  generalize low t b = x at c1 ⊢
  generalize low t' b' = y at c2 ⊢
  refine Int.eq_of_mul_eq_mul_right (a := b * b') (by have := Int.mul_pos hb hb'; omega) ?_
  calc x.1 * y.2 * (b * b') = (x.1 * b) * (y.2 * b') := by ac_rfl
    _ = (t * b') * (x.2 * y.2) := by rw [c1]; ac_rfl
    _ = (t' * y.2) * (b * x.2) := by rw [h]; ac_rfl
    _ = (y.1 * b') * (b * x.2) := by rw [c2]
    _ = y.1 * x.2 * (b * b') := by ac_rfl
end Fr
namespace L2
open PySem PySem.Spec PyProof.Rows
abbrev a3L (X : Cx) (qual : Str) (scope : Scope) (f : Addr) (cd : Value) (C : Addr) : Env := W.envX qual scope C f cd (clo X.env scope.names [])
def a4u (X : Cx) (col : Str) (fr : List Nat) (qual : Str) (scope : Scope) (f : Addr) (cd : Value) (A' : Around) (s₀ : Shared) (H₀ : Hp) : Cx :=
  { X with N := col :: fr.map (fun j => X.N.getD j ""), s₀ := s₀, H₀ := H₀, A := A'.deeper (a3L X qual scope f cd s₀.heap.objs.size), env := a3L X qual scope f cd s₀.heap.objs.size, outer := X.stack,
           stack := a3L X qual scope f cd s₀.heap.objs.size :: X.stack, ex := [], fn := fun _ => false, pn := [], xe := fun _ _ => False }
section
variable {X : Cx} {pins : List (Addr × Obj)} {σ : St} {H : Hp} {s : Shared} {fr : List Nat} {scope : Scope} {col : Str} {qual : Str} {f : Addr} {cd : Value} {A' : Around}
theorem T3 {env : Env} {l : List (Str × NameKind)} {x : Str} {c : Addr} (e : (clo env l []).lookup x = some c) : env.cells.lookup x = some c := Y7 (cs := []) (fun _ _ z => by simp at z) e
theorem Inv.lam {h₁ : Heap} {t' : Nat} {v : V} {u : Value} (I : Inv X pins σ H s) (hA : A'.frames = some X.stack) (hh : A'.handled = X.A.handled) (hk : scope.kind = .function) (h : a0j X.env.scope scope X.N fr = true)
    (hcell : ∀ x ∈ scope.names, x.2 ≠ .cell) (hcol : scope.names.lookup col = some .local) (hns : h₁.Ns s.heap.objs.size fun x => [(col, u)].reverse.lookup x) (hkeep : ∀ b o, s.heap.get? b = some o -> h₁.get? b = some o) (r : RelV v u) :
    Inv (a4u X col fr qual scope f cd A' s H) [] (some v :: frv fr σ) H { s with heap := h₁, toks := t' } where
  ok := {
    mod := I.ok.mod
    kind := hk
    glob := rfl
    blt := rfl
    above := Nat.le_refl _
    inj := fun x y c e1 e2 => I.ok.inj x y c (T3 e1) (T3 e2)
    has := fun x hx => by
      have hx' : scope.names.lookup x = some .cell \/ scope.names.lookup x = some .free := hx
      rcases hx' with e | e
      . exact absurd rfl (hcell _ (G6 e))
      . exact V1 (U5 I h x (G6 e)) (G6 e)
    cab := fun x c hx => by cases (show false = true from hx)
    hd := fun z => by
      show A'.handled = none
      rw [hh]
      exact I.ok.hd z
    frames := Around.frames_deeper hA
    stk := .inr ⟨rfl, rfl⟩
    exf := fun b hb => by cases (show b ∈ ([] : List Addr) from hb)
    bs := I.bs
    bsz := Nat.le_trans I.ok.bsz I.sz
    noex := fun b o _ hb => by cases (show b ∈ ([] : List Addr) from hb)
    exfs := fun b hb => by cases (show b ∈ ([] : List Addr) from hb)
    funs := I.stack
    frf := I.stkFree }
  os := rfl
  bare := I.bare
  base := Un.kept hkeep
  loc := by
    refine ⟨_, hns, fun i x w e1 e2 _ => ?_⟩
    cases i with
    | zero =>
      have hx : col = x := Option.some.inj e1
      have hv : v = w := Option.some.inj (Option.some.inj e2)
      subst hx
      subst hv
      exact ⟨u, r, .inl ⟨hcol, by simp [List.lookup]⟩⟩
    | succ i =>
      have e1' : (fr.map fun j => X.N.getD j "")[i]? = some x := e1
      have e2' : (fr.map fun j => (σ[j]?).join)[i]? = some (some w) := e2
      rw [List.getElem?_map] at e1' e2'
      cases q : fr[i]? with
      | none => rw [q] at e1'; cases e1'
      | some j =>
        rw [q] at e1' e2'
        have hj : j ∈ fr := List.mem_of_getElem? q
        obtain ⟨hjl, hjc, hjf⟩ := a9n h j hj
        have ex : X.N.getD j "" = x := Option.some.inj e1'
        have ev : (σ[j]?).join = some w := Option.some.inj e2'
        have hN : X.N[j]? = some x := by
          rw [<- ex, List.getD_eq_getElem?_getD, List.getElem?_eq_getElem hjl]; rfl
        have hσ : σ[j]? = some (some w) := by
          cases r : σ[j]? with
          | none => rw [r] at ev; cases ev
          | some y => rw [r] at ev; exact congrArg some ev
        rw [ex] at hjc hjf
        obtain ⟨m, _, hl⟩ := I.loc
        obtain ⟨u', r', lk⟩ := hl j x w hN hσ (.inr (.inl hjc))
        refine ⟨u', r', ?_⟩
        have kc : Env.kindOf X.env x = some .cell := hjc
        rcases lk with ⟨k1, _⟩ | ⟨_, c, ec, o, ho', hd⟩
        . rw [kc] at k1; cases k1
        . obtain ⟨c', hc'⟩ := V1 (env := X.env) (cs := []) ⟨c, ec⟩ (G6 hjf)
          have e3 := T3 hc'
          rw [ec] at e3
          cases e3
          exact .inr ⟨.inr hjf, c, hc', o, hkeep _ _ ho', hd⟩
  cell := fun x c e => by
    obtain ⟨v, o, ho', hd⟩ := I.cell x c (T3 e)
    exact ⟨v, o, hkeep _ _ ho', hd⟩
  free := I.hok.fresh (Nat.le_refl _)
  freeC := fun x c e => I.freeC x c (T3 e)
  pin := fun p hp => by cases (show p ∈ ([] : List (Addr × Obj)) from hp)
  hok := I.hok.kept hkeep
  len := by simp [frv, a4u]
def Quiet (X : Cx) (H : Hp) (s s' : Shared) : Prop := ∀ b o, s.heap.get? b = some o -> H b = none -> b ≠ X.env.locals -> b ∉ X.fs -> s'.heap.get? b = some o
theorem a5Z {params : Arguments} {body : Expr} {pm ctv : Value} {c' : Addr} {v k : V} {u : Value} {t : TE} {Q : Value -> Shared -> Prop} {E : Value -> Shared -> Prop} (I : Inv X pins σ H s) (hA : A'.frames = some X.stack) (hh : A'.handled = X.A.handled)
    (hroom : A'.depth < recursionLimit) (hk : scope.kind = .function) (h : a0j X.env.scope scope X.N fr = true)
    (hcell : ∀ x ∈ scope.names, x.2 ≠ .cell) (hcol : scope.names.lookup col = some .local) (hco : scope.isCoroutine = false) (hgen : scope.isGenerator = false)
    (hf : s.heap.get? f = some (W.kla_obj "<lambda>" qual params body scope (clo X.env scope.names []) pm c' ctv)) (hcd : s.heap.CodeRec (.ref c') qual)
    (hb : ∀ u : Value, bindArgs (W.kla_fn "<lambda>" qual params body scope (clo X.env scope.names []) pm (.ref c') ctv) ⟨[u], []⟩ = pure [(col, u)])
    (hbody : PE (a4u X col fr qual scope f (.ref c') A' s H) body t) (r : RelV v u) (ht : t (some v :: frv fr σ) H fun y H' => y = k /\ H' = H)
    (q : ∀ y s', RelV k y -> Inv X pins σ H s' -> Quiet X H s s' -> Q y s') : wpAny (model X.prog X.w) A' (call (.ref f) [u]) Q E s := by
  refine wpAny_call (W.kla_callFunE hroom hf rfl hco hgen rfl hcd ?_)
  rw [hb u]
  refine wpAny_pure (wpAny_newFunctionEnv hcell (fun y hy => ?_) (fun h₁ hns hsb => ?_) hk)
  . rw [List.mem_singleton.mp hy]; exact hcol
  . have hk₁ : ∀ b o, s.heap.get? b = some o -> h₁.get? b = some o := fun b o e => hsb.extBut b o (Nat.ne_of_lt (Heap.lt_size e)) (Heap.get?_push_of_some _ e)
    refine ⟨I.nolimit.keeps hk₁, W.kla_codeExpr ?_⟩
    have J := I.lam (qual := qual) (f := f) (cd := .ref c') (t' := s.toks + [(col, u)].length) hA hh hk h hcell hcol hns hk₁ r
    refine wpAny_mono (hbody [] _ _ _ _ J ht) (fun y s' hy => ?_) fun e s' z => False.elim z
    obtain ⟨w, H', J', rw', rfl, rfl⟩ := hy
    have J2 : Inv X pins σ H' s' := I.call' (ch := []) J'.os J'.base J'.hok J'.bare fun b hb => by cases hb
    refine q y s' rw' J2 fun b o e n n1 n2 => ?_
    refine J'.base.keep b o e n (fun z => ?_) (by intro z; cases z)
    rcases List.mem_cons.mp (I.stkSub b z) with w | w
    . exact n1 w
    . exact n2 w
end
end L2
namespace L2
open PySem PySem.Spec PyProof.Rows
def P0 (mg : Str -> Option Value) (base : Heap) : Prop := ∃ bm ob, mg "__builtins__" = some (.ref bm) /\ bm ≠ builtinsNs /\ base.get? bm = some ob /\ ob.cls = .type "module" /\ ob.dict = some builtinsNs /\ ob.data = .plain
abbrev a1D (c : Addr) (qual : Str) : HO := .ext fun h => h.CodeRec (.ref c) qual
def LamTab (P : Addr) (pos : Pos) (qual : Str) (H : Hp) : Prop :=
  H P = some (.tbl #[]) \/ ∃ c', H P = some (.tbl #[rawInt pos.line, rawInt pos.col, .ref c']) /\ H c' = some (a1D c' qual)
def Same1 (P : Addr) (H H' : Hp) : Prop := ∀ b o, b ≠ P -> H b = some o -> H' b = some o
theorem LamTab.same {P : Addr} {pos : Pos} {qual : Str} {H H' : Hp} (T : LamTab P pos qual H) (h : ∀ b o, H b = some o -> H' b = some o) : LamTab P pos qual H' := by
  rcases T with e | ⟨c, e1, e2⟩
  . exact .inl (h _ _ e)
  . exact .inr ⟨c, h _ _ e1, h _ _ e2⟩
section
variable {X : Cx} {pins : List (Addr × Obj)} {σ : St} {H : Hp} {s : Shared} {fr : List Nat} {scope : Scope} {qual : Str} {c P : Addr} {params : Arguments} {body : Expr} {pos : Pos}
theorem a7D {K : Program} {w : World} {H : Hp} {h : Heap} {c : Addr} {o : Obj} (e : h.get? c = some o) (r : h.CodeRec (.ref c) qual) : ObjOk K w H h c (a1D c qual) :=
  ⟨r, ⟨o, e⟩, fun h1 h2 ⟨c', o', vs, t, z, g, q⟩ k => by
    have z' : c = c' := Value.ref.inj z
    subst z'
    exact ⟨c, o', vs, t, rfl, k _ g, q⟩⟩
theorem Inv.grown {h' : Heap} {t' : Nat} {ps more : Array Value} {c' : Addr} (I : Inv X pins σ H s) (hP : H P = some (.tbl ps)) (hx : Heap.ExtBut P s.heap h') (hge : s.heap.objs.size <= c') (hcr : h'.CodeRec (.ref c') qual)
    (htb : h'.get? P = some { cls := .none, data := .fields (ps ++ more) }) : Inv X pins σ (upd (upd H P (.tbl (ps ++ more))) c' (a1D c' qual)) { s with heap := h', toks := t' } := by
  have hPl : P < s.heap.objs.size := I.hok.lt hP
  have hPc : P ≠ c' := Nat.ne_of_lt (Nat.lt_of_lt_of_le hPl hge)
  have hcn : H c' = none := I.hok.fresh hge
  have atP : upd (upd H P (.tbl (ps ++ more))) c' (a1D c' qual) P = some (.tbl (ps ++ more)) := by rw [h8 hPc, upd_same]
  have nP : ∀ b o, H b = some o -> (∀ qs, o ≠ .tbl qs) -> upd (upd H P (.tbl (ps ++ more))) c' (a1D c' qual) b = some o := fun b o e n => by
    rw [h8 (i7 e hcn), h8 (fun z => by subst z; rw [e] at hP; exact n _ (Option.some.inj hP))]
    exact e
  have neP : ∀ b, H b = none -> b ≠ P := fun b n z => by subst z; rw [hP] at n; cases n
  obtain ⟨cc, oc, vs, tt, z, gc, gr⟩ := id hcr
  have z' : c' = cc := Value.ref.inj z
  subst z'
  refine I.un ⟨fun b o e n _ _ => hx b o (neP b n) e, fun b o e n _ _ => ⟨o.slots, hx b o (neP b n) e⟩, fun b o e n _ => ?_, fun b o e _ => ?_, fun b xs e => nP b _ e (fun _ => nofun), fun b o u e => nP b _ e (fun _ => nofun), fun b qs e => ?_⟩ fun b u e => ?_
  . rw [h8 (Nat.ne_of_lt (Nat.lt_of_lt_of_le (Heap.lt_size e) hge)), h8 (neP b n)]; exact n
  . by_cases hb : b = P
    . subst hb; exact ⟨_, htb⟩
    . exact ⟨o, hx b o hb e⟩
  . by_cases hb : b = P
    . subst hb
      rw [e] at hP
      cases hP
      exact ⟨more, atP⟩
    . refine ⟨#[], ?_⟩
      rw [h8 (i7 e hcn), h8 hb, e]; simp
  . by_cases hb : b = c'
    . subst hb
      rw [upd_same] at e
      cases e
      exact a7D gc hcr
    . rw [h8 hb] at e
      by_cases hb2 : b = P
      . subst hb2
        rw [upd_same] at e
        cases e
        exact htb
      . rw [h8 hb2] at e
        refine (I.hok b u e).stay (fun d v hd g => hx d v (fun z => ?_) g) (fun d g => nP d _ g fun _ => nofun) fun d xs g => nP d _ g fun _ => nofun
        subst z
        rcases hd with w | w
        . exact hb2 w.symm
        . rw [hP] at w; cases w
theorem a6K {Q : Value -> Shared -> Prop} {E : Value -> Shared -> Prop} (I : Inv X pins σ H s) (hcode : X.env.code = .ref c) (C : W.CodeHd X.base c P) (B : P0 X.mg X.base) (T : LamTab P pos (X.env.qual ++ "<lambda>") H)
    (h : a0j X.env.scope scope X.N fr = true) (hdef : defaultsOf params X.env = ([], []))
    (q : ∀ f c' ctv pm H' s', Inv X ((f, W.kla_obj "<lambda>" (X.env.qual ++ "<lambda>") params body scope (clo X.env scope.names []) pm c' ctv) :: pins) σ H' s' -> LamTab P pos (X.env.qual ++ "<lambda>") H' -> Same1 P H H' →
      H' c' = some (a1D c' (X.env.qual ++ "<lambda>")) -> (∀ b, b < s.heap.objs.size -> H b = none -> H' b = none) -> Q (.ref f) s') :
    wpAny (model X.prog X.w) X.A (eval (.Lambda params body scope pos) X.env) Q E s := by
  have hcl := K1 (U5 I h)
  have hg : s.heap.Ns mainGlobals X.mg := I.mod.glob.keeps I.bk
  obtain ⟨bm, ob, b1, b2, b3, b4, b5, b6⟩ := B
  have Pg : ∀ ps, s.heap.get? P = some (W.tabObj ps) -> mainGlobals ≠ P := fun ps e z => by
    obtain ⟨o, es, ep, e1, hd, _⟩ := hg
    rw [z, e] at e1; cases e1; cases hd
  have Pb : ∀ ps, s.heap.get? P = some (W.tabObj ps) -> bm ≠ P := fun ps e z => by
    have e1 := I.bk _ _ b3
    rw [z, e] at e1; cases e1; cases b4
  have bg : bm ≠ mainGlobals := fun z => by
    obtain ⟨o, es, ep, e1, hd, _⟩ := I.mod.glob
    rw [z, e1] at b3; cases b3; rw [hd] at b6; cases b6
  refine W.kla_eval hdef ?_
  rcases T with T | ⟨c', T, Tc⟩
  . have hP : s.heap.get? P = some (W.tabObj #[]) := I.hok P _ T
    refine W.kla_makeFunction (mg := X.mg) hcl I.ok.glob hg hcode (C.keeps I.bk) hP trivial rfl (Pg _ hP) ⟨bm, ob, b1, b2, bg, Pb _ hP, I.bk _ _ b3, b4, b5, b6⟩ fun c' ctv h' tk hx hge hlt hrec htb => ?_
    have J := I.grown (t' := tk) (more := #[rawInt pos.line, rawInt pos.col, .ref c']) T hx hge hrec htb
    have hsz : s.heap.objs.size <= h'.objs.size := Nat.le_trans hge (Nat.le_of_lt hlt)
    have hPl : P < s.heap.objs.size := I.hok.lt T
    have J2 := J.kept (h' := h'.push (W.kla_obj "<lambda>" (X.env.qual ++ "<lambda>") params body scope (clo X.env scope.names []) ((X.mg "__name__").getD .none) c' ctv)) (t' := tk) fun b u e => Heap.get?_push_of_some _ e
    have hPc : P ≠ c' := Nat.ne_of_lt (Nat.lt_of_lt_of_le hPl hge)
    refine q _ c' ctv ((X.mg "__name__").getD .none) _ _ (J2.pins_of fun p hp => ?_) (.inr ⟨c', ?_, upd_same⟩) (fun b o hb e => ?_) upd_same fun b hb e => ?_
    . rcases List.mem_cons.mp hp with rfl | hp
      . refine ⟨Heap.get?_push_size _ rfl, J.hok.fresh (Nat.le_refl _), Nat.ne_of_gt (Nat.lt_of_lt_of_le I.lt hsz), I.nofs hsz, fun v => nofun⟩
      . exact J2.pin p (List.mem_append_right _ hp)
    . rw [h8 hPc, upd_same]; rfl
    . rw [h8 (i7 e (I.hok.fresh hge)), h8 hb]; exact e
    . rw [h8 (Nat.ne_of_lt (Nat.lt_of_lt_of_le hb hge)), h8 (fun z => by rw [z, T] at e; cases e)]; exact e
  . have hP : s.heap.get? P = some (W.tabObj #[rawInt pos.line, rawInt pos.col, .ref c']) := I.hok P _ T
    have hf : codeAmong pos (#[rawInt pos.line, rawInt pos.col, Value.ref c']).toList = some (.ref c') := by
      show codeAmong pos ([] ++ [rawInt pos.line, rawInt pos.col, Value.ref c']) = _
      exact codeAmong_snoc [] trivial rfl
    refine W.kla_makeFunctionHit (mg := X.mg) hcl I.ok.glob hg hcode (C.keeps I.bk) hP trivial hf ⟨bm, ob, b1, b2, bg, Pb _ hP, I.bk _ _ b3, b4, b5, b6⟩ fun ctv h' tk hk hsz => ?_
    have J := I.kept (h' := h') (t' := tk) hk
    have J2 := J.kept (h' := h'.push (W.kla_obj "<lambda>" (X.env.qual ++ "<lambda>") params body scope (clo X.env scope.names []) ((X.mg "__name__").getD .none) c' ctv)) (t' := tk) fun b u e => Heap.get?_push_of_some _ e
    refine q _ c' ctv ((X.mg "__name__").getD .none) _ _ (J2.pins_of fun p hp => ?_) (.inr ⟨c', T, Tc⟩) (fun b o hb e => e) Tc fun b hb e => e
    rcases List.mem_cons.mp hp with rfl | hp
    . exact ⟨Heap.get?_push_size _ rfl, J.hok.fresh (Nat.le_refl _), Nat.ne_of_gt (Nat.lt_of_lt_of_le I.lt hsz), I.nofs hsz, fun v => nofun⟩
    . exact J2.pin p (List.mem_append_right _ hp)
end
end L2
namespace L2
open PySem PySem.Spec PyProof.Rows
section
variable {X : Cx} {pins : List (Addr × Obj)} {σ : St} {H : Hp} {l It S fq : Addr} {ns : List Int} {g : Int -> Int} {R : Result -> Shared -> Prop}
theorem Quiet.fp {s s' : Shared} {b : Addr} {o : Obj} (k : Quiet X H s s') (f : Q7 X pins H b) (e : s.heap.get? b = some o) : s'.heap.get? b = some o := k b o e f.1 f.2.1 f.2.2.1
theorem Inv.fpTurn {s : Shared} {h' : Heap} {t' : Nat} {b : Addr} (I : Inv X pins σ H s) (f : Q7 X pins H b) (k : ∀ c o, c ≠ b -> s.heap.get? c = some o -> h'.get? c = some o) : Inv X pins σ H { s with heap := h', toks := t' } :=
  I.turned k f.1 f.2.1 f.2.2.2.1 f.2.2.2.2.1 f.2.2.2.2.2
def b0j (ns : List Int) (g : Int -> Int) (j : Nat) (cont : List Value) : Prop :=
  (cont = [] /\ j = 0) \/ ∃ M vb kb, cont = [vb, kb] /\ M ∈ ns /\ RelV (.int M) vb /\ RelV (.int (g M)) kb /\ ∀ a ∈ ns.take j, g M <= g a
abbrev a7l (X : Cx) (pins : List (Addr × Obj)) (σ : St) (H : Hp) (fq : Addr) (ns : List Int) (g : Int -> Int) : Prop :=
  ∀ n ∈ ns, ∀ (u : Value) (s : Shared) (Q : Value -> Shared -> Prop) (E : Value -> Shared -> Prop), Inv X pins σ H s -> RelV (.int n) u →
    (∀ y s', RelV (.int (g n)) y -> Inv X pins σ H s' -> Quiet X H s s' -> Q y s') -> wpAny (model X.prog X.w) X.A.in1 (call (.ref fq) [u]) Q E s
theorem a8K (hc : X.calm = true) (hl : SqL X.K H l (ns.map V.int)) (turn : a7l X pins σ H fq ns g) (fI : Q7 X pins H It) (fS : Q7 X pins H S) (hIS : It ≠ S) (hIl : l ≠ It)
    (hN : ns = [] -> ∀ s', Inv X pins σ H s' -> R (.ok (.ret .none)) s') (hR : ∀ M ∈ ns, (∀ a ∈ ns, g M <= g a) -> ∀ y s', RelV (.int M) y -> Inv X pins σ H s' -> R (.ok (.ret y)) s') :
    ∀ (r j : Nat) (s : Shared) (cont : List Value) (cn : Nat), ns.length - j = r -> j <= ns.length -> Inv X pins σ H s -> s.heap.IsListIter It l j -> s.heap.get? S = some (seqObj "list" cont.toArray cn) -> b0j ns g j cont →
      codeAny (model X.prog X.w) X.A (.builtin "min.loop" ⟨[.ref It, .ref fq, .ref S], [("default", .none)]⟩) R s := by
  have nm : (toString "min" ++ toString ".loop" : String) = "min.loop" := by decide
  have hh : ∀ {s : Shared}, Inv X pins σ H s -> X.A.in1.handled = none := fun I => I.ok.hd hc
  intro r
  induction r with
  | zero =>
    intro j s cont cn hr hj I hit hS hb
    have hjn : j = ns.length := by omega
    obtain ⟨its, rv, pl, hz⟩ := I.list hl
    have W := Walks.list (prog := X.prog) (w := X.w) (A := X.A.in1) (hh I) It l hIl its.toArray
    have hsz : its.toArray.size = ns.length := by rw [List.size_toArray, <- rv.length, List.length_map]
    refine codeAny_builtin F.entry_min_loop ?_; rw [Around.under_plainId F.plain_min_loop _]
    refine wpAny_bind (wpAny_seqItems hS rfl ?_)
    rcases hb with ⟨rfl, rfl⟩ | ⟨M, vb, kb, rfl, hM, rM, rK, best⟩
    . show wpAny _ X.A.in1 (tryCatch (pyNext (.ref It)) _ >>= _) _ _ _
      refine wpAny_bind (wpAny_tryCatch (W.done _ _ _ ⟨by rw [hsz, <- hjn]; exact hit, pl.isList⟩ fun h' tk' hk' => ?_))
      have J := I.fpTurn (h' := h') (t' := tk') fI fun c o n e => hk' c o (by simpa using n) e
      show wpAny _ X.A.in1 (rule _ >>= _) _ _ _
      exact wpAny_bind (wpAny_rule (wpAny_pure (hN (List.length_eq_zero_iff.mp hjn.symm) _ J)))
    . show wpAny _ X.A.in1 (tryCatch (pyNext (.ref It)) _ >>= _) _ _ _
      refine wpAny_bind (wpAny_tryCatch (W.done _ _ _ ⟨by rw [hsz, <- hjn]; exact hit, pl.isList⟩ fun h' tk' hk' => ?_))
      have J := I.fpTurn (h' := h') (t' := tk') fI fun c o n e => hk' c o (by simpa using n) e
      have hS' := hk' S _ (by simpa using hIS.symm) hS
      have s1 := Heap.SameBut.update h' S (Obj.mapSeq fun _ => (#[] : Array Value))
      show wpAny _ X.A.in1 (updateSeq S (fun _ => #[]) >>= _) _ _ _
      refine wpAny_bind (wpAny_updateSeq hS' rfl (wpAny_bind (wpAny_letGo (wpAny_pure ?_))))
      exact hR M hM (fun a ha => best a (by rw [hjn, List.take_length]; exact ha)) vb _ rM (J.fpTurn fS fun c o n e => (s1.2 c n).trans e)
  | succ r ih =>
    intro j s cont cn hr hj I hit hS hb
    have hlt : j < ns.length := by omega
    obtain ⟨its, rv, pl, hz⟩ := I.list hl
    have W := Walks.list (prog := X.prog) (w := X.w) (A := X.A.in1) (hh I) It l hIl its.toArray
    have hsz : its.toArray.size = ns.length := by rw [List.size_toArray, <- rv.length, List.length_map]
    refine codeAny_builtin F.entry_min_loop ?_; rw [Around.under_plainId F.plain_min_loop _]
    refine wpAny_bind (wpAny_seqItems hS rfl ?_)
    have go : ∀ (old : List Value) (kx : Value -> Sem (Option Value)) (B : Option Value -> Sem PySem.Fin) (Q : PySem.Fin -> Shared -> Prop) (E : Value -> Shared -> Prop),
        (∀ v h' tk', RelV (.int ns[j]) v -> Inv X pins σ H { s with heap := h', toks := tk' } -> h'.IsListIter It l (j + 1) -> h'.get? S = some (seqObj "list" cont.toArray cn) -> wpAny (model X.prog X.w) X.A.in1 (B (some v)) Q E { s with heap := h', toks := tk' }) →
        wpAny (model X.prog X.w) X.A.in1 (tryCatch (pyNext (.ref It)) kx >>= B) Q E s := by
      intro old kx B Q E hB
      refine wpAny_bind (wpAny_tryCatch (W.item j _ _ _ (by rw [hsz]; exact hlt) ⟨hit, pl.isList⟩ fun v h' tk' hP hst' hk' => ?_))
      have hv : (ns.map V.int)[j]? = some (V.int ns[j]) := by rw [List.getElem?_map, List.getElem?_eq_getElem hlt]; rfl
      obtain ⟨u, hu, ru⟩ := rv.get hv
      have hP' : its[j]? = some v := by simpa using hP
      rw [hu] at hP'
      cases hP'
      exact hB _ h' tk' ru (I.fpTurn fI fun c o n e => hk' c o (by simpa using n) e) hst'.1 (hk' S _ (by simpa using hIS.symm) hS)
    have hn : ns[j] ∈ ns := List.getElem_mem hlt
    have tk1 : ∀ a ∈ ns.take (j + 1), a ∈ ns.take j \/ a = ns[j] := fun a ha => by
      rw [List.take_succ_eq_append_getElem hlt] at ha
      rcases List.mem_append.mp ha with z | z
      . exact .inl z
      . exact .inr (List.mem_singleton.mp z)
    rcases hb with ⟨rfl, rfl⟩ | ⟨M, vb, kb, rfl, hM, rM, rK, best⟩
    . show wpAny _ X.A.in1 (tryCatch (pyNext (.ref It)) _ >>= _) _ _ _
      refine go [] _ _ _ _ fun v h' tk' rv' J hit' hS' => ?_
      show wpAny _ X.A.in1 (tryCatch (holding [v] (call (.ref fq) [v])) _ >>= _) _ _ _
      refine wpAny_bind (wpAny_tryCatch (wpAny_holding (turn _ hn v _ _ _ J rv' fun y s2 ry J2 qu => ?_)))
      have hS2 := qu.fp fS hS'
      obtain ⟨oI, hoI, hoc, hod⟩ := hit'
      have hI2 := qu.fp fI hoI
      have s1 := Heap.SameBut.update s2.heap S (Obj.mapSeq fun _ => #[v, y])
      obtain ⟨c2, hc2⟩ : ∃ c2, (s2.heap.update S (Obj.mapSeq fun _ => #[v, y])).get? S = some (seqObj "list" #[v, y] c2) := ⟨_, get?_update_seq hS2 fun _ => #[v, y]⟩
      show wpAny _ X.A.in1 (updateSeq S (fun _ => #[v, y]) >>= _) _ _ _
      refine wpAny_bind (wpAny_updateSeq hS2 rfl ?_)
      rw [nm]
      refine wpAny_pure ⟨plainId_quiet F.plain_min_loop _, ih (0 + 1) _ [v, y] c2 (by omega) hlt (J2.fpTurn fS fun c o n e => (s1.2 c n).trans e) ⟨oI, (s1.2 It hIS).trans hI2, hoc, hod⟩ hc2 (.inr ⟨ns[0], v, y, rfl, hn, rv', ry, fun a ha => ?_⟩)⟩
      rcases tk1 a ha with z | z
      . simp at z
      . rw [z]; exact Int.le_refl _
    . show wpAny _ X.A.in1 (tryCatch (pyNext (.ref It)) _ >>= _) _ _ _
      refine go [] _ _ _ _ fun v h' tk' rv' J hit' hS' => ?_
      show wpAny _ X.A.in1 (tryCatch (holding [v] (call (.ref fq) [v])) _ >>= _) _ _ _
      refine wpAny_bind (wpAny_tryCatch (wpAny_holding (turn _ hn v _ _ _ J rv' fun y s2 ry J2 qu => ?_)))
      have hS2 := qu.fp fS hS'
      obtain ⟨oI, hoI, hoc, hod⟩ := hit'
      have hI2 := qu.fp fI hoI
      obtain ⟨t2, rfl⟩ := ry
      obtain ⟨tb, rfl⟩ := rK
      show wpAny _ X.A.in1 (tryCatch (holding [v, .int (g ns[j]) t2] (richCompare .Lt (.int (g ns[j]) t2) (.int (g M) tb) >>= _)) _ >>= _) _ _ _
      refine wpAny_bind (wpAny_tryCatch (wpAny_holding (wpAny_bind (CmpOf.ints_lt (prog := X.prog) (w := X.w) (A := X.A.in1) (P := fun i v => ∃ t, v = .int ([g ns[j], g M].getD i 0) t) (fun i => [g ns[j], g M].getD i 0) (fun i v h => h) 0 1 _ _ _ _ _ ⟨t2, rfl⟩ ⟨tb, rfl⟩ ?_))))
      refine wpAny_bind (wpAny_holding (wpAny_truthy_bool (wpAny_bind (wpAny_letGo (wpAny_pure ?_)))))
      have e01 : (fun i j_1 => decide ([g ns[j], g M].getD i 0 < [g ns[j], g M].getD j_1 0)) 0 1 = decide (g ns[j] < g M) := rfl
      rw [e01]
      by_cases hb' : g ns[j] < g M
      . have s1 := Heap.SameBut.update s2.heap S (Obj.mapSeq fun _ => #[v, .int (g ns[j]) t2])
        obtain ⟨c2, hc2⟩ : ∃ c2, (s2.heap.update S (Obj.mapSeq fun _ => #[v, .int (g ns[j]) t2])).get? S = some (seqObj "list" #[v, .int (g ns[j]) t2] c2) := ⟨_, get?_update_seq hS2 fun _ => #[v, .int (g ns[j]) t2]⟩
        simp only [hb', decide_true, if_true]
        refine wpAny_bind (wpAny_updateSeq hS2 rfl (wpAny_bind (wpAny_letGo ?_)))
        rw [nm]
        refine wpAny_pure ⟨plainId_quiet F.plain_min_loop _, ih (j + 1) _ [v, .int (g ns[j]) t2] c2 (by omega) hlt (J2.fpTurn fS fun c o n e => (s1.2 c n).trans e) ⟨oI, (s1.2 It hIS).trans hI2, hoc, hod⟩ hc2 (.inr ⟨ns[j], v, _, rfl, hn, rv', ⟨t2, rfl⟩, fun a ha => ?_⟩)⟩
        rcases tk1 a ha with z | z
        . have := best a z; omega
        . rw [z]; exact Int.le_refl _
      . simp only [hb', decide_false, Bool.false_eq_true, if_false]
        refine wpAny_bind (wpAny_letGo ?_)
        rw [nm]
        refine wpAny_pure ⟨plainId_quiet F.plain_min_loop _, ih (j + 1) _ [vb, .int (g M) tb] cn (by omega) hlt J2 ⟨oI, hI2, hoc, hod⟩ hS2 (.inr ⟨M, vb, _, rfl, hM, rM, ⟨tb, rfl⟩, fun a ha => ?_⟩)⟩
        rcases tk1 a ha with z | z
        . exact best a z
        . rw [z]; omega
theorem a8u {s : Shared} {Q : Value -> Shared -> Prop} {E : Value -> Shared -> Prop} (hc : X.calm = true) (I : Inv X pins σ H s) (hl : SqL X.K H l (ns.map V.int)) (turn : a7l X pins σ H fq ns g)
    (hN : ns = [] -> ∀ s', Inv X pins σ H s' -> Q .none s') (hR : ∀ M ∈ ns, (∀ a ∈ ns, g M <= g a) -> ∀ y s', RelV (.int M) y -> Inv X pins σ H s' -> Q y s') :
    wpAny (model X.prog X.w) X.A (call (.builtin "min") [.ref l] [("key", .ref fq), ("default", .none)]) Q E s := by
  have nm : (toString "min" ++ toString ".loop" : String) = "min.loop" := by decide
  have ha : argsOk "min" ⟨[.ref l], [("key", .ref fq), ("default", .none)]⟩ := by unfold argsOk; rfl
  obtain ⟨its, rv, pl, hz⟩ := I.list hl
  have hlt : l < s.heap.objs.size := by obtain ⟨_, e, _⟩ := pl.isList; exact Heap.lt_size e
  refine kmk_tree F.kind_min F.plain_min F.entry_min ha ?_
  show wpAny _ X.A.in1 (Builtin.Builtins.bindParams "min" ["key", "default"] 0 ⟨[], [("key", .ref fq), ("default", .none)]⟩ >>= _) _ _ s
  refine wpAny_bind (wpAny_of_eq (show Builtin.Builtins.bindParams "min" ["key", "default"] 0 ⟨[], [("key", .ref fq), ("default", .none)]⟩ = pure [some (.ref fq), some .none] from rfl) (wpAny_bind (wpAny_pure ?_)))
  refine wpAny_bind (wpAny_pyIter_list pl.isList (wpAny_bind (wpAny_newList ?_ (Nat.zero_le _))))
  rw [nm]
  have I1 := I.kept (h' := s.heap.push { cls := .type "list_iterator", data := .fields #[.ref l, .int 0 0] }) (t' := s.toks) fun b u e => Heap.get?_push_of_some _ e
  have I2 := I1.kept (h' := (s.heap.push { cls := .type "list_iterator", data := .fields #[.ref l, .int 0 0] }).push (seqObj "list" #[] 0)) (t' := s.toks) fun b u e => Heap.get?_push_of_some _ e
  have hS : (s.heap.push { cls := .type "list_iterator", data := .fields #[.ref l, .int 0 0] }).objs.size = s.heap.objs.size + 1 := size_push' ..
  have fI : Q7 X pins H s.heap.objs.size := I.fpOk (Nat.le_refl _) (I.hok.fresh (Nat.le_refl _))
  have fS : Q7 X pins H (s.heap.push { cls := .type "list_iterator", data := .fields #[.ref l, .int 0 0] }).objs.size := I.fpOk (by rw [hS]; omega) (I.hok.fresh (by rw [hS]; omega))
  refine wpAny_pure ⟨plainId_quiet F.plain_min_loop _, a8K hc hl turn fI fS (Nat.ne_of_lt (by rw [hS]; exact Nat.lt_succ_self _)) (Nat.ne_of_lt hlt) hN hR _ 0 _ [] 0 rfl (Nat.zero_le _) I2 ⟨_, Heap.get?_push_of_some _ (Heap.get?_push_size _ rfl), rfl, rfl⟩ (Heap.get?_push_size _ rfl) (.inl ⟨rfl, rfl⟩)⟩
end
end L2
namespace L2
open PySem PySem.Spec PyProof.Rows
theorem SqL.same1 {K : W.Frag} {P : Addr} {pos : Pos} {qual : Str} {H H' : Hp} {a : Addr} {xs : List V} (T : LamTab P pos qual H) (e : Same1 P H H') (h : SqL K H a xs) : SqL K H' a xs := by
  have ne : ∀ o, H a = some o -> (∀ ps, o ≠ .tbl ps) -> a ≠ P := fun o q n z => by
    subst z
    rcases T with t | ⟨c, t, _⟩
    . rw [q] at t; exact n _ (Option.some.inj t)
    . rw [q] at t; exact n _ (Option.some.inj t)
  rcases h with (h | ⟨o, h⟩) | h
  . exact .inl (.inl (e _ _ (ne _ h fun _ => nofun) h))
  . exact .inl (.inr ⟨o, e _ _ (ne _ h fun _ => nofun) h⟩)
  . exact .inr h
def a8v (K : W.Frag) (P : Addr) (lpos : Pos) (qual : Str) (fr : List Nat) (t : TA) (tb : TE) : TE := fun σ H Q => t σ H fun vs H1 => ∃ (l : Addr) (ns : List Int) (g : Int -> Int), vs = [.ref l] /\ SqL K H1 l (ns.map V.int) /\ LamTab P lpos qual H1 ∧
  ∀ H2, Same1 P H1 H2 -> LamTab P lpos qual H2 -> (∀ n ∈ ns, tb (some (.int n) :: frv fr σ) H2 fun y H' => y = .int (g n) /\ H' = H2) /\ (ns = [] -> Q .non H2) /\ ∀ M ∈ ns, (∀ a ∈ ns, g M <= g a) -> Q (.int M) H2
section
variable {X : Cx} {e body : Expr} {es : List Expr} {t : TA} {tb : TE} {fr : List Nat} {scope : Scope} {col : Str} {c P : Addr} {params : Arguments} {p pos lpos kp1 kp2 cp : Pos} {cj : Nat}
theorem a5F (hc : X.calm = true) (hr : Room 2 X.A) (hg : Gl X "min") (hm : X.mg "min" = none) (hcode : X.env.code = .ref c) (C : W.CodeHd X.base c P) (B : P0 X.mg X.base) (hlc : a0j X.env.scope scope X.N fr = true) (hk : scope.kind = .function)
    (hcell : ∀ x ∈ scope.names, x.2 ≠ .cell) (hcol : scope.names.lookup col = some .local) (hco : scope.isCoroutine = false) (hgen : scope.isGenerator = false)
    (hb : ∀ (pm ctv : Value) (c' : Addr) (u : Value), bindArgs (W.kla_fn "<lambda>" (X.env.qual ++ "<lambda>") params body scope (clo X.env scope.names []) pm (.ref c') ctv) ⟨[u], []⟩ = pure [(col, u)])
    (ha : PA X [e] t) (hbody : ∀ (f : Addr) (cd : Value) (s : Shared) (H : Hp), PE (a4u X col fr (X.env.qual ++ "<lambda>") scope f cd X.A.in1 s H) body tb) (hdef : defaultsOf params X.env = ([], []) := by rfl)
    (he : backTo pos (starEach [e] X.env) = (false, eval e X.env) :: backTo pos (starEach [] X.env) := by rfl) (hpl : (backTo pos (starEach [e] X.env)).any (·.1) = false := by rfl) :
    PE X (.Call (.Name "min" p) [e] [⟨some "key", .Lambda params body scope lpos, kp1⟩, ⟨some "default", .Constant .none cj cp, kp2⟩] pos) (a8v X.K P lpos (X.env.qual ++ "<lambda>") fr t tb) := by
  intro pins s σ H Q I h
  refine wpAny_Call_Name_kw (X5 I hg hm (u := .builtin "min") rfl ?_)
  refine PyProof.Rows.callWith_kw (C9 (ha pos pins s σ H _ I h) fun us s1 ⟨vs, H1, I1, r, l, ns, g, ev, hl, T, q⟩ => ?_) he hpl
  subst ev
  obtain ⟨u, rfl, ru⟩ := R3 r
  cases ru
  show wpAny _ _ (evalAll [(do let v <- eval (.Lambda params body scope lpos) X.env; standAt pos; pure v), (do let v <- eval (.Constant .none cj cp) X.env; standAt pos; pure v)]) _ _ s1
  refine wpAny_evalAll_cons (wpAny_bind (a6K I1 hcode C B T hlc hdef fun f c' ctv pm H2 s2 I2 T2 e2 Hc' _ => wpAny_bind (wpAny_standAt (wpAny_pure ?_))))
  refine wpAny_evalAll_cons (wpAny_bind (Constant_none (wpAny_bind (wpAny_standAt (wpAny_pure (wpAny_evalAll_nil ?_))))))
  obtain ⟨q1, q2, q3⟩ := q H2 e2 T2
  have hl2 := hl.same1 T e2
  have drop : ∀ {po : Addr × Obj} {s'}, Inv X (po :: pins) σ H2 s' -> Inv X pins σ H2 s' := fun J => J.pins_of fun p hp => J.pin p (List.mem_append_right _ (List.mem_cons_of_mem _ hp))
  have hd' : X.A.in1.depth < recursionLimit := by
    have z : X.A.in1.depth + 3 * 1 + 5 < recursionLimit := hr.in1.dp
    omega
  refine a8u (g := g) hc I2 hl2 (fun n hn u s3 Q3 E3 I3 ru k3 => ?_) (fun en s3 I3 => ⟨.non, H2, drop I3, rfl, q2 en⟩) fun M hM hmin y s3 ry I3 => ⟨.int M, H2, drop I3, ry, q3 M hM hmin⟩
  obtain ⟨cr, _, _⟩ := I3.hok c' _ Hc'
  exact a5Z (k := .int (g n)) I3 I3.ok.frames rfl hd' hk hlc hcell hcol hco hgen (I3.pin _ (List.mem_append_right _ List.mem_cons_self)).1 cr (hb pm ctv c') (hbody f (.ref c') s3 H2) ru (q1 n hn) k3
end
end L2
namespace L2
open PySem PySem.Spec PyProof.Rows
section
variable {X : Cx} {os : List Str} {fr : List Nat} {scope : Scope} {elt tg iter : Expr} {pos : Pos} {wi : TI} {g : TG} {te : TE}
theorem a9Q {c : Expr} {tc : TT} {i : Nat} {x : Str} {pos' spos : Pos} (os : List Str) (fr : List Nat) (hN : X.N.Nodup) (hi' : X.N[i]? = some x) (hx : X.env.scope.names.lookup x = some .local)
    (hc : X.calm = true) (hi : PI X tg iter wi) (hg : ∀ C fp s₀ H₀, PG (blk X os fr scope C fp s₀ H₀) tg g) (ht : ∀ C fp s₀ H₀, PT (blk X os fr scope C fp s₀ H₀) c tc) (he : ∀ C fp s₀ H₀, PE (blk X os fr scope C fp s₀ H₀) elt te)
    (hsw : swapsWith (.ListComp elt [⟨tg, iter, [c], 0⟩] scope pos) (some (.Name x pos')) spos.line X.env = pure true := by rfl)
    (hk : scope.kind = .function := by rfl) (hok : a0j X.env.scope scope X.N fr = true := by rfl) (hs : ∀ x, foldedSetIterable iter X.env x = pure x := by intro _; rfl) :
    PS X (.Assign [.Name x pos'] (.ListComp elt [⟨tg, iter, [c], 0⟩] scope pos) spos) (a5q (b2r os.length fr wi g tc te) (Q8 i)) := by
  intro pins s σ H D I h
  unfold a5q at h
  rw [exec_Assign_Name_used _ _ _ _ hsw]
  refine wpAny_bind (wpAny_standAt (wpAny_bind ?_))
  show wpAny _ X.A (do let _ <- comprehension (.ListComp elt [⟨tg, iter, [c], 0⟩] scope pos) scope X.env _ (newList []) false (eval iter X.env) (some (assign (.Name x pos') X.env))) _ _ s
  refine wpAny_bind (wpAny_mono (wpAny_comprehension_free (use := some (assign (.Name x pos') X.env)) (Q := fun _ s' => SP X pins D .next s') rfl hs (K1 (U5 I hok)) hk (fun x hx hl => by have := (O5 hok x hx).1; rw [hl] at this; exact this)
    (C9 (hi pins s σ H _ I h) fun v s1 h1 => C9 h1 fun itv s2 h2 => ?_)) (fun _ s' hq => wpAny_pure (wpAny_pure hq)) fun _ _ e => e)
  refine a1h (os := os) (D := fun p H' => D.nx (σ.set i (some (.ref p))) H') (RR := fun acc C => compPost (model X.prog X.w) X.A X.xe (some (assign (.Name x pos') X.env)) (fun _ s' => SP X pins D .next s') acc C) hc hg (fun _ _ _ _ => a6a (ht _ _ _ _)) he hk hok h2 ?_
  intro p C s3 H3 s' H' I3 eC hn I' ⟨m, hm⟩ q
  show wpAny _ X.A (assign (.Name x pos') X.env (.ref p)) _ _ _
  refine wpAny_assign_Name (a0k (v := .ref p) I' hN hi' (.inl hx) rfl (fun s'' I'' ⟨a, hsa, ha⟩ => ?_) (.inr hx))
  have hCa : C ≠ a := by
    rcases ha with e | e
    . rw [e]; exact Nat.ne_of_gt (by rw [<- eC]; exact I3.lt)
    . obtain ⟨v, z⟩ := I3.cell x a e
      exact Nat.ne_of_gt (by rw [<- eC]; exact z.lt)
  exact ⟨m, hm.sameBut hsa hCa, fun h' hs' => ⟨_, H', I3.letgo I'' hn (by omega) hs', q⟩⟩
theorem a2y (K : W.Frag) {e : Expr} {f : Str} {ta : TE} (h : X.K = K) (he : PE X e ta) (hb : attributeBase e f X.env (eval e X.env) = eval e X.env) : PE X (.Attribute e f pos) (b0Y K ta f) := by subst h; exact v9 he hb
end
section
variable {fr : List Nat} {tc : TT} {σ : St} {J : It} {H1 : Hp} {p : Addr} {D : Hp -> Prop} {xs : List V}
theorem a8a (hJ : a5t J H1 xs) (hp : H1 p = none) (hz : xs.length < sizeLine) (F : V -> Bool)
    (step : ∀ (i : Nat) x H (N : Bool -> Hp -> Prop), xs[i]? = some x -> Same H1 H -> N (F x) H -> tc ((blkσ 1 fr σ).set 0 (some x)) H N)
    (hd : D (upd H1 p (.lst (xs.filter F)))) : lcI 1 fr (Q8 0) tc (a8B 0) σ J H1 p D := by
  refine ⟨fun i m ys H => m = xs.length - i /\ i <= xs.length /\ ys = (xs.take i).filter F /\ H = upd H1 p (.lst ys), ⟨xs.length, by simp, Nat.zero_le _, by simp, rfl⟩, ?_⟩
  rintro i m ys H ⟨rfl, hi, rfl, rfl⟩
  have e := Same.new (o := .lst ((xs.take i).filter F)) hp
  by_cases hlt : i < xs.length
  . refine .inr ⟨hJ.go i _ e hlt, fun x H' y => ?_⟩
    obtain ⟨rfl, hx⟩ := hJ.yld i _ x H' e hlt y
    have tk : (xs.take (i + 1)).filter F = (xs.take i).filter F ++ [x].filter F := by rw [List.take_succ, hx, List.filter_append]; rfl
    refine ⟨Wk.set (by decide), step i x _ _ hx e ?_⟩
    cases hq : F x with
    | false =>
      rw [if_neg Bool.false_ne_true]
      refine ⟨xs.length - (i + 1), by omega, rfl, hlt, ?_, rfl⟩
      rw [tk]; simp [hq]
    | true =>
      rw [if_pos rfl]
      refine ⟨x, ?_, upd_same, ?_, xs.length - (i + 1), by omega, rfl, hlt, ?_, a0w⟩
      . show ((blkσ 1 fr σ).set 0 (some x))[0]? = some (some x)
        rw [List.getElem?_set_self (by simp [blkσ])]
      . have h1 := List.length_filter_le F (xs.take i)
        rw [List.length_take] at h1
        omega
      . rw [tk]; simp [hq]
  . have : i = xs.length := by omega
    subst this
    refine .inl ⟨hJ.stop _ e, ?_⟩
    rw [List.take_of_length_le (Nat.le_refl _)]; exact hd
end
section
variable {P : Program} {w : World} {K : W.Frag} {mg : Str -> Option Value} {base : Heap}
theorem Fun.okC {x qual : Str} {st : Stmt} {f c : Addr} {fd : FuncData} {N ps : List Str} {k : Nat} {sp : Sp} (F : Fun K x qual st f fd) (hc : fd.code = .ref c) (S : m6 N ps (i9 st)) (len : ∀ vs H Q E, sp vs H Q E -> vs.length = ps.length)
    (hbody : ∀ (A : Around) (outer : List Env) (s : Shared) (H : Hp) (vs : List V) (Q : VK) (E : XK), Room k (A.deeper (envOfC qual (i9 st) s.heap.objs.size f (.ref c))) -> sp vs H Q E →
      ∃ t, PSs (M1 G8 P w K mg base N qual (i9 st) f (.ref c) A outer s H E).nox (y4 st) t /\ t { nx := fun _ H' => Q .non H', rt := Q } (M2 N vs) H) : FnOk P w K mg base G8 (k + 1) f fd ps sp := by
  obtain ⟨oc, od, kV, doc, pm, an, cdv, ct, osl, rfl, lk, hcd⟩ := F.ex
  have e : cdv = .ref c := hc
  subst e
  refine a7v lk hcd S len fun A outer s H vs Q E hr hsp => ?_
  obtain ⟨t, h, q⟩ := hbody A outer s H vs Q E hr hsp
  exact ⟨t, h.nox, q⟩
end
end L2
namespace L2
open PySem
section
variable {xs ys : List V} {K : W.Frag} {l1 l2 : Addr} {fr : List Nat} {te : TE} {σ : St} {H1 : Hp} {p : Addr} {D : Hp -> Prop}
end
end L2
namespace L2
open PySem
theorem D4 {G0 : St -> Hp -> Prop} {σ : St} {H : Hp} (h : ∀ G : St -> Hp -> Prop, G = G0 -> G σ H) : G0 σ H := h G0 rfl
section
variable {X : Cx} {st : Stmt} {rest : List Stmt} {t u : TS}
def b2b (t u : TS) : TS := fun D σ H => ∃ M : St -> Hp -> Prop, t { D with nx := M } σ H /\ ∀ σ' H', M σ' H' -> u D σ' H'
theorem r9 (h1 : PS X st t) (h2 : PSs X rest u) : PSs X (st :: rest) (b2b t u) := by
  intro pins s σ H D I ⟨M, h, hM⟩
  refine wpAny_execs_cons (C9 (h1 pins s σ H { D with nx := M } I h) fun f s1 q => ?_)
  cases f with
  | next =>
    obtain ⟨σ', H', I', q⟩ := q
    exact h2 pins s1 σ' H' D I' (hM _ _ q)
  | ret v => exact q
  | brk => exact q
  | cont => exact q
end
end L2
namespace Rim
open PySem L2
theorem a0f (xs : List V) (k : Nat) (h : k <= xs.length) : A6 xs none (some (k : Int)) = xs.take k := by
  unfold A6
  rw [HT.sIx_none, HT.sIx_nat, List.drop_zero]
  congr 1
  omega
theorem Y3 (xs : List V) (k : Nat) (h : k <= xs.length) : A6 xs (some (k : Int)) none = xs.drop k := by
  unfold A6
  rw [HT.sIx_none, HT.sIx_nat, Nat.min_eq_left h]
  exact List.take_of_length_le (by rw [List.length_drop]; exact Nat.le_refl _)
end Rim
namespace L2
open PySem PySem.Spec PyProof.Rows
section
variable {X : Cx}
theorem a5v : M3 X (.type "range") (fun vs H Q => ∃ j : Int, vs = [.int j] /\ ∀ p, H p = none -> Q (.ref p) (upd H p (.rng 0 j))) := by
  intro pins s σ H vs us Q I r h
  obtain ⟨j, rfl, q⟩ := h
  obtain ⟨u, rfl, t, rfl⟩ := R3 r
  refine call_range_1 ⟨.ref s.heap.objs.size, _, I.laid (o := .rng 0 j) (fun b u e => Heap.get?_push_of_some _ e) (Nat.le_refl _) ⟨_, _, _, Heap.get?_push_size _ rfl⟩, rfl, q _ (I.hok.fresh (Nat.le_refl _))⟩
theorem a5X : M3 X (.type "range") (fun vs H Q => ∃ i j : Int, vs = [.int i, .int j] /\ ∀ p, H p = none -> Q (.ref p) (upd H p (.rng i j))) := by
  intro pins s σ H vs us Q I r h
  obtain ⟨i, j, rfl, q⟩ := h
  obtain ⟨u, v, rfl, ⟨t, rfl⟩, t', rfl⟩ := a1I r
  refine call_range_2 ⟨.ref s.heap.objs.size, _, I.laid (o := .rng i j) (fun b u e => Heap.get?_push_of_some _ e) (Nat.le_refl _) ⟨_, _, _, Heap.get?_push_size _ rfl⟩, rfl, q _ (I.hok.fresh (Nat.le_refl _))⟩
theorem a0H : ∀ (n : Nat) (acc : List Value) (F : Nat -> Int), acc.length = n -> (∀ j v, acc[j]? = some v -> ∃ t, v = Value.int (F j) t) -> Vals ((List.range n).map fun i => V.int (F i)) acc
  | 0, [], _, _, _ => .nil
  | n + 1, a :: acc, F, hl, h => by
    rw [List.range_succ_eq_map, List.map_cons, List.map_map]
    refine .cons (h 0 a rfl) ?_
    exact a0H n acc (fun i => F (i + 1)) (by simpa using hl) fun j v e => h (j + 1) v (by simpa using e)
theorem W3 (hc : X.calm = true) : M3 X (.type "list") (fun vs H Q => ∃ (p : Addr) (lo : Int) (n : Nat), vs = [.ref p] /\ H p = some (.rng lo (lo + n)) /\ -(2 ^ 60) <= lo /\ lo < 2 ^ 60 /\ n <= 1000 /\ ∀ l, H l = none -> Q (.ref l) (upd H l (.lst ((List.range n).map fun (i : Nat) => V.int (lo + (i : Int)))))) := by
  intro pins s σ H vs us Q I r h
  obtain ⟨p, lo, n, rfl, hp, h1, h2, hn, q⟩ := h
  obtain ⟨u, rfl, ru⟩ := R3 r
  cases ru
  obtain ⟨t, u, v, e⟩ := I.hok p _ hp
  have hsz : Builtin.Range.rangeSize lo (lo + n) 1 = n := by rw [rangeSize_one]; split <;> omega
  refine call_list_range (I.ok.hd hc) e (small_one (by omega) (by omega) (by omega) (by omega)) hsz (by omega) fun h' tk acc' c' hk hS hacc => ?_
  have hv : Vals ((List.range n).map fun (i : Nat) => V.int (lo + (i : Int))) acc'.toList := a0H n acc'.toList (fun i => lo + (i : Int)) (by simpa using hacc.1) fun j v e => by
    obtain ⟨t, et⟩ := hacc.2 j v (by simpa using e)
    exact ⟨t, by rw [et, Int.mul_one]⟩
  have h9 : n <= sizeLine := Nat.le_trans hn (by decide)
  refine ⟨.ref s.heap.objs.size, _, I.laid (o := .lst ((List.range n).map fun (i : Nat) => V.int (lo + (i : Int)))) (t' := tk) hk (Nat.le_refl _) ⟨by simpa using h9, acc'.toList, c', hv, by simpa using hS⟩, rfl, q _ (I.hok.fresh (Nat.le_refl _))⟩
end
end L2
namespace Lp
abbrev C8 := Nat -> Int
def tl (v : C8) : C8 := fun i => v (i + 1)
def P1 (a : Int) (u : C8) (b : Int) (v : C8) : C8 := fun i => a * u i + b * v i
def K9 (D : List C8 -> Int) : List C8 -> List C8 -> Int
  | _, [] => 0
  | pre, c :: rest => c 0 * D ((pre ++ rest).map tl) - K9 D (pre ++ [c]) rest
def C2 : Nat -> List C8 -> Int
  | 0, _ => 1
  | n + 1, cols => K9 (C2 n) [] cols
def Lin (n : Nat) (D : List C8 -> Int) : Prop := ∀ (a : Int) (u : C8) (b : Int) (v : C8) (xs ys : List C8), xs.length + ys.length + 1 = n -> D (xs ++ P1 a u b v :: ys) = a * D (xs ++ u :: ys) + b * D (xs ++ v :: ys)
theorem a4Z (a : Int) (u : C8) (b : Int) (v : C8) : tl (P1 a u b v) = P1 a (tl u) b (tl v) := rfl
theorem b1a (a b x y p q : Int) (c : Int) : c * (a * x + b * y) - (a * p + b * q) = a * (c * x - p) + b * (c * y - q) := by
  rw [Int.mul_add, Int.mul_sub, Int.mul_sub]
  have e1 : c * (a * x) = a * (c * x) := by rw [<- Int.mul_assoc, Int.mul_comm c a, Int.mul_assoc]
  have e2 : c * (b * y) = b * (c * y) := by rw [<- Int.mul_assoc, Int.mul_comm c b, Int.mul_assoc]
  rw [e1, e2]
  lia
theorem a5a {n : Nat} {D : List C8 -> Int} (h : Lin n D) (a : Int) (u : C8) (b : Int) (v : C8) : ∀ (rest p1 p2 : List C8), p1.length + p2.length + rest.length = n →
    K9 D (p1 ++ P1 a u b v :: p2) rest = a * K9 D (p1 ++ u :: p2) rest + b * K9 D (p1 ++ v :: p2) rest
  | [], p1, p2, _ => by simp [K9]
  | c :: rest, p1, p2, hl => by
    have hl' : p1.length + p2.length + (rest.length + 1) = n := hl
    have ih := a5a h a u b v rest p1 (p2 ++ [c]) (by rw [List.length_append, List.length_singleton]; lia)
    have h0 := h a (tl u) b (tl v) (p1.map tl) ((p2 ++ rest).map tl) (by rw [List.length_map, List.length_map, List.length_append]; lia)
    unfold K9
    simp only [List.append_assoc, List.cons_append, List.map_append, List.map_cons, a4Z] at h0 ih ⊢
    rw [h0, ih]
    exact b1a ..
theorem b1X (a b x y p q D : Int) : (a * x + b * y) * D - (a * p + b * q) = a * (x * D - p) + b * (y * D - q) := by
  rw [Int.add_mul, Int.mul_sub, Int.mul_sub, Int.mul_assoc, Int.mul_assoc]
  lia
theorem a3j {n : Nat} {D : List C8 -> Int} (h : Lin n D) (a : Int) (u : C8) (b : Int) (v : C8) : ∀ (r1 pre r2 : List C8), pre.length + r1.length + r2.length = n →
    K9 D pre (r1 ++ P1 a u b v :: r2) = a * K9 D pre (r1 ++ u :: r2) + b * K9 D pre (r1 ++ v :: r2)
  | [], pre, r2, hl => by
    have hp := a5a h a u b v r2 pre [] (by simp only [List.length_nil] at hl ⊢; lia)
    simp only [List.nil_append]
    unfold K9
    rw [hp]
    exact b1X ..
  | c :: r1, pre, r2, hl => by
    have hl' : pre.length + (r1.length + 1) + r2.length = n := hl
    have ih := a3j h a u b v r1 (pre ++ [c]) r2 (by rw [List.length_append, List.length_singleton]; lia)
    have h0 := h a (tl u) b (tl v) ((pre ++ r1).map tl) (r2.map tl) (by rw [List.length_map, List.length_map, List.length_append]; lia)
    simp only [List.cons_append]
    unfold K9
    simp only [List.append_assoc, List.cons_append, List.map_append, List.map_cons, a4Z] at h0 ih ⊢
    rw [h0, ih]
    exact b1a ..
theorem a2z : ∀ n, Lin n (C2 n)
  | 0 => fun a u b v xs ys h => by lia
  | n + 1 => fun a u b v xs ys h => a3j (a2z n) a u b v xs [] ys (by simp only [List.length_nil]; lia)
def Adj (n : Nat) (D : List C8 -> Int) : Prop := ∀ (u : C8) (xs ys : List C8), xs.length + ys.length + 2 = n -> D (xs ++ u :: u :: ys) = 0
theorem a4k {n : Nat} {D : List C8 -> Int} (h : Adj n D) (u : C8) : ∀ (rest p1 p2 : List C8), p1.length + p2.length + rest.length + 1 = n -> K9 D (p1 ++ u :: u :: p2) rest = 0
  | [], _, _, _ => rfl
  | c :: rest, p1, p2, hl => by
    have hl' : p1.length + p2.length + (rest.length + 1) + 1 = n := hl
    have ih := a4k h u rest p1 (p2 ++ [c]) (by rw [List.length_append, List.length_singleton]; lia)
    have h0 := h (tl u) (p1.map tl) ((p2 ++ rest).map tl) (by rw [List.length_map, List.length_map, List.length_append]; lia)
    unfold K9
    simp only [List.append_assoc, List.cons_append, List.map_append, List.map_cons] at h0 ih ⊢
    rw [h0, ih]
    lia
theorem a2U {n : Nat} {D : List C8 -> Int} (h : Adj n D) (u : C8) : ∀ (r1 pre r2 : List C8), pre.length + r1.length + r2.length + 1 = n -> K9 D pre (r1 ++ u :: u :: r2) = 0
  | [], pre, r2, hl => by
    have hp := a4k h u r2 pre [] (by simp only [List.length_nil] at hl ⊢; lia)
    simp only [List.nil_append]
    unfold K9
    unfold K9
    simp only [List.append_assoc, List.cons_append, List.nil_append] at hp ⊢
    rw [hp]
    lia
  | c :: r1, pre, r2, hl => by
    have hl' : pre.length + (r1.length + 1) + r2.length + 1 = n := hl
    have ih := a2U h u r1 (pre ++ [c]) r2 (by rw [List.length_append, List.length_singleton]; lia)
    have h0 := h (tl u) ((pre ++ r1).map tl) (r2.map tl) (by rw [List.length_map, List.length_map, List.length_append]; lia)
    simp only [List.cons_append]
    unfold K9
    simp only [List.append_assoc, List.cons_append, List.map_append, List.map_cons] at h0 ih ⊢
    rw [h0, ih]
    lia
theorem a1W : ∀ n, Adj n (C2 n)
  | 0 => fun u xs ys h => by lia
  | n + 1 => fun u xs ys h => a2U (a1W n) u xs [] ys (by simp only [List.length_nil]; lia)
def O2 (k : Nat) : C8 := fun i => if i = k then 1 else 0
theorem a6B {D : List C8 -> Int} : ∀ (rest pre : List C8), (∀ c ∈ rest, c 0 = 0) -> K9 D pre rest = 0
  | [], _, _ => rfl
  | c :: rest, pre, h => by
    unfold K9
    rw [h c List.mem_cons_self, a6B rest (pre ++ [c]) fun x hx => h x (List.mem_cons_of_mem _ hx)]
    lia
theorem Y0 : ∀ n, C2 n ((List.range n).map O2) = 1
  | 0 => rfl
  | n + 1 => by
    show K9 (C2 n) [] ((List.range (n + 1)).map O2) = 1
    rw [List.range_succ_eq_map, List.map_cons, List.map_map]
    unfold K9
    rw [a6B _ _ (fun c hc => by
      obtain ⟨k, _, rfl⟩ := List.mem_map.mp hc
      rfl)]
    have e : ([] ++ (List.range n).map (O2 ∘ Nat.succ)).map tl = (List.range n).map O2 := by
      rw [List.nil_append, List.map_map]
      refine List.map_congr_left fun k _ => ?_
      funext i
      show (if i + 1 = k + 1 then (1 : Int) else 0) = if i = k then 1 else 0
      by_cases c : i = k
      . rw [if_pos (by lia), if_pos c]
      . rw [if_neg (by lia), if_neg c]
    rw [e, Y0 n]
    rfl
def bnd (M : Nat) : Nat -> Nat
  | 0 => 1
  | n + 1 => (n + 1) * (M * bnd M n)
def Fits (M n : Nat) (v : C8) : Prop := ∀ i, i < n -> (v i).natAbs <= M
theorem a4a {D : List C8 -> Int} {M n B : Nat} (hD : ∀ cols, cols.length = n -> (∀ c ∈ cols, Fits M n c) -> (D cols).natAbs <= B) : ∀ (rest pre : List C8), pre.length + rest.length = n + 1 -> (∀ c ∈ pre, Fits M (n + 1) c) -> (∀ c ∈ rest, Fits M (n + 1) c) -> (K9 D pre rest).natAbs <= rest.length * (M * B)
  | [], _, _, _, _ => by simp [K9]
  | c :: rest, pre, hl, hp, hr => by
    have hl' : pre.length + (rest.length + 1) = n + 1 := hl
    have h1 := a4a hD rest (pre ++ [c]) (by rw [List.length_append, List.length_singleton]; lia) (fun x hx => (List.mem_append.mp hx).elim (hp x) fun z => by rw [List.mem_singleton.mp z]; exact hr c List.mem_cons_self) fun x hx => hr x (List.mem_cons_of_mem _ hx)
    have h2 := hD ((pre ++ rest).map tl) (by rw [List.length_map, List.length_append]; lia) fun x hx => by
      obtain ⟨y, hy, rfl⟩ := List.mem_map.mp hx
      intro i hi
      rcases List.mem_append.mp hy with z | z
      . exact hp y z (i + 1) (by lia)
      . exact hr y (List.mem_cons_of_mem _ z) (i + 1) (by lia)
    have h3 := hr c List.mem_cons_self 0 (by lia)
    unfold K9
    rw [List.length_cons, Nat.succ_mul]
    have h4 : (c 0 * D ((pre ++ rest).map tl)).natAbs <= M * B := by rw [Int.natAbs_mul]; exact Nat.mul_le_mul h3 h2
    have h5 := Int.natAbs_sub_le (c 0 * D ((pre ++ rest).map tl)) (K9 D (pre ++ [c]) rest)
    lia
theorem a2n {M : Nat} : ∀ (n : Nat) (cols : List C8), cols.length = n -> (∀ c ∈ cols, Fits M n c) -> (C2 n cols).natAbs <= bnd M n
  | 0, _, _, _ => Nat.le_refl 1
  | n + 1, cols, hl, hf => by
    have := a4a (a2n (M := M) n) cols [] (by simpa using hl) (fun c hc => by cases hc) hf
    rw [hl] at this
    exact this
end Lp
namespace Lp
theorem a2H {α : Type} {C : List α} {i : Nat} {u : α} (h : C[i]? = some u) : C = C.take i ++ u :: C.drop (i + 1) := by
  obtain ⟨hi, rfl⟩ := List.getElem?_eq_some_iff.mp h
  rw [<- List.drop_eq_getElem_cons hi, List.take_append_drop]
theorem a7g (n : Nat) (u v : C8) (xs ys : List C8) (hl : xs.length + ys.length + 2 = n) : C2 n (xs ++ u :: v :: ys) = - C2 n (xs ++ v :: u :: ys) := by
  have L := a2z n
  have A := a1W n
  have h0 := A (P1 1 u 1 v) xs ys hl
  have h1 := L 1 u 1 v xs (P1 1 u 1 v :: ys) (by simp only [List.length_cons]; lia)
  have h2 := L 1 u 1 v (xs ++ [u]) ys (by simp only [List.length_append, List.length_singleton]; lia)
  have h3 := L 1 u 1 v (xs ++ [v]) ys (by simp only [List.length_append, List.length_singleton]; lia)
  have h4 := A u xs ys hl
  have h5 := A v xs ys hl
  simp only [List.append_assoc, List.cons_append, List.nil_append] at h2 h3
  lia
theorem a4z (n : Nat) (u : C8) : ∀ (zs xs ys : List C8), xs.length + zs.length + ys.length + 2 = n -> C2 n (xs ++ u :: (zs ++ u :: ys)) = 0
  | [], xs, ys, hl => a1W n u xs ys (by simp only [List.length_nil] at hl; lia)
  | z :: zs, xs, ys, hl => by
    have hl' : xs.length + (zs.length + 1) + ys.length + 2 = n := hl
    rw [List.cons_append, a7g n u z xs (zs ++ u :: ys) (by simp only [List.length_append, List.length_cons]; lia)]
    have := a4z n u zs (xs ++ [z]) ys (by rw [List.length_append, List.length_singleton]; lia)
    simp only [List.append_assoc, List.cons_append, List.nil_append] at this
    lia
theorem a4e {n : Nat} {C : List C8} {i k : Nat} {u : C8} (hl : C.length = n) (hik : i < k) (h1 : C[i]? = some u) (h2 : C[k]? = some u) : C2 n C = 0 := by
  have e1 := a2H h1
  have hk : k < C.length := (List.getElem?_eq_some_iff.mp h2).1
  have h3 : (C.drop (i + 1))[k - (i + 1)]? = some u := by rw [List.getElem?_drop, show i + 1 + (k - (i + 1)) = k by lia]; exact h2
  have e2 := a2H h3
  rw [e1, e2]
  refine a4z n u _ _ _ ?_
  simp only [List.length_take, List.length_drop]
  lia
theorem T6 {n : Nat} {C : List C8} {i k : Nat} {u : C8} (hl : C.length = n) (hik : i ≠ k) (h1 : C[i]? = some u) (h2 : C[k]? = some u) : C2 n C = 0 := by
  rcases Nat.lt_or_gt_of_ne hik with h | h
  . exact a4e hl h h1 h2
  . exact a4e hl h h2 h1
theorem Z5 {α : Type} {C : List α} {k : Nat} (h : k < C.length) (u : α) : C.set k u = C.take k ++ u :: C.drop (k + 1) := by
  rw [List.set_eq_take_append_cons_drop, if_pos h]
theorem P8 {n : Nat} {C : List C8} {k : Nat} (hl : C.length = n) (hk : k < n) (a : Int) (u : C8) (b : Int) (v : C8) : C2 n (C.set k (P1 a u b v)) = a * C2 n (C.set k u) + b * C2 n (C.set k v) := by
  have hk' : k < C.length := by lia
  rw [Z5 hk', Z5 hk', Z5 hk']
  refine a2z n a u b v _ _ ?_
  simp only [List.length_take, List.length_drop]
  lia
theorem a2w {n : Nat} {C : List C8} {i k : Nat} (hl : C.length = n) (hi : i < n) (hk : k < n) (hik : i ≠ k) (u : C8) : C2 n ((C.set i u).set k u) = 0 := by
  refine T6 (i := i) (k := k) (u := u) (by rw [List.length_set, List.length_set]; exact hl) hik ?_ ?_
  . rw [List.getElem?_set_ne (Ne.symm hik), List.getElem?_set_self (by lia)]
  . rw [List.getElem?_set_self (by rw [List.length_set]; lia)]
theorem a3g {n : Nat} {C : List C8} {i k : Nat} (hl : C.length = n) (hi : i < n) (hk : k < n) (hik : i ≠ k) (u v : C8) : C2 n ((C.set i u).set k v) = - C2 n ((C.set i v).set k u) := by
  have h0 := a2w hl hi hk hik (P1 1 u 1 v)
  have h1 := P8 (C := C.set i (P1 1 u 1 v)) (by rw [List.length_set]; exact hl) hk 1 u 1 v
  have h2 := P8 (C := C.set k u) (by rw [List.length_set]; exact hl) hi 1 u 1 v
  have h3 := P8 (C := C.set k v) (by rw [List.length_set]; exact hl) hi 1 u 1 v
  have h4 := a2w hl hi hk hik u
  have h5 := a2w hl hi hk hik v
  rw [List.set_comm _ _ (Ne.symm hik), List.set_comm _ _ (Ne.symm hik), List.set_comm _ _ (Ne.symm hik)] at h2 h3
  lia
def sumTo (g : Nat -> Int) : Nat -> Int
  | 0 => 0
  | n + 1 => sumTo g n + g n
theorem sum_congr {g h : Nat -> Int} : ∀ {n : Nat}, (∀ k, k < n -> g k = h k) -> sumTo g n = sumTo h n
  | 0, _ => rfl
  | n + 1, e => by
    show sumTo g n + g n = sumTo h n + h n
    rw [sum_congr fun k hk => e k (by lia), e n (by lia)]
theorem sum_zero {g : Nat -> Int} {n : Nat} (h : ∀ k, k < n -> g k = 0) : sumTo g n = 0 := by
  induction n with
  | zero => rfl
  | succ n ih =>
    show sumTo g n + g n = 0
    rw [ih fun k hk => h k (by lia), h n (by lia)]
    rfl
theorem sum_one {g : Nat -> Int} {n r : Nat} (hr : r < n) (h : ∀ k, k < n -> k ≠ r -> g k = 0) : sumTo g n = g r := by
  induction n with
  | zero => lia
  | succ n ih =>
    show sumTo g n + g n = g r
    by_cases c : r = n
    . subst c
      rw [sum_zero fun k hk => h k (by lia) (by lia)]
      lia
    . rw [ih (by lia) fun k hk hn => h k (by lia) hn, h n (by lia) (by lia)]
      lia
theorem N9 {g h : Nat -> Int} : ∀ n : Nat, sumTo (fun k => g k + h k) n = sumTo g n + sumTo h n
  | 0 => rfl
  | n + 1 => by
    show sumTo (fun k => g k + h k) n + (g n + h n) = sumTo g n + g n + (sumTo h n + h n)
    rw [N9 n]
    lia
theorem C6 {g : Nat -> Int} (a : Int) : ∀ n : Nat, sumTo (fun k => a * g k) n = a * sumTo g n
  | 0 => (Int.mul_zero a).symm
  | n + 1 => by
    show sumTo (fun k => a * g k) n + a * g n = a * (sumTo g n + g n)
    rw [C6 a n, Int.mul_add]
theorem a7X {g : Nat -> Int} {n r i : Nat} (hr : r < n) (hi : i < n) (hne : r ≠ i) (h : ∀ k, k < n -> k ≠ r -> k ≠ i -> g k = 0) : sumTo g n = g r + g i := by
  have e : sumTo g n = sumTo (fun k => (if k = r then g k else 0) + (if k = i then g k else 0)) n := sum_congr fun k hk => by
    by_cases c1 : k = r
    . rw [if_pos c1, if_neg (by lia)]; lia
    . by_cases c2 : k = i
      . rw [if_neg c1, if_pos c2]; lia
      . rw [if_neg c1, if_neg c2, h k hk c1 c2]; lia
  rw [e, N9, sum_one hr fun k _ hn => if_neg hn, sum_one hi fun k _ hn => if_neg hn, if_pos rfl, if_pos rfl]
theorem a0z {n : Nat} {C : List C8} {k : Nat} (hl : C.length = n) (hk : k < n) (t : Nat -> Int) (W : Nat -> C8) : ∀ m : Nat, C2 n (C.set k (fun x => sumTo (fun j => t j * W j x) m)) = sumTo (fun j => t j * C2 n (C.set k (W j))) m
  | 0 => by
    have h := P8 hl hk 0 (fun _ => 0) 0 (fun _ => 0)
    have e : P1 0 (fun _ => 0) 0 (fun _ => 0) = (fun x : Nat => sumTo (fun j => t j * W j x) 0) := by funext x; simp [P1, sumTo]
    rw [e] at h
    rw [h]
    simp [sumTo]
  | m + 1 => by
    have h := P8 hl hk 1 (fun x => sumTo (fun j => t j * W j x) m) (t m) (W m)
    have e : P1 1 (fun x => sumTo (fun j => t j * W j x) m) (t m) (W m) = (fun x : Nat => sumTo (fun j => t j * W j x) (m + 1)) := by funext x; simp [P1, sumTo]
    rw [e, a0z hl hk t W m] at h
    rw [h]
    show 1 * sumTo _ m + _ = sumTo _ m + _
    rw [Int.one_mul]
def zv : C8 := fun _ => 0
def a2O (n : Nat) (B : List C8) (u : C8) : Prop := ∀ x, C2 n B * u x = sumTo (fun k => C2 n (B.set k u) * (B.getD k zv) x) n
theorem a1T {B : List C8} {k : Nat} (h : k < B.length) : B[k]? = some (B.getD k zv) := by rw [List.getD_eq_getElem?_getD, List.getElem?_eq_getElem h]; rfl
theorem N0 {B : List C8} {k : Nat} (h : k < B.length) : B.set k (B.getD k zv) = B := by
  have e : B.getD k zv = B[k] := by rw [List.getD_eq_getElem?_getD, List.getElem?_eq_getElem h]; rfl
  rw [e, List.set_getElem_self]
theorem plu {n : Nat} {B : List C8} {r i : Nat} (hl : B.length = n) (hr : r < n) (hi : i < n) (hne : i ≠ r) {u : C8} (v : C8) (hc : a2O n B u) :
    C2 n B * C2 n ((B.set r u).set i v) = C2 n (B.set r u) * C2 n (B.set i v) - C2 n (B.set i u) * C2 n (B.set r v) := by
  have hl' : (B.set i v).length = n := by rw [List.length_set]; exact hl
  have e1 : C2 n ((B.set i v).set r (P1 (C2 n B) u 0 u)) = C2 n B * C2 n ((B.set i v).set r u) := by
    rw [P8 hl' hr]; lia
  have e2 : P1 (C2 n B) u 0 u = (fun x : Nat => sumTo (fun k => C2 n (B.set k u) * (B.getD k zv) x) n) := by
    funext x
    rw [<- hc x]
    unfold P1
    lia
  rw [e2, a0z hl' hr (fun k => C2 n (B.set k u)) (fun k => B.getD k zv) n] at e1
  rw [List.set_comm _ _ (Ne.symm hne), <- e1]
  rw [a7X hr hi (Ne.symm hne) fun k hk n1 n2 => ?_]
  . have a1 : (B.set i v).set r (B.getD r zv) = B.set i v := by rw [List.set_comm _ _ hne, N0 (by lia)]
    have a2 : C2 n ((B.set i v).set r (B.getD i zv)) = - C2 n (B.set r v) := by
      rw [a3g hl hi hr hne, N0 (by lia)]
    show C2 n (B.set r u) * C2 n ((B.set i v).set r (B.getD r zv)) + C2 n (B.set i u) * C2 n ((B.set i v).set r (B.getD i zv)) = _
    rw [a1, a2, Int.mul_neg]
    lia
  . have : C2 n ((B.set i v).set r (B.getD k zv)) = 0 := by
      refine T6 (i := k) (k := r) (u := B.getD k zv) (by rw [List.length_set, List.length_set]; exact hl) n1 ?_ ?_
      . rw [List.getElem?_set_ne (Ne.symm n1), List.getElem?_set_ne (Ne.symm n2)]; exact a1T (by lia)
      . rw [List.getElem?_set_self (by rw [List.length_set]; lia)]
    show C2 n (B.set k u) * C2 n ((B.set i v).set r (B.getD k zv)) = 0
    rw [this, Int.mul_zero]
theorem a9W {d a b : Int} (hd : d ≠ 0) (h : d * a = d * b) : a = b := Int.eq_of_mul_eq_mul_left hd h
theorem a1H {n : Nat} {B : List C8} {r : Nat} (hl : B.length = n) (hr : r < n) {u v : C8} (hd : C2 n B ≠ 0) (hu : a2O n B u) (hv : a2O n B v) : a2O n (B.set r u) v := by
  intro x
  refine a9W hd ?_
  have e : ∀ k, k < n -> C2 n B * (C2 n ((B.set r u).set k v) * ((B.set r u).getD k zv) x) =
      C2 n (B.set r u) * (C2 n (B.set k v) * (B.getD k zv) x) + (if k = r then C2 n B * (C2 n (B.set r v) * u x) else 0) - C2 n (B.set r v) * (C2 n (B.set k u) * (B.getD k zv) x) := fun k hk => by
    by_cases c : k = r
    . subst c
      rw [if_pos rfl, List.set_set]
      have g : (B.set k u).getD k zv = u := by rw [List.getD_eq_getElem?_getD, List.getElem?_set_self (by lia)]; rfl
      rw [g]
      have : C2 n (B.set k u) * (C2 n (B.set k v) * B.getD k zv x) = C2 n (B.set k v) * (C2 n (B.set k u) * B.getD k zv x) := by rw [<- Int.mul_assoc, <- Int.mul_assoc, Int.mul_comm (C2 n (B.set k u))]
      lia
    . rw [if_neg c]
      have g : (B.set r u).getD k zv = B.getD k zv := by rw [List.getD_eq_getElem?_getD, List.getElem?_set_ne (Ne.symm c), <- List.getD_eq_getElem?_getD]
      rw [g, <- Int.mul_assoc, plu hl hr hk c v hu, Int.sub_mul, Int.mul_assoc, Int.mul_assoc]
      have : C2 n (B.set k u) * (C2 n (B.set r v) * B.getD k zv x) = C2 n (B.set r v) * (C2 n (B.set k u) * B.getD k zv x) := by rw [<- Int.mul_assoc, <- Int.mul_assoc, Int.mul_comm (C2 n (B.set k u))]
      lia
  have s1 : C2 n B * sumTo (fun k => C2 n ((B.set r u).set k v) * ((B.set r u).getD k zv) x) n =
      sumTo (fun k => C2 n (B.set r u) * (C2 n (B.set k v) * (B.getD k zv) x) + (if k = r then C2 n B * (C2 n (B.set r v) * u x) else 0) + (- C2 n (B.set r v)) * (C2 n (B.set k u) * (B.getD k zv) x)) n := by
    rw [<- C6]
    refine sum_congr fun k hk => ?_
    rw [e k hk, Int.neg_mul]
    lia
  rw [s1, N9, N9, C6, C6, <- hv x, <- hu x, sum_one hr fun k _ hn => if_neg hn, if_pos rfl, Int.neg_mul]
  have a1 : C2 n B * (C2 n (B.set r u) * v x) = C2 n (B.set r u) * (C2 n B * v x) := by rw [<- Int.mul_assoc, <- Int.mul_assoc, Int.mul_comm (C2 n B)]
  have a2 : C2 n B * (C2 n (B.set r v) * u x) = C2 n (B.set r v) * (C2 n B * u x) := by rw [<- Int.mul_assoc, <- Int.mul_assoc, Int.mul_comm (C2 n B)]
  lia
theorem a5w {n : Nat} {B : List C8} {r : Nat} (hl : B.length = n) (hr : r < n) : a2O n B (B.getD r zv) := by
  intro x
  rw [sum_one hr fun k hk hn => ?_]
  . rw [N0 (by lia)]
  . have : C2 n (B.set k (B.getD r zv)) = 0 := by
      refine T6 (i := r) (k := k) (u := B.getD r zv) (by rw [List.length_set]; exact hl) (Ne.symm hn) ?_ ?_
      . rw [List.getElem?_set_ne hn]; exact a1T (by lia)
      . rw [List.getElem?_set_self (by lia)]
    rw [this, Int.zero_mul]
theorem b0W {n : Nat} {B : List C8} (hl : B.length = n) (hd : C2 n B ≠ 0) {t : Nat -> Int} (h : ∀ x, sumTo (fun k => t k * (B.getD k zv) x) n = 0) {i : Nat} (hi : i < n) : t i = 0 := by
  have h1 := a0z (C := B) hl hi t (fun k => B.getD k zv) n
  have e : (fun x : Nat => sumTo (fun k => t k * (B.getD k zv) x) n) = zv := by funext x; rw [h x]; rfl
  rw [e] at h1
  have h0 : C2 n (B.set i zv) = 0 := by
    have := P8 hl hi 0 zv 0 zv
    have e : P1 0 zv 0 zv = zv := by funext x; simp [P1, zv]
    rw [e] at this
    lia
  rw [h0, sum_one hi fun k hk hn => ?_, N0 (by lia)] at h1
  . exact (Int.mul_eq_zero.mp h1.symm).resolve_right hd
  . have : C2 n (B.set i (B.getD k zv)) = 0 := by
      refine T6 (i := k) (k := i) (u := B.getD k zv) (by rw [List.length_set]; exact hl) hn ?_ ?_
      . rw [List.getElem?_set_ne (Ne.symm hn)]; exact a1T (by lia)
      . rw [List.getElem?_set_self (by lia)]
    rw [this, Int.mul_zero]
end Lp
namespace Lp
structure Bo where
  d : Int
  T : Nat -> Nat -> Int
  ins : Nat -> Nat
  outs : Nat -> Nat
def U6 (g : Nat -> Nat) (k v : Nat) : Nat -> Nat := fun i => if i = k then v else g i
theorem x8 {g : Nat -> Nat} {k v : Nat} : U6 g k v k = v := if_pos rfl
theorem A2 {g : Nat -> Nat} {k v i : Nat} (h : i ≠ k) : U6 g k v i = g i := if_neg h
def piv (S : Bo) (r c : Nat) : Bo where
  d := S.T r c
  T := fun i j => if i = r then (if j = c then S.d else S.T r j) else (if j = c then - S.T i c else (S.T i j * S.T r c - S.T i c * S.T r j) / S.d)
  ins := U6 S.ins r (S.outs c)
  outs := U6 S.outs c (S.ins r)
def Bs (m : Nat) (V : Nat -> C8) (ins : Nat -> Nat) : List C8 := (List.range (m + 1)).map fun i => V (ins i)
theorem Z3 (m : Nat) (V : Nat -> C8) (ins : Nat -> Nat) : (Bs m V ins).length = m + 1 := by unfold Bs; rw [List.length_map, List.length_range]
theorem a4p {m : Nat} {V : Nat -> C8} {ins : Nat -> Nat} {i : Nat} (h : i < m + 1) : (Bs m V ins).getD i zv = V (ins i) := by
  unfold Bs
  rw [List.getD_eq_getElem?_getD, List.getElem?_map, List.getElem?_range h]
  rfl
theorem a7o {m : Nat} {V : Nat -> C8} {ins : Nat -> Nat} {r v : Nat} (h : r < m + 1) : Bs m V (U6 ins r v) = (Bs m V ins).set r (V v) := by
  refine List.ext_getElem? fun i => ?_
  unfold Bs
  by_cases c : i = r
  . subst c
    rw [List.getElem?_set_self (by rw [List.length_map, List.length_range]; exact h), List.getElem?_map, List.getElem?_range h]
    show some (V (U6 ins i v i)) = _
    rw [x8]
  . rw [List.getElem?_set_ne (Ne.symm c), List.getElem?_map, List.getElem?_map]
    by_cases hi : i < m + 1
    . rw [List.getElem?_range hi]
      show some (V (U6 ins r v i)) = some (V (ins i))
      rw [A2 c]
    . rw [List.getElem?_eq_none (by rw [List.length_range]; lia)]
      rfl
structure Wf (m q : Nat) (V : Nat -> C8) (S : Bo) : Prop where
  hd : S.d = C2 (m + 1) (Bs m V S.ins)
  hT : ∀ i j, i < m + 1 -> j < q + 1 -> S.T i j = C2 (m + 1) ((Bs m V S.ins).set i (V (S.outs j)))
  cr : ∀ j, j < q + 1 -> a2O (m + 1) (Bs m V S.ins) (V (S.outs j))
  pos : 0 < S.d
  feas : ∀ i, i < m -> 0 <= S.T i q
  im : S.ins m = q + m
  oq : S.outs q = q + m + 1
  ib : ∀ i, i < m -> S.ins i < q + m
  ob : ∀ j, j < q -> S.outs j < q + m
  ii : ∀ i k, i < m -> k < m -> S.ins i = S.ins k -> i = k
  oo : ∀ j k, j < q -> k < q -> S.outs j = S.outs k -> j = k
  io : ∀ i j, i < m -> j < q -> S.ins i ≠ S.outs j
  all : ∀ v, v < q + m -> (∃ i, i < m /\ S.ins i = v) \/ (∃ j, j < q /\ S.outs j = v)
section
variable {m q : Nat} {V : Nat -> C8} {S : Bo}
theorem Wf.exact (W : Wf m q V S) {r c i j : Nat} (hr : r < m) (hc : c < q) (hi : i < m + 1) (hj : j < q + 1) (hne : i ≠ r) :
    S.T i j * S.T r c - S.T i c * S.T r j = S.d * C2 (m + 1) (((Bs m V S.ins).set r (V (S.outs c))).set i (V (S.outs j))) := by
  have h := plu (Z3 m V S.ins) (show r < m + 1 by lia) hi hne (V (S.outs j)) (W.cr c (by lia))
  rw [W.hd, h, W.hT i j hi hj, W.hT r c (by lia) (by lia), W.hT i c hi (by lia), W.hT r j (by lia) hj]
  rw [Int.mul_comm (C2 (m + 1) ((Bs m V S.ins).set i (V (S.outs j))))]
theorem Wf.pivT (W : Wf m q V S) {r c i j : Nat} (hr : r < m) (hc : c < q) (hi : i < m + 1) (hj : j < q + 1) : (piv S r c).T i j = C2 (m + 1) ((Bs m V (piv S r c).ins).set i (V ((piv S r c).outs j))) := by
  have hl := Z3 m V S.ins
  show (if i = r then (if j = c then S.d else S.T r j) else (if j = c then - S.T i c else (S.T i j * S.T r c - S.T i c * S.T r j) / S.d)) = C2 (m + 1) ((Bs m V (U6 S.ins r (S.outs c))).set i (V (U6 S.outs c (S.ins r) j)))
  rw [a7o (by lia)]
  by_cases c1 : i = r
  . subst c1
    rw [if_pos rfl, List.set_set]
    by_cases c2 : j = c
    . subst c2
      rw [if_pos rfl, x8, W.hd, <- a4p (V := V) (ins := S.ins) hi, N0 (by lia)]
    . rw [if_neg c2, A2 c2]
      exact W.hT i j hi hj
  . rw [if_neg c1]
    by_cases c2 : j = c
    . subst c2
      rw [if_pos rfl, x8, a3g hl (by lia) hi (Ne.symm c1), <- a4p (V := V) (ins := S.ins) (show r < m + 1 by lia), N0 (by lia), W.hT i j hi hj]
    . rw [if_neg c2, A2 c2, W.exact hr hc hi hj c1]
      exact Int.mul_ediv_cancel_left _ (by have := W.pos; lia)
theorem Wf.mulT (W : Wf m q V S) {r c i j : Nat} (hr : r < m) (hc : c < q) (hi : i < m + 1) (hj : j < q + 1) (hne : i ≠ r) (hjc : j ≠ c) : S.d * (piv S r c).T i j = S.T i j * S.T r c - S.T i c * S.T r j := by
  have e := W.pivT hr hc hi hj
  have h := W.exact hr hc hi hj hne
  have e2 : Bs m V (piv S r c).ins = (Bs m V S.ins).set r (V (S.outs c)) := a7o (by lia)
  have e3 : (piv S r c).outs j = S.outs j := A2 hjc
  rw [e2, e3] at e
  rw [h, e]
theorem Wf.pivot (W : Wf m q V S) {r c : Nat} (hr : r < m) (hc : c < q) (hp : 0 < S.T r c) (hq : ∀ i, i < m -> 0 < S.T i c -> S.T r q * S.T i c <= S.T i q * S.T r c) : Wf m q V (piv S r c) := by
  have hl := Z3 m V S.ins
  have hd0 : C2 (m + 1) (Bs m V S.ins) ≠ 0 := by have := W.pos; rw [W.hd] at this; lia
  have hB : Bs m V (piv S r c).ins = (Bs m V S.ins).set r (V (S.outs c)) := a7o (by lia)
  refine ⟨?_, fun i j hi hj => W.pivT hr hc hi hj, fun j hj => ?_, hp, fun i hi => ?_, ?_, ?_, fun i hi => ?_, fun j hj => ?_, fun i k hi hk e => ?_, fun j k hj hk e => ?_, fun i j hi hj e => ?_, fun v hv => ?_⟩
  . rw [hB]; exact W.hT r c (by lia) (by lia)
  . rw [hB]
    by_cases c2 : j = c
    . subst c2
      show a2O _ _ (V (U6 S.outs j (S.ins r) j))
      rw [x8]
      have h := a5w hl (show r < m + 1 by lia)
      rw [a4p (by lia)] at h
      exact a1H hl (by lia) hd0 (W.cr j hj) h
    . show a2O _ _ (V (U6 S.outs c (S.ins r) j))
      rw [A2 c2]
      exact a1H hl (by lia) hd0 (W.cr c (by lia)) (W.cr j hj)
  . by_cases c1 : i = r
    . subst c1
      show 0 <= (if i = i then (if q = c then S.d else S.T i q) else _)
      rw [if_pos rfl, if_neg (by lia)]
      exact W.feas i hi
    . have e := W.mulT hr hc (show i < m + 1 by lia) (show q < q + 1 by lia) c1 (show q ≠ c by lia)
      have f1 := W.feas i hi
      have f2 := W.feas r hr
      have hpos := W.pos
      have nn : 0 <= S.T i q * S.T r c - S.T i c * S.T r q := by
        have a1 : 0 <= S.T i q * S.T r c := Int.mul_nonneg f1 (Int.le_of_lt hp)
        by_cases z : 0 < S.T i c
        . have := hq i hi z
          rw [Int.mul_comm (S.T i c)]
          lia
        . have a2 : 0 <= - (S.T i c) * S.T r q := Int.mul_nonneg (by lia) f2
          rw [Int.neg_mul] at a2
          lia
      rw [<- e] at nn
      by_cases z : 0 <= (piv S r c).T i q
      . exact z
      . have := Int.mul_pos hpos (show 0 < - (piv S r c).T i q by lia)
        rw [Int.mul_neg] at this
        lia
  . show U6 S.ins r (S.outs c) m = q + m
    rw [A2 (by lia)]; exact W.im
  . show U6 S.outs c (S.ins r) q = q + m + 1
    rw [A2 (by lia)]; exact W.oq
  . show U6 S.ins r (S.outs c) i < q + m
    by_cases c1 : i = r
    . rw [c1, x8]; exact W.ob c hc
    . rw [A2 c1]; exact W.ib i hi
  . show U6 S.outs c (S.ins r) j < q + m
    by_cases c1 : j = c
    . rw [c1, x8]; exact W.ib r hr
    . rw [A2 c1]; exact W.ob j hj
  . replace e : U6 S.ins r (S.outs c) i = U6 S.ins r (S.outs c) k := e
    by_cases c1 : i = r
    . by_cases c2 : k = r
      . lia
      . rw [c1, x8, A2 c2] at e
        exact absurd e.symm (W.io k c hk hc)
    . by_cases c2 : k = r
      . rw [c2, x8, A2 c1] at e
        exact absurd e (W.io i c hi hc)
      . rw [A2 c1, A2 c2] at e
        exact W.ii i k hi hk e
  . replace e : U6 S.outs c (S.ins r) j = U6 S.outs c (S.ins r) k := e
    by_cases c1 : j = c
    . by_cases c2 : k = c
      . lia
      . rw [c1, x8, A2 c2] at e
        exact absurd e (W.io r k hr hk)
    . by_cases c2 : k = c
      . rw [c2, x8, A2 c1] at e
        exact absurd e.symm (W.io r j hr hj)
      . rw [A2 c1, A2 c2] at e
        exact W.oo j k hj hk e
  . replace e : U6 S.ins r (S.outs c) i = U6 S.outs c (S.ins r) j := e
    by_cases c1 : i = r
    . by_cases c2 : j = c
      . rw [c1, c2, x8, x8] at e
        exact absurd e.symm (W.io r c hr hc)
      . rw [c1, x8, A2 c2] at e
        exact c2 (W.oo c j hc hj e).symm
    . by_cases c2 : j = c
      . rw [c2, x8, A2 c1] at e
        exact c1 (W.ii i r hi hr e)
      . rw [A2 c1, A2 c2] at e
        exact W.io i j hi hj e
  . show (∃ i, i < m /\ U6 S.ins r (S.outs c) i = v) \/ (∃ j, j < q /\ U6 S.outs c (S.ins r) j = v)
    rcases W.all v hv with ⟨i, hi, e⟩ | ⟨j, hj, e⟩
    . by_cases c1 : i = r
      . exact .inr ⟨c, hc, by rw [x8, <- c1]; exact e⟩
      . exact .inl ⟨i, hi, by rw [A2 c1]; exact e⟩
    . by_cases c1 : j = c
      . exact .inl ⟨r, hr, by rw [x8, <- c1]; exact e⟩
      . exact .inr ⟨j, hj, by rw [A2 c1]; exact e⟩
def Ker (m q : Nat) (V : Nat -> C8) (S : Bo) (z : Nat -> Int) : Prop := ∀ x, sumTo (fun k => z (S.ins k) * V (S.ins k) x) (m + 1) + sumTo (fun j => z (S.outs j) * V (S.outs j) x) (q + 1) = 0
theorem a4U {g h : Nat -> Int} {n r : Nat} (hr : r < n) (e : ∀ k, k < n -> k ≠ r -> g k = h k) : sumTo g n = sumTo h n + (g r - h r) := by
  have e1 : sumTo g n = sumTo (fun k => h k + (if k = r then g k - h k else 0)) n := sum_congr fun k hk => by
    by_cases c : k = r
    . rw [if_pos c]; lia
    . rw [if_neg c, e k hk c]; lia
  rw [e1, N9, sum_one hr fun k _ hn => if_neg hn, if_pos rfl]
theorem Ker.piv {r c : Nat} (hr : r < m) (hc : c < q) {z : Nat -> Int} : Ker m q V (piv S r c) z ↔ Ker m q V S z := by
  have e : ∀ x, sumTo (fun k => z ((Lp.piv S r c).ins k) * V ((Lp.piv S r c).ins k) x) (m + 1) + sumTo (fun j => z ((Lp.piv S r c).outs j) * V ((Lp.piv S r c).outs j) x) (q + 1)
      = sumTo (fun k => z (S.ins k) * V (S.ins k) x) (m + 1) + sumTo (fun j => z (S.outs j) * V (S.outs j) x) (q + 1) := fun x => by
    have h1 := a4U (g := fun k => z ((Lp.piv S r c).ins k) * V ((Lp.piv S r c).ins k) x) (h := fun k => z (S.ins k) * V (S.ins k) x) (n := m + 1) (r := r) (by lia) fun k hk hn => by
      show z (U6 S.ins r (S.outs c) k) * V (U6 S.ins r (S.outs c) k) x = _
      rw [A2 hn]
    have h2 := a4U (g := fun j => z ((Lp.piv S r c).outs j) * V ((Lp.piv S r c).outs j) x) (h := fun j => z (S.outs j) * V (S.outs j) x) (n := q + 1) (r := c) (by lia) fun k hk hn => by
      show z (U6 S.outs c (S.ins r) k) * V (U6 S.outs c (S.ins r) k) x = _
      rw [A2 hn]
    rw [h1, h2]
    show _ + (z (U6 S.ins r (S.outs c) r) * V (U6 S.ins r (S.outs c) r) x - _) + (_ + (z (U6 S.outs c (S.ins r) c) * V (U6 S.outs c (S.ins r) c) x - _)) = _
    rw [x8, x8]
    lia
  exact ⟨fun h x => (e x).symm.trans (h x), fun h x => (e x).trans (h x)⟩
def a0L (q : Nat) (S : Bo) (z : Nat -> Int) (i : Nat) : Int := S.d * z (S.ins i) + sumTo (fun j => S.T i j * z (S.outs j)) (q + 1)
theorem Y1 {g : Nat -> Nat -> Int} (n : Nat) : ∀ k : Nat, sumTo (fun i => sumTo (fun j => g i j) k) n = sumTo (fun j => sumTo (fun i => g i j) n) k
  | 0 => sum_zero fun _ _ => rfl
  | k + 1 => by
    show sumTo (fun i => sumTo (fun j => g i j) k + g i k) n = sumTo (fun j => sumTo (fun i => g i j) n) k + sumTo (fun i => g i k) n
    rw [N9, Y1 n k]
theorem Wf.rows (W : Wf m q V S) (z : Nat -> Int) (x : Nat) : S.d * (sumTo (fun k => z (S.ins k) * V (S.ins k) x) (m + 1) + sumTo (fun j => z (S.outs j) * V (S.outs j) x) (q + 1)) = sumTo (fun k => a0L q S z k * ((Bs m V S.ins).getD k zv) x) (m + 1) := by
  have e1 : S.d * sumTo (fun j => z (S.outs j) * V (S.outs j) x) (q + 1) = sumTo (fun k => sumTo (fun j => S.T k j * z (S.outs j)) (q + 1) * ((Bs m V S.ins).getD k zv) x) (m + 1) := by
    rw [<- C6]
    have h1 : ∀ j, j < q + 1 -> S.d * (z (S.outs j) * V (S.outs j) x) = sumTo (fun k => S.T k j * z (S.outs j) * ((Bs m V S.ins).getD k zv) x) (m + 1) := fun j hj => by
      have h := W.cr j hj x
      rw [<- W.hd] at h
      rw [Int.mul_comm (z (S.outs j)), <- Int.mul_assoc, h, Int.mul_comm, <- C6]
      refine sum_congr fun k hk => ?_
      rw [W.hT k j hk hj, <- Int.mul_assoc, Int.mul_comm (z (S.outs j))]
    rw [sum_congr h1, <- Y1]
    refine sum_congr fun k hk => ?_
    rw [Int.mul_comm (sumTo _ _), <- C6]
    exact sum_congr fun j _ => Int.mul_comm _ _
  rw [Int.mul_add, e1, <- C6, <- N9]
  refine sum_congr fun k hk => ?_
  show _ = (S.d * z (S.ins k) + _) * _
  rw [Int.add_mul, a4p hk, Int.mul_assoc]
theorem Wf.row_of (W : Wf m q V S) {z : Nat -> Int} (h : Ker m q V S z) {i : Nat} (hi : i < m + 1) : a0L q S z i = 0 := by
  refine b0W (Z3 m V S.ins) (by have := W.pos; rw [W.hd] at this; lia) (fun x => ?_) hi
  rw [<- W.rows z x, h x, Int.mul_zero]
theorem Wf.ker_of (W : Wf m q V S) {z : Nat -> Int} (h : ∀ i, i < m + 1 -> a0L q S z i = 0) : Ker m q V S z := fun x => by
  have e := W.rows z x
  have e0 : sumTo (fun k => a0L q S z k * ((Bs m V S.ins).getD k zv) x) (m + 1) = 0 := sum_zero fun k hk => by rw [h k hk, Int.zero_mul]
  rw [e0] at e
  exact (Int.mul_eq_zero.mp e).resolve_left (by have := W.pos; lia)
end
end Lp
namespace Lp
structure Choice (m q : Nat) (S : Bo) (r c : Nat) : Prop where
  hc : c < q
  neg : S.T m c < 0
  minc : ∀ j, j < q -> S.T m j < 0 -> S.outs c <= S.outs j
  hr : r < m
  pos : 0 < S.T r c
  ratio : ∀ i, i < m -> 0 < S.T i c -> S.T r q * S.T i c <= S.T i q * S.T r c
  tie : ∀ i, i < m -> 0 < S.T i c -> S.T r q * S.T i c = S.T i q * S.T r c -> S.ins r <= S.ins i
theorem a4J {g : Nat -> Int} : ∀ {n : Nat}, sumTo g n < 0 -> ∃ k, k < n /\ g k < 0
  | 0, h => absurd h (by show ¬ (0 : Int) < 0; lia)
  | n + 1, h => by
    have h' : sumTo g n + g n < 0 := h
    by_cases c : g n < 0
    . exact ⟨n, by lia, c⟩
    . obtain ⟨k, hk, hg⟩ := a4J (g := g) (n := n) (by lia)
      exact ⟨k, by lia, hg⟩
section
variable {m q : Nat} {V : Nat -> C8} {S S' : Bo}
theorem Wf.inj (W : Wf m q V S) {i k : Nat} (hi : i < m + 1) (hk : k < m + 1) (e : S.ins i = S.ins k) : i = k := by
  by_cases c1 : i = m
  . by_cases c2 : k = m
    . lia
    . have := W.ib k (by lia)
      rw [c1, W.im] at e
      lia
  . by_cases c2 : k = m
    . have := W.ib i (by lia)
      rw [c2, W.im] at e
      lia
    . exact W.ii i k (by lia) (by lia) e
theorem Wf.apart (W : Wf m q V S) {i j : Nat} (hi : i < m + 1) (hj : j < q + 1) : S.ins i ≠ S.outs j := by
  intro e
  have hI : S.ins i <= q + m := by
    by_cases c1 : i = m
    . rw [c1, W.im]; exact Nat.le_refl _
    . have := W.ib i (by lia); lia
  by_cases c2 : j = q
  . rw [c2, W.oq] at e; lia
  . have := W.ob j (by lia)
    by_cases c1 : i = m
    . rw [c1, W.im] at e; lia
    . exact W.io i j (by lia) (by lia) e
theorem Wf.injo (W : Wf m q V S) {j k : Nat} (hj : j < q + 1) (hk : k < q + 1) (e : S.outs j = S.outs k) : j = k := by
  by_cases c1 : j = q
  . by_cases c2 : k = q
    . lia
    . have := W.ob k (by lia)
      rw [c1, W.oq] at e
      lia
  . by_cases c2 : k = q
    . have := W.ob j (by lia)
      rw [c2, W.oq] at e
      lia
    . exact W.oo j k (by lia) (by lia) e
def ray (m : Nat) (S : Bo) (c : Nat) (v : Nat) : Int := if v = S.outs c then S.d else sumTo (fun i => if S.ins i = v then - S.T i c else 0) (m + 1)
theorem Wf.ray_in (W : Wf m q V S) {c k : Nat} (hc : c < q + 1) (hk : k < m + 1) : ray m S c (S.ins k) = - S.T k c := by
  unfold ray
  rw [if_neg (W.apart hk hc), sum_one hk fun i hi hn => if_neg fun e => hn (W.inj hi hk e), if_pos rfl]
theorem Wf.ray_out (W : Wf m q V S) {c j : Nat} (hc : c < q + 1) (hj : j < q + 1) (hn : j ≠ c) : ray m S c (S.outs j) = 0 := by
  unfold ray
  rw [if_neg fun e => hn (W.injo hj hc e)]
  exact sum_zero fun i hi => if_neg (W.apart hi hj)
theorem Wf.ray_c {c : Nat} : ray m S c (S.outs c) = S.d := if_pos rfl
theorem Wf.ray_ker (W : Wf m q V S) {c : Nat} (hc : c < q + 1) : Ker m q V S (ray m S c) := W.ker_of fun i hi => by
  unfold a0L
  rw [W.ray_in hc hi, sum_one hc fun j hj hn => by rw [W.ray_out hc hj hn, Int.mul_zero], Wf.ray_c, Int.mul_neg, Int.mul_comm]
  lia
theorem a9i (W : Wf m q V S) (W' : Wf m q V S') (hk : ∀ z, Ker m q V S z -> Ker m q V S' z) {r c r' c' : Nat} (C : Choice m q S r c) (C' : Choice m q S' r' c') (ht : S.ins r = S'.outs c') (hst : S.outs c < S.ins r)
    (stat : ∀ v, S.ins r < v -> (∃ i, i < m /\ S.ins i = v) -> ∃ i, i < m /\ S'.ins i = v) (zero : ∀ k j, k < m -> j < q -> S.ins k = S'.outs j -> S.T k q = 0) : False := by
  have hc1 : c < q + 1 := by have := C.hc; lia
  have R := W'.row_of (hk _ (W.ray_ker hc1)) (show m < m + 1 by lia)
  have zobj : ray m S c (S'.ins m) = - S.T m c := by rw [W'.im, <- W.im]; exact W.ray_in hc1 (by lia)
  have zcon : ray m S c (S'.outs q) = 0 := by rw [W'.oq, <- W.oq]; exact W.ray_out hc1 (by lia) (by have := C.hc; lia)
  unfold a0L at R
  replace R : S'.d * ray m S c (S'.ins m) + (sumTo (fun j => S'.T m j * ray m S c (S'.outs j)) q + S'.T m q * ray m S c (S'.outs q)) = 0 := R
  rw [zobj, zcon, Int.mul_zero, Int.mul_neg] at R
  have hneg : 0 < S'.d * (- S.T m c) := Int.mul_pos W'.pos (by have := C.neg; lia)
  rw [Int.mul_neg] at hneg
  obtain ⟨j, hj, hg⟩ := a4J (g := fun j => S'.T m j * ray m S c (S'.outs j)) (n := q) (by lia)
  replace hg : S'.T m j * ray m S c (S'.outs j) < 0 := hg
  rcases W.all (S'.outs j) (W'.ob j hj) with ⟨k, hk1, e⟩ | ⟨j2, hj2, e⟩
  . rw [<- e, W.ray_in hc1 (by lia)] at hg
    rcases Nat.lt_trichotomy (S'.outs j) (S.ins r) with h | h | h
    . have h1 : 0 <= S'.T m j := by
        by_cases z : S'.T m j < 0
        . have := C'.minc j hj z
          lia
        . lia
      have h2 : 0 < S.T k c := by
        by_cases z : 0 < S.T k c
        . exact z
        . have := Int.mul_nonneg h1 (show 0 <= - S.T k c by lia)
          lia
      have h3 := zero k j hk1 hj e
      have h4 := C.ratio k hk1 h2
      rw [h3, Int.zero_mul] at h4
      have h5 : 0 <= S.T r q * S.T k c := Int.mul_nonneg (W.feas r C.hr) (Int.le_of_lt h2)
      have h6 := C.tie k hk1 h2 (by rw [h3, Int.zero_mul]; omega)
      lia
    . have e1 : j = c' := W'.oo j c' hj C'.hc (by rw [h, ht])
      have e2 : k = r := W.ii k r hk1 C.hr (by rw [e, h])
      rw [e1, e2] at hg
      have := Int.mul_pos (show 0 < - S'.T m c' by have := C'.neg; lia) C.pos
      rw [Int.neg_mul] at this
      rw [Int.mul_neg] at hg
      lia
    . obtain ⟨i, hi, e3⟩ := stat _ h ⟨k, hk1, e⟩
      exact W'.io i j hi hj e3
  . by_cases c2 : j2 = c
    . rw [<- e, c2, Wf.ray_c] at hg
      have h1 : S'.T m j < 0 := by
        by_cases z : S'.T m j < 0
        . exact z
        . have := Int.mul_nonneg (show 0 <= S'.T m j by lia) (Int.le_of_lt W.pos)
          lia
      have := C'.minc j hj h1
      rw [c2] at e
      lia
    . rw [<- e, W.ray_out hc1 (by lia) c2, Int.mul_zero] at hg
      lia
def Zr (m q : Nat) (S : Bo) (v : Nat) : Prop := ∀ i, i < m -> S.ins i = v -> S.T i q = 0
def Bas (m : Nat) (S : Bo) (v : Nat) : Prop := ∃ i, i < m /\ S.ins i = v
theorem Bas.piv (W : Wf m q V S) {r c v : Nat} (hr : r < m) (hc : c < q) (h1 : v ≠ S.ins r) (h2 : v ≠ S.outs c) : Bas m (Lp.piv S r c) v ↔ Bas m S v := by
  constructor
  . rintro ⟨i, hi, e⟩
    replace e : U6 S.ins r (S.outs c) i = v := e
    by_cases z : i = r
    . rw [z, x8] at e; exact absurd e.symm h2
    . rw [A2 z] at e; exact ⟨i, hi, e⟩
  . rintro ⟨i, hi, e⟩
    have z : i ≠ r := fun z => h1 (by rw [<- e, z])
    exact ⟨i, hi, (A2 z).trans e⟩
theorem Zr.piv (W : Wf m q V S) {r c : Nat} (C : Choice m q S r c) (h0 : S.T r q = 0) (v : Nat) : Zr m q (Lp.piv S r c) v ↔ Zr m q S v := by
  have key : ∀ i, i < m -> i ≠ r -> ((Lp.piv S r c).T i q = 0 ↔ S.T i q = 0) := fun i hi hn => by
    have e := W.mulT C.hr C.hc (show i < m + 1 by lia) (show q < q + 1 by lia) hn (show q ≠ c by have := C.hc; lia)
    rw [h0, Int.mul_zero, Int.sub_zero] at e
    constructor
    . intro z
      rw [z, Int.mul_zero] at e
      exact (Int.mul_eq_zero.mp e.symm).resolve_right (by have := C.pos; lia)
    . intro z
      rw [z, Int.zero_mul] at e
      exact (Int.mul_eq_zero.mp e).resolve_left (by have := W.pos; lia)
  have kr : (Lp.piv S r c).T r q = 0 := by
    show (if r = r then (if q = c then S.d else S.T r q) else _) = 0
    rw [if_pos rfl, if_neg (by have := C.hc; lia)]; exact h0
  constructor
  . intro h i hi e
    by_cases z : i = r
    . rw [z]; exact h0
    . exact (key i hi z).mp (h i hi ((A2 z).trans e))
  . intro h i hi e
    by_cases z : i = r
    . rw [z]; exact kr
    . exact (key i hi z).mpr (h i hi ((A2 z).symm.trans e))
end
structure Seq (m q : Nat) (V : Nat -> C8) (S : Nat -> Bo) (R C : Nat -> Nat) : Prop where
  w : Wf m q V (S 0)
  ch : ∀ k, Choice m q (S k) (R k) (C k)
  st : ∀ k, S (k + 1) = piv (S k) (R k) (C k)
section
variable {m q : Nat} {V : Nat -> C8} {S : Nat -> Bo} {R C : Nat -> Nat}
theorem Seq.wf (Q : Seq m q V S R C) : ∀ k, Wf m q V (S k)
  | 0 => Q.w
  | k + 1 => by rw [Q.st k]; exact (Q.wf k).pivot (Q.ch k).hr (Q.ch k).hc (Q.ch k).pos (Q.ch k).ratio
theorem Seq.ker (Q : Seq m q V S R C) (z : Nat -> Int) (a : Nat) : ∀ n, Ker m q V (S (a + n)) z ↔ Ker m q V (S a) z
  | 0 => Iff.rfl
  | n + 1 => by
    show Ker m q V (S (a + n + 1)) z ↔ _
    rw [Q.st, Ker.piv (Q.ch _).hr (Q.ch _).hc]
    exact Q.ker z a n
def Dg (q : Nat) (S : Nat -> Bo) (R : Nat -> Nat) (k : Nat) : Prop := (S k).T (R k) q = 0
theorem Seq.zr (Q : Seq m q V S R C) (v a : Nat) : ∀ n, (∀ k, a <= k -> k < a + n -> Dg q S R k) -> (Zr m q (S (a + n)) v ↔ Zr m q (S a) v)
  | 0, _ => Iff.rfl
  | n + 1, h => by
    show Zr m q (S (a + n + 1)) v ↔ _
    rw [Q.st, Zr.piv (Q.wf _) (Q.ch _) (h (a + n) (by lia) (by lia))]
    exact Q.zr v a n fun k h1 h2 => h k h1 (by lia)
def a2K (S : Nat -> Bo) (R C : Nat -> Nat) (k v : Nat) : Prop := v = (S k).ins (R k) \/ v = (S k).outs (C k)
theorem Seq.bas (Q : Seq m q V S R C) (v a : Nat) : ∀ n, (∀ k, a <= k -> k < a + n -> ¬ a2K S R C k v) -> (Bas m (S (a + n)) v ↔ Bas m (S a) v)
  | 0, _ => Iff.rfl
  | n + 1, h => by
    have hp := h (a + n) (by lia) (by lia)
    show Bas m (S (a + n + 1)) v ↔ _
    rw [Q.st, Bas.piv (Q.wf _) (Q.ch _).hr (Q.ch _).hc (fun z => hp (.inl z)) fun z => hp (.inr z)]
    exact Q.bas v a n fun k h1 h2 => h k h1 (by lia)
theorem Seq.once (Q : Seq m q V S R C) {a b t : Nat} (hd : ∀ k, a <= k -> k < b -> Dg q S R k) (ht : ∀ k, a <= k -> k < b -> ∀ v, a2K S R C k v -> v <= t) : ∀ (g k0 k1 : Nat), k1 = k0 + 1 + g -> a <= k0 -> k1 < b -> a2K S R C k0 t -> a2K S R C k1 t -> False := by
  intro g
  induction g using Nat.strongRecOn with
  | _ g ih =>
    intro k0 k1 hk ha hb p0 p1
    by_cases hm : ∃ k, k0 < k /\ k < k1 /\ a2K S R C k t
    . obtain ⟨k, h1, h2, h3⟩ := hm
      exact ih (k - k0 - 1) (by lia) k0 k (by lia) ha (by lia) p0 h3
    have W0 := Q.wf k0
    have W1 := Q.wf k1
    have C0 := Q.ch k0
    have C1 := Q.ch k1
    have bmid : Bas m (S k1) t ↔ Bas m (S (k0 + 1)) t := by
      have := Q.bas t (k0 + 1) g fun k h1 h2 => fun z => hm ⟨k, by lia, by lia, z⟩
      rw [show k0 + 1 + g = k1 by lia] at this
      exact this
    have stat : ∀ v, t < v -> (Bas m (S k1) v ↔ Bas m (S k0) v) := fun v hv => by
      have := Q.bas v k0 (g + 1) fun k h1 h2 => fun z => by have := ht k (by lia) (by lia) v z; lia
      rw [show k0 + (g + 1) = k1 by lia] at this
      exact this
    have ker : ∀ z, Ker m q V (S k1) z ↔ Ker m q V (S k0) z := fun z => by
      have := Q.ker z k0 (g + 1)
      rw [show k0 + (g + 1) = k1 by lia] at this
      exact this
    have zrr : ∀ v, Zr m q (S k1) v ↔ Zr m q (S k0) v := fun v => by
      have := Q.zr v k0 (g + 1) fun k h1 h2 => hd k (by lia) (by lia)
      rw [show k0 + (g + 1) = k1 by lia] at this
      exact this
    rcases p0 with e0 | e0
    . -- it goes out at k0, so it comes in at k1
      have nb : ¬ Bas m (S (k0 + 1)) t := by
        rintro ⟨i, hi, e⟩
        rw [Q.st k0] at e
        replace e : U6 (S k0).ins (R k0) ((S k0).outs (C k0)) i = t := e
        by_cases z : i = R k0
        . rw [z, x8, e0] at e
          exact W0.io _ _ C0.hr C0.hc e.symm
        . rw [A2 z, e0] at e
          exact z (W0.ii i (R k0) hi C0.hr e)
      rcases p1 with e1 | e1
      . exact nb (bmid.mp ⟨_, C1.hr, e1.symm⟩)
      . have hst : (S k0).outs (C k0) < (S k0).ins (R k0) := by
          have h1 := ht k0 ha (by lia) _ (.inr rfl)
          rw [e0] at h1
          have := W0.io (R k0) (C k0) C0.hr C0.hc
          lia
        refine a9i W0 W1 (fun z h => (ker z).mpr h) C0 C1 (by rw [<- e0, <- e1]) hst (fun v hv hb' => (stat v (by rw [e0]; exact hv)).mpr hb') fun k j hk1 hj e => ?_
        refine ((zrr ((S k0).ins k)).mp fun i hi e2 => ?_) k hk1 rfl
        rw [e] at e2
        exact absurd e2 (W1.io i j hi hj)
    . -- it comes in at k0, so it goes out at k1
      have ba : Bas m (S (k0 + 1)) t := ⟨R k0, C0.hr, by rw [Q.st k0]; show U6 (S k0).ins (R k0) ((S k0).outs (C k0)) (R k0) = t; rw [x8]; exact e0.symm⟩
      rcases p1 with e1 | e1
      . have hst : (S k1).outs (C k1) < (S k1).ins (R k1) := by
          have h1 := ht k1 (by lia) hb _ (.inr rfl)
          rw [e1] at h1
          have := W1.io (R k1) (C k1) C1.hr C1.hc
          lia
        refine a9i W1 W0 (fun z h => (ker z).mp h) C1 C0 (by rw [<- e0, <- e1]) hst (fun v hv hb' => (stat v (by rw [e1]; exact hv)).mp hb') fun k j hk1 hj e => ?_
        refine ((zrr ((S k1).ins k)).mpr fun i hi e2 => ?_) k hk1 rfl
        rw [e] at e2
        exact absurd e2 (W0.io i j hi hj)
      . obtain ⟨i, hi, e⟩ := bmid.mpr ba
        rw [e1] at e
        exact W1.io i (C k1) hi C1.hc e
theorem Seq.short (Q : Seq m q V S R C) : ∀ (t a b : Nat), a <= b -> (∀ k, a <= k -> k < b -> Dg q S R k) -> (∀ k, a <= k -> k < b -> ∀ v, a2K S R C k v -> v < t) -> b + 1 <= a + 2 ^ t
  | 0, a, b, hab, hd, hp => by
    by_cases c : a < b
    . have := hp a (Nat.le_refl _) c _ (.inl rfl)
      lia
    . rw [Nat.pow_zero]; lia
  | t + 1, a, b, hab, hd, hp => by
    rw [Nat.pow_succ]
    by_cases h : ∃ k, a <= k /\ k < b /\ a2K S R C k t
    . obtain ⟨k, h1, h2, h3⟩ := h
      have once := Q.once hd (t := t) fun k h1 h2 v hv => by have := hp k h1 h2 v hv; lia
      have i1 := Q.short t a k h1 (fun j j1 j2 => hd j j1 (by lia)) fun j j1 j2 v hv => by
        have := hp j j1 (by lia) v hv
        by_cases z : v = t
        . subst z
          exact (once (k - j - 1) j k (by lia) j1 h2 hv h3).elim
        . lia
      have i2 := Q.short t (k + 1) b (by lia) (fun j j1 j2 => hd j (by lia) j2) fun j j1 j2 v hv => by
        have := hp j (by lia) j2 v hv
        by_cases z : v = t
        . subst z
          exact (once (j - k - 1) k j (by lia) h1 j2 h3 hv).elim
        . lia
      lia
    . have := Q.short t a b hab hd fun j j1 j2 v hv => by
        have h4 := hp j j1 j2 v hv
        by_cases z : v = t
        . subst z; exact absurd ⟨j, j1, j2, hv⟩ h
        . lia
      have : 0 < 2 ^ t := Nat.two_pow_pos t
      lia
end
end Lp
namespace Lp
section
variable {m q : Nat} {V : Nat -> C8} {S : Bo}
theorem Wf.bndB {M : Nat} (hM : ∀ v, Fits M (m + 1) (V v)) : ∀ c ∈ Bs m V S.ins, Fits M (m + 1) c := fun c hc => by
  obtain ⟨i, _, rfl⟩ := List.mem_map.mp hc
  exact hM _
theorem Wf.bndd (W : Wf m q V S) {M : Nat} (hM : ∀ v, Fits M (m + 1) (V v)) : S.d.natAbs <= bnd M (m + 1) := by
  rw [W.hd]
  exact a2n (m + 1) _ (Z3 m V S.ins) (Wf.bndB hM)
theorem Wf.bndT (W : Wf m q V S) {M : Nat} (hM : ∀ v, Fits M (m + 1) (V v)) {i j : Nat} (hi : i < m + 1) (hj : j < q + 1) : (S.T i j).natAbs <= bnd M (m + 1) := by
  rw [W.hT i j hi hj]
  refine a2n (m + 1) _ (by rw [List.length_set]; exact Z3 m V S.ins) fun c hc => ?_
  rcases List.mem_or_eq_of_mem_set hc with h | h
  . exact Wf.bndB hM c h
  . rw [h]; exact hM _
def phi (m q : Nat) (M : Int) (S : Bo) : Int := M * M * S.T m q / S.d
theorem Wf.gain (W : Wf m q V S) {r c : Nat} (C : Choice m q S r c) {M : Int} (h1 : S.d <= M) (h2 : S.T r c <= M) : phi m q M S + (if S.T r q = 0 then 0 else 1) <= phi m q M (piv S r c) := by
  have hcq : c < q := C.hc
  have hrm : r < m := C.hr
  have e := W.mulT hrm hcq (show m < m + 1 by lia) (show q < q + 1 by lia) (show m ≠ r by lia) (show q ≠ c by lia)
  have hp := C.pos
  have hd := W.pos
  have hn := C.neg
  have hf := W.feas r hrm
  unfold phi
  show _ <= M * M * (piv S r c).T m q / S.T r c
  generalize (piv S r c).T m q = N' at *
  generalize S.T m q = N at *
  generalize S.T r c = p at *
  generalize S.d = d at *
  generalize S.T m c = g at *
  generalize S.T r q = b at *
  rw [Int.le_ediv_iff_mul_le hp]
  have hfl : M * M * N / d * d <= M * M * N := Int.ediv_mul_le _ (by lia)
  generalize M * M * N / d = f at *
  have hM : 0 < M := by lia
  have hMM : d * p <= M * M := Int.mul_le_mul h1 h2 (Int.le_of_lt hp) (Int.le_of_lt hM)
  -- d * ((f + 1) * p) <= d * (M * M * N')
  have key : (f + (if b = 0 then 0 else 1)) * p * d <= M * M * N' * d := by
    have a1 : M * M * N' * d = M * M * N * p + M * M * (-(g * b)) := by
      have : N' * d = N * p - g * b := by rw [Int.mul_comm N' d]; exact e
      rw [Int.mul_assoc (M * M), this, Int.mul_sub, Int.mul_assoc (M * M), Int.mul_neg]
      lia
    have a2 : f * d * p <= M * M * N * p := Int.mul_le_mul_of_nonneg_right hfl (Int.le_of_lt hp)
    have a3 : f * p * d = f * d * p := by rw [Int.mul_assoc, Int.mul_comm p d, <- Int.mul_assoc]
    by_cases c0 : b = 0
    . rw [if_pos c0, Int.add_zero, a1, a3, c0]
      simp only [Int.mul_zero, Int.neg_zero, Int.add_zero]
      exact a2
    . rw [if_neg c0]
      have a4 : 1 <= -(g * b) := by
        have := Int.mul_pos (show 0 < -g by lia) (show 0 < b by lia)
        rw [Int.neg_mul] at this
        lia
      have a5 : M * M * 1 <= M * M * (-(g * b)) := Int.mul_le_mul_of_nonneg_left a4 (Int.mul_nonneg (Int.le_of_lt hM) (Int.le_of_lt hM))
      rw [Int.add_mul, Int.add_mul, Int.one_mul, a3, a1]
      rw [Int.mul_comm d p] at hMM
      lia
  exact Int.le_of_mul_le_mul_right key hd
theorem Wf.phi_le (W : Wf m q V S) {M : Int} (h1 : S.T m q <= M) (h0 : 0 < M) : phi m q M S <= M * M * M := by
  unfold phi
  refine Int.ediv_le_of_le_mul W.pos ?_
  have a1 : M * M * S.T m q <= M * M * M := Int.mul_le_mul_of_nonneg_left h1 (Int.mul_nonneg (Int.le_of_lt h0) (Int.le_of_lt h0))
  have a2 : M * M * M * 1 <= M * M * M * S.d := Int.mul_le_mul_of_nonneg_left (by have := W.pos; lia) (Int.mul_nonneg (Int.mul_nonneg (Int.le_of_lt h0) (Int.le_of_lt h0)) (Int.le_of_lt h0))
  lia
end
section
variable {m q : Nat} {V : Nat -> C8} {S : Nat -> Bo} {R C : Nat -> Nat}
theorem Seq.part_lt (Q : Seq m q V S R C) (k v : Nat) (h : a2K S R C k v) : v < q + m := by
  rcases h with h | h
  . rw [h]; exact (Q.wf k).ib _ (Q.ch k).hr
  . rw [h]; exact (Q.wf k).ob _ (Q.ch k).hc
theorem Seq.never (Q : Seq m q V S R C) {M : Nat} (hM : ∀ v, Fits M (m + 1) (V v)) : False := by
  obtain ⟨B, hB⟩ : ∃ B : Int, B = (bnd M (m + 1) : Int) := ⟨_, rfl⟩
  have bT : ∀ k i j, i < m + 1 -> j < q + 1 -> (S k).T i j <= B := fun k i j hi hj => by
    have := (Q.wf k).bndT hM hi hj
    lia
  have bd : ∀ k, (S k).d <= B := fun k => by
    have := (Q.wf k).bndd hM
    lia
  have B0 : 0 < B := by have := bd 0; have := (Q.wf 0).pos; lia
  have up : ∀ k, phi m q B (S k) + (if (S k).T (R k) q = 0 then 0 else 1) <= phi m q B (S (k + 1)) := fun k => by
    rw [Q.st k]
    exact (Q.wf k).gain (Q.ch k) (bd k) (bT k _ _ (by have := (Q.ch k).hr; lia) (by have := (Q.ch k).hc; lia))
  have mono : ∀ n k, phi m q B (S k) <= phi m q B (S (k + n)) := fun n => by
    induction n with
    | zero => intro k; exact Int.le_refl _
    | succ n ih =>
      intro k
      have h1 := ih k
      have h2 := up (k + n)
      have h3 : phi m q B (S (k + n)) <= phi m q B (S (k + n + 1)) := by
        split at h2 <;> lia
      exact Int.le_trans h1 h3
  have X1 : ∀ k, phi m q B (S k) <= B * B * B := fun k => (Q.wf k).phi_le (bT k m q (by lia) (by lia)) B0
  have gap : ∀ (g : Nat) (k : Nat), B * B * B - phi m q B (S k) <= (g : Int) -> False := by
    intro g
    induction g with
    | zero =>
      intro k hk
      have : ∃ j, k <= j /\ j < k + 2 ^ (q + m) /\ ¬ Dg q S R j := by
        refine Classical.byContradiction fun hn => ?_
        have := Q.short (q + m) k (k + 2 ^ (q + m)) (Nat.le_add_right _ _) (fun j h1 h2 => Classical.byContradiction fun z => hn ⟨j, h1, h2, z⟩) fun j _ _ v hv => Q.part_lt j v hv
        lia
      obtain ⟨j, h1, h2, h3⟩ := this
      have u := up j
      rw [if_neg (show ¬ (S j).T (R j) q = 0 from h3)] at u
      have m1 := mono (j - k) k
      rw [show k + (j - k) = j by lia] at m1
      have := X1 (j + 1)
      lia
    | succ g ih =>
      intro k hk
      have : ∃ j, k <= j /\ j < k + 2 ^ (q + m) /\ ¬ Dg q S R j := by
        refine Classical.byContradiction fun hn => ?_
        have := Q.short (q + m) k (k + 2 ^ (q + m)) (Nat.le_add_right _ _) (fun j h1 h2 => Classical.byContradiction fun z => hn ⟨j, h1, h2, z⟩) fun j _ _ v hv => Q.part_lt j v hv
        lia
      obtain ⟨j, h1, h2, h3⟩ := this
      have u := up j
      rw [if_neg (show ¬ (S j).T (R j) q = 0 from h3)] at u
      have m1 := mono (j - k) k
      rw [show k + (j - k) = j by lia] at m1
      exact ih (j + 1) (by lia)
  exact gap (B * B * B - phi m q B (S 0)).toNat 0 (by lia)
end
inductive Ends (m q : Nat) : Bo -> Nat -> Prop
  | stop {S : Bo} : (¬ ∃ r c, Choice m q S r c) -> Ends m q S 0
  | go {S : Bo} {r c k : Nat} : Choice m q S r c -> Ends m q (piv S r c) k -> Ends m q S (k + 1)
theorem Choice.uniq {m q : Nat} {V : Nat -> C8} {S : Bo} (W : Wf m q V S) {r c r' c' : Nat} (h : Choice m q S r c) (h' : Choice m q S r' c') : r = r' /\ c = c' := by
  have ec : c = c' := W.oo c c' h.hc h'.hc (Nat.le_antisymm (h.minc c' h'.hc h'.neg) (h'.minc c h.hc h.neg))
  subst ec
  have e1 := h.ratio r' h'.hr h'.pos
  have e2 := h'.ratio r h.hr h.pos
  have e : S.T r q * S.T r' c = S.T r' q * S.T r c := by lia
  exact ⟨W.ii r r' h.hr h'.hr (Nat.le_antisymm (h.tie r' h'.hr h'.pos e) (h'.tie r h.hr h.pos e.symm)), rfl⟩
theorem Ends.next {m q : Nat} {V : Nat -> C8} {S : Bo} (W : Wf m q V S) {k r c : Nat} (h : Ends m q S k) (C : Choice m q S r c) : ∃ j, j < k /\ Ends m q (piv S r c) j := by
  cases h with
  | stop hn => exact absurd ⟨r, c, C⟩ hn
  | go C' h' =>
    obtain ⟨rfl, rfl⟩ := C.uniq W C'
    exact ⟨_, Nat.lt_succ_self _, h'⟩
theorem Wf.ends {m q : Nat} {V : Nat -> C8} {M : Nat} (hM : ∀ v, Fits M (m + 1) (V v)) {S : Bo} (W : Wf m q V S) : ∃ k, Ends m q S k := by
  refine Classical.byContradiction fun hn => ?_
  have ch : ∀ S', Wf m q V S' -> (¬ ∃ k, Ends m q S' k) -> ∃ p : Nat × Nat, Choice m q S' p.1 p.2 := fun S' _ h' => by
    refine Classical.byContradiction fun z => h' ⟨0, .stop fun ⟨r, c, C⟩ => z ⟨(r, c), C⟩⟩
  let St := { S' : Bo // Wf m q V S' /\ ¬ ∃ k, Ends m q S' k }
  let pk : (X : St) -> Nat × Nat := fun X => (ch X.1 X.2.1 X.2.2).choose
  have pc : ∀ X : St, Choice m q X.1 (pk X).1 (pk X).2 := fun X => (ch X.1 X.2.1 X.2.2).choose_spec
  let nx : St -> St := fun X => ⟨piv X.1 (pk X).1 (pk X).2, X.2.1.pivot (pc X).hr (pc X).hc (pc X).pos (pc X).ratio, fun ⟨k, e⟩ => X.2.2 ⟨k + 1, .go (pc X) e⟩⟩
  let sq : Nat -> St := fun k => Nat.rec ⟨S, W, hn⟩ (fun _ X => nx X) k
  exact Seq.never (S := fun k => (sq k).1) (R := fun k => (pk (sq k)).1) (C := fun k => (pk (sq k)).2) ⟨W, fun k => pc (sq k), fun k => rfl⟩ hM
end Lp
namespace Lp
def Vv (m q : Nat) (A : Nat -> Nat -> Int) (b c : Nat -> Int) : Nat -> C8 := fun v x =>
  if v < q then (if x < m then A x v else if x = m then - c v else 0) else if v < q + m + 1 then (if x = v - q then 1 else 0) else (if x < m then b x else 0)
def S0 (m q : Nat) (A : Nat -> Nat -> Int) (b c : Nat -> Int) : Bo where
  d := 1
  T := fun i j => if j < q then (if i < m then A i j else - c j) else (if i < m then b i else 0)
  ins := fun i => q + i
  outs := fun j => if j < q then j else q + m + 1
section
variable {m q : Nat} {A : Nat -> Nat -> Int} {b c : Nat -> Int}
theorem b0m {v x : Nat} (h : v < q) : Vv m q A b c v x = if x < m then A x v else if x = m then - c v else 0 := by unfold Vv; rw [if_pos h]
theorem b1g {i : Nat} (h : i < m + 1) : Vv m q A b c (q + i) = O2 i := by
  funext x
  unfold Vv O2
  rw [if_neg (by lia), if_pos (by lia), show q + i - q = i by lia]
theorem b1s {x : Nat} : Vv m q A b c (q + m + 1) x = if x < m then b x else 0 := by unfold Vv; rw [if_neg (by lia), if_neg (by lia)]
theorem a8Y {v x : Nat} (h : m < x) : Vv m q A b c v x = 0 := by
  unfold Vv
  by_cases h1 : v < q
  . rw [if_pos h1, if_neg (by lia), if_neg (by lia)]
  . rw [if_neg h1]
    by_cases h2 : v < q + m + 1
    . rw [if_pos h2, if_neg (by lia)]
    . rw [if_neg h2, if_neg (by lia)]
theorem Bs0 : Bs m (Vv m q A b c) (S0 m q A b c).ins = (List.range (m + 1)).map O2 := by
  unfold Bs
  exact List.map_congr_left fun i hi => b1g (List.mem_range.mp hi)
theorem a2V {n k : Nat} (h : k < n) : ((List.range n).map O2).getD k zv = O2 k := by rw [List.getD_eq_getElem?_getD, List.getElem?_map, List.getElem?_range h]; rfl
theorem a1C {n : Nat} {u : C8} (hu : ∀ x, n <= x -> u x = 0) (x : Nat) : sumTo (fun k => u k * O2 k x) n = u x := by
  by_cases h : x < n
  . rw [sum_one h fun k _ hn => by show u k * (if x = k then 1 else 0) = 0; rw [if_neg (Ne.symm hn), Int.mul_zero]]
    show u x * (if x = x then 1 else 0) = u x
    rw [if_pos rfl, Int.mul_one]
  . rw [hu x (by lia)]
    refine sum_zero fun k hk => ?_
    show u k * (if x = k then 1 else 0) = 0
    rw [if_neg (by lia), Int.mul_zero]
theorem Y4 {n i : Nat} (hi : i < n) {u : C8} (hu : ∀ x, n <= x -> u x = 0) : C2 n (((List.range n).map O2).set i u) = u i := by
  have hl : ((List.range n).map O2).length = n := by rw [List.length_map, List.length_range]
  have h := a0z hl hi u O2 n
  have e : (fun x : Nat => sumTo (fun k => u k * O2 k x) n) = u := by funext x; exact a1C hu x
  rw [e, sum_one hi fun k hk hn => ?_] at h
  . rw [h, <- a2V hi, N0 (by lia), Y0, Int.mul_one]
  . have : C2 n (((List.range n).map O2).set i (O2 k)) = 0 := by
      refine T6 (i := k) (k := i) (u := O2 k) (by rw [List.length_set]; exact hl) hn ?_ ?_
      . rw [List.getElem?_set_ne (Ne.symm hn), List.getElem?_map, List.getElem?_range hk]; rfl
      . rw [List.getElem?_set_self (by lia)]
    rw [this, Int.mul_zero]
theorem wf0 (hb : ∀ i, i < m -> 0 <= b i) : Wf m q (Vv m q A b c) (S0 m q A b c) := by
  have far : ∀ v x, m + 1 <= x -> Vv m q A b c v x = 0 := fun v x h => a8Y (by lia)
  refine ⟨?_, fun i j hi hj => ?_, fun j hj x => ?_, Int.one_pos, fun i hi => ?_, rfl, ?_, fun i hi => ?_, fun j hj => ?_, fun i k hi hk e => ?_, fun j k hj hk e => ?_, fun i j hi hj e => ?_, fun v hv => ?_⟩
  . rw [Bs0, Y0]; rfl
  . rw [Bs0, Y4 hi (far _)]
    show (if j < q then (if i < m then A i j else - c j) else (if i < m then b i else 0)) = Vv m q A b c (if j < q then j else q + m + 1) i
    by_cases h : j < q
    . rw [if_pos h, if_pos h, b0m h]
      by_cases h2 : i < m
      . rw [if_pos h2, if_pos h2]
      . rw [if_neg h2, if_neg h2, if_pos (by lia)]
    . rw [if_neg h, if_neg h, b1s]
  . rw [Bs0, Y0, Int.one_mul]
    have e : sumTo (fun k => C2 (m + 1) (((List.range (m + 1)).map O2).set k (Vv m q A b c ((S0 m q A b c).outs j))) * (((List.range (m + 1)).map O2).getD k zv) x) (m + 1) = sumTo (fun k => Vv m q A b c ((S0 m q A b c).outs j) k * O2 k x) (m + 1) :=
      sum_congr fun k hk => by rw [Y4 hk (far _), a2V hk]
    rw [e, a1C (far _)]
  . show 0 <= (if q < q then _ else (if i < m then b i else 0))
    rw [if_neg (Nat.lt_irrefl _), if_pos hi]; exact hb i hi
  . show (if q < q then q else q + m + 1) = q + m + 1
    rw [if_neg (Nat.lt_irrefl _)]
  . show q + i < q + m; lia
  . show (if j < q then j else q + m + 1) < q + m
    rw [if_pos hj]; lia
  . replace e : q + i = q + k := e
    lia
  . replace e : (if j < q then j else q + m + 1) = (if k < q then k else q + m + 1) := e
    rw [if_pos hj, if_pos hk] at e
    exact e
  . replace e : q + i = (if j < q then j else q + m + 1) := e
    rw [if_pos hj] at e
    lia
  . by_cases h : v < q
    . exact .inr ⟨v, h, if_pos h⟩
    . exact .inl ⟨v - q, by lia, by show q + (v - q) = v; lia⟩
theorem ker0 {z : Nat -> Int} : Ker m q (Vv m q A b c) (S0 m q A b c) z ↔ (∀ i, i < m -> z (q + i) + sumTo (fun j => A i j * z j) q + b i * z (q + m + 1) = 0) /\ z (q + m) = sumTo (fun j => c j * z j) q := by
  have e : ∀ x, sumTo (fun k => z ((S0 m q A b c).ins k) * Vv m q A b c ((S0 m q A b c).ins k) x) (m + 1) + sumTo (fun j => z ((S0 m q A b c).outs j) * Vv m q A b c ((S0 m q A b c).outs j) x) (q + 1)
      = (if x < m + 1 then z (q + x) else 0) + (sumTo (fun j => z j * Vv m q A b c j x) q + z (q + m + 1) * (if x < m then b x else 0)) := fun x => by
    have e1 : sumTo (fun k => z ((S0 m q A b c).ins k) * Vv m q A b c ((S0 m q A b c).ins k) x) (m + 1) = if x < m + 1 then z (q + x) else 0 := by
      have : sumTo (fun k => z ((S0 m q A b c).ins k) * Vv m q A b c ((S0 m q A b c).ins k) x) (m + 1) = sumTo (fun k => z (q + k) * O2 k x) (m + 1) := sum_congr fun k hk => by
        show z (q + k) * Vv m q A b c (q + k) x = _
        rw [b1g hk]
      rw [this]
      by_cases h : x < m + 1
      . rw [if_pos h, sum_one h fun k _ hn => by show z (q + k) * (if x = k then 1 else 0) = 0; rw [if_neg (Ne.symm hn), Int.mul_zero]]
        show z (q + x) * (if x = x then 1 else 0) = _
        rw [if_pos rfl, Int.mul_one]
      . rw [if_neg h]
        refine sum_zero fun k hk => ?_
        show z (q + k) * (if x = k then 1 else 0) = 0
        rw [if_neg (by lia), Int.mul_zero]
    have e2 : sumTo (fun j => z ((S0 m q A b c).outs j) * Vv m q A b c ((S0 m q A b c).outs j) x) (q + 1) = sumTo (fun j => z j * Vv m q A b c j x) q + z (q + m + 1) * (if x < m then b x else 0) := by
      show sumTo (fun j => z (if j < q then j else q + m + 1) * Vv m q A b c (if j < q then j else q + m + 1) x) q + z (if q < q then q else q + m + 1) * Vv m q A b c (if q < q then q else q + m + 1) x = _
      rw [if_neg (Nat.lt_irrefl _), b1s]
      have : sumTo (fun j => z (if j < q then j else q + m + 1) * Vv m q A b c (if j < q then j else q + m + 1) x) q = sumTo (fun j => z j * Vv m q A b c j x) q := sum_congr fun j hj => by rw [if_pos hj]
      rw [this]
    rw [e1, e2]
  have am : ∀ i, i < m -> sumTo (fun j => z j * Vv m q A b c j i) q = sumTo (fun j => A i j * z j) q := fun i hi => sum_congr fun j hj => by rw [b0m hj, if_pos hi, Int.mul_comm]
  have ob : sumTo (fun j => z j * Vv m q A b c j m) q = - sumTo (fun j => c j * z j) q := by
    rw [show - sumTo (fun j => c j * z j) q = (-1) * sumTo (fun j => c j * z j) q by lia, <- C6]
    refine sum_congr fun j hj => ?_
    rw [b0m hj, if_neg (Nat.lt_irrefl _), if_pos rfl, Int.mul_neg, Int.mul_comm]
    lia
  constructor
  . intro h
    refine ⟨fun i hi => ?_, ?_⟩
    . have := h i
      rw [e i, if_pos (by lia), if_pos hi, am i hi, Int.mul_comm (z (q + m + 1))] at this
      lia
    . have := h m
      rw [e m, if_pos (by lia), if_neg (Nat.lt_irrefl _), ob, Int.mul_zero] at this
      lia
  . rintro ⟨h1, h2⟩ x
    rw [e x]
    by_cases c1 : x < m
    . have := h1 x c1
      rw [if_pos (by lia), if_pos c1, am x c1, Int.mul_comm (z (q + m + 1))]
      lia
    . by_cases c2 : x = m
      . subst c2
        rw [if_pos (by lia), if_neg (Nat.lt_irrefl _), ob, Int.mul_zero]
        lia
      . rw [if_neg (by lia), if_neg c1, Int.mul_zero, sum_zero fun j hj => by rw [a8Y (by lia), Int.mul_zero]]
        rfl
end
def valIn (m : Nat) (S : Bo) (q v : Nat) : Int := sumTo (fun i => if S.ins i = v then S.T i q else 0) m
def valOut (m q : Nat) (S : Bo) (v : Nat) : Int := sumTo (fun j => if S.outs j = v then S.T m j else 0) q
theorem a3F {g : Nat -> Int} : ∀ {n : Nat}, (∀ k, k < n -> 0 <= g k) -> 0 <= sumTo g n
  | 0, _ => Int.le_refl 0
  | n + 1, h => by
    have h1 := a3F (g := g) (n := n) fun k hk => h k (by lia)
    have h2 := h n (by lia)
    show 0 <= sumTo g n + g n
    lia
section
variable {m q : Nat} {A : Nat -> Nat -> Int} {b c : Nat -> Int} {S : Bo}
structure Of (m q : Nat) (A : Nat -> Nat -> Int) (b c : Nat -> Int) (S : Bo) : Prop where
  w : Wf m q (Vv m q A b c) S
  k : ∀ z, Ker m q (Vv m q A b c) S z ↔ Ker m q (Vv m q A b c) (S0 m q A b c) z
theorem of0 (hb : ∀ i, i < m -> 0 <= b i) : Of m q A b c (S0 m q A b c) := ⟨wf0 hb, fun _ => Iff.rfl⟩
theorem Of.piv (O : Of m q A b c S) {r cc : Nat} (C : Choice m q S r cc) : Of m q A b c (Lp.piv S r cc) :=
  ⟨O.w.pivot C.hr C.hc C.pos C.ratio, fun z => (Ker.piv C.hr C.hc).trans (O.k z)⟩
theorem Of.valIn_nn (O : Of m q A b c S) (v : Nat) : 0 <= valIn m S q v := a3F fun i hi => by
  split
  . exact O.w.feas i hi
  . exact Int.le_refl 0
theorem Of.ray_val (O : Of m q A b c S) {v : Nat} (hv : v < q + m) : ray m S q v = - valIn m S q v := by
  unfold ray
  rw [if_neg (by rw [O.w.oq]; lia)]
  show sumTo _ m + (if S.ins m = v then - S.T m q else 0) = _
  rw [if_neg (by rw [O.w.im]; lia), Int.add_zero]
  unfold valIn
  rw [show - sumTo (fun i => if S.ins i = v then S.T i q else 0) m = (-1) * sumTo (fun i => if S.ins i = v then S.T i q else 0) m by lia, <- C6]
  refine sum_congr fun i _ => ?_
  split <;> lia
theorem Of.primal (O : Of m q A b c S) : (∀ i, i < m -> sumTo (fun j => A i j * valIn m S q j) q + valIn m S q (q + i) = b i * S.d) /\ sumTo (fun j => c j * valIn m S q j) q = S.T m q := by
  have K := (ker0.mp ((O.k _).mp (O.w.ray_ker (show q < q + 1 by lia))))
  have co : ray m S q (q + m + 1) = S.d := by rw [<- O.w.oq]; exact Wf.ray_c
  have oo : ray m S q (q + m) = - S.T m q := by rw [<- O.w.im]; exact O.w.ray_in (by lia) (by lia)
  have am : ∀ g : Nat -> Int, sumTo (fun j => g j * ray m S q j) q = - sumTo (fun j => g j * valIn m S q j) q := fun g => by
    rw [show - sumTo (fun j => g j * valIn m S q j) q = (-1) * sumTo (fun j => g j * valIn m S q j) q by lia, <- C6]
    refine sum_congr fun j hj => ?_
    rw [O.ray_val (by lia), Int.mul_neg]
    lia
  refine ⟨fun i hi => ?_, ?_⟩
  . have := K.1 i hi
    rw [O.ray_val (by lia), am, co] at this
    lia
  . have := K.2
    rw [oo, am] at this
    lia
theorem Of.valOut_nn (h : ∀ j, j < q -> 0 <= S.T m j) (v : Nat) : 0 <= valOut m q S v := a3F fun j hj => by
  split
  . exact h j hj
  . exact Int.le_refl 0
theorem a6H (O : Of m q A b c S) (z : Nat -> Int) : sumTo (fun j => S.T m j * z (S.outs j)) q = sumTo (fun v => valOut m q S v * z v) (q + m) := by
  have e : ∀ v, v < q + m -> valOut m q S v * z v = sumTo (fun j => (if S.outs j = v then S.T m j else 0) * z v) q := fun v _ => by
    unfold valOut
    rw [Int.mul_comm, <- C6]
    exact sum_congr fun j _ => Int.mul_comm _ _
  rw [sum_congr e, Y1]
  refine sum_congr fun j hj => ?_
  rw [sum_one (O.w.ob j hj) fun v _ hn => by rw [if_neg (Ne.symm hn), Int.zero_mul], if_pos rfl]
theorem Of.row_goal (O : Of m q A b c S) {z : Nat -> Int} (h : Ker m q (Vv m q A b c) (S0 m q A b c) z) : S.d * z (q + m) + sumTo (fun v => valOut m q S v * z v) (q + m) + S.T m q * z (q + m + 1) = 0 := by
  have R := O.w.row_of ((O.k z).mpr h) (show m < m + 1 by lia)
  unfold a0L at R
  replace R : S.d * z (S.ins m) + (sumTo (fun j => S.T m j * z (S.outs j)) q + S.T m q * z (S.outs q)) = 0 := R
  rw [O.w.im, O.w.oq, a6H O] at R
  lia
theorem a0d {g : Nat -> Int} (n : Nat) : ∀ k : Nat, sumTo g (n + k) = sumTo g n + sumTo (fun i => g (n + i)) k
  | 0 => (Int.add_zero _).symm
  | k + 1 => by
    show sumTo g (n + k) + g (n + k) = sumTo g n + (sumTo (fun i => g (n + i)) k + g (n + k))
    rw [a0d n k]
    lia
theorem Of.dual (O : Of m q A b c S) : (∀ j, j < q -> sumTo (fun i => A i j * valOut m q S (q + i)) m = c j * S.d + valOut m q S j) /\ sumTo (fun i => b i * valOut m q S (q + i)) m = S.T m q := by
  constructor
  . intro j hj
    have hk : Ker m q (Vv m q A b c) (S0 m q A b c) (fun v => if v < q then (if v = j then 1 else 0) else if v < q + m then - A (v - q) j else if v = q + m then c j else 0) := by
      refine ker0.mpr ⟨fun i hi => ?_, ?_⟩
      . rw [if_neg (by lia), if_pos (by lia), show q + i - q = i by lia, if_neg (by lia), if_neg (by lia), if_neg (by lia), Int.mul_zero, sum_one hj fun k hk hn => by rw [if_pos hk, if_neg hn, Int.mul_zero], if_pos hj, if_pos rfl]
        lia
      . rw [if_neg (by lia), if_neg (by lia), if_pos rfl, sum_one hj fun k hk hn => by rw [if_pos hk, if_neg hn, Int.mul_zero], if_pos hj, if_pos rfl]
        lia
    have R := O.row_goal hk
    rw [if_neg (by lia), if_neg (by lia), if_pos rfl, if_neg (by lia), if_neg (by lia), if_neg (by lia), Int.mul_zero, a0d, sum_one hj fun k hk hn => by rw [if_pos hk, if_neg hn, Int.mul_zero], if_pos hj, if_pos rfl] at R
    have e : sumTo (fun i => valOut m q S (q + i) * (if q + i < q then (if q + i = j then 1 else 0) else if q + i < q + m then - A (q + i - q) j else if q + i = q + m then c j else 0)) m = - sumTo (fun i => A i j * valOut m q S (q + i)) m := by
      rw [show - sumTo (fun i => A i j * valOut m q S (q + i)) m = (-1) * sumTo (fun i => A i j * valOut m q S (q + i)) m by lia, <- C6]
      refine sum_congr fun i hi => ?_
      rw [if_neg (by lia), if_pos (by lia), show q + i - q = i by lia, Int.mul_neg, Int.mul_comm]
      lia
    rw [e, Int.mul_comm S.d] at R
    lia
  . have hk : Ker m q (Vv m q A b c) (S0 m q A b c) (fun v => if v < q then 0 else if v < q + m then b (v - q) else if v = q + m then 0 else -1) := by
      refine ker0.mpr ⟨fun i hi => ?_, ?_⟩
      . rw [if_neg (by lia), if_pos (by lia), show q + i - q = i by lia, if_neg (by lia), if_neg (by lia), if_neg (by lia), sum_zero fun k hk => by rw [if_pos hk, Int.mul_zero]]
        lia
      . rw [if_neg (by lia), if_neg (by lia), if_pos rfl, sum_zero fun k hk => by rw [if_pos hk, Int.mul_zero]]
    have R := O.row_goal hk
    rw [if_neg (by lia), if_neg (by lia), if_pos rfl, if_neg (by lia), if_neg (by lia), if_neg (by lia), Int.mul_zero, a0d, sum_zero fun k hk => by rw [if_pos hk, Int.mul_zero]] at R
    have e : sumTo (fun i => valOut m q S (q + i) * (if q + i < q then 0 else if q + i < q + m then b (q + i - q) else if q + i = q + m then 0 else -1)) m = sumTo (fun i => b i * valOut m q S (q + i)) m :=
      sum_congr fun i hi => by rw [if_neg (by lia), if_pos (by lia), show q + i - q = i by lia, Int.mul_comm]
    rw [e] at R
    lia
end
end Lp
namespace Rim
open PySem L2
def X1 (i : Nat) : Stmt := PySem.Challenge.pw_rimhouse_k22_whole_against_a_book.main.body.getD i (.Pass ⟨0, 0, 0, 0⟩)
abbrev a9w : Stmt := X1 9
abbrev b0k : Stmt := X1 10
abbrev b0t : Stmt := X1 12
abbrev a3S : Stmt := X1 14
abbrev K4 : Stmt := X1 16
abbrev N4 : Stmt := X1 19
abbrev U9 : Stmt := X1 20
abbrev a6G : Stmt := X1 22
abbrev a3s : Stmt := X1 23
abbrev a0I : Stmt := X1 28
abbrev a2r : Stmt := X1 30
abbrev a6b : Stmt := X1 25
abbrev a0Q : Stmt := X1 26
abbrev a1Y : Stmt := X1 47
abbrev a7t : Stmt := X1 32
abbrev a3v : Stmt := X1 33
abbrev a3r : Stmt := X1 34
abbrev a6c : Stmt := X1 35
abbrev a0e : Stmt := X1 36
abbrev a1O : Stmt := X1 37
abbrev a7z : Stmt := X1 39
abbrev a7C : Stmt := X1 41
abbrev a0u : Stmt := X1 48
abbrev Q0 : Stmt := X1 42
abbrev M9 : Stmt := X1 43
abbrev R4 : Stmt := X1 44
abbrev D0 : Stmt := X1 45
abbrev J5 : Stmt := X1 46
abbrev W7 : Stmt := X1 15
abbrev a2X : Stmt := P9 W7 0
abbrev a1R : Stmt := P9 W7 1
abbrev a3A : Stmt := P9 W7 2
abbrev a3u : Stmt := P9 W7 3
abbrev M7 : Stmt := P9 W7 4
abbrev a6I : Stmt := P9 W7 5
abbrev a9T : Stmt := P9 W7 6
abbrev b0n : Pos := ⟨52, 32, 52, 64⟩
end Rim
namespace Rim
open PySem L2
structure B7 (mg : Str -> Option Value) : Prop where
  len : mg "len" = none
  all : mg "all" = none
  any : mg "any" = none
  max : mg "max" = none
  min : mg "min" = none
  sum : mg "sum" = none
  tuple : mg "tuple" = none
  list : mg "list" = none
  int : mg "int" = none
  bool : mg "bool" = none
  range : mg "range" = none
  isi : mg "isinstance" = none
  abs : mg "abs" = none
  zip : mg "zip" = none
  enum : mg "enumerate" = none
  ve : mg "ValueError" = none
  so : mg "sorted" = none
theorem a1X (K : W.Frag) {X : Cx} (h : X.K = K) : IxR X (b1E K) := by subst h; exact j5
theorem a1q (K : W.Frag) {X : Cx} {es : List Expr} {k : Nat} {t : TGs} {n : Nat} {pos : Pos} (h : X.K = K) (hc : X.calm = true) (hp : PGs X es t) (hn : (assignEach es X.env).length = n := by rfl) (hst : (assignEach es X.env).findIdx? (·.1) = none := by rfl) : PG X (.Tuple es k pos) (a7q K n t) := by subst h; exact X4 hc hp hn hst
def b0S (K : W.Frag) : List V -> Hp -> VK -> Prop := fun xs H Q => ∃ p ys, xs = [.ref p] /\ (SqL K H p ys \/ SqT K H p ys) /\ ∀ l, H l = none -> Q (.ref l) (upd H l (.lst ys))
theorem a4j (K : W.Frag) {X : Cx} (h : X.K = K) : M3 X (.type "list") (b0S K) := by subst h; exact E5
def vI : V -> Int
  | .int i => i
  | _ => 0
theorem D9 {ns : List Int} {i : Nat} {x : V} (h : (ns.map V.int)[i]? = some x) : ∃ k, x = .int k := by
  rw [List.getElem?_map] at h
  cases hn : ns[i]? with
  | none => rw [hn] at h; cases h
  | some k => rw [hn] at h; cases h; exact ⟨k, rfl⟩
theorem a7m {N : VK} {b b' : Bool} {H : Hp} (h : N (.bl b) H) (e : b' = b) : N (.bl b') H := by rw [e]; exact h
abbrev i8 := List Int × List Int
def HS (K : W.Frag) (H : Hp) (v : V) (h : i8) : Prop := ∃ a t g, v = .ref a /\ SqT K H a [.ref t, .ref g] /\ SqT K H t (h.1.map V.int) /\ SqT K H g (h.2.map V.int)
abbrev Bk (K : W.Frag) (H : Hp) : List V -> List i8 -> Prop := PySem.Paired (HS K H)
theorem HS.same {K : W.Frag} {H H' : Hp} {v : V} {h : i8} (e : Same H H') (x : HS K H v h) : HS K H' v h := by
  obtain ⟨a, t, g, h0, h1, h2, h3⟩ := x
  exact ⟨a, t, g, h0, e.tseq h1, e.tseq h2, e.tseq h3⟩
theorem Bk.same {K : W.Frag} {H H' : Hp} {vs : List V} {hs : List i8} (e : Same H H') (x : Bk K H vs hs) : Bk K H' vs hs := Paired.imp' (fun _ _ r => HS.same e r) x
theorem Paired.at {α β : Type} {F : α -> β -> Prop} : ∀ {l₁ : List α} {l₂ : List β}, PySem.Paired F l₁ l₂ -> ∀ {i : Nat} {x : α}, l₁[i]? = some x -> ∃ y, l₂[i]? = some y /\ F x y
  | _, _, .nil, _, _, e => by simp at e
  | _, _, .cons r _, 0, _, e => by simp at e; subst e; exact ⟨_, rfl, r⟩
  | _, _, .cons _ t, i + 1, x, e => by
    obtain ⟨y, h1, h2⟩ := Paired.at t (i := i) (x := x) (by simpa using e)
    exact ⟨y, by simpa using h1, h2⟩
end Rim
namespace Rim
open PySem L2
def A3 (q : Nat) (S : Lp.Bo) (i : Nat) : List Int := (List.range (q + 1)).map (S.T i)
def K3 (q : Nat) (S : Lp.Bo) : List Int := (List.range q).map fun j => (S.outs j : Int)
def N6 (m : Nat) (S : Lp.Bo) : List Int := (List.range m).map fun i => (S.ins i : Int)
abbrev bdF (q : Nat) (d : Int) (ca oa ia : Addr) : List (Str × V) := [("many", .int q), ("scale", .int d), ("cells", .ref ca), ("outs", .ref oa), ("ins", .ref ia)]
structure Bd (C : Addr) (H : Hp) (p dx ca oa ia : Addr) (rs : List Addr) (m q : Nat) (S : Lp.Bo) : Prop where
  obj : H p = some (.ins C dx (bdF q S.d ca oa ia))
  cel : H ca = some (.lst (rs.map V.ref))
  len : rs.length = m + 1
  row : ∀ i r, rs[i]? = some r -> H r = some (.lst ((A3 q S i).map V.int))
  out : H oa = some (.lst ((K3 q S).map V.int))
  inn : H ia = some (.lst ((N6 m S).map V.int))
  ne : oa ≠ ia
structure TB (K : W.Frag) (C : Addr) : Prop where
  cl : Cls K C
  nM : NoAttr K C "many"
  nS : NoAttr K C "scale"
  nC : NoAttr K C "cells"
  nO : NoAttr K C "outs"
  nI : NoAttr K C "ins"
section
variable {C : Addr} {H H' : Hp} {p dx ca oa ia : Addr} {rs : List Addr} {m q : Nat} {S : Lp.Bo}
theorem Bd.rs_at (B : Bd C H p dx ca oa ia rs m q S) {i : Nat} (h : i < m + 1) : ∃ r, rs[i]? = some r /\ X7 (rs.map V.ref) (i : Int) = some (.ref r) := by
  have h' : i < rs.length := by rw [B.len]; exact h
  refine ⟨rs[i], List.getElem?_eq_getElem h', y6 ?_⟩
  rw [List.getElem?_map, List.getElem?_eq_getElem h']; rfl
theorem V5 {i j : Nat} (h : j < q + 1) : X7 ((A3 q S i).map V.int) (j : Int) = some (.int (S.T i j)) := y6 (by
  unfold A3
  rw [List.getElem?_map, List.getElem?_map, List.getElem?_range h]; rfl)
theorem a4I {α : Type} {xs : List α} {n : Nat} {v : α} (hl : xs.length = n + 1) (h : xs[n]? = some v) : X7 xs (-1) = some v := by
  have e : ixN xs.length (-1) = some n := by
    unfold ixN
    rw [hl, if_neg (by decide), if_pos (by lia)]
    congr 1
    lia
  unfold X7; rw [e]; exact h
theorem T9 {i : Nat} : X7 ((A3 q S i).map V.int) (-1) = some (.int (S.T i q)) := a4I (n := q) (by unfold A3; simp) (by
  unfold A3
  rw [List.getElem?_map, List.getElem?_map, List.getElem?_range (Nat.lt_succ_self _)]; rfl)
theorem Bd.rs_last (B : Bd C H p dx ca oa ia rs m q S) : ∃ r, rs[m]? = some r /\ X7 (rs.map V.ref) (-1) = some (.ref r) := by
  have h' : m < rs.length := by rw [B.len]; exact Nat.lt_succ_self _
  refine ⟨rs[m], List.getElem?_eq_getElem h', a4I (n := m) (by simpa using B.len) ?_⟩
  rw [List.getElem?_map, List.getElem?_eq_getElem h']; rfl
theorem a0C {i : Nat} (h : i < m) : X7 ((N6 m S).map V.int) (i : Int) = some (.int (S.ins i)) := y6 (by
  unfold N6
  rw [List.getElem?_map, List.getElem?_map, List.getElem?_range h]; rfl)
theorem a0P {j : Nat} (h : j < q) : X7 ((K3 q S).map V.int) (j : Int) = some (.int (S.outs j)) := y6 (by
  unfold K3
  rw [List.getElem?_map, List.getElem?_map, List.getElem?_range h]; rfl)
theorem Bd.same1 {P : Addr} (B : Bd C H p dx ca oa ia rs m q S) (e : ∀ b o, H b = some o -> (∀ ps, o ≠ .tbl ps) -> H' b = some o) : Bd C H' p dx ca oa ia rs m q S :=
  ⟨e _ _ B.obj fun _ => nofun, e _ _ B.cel fun _ => nofun, B.len, fun i r h => e _ _ (B.row i r h) fun _ => nofun, e _ _ B.out fun _ => nofun, e _ _ B.inn fun _ => nofun, B.ne⟩
def Sz (n m q : Nat) (S : Lp.Bo) : Prop := (∀ i j, i < m + 1 -> j < q + 1 -> Big n (S.T i j)) /\ Big n S.d
end
section
variable {P : Program} {w : World} {K : W.Frag} {mg : Str -> Option Value} {base : Heap} {f : Addr} {fd : FuncData} {n : Nat} {C : Addr}
theorem a7f {a b : Nat} {x : Int} (h : Big a x) (hab : a <= b) : Big b x := Nat.lt_of_lt_of_le h (Nat.pow_le_pow_right (by decide) hab)
def Z7 (q : Nat) (S : Lp.Bo) (i o c : Nat) : Bool := if S.T i q * S.T o c = S.T o q * S.T i c then decide (S.ins i < S.ins o) else decide (S.T i q * S.T o c < S.T o q * S.T i c)
def a4t (C : Addr) : Sp := fun vs H Q _ => ∃ (p dx ca oa ia : Addr) (rs : List Addr) (m q : Nat) (S : Lp.Bo) (i o c : Nat), vs = [.ref p, .int i, .int o, .int c] /\ Bd C H p dx ca oa ia rs m q S /\ Sz 4000 m q S /\ i < m /\ o < m /\ c < q + 1 /\ Q (.bl (Z7 q S i o c)) H
theorem scAhead : m6 ["self", "row", "other", "column", "left", "right"] ["self", "row", "other", "column"] (i9 a3u) := ⟨rfl, rfl, rfl, by decide +kernel, rfl, by decide +kernel, by decide +kernel⟩
theorem a6s (F : Fun K "is_ahead" "Board.is_ahead" a3u f fd) (T : TB K C) : FnOk P w K mg base G8 (n + 1) f fd ["self", "row", "other", "column"] (a4t C) := by
  refine F.ok scAhead (fun vs H Q E h => ?_) (fun cdv A outer s H vs Q E hr h => ?_)
  . obtain ⟨p, dx, ca, oa, ia, rs, m, q, S, i, o, c, rfl, _⟩ := h
    rfl
  obtain ⟨p, dx, ca, oa, ia, rs, m, q, S, i, o, c, rfl, B, hz, hi, ho, hc, k⟩ := h
  refine ⟨_, j0 (l0 (i := 4) scAhead.nd rfl (Or.inl rfl) (j3 V0 (j6 j5 (j6 j5 (v9 (pv 0) rfl) (pv 1) (fun _ _ => rfl)) (Q4 M0 c6) (fun _ _ => rfl)) (j6 j5 (j6 j5 (v9 (pv 0) rfl) (pv 2) (fun _ _ => rfl)) (pv 3) (fun _ _ => rfl))))
    (j0 (l0 (i := 5) scAhead.nd rfl (Or.inl rfl) (j3 V0 (j6 j5 (j6 j5 (v9 (pv 0) rfl) (pv 2) (fun _ _ => rfl)) (Q4 M0 c6) (fun _ _ => rfl)) (j6 j5 (j6 j5 (v9 (pv 0) rfl) (pv 1) (fun _ _ => rfl)) (pv 3) (fun _ _ => rfl))))
    (j0 (A5 (r8 R6 (pv 4) (pv 5) (r6 _)) (j4 (t7 (E4 R5 (j6 j5 (v9 (pv 0) rfl) (pv 1) (fun _ _ => rfl)) (j6 j5 (v9 (pv 0) rfl) (pv 2) (fun _ _ => rfl)) (r6 _)))) t0)
    (j4 (t7 (E4 R5 (pv 4) (pv 5) (r6 _)))))), ?_⟩
  obtain ⟨ri, ei, ai⟩ := B.rs_at (i := i) (by lia)
  obtain ⟨ro, eo, ao⟩ := B.rs_at (i := o) (by lia)
  have bi := SqL.of (K := K) (B.row i ri ei)
  have bo := SqL.of (K := K) (B.row o ro eo)
  have z : ∀ i j, i < m + 1 -> j < q + 1 -> Big 1000000 (S.T i j) := fun i j h1 h2 => a7f (hz.1 i j h1 h2) (by decide)
  refine ⟨_, rfl, p, C, dx, _, _, rfl, B.obj, T.cl, T.nC, rfl, _, rfl, ca, _, _, _, rfl, rfl, SqL.of B.cel, ai, _, rfl, ri, _, _, _, rfl, rfl, bi, T9, ?_⟩
  refine ⟨_, rfl, p, C, dx, _, _, rfl, B.obj, T.cl, T.nC, rfl, _, rfl, ca, _, _, _, rfl, rfl, SqL.of B.cel, ao, _, rfl, ro, _, _, _, rfl, rfl, bo, V5 hc, _, _, rfl, rfl, ⟨z _ _ (by lia) (by lia), z _ _ (by lia) (by lia)⟩, ?_⟩
  refine ⟨_, rfl, p, C, dx, _, _, rfl, B.obj, T.cl, T.nC, rfl, _, rfl, ca, _, _, _, rfl, rfl, SqL.of B.cel, ao, _, rfl, ro, _, _, _, rfl, rfl, bo, T9, ?_⟩
  refine ⟨_, rfl, p, C, dx, _, _, rfl, B.obj, T.cl, T.nC, rfl, _, rfl, ca, _, _, _, rfl, rfl, SqL.of B.cel, ai, _, rfl, ri, _, _, _, rfl, rfl, bi, V5 hc, _, _, rfl, rfl, ⟨z _ _ (by lia) (by lia), z _ _ (by lia) (by lia)⟩, ?_⟩
  refine ⟨_, rfl, _, rfl, rfl, _, rfl, ?_⟩
  unfold Z7 at k
  refine D8 (fun e => ?_) (fun e => ?_)
  . have e' : S.T i q * S.T o c = S.T o q * S.T i c := by simpa using e
    rw [if_pos e'] at k
    refine ⟨_, rfl, p, C, dx, _, _, rfl, B.obj, T.cl, T.nI, rfl, _, rfl, ia, _, _, _, rfl, rfl, SqL.of B.inn, a0C hi, _, rfl, p, C, dx, _, _, rfl, B.obj, T.cl, T.nI, rfl, _, rfl, ia, _, _, _, rfl, rfl, SqL.of B.inn, a0C ho, _, _, rfl, rfl, ?_⟩
    refine a7m k ?_
    simp
  . have e' : ¬ S.T i q * S.T o c = S.T o q * S.T i c := by simpa using e
    rw [if_neg e'] at k
    exact ⟨_, rfl, _, rfl, _, _, rfl, rfl, k⟩
end
end Rim
namespace Rim
open PySem L2
structure a5k (P : Program) (w : World) (K : W.Frag) (mg : Str -> Option Value) (base : Heap) (n : Nat) (C : Addr) (m : Str) (ps : List Str) (sp : Sp) (f : Addr) (fd : FuncData) : Prop where
  ok : FnOk P w K mg base G8 n f fd ps sp
  bd : Binds K fd ps []
  me : a8s K C m f
def Bet (q : Nat) (S : Lp.Bo) (c r i : Nat) : Prop := S.T r q * S.T i c <= S.T i q * S.T r c /\ (S.T r q * S.T i c = S.T i q * S.T r c -> S.ins r <= S.ins i)
theorem a5S {ar cr ab cb ai ci : Int} (h1 : ar * cb <= ab * cr) (h2 : ab * ci <= ai * cb) (pr : 0 < cr) (pb : 0 < cb) (pi : 0 < ci) : ar * ci <= ai * cr /\ (ar * ci = ai * cr -> ar * cb = ab * cr /\ ab * ci = ai * cb) := by
  have e1 : ar * cb * ci <= ab * cr * ci := Int.mul_le_mul_of_nonneg_right h1 (Int.le_of_lt pi)
  have e2 : ab * ci * cr <= ai * cb * cr := Int.mul_le_mul_of_nonneg_right h2 (Int.le_of_lt pr)
  have x1 : ar * cb * ci = ar * ci * cb := by rw [Int.mul_assoc, Int.mul_comm cb ci, <- Int.mul_assoc]
  have x2 : ab * cr * ci = ab * ci * cr := by rw [Int.mul_assoc, Int.mul_comm cr ci, <- Int.mul_assoc]
  have x3 : ai * cb * cr = ai * cr * cb := by rw [Int.mul_assoc, Int.mul_comm cb cr, <- Int.mul_assoc]
  rw [x1] at e1
  rw [x3] at e2
  refine ⟨Int.le_of_mul_le_mul_right (a := cb) (by lia) pb, fun e => ?_⟩
  rw [e] at e1
  refine ⟨Int.eq_of_mul_eq_mul_right (a := ci) (by omega) (by rw [x1, e]; omega), Int.eq_of_mul_eq_mul_right (a := cr) (by omega) (by rw [x3]; omega)⟩
theorem Bet.trans {q : Nat} {S : Lp.Bo} {c r b i : Nat} (h1 : Bet q S c r b) (h2 : Bet q S c b i) (pr : 0 < S.T r c) (pb : 0 < S.T b c) (pi : 0 < S.T i c) : Bet q S c r i := by
  obtain ⟨a, t⟩ := a5S h1.1 h2.1 pr pb pi
  exact ⟨a, fun e => Nat.le_trans (h1.2 (t e).1) (h2.2 (t e).2)⟩
theorem a5W {q : Nat} {S : Lp.Bo} {c r b : Nat} (h : Z7 q S r b c = true) : Bet q S c r b := by
  unfold Z7 at h
  by_cases e : S.T r q * S.T b c = S.T b q * S.T r c
  . rw [if_pos e] at h
    exact ⟨Int.le_of_eq e, fun _ => Nat.le_of_lt (of_decide_eq_true h)⟩
  . rw [if_neg e] at h
    have := of_decide_eq_true h
    exact ⟨Int.le_of_lt this, fun z => absurd z e⟩
theorem a8z {q : Nat} {S : Lp.Bo} {c r b : Nat} (h : Z7 q S r b c = false) : Bet q S c b r := by
  unfold Z7 at h
  by_cases e : S.T r q * S.T b c = S.T b q * S.T r c
  . rw [if_pos e] at h
    exact ⟨Int.le_of_eq e.symm, fun _ => Nat.le_of_not_lt (of_decide_eq_false h)⟩
  . rw [if_neg e] at h
    have := of_decide_eq_false h
    exact ⟨by lia, fun z => absurd z.symm e⟩
section
variable {P : Program} {w : World} {K : W.Frag} {mg : Str -> Option Value} {base : Heap} {f g : Addr} {fd gd : FuncData} {n : Nat} {C : Addr}
def a4y (C : Addr) : Sp := fun vs H Q _ => ∃ (p dx ca oa ia : Addr) (rs : List Addr) (m q : Nat) (S : Lp.Bo) (c : Nat), vs = [.ref p, .int c] /\ Bd C H p dx ca oa ia rs m q S /\ Sz 4000 m q S /\ m < 1000 /\ c < q + 1 ∧
  ((∀ i, i < m -> ¬ 0 < S.T i c) -> Q .non H) /\ ∀ r, r < m -> 0 < S.T r c -> (∀ i, i < m -> 0 < S.T i c -> Bet q S c r i) -> Q (.int r) H
theorem scGoing : m6 ["self", "column", "best", "row"] ["self", "column"] (i9 a3A) := ⟨rfl, rfl, rfl, by decide +kernel, rfl, by decide +kernel, by decide +kernel⟩
theorem a6n (F : Fun K "going" "Board.going" a3A f fd) (N : B7 mg) (T : TB K C) (A1 : a5k P w K mg base n C "is_ahead" ["self", "row", "other", "column"] (a4t C) g gd) : FnOk P w K mg base G8 (n + 1) f fd ["self", "column"] (a4y C) := by
  refine F.ok scGoing (fun vs H Q E h => ?_) (fun cdv A outer s H vs Q E hr h => ?_)
  . obtain ⟨p, dx, ca, oa, ia, rs, m, q, S, c, rfl, _⟩ := h
    rfl
  obtain ⟨p, dx, ca, oa, ia, rs, m, q, S, c, rfl, B, hz, hm, hc, kN, kI⟩ := h
  refine ⟨_, j0 (l0 (i := 2) scGoing.nd rfl (Or.inl rfl) N3)
    (j0 (T0 PassesOwn.never rfl (V2 rfl N.range (c5 (j8 j9 rfl N.len PySem.boot_len (c5 (v9 (pv 0) rfl) c7)) c7)) (m9 (i := 3) scGoing.nd rfl (Or.inl rfl))
      (j4 (A5 (PW.pt (Y9 (r8 S7 (j6 j5 (j6 j5 (v9 (pv 0) rfl) (pv 3) (fun _ _ => rfl)) (pv 1) (fun _ _ => rfl)) c6 (r6 _))
          (U8 (PW.pt (a4H (r8 a2s (pv 2) N3 (r6 _)) (a2o (Q1 (a1Z (pv 0) T.cl A1.me A1.ok hr A1.bd .nil v8 (c5 (pv 3) (c5 (pv 2) (c5 (pv 1) c7)))))))))))
        (j4 (l0 (i := 2) scGoing.nd rfl (Or.inl rfl) (pv 3))) t0)))
    (j4 (t7 (pv 2)))), ?_⟩
  have lm : ((N6 m S).map V.int).length = m := by unfold N6; simp
  refine ⟨_, rfl, p, C, dx, _, _, rfl, B.obj, T.cl, T.nI, rfl, ia, _, rfl, .inl (SqL.of B.inn), _, rfl, (by rw [lm]; lia), (by rw [lm]; lia), ?_⟩
  rw [lm, Int.toNat_natCast]
  refine a0a (n := m) (fun k σ H' => ∃ (b o3 : Option V), σ = [some (.ref p), some (.int c), b, o3] /\ H' = H /\ ((b = some .non /\ ∀ i, i < k -> ¬ 0 < S.T i c) \/ ∃ r : Nat, b = some (.int r) /\ r < k /\ 0 < S.T r c /\ ∀ i, i < k -> 0 < S.T i c -> Bet q S c r i))
    ⟨_, _, rfl, rfl, .inl ⟨rfl, fun i hi => absurd hi (Nat.not_lt_zero _)⟩⟩ (fun k σ H' hk hP => ?_) fun σ H' hP => ?_
  . obtain ⟨b, o3, rfl, rfl, hb⟩ := hP
    obtain ⟨rk, ek, ak⟩ := B.rs_at (i := k) (by lia)
    have zk : (0 : Int) + (k : Int) = (k : Int) := Int.zero_add _
    rw [zk]
    refine ⟨_, rfl, p, C, dx, _, _, rfl, B.obj, T.cl, T.nC, rfl, _, rfl, ca, _, _, _, rfl, rfl, SqL.of B.cel, ak, _, rfl, rk, _, _, _, rfl, rfl, SqL.of (B.row k rk ek), V5 hc, _, _, rfl, rfl, _, rfl, ?_⟩
    have keep : ¬ 0 < S.T k c -> ((b = some .non /\ ∀ i, i < k + 1 -> ¬ 0 < S.T i c) \/ ∃ r : Nat, b = some (.int r) /\ r < k + 1 /\ 0 < S.T r c /\ ∀ i, i < k + 1 -> 0 < S.T i c -> Bet q S c r i) := fun hn => by
      rcases hb with ⟨e, hb⟩ | ⟨r, e, h1, h2, h3⟩
      . refine .inl ⟨e, fun i hi => ?_⟩
        by_cases z : i = k
        . subst z; exact hn
        . exact hb i (by lia)
      . refine .inr ⟨r, e, by lia, h2, fun i hi hp => ?_⟩
        by_cases z : i = k
        . subst z; exact absurd hp hn
        . exact h3 i (by lia) hp
    refine D8 (fun d => ?_) (fun d => ?_)
    . have d' : 0 < S.T k c := of_decide_eq_true d
      rcases hb with ⟨rfl, hb⟩ | ⟨r, rfl, h1, h2, h3⟩
      . refine ⟨_, rfl, rfl, _, rfl, ?_⟩
        refine D8 (fun _ => ?_) (fun z => absurd (decide_eq_true rfl) z)
        refine a2D ?_
        refine ⟨_, rfl, ⟨_, _, rfl, rfl, .inr ⟨k, rfl, by lia, d', fun i hi hp => ?_⟩⟩⟩
        by_cases z : i = k
        . subst z; exact ⟨Int.le_refl _, fun _ => Nat.le_refl _⟩
        . exact absurd hp (hb i (by lia))
      . refine ⟨_, rfl, rfl, _, rfl, ?_⟩
        refine D8 (fun z => absurd (of_decide_eq_true z) (by nofun)) (fun _ => ?_)
        refine ⟨_, rfl, p, dx, _, rfl, B.obj, rfl, _, rfl, _, rfl, _, rfl, ?_⟩
        refine ⟨p, dx, ca, oa, ia, rs, m, q, S, k, r, c, rfl, B, hz, hk, by lia, hc, _, rfl, ?_⟩
        refine D8 (fun e => ?_) (fun e => ?_)
        . have bt := a5W e
          refine ⟨_, rfl, ⟨_, _, rfl, rfl, .inr ⟨k, rfl, by lia, d', fun i hi hp => ?_⟩⟩⟩
          by_cases z : i = k
          . subst z; exact ⟨Int.le_refl _, fun _ => Nat.le_refl _⟩
          . exact bt.trans (h3 i (by lia) hp) d' h2 hp
        . have bt := a8z (Bool.eq_false_iff.mpr e)
          refine ⟨_, _, rfl, rfl, .inr ⟨r, rfl, by lia, h2, fun i hi hp => ?_⟩⟩
          by_cases z : i = k
          . subst z; exact bt
          . exact h3 i (by lia) hp
    . have d' : ¬ 0 < S.T k c := fun z => d (decide_eq_true z)
      exact ⟨_, _, rfl, rfl, keep d'⟩
  . obtain ⟨b, o3, rfl, rfl, hb⟩ := hP
    rcases hb with ⟨rfl, hb⟩ | ⟨r, rfl, h1, h2, h3⟩
    . exact ⟨_, rfl, kN hb⟩
    . exact ⟨_, rfl, kI r h1 h2 h3⟩
end
end Rim
namespace Rim
open PySem L2
abbrev b2N : Str := ("Board.coming" ++ ".<locals>.") ++ "<lambda>"
abbrev LT (Pt : Addr) (H : Hp) : Prop := LamTab Pt b0n b2N H
section
variable {P : Program} {w : World} {K : W.Frag} {mg : Str -> Option Value} {base : Heap} {f g c Pt : Addr} {fd gd : FuncData} {n : Nat} {C : Addr}
def a1r (C Pt : Addr) : Sp := fun vs H Q _ => ∃ (p dx ca oa ia : Addr) (rs : List Addr) (m q : Nat) (S : Lp.Bo), vs = [.ref p] /\ Bd C H p dx ca oa ia rs m q S /\ q < 1000 /\ LT Pt H ∧
  ∀ H', Same1 Pt H H' -> LT Pt H' -> ((∀ j, j < q -> ¬ S.T m j < 0) -> Q .non H') /\ ∀ j, j < q -> S.T m j < 0 -> (∀ i, i < q -> S.T m i < 0 -> S.outs j <= S.outs i) -> Q (.int j) H'
theorem scComing : m6 ["self", "columns"] ["self"] (i9 a1R) := ⟨rfl, rfl, rfl, by decide +kernel, rfl, by decide +kernel, by decide +kernel⟩
theorem b1p : (["column", "self"] : List Str).Nodup := by decide +kernel
theorem LamTab.new {Pt a : Addr} {pos : Pos} {qual : Str} {H : Hp} {o : HO} (T : LamTab Pt pos qual H) (h : H a = none) : LamTab Pt pos qual (upd H a o) := T.same fun b u e => by rw [h8 (i7 e h)]; exact e
def a5D (q : Nat) (S : Lp.Bo) (m : Nat) : List Int := ((List.range q).filter fun j => decide (S.T m j < 0)).map fun (j : Nat) => (j : Int)
theorem a6o {q : Nat} {S : Lp.Bo} {m : Nat} : ((List.range q).map fun (i : Nat) => V.int (0 + (i : Int))).filter (fun v => decide (S.T m (vI v).toNat < 0)) = (a5D q S m).map V.int := by
  unfold a5D
  rw [List.filter_map, List.map_map]
  have e : ((fun v => decide (S.T m (vI v).toNat < 0)) ∘ fun (i : Nat) => V.int (0 + (i : Int))) = fun j => decide (S.T m j < 0) := by
    funext j
    show decide (S.T m (vI (V.int (0 + (j : Int)))).toNat < 0) = _
    rw [show (vI (V.int (0 + (j : Int)))).toNat = j from by simp [vI]]
  rw [e]
  refine List.map_congr_left fun j _ => ?_
  simp
theorem Bd.lam {H H' : Hp} {p dx ca oa ia : Addr} {rs : List Addr} {m q : Nat} {S : Lp.Bo} (B : Bd C H p dx ca oa ia rs m q S) (T : LT Pt H) (e : Same1 Pt H H') : Bd C H' p dx ca oa ia rs m q S := by
  refine B.same1 (P := Pt) fun b o q n => e b o (fun z => ?_) q
  subst z
  rcases T with t | ⟨c, t, _⟩
  . rw [q] at t; exact n _ (Option.some.inj t)
  . rw [q] at t; exact n _ (Option.some.inj t)
theorem a5U (F : Fun K "coming" "Board.coming" a1R f fd) (hcode : fd.code = .ref c) (CH : W.CodeHd base c Pt) (BM : P0 mg base) (N : B7 mg) (T : TB K C) : FnOk P w K mg base G8 (n + 3) f fd ["self"] (a1r C Pt) := by
  refine F.okC hcode scComing (fun vs H Q E h => ?_) (fun A outer s H vs Q E hr h => ?_)
  . obtain ⟨p, dx, ca, oa, ia, rs, m, q, S, rfl, _⟩ := h
    rfl
  obtain ⟨p, dx, ca, oa, ia, rs, m, q, S, rfl, B, hq, L, k⟩ := h
  refine ⟨_, j0 (a9Q (i := 1) ["column"] [0] scComing.nd rfl rfl rfl (V2 rfl N.range (c5 (v9 (pv 0) rfl) c7)) (fun _ _ _ _ => m9 (i := 0) b1p rfl (Or.inl rfl))
      (fun _ _ _ _ => r8 R5 (j6 (a1X K rfl) (j6 (a1X K rfl) (a2y K rfl (pv 1) rfl) (Q4 M0 c6) (fun _ _ => rfl)) (pv 0) (fun _ _ => rfl)) c6 (r6 _))
      (fun _ _ _ _ => pv 0))
    (j4 (t7 (a5F (col := "column") (fr := [0]) (c := c) (P := Pt) rfl (hr.mono (by lia)) rfl N.min rfl CH BM rfl rfl (by decide +kernel) rfl rfl rfl (fun _ _ _ _ => rfl) (c5 (pv 1) c7)
      (fun _ _ _ _ => j6 (a1X K rfl) (a2y K rfl (pv 1) rfl) (pv 0) (fun _ _ => rfl))))), ?_⟩
  refine ⟨_, rfl, p, C, dx, _, _, rfl, B.obj, T.cl, T.nM, rfl, _, rfl, (by lia), (by lia), ?_⟩
  rw [Int.toNat_natCast]
  intro l hl
  obtain ⟨rm, em, am⟩ := B.rs_last
  refine a8a a3K hl (by rw [List.length_map, List.length_range]; exact j7 (by lia)) (fun v => decide (S.T m (vI v).toNat < 0)) (fun i x H' N' hx e hN => ?_) ?_
  . have hx' : x = .int (i : Int) /\ i < q := by
      rw [List.getElem?_map] at hx
      by_cases hi : i < q
      . rw [List.getElem?_range hi] at hx
        refine ⟨?_, hi⟩
        have := Option.some.inj hx
        rw [<- this]; simp
      . rw [List.getElem?_eq_none (by simp; lia)] at hx; cases hx
    obtain ⟨rfl, hi⟩ := hx'
    have e' : ∀ b o, H b = some o -> H' b = some o := fun b o z => e b o z
    refine ⟨_, rfl, p, C, dx, _, _, rfl, e' _ _ B.obj, T.cl, T.nC, rfl, _, rfl, ca, _, _, _, rfl, rfl, SqL.of (e' _ _ B.cel), am, _, rfl, rm, _, _, _, rfl, rfl, SqL.of (e' _ _ (B.row m rm em)), V5 (by lia), _, _, rfl, rfl, _, rfl, ?_⟩
    have ev : decide (S.T m (vI (V.int (i : Int))).toNat < 0) = decide (S.T m i < 0) := by rw [show (vI (V.int (i : Int))).toNat = i from by simp [vI]]
    rw [ev] at hN
    exact hN
  rw [a6o]
  have L2' : LT Pt (upd H l (.lst ((a5D q S m).map V.int))) := LamTab.new L hl
  have B2 : Bd C (upd H l (.lst ((a5D q S m).map V.int))) p dx ca oa ia rs m q S := B.same1 (P := Pt) fun b o z _ => by rw [h8 (i7 z hl)]; exact z
  have mem : ∀ x : Int, x ∈ a5D q S m ↔ ∃ j : Nat, x = (j : Int) /\ j < q /\ S.T m j < 0 := fun x => by
    unfold a5D
    rw [List.mem_map]
    constructor
    . rintro ⟨j, hj, rfl⟩
      rw [List.mem_filter, List.mem_range] at hj
      exact ⟨j, rfl, hj.1, of_decide_eq_true hj.2⟩
    . rintro ⟨j, rfl, h1, h2⟩
      exact ⟨j, by rw [List.mem_filter, List.mem_range]; exact ⟨h1, decide_eq_true h2⟩, rfl⟩
  refine ⟨_, rfl, l, _, fun x => (S.outs x.toNat : Int), rfl, SqL.of upd_same, L2', fun H2 e2 L3 => ?_⟩
  have B3 := B2.lam L2' e2
  have e3 : Same1 Pt H H2 := fun b o hb z => e2 b o hb (by rw [h8 (i7 z hl)]; exact z)
  obtain ⟨k1, k2⟩ := k H2 e3 L3
  refine ⟨fun x hx => ?_, fun en => k1 fun j hj hn => ?_, fun M hM hmin => ?_⟩
  . obtain ⟨j, rfl, hj, hn⟩ := (mem x).mp hx
    exact ⟨_, rfl, p, C, dx, _, _, rfl, B3.obj, T.cl, T.nO, rfl, _, rfl, oa, _, _, _, rfl, rfl, SqL.of B3.out, a0P hj, by simp, rfl⟩
  . have := (mem (j : Int)).mpr ⟨j, rfl, hj, hn⟩
    rw [en] at this
    cases this
  . obtain ⟨j, rfl, hj, hn⟩ := (mem M).mp hM
    refine k2 j hj hn fun i hi hni => ?_
    have := hmin (i : Int) ((mem _).mpr ⟨i, rfl, hi, hni⟩)
    simpa using this
end
end Rim
namespace Rim
open PySem L2
def W8 (xs ys : List Int) (c : Nat) (d : Int) : List Int := (List.zipWith (fun x y => (x * ys.getD c 0 - xs.getD c 0 * y) / d) xs ys).set c (-(xs.getD c 0))
theorem a3i {ns : List Int} {i : Nat} (h : i < ns.length) : X7 (ns.map V.int) (i : Int) = some (.int (ns.getD i 0)) := y6 (by
  rw [List.getElem?_map, List.getElem?_eq_getElem h, List.getD_eq_getElem?_getD, List.getElem?_eq_getElem h]; rfl)
theorem Y5 {ns : List Int} {i : Nat} {x : V} (h : (ns.map V.int)[i]? = some x) : ∃ k, x = .int k /\ k ∈ ns := by
  rw [List.getElem?_map] at h
  cases hn : ns[i]? with
  | none => rw [hn] at h; cases h
  | some k => rw [hn] at h; cases h; exact ⟨k, rfl, List.mem_of_getElem? hn⟩
theorem a4E (F : V -> V -> V) (G : Int -> Int -> Int) (h : ∀ a b, F (.int a) (.int b) = .int (G a b)) : ∀ xs ys : List Int, List.zipWith F (xs.map V.int) (ys.map V.int) = (List.zipWith G xs ys).map V.int
  | [], _ => by simp
  | _ :: _, [] => by simp
  | x :: xs, y :: ys => by simp [h, a4E F G h xs ys]
theorem a1x {ns : List Int} {i : Nat} (h : i < ns.length) : ns.getD i 0 ∈ ns := by
  rw [List.getD_eq_getElem?_getD, List.getElem?_eq_getElem h]; exact List.getElem_mem h
section
variable {P : Program} {w : World} {K : W.Frag} {mg : Str -> Option Value} {base : Heap} {f g c Pt : Addr} {fd gd : FuncData} {n : Nat} {C : Addr}
def a2p (K : W.Frag) : Sp := fun vs H Q _ => ∃ (a b : Addr) (c : Nat) (d : Int) (xs ys : List Int), vs = [.ref a, .ref b, .int c, .int d] /\ SqL K H a (xs.map V.int) /\ SqL K H b (ys.map V.int) /\ xs.length = ys.length /\ xs.length <= 1000 /\ c < xs.length ∧
  0 < d /\ Big 4000 d /\ (∀ x ∈ xs, Big 4000 x) /\ (∀ y ∈ ys, Big 4000 y) /\ ∀ (r : Addr) (H' : Hp), Same H H' -> H r = none -> H' r = some (.lst ((W8 xs ys c d).map V.int)) -> Q (.ref r) H'
theorem scSwept : m6 ["cells", "lead", "column", "scale", "factor", "pivot", "fresh"] ["cells", "lead", "column", "scale"] (i9 a3S) := ⟨rfl, rfl, rfl, by decide +kernel, rfl, by decide +kernel, by decide +kernel⟩
theorem b1e : (["cell", "other", "scale", "factor", "pivot"] : List Str).Nodup := by decide +kernel
set_option maxHeartbeats 4000000 in
theorem a7j (F : Fun K "swept" "swept" a3S f fd) (N : B7 mg) : FnOk P w K mg base G8 (n + 1) f fd ["cells", "lead", "column", "scale"] (a2p K) := by
  refine F.ok scSwept (fun vs H Q E h => ?_) (fun cdv A outer s H vs Q E hr h => ?_)
  . obtain ⟨a, b, c, d, xs, ys, rfl, _⟩ := h
    rfl
  obtain ⟨a, b, c, d, xs, ys, rfl, ha, hb, hl, hz, hc, hd, hD, hx, hy, k⟩ := h
  refine ⟨_, j0 (l0 (i := 4) scSwept.nd rfl (Or.inr rfl) (j6 j5 (pv 0) (pv 2) (fun _ _ => rfl)))
    (j0 (l0 (i := 5) scSwept.nd rfl (Or.inr rfl) (j6 j5 (pv 1) (pv 2) (fun _ _ => rfl)))
    (j0 (a2I (i := 6) ["cell", "other"] [3, 4, 5] scSwept.nd rfl rfl rfl (a9e true true K rfl rfl N.zip (c5 (pv 0) (c5 (pv 1) c7)))
      (fun _ _ _ _ => a1q K (n := 2) rfl rfl (v6 (m9 (i := 0) b1e rfl (Or.inl rfl)) (v6 (m9 (i := 1) b1e rfl (Or.inl rfl)) J4)))
      (fun _ _ _ _ => j3 a1g (j3 a3Q (j3 V0 (pv 0) (pv 4)) (j3 V0 (pv 3) (pv 1))) (pv 2)))
    (j0 (J3 (Q4 M0 (pv 4)) (O3 (pv 6) (pv 2) E8))
    (j4 (t7 (pv 6)))))), ?_⟩
  have hc2 : c < ys.length := by lia
  refine ⟨_, rfl, _, rfl, a, _, _, _, rfl, rfl, ha, a3i hc, ?_⟩
  refine ⟨_, rfl, _, rfl, b, _, _, _, rfl, rfl, hb, a3i hc2, ?_⟩
  refine ⟨_, rfl, _, rfl, a, b, rfl, ⟨_, ha⟩, ⟨_, hb⟩, fun l hl' => ?_⟩
  have up : ∀ {x}, Big 4000 x -> Big 1000000 x := fun h => a7f h (by decide)
  refine b1w ha hb hl' (by rw [List.length_map]; exact j7 hz) (fun u v => .int ((vI u * ys.getD c 0 - xs.getD c 0 * vI v) / d)) (fun i u v H' N' hu hv e hN => ?_) (fun H' e hH => ?_)
  . obtain ⟨x, rfl, hxm⟩ := Y5 hu
    obtain ⟨y, rfl, hym⟩ := Y5 hv
    have dl : d < 2 ^ 8000 := by
      have h1 : d.natAbs < 2 ^ 4000 := hD
      have h2 : (2 : Nat) ^ 4000 <= 2 ^ 8000 := Nat.pow_le_pow_right (by decide) (by decide)
      have h3 : d = (d.natAbs : Int) := by lia
      rw [h3]
      exact_mod_cast Nat.lt_of_lt_of_le h1 h2
    refine ⟨_, rfl, _, rfl, _, _, rfl, rfl, ⟨up (hx _ hxm), up (hy _ (a1x hc2))⟩, _, rfl, _, rfl, _, _, rfl, rfl, ⟨up (hx _ (a1x hc)), up (hy _ hym)⟩, _, _, rfl, rfl, _, rfl, _, _, rfl, rfl, ⟨hd, dl⟩, hN⟩
  . rw [a4E _ (fun x y => (x * ys.getD c 0 - xs.getD c 0 * y) / d) (fun _ _ => rfl)] at hH
    refine ⟨_, rfl, _, rfl, ?_⟩
    refine ⟨_, rfl, _, rfl, l, _, _, c, rfl, rfl, hH, ?_, ?_⟩
    . unfold ixN
      rw [List.length_map, List.length_zipWith, if_pos (by lia), if_pos (by lia), Int.toNat_natCast]
    . refine ⟨_, rfl, k l _ ?_ hl' ?_⟩
      . exact fun b' o q => by rw [h8 (i7 q hl')]; exact e b' o q
      . rw [upd_same]
        unfold W8
        rw [<- List.map_set]
end
end Rim
namespace Rim
open PySem L2
structure a1k (P : Program) (w : World) (K : W.Frag) (mg : Str -> Option Value) (base : Heap) (n : Nat) (x : Str) (ps : List Str) (sp : Sp) (fa : Addr) (d : FuncData) : Prop where
  ok : FnOk P w K mg base G8 n fa d ps sp
  b : Binds K d ps []
  k : W.keepIn K (.ref fa) = true
  m : mg x = some (.ref fa)
theorem D5 {q : Nat} {S : Lp.Bo} {i : Nat} : (A3 q S i).length = q + 1 := by unfold A3; simp
theorem a1J {q : Nat} {S : Lp.Bo} {i j : Nat} (h : j < q + 1) : (A3 q S i).getD j 0 = S.T i j := by
  unfold A3
  rw [List.getD_eq_getElem?_getD, List.getElem?_map, List.getElem?_range h]; rfl
theorem a5i {q : Nat} {S : Lp.Bo} {i r c : Nat} (hi : i ≠ r) (hc : c < q) : W8 (A3 q S i) (A3 q S r) c S.d = A3 q (Lp.piv S r c) i := by
  refine List.ext_getElem? fun j => ?_
  unfold W8
  by_cases hj : j < q + 1
  . rw [a1J (by lia), a1J (by lia)]
    have e : (A3 q (Lp.piv S r c) i)[j]? = some ((Lp.piv S r c).T i j) := by unfold A3; rw [List.getElem?_map, List.getElem?_range hj]; rfl
    have hT : (Lp.piv S r c).T i j = if j = c then - S.T i c else (S.T i j * S.T r c - S.T i c * S.T r j) / S.d := by
      show (if i = r then _ else _) = _
      rw [if_neg hi]
    rw [e, hT]
    by_cases hjc : j = c
    . subst hjc
      rw [List.getElem?_set_self (by rw [List.length_zipWith, D5, D5]; lia), if_pos rfl]
    . rw [List.getElem?_set_ne (Ne.symm hjc), List.getElem?_zipWith, if_neg hjc]
      unfold A3
      rw [List.getElem?_map, List.getElem?_map, List.getElem?_range hj]; rfl
  . rw [List.getElem?_eq_none (by rw [List.length_set, List.length_zipWith, D5, D5]; lia), List.getElem?_eq_none (by rw [D5]; lia)]
theorem a6E {q : Nat} {S : Lp.Bo} {r c : Nat} (hc : c < q) : (((A3 q S r).map V.int).take c ++ [V.int S.d]) ++ ((A3 q S r).map V.int).drop (c + 1) = (A3 q (Lp.piv S r c) r).map V.int := by
  have hT : ∀ j, (Lp.piv S r c).T r j = if j = c then S.d else S.T r j := fun j => by
    show (if r = r then _ else _) = _
    rw [if_pos rfl]
  have hl : ((A3 q S r).map V.int).length = q + 1 := by rw [List.length_map, D5]
  refine List.ext_getElem? fun j => ?_
  by_cases hj : j < q + 1
  . have e : ((A3 q (Lp.piv S r c) r).map V.int)[j]? = some (.int (if j = c then S.d else S.T r j)) := by
      rw [List.getElem?_map]; unfold A3; rw [List.getElem?_map, List.getElem?_range hj, <- hT]; rfl
    have e0 : ((A3 q S r).map V.int)[j]? = some (.int (S.T r j)) := by
      rw [List.getElem?_map]; unfold A3; rw [List.getElem?_map, List.getElem?_range hj]; rfl
    rw [e]
    have lt : (((A3 q S r).map V.int).take c).length = c := by rw [List.length_take, hl]; lia
    by_cases h1 : j < c
    . rw [List.getElem?_append_left (by rw [List.length_append, lt]; lia), List.getElem?_append_left (by lia), List.getElem?_take_of_lt h1, e0, if_neg (by lia)]
    . by_cases h2 : j = c
      . subst h2
        rw [List.getElem?_append_left (by rw [List.length_append, lt]; simp), List.getElem?_append_right (by lia), lt, Nat.sub_self, if_pos rfl]; rfl
      . rw [List.getElem?_append_right (by rw [List.length_append, lt]; simp; lia), List.length_append, lt, List.getElem?_drop, if_neg h2]
        have : c + 1 + (j - (c + [V.int S.d].length)) = j := by simp; lia
        rw [this, e0]
  . rw [List.getElem?_eq_none (by rw [List.length_append, List.length_append, List.length_take, List.length_drop, hl]; simp; lia), List.getElem?_eq_none (by rw [List.length_map, D5]; lia)]
theorem a8L {m : Nat} {S : Lp.Bo} {r c : Nat} (hr : r < m) : ((N6 m S).map V.int).set r (.int (S.outs c)) = (N6 m (Lp.piv S r c)).map V.int := by
  refine List.ext_getElem? fun j => ?_
  have hT : (Lp.piv S r c).ins j = if j = r then S.outs c else S.ins j := rfl
  by_cases hj : j < m
  . have e : ((N6 m (Lp.piv S r c)).map V.int)[j]? = some (.int ((if j = r then S.outs c else S.ins j : Nat))) := by
      rw [List.getElem?_map]; unfold N6; rw [List.getElem?_map, List.getElem?_range hj, <- hT]; rfl
    rw [e]
    by_cases h : j = r
    . subst h
      rw [List.getElem?_set_self (by unfold N6; simp; lia), if_pos rfl]
    . rw [List.getElem?_set_ne (Ne.symm h), if_neg h, List.getElem?_map]
      unfold N6; rw [List.getElem?_map, List.getElem?_range hj]; rfl
  . rw [List.getElem?_eq_none (by unfold N6; simp; lia), List.getElem?_eq_none (by unfold N6; simp; lia)]
theorem a7E {q : Nat} {S : Lp.Bo} {r c : Nat} (hc : c < q) : ((K3 q S).map V.int).set c (.int (S.ins r)) = (K3 q (Lp.piv S r c)).map V.int := by
  refine List.ext_getElem? fun j => ?_
  have hT : (Lp.piv S r c).outs j = if j = c then S.ins r else S.outs j := rfl
  by_cases hj : j < q
  . have e : ((K3 q (Lp.piv S r c)).map V.int)[j]? = some (.int ((if j = c then S.ins r else S.outs j : Nat))) := by
      rw [List.getElem?_map]; unfold K3; rw [List.getElem?_map, List.getElem?_range hj, <- hT]; rfl
    rw [e]
    by_cases h : j = c
    . subst h
      rw [List.getElem?_set_self (by unfold K3; simp; lia), if_pos rfl]
    . rw [List.getElem?_set_ne (Ne.symm h), if_neg h, List.getElem?_map]
      unfold K3; rw [List.getElem?_map, List.getElem?_range hj]; rfl
  . rw [List.getElem?_eq_none (by unfold K3; simp; lia), List.getElem?_eq_none (by unfold K3; simp; lia)]
theorem a0O {n i : Nat} (h : i < n) : ixN n (i : Int) = some i := by
  unfold ixN
  rw [if_pos (by lia), if_pos (by lia), Int.toNat_natCast]
end Rim
namespace Rim
open PySem L2
section
variable {P : Program} {w : World} {K : W.Frag} {mg : Str -> Option Value} {base : Heap} {f g c Pt : Addr} {fd gd : FuncData} {n : Nat} {C : Addr}
def a1l (C : Addr) : Sp := fun vs H Q _ => ∃ (p dx ca oa ia : Addr) (rs : List Addr) (m q : Nat) (S : Lp.Bo) (r c : Nat), vs = [.ref p, .int r, .int c] /\ Bd C H p dx ca oa ia rs m q S /\ Sz 4000 m q S /\ r < m /\ c < q /\ m < 900 /\ q < 900 /\ 0 < S.d ∧
  ∀ (H' : Hp) (ca' : Addr) (rs' : List Addr), Bd C H' p dx ca' oa ia rs' m q (Lp.piv S r c) -> (∀ b o, b ≠ p -> b ≠ oa -> b ≠ ia -> H b = some o -> H' b = some o) -> Q .non H'
theorem scEx : m6 ["self", "row", "column", "lead", "pivot"] ["self", "row", "column"] (i9 M7) := ⟨rfl, rfl, rfl, by decide +kernel, rfl, by decide +kernel, by decide +kernel⟩
theorem b2K : (["cells", "self", "column", "lead"] : List Str).Nodup := by decide +kernel
set_option maxHeartbeats 4000000 in
noncomputable def exT {cdv : Value} {A : Around} {outer : List Env} {s : Shared} {H : Hp} {E : XK} {fb : Addr} {db : FuncData} (Cs : a1k P w K mg base n "swept" ["cells", "lead", "column", "scale"] (a2p K) fb db)
    (hr : Room n (A.deeper (PyProof.Rows.envOfC "Board.exchange" (i9 M7) s.heap.objs.size f cdv))) :
    { t : TS // PSs (M1 G8 P w K mg base ["self", "row", "column", "lead", "pivot"] "Board.exchange" (i9 M7) f cdv A outer s H E).nox (y4 M7) t } :=
  ⟨_, j0 (l0 (i := 3) scEx.nd rfl (Or.inr rfl) (j6 j5 (v9 (pv 0) rfl) (pv 1) (fun _ _ => rfl)))
    (j0 (l0 (i := 4) scEx.nd rfl (Or.inl rfl) (j6 j5 (pv 3) (pv 2) (fun _ _ => rfl)))
    (r9 (X2 (pv 0) (R0 ["cells"] [0, 2, 3] rfl (G5 (v9 (pv 0) rfl)) (fun _ _ _ _ => m9 (i := 0) b2K rfl (Or.inl rfl))
      (fun _ _ _ _ => m8 Cs.ok hr rfl Cs.m Cs.k Cs.b .nil v8 (c5 (pv 0) (c5 (pv 3) (c5 (pv 2) (c5 (a2y K rfl (pv 1) rfl) c7)))))) rfl)
    (j0 (J3 (j3 D6 (j3 D6 (B6 G4 (pv 3) F0 (C3 (pv 2))) (x6 (c5 (v9 (pv 0) rfl) c7))) (B6 G4 (pv 3) (C3 (j3 A4 (pv 2) c6)) F0)) (O3 (v9 (pv 0) rfl) (pv 1) E8))
    (j0 (X2 (pv 0) (pv 4) rfl)
    (j4 (J3 (D7 (c5 (j6 j5 (v9 (pv 0) rfl) (pv 2) (fun _ _ => rfl)) (c5 (j6 j5 (v9 (pv 0) rfl) (pv 1) (fun _ _ => rfl)) c7)))
      (X4 rfl (v6 (O3 (v9 (pv 0) rfl) (pv 1) E8) (v6 (O3 (v9 (pv 0) rfl) (pv 2) E8) J4)))))))))⟩
end
end Rim
namespace Rim
open PySem L2
def a5u : V -> Addr
  | .ref a => a
  | _ => 0
section
variable {P : Program} {w : World} {K : W.Frag} {mg : Str -> Option Value} {base : Heap} {f g c Pt : Addr} {fd gd : FuncData} {n : Nat} {C : Addr}
theorem a3o {m q i : Nat} {S : Lp.Bo} (h : Sz 4000 m q S) (hi : i < m + 1) : ∀ x ∈ A3 q S i, Big 4000 x := fun x hx => by
  unfold A3 at hx
  obtain ⟨j, hj, rfl⟩ := List.mem_map.mp hx
  exact h.1 i j hi (List.mem_range.mp hj)
set_option maxHeartbeats 8000000 in
theorem a3e {fb : Addr} {db : FuncData} (F : Fun K "exchange" "Board.exchange" M7 f fd) (T : TB K C) (Cs : a1k P w K mg base n "swept" ["cells", "lead", "column", "scale"] (a2p K) fb db) :
    FnOk P w K mg base G8 (n + 1) f fd ["self", "row", "column"] (a1l C) := by
  refine F.ok scEx (fun vs H Q E h => ?_) (fun cdv A outer s H vs Q E hr h => ?_)
  . obtain ⟨p, dx, ca, oa, ia, rs, m, q, S, r, c, rfl, _⟩ := h
    rfl
  obtain ⟨p, dx, ca, oa, ia, rs, m, q, S, r, c, rfl, B, hz, hrm, hc, hm, hq, hd, k⟩ := h
  refine ⟨_, (exT Cs hr).2, ?_⟩
  obtain ⟨rl, er, ar⟩ := B.rs_at (i := r) (by lia)
  have hrl := B.row r rl er
  have nrl : rl ≠ p := a1o hrl B.obj (by intro z; cases z)
  have noa : oa ≠ p := a1o B.out B.obj (by intro z; cases z)
  have nia : ia ≠ p := a1o B.inn B.obj (by intro z; cases z)
  refine ⟨_, rfl, p, C, dx, _, _, rfl, B.obj, T.cl, T.nC, rfl, _, rfl, ca, _, _, _, rfl, rfl, SqL.of B.cel, ar, ?_⟩
  refine ⟨_, rfl, _, rfl, rl, _, _, _, rfl, rfl, SqL.of hrl, V5 (by lia), ?_⟩
  refine ⟨fun σ' H3 => ∃ (l : Addr) (rs' : List Addr), σ' = [some (.ref p), some (.int r), some (.int c), some (.ref rl), some (.int (S.T r c))] /\ H3 p = some (.ins C dx (bdF q S.d l oa ia)) /\ H3 l = some (.lst (rs'.map V.ref)) /\ rs'.length = m + 1 /\ H l = none ∧
    (∀ i a, rs'[i]? = some a -> H a = none /\ a ≠ l /\ H3 a = some (.lst ((W8 (A3 q S i) (A3 q S r) c S.d).map V.int))) /\ ∀ b o, b ≠ p -> H b = some o -> H3 b = some o, ?_, ?_⟩
  . refine ⟨_, rfl, p, C, dx, _, _, rfl, B.obj, T.cl, T.nC, rfl, ca, rfl, ⟨_, SqL.of B.cel⟩, fun l hl => ?_⟩
    refine a2e (E1 (SqL.of B.cel)) hl (by rw [List.length_map, B.len]; exact j7 (by lia)) (fun i y H2 => ∃ a, y = .ref a /\ H a = none /\ a ≠ l /\ H2 a = some (.lst ((W8 (A3 q S i) (A3 q S r) c S.d).map V.int)))
      (fun i y H2 H3 ⟨a, h1, h2, h3, h4⟩ e => ⟨a, h1, h2, h3, e a _ h3 h4⟩) (fun i x H2 ys N hx e hl2 hN => ?_) (fun ys H2 e hl2 len pr => ?_)
    . rw [List.getElem?_map] at hx
      cases hri : rs[i]? with
      | none => rw [hri] at hx; cases hx
      | some a =>
        rw [hri] at hx
        have hx' : V.ref a = x := Option.some.inj hx
        subst hx'
        have hi : i < m + 1 := by rw [<- B.len]; exact (List.getElem?_eq_some_iff.mp hri).1
        refine ⟨Wk.set (by decide), ?_⟩
        refine ⟨_, rfl, _, rfl, _, rfl, _, rfl, p, C, dx, _, _, rfl, e _ _ B.obj, T.cl, T.nS, rfl, ?_⟩
        refine ⟨a, rl, c, S.d, A3 q S i, A3 q S r, rfl, SqL.of (e _ _ (B.row i a hri)), SqL.of (e _ _ hrl), by rw [D5, D5], by rw [D5]; lia, by rw [D5]; lia, hd, hz.2, a3o hz hi, a3o hz (by lia), fun r' H3 s3 hn hr' => ?_⟩
        refine hN _ _ s3 ⟨r', rfl, ?_, fun z => ?_, hr'⟩
        . cases q1 : H r' with
          | none => rfl
          | some o => rw [e _ _ q1] at hn; cases hn
        . rw [z, hl2] at hn; cases hn
    . have hp2 := e _ _ B.obj
      have nlp : p ≠ l := i7 B.obj hl
      refine ⟨_, rfl, p, C, dx, _, rfl, hp2, T.cl, T.nC, (by show 5 < 1000; decide), ?_⟩
      have hys : ys = (ys.map a5u).map V.ref := by
        rw [List.map_map]
        refine List.ext_getElem? fun i => ?_
        rw [List.getElem?_map]
        cases qi : ys[i]? with
        | none => rfl
        | some y =>
          obtain ⟨a, rfl, _⟩ := pr i y qi
          rfl
      refine ⟨l, ys.map a5u, rfl, upd_same, by rw [h8 nlp.symm, hl2]; rw [<- hys], by rw [List.length_map, len, List.length_map, B.len], hl, fun i a hi => ?_, fun b o hb hbo => by rw [h8 hb]; exact e _ _ hbo⟩
      rw [List.getElem?_map] at hi
      cases qi : ys[i]? with
      | none => rw [qi] at hi; cases hi
      | some y =>
        obtain ⟨a', rfl, h2, h3, h4⟩ := pr i y qi
        rw [qi] at hi
        have : a' = a := Option.some.inj hi
        subst this
        refine ⟨h2, h3, ?_⟩
        rw [h8 (fun z => by rw [z, hp2] at h4; cases h4)]
        exact h4
  . intro σ' H3 hM_; refine D4 fun G_ hG_ => ?_; obtain ⟨l, rs', rfl, hp, hl, hlen, hl0, hrs, hk⟩ := hM_; subst hG_
    have hr3 := hk rl _ nrl hrl
    have lr : ((A3 q S r).map V.int).length = q + 1 := by rw [List.length_map, D5]
    -- lead[:column] + [self.scale] + lead[column + 1:]
    refine ⟨_, rfl, _, rfl, _, rfl, rl, _, rfl, SqL.of hr3, fun a1 h1 => ?_⟩
    have e1 := Same.new h1 (.lst (A6 ((A3 q S r).map V.int) none (some (c : Int))))
    refine ⟨_, rfl, p, C, dx, _, _, rfl, e1 _ _ hp, T.cl, T.nS, rfl, (by show 1 <= sizeLine; decide), fun a2 h2 => ?_⟩
    have e2 := e1.trans (Same.new h2 (.lst [.int S.d]))
    have n12 : a1 ≠ a2 := i7 upd_same h2
    refine ⟨a1, a2, _, _, rfl, rfl, (by rw [h8 n12]; exact upd_same), upd_same, ?_, fun a3 h3 => ?_⟩
    . rw [a0f _ _ (by rw [lr]; lia), List.length_take, lr]
      have := j7 (show c + 1 <= 1000 by lia)
      simp
      lia
    have e3 := e2.trans (Same.new h3 (.lst (A6 ((A3 q S r).map V.int) none (some (c : Int)) ++ [.int S.d])))
    refine ⟨_, rfl, _, rfl, _, _, rfl, rfl, _, rfl, rl, _, rfl, SqL.of (e3 _ _ hr3), fun a4 h4 => ?_⟩
    have e4 := e3.trans (Same.new h4 (.lst (A6 ((A3 q S r).map V.int) (some ((c : Int) + 1)) none)))
    have n34 : a3 ≠ a4 := i7 upd_same h4
    have c1 : A6 ((A3 q S r).map V.int) none (some (c : Int)) = ((A3 q S r).map V.int).take c := a0f _ _ (by rw [lr]; lia)
    have c2 : A6 ((A3 q S r).map V.int) (some ((c : Int) + 1)) none = ((A3 q S r).map V.int).drop (c + 1) := by
      have := Y3 ((A3 q S r).map V.int) (c + 1) (by rw [lr]; lia)
      rw [<- this]; rfl
    refine ⟨a3, a4, _, _, rfl, rfl, (by rw [h8 n34]; exact upd_same), upd_same, ?_, fun a5 h5 => ?_⟩
    . rw [c1, c2, List.length_append, List.length_take, List.length_drop, lr]
      have := j7 (show q + 1 <= 1000 by lia)
      simp
      lia
    have hrow : (A6 ((A3 q S r).map V.int) none (some (c : Int)) ++ [.int S.d]) ++ A6 ((A3 q S r).map V.int) (some ((c : Int) + 1)) none = (A3 q (Lp.piv S r c) r).map V.int := by rw [c1, c2, a6E hc]
    have h5n : H3 a5 = none := by
      cases z : H3 a5 with
      | none => rfl
      | some o => rw [e4 _ _ z] at h5; cases h5
    have e5 := e4.trans (Same.new h5 (.lst ((A6 ((A3 q S r).map V.int) none (some (c : Int)) ++ [.int S.d]) ++ A6 ((A3 q S r).map V.int) (some ((c : Int) + 1)) none)))
    have u5 : ∀ H4 : Hp, upd H4 a5 (.lst ((A6 ((A3 q S r).map V.int) none (some (c : Int)) ++ [.int S.d]) ++ A6 ((A3 q S r).map V.int) (some ((c : Int) + 1)) none)) a5 = some (.lst ((A3 q (Lp.piv S r c) r).map V.int)) := fun H4 => upd_same.trans (congrArg (fun z => some (HO.lst z)) hrow)
    -- self.cells[row] = ..
    have oa3 := hk oa _ noa B.out
    have ia3 := hk ia _ nia B.inn
    have nlp : l ≠ p := (i7 B.obj hl0).symm
    have nlo : l ≠ oa := (i7 B.out hl0).symm
    have nli : l ≠ ia := (i7 B.inn hl0).symm
    have n5p : a5 ≠ p := (i7 hp h5n).symm
    have n5l : a5 ≠ l := (i7 hl h5n).symm
    have n5o : a5 ≠ oa := (i7 oa3 h5n).symm
    have n5i : a5 ≠ ia := (i7 ia3 h5n).symm
    have lrs : (rs'.map V.ref).length = m + 1 := by rw [List.length_map]; exact hlen
    refine ⟨_, rfl, p, C, dx, _, _, rfl, e5 _ _ hp, T.cl, T.nC, rfl, _, rfl, l, _, _, r, rfl, rfl, e5 _ _ hl, a0O (by rw [lrs]; lia), ?_⟩
    -- self.scale = pivot
    refine ⟨_, rfl, _, rfl, p, C, dx, _, rfl, (by rw [h8 nlp.symm]; exact e5 _ _ hp), T.cl, T.nS, (by show 5 < 1000; decide), ?_⟩
    -- the pair
    refine ⟨_, rfl, p, C, dx, _, _, rfl, upd_same, T.cl, T.nO, rfl, _, rfl, oa, _, _, _, rfl, rfl, SqL.of (by rw [h8 noa, h8 nlo.symm]; exact e5 _ _ oa3), a0P hc, ?_⟩
    refine ⟨_, rfl, p, C, dx, _, _, rfl, upd_same, T.cl, T.nI, rfl, _, rfl, ia, _, _, _, rfl, rfl, SqL.of (by rw [h8 nia, h8 nli.symm]; exact e5 _ _ ia3), a0C hrm, (by show 2 <= sizeLine; decide), fun t ht => ?_⟩
    have ntp : t ≠ p := (i7 upd_same ht).symm
    have ntl : t ≠ l := by
      refine (i7 (H := _) (o := .lst ((rs'.map V.ref).set r (.ref a5))) ?_ ht).symm
      rw [h8 nlp, upd_same]
    have nto : t ≠ oa := by
      refine (i7 (H := _) (o := .lst ((K3 q S).map V.int)) ?_ ht).symm
      rw [h8 noa, h8 nlo.symm]; exact e5 _ _ oa3
    have nti : t ≠ ia := by
      refine (i7 (H := _) (o := .lst ((N6 m S).map V.int)) ?_ ht).symm
      rw [h8 nia, h8 nli.symm]; exact e5 _ _ ia3
    refine ⟨t, _, rfl, SqT.of upd_same, rfl, ?_⟩
    refine ⟨_, _, rfl, _, rfl, p, C, dx, _, _, rfl, (by rw [h8 ntp.symm]; exact upd_same), T.cl, T.nI, rfl, _, rfl, ia, _, _, r, rfl, rfl, (by rw [h8 nti.symm, h8 nia, h8 nli.symm]; exact e5 _ _ ia3), a0O (by unfold N6; simp; lia), ?_⟩
    refine ⟨_, _, rfl, _, rfl, p, C, dx, _, _, rfl, (by rw [h8 nia.symm, h8 ntp.symm]; exact upd_same), T.cl, T.nO, rfl, _, rfl, oa, _, _, c, rfl, rfl, (by rw [h8 B.ne, h8 nto.symm, h8 noa, h8 nlo.symm]; exact e5 _ _ oa3), a0O (by unfold K3; simp; lia), rfl, ?_⟩
    refine k _ l (rs'.set r a5) ⟨?_, ?_, by rw [List.length_set]; exact hlen, fun i a hi => ?_, ?_, ?_, B.ne⟩ fun b o hb hbo hbi hH => ?_
    . rw [h8 noa.symm, h8 nia.symm, h8 ntp.symm, upd_same]; rfl
    . rw [h8 nlo, h8 nli, h8 ntl.symm, h8 nlp, upd_same, List.map_set]
    . by_cases hir : i = r
      . subst hir
        rw [List.getElem?_set_self (by rw [hlen]; lia)] at hi
        have : a5 = a := Option.some.inj hi
        subst this
        have n5t : a5 ≠ t := by
          refine i7 (H := _) (o := .lst ((A3 q (Lp.piv S i c) i).map V.int)) ?_ ht
          rw [h8 n5p, h8 n5l]; exact u5 _
        rw [h8 n5o, h8 n5i, h8 n5t, h8 n5p, h8 n5l]
        exact u5 _
      . rw [List.getElem?_set_ne (Ne.symm hir)] at hi
        obtain ⟨g1, g2, g3⟩ := hrs i a hi
        have nap : a ≠ p := (i7 B.obj g1).symm
        have nao : a ≠ oa := (i7 B.out g1).symm
        have nai : a ≠ ia := (i7 B.inn g1).symm
        have g5 := e5 _ _ g3
        have nat : a ≠ t := by
          refine i7 (H := _) (o := .lst ((W8 (A3 q S i) (A3 q S r) c S.d).map V.int)) ?_ ht
          rw [h8 nap, h8 g2]; exact g5
        rw [h8 nao, h8 nai, h8 nat, h8 nap, h8 g2, <- a5i hir hc]
        exact g5
    . rw [upd_same, a7E hc]
    . rw [h8 B.ne.symm, upd_same, a8L hrm]
    . have h3 := hk b o hb hH
      have nbl : b ≠ l := i7 hH hl0
      have nbt : b ≠ t := by
        refine i7 (H := _) (o := o) ?_ ht
        rw [h8 hb, h8 nbl]; exact e5 _ _ h3
      rw [h8 hbo, h8 hbi, h8 nbt, h8 hb, h8 nbl]
      exact e5 _ _ h3
end
end Rim
namespace Rim
open PySem L2
theorem a0J {g : Nat -> Int} : ∀ {n : Nat}, (∀ k, k < n -> g k = 0) -> Lp.sumTo g n = 0
  | 0, _ => rfl
  | n + 1, h => by
    show Lp.sumTo g n + g n = 0
    rw [a0J fun k hk => h k (by lia), h n (by lia)]; rfl
def a7H (q : Nat) (S : Lp.Bo) (k v : Nat) : Int := Lp.sumTo (fun i => if S.ins i = v then S.T i q else 0) k
def a4W (m : Nat) (S : Lp.Bo) (k v : Nat) : Int := Lp.sumTo (fun j => if S.outs j = v then S.T m j else 0) k
def u9 (m q : Nat) (S : Lp.Bo) : List Int := (List.range q).map fun v => Lp.valIn m S q v
def K2 (m q : Nat) (S : Lp.Bo) : List Int := (List.range m).map fun i => Lp.valOut m q S (q + i)
theorem a2T (k : Nat) : (List.replicate k [V.int 0]).flatten = (List.range k).map fun _ => V.int 0 := by
  induction k with
  | zero => rfl
  | succ k ih => rw [List.replicate_succ', List.flatten_append, ih, List.range_succ, List.map_append]; rfl
theorem a7B {n v : Nat} {F G : Nat -> Int} {x : Int} (hv : G v = x) (h : ∀ u, u < n -> u ≠ v -> F u = G u) : ((List.range n).map fun u => V.int (F u)).set v (.int x) = (List.range n).map fun u => V.int (G u) := by
  refine List.ext_getElem? fun j => ?_
  by_cases hj : j < n
  . by_cases e : j = v
    . subst e
      rw [List.getElem?_set_self (by simp; lia), List.getElem?_map, List.getElem?_range hj, Option.map_some, hv]
    . rw [List.getElem?_set_ne (Ne.symm e), List.getElem?_map, List.getElem?_map, List.getElem?_range hj, Option.map_some, Option.map_some, h j hj e]
  . rw [List.getElem?_eq_none (by simp; lia), List.getElem?_eq_none (by simp; lia)]
section
variable {P : Program} {w : World} {K : W.Frag} {mg : Str -> Option Value} {base : Heap} {f g c Pt : Addr} {fd gd : FuncData} {n : Nat} {C : Addr}
def a6F (C : Addr) : Sp := fun vs H Q _ => ∃ (p dx ca oa ia : Addr) (rs : List Addr) (m q : Nat) (S : Lp.Bo), vs = [.ref p] /\ Bd C H p dx ca oa ia rs m q S /\ m < 900 /\ q < 900 /\ (∀ i k, i < m -> k < m -> S.ins i = S.ins k -> i = k) ∧
  ∀ (r : Addr) (H' : Hp), Same H H' -> H r = none -> H' r = some (.lst ((u9 m q S).map V.int)) -> Q (.ref r) H'
theorem scAmts : m6 ["self", "told", "row", "number"] ["self"] (i9 a6I) := ⟨rfl, rfl, rfl, by decide +kernel, rfl, by decide +kernel, by decide +kernel⟩
set_option maxHeartbeats 4000000 in
theorem a8d (F : Fun K "amounts" "Board.amounts" a6I f fd) (N : B7 mg) (T : TB K C) : FnOk P w K mg base G8 (n + 1) f fd ["self"] (a6F C) := by
  refine F.ok scAmts (fun vs H Q E h => ?_) (fun cdv A outer s H vs Q E hr h => ?_)
  . obtain ⟨p, dx, ca, oa, ia, rs, m, q, S, rfl, _⟩ := h
    rfl
  obtain ⟨p, dx, ca, oa, ia, rs, m, q, S, rfl, B, hm, hq, inj, k⟩ := h
  refine ⟨_, j0 (l0 (i := 1) scAmts.nd rfl (Or.inl rfl) (j3 Z0 (x6 (c5 c6 c7)) (v9 (pv 0) rfl)))
    (j0 (T0 PassesOwn.never rfl (a3Z K rfl rfl N.enum (c5 (v9 (pv 0) rfl) c7)) (a1q K (n := 2) rfl rfl (v6 (m9 (i := 2) scAmts.nd rfl (Or.inl rfl)) (v6 (m9 (i := 3) scAmts.nd rfl (Or.inl rfl)) J4)))
      (j4 (A5 (r8 R5 (pv 3) (v9 (pv 0) rfl) (r6 _)) (j4 (J3 (j6 j5 (j6 j5 (v9 (pv 0) rfl) (pv 2) (fun _ _ => rfl)) (Q4 M0 c6) (fun _ _ => rfl)) (O3 (pv 1) (pv 3) E8))) t0)))
    (j4 (t7 (pv 1)))), ?_⟩
  have sl := j7 (show q <= 1000 by lia)
  refine ⟨(by show 1 <= sizeLine; decide), fun z hz => ?_⟩
  have ez := Same.new hz (.lst [.int 0])
  refine ⟨_, rfl, p, C, dx, _, _, rfl, ez _ _ B.obj, T.cl, T.nM, rfl, z, _, _, rfl, rfl, upd_same, (by lia), (by lia), (by rw [Int.toNat_natCast]; simp; lia), fun tl htl => ?_⟩
  rw [Int.toNat_natCast, a2T]
  have htn : H tl = none := by
    cases q1 : H tl with
    | none => rfl
    | some o => rw [ez _ _ q1] at htl; cases htl
  have e0 : Same H (upd (upd H z (.lst [.int 0])) tl (.lst ((List.range q).map fun _ => V.int 0))) := ez.write htn
  refine ⟨_, rfl, p, C, dx, _, _, rfl, e0 _ _ B.obj, T.cl, T.nI, rfl, ia, rfl, ⟨_, SqL.of (e0 _ _ B.inn)⟩, ?_⟩
  have li : ((N6 m S).map V.int).length = m := by unfold N6; simp
  refine a3l (xs := (N6 m S).map V.int) (i1 := 2) (i2 := 3) (fun j σ H' => ∃ o2 o3 : Option V, σ = [some (.ref p), some (.ref tl), o2, o3] /\ Same H H' /\ H' tl = some (.lst ((List.range q).map fun v => V.int (a7H q S j v))))
    ⟨_, _, rfl, e0, by rw [upd_same]; rfl⟩ (fun j σ H' ⟨_, _, _, e, _⟩ => SqL.of (e _ _ B.inn)) ?_ ?_
  . rintro j x σ H1 qq hx ⟨o2, o3, rfl, e1, ht⟩ hqq
    have hj : j < m := by rw [<- li]; exact (List.getElem?_eq_some_iff.mp hx).1
    have hx' : x = .int (S.ins j) := by
      have := (y6 hx).symm.trans (a0C (S := S) hj)
      exact Option.some.inj this
    subst hx'
    have s1 := Same.new hqq (.tup [V.int (j : Int), .int (S.ins j)])
    have e2 := e1.trans s1
    have ht2 := s1 _ _ ht
    refine ⟨_, rfl, _, rfl, p, C, dx, _, _, rfl, e2 _ _ B.obj, T.cl, T.nM, rfl, _, _, rfl, rfl, _, rfl, ?_⟩
    have st : ∀ v, a7H q S (j + 1) v = a7H q S j v + (if S.ins j = v then S.T j q else 0) := fun v => rfl
    refine D8 (fun d => ?_) (fun d => ?_)
    . have d' : S.ins j < q := by have := of_decide_eq_true d; lia
      obtain ⟨rj, erj, arj⟩ := B.rs_at (i := j) (by lia)
      refine ⟨_, rfl, p, C, dx, _, _, rfl, e2 _ _ B.obj, T.cl, T.nC, rfl, _, rfl, ca, _, _, _, rfl, rfl, SqL.of (e2 _ _ B.cel), arj, _, rfl, rj, _, _, _, rfl, rfl, SqL.of (e2 _ _ (B.row j rj erj)), T9, ?_⟩
      refine ⟨_, rfl, _, rfl, tl, _, _, S.ins j, rfl, rfl, ht2, a0O (by simp; lia), ?_⟩
      refine ⟨_, _, rfl, e2.write htn, ?_⟩
      rw [upd_same]
      congr 2
      refine a7B ?_ fun u hu hne => ?_
      . rw [st, if_pos rfl]
        have : a7H q S j (S.ins j) = 0 := a0J fun i hi => if_neg fun z => absurd (inj i j (by lia) hj z) (by lia)
        rw [this]; lia
      . rw [st, if_neg (Ne.symm hne)]; lia
    . have d' : ¬ S.ins j < q := fun z => d (decide_eq_true (by lia))
      refine ⟨_, _, rfl, e2, ?_⟩
      rw [ht2]
      congr 2
      refine List.map_congr_left fun v hv => ?_
      rw [st, if_neg (fun z => d' (by rw [z]; exact List.mem_range.mp hv)), Int.add_zero]
  . intro σ H1 hM_; refine D4 fun G_ hG_ => ?_; obtain ⟨o2, o3, rfl, e1, ht⟩ := hM_; subst hG_
    rw [li] at ht
    refine ⟨_, rfl, k tl H1 e1 htn ?_⟩
    rw [ht]
    unfold u9
    rw [List.map_map]; rfl
def a9m (C : Addr) : Sp := fun vs H Q _ => ∃ (p dx ca oa ia : Addr) (rs : List Addr) (m q : Nat) (S : Lp.Bo), vs = [.ref p] /\ Bd C H p dx ca oa ia rs m q S /\ m < 900 /\ q < 900 /\ (∀ j k, j < q -> k < q -> S.outs j = S.outs k -> j = k) /\ (∀ j, j < q -> S.outs j < q + m) ∧
  ∀ (r : Addr) (H' : Hp), Same H H' -> H r = none -> H' r = some (.lst ((K2 m q S).map V.int)) -> Q (.ref r) H'
theorem scWts : m6 ["self", "told", "column", "number"] ["self"] (i9 a9T) := ⟨rfl, rfl, rfl, by decide +kernel, rfl, by decide +kernel, by decide +kernel⟩
set_option maxHeartbeats 4000000 in
theorem a9K (F : Fun K "weights" "Board.weights" a9T f fd) (N : B7 mg) (T : TB K C) : FnOk P w K mg base G8 (n + 1) f fd ["self"] (a9m C) := by
  refine F.ok scWts (fun vs H Q E h => ?_) (fun cdv A outer s H vs Q E hr h => ?_)
  . obtain ⟨p, dx, ca, oa, ia, rs, m, q, S, rfl, _⟩ := h
    rfl
  obtain ⟨p, dx, ca, oa, ia, rs, m, q, S, rfl, B, hm, hq, inj, ob, k⟩ := h
  refine ⟨_, j0 (l0 (i := 1) scWts.nd rfl (Or.inl rfl) (j3 Z0 (x6 (c5 c6 c7)) (j8 j9 rfl N.len PySem.boot_len (c5 (v9 (pv 0) rfl) c7))))
    (j0 (T0 PassesOwn.never rfl (a3Z K rfl rfl N.enum (c5 (v9 (pv 0) rfl) c7)) (a1q K (n := 2) rfl rfl (v6 (m9 (i := 2) scWts.nd rfl (Or.inl rfl)) (v6 (m9 (i := 3) scWts.nd rfl (Or.inl rfl)) J4)))
      (j4 (A5 (r8 a9l (pv 3) (v9 (pv 0) rfl) (r6 _)) (j4 (J3 (j6 j5 (j6 j5 (v9 (pv 0) rfl) (Q4 M0 c6) (fun _ _ => rfl)) (pv 2) (fun _ _ => rfl)) (O3 (pv 1) (j3 a3Q (pv 3) (v9 (pv 0) rfl)) E8))) t0)))
    (j4 (t7 (pv 1)))), ?_⟩
  have sl := j7 (show m <= 1000 by lia)
  have li : ((N6 m S).map V.int).length = m := by unfold N6; simp
  have lo : ((K3 q S).map V.int).length = q := by unfold K3; simp
  refine ⟨(by show 1 <= sizeLine; decide), fun z hz => ?_⟩
  have ez := Same.new hz (.lst [.int 0])
  refine ⟨_, rfl, p, C, dx, _, _, rfl, ez _ _ B.obj, T.cl, T.nI, rfl, ia, _, rfl, .inl (SqL.of (ez _ _ B.inn)), z, _, _, rfl, rfl, upd_same, (by lia), (by lia), (by rw [li, Int.toNat_natCast]; simp; lia), fun tl htl => ?_⟩
  rw [li, Int.toNat_natCast, a2T]
  have htn : H tl = none := by
    cases q1 : H tl with
    | none => rfl
    | some o => rw [ez _ _ q1] at htl; cases htl
  have e0 : Same H (upd (upd H z (.lst [.int 0])) tl (.lst ((List.range m).map fun _ => V.int 0))) := ez.write htn
  refine ⟨_, rfl, p, C, dx, _, _, rfl, e0 _ _ B.obj, T.cl, T.nO, rfl, oa, rfl, ⟨_, SqL.of (e0 _ _ B.out)⟩, ?_⟩
  refine a3l (xs := (K3 q S).map V.int) (i1 := 2) (i2 := 3) (fun j σ H' => ∃ o2 o3 : Option V, σ = [some (.ref p), some (.ref tl), o2, o3] /\ Same H H' /\ H' tl = some (.lst ((List.range m).map fun v => V.int (a4W m S j (q + v)))))
    ⟨_, _, rfl, e0, by rw [upd_same]; rfl⟩ (fun j σ H' ⟨_, _, _, e, _⟩ => SqL.of (e _ _ B.out)) ?_ ?_
  . rintro j x σ H1 qq hx ⟨o2, o3, rfl, e1, ht⟩ hqq
    have hj : j < q := by rw [<- lo]; exact (List.getElem?_eq_some_iff.mp hx).1
    have hx' : x = .int (S.outs j) := by
      have := (y6 hx).symm.trans (a0P (S := S) hj)
      exact Option.some.inj this
    subst hx'
    have s1 := Same.new hqq (.tup [V.int (j : Int), .int (S.outs j)])
    have e2 := e1.trans s1
    have ht2 := s1 _ _ ht
    refine ⟨_, rfl, _, rfl, p, C, dx, _, _, rfl, e2 _ _ B.obj, T.cl, T.nM, rfl, _, _, rfl, rfl, _, rfl, ?_⟩
    have st : ∀ v, a4W m S (j + 1) v = a4W m S j v + (if S.outs j = v then S.T m j else 0) := fun v => rfl
    have hob := ob j hj
    refine D8 (fun d => ?_) (fun d => ?_)
    . have d' : q <= S.outs j := by have := of_decide_eq_true d; lia
      obtain ⟨rm, erm, arm⟩ := B.rs_last
      refine ⟨_, rfl, p, C, dx, _, _, rfl, e2 _ _ B.obj, T.cl, T.nC, rfl, _, rfl, ca, _, _, _, rfl, rfl, SqL.of (e2 _ _ B.cel), arm, _, rfl, rm, _, _, _, rfl, rfl, SqL.of (e2 _ _ (B.row m rm erm)), V5 (by lia), ?_⟩
      refine ⟨_, rfl, _, rfl, _, rfl, p, C, dx, _, _, rfl, e2 _ _ B.obj, T.cl, T.nM, rfl, _, _, rfl, rfl, tl, _, _, S.outs j - q, rfl, rfl, ht2, ?_, ?_⟩
      . rw [show ((S.outs j : Int) - (q : Int)) = ((S.outs j - q : Nat) : Int) by lia]
        exact a0O (by simp; lia)
      refine ⟨_, _, rfl, e2.write htn, ?_⟩
      rw [upd_same]
      congr 2
      refine a7B ?_ fun u hu hne => ?_
      . rw [st, if_pos (by lia)]
        have : a4W m S j (q + (S.outs j - q)) = 0 := a0J fun i hi => if_neg fun z => absurd (inj i j (by lia) hj (by lia)) (by lia)
        rw [this]; lia
      . rw [st, if_neg (by lia)]; lia
    . have d' : ¬ q <= S.outs j := fun z => d (decide_eq_true (by lia))
      refine ⟨_, _, rfl, e2, ?_⟩
      rw [ht2]
      congr 2
      refine List.map_congr_left fun v hv => ?_
      rw [st, if_neg (by lia), Int.add_zero]
  . intro σ H1 hM_; refine D4 fun G_ hG_ => ?_; obtain ⟨o2, o3, rfl, e1, ht⟩ := hM_; subst hG_
    rw [lo] at ht
    refine ⟨_, rfl, k tl H1 e1 htn ?_⟩
    rw [ht]
    unfold K2
    rw [List.map_map]; rfl
end
end Rim
namespace Rim
open PySem L2
def S4 (rows : List (List Int)) : Nat -> Nat -> Int := fun i j => (rows.getD i []).getD j 0
def K5 (l : List Int) : Nat -> Int := fun i => l.getD i 0
abbrev RowsL (K : W.Frag) (H : Hp) : List V -> List (List Int) -> Prop := PySem.Paired fun v row => ∃ a, v = .ref a /\ SqL K H a (row.map V.int)
section
variable {P : Program} {w : World} {K : W.Frag} {mg : Str -> Option Value} {base : Heap} {f g c Pt : Addr} {fd gd : FuncData} {n : Nat} {C : Addr}
def a6x (K : W.Frag) (C : Addr) : Sp := fun vs H Q _ => ∃ (p dx ga ra ba : Addr) (goal : List Int) (rvs : List V) (rows : List (List Int)) (bounds : List Int) (m q : Nat), vs = [.ref p, .ref ga, .ref ra, .ref ba] /\ H p = some (.ins C dx []) /\ SqL K H ga (goal.map V.int) /\ SqL K H ra rvs ∧
  RowsL K H rvs rows /\ SqL K H ba (bounds.map V.int) /\ rows.length = m /\ bounds.length = m /\ goal.length = q /\ (∀ r ∈ rows, r.length = q) /\ m < 900 /\ q < 900 ∧
  ∀ (H' : Hp) (ca oa ia : Addr) (rs : List Addr), Bd C H' p dx ca oa ia rs m q (Lp.S0 m q (S4 rows) (K5 bounds) (K5 goal)) -> (∀ b o, b ≠ p -> H b = some o -> H' b = some o) -> H oa = none -> H ia = none -> Q .non H'
theorem b0w : m6 ["self", "goal", "rows", "bounds"] ["self", "goal", "rows", "bounds"] (i9 a2X) := ⟨rfl, rfl, rfl, by decide +kernel, rfl, by decide +kernel, by decide +kernel⟩
theorem b1r : (["row", "bound"] : List Str).Nodup := by decide +kernel
theorem b2m : (["one"] : List Str).Nodup := by decide +kernel
set_option maxHeartbeats 4000000 in
noncomputable def b1k {cdv : Value} {A : Around} {outer : List Env} {s : Shared} {H : Hp} {E : XK} (N : B7 mg) :
    { t : TS // PSs (M1 G8 P w K mg base ["self", "goal", "rows", "bounds"] "Board.__init__" (i9 a2X) f cdv A outer s H E).nox (y4 a2X) t } :=
  ⟨_, j0 (X2 (pv 0) (j8 j9 rfl N.len PySem.boot_len (c5 (pv 1) c7)) rfl)
    (j0 (X2 (pv 0) c6 rfl)
    (r9 (X2 (pv 0) (R0 ["row", "bound"] [] rfl (a9e true true K rfl rfl N.zip (c5 (pv 2) (c5 (pv 3) c7)))
      (fun _ _ _ _ => a1q K (n := 2) rfl rfl (v6 (m9 (i := 0) b1r rfl (Or.inl rfl)) (v6 (m9 (i := 1) b1r rfl (Or.inl rfl)) J4)))
      (fun _ _ _ _ => j3 D6 (u0 (a4j K rfl) rfl N.list PyProof.Rows.boot_list (c5 (pv 0) c7)) (x6 (c5 (pv 1) c7)))) rfl)
    (r9 (V3 (a2Q PySem.F.plainAttrs_list PySem.F.slot_list_append PySem.F.type_list_append O9 (v9 (pv 0) rfl)
      (c5 (j3 D6 (R0 ["one"] [] rfl (G5 (pv 1)) (fun _ _ _ _ => m9 (i := 0) b2m rfl (Or.inl rfl)) (fun _ _ _ _ => Q4 M0 (pv 0))) (x6 (c5 c6 c7))) c7)))
    (j0 (X2 (pv 0) (u0 (W3 rfl) rfl N.list PyProof.Rows.boot_list (c5 (u0 a5v rfl N.range PyProof.Rows.boot_range (c5 (v9 (pv 0) rfl) c7)) c7)) rfl)
    (j4 (X2 (pv 0) (u0 (W3 rfl) rfl N.list PyProof.Rows.boot_list (c5 (u0 a5X rfl N.range PyProof.Rows.boot_range (c5 (v9 (pv 0) rfl) (c5 (j3 A4 (v9 (pv 0) rfl) (j8 j9 rfl N.len PySem.boot_len (c5 (pv 2) c7))) c7))) c7)) rfl))))))⟩
end
end Rim
namespace Rim
open PySem L2
theorem b0p {m q i : Nat} {rows : List (List Int)} {bounds goal row : List Int} {b : Int} (hr : rows[i]? = some row) (hb : bounds[i]? = some b) (hl : row.length = q) (hi : i < m) :
    row ++ [b] = A3 q (Lp.S0 m q (S4 rows) (K5 bounds) (K5 goal)) i := by
  refine List.ext_getElem? fun j => ?_
  unfold A3
  by_cases hj : j < q + 1
  . rw [List.getElem?_map, List.getElem?_range hj, Option.map_some]
    have hT : (Lp.S0 m q (S4 rows) (K5 bounds) (K5 goal)).T i j = if j < q then S4 rows i j else K5 bounds i := by
      show (if j < q then (if i < m then _ else _) else (if i < m then _ else _)) = _
      rw [if_pos hi, if_pos hi]
    rw [hT]
    by_cases h : j < q
    . rw [List.getElem?_append_left (by lia), if_pos h]
      unfold S4
      rw [List.getD_eq_getElem?_getD, List.getD_eq_getElem?_getD, hr, Option.getD_some, List.getElem?_eq_getElem (by lia), Option.getD_some]
    . rw [List.getElem?_append_right (by lia), if_neg h, hl, show j - q = 0 by lia]
      unfold K5
      rw [List.getD_eq_getElem?_getD, hb]; rfl
  . rw [List.getElem?_eq_none (by simp; lia), List.getElem?_eq_none (by simp; lia)]
theorem a8n {m q : Nat} {rows : List (List Int)} {bounds goal : List Int} (hl : goal.length = q) : goal.map (fun x => -x) ++ [0] = A3 q (Lp.S0 m q (S4 rows) (K5 bounds) (K5 goal)) m := by
  refine List.ext_getElem? fun j => ?_
  unfold A3
  by_cases hj : j < q + 1
  . rw [List.getElem?_map, List.getElem?_range hj, Option.map_some]
    have hT : (Lp.S0 m q (S4 rows) (K5 bounds) (K5 goal)).T m j = if j < q then - K5 goal j else 0 := by
      show (if j < q then (if m < m then _ else _) else (if m < m then _ else _)) = _
      rw [if_neg (Nat.lt_irrefl _), if_neg (Nat.lt_irrefl _)]
    rw [hT]
    by_cases h : j < q
    . rw [List.getElem?_append_left (by simp; lia), if_pos h, List.getElem?_map]
      unfold K5
      rw [List.getD_eq_getElem?_getD, List.getElem?_eq_getElem (by lia), Option.map_some, Option.getD_some]
    . rw [List.getElem?_append_right (by simp; lia), if_neg h, List.length_map, hl, show j - q = 0 by lia]; rfl
  . rw [List.getElem?_eq_none (by simp; lia), List.getElem?_eq_none (by simp; lia)]
theorem a8r {m q : Nat} {A : Nat -> Nat -> Int} {b c : Nat -> Int} : ((List.range q).map fun (i : Nat) => V.int (0 + (i : Int))) = (K3 q (Lp.S0 m q A b c)).map V.int := by
  unfold K3
  rw [List.map_map]
  refine List.map_congr_left fun j hj => ?_
  have h : (Lp.S0 m q A b c).outs j = j := if_pos (List.mem_range.mp hj)
  simp [h]
theorem b0c {m q : Nat} {A : Nat -> Nat -> Int} {b c : Nat -> Int} : ((List.range m).map fun (i : Nat) => V.int ((q : Int) + (i : Int))) = (N6 m (Lp.S0 m q A b c)).map V.int := by
  unfold N6
  rw [List.map_map]
  refine List.map_congr_left fun j hj => ?_
  have h : (Lp.S0 m q A b c).ins j = q + j := rfl
  simp [h]
section
variable {P : Program} {w : World} {K : W.Frag} {mg : Str -> Option Value} {base : Heap} {f g c Pt : Addr} {fd gd : FuncData} {n : Nat} {C : Addr}
theorem T4 {H H' : Hp} {a p : Addr} {xs : List V} {C dx : Addr} {fs : List (Str × V)} (hp : H p = some (.ins C dx fs)) (e : ∀ b o, b ≠ p -> H b = some o -> H' b = some o) (h : SqL K H a xs) : SqL K H' a xs := by
  rcases h with (h | ⟨o, h⟩) | h
  . exact .inl (.inl (e _ _ (a1o h hp (by intro z; cases z)) h))
  . exact .inl (.inr ⟨o, e _ _ (a1o h hp (by intro z; cases z)) h⟩)
  . exact .inr h
set_option maxHeartbeats 8000000 in
theorem a7K (F : Fun K "__init__" "Board.__init__" a2X f fd) (N : B7 mg) (T : TB K C) : FnOk P w K mg base G8 (n + 1) f fd ["self", "goal", "rows", "bounds"] (a6x K C) := by
  refine F.ok b0w (fun vs H Q E h => ?_) (fun cdv A outer s H vs Q E hr h => ?_)
  . obtain ⟨p, dx, ga, ra, ba, goal, rvs, rows, bounds, m, q, rfl, _⟩ := h
    rfl
  obtain ⟨p, dx, ga, ra, ba, goal, rvs, rows, bounds, m, q, rfl, hp, hg, hra, hrw, hba, lr, lb, lg, hrl, hm, hq, k⟩ := h
  refine ⟨_, (b1k N).2, ?_⟩
  have lv : rvs.length = m := by rw [<- lr]; exact Paired.length hrw
  have k1 : ∀ b o, b ≠ p -> H b = some o -> upd (upd H p (.ins C dx [("many", .int q)])) p (.ins C dx [("many", .int q), ("scale", .int 1)]) b = some o := fun b o hb e => by rw [h8 hb, h8 hb]; exact e
  refine ⟨_, rfl, ga, _, rfl, .inl hg, _, rfl, p, C, dx, _, rfl, hp, T.cl, T.nM, (by show 0 < 1000; decide), ?_⟩
  rw [List.length_map, lg]
  refine ⟨_, rfl, p, C, dx, _, rfl, upd_same, T.cl, T.nS, (by show 1 < 1000; decide), ?_⟩
  refine ⟨fun σ' H4 => ∃ (l : Addr) (rs : List Addr), σ' = [some (.ref p), some (.ref ga), some (.ref ra), some (.ref ba)] /\ H4 p = some (.ins C dx [("many", .int q), ("scale", .int 1), ("cells", .ref l)]) /\ H4 l = some (.lst (rs.map V.ref)) /\ rs.length = m /\ H l = none ∧
    (∀ i a, rs[i]? = some a -> a ≠ l /\ H4 a = some (.lst ((A3 q (Lp.S0 m q (S4 rows) (K5 bounds) (K5 goal)) i).map V.int))) /\ ∀ b o, b ≠ p -> H b = some o -> H4 b = some o, ?_, ?_⟩
  . refine ⟨_, rfl, _, rfl, ra, ba, rfl, ⟨_, T4 hp k1 hra⟩, ⟨_, T4 hp k1 hba⟩, fun l hl => ?_⟩
    have nlp : p ≠ l := i7 upd_same hl
    have hl0 : H l = none := by
      rw [h8 nlp.symm, h8 nlp.symm] at hl; exact hl
    refine a7e (T4 hp k1 hra) (T4 hp k1 hba) hl (by rw [lv]; exact j7 (by lia)) (fun i y H2 => ∃ a, y = .ref a /\ a ≠ l /\ H2 a = some (.lst ((A3 q (Lp.S0 m q (S4 rows) (K5 bounds) (K5 goal)) i).map V.int)))
      (fun i y H2 H3 ⟨a, h1, h2, h3⟩ e => ⟨a, h1, h2, e a _ h2 h3⟩) (fun i x y H2 zs N' hx hy e hl2 hN => ?_) (fun zs H2 e hl2 len pr => ?_)
    . obtain ⟨row, hrow, ⟨a, rfl, ha⟩⟩ := Paired.at hrw hx
      rw [List.getElem?_map] at hy
      cases hbi : bounds[i]? with
      | none => rw [hbi] at hy; cases hy
      | some b =>
        rw [hbi] at hy
        have hy' : V.int b = y := Option.some.inj hy
        subst hy'
        have hi : i < m := by rw [<- lb]; exact (List.getElem?_eq_some_iff.mp hbi).1
        have hlen := hrl row (List.mem_of_getElem? hrow)
        have ha2 : SqL K H2 a (row.map V.int) := e.seq (T4 hp k1 ha)
        refine ⟨_, rfl, a, _, rfl, .inl ha2, fun a1 h1 => ?_⟩
        have s1 := Same.new h1 (.lst (row.map V.int))
        refine ⟨_, rfl, (by show 1 <= sizeLine; decide), fun a2 h2 => ?_⟩
        have s2 := s1.trans (Same.new h2 (.lst [.int b]))
        have n12 : a1 ≠ a2 := i7 upd_same h2
        refine ⟨a1, a2, _, _, rfl, rfl, (by rw [h8 n12]; exact upd_same), upd_same, ?_, fun a3 h3 => ?_⟩
        . rw [List.length_map, hlen]
          have := j7 (show q + 1 <= 1000 by lia)
          simp
          lia
        . refine hN _ _ (s2.trans (Same.new h3 _)) ⟨a3, rfl, fun z => ?_, ?_⟩
          . rw [z, s2 _ _ hl2] at h3; cases h3
          . rw [upd_same, <- b0p hrow hbi hlen hi, List.map_append]; rfl
    . have hp2 := e _ _ (upd_same (H := upd H p (.ins C dx [("many", .int q)])) (a := p) (o := .ins C dx [("many", .int q), ("scale", .int 1)]))
      refine ⟨_, rfl, p, C, dx, _, rfl, hp2, T.cl, T.nC, (by show 2 < 1000; decide), ?_⟩
      have hzs : zs = (zs.map a5u).map V.ref := by
        rw [List.map_map]
        refine List.ext_getElem? fun i => ?_
        rw [List.getElem?_map]
        cases qi : zs[i]? with
        | none => rfl
        | some y =>
          obtain ⟨a, rfl, _⟩ := pr i y qi
          rfl
      refine ⟨l, zs.map a5u, rfl, upd_same, by rw [h8 nlp.symm, hl2]; rw [<- hzs], by rw [List.length_map, len, lv, List.length_map, lb]; lia, hl0, fun i a hi => ?_, fun b o hb hbo => by rw [h8 hb]; exact e _ _ (k1 b o hb hbo)⟩
      rw [List.getElem?_map] at hi
      cases qi : zs[i]? with
      | none => rw [qi] at hi; cases hi
      | some y =>
        obtain ⟨a', rfl, h2, h3⟩ := pr i y qi
        rw [qi] at hi
        have : a' = a := Option.some.inj hi
        subst this
        refine ⟨h2, ?_⟩
        rw [h8 (fun z => by rw [z, hp2] at h3; cases h3)]
        exact h3
  intro σ' H4 hM_; refine D4 fun G_ hG_ => ?_; obtain ⟨l, rs, rfl, hp4, hl4, hlen, hl0, hrs, hk⟩ := hM_; subst hG_
  have nlp : l ≠ p := (i7 hp hl0).symm
  refine ⟨fun σ' H5 => ∃ rs' : List Addr, σ' = [some (.ref p), some (.ref ga), some (.ref ra), some (.ref ba)] /\ H5 p = some (.ins C dx [("many", .int q), ("scale", .int 1), ("cells", .ref l)]) /\ H5 l = some (.lst (rs'.map V.ref)) /\ rs'.length = m + 1 ∧
    (∀ i a, rs'[i]? = some a -> a ≠ l /\ H5 a = some (.lst ((A3 q (Lp.S0 m q (S4 rows) (K5 bounds) (K5 goal)) i).map V.int))) /\ ∀ b o, b ≠ p -> H b = some o -> H5 b = some o, ?_, ?_⟩
  . refine ⟨_, rfl, p, C, dx, _, _, rfl, hp4, T.cl, T.nC, rfl, .inl ⟨rfl, _, SqL.of hl4⟩, ?_⟩
    have hg4 := T4 hp hk hg
    refine ⟨_, rfl, ga, rfl, ⟨_, hg4⟩, fun a1 h1 => ?_⟩
    refine M8 (E1 hg4) h1 (by rw [List.length_map, lg]; exact j7 (by lia)) (fun x => .int (-(vI x))) (fun i x H' N' hx e hN => ?_) ?_
    . obtain ⟨x', rfl, _⟩ := Y5 hx
      exact ⟨Wk.set (by decide), _, rfl, _, rfl, hN⟩
    have eg : (goal.map V.int).map (fun x => V.int (-(vI x))) = (goal.map fun x => -x).map V.int := by rw [List.map_map, List.map_map]; rfl
    rw [eg]
    have s1 := Same.new h1 (.lst ((goal.map fun x => -x).map V.int))
    refine ⟨(by show 1 <= sizeLine; decide), fun a2 h2 => ?_⟩
    have s2 := s1.trans (Same.new h2 (.lst [.int 0]))
    have n12 : a1 ≠ a2 := i7 upd_same h2
    refine ⟨a1, a2, _, _, rfl, rfl, (by rw [h8 n12]; exact upd_same), upd_same, ?_, fun a3 h3 => ?_⟩
    . rw [List.length_map, List.length_map, lg]
      have := j7 (show q + 1 <= 1000 by lia)
      simp
      lia
    have s3 := s2.trans (Same.new h3 (.lst ((goal.map fun x => -x).map V.int ++ [.int 0])))
    refine ⟨l, _, _, rfl, rfl, s3 _ _ hl4, (by rw [List.length_map, hlen]; exact j7 (by lia)), ?_⟩
    have n3l : a3 ≠ l := fun z => by rw [z, s2 _ _ hl4] at h3; cases h3
    have n3p : a3 ≠ p := fun z => by rw [z, s2 _ _ hp4] at h3; cases h3
    refine ⟨rs ++ [a3], rfl, by rw [h8 nlp.symm]; exact s3 _ _ hp4, by rw [upd_same, List.map_append]; rfl, by rw [List.length_append, hlen]; rfl, fun i a hi => ?_, fun b o hb hbo => by rw [h8 (i7 hbo hl0)]; exact s3 _ _ (hk b o hb hbo)⟩
    by_cases him : i < m
    . rw [List.getElem?_append_left (by lia)] at hi
      obtain ⟨g1, g2⟩ := hrs i a hi
      exact ⟨g1, by rw [h8 g1]; exact s3 _ _ g2⟩
    . rw [List.getElem?_append_right (by lia)] at hi
      have hi0 : i - rs.length = 0 := by
        cases z : i - rs.length with
        | zero => rfl
        | succ j => rw [z] at hi; simp at hi
      rw [hi0] at hi
      have : a3 = a := Option.some.inj hi
      subst this
      have : i = m := by lia
      subst this
      refine ⟨n3l, ?_⟩
      rw [h8 n3l, upd_same, <- a8n lg, List.map_append]; rfl
  intro σ' H5 hM_; refine D4 fun G_ hG_ => ?_; obtain ⟨rs', rfl, hp5, hl5, hlen5, hrs5, hk5⟩ := hM_; subst hG_
  -- self.outs
  refine ⟨_, rfl, p, C, dx, _, _, rfl, hp5, T.cl, T.nM, rfl, q, rfl, fun r1 h1 => ?_⟩
  have s1 := Same.new h1 (.rng 0 (q : Int))
  refine ⟨r1, 0, q, rfl, by rw [upd_same, Int.zero_add], by lia, by lia, by lia, fun oa hoa => ?_⟩
  have s2 := s1.trans (Same.new hoa (.lst ((List.range q).map fun (i : Nat) => V.int (0 + (i : Int)))))
  have noa5 : H5 oa = none := by
    cases z : H5 oa with
    | none => rfl
    | some o => rw [s1 _ _ z] at hoa; cases hoa
  have nop : oa ≠ p := (i7 hp5 noa5).symm
  refine ⟨_, rfl, p, C, dx, _, rfl, s2 _ _ hp5, T.cl, T.nO, (by show 3 < 1000; decide), ?_⟩
  -- self.ins
  have hra5 := T4 hp hk5 hra
  have lp5 : SqL K (upd (upd (upd H5 r1 (.rng 0 (q : Int))) oa (.lst ((List.range q).map fun (i : Nat) => V.int (0 + (i : Int))))) p (.ins C dx [("many", .int q), ("scale", .int 1), ("cells", .ref l), ("outs", .ref oa)])) ra rvs :=
    T4 (s2 _ _ hp5) (fun b o hb e => by rw [h8 hb]; exact e) (s2.seq hra5)
  refine ⟨_, rfl, p, C, dx, _, _, rfl, upd_same, T.cl, T.nM, rfl, _, rfl, p, C, dx, _, _, rfl, upd_same, T.cl, T.nM, rfl, _, rfl, ra, _, rfl, .inl lp5, _, _, rfl, rfl, _, _, rfl, fun r2 h2 => ?_⟩
  rw [lv]
  refine ⟨r2, (q : Int), m, rfl, upd_same, by lia, by lia, by lia, fun ia hia => ?_⟩
  have n2p : r2 ≠ p := (i7 upd_same h2).symm
  have nip : ia ≠ p := by
    refine (i7 (H := _) (o := .ins C dx [("many", .int q), ("scale", .int 1), ("cells", .ref l), ("outs", .ref oa)]) ?_ hia).symm
    rw [h8 n2p.symm, upd_same]; rfl
  have oa6 : ∀ o, upd (upd (upd H5 r1 (.rng 0 (q : Int))) oa o) p (.ins C dx [("many", .int q), ("scale", .int 1), ("cells", .ref l), ("outs", .ref oa)]) oa = some o := fun o => by rw [h8 nop, upd_same]
  have n2o : r2 ≠ oa := (i7 (oa6 _) h2).symm
  have nio : ia ≠ oa := by
    refine (i7 (H := _) (o := .lst ((List.range q).map fun (i : Nat) => V.int (0 + (i : Int)))) ?_ hia).symm
    rw [h8 n2o.symm]; exact oa6 _
  have up : ∀ b o, b ≠ p -> H5 b = some o -> b ≠ ia /\ b ≠ r2 /\ upd (upd H5 r1 (.rng 0 (q : Int))) oa (.lst ((List.range q).map fun (i : Nat) => V.int (0 + (i : Int)))) b = some o := fun b o hb e => by
    have e2 := s2 _ _ e
    have nb2 : b ≠ r2 := by
      refine i7 (H := _) (o := o) ?_ h2
      rw [h8 hb]; exact e2
    refine ⟨?_, nb2, e2⟩
    refine i7 (H := _) (o := o) ?_ hia
    rw [h8 nb2, h8 hb]; exact e2
  refine ⟨_, rfl, p, C, dx, _, rfl, (by rw [h8 nip.symm, h8 n2p.symm]; exact upd_same), T.cl, T.nI, (by show 4 < 1000; decide), ?_⟩
  have fin : ∀ b o, b ≠ p -> H5 b = some o -> upd (upd (upd (upd (upd (upd H5 r1 (.rng 0 (q : Int))) oa (.lst ((List.range q).map fun (i : Nat) => V.int (0 + (i : Int))))) p (.ins C dx [("many", .int q), ("scale", .int 1), ("cells", .ref l), ("outs", .ref oa)])) r2 (.rng (q : Int) ((q : Int) + (m : Int)))) ia (.lst ((List.range m).map fun (i : Nat) => V.int ((q : Int) + (i : Int))))) p (.ins C dx [("many", .int q), ("scale", .int 1), ("cells", .ref l), ("outs", .ref oa), ("ins", .ref ia)]) b = some o := fun b o hb e => by
    obtain ⟨g1, g2, g3⟩ := up b o hb e
    rw [h8 hb, h8 g1, h8 g2, h8 hb]; exact g3
  have ia5 : H5 ia = none := by
    cases z : H5 ia with
    | none => rfl
    | some o => exact absurd rfl (up ia o nip z).1
  have back : ∀ b, b ≠ p -> H5 b = none -> H b = none := fun b hb z => by
    cases z2 : H b with
    | none => rfl
    | some o => rw [hk5 b o hb z2] at z; cases z
  refine k _ l oa ia rs' ⟨upd_same, fin _ _ nlp hl5, hlen5, fun i a hi => fin _ _ (fun z => ?_) (hrs5 i a hi).2, ?_, ?_, nio.symm⟩ (fun b o hb hbo => fin b o hb (hk5 b o hb hbo)) (back _ nop noa5) (back _ nip ia5)
  . have := (hrs5 i a hi).2
    rw [z, hp5] at this; cases this
  . rw [h8 nop, h8 nio.symm, h8 n2o.symm, h8 nop, upd_same, a8r]
  . rw [h8 nip, upd_same, b0c]
end
end Rim
namespace Rim
open PySem L2
section
variable {P : Program} {w : World} {K : W.Frag} {mg : Str -> Option Value} {base : Heap} {f Pt : Addr} {fd : FuncData} {n : Nat} {C : Addr}
def X3 (K : W.Frag) (C Pt : Addr) : Sp := fun vs H Q _ => ∃ (ga ra ba : Addr) (goal : List Int) (rvs : List V) (rows : List (List Int)) (bounds : List Int) (m q M : Nat), vs = [.ref ga, .ref ra, .ref ba] /\ SqL K H ga (goal.map V.int) /\ SqL K H ra rvs ∧
  RowsL K H rvs rows /\ SqL K H ba (bounds.map V.int) /\ rows.length = m /\ bounds.length = m /\ goal.length = q /\ (∀ r ∈ rows, r.length = q) /\ m < 900 /\ q < 900 /\ (∀ i, i < m -> 0 <= K5 bounds i) ∧
  (∀ v, Lp.Fits M (m + 1) (Lp.Vv m q (S4 rows) (K5 bounds) (K5 goal) v)) /\ Lp.bnd M (m + 1) < 2 ^ 4000 /\ LT Pt H ∧
  (∀ (S : Lp.Bo) (H' : Hp) (t aa wa : Addr), Lp.Of m q (S4 rows) (K5 bounds) (K5 goal) S -> (∀ j, j < q -> ¬ S.T m j < 0) -> Sz 4000 m q S -> Same1 Pt H H' -> LT Pt H' -> H' t = some (.tup [.int (S.T m q), .ref aa, .ref wa, .int S.d]) →
    H' aa = some (.lst ((u9 m q S).map V.int)) -> H' wa = some (.lst ((K2 m q S).map V.int)) -> Q (.ref t) H') ∧
  ∀ (S : Lp.Bo) (H' : Hp) (c : Nat), Lp.Of m q (S4 rows) (K5 bounds) (K5 goal) S -> c < q -> S.T m c < 0 -> (∀ i, i < m -> ¬ 0 < S.T i c) -> Same1 Pt H H' -> LT Pt H' -> Q .non H'
theorem scGr : m6 ["goal", "rows", "bounds", "board", "column", "row"] ["goal", "rows", "bounds"] (i9 K4) := ⟨rfl, rfl, rfl, by decide +kernel, rfl, by decide +kernel, by decide +kernel⟩
structure b1x (P : Program) (w : World) (K : W.Frag) (mg : Str -> Option Value) (base : Heap) (n : Nat) (C Pt : Addr) (f1 f2 f3 f4 f5 f6 : Addr) (d1 d2 d3 d4 d5 d6 : FuncData) : Prop where
  mak : Mk K C f1
  ini : FnOk P w K mg base G8 n f1 d1 ["self", "goal", "rows", "bounds"] (a6x K C)
  inb : Binds K d1 ["self", "goal", "rows", "bounds"] []
  mC : mg "Board" = some (.ref C)
  com : a5k P w K mg base n C "coming" ["self"] (a1r C Pt) f2 d2
  goi : a5k P w K mg base n C "going" ["self", "column"] (a4y C) f3 d3
  exc : a5k P w K mg base n C "exchange" ["self", "row", "column"] (a1l C) f4 d4
  amt : a5k P w K mg base n C "amounts" ["self"] (a6F C) f5 d5
  wts : a5k P w K mg base n C "weights" ["self"] (a9m C) f6 d6
set_option maxHeartbeats 4000000 in
noncomputable def grT {cdv : Value} {A : Around} {outer : List Env} {s : Shared} {H : Hp} {E : XK} {f1 f2 f3 f4 f5 f6 : Addr} {d1 d2 d3 d4 d5 d6 : FuncData} (T : TB K C) (G : b1x P w K mg base n C Pt f1 f2 f3 f4 f5 f6 d1 d2 d3 d4 d5 d6)
    (hr : Room (n + 1) (A.deeper (PyProof.Rows.envOfC "greatest" (i9 K4) s.heap.objs.size f cdv))) (hr0 : Room n (A.deeper (PyProof.Rows.envOfC "greatest" (i9 K4) s.heap.objs.size f cdv))) :
    { t : TS // PSs (M1 G8 P w K mg base ["goal", "rows", "bounds", "board", "column", "row"] "greatest" (i9 K4) f cdv A outer s H E).nox (y4 K4) t } :=
  ⟨_, j0 (l0 (i := 3) scGr.nd rfl (Or.inl rfl) (a7S G.mak G.ini hr rfl G.mC G.inb .nil v8 (c5 (pv 0) (c5 (pv 1) (c5 (pv 2) c7)))))
    (j0 (l0 (i := 4) scGr.nd rfl (Or.inl rfl) (Y8 (pv 3) T.cl G.com.me G.com.ok hr0 G.com.bd .nil v8))
    (j0 (a0E PassesOwn.never (r8 a2m (pv 4) N3 (r6 _))
      (j0 (l0 (i := 5) scGr.nd rfl (Or.inl rfl) (a1Z (pv 3) T.cl G.goi.me G.goi.ok hr0 G.goi.bd .nil v8 (c5 (pv 4) c7)))
      (j0 (A5 (r8 a2s (pv 5) N3 (r6 _)) (j4 (t7 N3)) t0)
      (j0 (V3 (a1Z (pv 3) T.cl G.exc.me G.exc.ok hr0 G.exc.bd .nil v8 (c5 (pv 5) (c5 (pv 4) c7))))
      (j4 (l0 (i := 4) scGr.nd rfl (Or.inl rfl) (Y8 (pv 3) T.cl G.com.me G.com.ok hr0 G.com.bd .nil v8)))))))
    (j4 (t7 (D7 (c5 (j6 j5 (j6 j5 (v9 (pv 3) rfl) (Q4 M0 c6) (fun _ _ => rfl)) (Q4 M0 c6) (fun _ _ => rfl))
      (c5 (Y8 (pv 3) T.cl G.amt.me G.amt.ok hr0 G.amt.bd .nil v8) (c5 (Y8 (pv 3) T.cl G.wts.me G.wts.ok hr0 G.wts.bd .nil v8) (c5 (v9 (pv 3) rfl) c7)))))))))⟩
end
end Rim
namespace Rim
open PySem L2
section
variable {P : Program} {w : World} {K : W.Frag} {mg : Str -> Option Value} {base : Heap} {f Pt : Addr} {fd : FuncData} {n : Nat} {C : Addr}
theorem RowsL.same {H H' : Hp} {vs : List V} {rs : List (List Int)} (e : Same H H') (x : RowsL K H vs rs) : RowsL K H' vs rs := Paired.imp' (fun _ _ ⟨a, z, q⟩ => ⟨a, z, e.seq q⟩) x
theorem b0H {m q M : Nat} {A : Nat -> Nat -> Int} {b c : Nat -> Int} {S : Lp.Bo} (O : Lp.Of m q A b c S) (hM : ∀ v, Lp.Fits M (m + 1) (Lp.Vv m q A b c v)) (hb : Lp.bnd M (m + 1) < 2 ^ 4000) : Sz 4000 m q S :=
  ⟨fun i j hi hj => Nat.lt_of_le_of_lt (O.w.bndT hM hi hj) hb, Nat.lt_of_le_of_lt (O.w.bndd hM) hb⟩
def Cv (m q : Nat) (S : Lp.Bo) (cv : V) : Prop := (cv = .non /\ ∀ j, j < q -> ¬ S.T m j < 0) \/ ∃ c : Nat, cv = .int c /\ c < q /\ S.T m c < 0 /\ ∀ i, i < q -> S.T m i < 0 -> S.outs c <= S.outs i
set_option maxHeartbeats 8000000 in
theorem a2M {f1 f2 f3 f4 f5 f6 : Addr} {d1 d2 d3 d4 d5 d6 : FuncData} (F : Fun K "greatest" "greatest" K4 f fd) (T : TB K C) (G : b1x P w K mg base n C Pt f1 f2 f3 f4 f5 f6 d1 d2 d3 d4 d5 d6) :
    FnOk P w K mg base G8 (n + 2) f fd ["goal", "rows", "bounds"] (X3 K C Pt) := by
  refine F.ok scGr (fun vs H Q E h => ?_) (fun cdv A outer s H vs Q E hr h => ?_)
  . obtain ⟨ga, ra, ba, goal, rvs, rows, bounds, m, q, M, rfl, _⟩ := h
    rfl
  obtain ⟨ga, ra, ba, goal, rvs, rows, bounds, m, q, M, rfl, hg, hra, hrw, hba, lr, lb, lg, hrl, hm, hq, hbn, hM, hB, L, kT, kN⟩ := h
  refine ⟨_, (grT T G hr (hr.mono (by lia))).2, ?_⟩
  refine ⟨_, rfl, _, rfl, _, rfl, fun p dx hp hdx hne => ?_⟩
  have e0 : Same H (upd (upd H dx (.own p)) p (.ins C dx [])) := fun b o q' => by rw [h8 (i7 q' hp), h8 (i7 q' hdx)]; exact q'
  refine ⟨p, dx, ga, ra, ba, goal, rvs, rows, bounds, m, q, rfl, upd_same, e0.seq hg, e0.seq hra, hrw.same e0, e0.seq hba, lr, lb, lg, hrl, hm, hq, fun H1 ca oa ia rs B k1 hoa hia => ⟨rfl, ?_⟩⟩
  -- what the board is
  have nop : oa ≠ p := a1o B.out B.obj (by intro z; cases z)
  have nip : ia ≠ p := a1o B.inn B.obj (by intro z; cases z)
  have hoa0 : H oa = none := by
    cases z : H oa with
    | none => rfl
    | some o => rw [e0 _ _ z] at hoa; cases hoa
  have hia0 : H ia = none := by
    cases z : H ia with
    | none => rfl
    | some o => rw [e0 _ _ z] at hia; cases hia
  have s1 : Same H H1 := fun b o z => k1 b o (i7 z hp) (e0 _ _ z)
  have L1 : LT Pt H1 := L.same s1
  have O0 := Lp.of0 (A := S4 rows) (c := K5 goal) (q := q) hbn
  -- column = board.coming()
  have come : ∀ (S : Lp.Bo) (ca : Addr) (rs : List Addr) (H2 : Hp) (R : V -> Hp -> Prop), Bd C H2 p dx ca oa ia rs m q S -> LT Pt H2 -> Same1 Pt H H2 -> (∀ cv H3, Cv m q S cv -> Bd C H3 p dx ca oa ia rs m q S -> LT Pt H3 -> Same1 Pt H H3 -> R cv H3) →
      a1r C Pt [.ref p] H2 R E0 := fun S ca rs H2 R B2 L2 e2 hR => by
    refine ⟨p, dx, ca, oa, ia, rs, m, q, S, rfl, B2, by lia, L2, fun H3 e3 L3 => ?_⟩
    have B3 := B2.lam L2 e3
    have e4 : Same1 Pt H H3 := fun b o hb z => e3 b o hb (e2 b o hb z)
    exact ⟨fun hn => hR _ _ (.inl ⟨rfl, hn⟩) B3 L3 e4, fun j hj hneg hmin => hR _ _ (.inr ⟨j, rfl, hj, hneg, hmin⟩) B3 L3 e4⟩
  refine ⟨_, rfl, p, dx, _, rfl, B.obj, rfl, ?_⟩
  unfold a8i
  refine come _ _ _ _ _ B L1 (fun b o _ z => s1 b o z) fun cv H2 hcv B2 L2 e2 => ?_
  -- while column is not None
  obtain ⟨kk, hkk⟩ := O0.w.ends hM
  refine ⟨fun j σ H3 => ∃ (S : Lp.Bo) (ca : Addr) (rs : List Addr) (cv : V) (o5 : Option V), σ = [some (.ref ga), some (.ref ra), some (.ref ba), some (.ref p), some cv, o5] /\ Lp.Of m q (S4 rows) (K5 bounds) (K5 goal) S /\ Lp.Ends m q S j /\ Cv m q S cv /\ Bd C H3 p dx ca oa ia rs m q S /\ LT Pt H3 /\ Same1 Pt H H3,
    ⟨kk, _, ca, rs, cv, _, rfl, O0, hkk, hcv, B2, L2, e2⟩, ?_⟩
  rintro j σ H3 ⟨S, ca, rs, cv, o5, rfl, O, hE, hcv, B3, L3, e3⟩
  have sz := b0H O hM hB
  refine ⟨_, rfl, rfl, _, rfl, ?_⟩
  rcases hcv with ⟨rfl, hn⟩ | ⟨c, rfl, hc, hneg, hmin⟩
  . refine D8 (fun z => ?_) (fun _ => ?_)
    . exact absurd z (by decide)
    -- the answer
    obtain ⟨rm, em, am⟩ := B3.rs_last
    refine ⟨_, rfl, p, C, dx, _, _, rfl, B3.obj, T.cl, T.nC, rfl, _, rfl, ca, _, _, _, rfl, rfl, SqL.of B3.cel, am, _, rfl, rm, _, _, _, rfl, rfl, SqL.of (B3.row m rm em), T9, ?_⟩
    refine ⟨_, rfl, p, dx, _, rfl, B3.obj, rfl, ?_⟩
    refine ⟨p, dx, ca, oa, ia, rs, m, q, S, rfl, B3, hm, hq, O.w.ii, fun aa H4 e4 haa h4 => ?_⟩
    have B4 : Bd C H4 p dx ca oa ia rs m q S := B3.same1 (P := Pt) fun b o z _ => e4 b o z
    refine ⟨_, rfl, p, dx, _, rfl, B4.obj, rfl, ?_⟩
    refine ⟨p, dx, ca, oa, ia, rs, m, q, S, rfl, B4, hm, hq, O.w.oo, O.w.ob, fun wa H5 e5 hwa h5 => ?_⟩
    have B5 : Bd C H5 p dx ca oa ia rs m q S := B4.same1 (P := Pt) fun b o z _ => e5 b o z
    refine ⟨_, rfl, p, C, dx, _, _, rfl, B5.obj, T.cl, T.nS, rfl, (by show 4 <= sizeLine; decide), fun t ht => ?_⟩
    have e6 := (e4.trans e5).trans (Same.new ht (.tup [.int (S.T m q), .ref aa, .ref wa, .int S.d]))
    refine kT S _ t aa wa O hn sz (fun b o hb z => e6 b o (e3 b o hb z)) (L3.same e6) upd_same ?_ ?_
    . rw [h8 (i7 (e5 _ _ h4) ht)]; exact e5 _ _ h4
    . rw [h8 (i7 h5 ht)]; exact h5
  . refine D8 (fun _ => ?_) (fun z => absurd rfl z)
    -- row = board.going(column)
    refine ⟨fun σ' H' => ∃ j', j' < j /\ ∃ (S : Lp.Bo) (ca : Addr) (rs : List Addr) (cv : V) (o5 : Option V), σ' = [some (.ref ga), some (.ref ra), some (.ref ba), some (.ref p), some cv, o5] /\ Lp.Of m q (S4 rows) (K5 bounds) (K5 goal) S /\ Lp.Ends m q S j' /\ Cv m q S cv /\ Bd C H' p dx ca oa ia rs m q S /\ LT Pt H' /\ Same1 Pt H H', fun σ' H' z => z, ?_⟩
    refine ⟨_, rfl, p, dx, _, rfl, B3.obj, rfl, _, rfl, ?_⟩
    refine ⟨p, dx, ca, oa, ia, rs, m, q, S, c, rfl, B3, sz, by lia, by lia, fun hnone => ?_, fun r hrm hpos hbet => ?_⟩
    . refine ⟨_, rfl, rfl, _, rfl, ?_⟩
      refine D8 (fun _ => ?_) (fun z => absurd (decide_eq_true rfl) z)
      exact kN S H3 c O hc hneg hnone e3 L3
    . have Ch : Lp.Choice m q S r c := ⟨hc, hneg, hmin, hrm, hpos, fun i hi hp' => (hbet i hi hp').1, fun i hi hp' => (hbet i hi hp').2⟩
      refine ⟨_, rfl, rfl, _, rfl, ?_⟩
      refine D8 (fun z => absurd (of_decide_eq_true z) (by nofun)) (fun _ => ?_)
      refine ⟨_, rfl, p, dx, _, rfl, B3.obj, rfl, _, rfl, _, rfl, ?_⟩
      refine ⟨p, dx, ca, oa, ia, rs, m, q, S, r, c, rfl, B3, sz, hrm, hc, hm, hq, O.w.pos, fun H4 ca' rs' B4 k4 => ?_⟩
      have e4 : Same1 Pt H H4 := fun b o hb z => k4 b o (i7 z hp) (i7 z hoa0) (i7 z hia0) (e3 b o hb z)
      have tk : ∀ b o, H3 b = some o -> (∀ C dx fs, o ≠ .ins C dx fs) -> (∀ xs, o ≠ .lst xs) -> H4 b = some o := fun b o z n1 n2 => k4 b o (fun y => by subst y; rw [B3.obj] at z; exact n1 _ _ _ (Option.some.inj z).symm) (fun y => by subst y; rw [B3.out] at z; exact n2 _ (Option.some.inj z).symm) (fun y => by subst y; rw [B3.inn] at z; exact n2 _ (Option.some.inj z).symm) z
      have L4 : LT Pt H4 := by
        rcases L3 with t | ⟨c', t1, t2⟩
        . exact .inl (tk _ _ t (fun _ _ _ => nofun) fun _ => nofun)
        . exact .inr ⟨c', tk _ _ t1 (fun _ _ _ => nofun) fun _ => nofun, tk _ _ t2 (fun _ _ _ => nofun) fun _ => nofun⟩
      refine ⟨_, rfl, p, dx, _, rfl, B4.obj, rfl, ?_⟩
      refine come _ _ _ _ _ B4 L4 e4 fun cv' H5 hcv' B5 L5 e5 => ?_
      obtain ⟨j', hj', hE'⟩ := hE.next O.w Ch
      exact ⟨j', hj', _, ca', rs', cv', _, rfl, O.piv Ch, hE', hcv', B5, L5, e5⟩
end
end Rim
namespace Rim
open PySem L2
section
variable {P : Program} {w : World} {K : W.Frag} {mg : Str -> Option Value} {base : Heap} {f g : Addr} {fd gd : FuncData}
def a0R (K : W.Frag) : Sp := fun vs H Q _ => ∃ (a : Addr) (ns : List Int) (k : Int), vs = [.ref a, .int k] /\ SqL K H a (ns.map V.int) /\ 0 <= k /\ ∀ c : Int, Q (.int c) H
theorem a9Y : m6 ["script", "k"] ["script", "k"] (i9 a7t) := ⟨rfl, rfl, rfl, by decide +kernel, rfl, by decide +kernel, by decide +kernel⟩
theorem a9B {ns : List Int} {k : Int} (h0 : 0 <= k) (h : k < ((ns.map V.int).length : Int)) : ∃ v : Int, X7 (ns.map V.int) k = some (.int v) := by
  have hl : (ns.map V.int).length = ns.length := List.length_map _
  have hk : k.toNat < ns.length := by lia
  have ek : k = ((k.toNat : Nat) : Int) := by lia
  have q : X7 (ns.map V.int) ((k.toNat : Nat) : Int) = some (.int ns[k.toNat]) := y6 (by rw [List.getElem?_map, List.getElem?_eq_getElem hk]; rfl)
  rw [<- ek] at q
  exact ⟨_, q⟩
theorem a7V {n : Nat} (F : Fun K "_law_cell_at" "_law_cell_at" a7t f fd) (T : B7 mg) : FnOk P w K mg base G8 (n + 1) f fd ["script", "k"] (a0R K) := by
  refine F.ok a9Y (fun vs H Q E h => ?_) (fun cdv A outer s H vs Q E hr h => ?_)
  . obtain ⟨a, ns, k, rfl, _⟩ := h
    rfl
  obtain ⟨a, ns, k, rfl, hS, h0, q⟩ := h
  refine ⟨_, j0 (A5 (r8 R5 (pv 1) (j8 j9 rfl T.len PySem.boot_len (c5 (pv 0) c7)) (r6 _)) (j4 (t7 (j6 j5 (pv 0) (pv 1) (fun _ _ => rfl)))) t0)
    (j4 (t7 c6)), ?_⟩
  refine ⟨_, rfl, _, rfl, a, _, rfl, .inl hS, _, _, rfl, rfl, _, rfl, ?_⟩
  refine D8 (fun c => ?_) (fun c => ?_)
  . obtain ⟨v, hv⟩ := a9B h0 (of_decide_eq_true c)
    exact ⟨_, rfl, _, rfl, a, _, _, _, rfl, rfl, hS, hv, q v⟩
  . exact q 0
def Y6 (K : W.Frag) : Sp := fun vs H Q _ => ∃ (c : Int) (many : Nat) (b : Int), vs = [.int c, .int (many : Int), .int b] /\ many <= 900 /\ 0 < b /\ b < 1073741824 ∧
  ∀ (r : Addr) (H' : Hp) (ds : List Int), Same H H' -> H' r = some (.lst (ds.map V.int)) -> ds.length = many -> (∀ d ∈ ds, 0 <= d /\ d < b) -> Q (.ref r) H'
theorem scDraws : m6 ["cell", "many", "base", "found", "rest", "stirred", "k"] ["cell", "many", "base"] (i9 a3v) := ⟨rfl, rfl, rfl, by decide +kernel, rfl, by decide +kernel, by decide +kernel⟩
theorem a6e {n : Nat} (F : Fun K "_law_draws" "_law_draws" a3v f fd) (T : B7 mg) : FnOk P w K mg base G8 (n + 1) f fd ["cell", "many", "base"] (Y6 K) := by
  refine F.ok scDraws (fun vs H Q E h => ?_) (fun cdv A outer s H vs Q E hr h => ?_)
  . obtain ⟨a, ns, k, rfl, _⟩ := h
    rfl
  obtain ⟨c, many, b, rfl, hm, hb0, hb1, q⟩ := h
  refine ⟨_, j0 (l0 (i := 3) scDraws.nd rfl (Or.inl rfl) (x6 c7))
    (j0 (l0 (i := 4) scDraws.nd rfl (Or.inl rfl) (j3 P7 (pv 0) (u0 a0h rfl T.int PyProof.Rows.boot_int (c5 (E4 a9l (pv 0) (j3 W5 c6 c6) (r6 _)) c7))))
    (j0 (l0 (i := 5) scDraws.nd rfl (Or.inl rfl) (j3 v5 (pv 0) c6))
    (j0 (T0 PassesOwn.never rfl (V2 rfl T.range (c5 (j3 A4 (pv 1) c6) c7)) (m9 (i := 6) scDraws.nd rfl (Or.inl rfl))
      (j0 (l0 (i := 5) scDraws.nd rfl (Or.inl rfl) (j3 v5 (j3 A4 (j3 A4 (j3 A4 (j3 P7 (pv 5) (pv 5)) (j3 P7 c6 (pv 5))) (pv 6)) c6) c6))
        (j4 (A5 (PW.pt (Y9 (r8 S7 (pv 6) c6 (r6 _)) (U8 (r8 S7 (pv 4) c6 (r6 _)))))
          (j0 (V3 (a2Q PySem.F.plainAttrs_list PySem.F.slot_list_append PySem.F.type_list_append O9 (pv 3) (c5 (j3 v5 (pv 4) (pv 2)) c7))) (j4 (l0 (i := 4) scDraws.nd rfl (Or.inl rfl) (j3 N7 (pv 4) (pv 2)))))
          (j4 (A5 (r8 S7 (pv 6) c6 (r6 _)) (j4 (V3 (a2Q PySem.F.plainAttrs_list PySem.F.slot_list_append PySem.F.type_list_append O9 (pv 3) (c5 (j3 v5 (j3 N7 (pv 5) c6) (pv 2)) c7)))) t0))))))
    (j4 (t7 (pv 3)))))), ?_⟩
  refine ⟨(by show 0 <= sizeLine; decide), fun fl hfl => ?_⟩
  refine ⟨_, rfl, _, rfl, _, _, rfl, rfl, ⟨by decide, by decide, by decide⟩, _, _, rfl, rfl, .inr ⟨_, rfl, _, _, rfl, rfl, .inr ?_, ?_⟩⟩
  . constructor <;> (split <;> decide)
  refine ⟨_, rfl, _, _, rfl, rfl, (by show (0 : Int) < 2305843009213693951; decide), ?_⟩
  refine ⟨_, rfl, _, _, rfl, rfl, ((many : Int) + 3), rfl, by lia, by lia, ?_⟩
  have e3 : ((many : Int) + 3).toNat = many + 3 := by lia
  rw [e3]
  refine a0a (n := many + 3) (fun i σ H' => ∃ (r st : Int) (ds : List Int) (ks : Option V), σ = [some (.int c), some (.int (many : Int)), some (.int b), some (.ref fl), some (.int r), some (.int st), ks] /\ H' = upd H fl (.lst (ds.map V.int)) /\ ds.length = i - 3 /\ (∀ d ∈ ds, 0 <= d /\ d < b) /\ 0 <= st /\ st < 2305843009213693951)
    ⟨_, _, [], none, rfl, rfl, rfl, fun d hd => (by cases hd), Int.emod_nonneg _ (by decide), Int.emod_lt_of_pos _ (by decide)⟩ ?_ ?_
  . rintro i σ H' hi ⟨r, st, ds, ks, rfl, rfl, hl, hd, hs0, hs1⟩
    refine ⟨_, rfl, _, rfl, _, _, rfl, rfl, .inl ⟨by lia, by lia⟩, _, rfl, _, _, rfl, rfl, .inl ⟨by decide, by decide⟩, _, _, rfl, rfl, _, rfl, _, _, rfl, rfl, _, _, rfl, rfl, _, _, rfl, rfl, (by show (0 : Int) < 2305843009213693951; decide), ?_⟩
    have hs0' : 0 <= (st * st + 48271 * st + (0 + (i : Int)) + 1) % 2305843009213693951 := Int.emod_nonneg _ (by decide)
    have hs1' : (st * st + 48271 * st + (0 + (i : Int)) + 1) % 2305843009213693951 < 2305843009213693951 := Int.emod_lt_of_pos _ (by decide)
    refine ⟨_, rfl, _, _, rfl, rfl, _, rfl, ?_⟩
    have hz : (ds.map V.int).length < sizeLine := by rw [List.length_map]; exact j7 (by lia)
    have more : ∀ d : Int, (ds.map V.int) ++ [V.int d] = (ds ++ [d]).map V.int := fun d => by rw [List.map_append]; rfl
    have mem : ∀ d : Int, 0 <= d -> d < b -> ∀ d' ∈ ds ++ [d], 0 <= d' /\ d' < b := fun d h0 h1 d' hd' => by
      rcases List.mem_append.mp hd' with z | z
      . exact hd d' z
      . rw [List.mem_singleton.mp z]; exact ⟨h0, h1⟩
    refine D8 (fun c1 => ?_) (fun c1 => ?_)
    . have c1' : 2 < 0 + (i : Int) := of_decide_eq_true c1
      refine ⟨_, rfl, _, _, rfl, rfl, _, rfl, ?_⟩
      refine D8 (fun c2 => ?_) (fun c2 => ?_)
      . refine ⟨_, rfl, .inl ⟨rfl, _, SqL.of upd_same⟩, _, rfl, _, rfl, _, _, rfl, rfl, hb0, fl, _, _, rfl, rfl, upd_same, hz, ?_⟩
        refine ⟨_, rfl, _, rfl, _, _, rfl, rfl, ⟨hb0, hb1⟩, ?_⟩
        refine ⟨_, _, ds ++ [r % b], _, rfl, ?_, ?_, mem _ (Int.emod_nonneg _ (by lia)) (Int.emod_lt_of_pos _ hb0), hs0', hs1'⟩
        . rw [a0w, more]
        . rw [List.length_append, List.length_singleton]; lia
      . refine ⟨_, rfl, _, _, rfl, rfl, _, rfl, ?_⟩
        refine D8 (fun c3 => ?_) (fun c3 => absurd c1 c3)
        refine ⟨_, rfl, .inl ⟨rfl, _, SqL.of upd_same⟩, _, rfl, _, _, rfl, rfl, ⟨by decide, by decide⟩, _, rfl, _, _, rfl, rfl, hb0, fl, _, _, rfl, rfl, upd_same, hz, ?_⟩
        refine ⟨_, _, ds ++ [(st * st + 48271 * st + (0 + (i : Int)) + 1) % 2305843009213693951 / 4096 % b], _, rfl, ?_, ?_, mem _ (Int.emod_nonneg _ (by lia)) (Int.emod_lt_of_pos _ hb0), hs0', hs1'⟩
        . rw [a0w, more]
        . rw [List.length_append, List.length_singleton]; lia
    . have c1' : ¬ 2 < 0 + (i : Int) := of_decide_eq_false (Bool.eq_false_iff.mpr c1)
      refine N5 ?_
      refine ⟨_, rfl, _, _, rfl, rfl, _, rfl, ?_⟩
      refine D8 (fun c3 => absurd c3 c1) (fun c3 => ?_)
      exact ⟨_, _, ds, _, rfl, rfl, by lia, hd, hs0', hs1'⟩
  . intro σ H' hM_; refine D4 fun G_ hG_ => ?_; obtain ⟨r, st, ds, ks, rfl, rfl, hl, hd, _⟩ := hM_; subst hG_
    exact ⟨_, rfl, q fl _ ds (Same.new hfl _) upd_same (by lia) hd⟩
end
end Rim
namespace Rim
open PySem L2
theorem U0 {n : Nat} {k : Int} (h0 : 0 <= k) (h1 : k < (n : Int)) : ixN n k = some k.toNat := by
  unfold ixN
  rw [if_pos h0, if_pos h1]
theorem a8G {α : Type} {xs : List α} {k : Int} (h0 : 0 <= k) (h1 : k < (xs.length : Int)) : ∃ v, v ∈ xs /\ X7 xs k = some v := by
  have hk : k.toNat < xs.length := by lia
  refine ⟨xs[k.toNat], List.getElem_mem hk, ?_⟩
  unfold X7
  rw [U0 h0 h1]
  exact List.getElem?_eq_getElem hk
theorem K6 {ns : List Int} {k : Int} (h0 : 0 <= k) (h1 : k < (ns.length : Int)) : ∃ v, v ∈ ns /\ X7 (ns.map V.int) k = some (.int v) := by
  obtain ⟨v, hv, e⟩ := a8G (xs := ns.map V.int) h0 (by rw [List.length_map]; exact h1)
  obtain ⟨n, hn, rfl⟩ := List.mem_map.mp hv
  exact ⟨n, hn, e⟩
theorem map_set {ns : List Int} {j : Nat} {v : Int} : (ns.map V.int).set j (.int v) = (ns.set j v).map V.int := by rw [List.map_set]
structure HG (far : Int) (kt kg : Nat) (h : i8) : Prop where
  lt : h.1.length = kt
  lg : h.2.length = kg
  t : ∀ x ∈ h.1, 1 <= x /\ x <= far
  g : ∀ x ∈ h.2, 0 <= x /\ x <= far
  p : ∃ x ∈ h.2, 0 < x
section
variable {P : Program} {w : World} {K : W.Frag} {mg : Str -> Option Value} {base : Heap} {f g : Addr} {fd gd : FuncData}
def a3I (K : W.Frag) : Sp := fun vs H Q _ => ∃ (v : V) (p : Addr) (far : Int) (h : i8) (ds : List Int) (kt kg : Nat), vs = [v, .ref p, .int far] /\ HS K H v h /\ HG far kt kg h /\ 1 <= kt /\ kt <= 4 /\ 1 <= kg /\ kg <= 4 /\ 1 <= far ∧
  SqL K H p (ds.map V.int) /\ ds.length = 12 /\ (∀ d ∈ ds, 0 <= d) /\ ∀ (r : V) (H' : Hp) (h' : i8), Same H H' -> HS K H' r h' -> HG far kt kg h' -> Q r H'
theorem scNear : m6 ["house", "picks", "far", "takes", "gives", "by", "at"] ["house", "picks", "far"] (i9 a6c) := ⟨rfl, rfl, rfl, by decide +kernel, rfl, by decide +kernel, by decide +kernel⟩
theorem a8w : (["take", "by"] : List Str).Nodup := by decide +kernel
theorem a8t : (["give", "by"] : List Str).Nodup := by decide +kernel
theorem a7T {n : Nat} (F : Fun K "_law_near" "_law_near" a6c f fd) (T : B7 mg) : FnOk P w K mg base G8 (n + 1) f fd ["house", "picks", "far"] (a3I K) := by
  refine F.ok scNear (fun vs H Q E h => ?_) (fun cdv A outer s H vs Q E hr h => ?_)
  . obtain ⟨v, p, far, h, ds, kt, kg, rfl, _⟩ := h
    rfl
  obtain ⟨v, pk, far, h, ds, kt, kg, rfl, ⟨a, t, gv, rfl, h0, h1, h2⟩, hG, kt1, kt4, kg1, kg4, hfar, hP, hd12, hd0, q⟩ := h
  refine ⟨_, j0 (J3 (pv 0) (X4 rfl (v6 (m9 (i := 3) scNear.nd rfl (Or.inl rfl)) (v6 (m9 (i := 4) scNear.nd rfl (Or.inl rfl)) J4))))
    (j0 (l0 (i := 5) scNear.nd rfl (Or.inr rfl) (j6 j5 (x6 (c5 c6 (c5 c6 (c5 c6 (c5 c6 c7))))) (j3 v5 (j6 j5 (pv 1) c6 (fun _ _ => rfl)) c6) (fun _ _ => rfl)))
    (r9 (A5 (r8 S7 (j3 P7 (j8 (T8 rfl) rfl T.max PyProof.Rows.boot_max (c5 (j3 a0B (pv 3) (pv 4)) c7)) (pv 5)) (pv 2) (r6 _)) (j4 (l0 (i := 5) scNear.nd rfl (Or.inr rfl) c6)) t0)
    (j0 (a2I (i := 3) ["take"] [5] scNear.nd rfl rfl rfl (a0F (pv 3)) (fun _ _ _ _ => m9 (i := 0) a8w rfl (Or.inl rfl)) (fun _ _ _ _ => j3 P7 (pv 0) (pv 1)))
    (j0 (a2I (i := 4) ["give"] [5] scNear.nd rfl rfl rfl (a0F (pv 4)) (fun _ _ _ _ => m9 (i := 0) a8t rfl (Or.inl rfl)) (fun _ _ _ _ => j3 P7 (pv 0) (pv 1)))
    (r9 (A5 (r8 R6 (j3 v5 (j3 N7 (j6 j5 (pv 1) c6 (fun _ _ => rfl)) c6) c6) c6 (r6 _))
      (j0 (l0 (i := 6) scNear.nd rfl (Or.inl rfl) (j3 v5 (j6 j5 (pv 1) c6 (fun _ _ => rfl)) (j8 j9 rfl T.len PySem.boot_len (c5 (pv 3) c7))))
        (j4 (J3 (j8 (O8 rfl) rfl T.min PyProof.Rows.boot_min (c5 (pv 2) (c5 (j3 A4 (j3 A4 (j6 j5 (pv 3) (pv 6) (fun _ _ => rfl)) (j3 v5 (j3 N7 (j6 j5 (pv 1) c6 (fun _ _ => rfl)) c6) c6)) c6) c7))) (O3 (pv 3) (pv 6) E8)))) t0)
    (r9 (A5 (r8 R6 (j3 v5 (j3 N7 (j6 j5 (pv 1) c6 (fun _ _ => rfl)) c6) c6) c6 (r6 _))
      (j0 (l0 (i := 6) scNear.nd rfl (Or.inl rfl) (j3 v5 (j6 j5 (pv 1) c6 (fun _ _ => rfl)) (j8 j9 rfl T.len PySem.boot_len (c5 (pv 4) c7))))
        (j4 (J3 (j8 (O8 rfl) rfl T.min PyProof.Rows.boot_min (c5 (pv 2) (c5 (j3 A4 (j6 j5 (pv 4) (pv 6) (fun _ _ => rfl)) c6) c7))) (O3 (pv 4) (pv 6) E8)))) t0)
    (j4 (t7 (D7 (c5 (u0 A8 rfl T.tuple PyProof.Rows.boot_tuple (c5 (pv 3) c7)) (c5 (u0 A8 rfl T.tuple PyProof.Rows.boot_tuple (c5 (pv 4) c7)) c7))))))))))), ?_⟩
  obtain ⟨d9, hd9, a9⟩ := K6 (ns := ds) (k := 9) (by decide) (by lia)
  obtain ⟨d8, hd8, a8⟩ := K6 (ns := ds) (k := 8) (by decide) (by lia)
  have p9 := hd0 d9 hd9
  have p8 := hd0 d8 hd8
  refine ⟨_, rfl, a, _, rfl, h0, rfl, _, _, rfl, _, _, rfl, rfl, ?_⟩
  refine ⟨(by show 4 <= sizeLine; decide), fun lp hlp => ?_⟩
  have s1 := Same.new hlp (.lst [V.int 1, V.int 1, V.int 2, V.int 3])
  obtain ⟨bv, hbv, abv⟩ := K6 (ns := [1, 1, 2, 3]) (k := d9 % 4) (by lia) (by show d9 % 4 < 4; lia)
  have hb : 1 <= bv /\ bv <= 3 := by
    simp at hbv
    rcases hbv with rfl | rfl | rfl <;> decide
  refine ⟨_, rfl, pk, _, 9, _, rfl, rfl, s1.seq hP, a9, _, _, rfl, rfl, (by show (0 : Int) < 4; decide), lp, _, _, _, rfl, rfl, SqL.of upd_same, abv, ?_⟩
  have l1 : (h.1.map V.int).length = kt := by rw [List.length_map]; exact hG.lt
  have l2 : (h.2.map V.int).length = kg := by rw [List.length_map]; exact hG.lg
  have hne : h.1 ++ h.2 ≠ [] := fun z => by
    have := congrArg List.length z
    rw [List.length_append, hG.lt] at this
    simp at this
    lia
  refine ⟨fun σ' H' => ∃ b : Int, σ' = [some (.ref a), some (.ref pk), some (.int far), some (.ref t), some (.ref gv), some (.int b), none] /\ Same H H' /\ (1 <= b /\ b <= 3) /\ ∀ x ∈ h.1 ++ h.2, x * b <= far, ?_, ?_⟩
  . refine ⟨_, rfl, _, rfl, t, gv, _, _, rfl, rfl, s1.tseq h1, s1.tseq h2, ?_, ?_, ?_, ?_⟩
    . intro z; rw [z] at l1; simp at l1; lia
    . rw [l1, l2]; exact Nat.le_of_lt (j7 (by lia))
    . intro z; rw [z] at l2; simp at l2; lia
    . intro _ pc hpc
      have s2 := Same.new hpc (.tup (h.1.map V.int ++ h.2.map V.int))
      refine ⟨pc, h.1 ++ h.2, rfl, .inr (SqT.of (by rw [upd_same, List.map_append])), hne, fun M hM hMx => ?_⟩
      refine ⟨_, rfl, _, _, rfl, rfl, .inr ⟨by lia, by lia⟩, _, rfl, _, _, rfl, rfl, _, rfl, ?_⟩
      refine D8 (fun c => ?_) (fun c => ?_)
      . refine ⟨1, rfl, s1.trans s2, by decide, fun x hx => ?_⟩
        rcases List.mem_append.mp hx with z | z
        . have := hG.t x z; lia
        . have := hG.g x z; lia
      . have c' : ¬ far < M * bv := of_decide_eq_false (Bool.eq_false_iff.mpr c)
        refine ⟨bv, rfl, s1.trans s2, hb, fun x hx => ?_⟩
        have := Int.mul_le_mul_of_nonneg_right (hMx x hx) (show 0 <= bv by lia)
        lia
  intro σ' H2 hM_; refine D4 fun G_ hG_ => ?_; obtain ⟨b, rfl, e2, hb, hbx⟩ := hM_; subst hG_
  have mulok : CMul = CMul := rfl
  refine ⟨_, rfl, t, rfl, ⟨_, e2.tseq h1⟩, fun tl htl => ?_⟩
  refine M8 (S2 (e2.tseq h1)) htl (by rw [l1]; exact j7 (by lia)) (fun x => .int (vI x * b)) (fun i x H' N hx e hN => ?_) ?_
  . obtain ⟨k, rfl⟩ := D9 hx
    exact ⟨Wk.set (by decide), _, rfl, _, rfl, _, _, rfl, rfl, .inr ⟨by lia, by lia⟩, hN⟩
  have e3 := e2.write (o := .lst ((h.1.map V.int).map fun x => .int (vI x * b))) (e2.free htl)
  refine ⟨_, rfl, gv, rfl, ⟨_, e3.tseq h2⟩, fun gl hgl => ?_⟩
  refine M8 (S2 (e3.tseq h2)) hgl (by rw [l2]; exact j7 (by lia)) (fun x => .int (vI x * b)) (fun i x H' N hx e hN => ?_) ?_
  . obtain ⟨k, rfl⟩ := D9 hx
    exact ⟨Wk.set (by decide), _, rfl, _, rfl, _, _, rfl, rfl, .inr ⟨by lia, by lia⟩, hN⟩
  have eA : (h.1.map V.int).map (fun x => V.int (vI x * b)) = (h.1.map (· * b)).map V.int := by rw [List.map_map, List.map_map]; rfl
  have eB : (h.2.map V.int).map (fun x => V.int (vI x * b)) = (h.2.map (· * b)).map V.int := by rw [List.map_map, List.map_map]; rfl
  have ftl : H tl = none := e2.free htl
  have fgl : H gl = none := e3.free hgl
  have ne1 : tl ≠ gl := fun z => by rw [<- z, upd_same] at hgl; cases hgl
  rw [eA, eB]
  rw [eA] at e3
  have e4 := e3.write (o := .lst ((h.2.map (· * b)).map V.int)) fgl
  have at4 : upd (upd H2 tl (.lst ((h.1.map (· * b)).map V.int))) gl (.lst ((h.2.map (· * b)).map V.int)) tl = some (.lst ((h.1.map (· * b)).map V.int)) := by rw [h8 ne1, upd_same]
  have ag4 : upd (upd H2 tl (.lst ((h.1.map (· * b)).map V.int))) gl (.lst ((h.2.map (· * b)).map V.int)) gl = some (.lst ((h.2.map (· * b)).map V.int)) := upd_same
  generalize upd (upd H2 tl (.lst ((h.1.map (· * b)).map V.int))) gl (.lst ((h.2.map (· * b)).map V.int)) = H4 at e4 at4 ag4 ⊢
  have tA : ∀ x ∈ h.1.map (· * b), 1 <= x /\ x <= far := fun x hx => by
    obtain ⟨y, hy, rfl⟩ := List.mem_map.mp hx
    have y1 := (hG.t y hy).1
    have y2 := hbx y (List.mem_append_left _ hy)
    have y3 := Int.mul_le_mul y1 hb.1 (by decide) (by lia)
    exact ⟨by simpa using y3, y2⟩
  have tB : ∀ x ∈ h.2.map (· * b), 0 <= x /\ x <= far := fun x hx => by
    obtain ⟨y, hy, rfl⟩ := List.mem_map.mp hx
    exact ⟨Int.mul_nonneg (hG.g y hy).1 (by lia), hbx y (List.mem_append_right _ hy)⟩
  have tP : ∃ x ∈ h.2.map (· * b), 0 < x := by
    obtain ⟨y, hy, y0⟩ := hG.p
    exact ⟨y * b, List.mem_map.mpr ⟨y, hy, rfl⟩, Int.mul_pos y0 (by lia)⟩
  have lA : (h.1.map (· * b)).length = kt := by rw [List.length_map]; exact hG.lt
  have lB : (h.2.map (· * b)).length = kg := by rw [List.length_map]; exact hG.lg
  generalize h.1.map (· * b) = A0 at tA lA at4
  generalize h.2.map (· * b) = B0 at tB lB tP ag4
  refine ⟨fun σ' H' => ∃ (A1 : List Int) (ks : Option V), σ' = [some (.ref a), some (.ref pk), some (.int far), some (.ref tl), some (.ref gl), some (.int b), ks] /\ Same H H' /\ H' tl = some (.lst (A1.map V.int)) /\ H' gl = some (.lst (B0.map V.int)) /\ A1.length = kt /\ ∀ x ∈ A1, 1 <= x /\ x <= far, ?_, ?_⟩
  . refine ⟨_, rfl, pk, _, 9, _, rfl, rfl, e4.seq hP, a9, _, _, rfl, rfl, ⟨by decide, by decide⟩, _, _, rfl, rfl, (by show (0 : Int) < 3; decide), rfl, _, rfl, ?_⟩
    refine D8 (fun c => ?_) (fun c => ⟨A0, none, rfl, e4, at4, ag4, lA, tA⟩)
    have lA' : (A0.map V.int).length = kt := by rw [List.length_map]; exact lA
    refine ⟨_, rfl, pk, _, 8, _, rfl, rfl, e4.seq hP, a8, _, rfl, tl, _, rfl, .inl (SqL.of at4), _, _, rfl, rfl, (by show (0 : Int) < ((A0.map V.int).length : Int); rw [lA']; lia), ?_⟩
    have r0 : 0 <= d8 % ((A0.map V.int).length : Int) := Int.emod_nonneg _ (by rw [lA']; lia)
    have r1 : d8 % ((A0.map V.int).length : Int) < ((A0.map V.int).length : Int) := Int.emod_lt_of_pos _ (by rw [lA']; lia)
    obtain ⟨x, hx, ax⟩ := K6 (ns := A0) (k := d8 % ((A0.map V.int).length : Int)) r0 (by rw [List.length_map] at r1 ⊢; exact r1)
    have hx1 := tA x hx
    refine ⟨_, rfl, _, rfl, _, rfl, tl, _, _, _, rfl, rfl, SqL.of at4, ax, _, rfl, pk, _, 9, _, rfl, rfl, e4.seq hP, a9, _, _, rfl, rfl, ⟨by decide, by decide⟩, _, _, rfl, rfl, (by show (0 : Int) < 2; decide), _, _, rfl, rfl, _, _, rfl, rfl, _, _, rfl, ?_⟩
    refine ⟨_, rfl, _, rfl, tl, _, _, _, rfl, rfl, at4, U0 r0 r1, ?_⟩
    refine ⟨A0.set (d8 % ((A0.map V.int).length : Int)).toNat _, _, rfl, e4.write ftl, by rw [upd_same, map_set], by rw [h8 (Ne.symm ne1)]; exact ag4, by rw [List.length_set]; exact lA, fun y hy => ?_⟩
    rcases List.mem_or_eq_of_mem_set hy with z | z
    . exact tA y z
    . rw [z]
      split <;> lia
  intro σ' H5 hM_; refine D4 fun G_ hG_ => ?_; obtain ⟨A1, ks, rfl, e5, at5, ag5, lA1, tA1⟩ := hM_; subst hG_
  refine ⟨fun σ' H' => ∃ (B1 : List Int) (ks : Option V), σ' = [some (.ref a), some (.ref pk), some (.int far), some (.ref tl), some (.ref gl), some (.int b), ks] /\ Same H H' /\ H' tl = some (.lst (A1.map V.int)) /\ H' gl = some (.lst (B1.map V.int)) /\ B1.length = kg /\ (∀ x ∈ B1, 0 <= x /\ x <= far) /\ ∃ x ∈ B1, 0 < x, ?_, ?_⟩
  . refine ⟨_, rfl, pk, _, 9, _, rfl, rfl, e5.seq hP, a9, _, _, rfl, rfl, ⟨by decide, by decide⟩, _, _, rfl, rfl, (by show (0 : Int) < 3; decide), rfl, _, rfl, ?_⟩
    refine D8 (fun c => ?_) (fun c => ⟨B0, ks, rfl, e5, at5, ag5, lB, tB, tP⟩)
    have lB' : (B0.map V.int).length = kg := by rw [List.length_map]; exact lB
    refine ⟨_, rfl, pk, _, 8, _, rfl, rfl, e5.seq hP, a8, _, rfl, gl, _, rfl, .inl (SqL.of ag5), _, _, rfl, rfl, (by show (0 : Int) < ((B0.map V.int).length : Int); rw [lB']; lia), ?_⟩
    have r0 : 0 <= d8 % ((B0.map V.int).length : Int) := Int.emod_nonneg _ (by rw [lB']; lia)
    have r1 : d8 % ((B0.map V.int).length : Int) < ((B0.map V.int).length : Int) := Int.emod_lt_of_pos _ (by rw [lB']; lia)
    obtain ⟨x, hx, ax⟩ := K6 (ns := B0) (k := d8 % ((B0.map V.int).length : Int)) r0 (by rw [List.length_map] at r1 ⊢; exact r1)
    have hx1 := tB x hx
    refine ⟨_, rfl, _, rfl, _, rfl, gl, _, _, _, rfl, rfl, SqL.of ag5, ax, _, _, rfl, rfl, _, _, rfl, ?_⟩
    refine ⟨_, rfl, _, rfl, gl, _, _, _, rfl, rfl, ag5, U0 r0 r1, ?_⟩
    have rn : (d8 % ((B0.map V.int).length : Int)).toNat < B0.length := by rw [List.length_map] at r1 ⊢; lia
    refine ⟨B0.set (d8 % ((B0.map V.int).length : Int)).toNat _, _, rfl, e5.write fgl, by rw [h8 ne1]; exact at5, by rw [upd_same, map_set], by rw [List.length_set]; exact lB, fun y hy => ?_, _, List.mem_set rn _, ?_⟩
    . rcases List.mem_or_eq_of_mem_set hy with z | z
      . exact tB y z
      . rw [z]
        split <;> lia
    . split <;> lia
  intro σ' H6 hM_; refine D4 fun G_ hG_ => ?_; obtain ⟨B1, ks, rfl, e6, at6, ag6, lB1, tB1, tP1⟩ := hM_; subst hG_
  refine ⟨_, rfl, tl, _, rfl, .inl ⟨SqL.of at6, fun pt hpt => ?_⟩⟩
  have f1 := Same.new hpt (.tup (A1.map V.int))
  refine ⟨_, rfl, gl, _, rfl, .inl ⟨SqL.of (f1 _ _ ag6), fun pg hpg => ?_⟩⟩
  have f2 := Same.new hpg (.tup (B1.map V.int))
  refine ⟨(by show 2 <= sizeLine; decide), fun pr hpr => ?_⟩
  have f3 := Same.new hpr (.tup [V.ref pt, V.ref pg])
  exact q _ _ (A1, B1) (e6.trans (f1.trans (f2.trans f3))) ⟨pr, pt, pg, rfl, SqT.of upd_same, SqT.of (f3 _ _ (f2 _ _ upd_same)), SqT.of (f3 _ _ upd_same)⟩ ⟨lA1, lB1, tA1, tB1, tP1⟩
end
end Rim
namespace L2
open PySem
def Keep (H H' : Hp) : Prop := ∀ b o, H b = some o -> (∀ xs, o ≠ .lst xs) -> H' b = some o
theorem Keep.upd {H : Hp} {b : Addr} {ys : List V} {o : HO} (h : H b = some (.lst ys)) : Keep H (upd H b o) := fun c u q n => by
  have : c ≠ b := fun z => by rw [z, h] at q; exact n ys (Option.some.inj q).symm
  rw [h8 this]; exact q
theorem Keep.tseq {K : W.Frag} {H H' : Hp} {a : Addr} {xs : List V} (e : Keep H H') (h : SqT K H a xs) : SqT K H' a xs := by
  rcases h with (h | ⟨o, h⟩) | h
  . exact .inl (.inl (e _ _ h (fun _ z => nomatch z)))
  . exact .inl (.inr ⟨o, e _ _ h (fun _ z => nomatch z)⟩)
  . exact .inr h
end L2
namespace Rim
open PySem L2
theorem HS.keep {K : W.Frag} {H H' : Hp} {v : V} {h : i8} (e : Keep H H') (x : HS K H v h) : HS K H' v h := by
  obtain ⟨a, t, g, h0, h1, h2, h3⟩ := x
  exact ⟨a, t, g, h0, e.tseq h1, e.tseq h2, e.tseq h3⟩
theorem Bk.keep {K : W.Frag} {H H' : Hp} {vs : List V} {hs : List i8} (e : Keep H H') (x : Bk K H vs hs) : Bk K H' vs hs := Paired.imp' (fun _ _ r => HS.keep e r) x
def a2F (ns : List Int) : PyData := .tuple (ns.map PyData.int)
def A7 (h : i8) : PyData := .tuple [a2F h.1, a2F h.2]
theorem a1b {K : W.Frag} {H : Hp} : ∀ ns : List Int, Dps K H (ns.map V.int) (ns.map PyData.int)
  | [] => .nil
  | n :: r => .cons (.int n) (a1b r)
theorem HS.dp {K : W.Frag} {H : Hp} {v : V} {h : i8} (x : HS K H v h) : Dp K H v (A7 h) := by
  obtain ⟨a, t, g, rfl, h1, h2, h3⟩ := x
  exact .tup h1 (.cons (.tup h2 (a1b _)) (.cons (.tup h3 (a1b _)) .nil))
theorem Bk.dps {K : W.Frag} {H : Hp} : ∀ {vs : List V} {hs : List i8}, Bk K H vs hs -> Dps K H vs (hs.map A7)
  | _, _, .nil => .nil
  | _, _, .cons x r => .cons x.dp (Bk.dps r)
theorem a1n : ∀ ns : List Int, PyData.canLayAll0 (ns.map PyData.int) = true
  | [] => by rw [List.map_nil, PyData.canLayAll0]
  | n :: r => by rw [List.map_cons, PyData.canLayAll0, a1n r, PyData.canLay0]; rfl
theorem Z4 (h : i8) : (A7 h).canLay0 = true := by
  unfold A7 a2F
  rw [PyData.canLay0, PyData.canLayAll0, PyData.canLay0, a1n, PyData.canLayAll0, PyData.canLay0, a1n, PyData.canLayAll0]; rfl
theorem S6 : ∀ hs : List i8, PyData.canLayAll0 (hs.map A7) = true
  | [] => by rw [List.map_nil, PyData.canLayAll0]
  | h :: r => by rw [List.map_cons, PyData.canLayAll0, Z4, S6 r]; rfl
section
variable {P : Program} {w : World} {K : W.Frag} {mg : Str -> Option Value} {base : Heap} {f g : Addr} {fd gd : FuncData}
def a4l (K : W.Frag) : Sp := fun vs H Q _ => ∃ (a : Addr) (ns : List Int) (at' most far : Int), vs = [.ref a, .int at', .int most, .int far] /\ SqL K H a (ns.map V.int) /\ 0 <= at' /\ 1 <= most /\ most <= 900 /\ 1 <= far ∧
  ∀ (r : Addr) (H' : Hp) (xs : List V) (hs : List i8) (kt kg : Nat), Same H H' -> H' r = some (.lst xs) -> Bk K H' xs hs -> 1 <= hs.length -> (hs.length : Int) <= most -> 1 <= kt -> kt <= 4 -> 1 <= kg -> kg <= 4 -> (∀ h ∈ hs, HG far kt kg h) -> Q (.ref r) H'
theorem scABook : m6 ["script", "at", "most", "far", "heads", "kinds", "many", "size", "book", "k", "picks", "takes", "some", "gives", "house"] ["script", "at", "most", "far"] (i9 a0e) := ⟨rfl, rfl, rfl, by decide +kernel, rfl, by decide +kernel, by decide +kernel⟩
theorem a4K : (["pick", "size"] : List Str).Nodup := by decide +kernel
set_option maxHeartbeats 4000000 in
noncomputable def abT {n : Nat} {fc fw fn : Addr} {dc dw dn : FuncData} {cdv : Value} {A : Around} {outer : List Env} {s : Shared} {H : Hp} {E : XK} (T : B7 mg)
    (Gc : FnOk P w K mg base G8 n fc dc ["script", "k"] (a0R K)) (bc : Binds K dc ["script", "k"] []) (kc : W.keepIn K (.ref fc) = true) (mc : mg "_law_cell_at" = some (.ref fc))
    (Gw : FnOk P w K mg base G8 n fw dw ["cell", "many", "base"] (Y6 K)) (bw : Binds K dw ["cell", "many", "base"] []) (kw : W.keepIn K (.ref fw) = true) (mw : mg "_law_draws" = some (.ref fw))
    (Gn : FnOk P w K mg base G8 n fn dn ["house", "picks", "far"] (a3I K)) (bn : Binds K dn ["house", "picks", "far"] []) (kn : W.keepIn K (.ref fn) = true) (mn : mg "_law_near" = some (.ref fn))
    (hr : Room n (A.deeper (PyProof.Rows.envOfC "_law_a_book" (i9 a0e) s.heap.objs.size f cdv))) :
    { t : TS // PSs (M1 G8 P w K mg base ["script", "at", "most", "far", "heads", "kinds", "many", "size", "book", "k", "picks", "takes", "some", "gives", "house"] "_law_a_book" (i9 a0e) f cdv A outer s H E).nox (y4 a0e) t } :=
  ⟨_, j0 (l0 (i := 4) scABook.nd rfl (Or.inl rfl) (m8 Gw hr rfl mw kw bw .nil v8 (c5 (m8 Gc hr rfl mc kc bc .nil v8 (c5 (pv 0) (c5 (pv 1) c7))) (c5 c6 (c5 c6 c7)))))
    (r9 (l0 (i := 5) scABook.nd rfl (Or.inl rfl) (x6 (c5 (j3 A4 c6 (j3 v5 (j6 j5 (pv 4) c6 (fun _ _ => rfl)) (j6 j5 (x6 (c5 c6 (c5 c6 c7))) (j3 v5 (j6 j5 (pv 4) c6 (fun _ _ => rfl)) c6) (fun _ _ => rfl))))
      (c5 (j3 A4 c6 (j3 v5 (j6 j5 (pv 4) c6 (fun _ _ => rfl)) (j6 j5 (x6 (c5 c6 (c5 c6 c7))) (j3 v5 (j6 j5 (pv 4) c6 (fun _ _ => rfl)) c6) (fun _ _ => rfl)))) c7))))
    (r9 (l0 (i := 6) scABook.nd rfl (Or.inl rfl) (j3 A4 c6 (j3 v5 (j6 j5 (pv 4) c6 (fun _ _ => rfl)) (j6 j5 (x6 (c5 (pv 2) (c5 (j8 (O8 rfl) rfl T.min PyProof.Rows.boot_min (c5 (pv 2) (c5 c6 c7))) c7))) (j3 N7 (j3 v5 (j6 j5 (pv 4) c6 (fun _ _ => rfl)) c6) c6) (fun _ _ => rfl)))))
    (r9 (l0 (i := 7) scABook.nd rfl (Or.inr rfl) (j8 (O8 rfl) rfl T.min PyProof.Rows.boot_min (c5 (pv 3) (c5 (j6 j5 (x6 (c5 c6 (c5 c6 (c5 c6 (c5 c6 (c5 (j3 W5 c6 c6) c7)))))) (j3 v5 (j6 j5 (pv 4) c6 (fun _ _ => rfl)) c6) (fun _ _ => rfl)) c7))))
    (j0 (l0 (i := 8) scABook.nd rfl (Or.inl rfl) (x6 c7))
    (j0 (T0 PassesOwn.never rfl (V2 rfl T.range (c5 (pv 6) c7)) (m9 (i := 9) scABook.nd rfl (Or.inl rfl))
      (r9 (l0 (i := 10) scABook.nd rfl (Or.inl rfl) (m8 Gw hr rfl mw kw bw .nil v8 (c5 (j3 A4 (m8 Gc hr rfl mc kc bc .nil v8 (c5 (pv 0) (c5 (j3 A4 (pv 1) c6) c7))) (j3 P7 (pv 9) (j3 A4 (j6 j5 (pv 4) c6 (fun _ _ => rfl)) c6))) (c5 c6 (c5 (j3 W5 c6 c6) c7)))))
      (r9 (l0 (i := 11) scABook.nd rfl (Or.inl rfl) (u0 A8 rfl T.tuple PyProof.Rows.boot_tuple (c5 (R0 ["pick"] [7] rfl (G5 (B6 G4 (pv 10) F0 (C3 (j6 j5 (pv 5) c6 (fun _ _ => rfl))))) (fun _ _ _ _ => m9 (i := 0) a4K rfl (Or.inl rfl)) (fun _ _ _ _ => j3 A4 c6 (j3 v5 (pv 0) (pv 1)))) c7)))
      (j0 (l0 (i := 12) scABook.nd rfl (Or.inl rfl) (B6 G4 (pv 10) (C3 c6) (C3 (j3 A4 c6 (j6 j5 (pv 5) c6 (fun _ _ => rfl))))))
      (r9 (a2I (i := 13) ["pick"] [7] scABook.nd rfl rfl rfl (G5 (pv 12)) (fun _ _ _ _ => m9 (i := 0) a4K rfl (Or.inl rfl)) (fun _ _ _ _ => j3 P7 (j3 v5 (pv 0) (j3 A4 (pv 1) c6)) (u0 a0h rfl T.int PyProof.Rows.boot_int (c5 (E4 S7 (j3 v5 (pv 0) c6) c6 (r6 _)) c7))))
      (r9 (A5 (r8 R6 (j8 (T8 rfl) rfl T.max PyProof.Rows.boot_max (c5 (pv 13) c7)) c6 (r6 _)) (j4 (J3 (j3 A4 c6 (j3 v5 (j6 j5 (pv 10) c6 (fun _ _ => rfl)) (pv 7))) (O3 (pv 13) (j3 v5 (j6 j5 (pv 10) c6 (fun _ _ => rfl)) (j6 j5 (pv 5) c6 (fun _ _ => rfl))) E8))) t0)
      (r9 (l0 (i := 14) scABook.nd rfl (Or.inl rfl) (D7 (c5 (pv 11) (c5 (u0 A8 rfl T.tuple PyProof.Rows.boot_tuple (c5 (pv 13) c7)) c7))))
      (r9 (A5 (PW.pt (Y9 (r8 (Z8 hr) (pv 8) (x6 c7) (r6 _)) (U8 (r8 R6 (j3 v5 (j6 j5 (pv 10) c6 (fun _ _ => rfl)) c6) c6 (r6 _)))))
        (j4 (l0 (i := 14) scABook.nd rfl (Or.inl rfl) (m8 Gn hr rfl mn kn bn .nil v8 (c5 (j6 j5 (pv 8) (j3 v5 (j6 j5 (pv 10) c6 (fun _ _ => rfl)) (j8 j9 rfl T.len PySem.boot_len (c5 (pv 8) c7))) (fun _ _ => rfl)) (c5 (pv 10) (c5 (pv 3) c7)))))) t0)
      (j4 (V3 (a2Q PySem.F.plainAttrs_list PySem.F.slot_list_append PySem.F.type_list_append O9 (pv 8) (c5 (pv 14) c7))))))))))))
    (j4 (t7 (pv 8))))))))⟩
end
end Rim
namespace Rim
open PySem L2
section
variable {P : Program} {w : World} {K : W.Frag} {mg : Str -> Option Value} {base : Heap} {f g : Addr} {fd gd : FuncData}
set_option maxHeartbeats 4000000 in
theorem a7s {n : Nat} {fc fw fn : Addr} {dc dw dn : FuncData} (F : Fun K "_law_a_book" "_law_a_book" a0e f fd) (T : B7 mg)
    (Gc : FnOk P w K mg base G8 n fc dc ["script", "k"] (a0R K)) (bc : Binds K dc ["script", "k"] []) (kc : W.keepIn K (.ref fc) = true) (mc : mg "_law_cell_at" = some (.ref fc))
    (Gw : FnOk P w K mg base G8 n fw dw ["cell", "many", "base"] (Y6 K)) (bw : Binds K dw ["cell", "many", "base"] []) (kw : W.keepIn K (.ref fw) = true) (mw : mg "_law_draws" = some (.ref fw))
    (Gn : FnOk P w K mg base G8 n fn dn ["house", "picks", "far"] (a3I K)) (bn : Binds K dn ["house", "picks", "far"] []) (kn : W.keepIn K (.ref fn) = true) (mn : mg "_law_near" = some (.ref fn)) :
    FnOk P w K mg base G8 (n + 1) f fd ["script", "at", "most", "far"] (a4l K) := by
  refine F.ok scABook (fun vs H Q E h => ?_) (fun cdv A outer s H vs Q E hr h => ?_)
  . obtain ⟨a, ns, at', most, far, rfl, _⟩ := h
    rfl
  obtain ⟨a, ns, at', most, far, rfl, hS, hat, hm1, hm2, hfar, q⟩ := h
  refine ⟨_, (abT T Gc bc kc mc Gw bw kw mw Gn bn kn mn hr).2, ?_⟩
  refine ⟨_, rfl, _, rfl, a, ns, at', rfl, hS, hat, fun c => ⟨c, 8, 1000, rfl, by decide, by decide, by decide, fun hl H1 hd e1 hH1 hlen hb => ?_⟩⟩
  have hd' : ∀ k : Int, 0 <= k -> k < 8 -> ∃ v, v ∈ hd /\ X7 (hd.map V.int) k = some (.int v) := fun k k0 k1 => K6 k0 (by lia)
  obtain ⟨x0, m0, a0⟩ := hd' 0 (by decide) (by decide)
  obtain ⟨x1, m1, a1⟩ := hd' 1 (by decide) (by decide)
  obtain ⟨x2, m2, a2⟩ := hd' 2 (by decide) (by decide)
  obtain ⟨x3, m3, a3⟩ := hd' 3 (by decide) (by decide)
  obtain ⟨x4, m4, a4⟩ := hd' 4 (by decide) (by decide)
  obtain ⟨x5, m5, a5⟩ := hd' 5 (by decide) (by decide)
  obtain ⟨x7, m7, a7⟩ := hd' 7 (by decide) (by decide)
  have b0 := hb x0 m0; have b1 := hb x1 m1; have b2 := hb x2 m2; have b3 := hb x3 m3; have b4 := hb x4 m4; have b5 := hb x5 m5; have b7 := hb x7 m7
  -- kinds
  refine ⟨fun σ' H' => ∃ (kl : Addr) (kt kg : Nat), σ' = [some (.ref a), some (.int at'), some (.int most), some (.int far), some (.ref hl), some (.ref kl), none, none, none, none, none, none, none, none, none] /\ Same H1 H' /\ H' kl = some (.lst [.int (kt : Int), .int (kg : Int)]) /\ 1 <= kt /\ kt <= 4 /\ 1 <= kg /\ kg <= 4, ?_, ?_⟩
  . have two : ∀ y : Int, 0 <= y -> ∃ z : Int, (z = 4 \/ z = 2) /\ X7 [V.int 4, V.int 2] (y % 2) = some (.int z) := fun y hy => by
      obtain ⟨z, hz, az⟩ := K6 (ns := [4, 2]) (k := y % 2) (by lia) (by show y % 2 < 2; lia)
      exact ⟨z, by simpa using hz, az⟩
    obtain ⟨z1, hz1, az1⟩ := two x2 b2.1
    refine ⟨_, rfl, hl, _, 0, _, rfl, rfl, SqL.of hH1, a0, (by show 2 <= sizeLine; decide), fun l1 hl1 => ?_⟩
    have s1 := Same.new hl1 (.lst [V.int 4, V.int 2])
    refine ⟨_, rfl, hl, _, 2, _, rfl, rfl, SqL.of (s1 _ _ hH1), a2, _, _, rfl, rfl, (by show (0 : Int) < 2; decide), l1, _, _, _, rfl, rfl, SqL.of upd_same, az1, _, _, rfl, rfl, (by show (0 : Int) < z1; lia), _, _, rfl, rfl, ?_⟩
    refine ⟨_, rfl, hl, _, 1, _, rfl, rfl, SqL.of (s1 _ _ hH1), a1, (by show 2 <= sizeLine; decide), fun l2 hl2 => ?_⟩
    have s2 := Same.new hl2 (.lst [V.int 4, V.int 2])
    refine ⟨_, rfl, hl, _, 2, _, rfl, rfl, SqL.of (s2 _ _ (s1 _ _ hH1)), a2, _, _, rfl, rfl, (by show (0 : Int) < 2; decide), l2, _, _, _, rfl, rfl, SqL.of upd_same, az1, _, _, rfl, rfl, (by show (0 : Int) < z1; lia), _, _, rfl, rfl, ?_⟩
    refine ⟨(by show 2 <= sizeLine; decide), fun kl hkl => ?_⟩
    have s3 := Same.new hkl (.lst [V.int (1 + x0 % z1), V.int (1 + x1 % z1)])
    have p0 : 0 <= x0 % z1 /\ x0 % z1 < z1 := ⟨Int.emod_nonneg _ (by lia), Int.emod_lt_of_pos _ (by lia)⟩
    have p1 : 0 <= x1 % z1 /\ x1 % z1 < z1 := ⟨Int.emod_nonneg _ (by lia), Int.emod_lt_of_pos _ (by lia)⟩
    refine ⟨kl, (1 + x0 % z1).toNat, (1 + x1 % z1).toNat, rfl, s1.trans (s2.trans s3), ?_, by lia, by lia, by lia, by lia⟩
    rw [upd_same, Int.toNat_of_nonneg (by lia), Int.toNat_of_nonneg (by lia)]
  intro σ' H2 hM_; refine D4 fun G_ hG_ => ?_; obtain ⟨kl, kt, kg, rfl, e2, hkl, kt1, kt4, kg1, kg4⟩ := hM_; subst hG_
  have hh2 := e2 _ _ hH1
  -- many
  refine ⟨fun σ' H' => ∃ (many : Nat), σ' = [some (.ref a), some (.int at'), some (.int most), some (.int far), some (.ref hl), some (.ref kl), some (.int (many : Int)), none, none, none, none, none, none, none, none] /\ Same H2 H' /\ 1 <= many /\ (many : Int) <= most, ?_, ?_⟩
  . refine ⟨_, rfl, hl, _, 3, _, rfl, rfl, SqL.of hh2, a3, _, rfl, _, rfl, _, _, rfl, (by show 2 <= sizeLine; decide), fun l1 hl1 => ?_⟩
    have s1 := Same.new hl1 (.lst [V.int most, V.int (if 4 < most then 4 else most)])
    obtain ⟨z, hz, az⟩ := K6 (ns := [most, if 4 < most then 4 else most]) (k := x4 % 3 / 2) (by lia) (by show x4 % 3 / 2 < 2; lia)
    have hz' : 1 <= z /\ z <= most := by
      simp only [List.mem_cons, List.not_mem_nil, or_false] at hz
      rcases hz with rfl | rfl
      . lia
      . split <;> lia
    refine ⟨_, rfl, hl, _, 4, _, rfl, rfl, SqL.of (s1 _ _ hh2), a4, _, _, rfl, rfl, (by show (0 : Int) < 3; decide), _, _, rfl, rfl, ⟨by decide, by decide⟩, l1, _, _, _, rfl, rfl, SqL.of upd_same, az, _, _, rfl, rfl, (by show (0 : Int) < z; lia), _, _, rfl, rfl, ?_⟩
    have p0 : 0 <= x3 % z /\ x3 % z < z := ⟨Int.emod_nonneg _ (by lia), Int.emod_lt_of_pos _ (by lia)⟩
    refine ⟨(1 + x3 % z).toNat, ?_, s1, by lia, by lia⟩
    rw [Int.toNat_of_nonneg (by lia)]
    rfl
  intro σ' H3 hM_; refine D4 fun G_ hG_ => ?_; obtain ⟨many, rfl, e3, mn1, mn2⟩ := hM_; subst hG_
  have hh3 := e3 _ _ hh2
  have hk3 := e3 _ _ hkl
  -- size
  refine ⟨fun σ' H' => ∃ (size : Int), σ' = [some (.ref a), some (.int at'), some (.int most), some (.int far), some (.ref hl), some (.ref kl), some (.int (many : Int)), some (.int size), none, none, none, none, none, none, none] /\ Same H3 H' /\ 1 <= size /\ size <= far /\ size <= 1000000000, ?_, ?_⟩
  . refine ⟨_, rfl, _, _, rfl, rfl, ⟨by decide, by decide, by decide⟩, (by show 5 <= sizeLine; decide), fun l1 hl1 => ?_⟩
    have s1 := Same.new hl1 (.lst [V.int 4, V.int 9, V.int 50, V.int 1000, V.int (10 ^ (9 : Int).toNat)])
    obtain ⟨z, hz, az⟩ := K6 (ns := [4, 9, 50, 1000, 10 ^ (9 : Int).toNat]) (k := x5 % 5) (by lia) (by show x5 % 5 < 5; lia)
    have hz' : 1 <= z /\ z <= 1000000000 := by
      have e9 : (10 : Int) ^ (9 : Int).toNat = 1000000000 := by decide
      rw [e9] at hz
      simp only [List.mem_cons, List.not_mem_nil, or_false] at hz
      rcases hz with rfl | rfl | rfl | rfl | rfl <;> decide
    refine ⟨_, rfl, hl, _, 5, _, rfl, rfl, SqL.of (s1 _ _ hh3), a5, _, _, rfl, rfl, (by show (0 : Int) < 5; decide), l1, _, _, _, rfl, rfl, SqL.of upd_same, az, _, _, rfl, ?_⟩
    refine ⟨_, rfl, s1, ?_, ?_, ?_⟩ <;> (split <;> lia)
  intro σ' H4 hM_; refine D4 fun G_ hG_ => ?_; obtain ⟨size, rfl, e4, sz1, szf, sz9⟩ := hM_; subst hG_
  have hh4 := e4 _ _ hh3
  have hk4 := e4 _ _ hk3
  have e14 : Same H H4 := e1.trans (e2.trans (e3.trans e4))
  refine ⟨(by show 0 <= sizeLine; decide), fun bl hbl => ?_⟩
  refine ⟨_, rfl, (many : Int), rfl, by lia, by lia, ?_⟩
  rw [Int.toNat_natCast]
  refine a0a (n := many) (fun i σ H' => ∃ (xs : List V) (hs : List i8) (o9 o10 o11 o12 o13 o14 : Option V), σ = [some (.ref a), some (.int at'), some (.int most), some (.int far), some (.ref hl), some (.ref kl), some (.int (many : Int)), some (.int size), some (.ref bl), o9, o10, o11, o12, o13, o14] ∧
      Same H4 H' /\ H' bl = some (.lst xs) /\ Bk K H' xs hs /\ hs.length = i /\ ∀ h ∈ hs, HG far kt kg h)
    ⟨[], [], _, _, _, _, _, _, rfl, Same.new hbl _, upd_same, .nil, rfl, fun h hh => (by cases hh)⟩ ?_ ?_
  . rintro i σ H5 hi ⟨xs, hs, o9, o10, o11, o12, o13, o14, rfl, e5, hb5, hB, hlen5, hG⟩
    have hh5 := e5 _ _ hh4
    have hk5 := e5 _ _ hk4
    have xlen : xs.length = hs.length := Paired.length hB
    have ak0 : X7 [V.int (kt : Int), V.int (kg : Int)] 0 = some (.int (kt : Int)) := y6 (j := 0) rfl
    have ak1 : X7 [V.int (kt : Int), V.int (kg : Int)] 1 = some (.int (kg : Int)) := y6 (j := 1) rfl
    -- picks
    refine ⟨fun σ' H' => ∃ (pl : Addr) (ds : List Int), σ' = [some (.ref a), some (.int at'), some (.int most), some (.int far), some (.ref hl), some (.ref kl), some (.int (many : Int)), some (.int size), some (.ref bl), some (.int (0 + (i : Int))), some (.ref pl), o11, o12, o13, o14] /\ Same H5 H' /\ H' pl = some (.lst (ds.map V.int)) /\ ds.length = 12 /\ ∀ d ∈ ds, 0 <= d, ?_, ?_⟩
    . refine ⟨_, rfl, _, rfl, _, _, rfl, rfl, a, ns, at' + 1, rfl, (e14.trans e5).seq hS, by lia, fun c => ?_⟩
      refine ⟨_, rfl, _, rfl, hl, _, 7, _, rfl, rfl, SqL.of hh5, a7, _, _, rfl, rfl, _, _, rfl, rfl, .inl ⟨by lia, by lia⟩, _, _, rfl, rfl, _, _, rfl, rfl, ⟨by decide, by decide, by decide⟩, ?_⟩
      exact ⟨_, 12, _, rfl, by decide, by decide, by decide, fun pl H6 ds e6 hp6 l6 d6 => ⟨pl, ds, rfl, e6, hp6, l6, fun d hd => (d6 d hd).1⟩⟩
    intro σ' H6 hM_; refine D4 fun G_ hG_ => ?_; obtain ⟨pl, ds, rfl, e6, hp6, l6, d6⟩ := hM_; subst hG_
    have hh6 := e6 _ _ hh5
    have hk6 := e6 _ _ hk5
    have hb6 := e6 _ _ hb5
    have pk : ∀ k : Int, 0 <= k -> k < 12 -> ∃ v, v ∈ ds /\ X7 (ds.map V.int) k = some (.int v) := fun k k0 k1 => K6 k0 (by lia)
    obtain ⟨y8, n8, c8⟩ := pk 8 (by decide) (by decide)
    obtain ⟨y9, n9, c9⟩ := pk 9 (by decide) (by decide)
    obtain ⟨y10, n10, c10⟩ := pk 10 (by decide) (by decide)
    obtain ⟨y11, n11, c11⟩ := pk 11 (by decide) (by decide)
    have g8 := d6 _ n8; have g9 := d6 _ n9; have g10 := d6 _ n10; have g11 := d6 _ n11
    have dl : (ds.map V.int).length = 12 := by rw [List.length_map]; exact l6
    -- takes
    refine ⟨fun σ' H' => ∃ (tp : Addr) (At : List Int), σ' = [some (.ref a), some (.int at'), some (.int most), some (.int far), some (.ref hl), some (.ref kl), some (.int (many : Int)), some (.int size), some (.ref bl), some (.int (0 + (i : Int))), some (.ref pl), some (.ref tp), o12, o13, o14] /\ Same H6 H' /\ H' tp = some (.tup (At.map V.int)) /\ At.length = kt /\ ∀ x ∈ At, 1 <= x /\ x <= far, ?_, ?_⟩
    . have ec : A6 (ds.map V.int) none (some (kt : Int)) = (ds.take kt).map V.int := by
        unfold A6
        rw [HT.sIx_none, HT.sIx_nat, dl, List.drop_zero, List.map_take]
        congr 1
        lia
      refine ⟨_, rfl, _, rfl, kl, _, 0, _, rfl, rfl, SqL.of hk6, ak0, _, rfl, pl, _, rfl, SqL.of hp6, fun cp hcp => ?_⟩
      rw [ec]
      have s1 := Same.new hcp (.lst ((ds.take kt).map V.int))
      refine ⟨cp, rfl, ⟨_, SqL.of upd_same⟩, fun lp hlp => ?_⟩
      refine M8 (E1 (SqL.of upd_same)) hlp (by rw [List.length_map, List.length_take]; exact j7 (by lia)) (fun x => .int (1 + vI x % size)) (fun j x H' N hx e hN => ?_) ?_
      . obtain ⟨k, rfl⟩ := D9 hx
        exact ⟨Wk.set (by decide), _, rfl, _, rfl, _, _, rfl, rfl, (by show (0 : Int) < size; lia), _, _, rfl, rfl, hN⟩
      . have eA : ((ds.take kt).map V.int).map (fun x => V.int (1 + vI x % size)) = ((ds.take kt).map fun d => 1 + d % size).map V.int := by rw [List.map_map, List.map_map]; rfl
        rw [eA]
        have s2 := Same.new hlp (.lst (((ds.take kt).map fun d => 1 + d % size).map V.int))
        refine ⟨lp, _, rfl, .inl ⟨SqL.of upd_same, fun tp htp => ?_⟩⟩
        refine ⟨tp, (ds.take kt).map fun d => 1 + d % size, rfl, s1.trans (s2.trans (Same.new htp _)), upd_same, by rw [List.length_map, List.length_take]; lia, fun x hx => ?_⟩
        obtain ⟨d, _, rfl⟩ := List.mem_map.mp hx
        have p0 : 0 <= d % size /\ d % size < size := ⟨Int.emod_nonneg _ (by lia), Int.emod_lt_of_pos _ (by lia)⟩
        lia
    intro σ' H7 hM_; refine D4 fun G_ hG_ => ?_; obtain ⟨tp, At, rfl, e7, ht7, lAt, tAt⟩ := hM_; subst hG_
    have hp7 := e7 _ _ hp6
    have hk7 := e7 _ _ hk6
    have hb7 := e7 _ _ hb6
    -- some
    have ec : A6 (ds.map V.int) (some 4) (some (4 + (kg : Int))) = ((ds.drop 4).take kg).map V.int := by
      unfold A6
      have z1 : HT.sIx (ds.map V.int).length 0 (some 4) = 4 := by
        have := HT.sIx_nat (ds.map V.int).length 0 4
        rw [dl] at this ⊢
        exact this
      have z2 : HT.sIx (ds.map V.int).length (ds.map V.int).length (some (4 + (kg : Int))) = 4 + kg := by
        have := HT.sIx_nat (ds.map V.int).length (ds.map V.int).length (4 + kg)
        rw [dl] at this ⊢
        rw [show (4 : Int) + (kg : Int) = ((4 + kg : Nat) : Int) by lia, this]
        lia
      rw [z1, z2, List.map_take, List.map_drop]
      congr 1
      lia
    refine ⟨_, rfl, _, rfl, _, rfl, kl, _, 1, _, rfl, rfl, SqL.of hk7, ak1, _, _, rfl, rfl, _, rfl, pl, _, rfl, SqL.of hp7, fun sp hsp => ?_⟩
    rw [ec]
    have s7 := Same.new hsp (.lst (((ds.drop 4).take kg).map V.int))
    -- gives
    refine ⟨fun σ' H' => ∃ (gp : Addr) (Bs : List Int) (o12 : Option V), σ' = [some (.ref a), some (.int at'), some (.int most), some (.int far), some (.ref hl), some (.ref kl), some (.int (many : Int)), some (.int size), some (.ref bl), some (.int (0 + (i : Int))), some (.ref pl), some (.ref tp), o12, some (.ref gp), o14] /\ Same H7 H' /\ H7 gp = none /\ H' gp = some (.lst (Bs.map V.int)) /\ Bs.length = kg /\ ∀ x ∈ Bs, 0 <= x /\ x <= far, ?_, ?_⟩
    . refine ⟨_, rfl, sp, rfl, ⟨_, SqL.of upd_same⟩, fun gp hgp => ?_⟩
      refine M8 (E1 (SqL.of upd_same)) hgp (by rw [List.length_map, List.length_take]; exact j7 (by lia)) (fun x => .int (vI x % (size + 1) * (if decide (0 < vI x % 7) = true then 1 else 0))) (fun j x H' N hx e hN => ?_) ?_
      . obtain ⟨k, rfl⟩ := D9 hx
        refine ⟨Wk.set (by decide), _, rfl, _, rfl, _, _, rfl, rfl, _, _, rfl, rfl, (by show (0 : Int) < size + 1; lia), _, rfl, _, _, rfl, rfl, (by show (0 : Int) < 7; decide), _, _, rfl, rfl, .inr ⟨_, rfl, _, _, rfl, rfl, .inr ?_, hN⟩⟩
        constructor <;> (split <;> decide)
      . have eB : (((ds.drop 4).take kg).map V.int).map (fun x => V.int (vI x % (size + 1) * (if decide (0 < vI x % 7) = true then 1 else 0))) = (((ds.drop 4).take kg).map fun d => d % (size + 1) * (if decide (0 < d % 7) = true then 1 else 0)).map V.int := by rw [List.map_map, List.map_map]; rfl
        rw [eB]
        refine ⟨gp, _, _, rfl, s7.trans (Same.new hgp _), s7.free hgp, upd_same, by rw [List.length_map, List.length_take, List.length_drop]; lia, fun x hx => ?_⟩
        obtain ⟨d, _, rfl⟩ := List.mem_map.mp hx
        have p0 : 0 <= d % (size + 1) /\ d % (size + 1) < size + 1 := ⟨Int.emod_nonneg _ (by lia), Int.emod_lt_of_pos _ (by lia)⟩
        split <;> lia
    intro σ' H8 hM_; refine D4 fun G_ hG_ => ?_; obtain ⟨gp, Bs, o12', rfl, e8, f8, hg8, lBs, tBs⟩ := hM_; subst hG_
    have hp8 := e8 _ _ hp7
    have hk8 := e8 _ _ hk7
    have lB' : (Bs.map V.int).length = kg := by rw [List.length_map]; exact lBs
    -- a give above 0
    refine ⟨fun σ' H' => ∃ (Bs : List Int) (o12 : Option V), σ' = [some (.ref a), some (.int at'), some (.int most), some (.int far), some (.ref hl), some (.ref kl), some (.int (many : Int)), some (.int size), some (.ref bl), some (.int (0 + (i : Int))), some (.ref pl), some (.ref tp), o12, some (.ref gp), o14] /\ Same H7 H' /\ H' gp = some (.lst (Bs.map V.int)) /\ Bs.length = kg /\ (∀ x ∈ Bs, 0 <= x /\ x <= far) /\ ∃ x ∈ Bs, 0 < x, ?_, ?_⟩
    . refine ⟨_, rfl, gp, Bs, rfl, .inl (SqL.of hg8), (fun z => by rw [z] at lBs; simp at lBs; lia), fun M hM hMx => ⟨rfl, _, rfl, ?_⟩⟩
      refine D8 (fun c => ?_) (fun c => ?_)
      . refine ⟨_, rfl, pl, _, 9, _, rfl, rfl, SqL.of hp8, c9, _, rfl, _, _, rfl, rfl, (by show (0 : Int) < size; lia), _, _, rfl, rfl, ?_⟩
        refine ⟨_, rfl, _, rfl, pl, _, 8, _, rfl, rfl, SqL.of hp8, c8, _, rfl, kl, _, 1, _, rfl, rfl, SqL.of hk8, ak1, _, _, rfl, rfl, (by show (0 : Int) < (kg : Int); lia), ?_⟩
        have r0 : 0 <= y8 % (kg : Int) := Int.emod_nonneg _ (by lia)
        have r1 : y8 % (kg : Int) < ((Bs.map V.int).length : Int) := by rw [lB']; exact Int.emod_lt_of_pos _ (by lia)
        have rn : (y8 % (kg : Int)).toNat < Bs.length := by rw [lB'] at r1; lia
        have p0 : 0 <= y9 % size /\ y9 % size < size := ⟨Int.emod_nonneg _ (by lia), Int.emod_lt_of_pos _ (by lia)⟩
        refine ⟨gp, _, _, _, rfl, rfl, hg8, U0 r0 r1, ?_⟩
        refine ⟨Bs.set (y8 % (kg : Int)).toNat _, _, rfl, e8.write f8, by rw [upd_same, map_set], by rw [List.length_set]; exact lBs, fun x hx => ?_, _, List.mem_set rn _, by lia⟩
        rcases List.mem_or_eq_of_mem_set hx with z | z
        . exact tBs x z
        . lia
      . have c' : ¬ M = 0 := fun z => c (decide_eq_true (by rw [z]))
        have := tBs M hM
        exact ⟨Bs, _, rfl, e8, hg8, lBs, tBs, M, hM, by lia⟩
    intro σ' H9 hM_; refine D4 fun G_ hG_ => ?_; obtain ⟨Bt, o12'', rfl, e9, hg9, lBt, tBt, tPt⟩ := hM_; subst hG_
    -- house
    refine ⟨fun σ' H' => ∃ (v : V) (h : i8) (o12 : Option V), σ' = [some (.ref a), some (.int at'), some (.int most), some (.int far), some (.ref hl), some (.ref kl), some (.int (many : Int)), some (.int size), some (.ref bl), some (.int (0 + (i : Int))), some (.ref pl), some (.ref tp), o12, some (.ref gp), some v] /\ Same H7 H' /\ HS K H' v h /\ HG far kt kg h, ?_, ?_⟩
    . refine ⟨_, rfl, _, rfl, gp, _, rfl, .inl ⟨SqL.of hg9, fun pg hpg => ?_⟩⟩
      have f1 := Same.new hpg (.tup (Bt.map V.int))
      refine ⟨(by show 2 <= sizeLine; decide), fun pr hpr => ?_⟩
      have f2 := Same.new hpr (.tup [V.ref tp, V.ref pg])
      exact ⟨_, (At, Bt), _, rfl, e9.trans (f1.trans f2), ⟨pr, tp, pg, rfl, SqT.of upd_same, SqT.of (f2 _ _ (f1 _ _ (e9 _ _ ht7))), SqT.of (f2 _ _ upd_same)⟩, ⟨lAt, lBt, tAt, tBt, tPt⟩⟩
    intro σ' H10 hM_; refine D4 fun G_ hG_ => ?_; obtain ⟨v, h, o12'', rfl, e10, hv, hvG⟩ := hM_; subst hG_
    have e57 : Same H5 H7 := e6.trans e7
    have e510 : Same H5 H10 := e57.trans e10
    -- or one near another one
    refine ⟨fun σ' H' => ∃ (v : V) (h : i8) (o12 : Option V), σ' = [some (.ref a), some (.int at'), some (.int most), some (.int far), some (.ref hl), some (.ref kl), some (.int (many : Int)), some (.int size), some (.ref bl), some (.int (0 + (i : Int))), some (.ref pl), some (.ref tp), o12, some (.ref gp), some v] /\ Same H5 H' /\ HS K H' v h /\ HG far kt kg h, ?_, ?_⟩
    . refine ⟨_, rfl, (by show 0 <= sizeLine; decide), fun ep hep => ?_⟩
      have f1 := Same.new hep (.lst [])
      have e511 := e510.trans f1
      refine ⟨.list (hs.map A7), .list [], .lst (SqL.of (e511 _ _ hb5)) (Bk.dps (Bk.same e511 hB)), .lst (SqL.of upd_same) .nil, S6 hs, rfl, Nat.le_trans (Nat.min_le_right _ _) (by decide), _, rfl, ?_⟩
      refine D8 (fun c => ?_) (fun c => N5 ⟨v, h, _, rfl, e511, hv.same f1, hvG⟩)
      have hpos : 0 < hs.length := by
        cases hs with
        | nil => exact absurd c (by simp [PyData.eqv, PyData.eqvAll])
        | cons _ _ => simp
      have hp11 : upd H10 ep (.lst []) pl = some (.lst (ds.map V.int)) := f1 _ _ (e10 _ _ hp7)
      have hb11 := e511 _ _ hb5
      refine ⟨_, rfl, pl, _, 10, _, rfl, rfl, SqL.of hp11, c10, _, _, rfl, rfl, (by show (0 : Int) < 4; decide), rfl, _, rfl, ?_⟩
      refine D8 (fun c => ?_) (fun c => ⟨v, h, _, rfl, e511, hv.same f1, hvG⟩)
      have r0 : 0 <= y11 % (xs.length : Int) := Int.emod_nonneg _ (by lia)
      have r1 : y11 % (xs.length : Int) < (xs.length : Int) := Int.emod_lt_of_pos _ (by lia)
      have hk : (y11 % (xs.length : Int)).toNat < xs.length := by lia
      have ax : X7 xs (y11 % (xs.length : Int)) = some xs[(y11 % (xs.length : Int)).toNat] := by
        unfold X7
        rw [U0 r0 r1]
        exact List.getElem?_eq_getElem hk
      obtain ⟨h', hh', hs'⟩ := Paired.at hB (List.getElem?_eq_getElem hk)
      refine ⟨_, rfl, _, rfl, pl, _, 11, _, rfl, rfl, SqL.of hp11, c11, _, rfl, bl, _, rfl, .inl (SqL.of hb11), _, _, rfl, rfl, (by show (0 : Int) < (xs.length : Int); lia), bl, _, _, _, rfl, rfl, SqL.of hb11, ax, _, rfl, _, rfl, ?_⟩
      refine ⟨_, pl, far, h', ds, kt, kg, rfl, hs'.same e511, hG h' (List.mem_of_getElem? hh'), kt1, kt4, kg1, kg4, hfar, SqL.of hp11, l6, d6, fun r H12 h'' e12 hs'' hg'' => ⟨r, h'', _, rfl, e511.trans e12, hs'', hg''⟩⟩
    intro σ' H11 hM_; refine D4 fun G_ hG_ => ?_; obtain ⟨v, h, o12'', rfl, e11, hv, hvG⟩ := hM_; subst hG_
    have hb11 := e11 _ _ hb5
    refine ⟨_, rfl, .inl ⟨rfl, _, SqL.of hb11⟩, _, rfl, bl, xs, v, rfl, rfl, hb11, j7 (by lia), ?_⟩
    have kp : Keep H11 (upd H11 bl (.lst (xs ++ [v]))) := Keep.upd hb11
    refine ⟨xs ++ [v], hs ++ [h], _, _, _, _, _, _, rfl, (e5.trans e11).write hbl, upd_same, Paired.app (Bk.keep kp (Bk.same e11 hB)) (.cons (HS.keep kp hv) .nil), by rw [List.length_append, hlen5]; rfl, fun h' hm => ?_⟩
    rcases List.mem_append.mp hm with z | z
    . exact hG h' z
    . rw [List.mem_singleton.mp z]; exact hvG
  . intro σ H' hM_; refine D4 fun G_ hG_ => ?_; obtain ⟨xs, hs, o9, o10, o11, o12, o13, o14, rfl, e5, hb5, hB, hlen5, hG⟩ := hM_; subst hG_
    exact ⟨_, rfl, q bl H' xs hs kt kg (e14.trans e5) hb5 hB (by lia) (by lia) kt1 kt4 kg1 kg4 hG⟩
end
end Rim
namespace Rim
open PySem L2 Fr
def FrV (K : W.Frag) (H : Hp) (v : V) (f : Q2) : Prop := ∃ a, v = .ref a /\ SqT K H a [.int f.1, .int f.2]
def FrT (H : Hp) (v : V) (f : Q2) : Prop := ∃ a, v = .ref a /\ H a = some (.tup [.int f.1, .int f.2])
theorem FrT.v {K : W.Frag} {H : Hp} {v : V} {f : Q2} (h : FrT H v f) : FrV K H v f := by
  obtain ⟨a, e, q⟩ := h
  exact ⟨a, e, SqT.of q⟩
section
variable {P : Program} {w : World} {K : W.Frag} {mg : Str -> Option Value} {base : Heap} {f g : Addr} {fd gd : FuncData}
structure Cal (P : Program) (w : World) (K : W.Frag) (mg : Str -> Option Value) (base : Heap) (n : Nat) (x : Str) (ps : List Str) (sp : Sp) (fa : Addr) (d : FuncData) : Prop where
  ok : FnOk P w K mg base G8 n fa d ps sp
  b : Binds K d ps []
  k : W.keepIn K (.ref fa) = true
  m : mg x = some (.ref fa)
def a9d : Sp := fun vs H Q _ => ∃ a b : Int, vs = [.int a, .int b] /\ 0 <= b /\ Q (.int (gI a b)) H
theorem scDiv : m6 ["one", "other"] ["one", "other"] (i9 a9w) := ⟨rfl, rfl, rfl, by decide +kernel, rfl, by decide +kernel, by decide +kernel⟩
theorem scCommon : m6 ["one", "other"] ["one", "other"] (i9 a1O) := ⟨rfl, rfl, rfl, by decide +kernel, rfl, by decide +kernel, by decide +kernel⟩
def b1A : St -> Nat := fun σ => match σ with | [_, some (.int y)] => y.toNat | _ => 0
theorem a9D (x : Int) : (if x < 0 then -x else x) = gI x 0 := by
  rw [a4c]
  split <;> lia
theorem a9V {n : Nat} (F : Fun K "common_divisor" "common_divisor" a9w f fd) (T : B7 mg) : FnOk P w K mg base G8 (n + 1) f fd ["one", "other"] a9d := by
  refine F.ok scDiv (fun vs H Q E h => ?_) (fun cdv A outer s H vs Q E hr h => ?_)
  . obtain ⟨a, b, rfl, _⟩ := h
    rfl
  obtain ⟨a, b, rfl, hb, q⟩ := h
  refine ⟨_, j0 (a0E PassesOwn.never (r8 a8X (pv 1) c6 (r6 _)) (j4 (a6P (i := 0) (j := 1) rfl scDiv.nd rfl rfl (by decide) rfl rfl (c5 (pv 1) (c5 (j3 v5 (pv 0) (pv 1)) c7)) rfl)))
    (j4 (t7 (j8 a6u rfl T.abs (PyProof.Rows.Boot.abs) (c5 (pv 0) c7)))), ?_⟩
  refine a3n (fun σ H' => ∃ x y : Int, σ = [some (.int x), some (.int y)] /\ H' = H /\ 0 <= y /\ gI x y = gI a b) (fun σ _ => b1A σ) ⟨a, b, rfl, rfl, hb, rfl⟩ ?_ (fun σ H Q Q' hq ⟨v, h1, h2, k, h3, q⟩ => ⟨v, h1, h2, k, h3, hq _ _ q⟩)
  rintro σ H' ⟨x, y, rfl, rfl, hy, hg⟩
  refine ⟨_, rfl, rfl, _, rfl, ?_⟩
  refine D8 (fun c => ?_) (fun c => ?_)
  . have hy0 : 0 < y := by
      by_cases z : y = 0
      . subst z; simp at c
      . lia
    have hm := Int.emod_nonneg x (show y ≠ 0 by lia)
    have hl := Int.emod_lt_of_pos x hy0
    refine ⟨_, rfl, _, rfl, _, rfl, _, _, rfl, rfl, hy0, _, _, rfl, ⟨y, x % y, rfl, rfl, hm, ?_⟩, ?_⟩
    . rw [a4P]; exact hg
    . show (x % y).toNat < y.toNat
      lia
  . have hy0 : y = 0 := by
      by_cases z : y = 0
      . exact z
      . exact absurd (by simp [z]) c
    subst hy0
    refine ⟨_, rfl, _, rfl, ?_⟩
    rw [a9D, hg]
    exact q
theorem a5O {n : Nat} (F : Fun K "_law_common" "_law_common" a1O f fd) : FnOk P w K mg base G8 (n + 1) f fd ["one", "other"] (fun vs H Q _ => ∃ a b : Int, vs = [.int a, .int b] /\ 0 <= a /\ 0 <= b /\ Q (.int (gI a b)) H) := by
  refine F.ok scCommon (fun vs H Q E h => ?_) (fun cdv A outer s H vs Q E hr h => ?_)
  . obtain ⟨a, b, rfl, _⟩ := h
    rfl
  obtain ⟨a, b, rfl, ha, hb, q⟩ := h
  refine ⟨_, j0 (a0E PassesOwn.never (r8 S7 (pv 1) c6 (r6 _)) (j4 (a6P (i := 0) (j := 1) rfl scCommon.nd rfl rfl (by decide) rfl rfl (c5 (pv 1) (c5 (j3 v5 (pv 0) (pv 1)) c7)) rfl)))
    (j4 (t7 (pv 0))), ?_⟩
  refine a3n (fun σ H' => ∃ x y : Int, σ = [some (.int x), some (.int y)] /\ H' = H /\ 0 <= x /\ 0 <= y /\ gI x y = gI a b) (fun σ _ => b1A σ) ⟨a, b, rfl, rfl, ha, hb, rfl⟩ ?_ (fun σ H Q Q' hq ⟨v, h1, i, j, h2, h3, k, h4, q⟩ => ⟨v, h1, i, j, h2, h3, k, h4, hq _ _ q⟩)
  rintro σ H' ⟨x, y, rfl, rfl, hx, hy, hg⟩
  refine ⟨_, rfl, _, _, rfl, rfl, _, rfl, ?_⟩
  refine D8 (fun c => ?_) (fun c => ?_)
  . have hy0 : 0 < y := of_decide_eq_true c
    have hm := Int.emod_nonneg x (show y ≠ 0 by lia)
    have hl := Int.emod_lt_of_pos x hy0
    refine ⟨_, rfl, _, rfl, _, rfl, _, _, rfl, rfl, hy0, _, _, rfl, ⟨y, x % y, rfl, rfl, hy, hm, ?_⟩, ?_⟩
    . rw [a4P]; exact hg
    . show (x % y).toNat < y.toNat
      lia
  . have hy0 : ¬ 0 < y := of_decide_eq_false (Bool.eq_false_iff.mpr c)
    have : y = 0 := by lia
    subst this
    refine ⟨_, rfl, ?_⟩
    have : x = gI a b := by rw [<- hg, a4c]; lia
    rw [this]; exact q
end
end Rim
namespace Rim
open PySem L2 Fr
theorem Big.mono {n m : Nat} {i : Int} (h : Big n i) (hn : n <= m) : Big m i := Nat.lt_of_lt_of_le h (Nat.pow_le_pow_right (by decide) hn)
theorem Big.mul {n m : Nat} {i j : Int} (h : Big n i) (k : Big m j) : Big (n + m) (i * j) := by
  unfold Big at *
  rw [Int.natAbs_mul, Nat.pow_add]
  exact Nat.mul_lt_mul_of_lt_of_lt h k
theorem a4r {i : Int} {n : Nat} (h0 : 0 <= i) (h1 : i < 2 ^ n) : Big n i := by
  have e : ((2 ^ n : Nat) : Int) = 2 ^ n := by simp
  unfold Big
  lia
section
variable {P : Program} {w : World} {K : W.Frag} {mg : Str -> Option Value} {base : Heap} {f g : Addr} {fd gd : FuncData} {n : Nat}
def a9a : Sp := fun vs H Q _ => ∃ t b : Int, vs = [.int t, .int b] /\ 0 < b /\ b < 2 ^ 8000 /\ ∀ (v : V) (H' : Hp), Same H H' -> FrT H' v (low t b) -> Q v H'
theorem scLow : m6 ["top", "bottom", "divisor"] ["top", "bottom"] (i9 b0k) := ⟨rfl, rfl, rfl, by decide +kernel, rfl, by decide +kernel, by decide +kernel⟩
theorem a9Z {fa : Addr} {da : FuncData} (F : Fun K "lowest" "lowest" b0k f fd) (T : B7 mg) (C : Cal P w K mg base n "common_divisor" ["one", "other"] a9d fa da) : FnOk P w K mg base G8 (n + 1) f fd ["top", "bottom"] a9a := by
  refine F.ok scLow (fun vs H Q E h => ?_) (fun cdv A outer s H vs Q E hr h => ?_)
  . obtain ⟨a, b, rfl, _⟩ := h
    rfl
  obtain ⟨t, b, rfl, hb, hb2, q⟩ := h
  refine ⟨_, j0 (A5 (r8 R6 (pv 1) c6 (r6 _)) a1G t0)
    (j0 (l0 (i := 2) scLow.nd rfl (Or.inl rfl) (m8 C.ok hr rfl C.m C.k C.b .nil v8 (c5 (pv 0) (c5 (pv 1) c7))))
    (j0 (A5 (r8 R5 (pv 1) c6 (r6 _)) a1G t0)
    (j4 (t7 (D7 (c5 (j3 a1g (pv 0) (pv 2)) (c5 (j3 a1g (pv 1) (pv 2)) c7))))))), ?_⟩
  refine ⟨_, rfl, rfl, _, rfl, ?_⟩
  refine D8 (fun c => ?_) (fun _ => ?_)
  . have := V.int.inj (of_decide_eq_true c); lia
  refine ⟨_, rfl, _, rfl, t, b, rfl, Int.le_of_lt hb, ?_⟩
  refine ⟨_, rfl, _, _, rfl, rfl, _, rfl, ?_⟩
  refine D8 (fun c => ?_) (fun _ => ?_)
  . have : b < 0 := of_decide_eq_true c; lia
  have hg := Z6 (a := t) hb
  have hgl := b1o (a := t) hb
  refine ⟨_, rfl, _, rfl, _, _, rfl, rfl, ⟨hg, Int.lt_of_le_of_lt hgl hb2⟩, _, rfl, _, rfl, _, _, rfl, rfl, ⟨hg, Int.lt_of_le_of_lt hgl hb2⟩, (by show 2 <= sizeLine; decide), fun p hp => ?_⟩
  exact q _ _ (Same.new hp _) ⟨p, rfl, upd_same⟩
theorem a7U (t : Int) : (if 0 - t > t then 0 - t else t) = (t.natAbs : Int) := by split <;> lia
theorem a9H (t b : Int) : gI (t.natAbs : Int) b = gI t b := by
  rcases Int.natAbs_eq t with h | h
  . rw [<- h]
  . have : (t.natAbs : Int) = -t := by lia
    rw [this, a9F]
def a7F : Sp := fun vs H Q _ => ∃ a b : Int, vs = [.int a, .int b] /\ 0 <= a /\ 0 <= b /\ Q (.int (gI a b)) H
theorem Q5 {α : Type} (a b : α) : X7 [a, b] 0 = some a := y6 (j := 0) rfl
theorem S1 {α : Type} (a b : α) : X7 [a, b] 1 = some b := y6 (j := 1) rfl
def a7k (K : W.Frag) : Sp := fun vs H Q _ => ∃ (u v : V) (x y : Q2), vs = [u, v] /\ FrV K H u x /\ FrV K H v y /\ (Big 1000000 x.1 /\ Big 1000000 x.2 /\ Big 1000000 y.1 /\ Big 1000000 y.2) /\ Q (.bl (decide (x.1 * y.2 < y.1 * x.2))) H
theorem a9y : m6 ["one", "other"] ["one", "other"] (i9 a7C) := ⟨rfl, rfl, rfl, by decide +kernel, rfl, by decide +kernel, by decide +kernel⟩
theorem a7L (F : Fun K "_law_a_less" "_law_a_less" a7C f fd) : FnOk P w K mg base G8 (n + 1) f fd ["one", "other"] (a7k K) := by
  refine F.ok a9y (fun vs H Q E h => ?_) (fun cdv A outer s H vs Q E hr h => ?_)
  . obtain ⟨u, v, x, y, rfl, _⟩ := h
    rfl
  obtain ⟨u, v, x, y, rfl, ⟨a, rfl, ha⟩, ⟨b, rfl, hb⟩, ⟨b1, b2, b3, b4⟩, q⟩ := h
  refine ⟨_, j4 (t7 (E4 R5 (j3 V0 (j6 B8 (pv 0) c6 (fun _ _ => rfl)) (j6 B8 (pv 1) c6 (fun _ _ => rfl))) (j3 V0 (j6 B8 (pv 1) c6 (fun _ _ => rfl)) (j6 B8 (pv 0) c6 (fun _ _ => rfl))) (r6 _))), ?_⟩
  refine ⟨_, rfl, a, _, 0, _, rfl, rfl, ha, Q5 _ _, _, rfl, b, _, 1, _, rfl, rfl, hb, S1 _ _, _, _, rfl, rfl, ⟨b1, b4⟩, ?_⟩
  exact ⟨_, rfl, b, _, 0, _, rfl, rfl, hb, Q5 _ _, _, rfl, a, _, 1, _, rfl, rfl, ha, S1 _ _, _, _, rfl, rfl, ⟨b3, b2⟩, _, _, rfl, rfl, q⟩
theorem a1d {K : W.Frag} (t : Value) : W.kitOne K t t = some true := by unfold W.kitOne; rw [if_pos (beq_self_eq_true _)]
theorem a2i {K : W.Frag} : W.kitOne K (.type "int") (.type "bool") = some false := by
  unfold W.kitOne
  rw [if_neg (by decide)]
  rfl
def a4f : Sp := fun vs H Q _ => ∃ i : Int, vs = [.int i] /\ Q (.bl true) H
theorem a8S : m6 ["found"] ["found"] (i9 a3r) := ⟨rfl, rfl, rfl, by decide +kernel, rfl, by decide +kernel, by decide +kernel⟩
theorem a6w (F : Fun K "_law_a_whole" "_law_a_whole" a3r f fd) (T : B7 mg) : FnOk P w K mg base G8 (n + 1) f fd ["found"] a4f := by
  refine F.ok a8S (fun vs H Q E h => ?_) (fun cdv A outer s H vs Q E hr h => ?_)
  . obtain ⟨i, rfl, _⟩ := h
    rfl
  obtain ⟨i, rfl, q⟩ := h
  refine ⟨_, j4 (t7 (a2k (j8 S9 rfl T.isi PyProof.Rows.boot_isinstance (c5 (pv 0) (c5 (a0x (v := .ty "int") rfl T.int PyProof.Rows.boot_int rfl) c7)))
    (a0W (a7d (j8 S9 rfl T.isi PyProof.Rows.boot_isinstance (c5 (pv 0) (c5 (a0x (v := .ty "bool") rfl T.bool PyProof.Rows.boot_bool rfl) c7))))))), ?_⟩
  refine ⟨_, rfl, _, _, "int", true, rfl, .int i, a1d _, _, rfl, a2D ?_⟩
  exact ⟨_, rfl, _, _, "bool", false, rfl, .int i, a2i, _, rfl, q⟩
def a6k : Sp := fun vs H Q _ => ∃ (v : V) (x : Q2), vs = [v] /\ FrT H v x /\ a4w x /\ Q (.bl true) H
theorem b0b : m6 ["one"] ["one"] (i9 a7z) := ⟨rfl, rfl, rfl, by decide +kernel, rfl, by decide +kernel, by decide +kernel⟩
set_option maxHeartbeats 2000000 in
theorem a8j {fa fb : Addr} {da db : FuncData} (F : Fun K "_law_is_fraction" "_law_is_fraction" a7z f fd) (T : B7 mg) (Cw : Cal P w K mg base n "_law_a_whole" ["found"] a4f fa da) (Cc : Cal P w K mg base n "_law_common" ["one", "other"] a7F fb db) :
    FnOk P w K mg base G8 (n + 1) f fd ["one"] a6k := by
  refine F.ok b0b (fun vs H Q E h => ?_) (fun cdv A outer s H vs Q E hr h => ?_)
  . obtain ⟨v, x, rfl, _⟩ := h
    rfl
  obtain ⟨v, x, rfl, ⟨a, rfl, ha⟩, hc, q⟩ := h
  refine ⟨_, j0 (A5 (PW.pt (a4H (P5 (Q1 (j8 S9 rfl T.isi PyProof.Rows.boot_isinstance (c5 (pv 0) (c5 (a0x (v := .ty "tuple") rfl T.tuple PyProof.Rows.boot_tuple rfl) c7))))) (a2o (r8 a8X (j8 j9 rfl T.len PySem.boot_len (c5 (pv 0) c7)) c6 (r6 _))))) (j4 (t7 a3Y)) t0)
    (j0 (A5 (PW.pt (a4H (P5 (Q1 (m8 Cw.ok hr rfl Cw.m Cw.k Cw.b .nil v8 (c5 (j6 B8 (pv 0) c6 (fun _ _ => rfl)) c7)))) (a2o (P5 (Q1 (m8 Cw.ok hr rfl Cw.m Cw.k Cw.b .nil v8 (c5 (j6 B8 (pv 0) c6 (fun _ _ => rfl)) c7))))))) (j4 (t7 a3Y)) t0)
    (j4 (t7 (a2k (E4 S7 (j6 B8 (pv 0) c6 (fun _ _ => rfl)) c6 (r6 _))
      (a0W (E4 R6 (m8 Cc.ok hr rfl Cc.m Cc.k Cc.b .nil v8 (c5 (j8 (a5V rfl) rfl T.max PyProof.Rows.boot_max (c5 (j6 B8 (pv 0) c6 (fun _ _ => rfl)) (c5 (j3 a3Q c6 (j6 B8 (pv 0) c6 (fun _ _ => rfl))) c7))) (c5 (j6 B8 (pv 0) c6 (fun _ _ => rfl)) c7))) c6 (r6 _))))))), ?_⟩
  have hS : SqT K H a [.int x.1, .int x.2] := SqT.of ha
  refine ⟨_, rfl, _, _, "tuple", true, rfl, .tup ha, a1d _, _, rfl, N5 ?_⟩
  refine ⟨_, rfl, a, _, rfl, .inr hS, rfl, _, rfl, b0X rfl ?_⟩
  refine ⟨_, rfl, a, _, 0, _, rfl, rfl, hS, Q5 _ _, x.1, rfl, _, rfl, N5 ?_⟩
  refine ⟨_, rfl, a, _, 1, _, rfl, rfl, hS, S1 _ _, x.2, rfl, _, rfl, N5 ?_⟩
  refine ⟨_, rfl, a, _, 1, _, rfl, rfl, hS, S1 _ _, _, _, rfl, rfl, _, rfl, ?_⟩
  rw [decide_eq_true hc.1]
  refine a2D ?_
  refine ⟨_, rfl, a, _, 0, _, rfl, rfl, hS, Q5 _ _, _, rfl, a, _, 0, _, rfl, rfl, hS, Q5 _ _, _, _, rfl, rfl, _, _, rfl, ?_⟩
  rw [a7U]
  refine ⟨_, rfl, a, _, 1, _, rfl, rfl, hS, S1 _ _, _, _, rfl, Int.natCast_nonneg _, Int.le_of_lt hc.1, rfl, ?_⟩
  have : gI (x.1.natAbs : Int) x.2 = 1 := by rw [a9H]; unfold gI; rw [hc.2]; rfl
  rw [this]
  exact q
end
end Rim
namespace Rim
open PySem L2 Fr
section
variable {P : Program} {w : World} {K : W.Frag} {mg : Str -> Option Value} {base : Heap} {f g : Addr} {fd gd : FuncData} {n : Nat}
def a5j (k : Nat) (m : Int) : Prop := 0 <= m /\ m < (k : Int)
def a4M (K : W.Frag) (CN : Addr) : Sp := fun vs H Q E => ∃ (a : Addr) (xs : List V) (m : Int), vs = [.ref a, .int m] /\ SqL K H a xs /\ m.natAbs.log2 < 1920 /\ (∀ (i : Nat) x, m = (i : Int) -> xs[i]? = some x -> Q x H) /\ (¬ a5j xs.length m -> E (.ref CN) none H)
theorem b1C : m6 ["book", "number"] ["book", "number"] (i9 b0t) := ⟨rfl, rfl, rfl, by decide +kernel, rfl, by decide +kernel, by decide +kernel⟩
theorem b0d {CN : Addr} (F : Fun K "house_of" "house_of" b0t f fd) (T : B7 mg) (kN : R7 K CN) (mN : mg "NoHouse" = some (.ref CN)) : FnOk P w K mg base (CX1 P w) (n + 1) f fd ["book", "number"] (a4M K CN) := by
  refine F.ok1 b1C (fun vs H Q E h => ?_) (fun cdv A outer s H vs Q E hr h => ?_)
  . obtain ⟨a, xs, m, rfl, _⟩ := h
    rfl
  obtain ⟨a, xs, m, rfl, hS, hm, q, hE⟩ := h
  refine ⟨_, j0 (A5 (P5 (a6j b1B R5 c6 (pv 1) (j8 j9 rfl T.len PySem.boot_len (c5 (pv 0) c7)))) (j4 (a2Z kN rfl mN hr.hd (c5 (a8c (pv 1) (by decide)) c7))) t0)
    (j4 (t7 (j6 j5 (pv 0) (pv 1) (fun _ _ => rfl)))), ?_⟩
  refine ⟨_, rfl, _, _, rfl, rfl, _, rfl, ?_⟩
  have bad : ¬ a5j xs.length m -> a6N (a9t (tFs (a8B 1)) a8i) CN E { nx := fun _ H' => Q .non H', rt := Q } (M2 ["book", "number"] [.ref a, .int m]) H := fun hb => ⟨_, rfl, m, rfl, hm, fun x => ⟨(by show 1 <= 1000; decide), hE hb⟩⟩
  refine D8 (fun c => ?_) (fun c => ?_)
  . have c' : 0 <= m := of_decide_eq_true c
    refine ⟨_, rfl, a, _, rfl, .inl hS, _, _, rfl, rfl, _, rfl, ?_⟩
    refine D8 (fun d => ?_) (fun d => ?_)
    . have d' : ¬ m < (xs.length : Int) := of_decide_eq_false (by simpa using d)
      exact bad fun z => d' z.2
    . have d' : m < (xs.length : Int) := of_decide_eq_true (by simpa using d)
      obtain ⟨j, rfl⟩ : ∃ j : Nat, m = (j : Int) := ⟨m.toNat, by lia⟩
      have hi : j < xs.length := by lia
      exact ⟨_, rfl, _, rfl, a, _, _, _, rfl, rfl, hS, y6 (List.getElem?_eq_getElem hi), q j xs[j] rfl (List.getElem?_eq_getElem hi)⟩
  . have c' : ¬ 0 <= m := of_decide_eq_false (Bool.eq_false_iff.mpr c)
    exact ⟨_, rfl, a2D (bad fun z => c' z.1)⟩
end
end Rim
namespace L2
open PySem PySem.Spec PyProof.Rows
structure a8Z (K : W.Frag) (P : Params) (d : Addr) : Prop where
  ex : ∃ es n, K.lookup d = some ⟨.type "dict", none, .dict es n, #[]⟩ /\ W.KeysLit P es.toList
def b2d (K : W.Frag) (P : Params) : R2 := fun x y H Q => ∃ d z t, x = .ref d /\ y = .str z /\ a8Z K P d /\ W.nsIn K d z = some (some (.ref t)) /\ Q (.ref t) H
theorem a7p (K : W.Frag) (P : Params) {X : Cx} (hK : X.K = K) (hP : X.w.params = P) : IxR X (b2d K P) := by
  subst hK
  subst hP
  intro value slice pins s σ H x y v u Q I rx ry h hs
  obtain ⟨d, z, t, rfl, rfl, ⟨es, n, hl, hk⟩, e, q⟩ := h
  cases rx
  obtain ⟨tk, rfl⟩ := ry
  obtain ⟨m, hm⟩ := I.fr
  exact W.topItem_K hm I.mod.kin hl hk e ⟨.ref t, H, I.tok _, rfl, q⟩ (by first | exact hs | exact hs _ _)
end L2
namespace L2
open PySem
theorem a9J (K : W.Frag) {X : Cx} {tg l : Expr} {tl : TE} (h : X.K = K) (hl : PE X l tl) : PI X tg l (b0B K tl) := by subst h; exact a0F hl
end L2
namespace Rim
open PySem L2 Fr
def V6 (z : Str) : Prop := z = "any" \/ z = "one" \/ z = "less" \/ z = "more"
def Q6 (z : Str) : List Int := if z = "any" then [] else if z = "one" then [1, -1] else if z = "less" then [-1] else [1]
structure Sg (K : W.Frag) (Pm : Params) (mg : Str -> Option Value) (d : Addr) : Prop where
  m : mg "SIZE_SIGNS" = some (.ref d)
  k : a8Z K Pm d
  tt : ∀ z, V6 z -> ∃ t, W.nsIn K d z = some (some (.ref t)) /\ ∀ H, SqT K H t ((Q6 z).map V.int)
def A9 (z : Str) (h : i8) : List Int := h.1.map (fun x => -x) ++ h.2 ++ Q6 z
section
variable {P : Program} {w : World} {K : W.Frag} {mg : Str -> Option Value} {base : Heap} {f Pt d : Addr} {fd : FuncData} {n : Nat} {C : Addr}
def Q9 (K : W.Frag) : Sp := fun vs H Q _ => ∃ (ba : Addr) (xs : List V) (hs : List i8) (z : Str) (kt kg : Nat), vs = [.ref ba, .str z] /\ V6 z /\ SqL K H ba xs /\ Bk K H xs hs /\ hs.length <= 100 /\ kt <= 100 /\ kg <= 100 /\ (∀ h ∈ hs, h.1.length = kt /\ h.2.length = kg) ∧
  ∀ (r : Addr) (H' : Hp) (rs : List Addr), Same H H' -> H' r = some (.lst (rs.map V.ref)) -> rs.length = hs.length -> (∀ (i : Nat) a h, rs[i]? = some a -> hs[i]? = some h -> H' a = some (.lst ((A9 z h).map V.int))) -> Q (.ref r) H'
theorem scHr : m6 ["houses", "sizes", "signs"] ["houses", "sizes"] (i9 N4) := ⟨rfl, rfl, rfl, by decide +kernel, rfl, by decide +kernel, by decide +kernel⟩
theorem a9o : (["takes", "gives", "signs"] : List Str).Nodup := by decide +kernel
theorem b1d : (["take"] : List Str).Nodup := by decide +kernel
theorem a2t (z : Str) : (Q6 z).length <= 2 := by
  unfold Q6
  by_cases h1 : z = "any"
  . rw [if_pos h1]; decide
  by_cases h2 : z = "one"
  . rw [if_neg h1, if_pos h2]; decide
  by_cases h3 : z = "less"
  . rw [if_neg h1, if_neg h2, if_pos h3]; decide
  . rw [if_neg h1, if_neg h2, if_neg h3]; decide
set_option maxHeartbeats 4000000 in
noncomputable def hrT {cdv : Value} {A : Around} {outer : List Env} {s : Shared} {H : Hp} {E : XK} (N : B7 mg) (G : Sg K w.params mg d) :
    { t : TS // PSs (M1 G8 P w K mg base ["houses", "sizes", "signs"] "house_rows" (i9 N4) f cdv A outer s H E).nox (y4 N4) t } :=
  ⟨_, j0 (l0 (i := 2) scHr.nd rfl (Or.inr rfl) (u0 E5 rfl N.list PyProof.Rows.boot_list (c5 (j6 (a7p K w.params rfl rfl) (N8 (v := .ref d) rfl G.m rfl) (pv 1) (fun _ _ => rfl)) c7)))
    (j4 (t7 (R0 ["takes", "gives"] [2] rfl (G5 (pv 0))
      (fun _ _ _ _ => a1q K (n := 2) rfl rfl (v6 (m9 (i := 0) a9o rfl (Or.inl rfl)) (v6 (m9 (i := 1) a9o rfl (Or.inl rfl)) J4)))
      (fun _ _ _ _ => j3 D6 (j3 D6 (R0 ["take"] [] rfl (a9J K rfl (pv 0)) (fun _ _ _ _ => m9 (i := 0) b1d rfl (Or.inl rfl)) (fun _ _ _ _ => Q4 M0 (pv 0))) (u0 (a4j K rfl) rfl N.list PyProof.Rows.boot_list (c5 (pv 1) c7))) (pv 2)))))⟩
set_option maxHeartbeats 4000000 in
theorem a2d (F : Fun K "house_rows" "house_rows" N4 f fd) (N : B7 mg) (G : Sg K w.params mg d) : FnOk P w K mg base G8 (n + 1) f fd ["houses", "sizes"] (Q9 K) := by
  refine F.ok scHr (fun vs H Q E h => ?_) (fun cdv A outer s H vs Q E hr h => ?_)
  . obtain ⟨ba, xs, hs, z, kt, kg, rfl, _⟩ := h
    rfl
  obtain ⟨ba, xs, hs, z, kt, kg, rfl, hz, hB, hBk, hl, hkt, hkg, hlen, k⟩ := h
  refine ⟨_, (hrT N G).2, ?_⟩
  obtain ⟨t, ht, hT⟩ := G.tt z hz
  have xl : xs.length = hs.length := Paired.length hBk
  refine ⟨_, rfl, d, z, t, rfl, rfl, G.k, ht, t, _, rfl, .inr (hT _), fun sl hsl => ?_⟩
  have e0 := Same.new hsl (.lst ((Q6 z).map V.int))
  have hS0 : upd H sl (.lst ((Q6 z).map V.int)) sl = some (.lst ((Q6 z).map V.int)) := upd_same
  refine ⟨_, rfl, ba, rfl, ⟨_, e0.seq hB⟩, fun l hl' => ?_⟩
  refine a2e (E1 (e0.seq hB)) hl' (by rw [xl]; exact j7 (by lia)) (fun i y H2 => ∃ a h, y = .ref a /\ a ≠ l /\ hs[i]? = some h /\ H2 a = some (.lst ((A9 z h).map V.int)))
    (fun i y H2 H3 ⟨a, h, h1, h2, h3, h4⟩ e => ⟨a, h, h1, h2, h3, e a _ h2 h4⟩) (fun i x H2 ys N' hx e hl2 hN => ?_) (fun ys H2 e hl2 len pr => ?_)
  . obtain ⟨h, hh, hHS⟩ := Paired.at hBk hx
    have hH2 := hHS.same (e0.trans e)
    obtain ⟨a, ta, ga, rfl, p1, p2, p3⟩ := hH2
    have lh := hlen h (List.mem_of_getElem? hh)
    refine ⟨a, _, rfl, p1, rfl, _, _, rfl, _, _, rfl, rfl, ?_, ?_⟩
    . refine ⟨by simp, fun k w ek => ?_⟩
      have : ¬ k < 2 := fun hk => by
        unfold blkσ at ek
        rw [List.getElem?_append_left (by simpa using hk), List.getElem?_replicate] at ek
        split at ek <;> cases ek
      rw [List.getElem?_set_ne (by lia), List.getElem?_set_ne (by lia)]; exact ek
    refine ⟨_, rfl, ta, rfl, ⟨_, p2⟩, fun a1 h1 => ?_⟩
    refine M8 (S2 p2) h1 (by rw [List.length_map, lh.1]; exact j7 (by lia)) (fun x => .int (-(vI x))) (fun j x H' N2 hx2 e2 hN2 => ?_) ?_
    . obtain ⟨x', rfl, _⟩ := Y5 hx2
      exact ⟨Wk.set (by decide), _, rfl, _, rfl, hN2⟩
    have eg : (h.1.map V.int).map (fun x => V.int (-(vI x))) = (h.1.map fun x => -x).map V.int := by rw [List.map_map, List.map_map]; rfl
    rw [eg]
    have s1 := Same.new h1 (.lst ((h.1.map fun x => -x).map V.int))
    refine ⟨_, rfl, ga, _, rfl, .inr (s1.tseq p3), fun a2 h2 => ?_⟩
    have s2 := s1.trans (Same.new h2 (.lst (h.2.map V.int)))
    have n12 : a1 ≠ a2 := i7 upd_same h2
    have sz := j7 (show kt + kg + 2 <= 1000 by lia)
    have sg := a2t z
    refine ⟨a1, a2, _, _, rfl, rfl, (by rw [h8 n12]; exact upd_same), upd_same, ?_, fun a3 h3 => ?_⟩
    . rw [List.length_map, List.length_map, List.length_map, lh.1, lh.2]; lia
    have s3 := s2.trans (Same.new h3 (.lst ((h.1.map fun x => -x).map V.int ++ h.2.map V.int)))
    have sl3 := s3 _ _ (e _ _ hS0)
    refine ⟨_, rfl, a3, sl, _, _, rfl, rfl, upd_same, sl3, ?_, fun a4 h4 => ?_⟩
    . rw [List.length_append, List.length_map, List.length_map, List.length_map, List.length_map, lh.1, lh.2]; lia
    refine hN _ _ (s3.trans (Same.new h4 _)) ⟨a4, h, rfl, fun z' => ?_, hh, ?_⟩
    . rw [z', s3 _ _ hl2] at h4; cases h4
    . rw [upd_same]
      unfold A9
      rw [List.map_append, List.map_append]
  . have hys : ys = (ys.map a5u).map V.ref := by
      rw [List.map_map]
      refine List.ext_getElem? fun i => ?_
      rw [List.getElem?_map]
      cases qi : ys[i]? with
      | none => rfl
      | some y =>
        obtain ⟨a, _, rfl, _⟩ := pr i y qi
        rfl
    refine k l H2 (ys.map a5u) (e0.trans e) (by rw [hl2]; rw [<- hys]) (by rw [List.length_map, len, xl]) fun i a h hi hh => ?_
    rw [List.getElem?_map] at hi
    cases qi : ys[i]? with
    | none => rw [qi] at hi; cases hi
    | some y =>
      obtain ⟨a', h', rfl, _, h3, h4⟩ := pr i y qi
      rw [qi] at hi
      have : a' = a := Option.some.inj hi
      subst this
      rw [hh] at h3
      cases h3
      exact h4
end
end Rim
namespace Rim
open PySem L2 Fr
def G7 (z : Str) (h : i8) : List Int := List.replicate h.1.length 0 ++ h.2 ++ Q6 z
def J1 (z : Str) (h : i8) : List Int := h.1 ++ List.replicate h.2.length 0 ++ List.replicate (Q6 z).length 0
def C4 (z : Str) (hs : List i8) (h : i8) : List (List Int) := hs.map (A9 z) ++ [J1 z h]
def W6 (hs : List i8) : List Int := List.replicate hs.length 0 ++ [1]
theorem Y2 (k : Nat) : (List.replicate k [V.int 0]).flatten = (List.replicate k (0 : Int)).map V.int := by
  induction k with
  | zero => rfl
  | succ k ih => rw [List.replicate_succ, List.flatten_cons, ih, List.replicate_succ, List.map_cons]; rfl
section
variable {P : Program} {w : World} {K : W.Frag} {mg : Str -> Option Value} {base : Heap} {f Pt d : Addr} {fd : FuncData} {n : Nat} {C : Addr}
abbrev OfE (z : Str) (hs : List i8) (h : i8) (S : Lp.Bo) : Prop := Lp.Of (hs.length + 1) (h.1.length + h.2.length + (Q6 z).length) (S4 (C4 z hs h)) (K5 (W6 hs)) (K5 (G7 z h)) S
def a3h (K : W.Frag) (Pt : Addr) : Sp := fun vs H Q _ => ∃ (ba : Addr) (hv : V) (xs : List V) (hs : List i8) (h : i8) (z : Str) (far : Int) (kt kg m q : Nat), vs = [.ref ba, hv, .str z] /\ V6 z /\ SqL K H ba xs /\ Bk K H xs hs /\ HS K H hv h /\ HG far kt kg h /\ (∀ h ∈ hs, HG far kt kg h) /\ far <= 2 ^ 60 ∧
  hs.length <= 16 /\ kt <= 20 /\ kg <= 20 /\ m = hs.length + 1 /\ q = h.1.length + h.2.length + (Q6 z).length /\ LT Pt H ∧
  (∀ (S : Lp.Bo) (H' : Hp) (t aa wa : Addr), OfE z hs h S -> (∀ j, j < q -> ¬ S.T m j < 0) -> Sz 4000 m q S -> Same1 Pt H H' -> LT Pt H' -> H' t = some (.tup [.int (S.T m q), .ref aa, .ref wa, .int S.d]) →
    H' aa = some (.lst ((u9 m q S).map V.int)) -> H' wa = some (.lst ((K2 m q S).map V.int)) -> Q (.ref t) H') ∧
  ∀ (S : Lp.Bo) (H' : Hp) (c : Nat), OfE z hs h S -> c < q -> S.T m c < 0 -> (∀ i, i < m -> ¬ 0 < S.T i c) -> Same1 Pt H H' -> LT Pt H' -> Q .non H'
theorem scEa : m6 ["houses", "house", "sizes", "takes", "gives", "signs", "earned", "paid"] ["houses", "house", "sizes"] (i9 U9) := ⟨rfl, rfl, rfl, by decide +kernel, rfl, by decide +kernel, by decide +kernel⟩
set_option maxHeartbeats 4000000 in
noncomputable def eaT {cdv : Value} {A : Around} {outer : List Env} {s : Shared} {H : Hp} {E : XK} {f1 f2 : Addr} {d1 d2 : FuncData} (N : B7 mg) (G : Sg K w.params mg d) (Cg : a1k P w K mg base n "greatest" ["goal", "rows", "bounds"] (X3 K C Pt) f1 d1) (Ch : a1k P w K mg base n "house_rows" ["houses", "sizes"] (Q9 K) f2 d2)
    (hr : Room n (A.deeper (PyProof.Rows.envOfC "greatest_earned" (i9 U9) s.heap.objs.size f cdv))) :
    { t : TS // PSs (M1 G8 P w K mg base ["houses", "house", "sizes", "takes", "gives", "signs", "earned", "paid"] "greatest_earned" (i9 U9) f cdv A outer s H E).nox (y4 U9) t } :=
  ⟨_, j0 (J3 (pv 1) (X4 rfl (v6 (m9 (i := 3) scEa.nd rfl (Or.inl rfl)) (v6 (m9 (i := 4) scEa.nd rfl (Or.inl rfl)) J4))))
    (j0 (l0 (i := 5) scEa.nd rfl (Or.inl rfl) (u0 E5 rfl N.list PyProof.Rows.boot_list (c5 (j6 (a7p K w.params rfl rfl) (N8 (v := .ref d) rfl G.m rfl) (pv 2) (fun _ _ => rfl)) c7)))
    (r9 (l0 (i := 6) scEa.nd rfl (Or.inl rfl) (j3 D6 (j3 D6 (j3 Z0 (x6 (c5 c6 c7)) (j8 j9 rfl N.len PySem.boot_len (c5 (pv 3) c7))) (u0 E5 rfl N.list PyProof.Rows.boot_list (c5 (pv 4) c7))) (pv 5)))
    (r9 (l0 (i := 7) scEa.nd rfl (Or.inl rfl) (j3 D6 (j3 D6 (u0 E5 rfl N.list PyProof.Rows.boot_list (c5 (pv 3) c7)) (j3 Z0 (x6 (c5 c6 c7)) (j8 j9 rfl N.len PySem.boot_len (c5 (pv 4) c7)))) (j3 Z0 (x6 (c5 c6 c7)) (j8 j9 rfl N.len PySem.boot_len (c5 (pv 5) c7)))))
    (j4 (t7 (m8 Cg.ok hr rfl Cg.m Cg.k Cg.b .nil v8 (c5 (pv 6) (c5 (j3 D6 (m8 Ch.ok hr rfl Ch.m Ch.k Ch.b .nil v8 (c5 (pv 0) (c5 (pv 2) c7))) (x6 (c5 (pv 7) c7)))
      (c5 (j3 D6 (j3 Z0 (x6 (c5 c6 c7)) (j8 j9 rfl N.len PySem.boot_len (c5 (pv 0) c7))) (x6 (c5 c6 c7))) c7)))))))))⟩
theorem b0C : ∀ k, k < 20 -> Lp.bnd (2 ^ 60) (k + 1) < 2 ^ 4000 := by decide +kernel
theorem V4 {rows : List (List Int)} {i j : Nat} {row : List Int} (h : rows[i]? = some row) : S4 rows i j = row.getD j 0 := by
  have e : rows.getD i [] = row := by rw [List.getD_eq_getElem?_getD, h]; rfl
  unfold S4
  rw [e]
theorem a0V {l : List Int} {M : Nat} (h : ∀ x ∈ l, x.natAbs <= M) (j : Nat) : (l.getD j 0).natAbs <= M := by
  rw [List.getD_eq_getElem?_getD]
  cases e : l[j]? with
  | none => exact Nat.zero_le _
  | some x => exact h x (List.mem_of_getElem? e)
theorem a2j (z : Str) : ∀ x ∈ Q6 z, x.natAbs <= 2 ^ 60 := by
  unfold Q6
  by_cases h1 : z = "any"
  . rw [if_pos h1]; decide
  by_cases h2 : z = "one"
  . rw [if_neg h1, if_pos h2]; decide
  by_cases h3 : z = "less"
  . rw [if_neg h1, if_neg h2, if_pos h3]; decide
  . rw [if_neg h1, if_neg h2, if_neg h3]; decide
theorem a9b {z : Str} {hs : List i8} {h : i8} {far : Int} {kt kg : Nat} (hh : HG far kt kg h) (hhs : ∀ h ∈ hs, HG far kt kg h) (hf : far <= 2 ^ 60) (q : Nat) :
    ∀ v, Lp.Fits (2 ^ 60) (hs.length + 1 + 1) (Lp.Vv (hs.length + 1) q (S4 (C4 z hs h)) (K5 (W6 hs)) (K5 (G7 z h)) v) := by
  have ht : ∀ g : i8, HG far kt kg g -> ∀ x ∈ g.1, x.natAbs <= 2 ^ 60 := fun g hg x hx => by have := hg.t x hx; lia
  have hg' : ∀ g : i8, HG far kt kg g -> ∀ x ∈ g.2, x.natAbs <= 2 ^ 60 := fun g hg x hx => by have := hg.g x hx; lia
  have z0 : ∀ k : Nat, ∀ x ∈ List.replicate k (0 : Int), x.natAbs <= 2 ^ 60 := fun k x hx => by rw [(List.mem_replicate.mp hx).2]; decide
  have rows : ∀ r ∈ C4 z hs h, ∀ x ∈ r, x.natAbs <= 2 ^ 60 := fun r hr x hx => by
    unfold C4 at hr
    rcases List.mem_append.mp hr with hr | hr
    . obtain ⟨g, hg, rfl⟩ := List.mem_map.mp hr
      unfold A9 at hx
      rcases List.mem_append.mp hx with hx | hx
      . rcases List.mem_append.mp hx with hx | hx
        . obtain ⟨y, hy, rfl⟩ := List.mem_map.mp hx
          have := ht g (hhs g hg) y hy
          rw [Int.natAbs_neg]; exact this
        . exact hg' g (hhs g hg) x hx
      . exact a2j z x hx
    . rw [List.mem_singleton.mp hr] at hx
      unfold J1 at hx
      rcases List.mem_append.mp hx with hx | hx
      . rcases List.mem_append.mp hx with hx | hx
        . exact ht h hh x hx
        . exact z0 _ x hx
      . exact z0 _ x hx
  have goal : ∀ x ∈ G7 z h, x.natAbs <= 2 ^ 60 := fun x hx => by
    unfold G7 at hx
    rcases List.mem_append.mp hx with hx | hx
    . rcases List.mem_append.mp hx with hx | hx
      . exact z0 _ x hx
      . exact hg' h hh x hx
    . exact a2j z x hx
  have bnds : ∀ x ∈ W6 hs, x.natAbs <= 2 ^ 60 := fun x hx => by
    unfold W6 at hx
    rcases List.mem_append.mp hx with hx | hx
    . exact z0 _ x hx
    . rw [List.mem_singleton.mp hx]; decide
  intro v i _
  unfold Lp.Vv
  split
  . split
    . unfold S4
      refine a0V (fun x hx => ?_) v
      rw [List.getD_eq_getElem?_getD] at hx
      cases e : (C4 z hs h)[i]? with
      | none => rw [e] at hx; cases hx
      | some r => rw [e] at hx; exact rows r (List.mem_of_getElem? e) x hx
    . split
      . rw [Int.natAbs_neg]; exact a0V goal v
      . exact Nat.zero_le _
  . split
    . split <;> decide
    . split
      . exact a0V bnds i
      . exact Nat.zero_le _
end
end Rim
namespace Rim
open PySem L2 Fr
section
variable {P : Program} {w : World} {K : W.Frag} {mg : Str -> Option Value} {base : Heap} {f Pt d : Addr} {fd : FuncData} {n : Nat} {C : Addr}
theorem a7I {H' : Hp} {rs : List Addr} {hs : List i8} {z : Str} (hl : rs.length = hs.length) (h : ∀ (i : Nat) a g, rs[i]? = some a -> hs[i]? = some g -> H' a = some (.lst ((A9 z g).map V.int))) : RowsL K H' (rs.map V.ref) (hs.map (A9 z)) := by
  induction hs generalizing rs with
  | nil =>
    cases rs with
    | nil => exact .nil
    | cons a r => simp at hl
  | cons g hs ih =>
    cases rs with
    | nil => simp at hl
    | cons a r => exact .cons ⟨a, rfl, SqL.of (h 0 a g rfl rfl)⟩ (ih (by simpa using hl) fun i b g' h1 h2 => h (i + 1) b g' (by simpa using h1) (by simpa using h2))
set_option maxHeartbeats 8000000 in
theorem a5R {f1 f2 : Addr} {d1 d2 : FuncData} (F : Fun K "greatest_earned" "greatest_earned" U9 f fd) (N : B7 mg) (G : Sg K w.params mg d) (Cg : a1k P w K mg base n "greatest" ["goal", "rows", "bounds"] (X3 K C Pt) f1 d1) (Ch : a1k P w K mg base n "house_rows" ["houses", "sizes"] (Q9 K) f2 d2) :
    FnOk P w K mg base G8 (n + 1) f fd ["houses", "house", "sizes"] (a3h K Pt) := by
  refine F.ok scEa (fun vs H Q E h => ?_) (fun cdv A outer s H vs Q E hr h => ?_)
  . obtain ⟨ba, hv, xs, hs, h, z, far, kt, kg, m, q, rfl, _⟩ := h
    rfl
  obtain ⟨ba, hv, xs, hs, h, z, far, kt, kg, m, q, rfl, hz, hB, hBk, hHS, hh, hhs, hfar, h16, hkt, hkg, rfl, rfl, L, kT, kN⟩ := h
  refine ⟨_, (eaT N G Cg Ch hr).2, ?_⟩
  obtain ⟨ha, ta, ga, rfl, p1, p2, p3⟩ := id hHS
  obtain ⟨t, ht, hT⟩ := G.tt z hz
  have xl : xs.length = hs.length := Paired.length hBk
  have sg := a2t z
  have s1k := j7 (show (1000 : Nat) <= 1000 from Nat.le_refl _)
  have l1 := hh.lt
  have l2 := hh.lg
  refine ⟨_, rfl, ha, _, rfl, p1, rfl, _, _, rfl, _, _, rfl, rfl, ?_⟩
  refine ⟨_, rfl, d, z, t, rfl, rfl, G.k, ht, t, _, rfl, .inr (hT _), fun sl hsl => ?_⟩
  have e0 := Same.new hsl (.lst ((Q6 z).map V.int))
  have hS0 : upd H sl (.lst ((Q6 z).map V.int)) sl = some (.lst ((Q6 z).map V.int)) := upd_same
  -- earned
  refine ⟨fun σ' H1 => ∃ ea : Addr, σ' = [some (.ref ba), some (.ref ha), some (.str z), some (.ref ta), some (.ref ga), some (.ref sl), some (.ref ea), none] /\ Same (upd H sl (.lst ((Q6 z).map V.int))) H1 /\ H1 ea = some (.lst ((G7 z h).map V.int)), ?_, ?_⟩
  . refine ⟨(by show 1 <= sizeLine; decide), fun a1 h1 => ?_⟩
    have s1 := Same.new h1 (.lst [.int 0])
    refine ⟨_, rfl, ta, _, rfl, .inr (s1.tseq (e0.tseq p2)), a1, _, _, rfl, rfl, upd_same, by lia, by rw [List.length_map, l1]; lia, by rw [List.length_map, l1, Int.toNat_natCast]; simp; lia, fun a2 h2 => ?_⟩
    rw [List.length_map, Int.toNat_natCast, Y2]
    have s2 := s1.trans (Same.new h2 (.lst ((List.replicate h.1.length (0 : Int)).map V.int)))
    refine ⟨_, rfl, ga, _, rfl, .inr (s2.tseq (e0.tseq p3)), fun a3 h3 => ?_⟩
    have s3 := s2.trans (Same.new h3 (.lst (h.2.map V.int)))
    have n23 : a2 ≠ a3 := i7 upd_same h3
    refine ⟨a2, a3, _, _, rfl, rfl, (by rw [h8 n23]; exact upd_same), upd_same, ?_, fun a4 h4 => ?_⟩
    . rw [List.length_map, List.length_map, List.length_replicate, l1, l2]; lia
    have s4 := s3.trans (Same.new h4 (.lst ((List.replicate h.1.length (0 : Int)).map V.int ++ h.2.map V.int)))
    refine ⟨_, rfl, a4, sl, _, _, rfl, rfl, upd_same, s4 _ _ hS0, ?_, fun a5 h5 => ?_⟩
    . rw [List.length_append, List.length_map, List.length_map, List.length_map, List.length_replicate, l1, l2]; lia
    refine ⟨a5, rfl, s4.trans (Same.new h5 _), ?_⟩
    rw [upd_same]
    unfold G7
    rw [List.map_append, List.map_append]
  intro σ1 H1 hM_; refine D4 fun G_ hG_ => ?_; obtain ⟨ea, rfl, e1, he⟩ := hM_; subst hG_
  have e01 := e0.trans e1
  -- paid
  refine ⟨fun σ' H2 => ∃ pa : Addr, σ' = [some (.ref ba), some (.ref ha), some (.str z), some (.ref ta), some (.ref ga), some (.ref sl), some (.ref ea), some (.ref pa)] /\ Same H1 H2 /\ H2 pa = some (.lst ((J1 z h).map V.int)), ?_, ?_⟩
  . refine ⟨_, rfl, ta, _, rfl, .inr (e01.tseq p2), fun a1 h1 => ?_⟩
    have s1 := Same.new h1 (.lst (h.1.map V.int))
    refine ⟨(by show 1 <= sizeLine; decide), fun a2 h2 => ?_⟩
    have s2 := s1.trans (Same.new h2 (.lst [.int 0]))
    have n12 : a1 ≠ a2 := i7 upd_same h2
    refine ⟨_, rfl, ga, _, rfl, .inr (s2.tseq (e01.tseq p3)), a2, _, _, rfl, rfl, upd_same, by lia, by rw [List.length_map, l2]; lia, by rw [List.length_map, l2, Int.toNat_natCast]; simp; lia, fun a3 h3 => ?_⟩
    rw [List.length_map, Int.toNat_natCast, Y2]
    have s3 := s2.trans (Same.new h3 (.lst ((List.replicate h.2.length (0 : Int)).map V.int)))
    have c1 := (Same.new h3 (.lst ((List.replicate h.2.length (0 : Int)).map V.int))) a1 _ ((Same.new h2 (.lst [.int 0])) a1 _ upd_same)
    refine ⟨a1, a3, _, _, rfl, rfl, c1, upd_same, ?_, fun a4 h4 => ?_⟩
    . rw [List.length_map, List.length_map, List.length_replicate, l1, l2]; lia
    have s4 := s3.trans (Same.new h4 (.lst (h.1.map V.int ++ (List.replicate h.2.length (0 : Int)).map V.int)))
    refine ⟨(by show 1 <= sizeLine; decide), fun a5 h5 => ?_⟩
    have s5 := s4.trans (Same.new h5 (.lst [.int 0]))
    have lz : ((Q6 z).map V.int).length = (Q6 z).length := List.length_map _
    refine ⟨_, rfl, sl, _, rfl, .inl (SqL.of (s5 _ _ (e1 _ _ hS0))), a5, _, _, rfl, rfl, upd_same, by lia, by rw [lz]; lia, by rw [lz, Int.toNat_natCast]; simp; lia, fun a6 h6 => ?_⟩
    rw [lz, Int.toNat_natCast, Y2]
    have c4 := (Same.new h6 (.lst ((List.replicate (Q6 z).length (0 : Int)).map V.int))) a4 _ ((Same.new h5 (.lst [.int 0])) a4 _ upd_same)
    refine ⟨a4, a6, _, _, rfl, rfl, c4, upd_same, ?_, fun a7 h7 => ?_⟩
    . rw [List.length_append, List.length_map, List.length_map, List.length_map, List.length_replicate, List.length_replicate, l1, l2]; lia
    refine ⟨a7, rfl, (s5.trans (Same.new h6 _)).trans (Same.new h7 _), ?_⟩
    rw [upd_same]
    unfold J1
    rw [List.map_append, List.map_append]
  intro σ2 H2 hM_; refine D4 fun G_ hG_ => ?_; obtain ⟨pa, rfl, e2, hp⟩ := hM_; subst hG_
  have e02 := e01.trans e2
  -- greatest(..)
  refine ⟨_, rfl, _, rfl, _, rfl, ?_⟩
  refine ⟨ba, xs, hs, z, kt, kg, rfl, hz, e02.seq hB, hBk.same e02, by lia, by lia, by lia, fun g hg => ⟨(hhs g hg).lt, (hhs g hg).lg⟩, fun r H3 rs e3 hr3 lr hrs => ?_⟩
  refine ⟨_, rfl, (by show 1 <= sizeLine; decide), fun a1 h1 => ?_⟩
  have s1 := e3.trans (Same.new h1 (.lst [.ref pa]))
  have nr1 : r ≠ a1 := i7 hr3 h1
  refine ⟨r, a1, _, _, rfl, rfl, (by rw [h8 nr1]; exact hr3), upd_same, ?_, fun a2 h2 => ?_⟩
  . rw [List.length_map, lr]; simp; lia
  have t2 := (Same.new h1 (.lst [.ref pa])).trans (Same.new h2 (.lst (rs.map V.ref ++ [.ref pa])))
  have s2 := s1.trans (Same.new h2 (.lst (rs.map V.ref ++ [.ref pa])))
  refine ⟨(by show 1 <= sizeLine; decide), fun a3 h3 => ?_⟩
  have t3 := t2.trans (Same.new h3 (.lst [.int 0]))
  have s3 := s2.trans (Same.new h3 (.lst [.int 0]))
  refine ⟨_, rfl, ba, _, rfl, .inl ((e02.trans s3).seq hB), a3, _, _, rfl, rfl, upd_same, by lia, by rw [xl]; lia, by rw [xl, Int.toNat_natCast]; simp; lia, fun a4 h4 => ?_⟩
  rw [xl, Int.toNat_natCast, Y2]
  have t4 := t3.trans (Same.new h4 (.lst ((List.replicate hs.length (0 : Int)).map V.int)))
  have s4 := s3.trans (Same.new h4 (.lst ((List.replicate hs.length (0 : Int)).map V.int)))
  refine ⟨(by show 1 <= sizeLine; decide), fun a5 h5 => ?_⟩
  have t5 := t4.trans (Same.new h5 (.lst [.int 1]))
  have s5 := s4.trans (Same.new h5 (.lst [.int 1]))
  have n45 : a4 ≠ a5 := i7 upd_same h5
  refine ⟨a4, a5, _, _, rfl, rfl, (by rw [h8 n45]; exact upd_same), upd_same, ?_, fun a6 h6 => ?_⟩
  . rw [List.length_map, List.length_replicate]; simp; lia
  have t6 := t5.trans (Same.new h6 (.lst ((List.replicate hs.length (0 : Int)).map V.int ++ [.int 1])))
  have s6 := s5.trans (Same.new h6 (.lst ((List.replicate hs.length (0 : Int)).map V.int ++ [.int 1])))
  have g3 : ∀ b o, upd (upd H3 a1 (.lst [.ref pa])) a2 (.lst (rs.map V.ref ++ [.ref pa])) b = some o -> upd (upd (upd (upd (upd (upd H3 a1 (.lst [.ref pa])) a2 (.lst (rs.map V.ref ++ [.ref pa]))) a3 (.lst [.int 0])) a4 (.lst ((List.replicate hs.length (0 : Int)).map V.int))) a5 (.lst [.int 1])) a6 (.lst ((List.replicate hs.length (0 : Int)).map V.int ++ [.int 1])) b = some o :=
    (((Same.new h3 (.lst [.int 0])).trans (Same.new h4 (.lst ((List.replicate hs.length (0 : Int)).map V.int)))).trans (Same.new h5 (.lst [.int 1]))).trans (Same.new h6 (.lst ((List.replicate hs.length (0 : Int)).map V.int ++ [.int 1])))
  have eb : (List.replicate hs.length (0 : Int)).map V.int ++ [.int 1] = (W6 hs).map V.int := by unfold W6; rw [List.map_append]; rfl
  have hA : Same H (upd (upd (upd (upd (upd (upd H3 a1 (.lst [.ref pa])) a2 (.lst (rs.map V.ref ++ [.ref pa]))) a3 (.lst [.int 0])) a4 (.lst ((List.replicate hs.length (0 : Int)).map V.int))) a5 (.lst [.int 1])) a6 (.lst ((List.replicate hs.length (0 : Int)).map V.int ++ [.int 1]))) := e02.trans s6
  refine ⟨ea, a2, a6, G7 z h, rs.map V.ref ++ [.ref pa], C4 z hs h, W6 hs, hs.length + 1, h.1.length + h.2.length + (Q6 z).length, 2 ^ 60, rfl, SqL.of (s6 _ _ (e2 _ _ he)), SqL.of (g3 _ _ upd_same), ?_, ?_, ?_, ?_, ?_, ?_, by lia, by lia, ?_, a9b hh hhs hfar _, b0C _ (by lia), L.same hA, fun S H' t' aa wa O hn sz e' L' g1 g2 g4 => kT S H' t' aa wa O hn sz (fun b o hb q' => e' b o hb (hA b o q')) L' g1 g2 g4, fun S H' c O hc hneg hno e' L' => kN S H' c O hc hneg hno (fun b o hb q' => e' b o hb (hA b o q')) L'⟩
  . unfold C4
    refine Paired.app ((a7I (K := K) lr hrs).same t6) (.cons ⟨pa, rfl, SqL.of (s6 _ _ hp)⟩ .nil)
  . rw [<- eb]; exact SqL.of upd_same
  . unfold C4; simp
  . unfold W6; simp
  . unfold G7; simp [Nat.add_assoc]
  . intro r hr
    unfold C4 at hr
    rcases List.mem_append.mp hr with hr | hr
    . obtain ⟨g, hg, rfl⟩ := List.mem_map.mp hr
      unfold A9
      rw [List.length_append, List.length_append, List.length_map, (hhs g hg).lt, (hhs g hg).lg, l1, l2]
    . rw [List.mem_singleton.mp hr]
      unfold J1
      simp
      lia
  . intro i hi
    unfold K5 W6
    rw [List.getD_eq_getElem?_getD]
    by_cases h' : i < hs.length
    . rw [List.getElem?_append_left (by simpa using h'), List.getElem?_replicate, if_pos h']; exact Int.le_refl _
    . rw [List.getElem?_append_right (by simp; lia)]
      have : i - (List.replicate hs.length (0 : Int)).length = 0 := by simp; lia
      rw [this]; decide
end
end Rim
namespace Rim
open PySem L2 Fr
section
variable {P : Program} {w : World} {K : W.Frag} {mg : Str -> Option Value} {base : Heap} {f Pt d : Addr} {fd : FuncData} {n : Nat} {C : Addr}
theorem b2a : m6 ["book", "number", "sizes"] ["book", "number", "sizes"] (i9 a3s) := ⟨rfl, rfl, rfl, by decide +kernel, rfl, by decide +kernel, by decide +kernel⟩
theorem scHa : m6 ["houses", "house", "sizes", "found", "top", "amounts", "weights", "bottom"] ["houses", "house", "sizes"] (i9 a6G) := ⟨rfl, rfl, rfl, by decide +kernel, rfl, by decide +kernel, by decide +kernel⟩
end
end Rim
namespace Lp
section
variable {m q : Nat} {A : Nat -> Nat -> Int} {b c : Nat -> Int} {S : Bo}
theorem Of.way (O : Of m q A b c S) {cc : Nat} (hc : cc < q) (neg : S.T m cc < 0) (no : ∀ i, i < m -> ¬ 0 < S.T i cc) : ∃ y : Nat -> Int, (∀ j, j < q -> 0 <= y j) /\ (∀ i, i < m -> sumTo (fun j => A i j * y j) q <= 0) /\ 0 < sumTo (fun j => c j * y j) q := by
  have K0 := (O.k _).mp (O.w.ray_ker (c := cc) (by lia))
  obtain ⟨rows, goal⟩ := ker0.mp K0
  have zc : ray m S cc (q + m + 1) = 0 := by
    rw [<- O.w.oq]
    exact O.w.ray_out (by lia) (by lia) (by lia)
  have zg : ray m S cc (q + m) = - S.T m cc := by
    rw [<- O.w.im]
    exact O.w.ray_in (by lia) (by lia)
  have nn : ∀ v, v < q + m -> 0 <= ray m S cc v := fun v hv => by
    rcases O.w.all v hv with ⟨i, hi, e⟩ | ⟨j, hj, e⟩
    . rw [<- e, O.w.ray_in (by lia) (by lia)]
      have := no i hi
      lia
    . rw [<- e]
      by_cases hjc : j = cc
      . subst hjc
        rw [Wf.ray_c]
        exact Int.le_of_lt O.w.pos
      . rw [O.w.ray_out (by lia) (by lia) hjc]; exact Int.le_refl _
  refine ⟨ray m S cc, fun j hj => nn j (by lia), fun i hi => ?_, by rw [<- goal, zg]; lia⟩
  have r0 := rows i hi
  rw [zc, Int.mul_zero, Int.add_zero] at r0
  have n0 := nn (q + i) (by lia)
  lia
theorem Of.bounded (O : Of m q A b c S) {i0 l cc : Nat} (h0 : i0 < m) (hl : l < m) (hA : ∀ j, j < q -> A i0 j + A l j = c j) (hc : cc < q) (neg : S.T m cc < 0) (no : ∀ i, i < m -> ¬ 0 < S.T i cc) : False := by
  obtain ⟨y, _, rows, goal⟩ := O.way hc neg no
  have r0 := rows i0 h0
  have rl := rows l hl
  have e : sumTo (fun j => c j * y j) q = sumTo (fun j => A i0 j * y j) q + sumTo (fun j => A l j * y j) q := by
    rw [<- N9]
    refine sum_congr fun j hj => ?_
    rw [<- hA j hj, Int.add_mul]
  lia
end
end Lp
namespace Rim
open PySem L2 Fr
section
variable {P : Program} {w : World} {K : W.Frag} {mg : Str -> Option Value} {base : Heap} {f Pt d : Addr} {fd : FuncData} {n : Nat} {C : Addr}
end
end Rim
namespace Rim
open PySem L2 Fr
section
variable {P : Program} {w : World} {K : W.Frag} {mg : Str -> Option Value} {base : Heap} {f Pt d : Addr} {fd : FuncData} {n : Nat} {C : Addr}
theorem a7Y (xs : List V) (a b : Nat) (h : a <= b) (hb : b <= xs.length) : A6 xs (some (a : Int)) (some (b : Int)) = (xs.drop a).take (b - a) := by
  unfold A6
  rw [HT.sIx_nat, HT.sIx_nat, Nat.min_eq_left hb, Nat.min_eq_left (by lia)]
end
end Rim
namespace Rim
open PySem L2 Fr
theorem SqT.same1 {K : W.Frag} {P : Addr} {pos : Pos} {qual : Str} {H H' : Hp} {a : Addr} {xs : List V} (T : LamTab P pos qual H) (e : Same1 P H H') (h : SqT K H a xs) : SqT K H' a xs := by
  have ne : ∀ o, H a = some o -> (∀ ps, o ≠ .tbl ps) -> a ≠ P := fun o q n z => by
    subst z
    rcases T with t | ⟨c, t, _⟩
    . rw [q] at t; exact n _ (Option.some.inj t)
    . rw [q] at t; exact n _ (Option.some.inj t)
  rcases h with (h | ⟨o, h⟩) | h
  . exact .inl (.inl (e _ _ (ne _ h fun _ => nofun) h))
  . exact .inl (.inr ⟨o, e _ _ (ne _ h fun _ => nofun) h⟩)
  . exact .inr h
theorem HS.same1 {K : W.Frag} {Pt : Addr} {H H' : Hp} {v : V} {h : i8} (T : LT Pt H) (e : Same1 Pt H H') (x : HS K H v h) : HS K H' v h := by
  obtain ⟨a, t, g, h0, h1, h2, h3⟩ := x
  exact ⟨a, t, g, h0, SqT.same1 T e h1, SqT.same1 T e h2, SqT.same1 T e h3⟩
theorem Bk.same1 {K : W.Frag} {Pt : Addr} {H H' : Hp} {vs : List V} {hs : List i8} (T : LT Pt H) (e : Same1 Pt H H') (x : Bk K H vs hs) : Bk K H' vs hs := Paired.imp' (fun _ _ r => HS.same1 T e r) x
theorem E6 {l r : List Int} (j : Nat) : (l ++ r).getD j 0 = if j < l.length then l.getD j 0 else r.getD (j - l.length) 0 := by
  rw [List.getD_eq_getElem?_getD, List.getD_eq_getElem?_getD, List.getD_eq_getElem?_getD]
  by_cases h : j < l.length
  . rw [if_pos h, List.getElem?_append_left h]
  . rw [if_neg h, List.getElem?_append_right (by lia)]
theorem T1 (k j : Nat) : (List.replicate k (0 : Int)).getD j 0 = 0 := by
  rw [List.getD_eq_getElem?_getD, List.getElem?_replicate]
  split <;> rfl
theorem a2L (l : List Int) (j : Nat) : (l.map fun x => -x).getD j 0 = - l.getD j 0 := by
  rw [List.getD_eq_getElem?_getD, List.getD_eq_getElem?_getD, List.getElem?_map]
  cases l[j]? <;> rfl
theorem a6h {z : Str} {hs : List i8} {h : i8} {i : Nat} (hi : hs[i]? = some h) (j : Nat) : S4 (C4 z hs h) i j + S4 (C4 z hs h) hs.length j = K5 (G7 z h) j := by
  have hil : i < hs.length := (List.getElem?_eq_some_iff.mp hi).1
  have e1 : (C4 z hs h)[i]? = some (A9 z h) := by
    unfold C4
    rw [List.getElem?_append_left (by rw [List.length_map]; exact hil), List.getElem?_map, hi]; rfl
  have e2 : (C4 z hs h)[hs.length]? = some (J1 z h) := by
    unfold C4
    rw [List.getElem?_append_right (by rw [List.length_map]; exact Nat.le_refl _), List.length_map, Nat.sub_self]; rfl
  rw [V4 e1, V4 e2]
  unfold K5 A9 J1 G7
  simp only [E6, T1, a2L, List.length_append, List.length_map, List.length_replicate]
  by_cases h1 : j < h.1.length
  . rw [if_pos (by lia), if_pos h1, if_pos (by lia), if_pos h1, if_pos (by lia), if_pos h1]; lia
  . by_cases h2 : j < h.1.length + h.2.length
    . rw [if_pos h2, if_neg h1, if_pos h2, if_neg h1, if_pos h2, if_neg h1, Int.add_zero]
    . rw [if_neg h2, if_neg h2, if_neg h2, Int.add_zero]
section
variable {P : Program} {w : World} {K : W.Frag} {mg : Str -> Option Value} {base : Heap} {f Pt d CN : Addr} {fd : FuncData} {n : Nat} {C : Addr}
structure a3H (P : Program) (w : World) (K : W.Frag) (mg : Str -> Option Value) (base : Heap) (n : Nat) (x : Str) (ps : List Str) (sp : Sp) (fa : Addr) (d : FuncData) : Prop where
  ok : FnOk P w K mg base (CX1 P w) n fa d ps sp
  b : Binds K d ps []
  k : W.keepIn K (.ref fa) = true
  m : mg x = some (.ref fa)
abbrev mE (hs : List i8) : Nat := hs.length + 1
abbrev qE (z : Str) (h : i8) : Nat := h.1.length + h.2.length + (Q6 z).length
structure N1 (K : W.Frag) (H : Hp) (ba : Addr) (xs : List V) (hs : List i8) (far : Int) (kt kg : Nat) : Prop where
  l : SqL K H ba xs
  b : Bk K H xs hs
  g : ∀ h ∈ hs, HG far kt kg h
  far : far <= 2 ^ 60
  few : hs.length <= 16
  t : kt <= 20
  k : kg <= 20
def Best (z : Str) (hs : List i8) (h : i8) (S : Lp.Bo) : Prop := OfE z hs h S /\ (∀ j, j < qE z h -> ¬ S.T (mE hs) j < 0) /\ Sz 4000 (mE hs) (qE z h) S
def a2a (K : W.Frag) (CN Pt : Addr) : Sp := fun vs H Q E => ∃ (ba : Addr) (xs : List V) (hs : List i8) (number : Int) (z : Str) (far : Int) (kt kg : Nat), vs = [.ref ba, .int number, .str z] /\ V6 z /\ N1 K H ba xs hs far kt kg /\ number.natAbs.log2 < 1920 /\ LT Pt H ∧
  (∀ (i : Nat) (h : i8) (S : Lp.Bo) (H' : Hp) (u : V), number = (i : Int) -> hs[i]? = some h -> Best z hs h S -> Same1 Pt H H' -> LT Pt H' -> FrT H' u (low (S.T (mE hs) (qE z h)) S.d) -> Q u H') /\ (¬ a5j xs.length number -> E (.ref CN) none H)
theorem a4Q {z : Str} {hs : List i8} {h : i8} {S : Lp.Bo} (B : Best z hs h S) : 0 < S.d /\ S.d < 2 ^ 8000 := by
  refine ⟨B.1.w.pos, ?_⟩
  have h1 : S.d.natAbs < 2 ^ 4000 := B.2.2.2
  have h2 : (2 : Nat) ^ 4000 <= 2 ^ 8000 := Nat.pow_le_pow_right (by decide) (by decide)
  have h3 : S.d = (S.d.natAbs : Int) := by have := B.1.w.pos; lia
  rw [h3]
  exact_mod_cast Nat.lt_of_lt_of_le h1 h2
theorem a7P {m q : Nat} {A : Nat -> Nat -> Int} {b c : Nat -> Int} {S : Lp.Bo} (O : Lp.Of m q A b c S) (sz : Sz 4000 m q S) {v : Nat} (hv : v < q) : Big 4000 (Lp.valIn m S q v) := by
  have hv' : v < q + m := by lia
  rcases O.w.all v hv' with ⟨i, hi, e⟩ | ⟨j, hj, e⟩
  . have : Lp.valIn m S q v = S.T i q := by
      unfold Lp.valIn
      rw [Lp.sum_one hi fun k hk hn => if_neg fun z => hn (O.w.ii k i hk hi (z.trans e.symm)), if_pos e]
    rw [this]
    exact sz.1 i q (by lia) (by lia)
  . have : Lp.valIn m S q v = 0 := Lp.sum_zero fun k hk => if_neg fun z => O.w.io k j hk hj (z.trans e.symm)
    rw [this]
    show (0 : Int).natAbs < 2 ^ 4000
    exact Nat.pow_pos (by decide)
def Z9 (K : W.Frag) (Pt : Addr) : Sp := fun vs H Q _ => ∃ (ba : Addr) (hv : V) (xs : List V) (hs : List i8) (h : i8) (z : Str) (far : Int) (kt kg : Nat), vs = [.ref ba, hv, .str z] /\ V6 z /\ N1 K H ba xs hs far kt kg /\ HS K H hv h /\ HG far kt kg h /\ LT Pt H ∧
  (∀ (S : Lp.Bo) (H' : Hp) (u : V), Best z hs h S -> Same1 Pt H H' -> LT Pt H' -> FrT H' u (low (S.T (mE hs) (qE z h)) S.d) -> Q u H') ∧
  ∀ (S : Lp.Bo) (H' : Hp) (c : Nat), OfE z hs h S -> c < qE z h -> S.T (mE hs) c < 0 -> (∀ i, i < mE hs -> ¬ 0 < S.T i c) -> Same1 Pt H H' -> LT Pt H' -> Q .non H'
set_option maxHeartbeats 8000000 in
theorem a8O {f2 f3 : Addr} {d2 d3 : FuncData} (F : Fun K "held_against" "held_against" a6G f fd) (Ce : a1k P w K mg base n "greatest_earned" ["houses", "house", "sizes"] (a3h K Pt) f2 d2)
    (Cl : Cal P w K mg base n "lowest" ["top", "bottom"] a9a f3 d3) : FnOk P w K mg base G8 (n + 1) f fd ["houses", "house", "sizes"] (Z9 K Pt) := by
  refine F.ok scHa (fun vs H Q E h => ?_) (fun cdv A outer s H vs Q E hr h => ?_)
  . obtain ⟨ba, hv, xs, hs, h, z, far, kt, kg, rfl, _⟩ := h
    rfl
  obtain ⟨ba, hv, xs, hs, h, z, far, kt, kg, rfl, hz, B, hH, gh, L, kG, kN⟩ := h
  refine ⟨_, j0 (l0 (i := 3) scHa.nd rfl (Or.inl rfl) (m8 Ce.ok hr rfl Ce.m Ce.k Ce.b .nil v8 (c5 (pv 0) (c5 (pv 1) (c5 (pv 2) c7)))))
    (j0 (A5 (r8 a2s (pv 3) N3 (r6 _)) (j4 (t7 N3)) t0)
    (j0 (J3 (pv 3) (X4 rfl (v6 (m9 (i := 4) scHa.nd rfl (Or.inl rfl)) (v6 (m9 (i := 5) scHa.nd rfl (Or.inl rfl)) (v6 (m9 (i := 6) scHa.nd rfl (Or.inl rfl)) (v6 (m9 (i := 7) scHa.nd rfl (Or.inl rfl)) J4))))))
    (j4 (t7 (m8 Cl.ok hr rfl Cl.m Cl.k Cl.b .nil v8 (c5 (pv 4) (c5 (pv 7) c7))))))), ?_⟩
  refine ⟨_, rfl, _, rfl, _, rfl, ba, hv, xs, hs, h, z, far, kt, kg, mE hs, qE z h, rfl, hz, B.l, B.b, hH, gh, B.g, B.far, B.few, B.t, B.k, rfl, rfl, L, fun S H' t aa wa O hn sz e' L' g1 g2 g3 => ?_, fun S H' c O hc hneg hno e' L' => ?_⟩
  . have Bs : Best z hs h S := ⟨O, hn, sz⟩
    obtain ⟨b1, b2⟩ := a4Q Bs
    refine ⟨_, rfl, rfl, _, rfl, N5 ?_⟩
    refine ⟨_, rfl, t, _, rfl, SqT.of g1, rfl, _, _, rfl, _, _, rfl, _, _, rfl, _, _, rfl, rfl, ?_⟩
    exact ⟨_, rfl, _, rfl, _, _, rfl, b1, b2, fun u H2 e2 hu => kG S H2 u Bs (fun b o hb q' => e2 _ _ (e' b o hb q')) (L'.same e2) hu⟩
  . refine ⟨_, rfl, rfl, _, rfl, a2D ?_⟩
    exact kN S H' c O hc hneg hno e' L'
set_option maxHeartbeats 8000000 in
theorem a7y {f1 f2 : Addr} {d1 d2 : FuncData} (F : Fun K "share" "share" a3s f fd) (Ch : a3H P w K mg base n "house_of" ["book", "number"] (a4M K CN) f1 d1) (Ce : a1k P w K mg base n "held_against" ["houses", "house", "sizes"] (Z9 K Pt) f2 d2) : FnOk P w K mg base (CX1 P w) (n + 1) f fd ["book", "number", "sizes"] (a2a K CN Pt) := by
  refine F.ok1 b2a (fun vs H Q E h => ?_) (fun cdv A outer s H vs Q E hr h => ?_)
  . obtain ⟨ba, xs, hs, number, z, far, kt, kg, rfl, _⟩ := h
    rfl
  obtain ⟨ba, xs, hs, number, z, far, kt, kg, rfl, hz, B, lm, L, kG, kE⟩ := h
  refine ⟨_, j4 (t7 (m8 Ce.ok hr rfl Ce.m Ce.k Ce.b .nil v8 (c5 (pv 0) (c5 (m8 Ch.ok hr rfl Ch.m Ch.k Ch.b .nil a4O (c5 (pv 0) (c5 (pv 1) c7))) (c5 (pv 2) c7))))), ?_⟩
  refine ⟨_, rfl, _, rfl, _, rfl, ba, xs, number, rfl, B.l, lm, fun i hv hi hx => ?_, kE⟩
  obtain ⟨h, hh, hH⟩ := Paired.at B.b hx
  have gh := B.g h (List.mem_of_getElem? hh)
  refine ⟨_, rfl, ba, hv, xs, hs, h, z, far, kt, kg, rfl, hz, B, hH, gh, L, fun S H' u Bs e' L' hu => kG i h S H' u hi hh Bs e' L' hu, fun S H' c O hc hneg hno e' L' => (O.bounded (i0 := i) (l := hs.length) (by have := (List.getElem?_eq_some_iff.mp hh).1; lia) (by lia) (fun j _ => a6h hh j) hc hneg hno).elim⟩
end
end Rim
namespace L2
open PySem
theorem Big.mono {n m : Nat} {i : Int} (h : Big n i) (hn : n <= m) : Big m i := Rim.Big.mono h hn
theorem Big.mul {n m : Nat} {i j : Int} (h : Big n i) (k : Big m j) : Big (n + m) (i * j) := Rim.Big.mul h k
end L2
namespace Fr
theorem a8P {x D : Int} (hD : 0 < D) : (low x D).2 ∣ D := ⟨gI x D, by rw [Int.mul_comm]; exact (M5 (t := x) hD).2⟩
theorem a9L {t b : Int} (hb : 0 < b) : (low t b).2 <= b := Int.le_of_dvd hb (a8P hb)
end Fr
namespace Rim
open PySem L2 Fr
section
variable {P : Program} {w : World} {K : W.Frag} {mg : Str -> Option Value} {base : Heap} {f : Addr} {fd : FuncData} {n : Nat}
end
end Rim
namespace Rim
open PySem L2 Fr
theorem a3T {a b c : Int} (hc : 0 < c) : a * c < b * c ↔ a < b := ⟨fun h => Int.lt_of_mul_lt_mul_right h (Int.le_of_lt hc), fun h => Int.mul_lt_mul_of_pos_right h hc⟩
theorem a6p {a b D E : Int} (hD : 0 < D) (hE : 0 < E) : (low a D).1 * (low b E).2 < (low b E).1 * (low a D).2 ↔ a * E < b * D := by
  obtain ⟨a1, a2⟩ := M5 (t := a) hD
  obtain ⟨b1, b2⟩ := M5 (t := b) hE
  have ga := Z6 (a := a) hD
  have gb := Z6 (a := b) hE
  have hc : 0 < gI a D * gI b E := Int.mul_pos ga gb
  rw [<- a3T hc]
  have e1 : (low a D).1 * (low b E).2 * (gI a D * gI b E) = a * E := by
    rw [Int.mul_comm (gI a D)]
    calc (low a D).1 * (low b E).2 * (gI b E * gI a D) = (gI a D * (low a D).1) * (gI b E * (low b E).2) := by ac_rfl
      _ = a * E := by rw [<- a1, <- b2]
  have e2 : (low b E).1 * (low a D).2 * (gI a D * gI b E) = b * D := by
    calc (low b E).1 * (low a D).2 * (gI a D * gI b E) = (gI b E * (low b E).1) * (gI a D * (low a D).2) := by ac_rfl
      _ = b * D := by rw [<- b1, <- a2]
  rw [e1, e2]
section
variable {P : Program} {w : World} {K : W.Frag} {mg : Str -> Option Value} {base : Heap} {f : Addr} {fd : FuncData} {n : Nat}
def a2A (z : Str) (s D : Int) : Prop := ((z = "one" \/ z = "less") -> s <= D) /\ ((z = "one" \/ z = "more") -> D <= s)
theorem a8V : ∀ {ws : List Int} {m : Nat}, (∀ x ∈ ws, Big m x) -> ws.length <= 200 -> Big (m + 200) ws.sum := fun {ws m} h hl => by
  have key : ∀ l : List Int, (∀ x ∈ l, Big m x) -> l.sum.natAbs <= l.length * 2 ^ m := fun l => by
    induction l with
    | nil => intro _; exact Nat.zero_le _
    | cons x r ih =>
      intro h
      have h1 : x.natAbs < 2 ^ m := h x List.mem_cons_self
      have h2 := ih fun y hy => h y (List.mem_cons_of_mem _ hy)
      have h3 := Int.natAbs_add_le x r.sum
      rw [List.sum_cons, List.length_cons, Nat.succ_mul]
      lia
  have h1 := key ws h
  have h2 : ws.length * 2 ^ m <= 200 * 2 ^ m := Nat.mul_le_mul_right _ hl
  have h3 : 200 * 2 ^ m < 2 ^ (m + 200) := by
    rw [Nat.pow_add, Nat.mul_comm]
    exact Nat.mul_lt_mul_of_pos_left (by decide) (Nat.pow_pos (by decide))
  exact Nat.lt_of_le_of_lt (Nat.le_trans h1 h2) h3
end
end Rim
namespace Rim
open PySem L2 Fr
def col (rows : List (List Int)) (i : Nat) : List Int := rows.map fun r => r.getD i 0
section
variable {P : Program} {w : World} {K : W.Frag} {mg : Str -> Option Value} {base : Heap} {f g : Addr} {fd gd : FuncData} {n : Nat}
def R1 (j : Nat) (h : i8) : List Int := if j = 0 then h.1 else h.2
end
end Rim
namespace L2
open PySem PySem.Spec PyProof.Rows
section
variable {xs ys : List V} {K : W.Frag} {l1 l2 : Addr} {σ : St}
end
end L2
namespace Rim
open PySem L2 Fr
section
variable {P : Program} {w : World} {K : W.Frag} {mg : Str -> Option Value} {base : Heap} {f : Addr} {fd : FuncData} {n : Nat}
def E9 (hs : List i8) (ws : List Int) (j i : Nat) : Int := (List.zipWith (· * ·) (col (hs.map (R1 j)) i) ws).sum
end
end Rim
namespace Rim
open PySem L2 Fr
theorem a6v {a b : Nat} : ∀ {ns ws : List Int}, (∀ x ∈ ns, Big a x) -> (∀ x ∈ ws, Big b x) -> ∀ x ∈ List.zipWith (· * ·) ns ws, Big (a + b) x
  | [], _, _, _, x, hx => by simp at hx
  | _ :: _, [], _, _, x, hx => by simp at hx
  | n :: ns, w :: ws, h1, h2, x, hx => by
    rw [List.zipWith_cons_cons] at hx
    rcases List.mem_cons.mp hx with e | e
    . rw [e]; exact (h1 n List.mem_cons_self).mul (h2 w List.mem_cons_self)
    . exact a6v (fun y hy => h1 y (List.mem_cons_of_mem _ hy)) (fun y hy => h2 y (List.mem_cons_of_mem _ hy)) x e
section
variable {P : Program} {w : World} {K : W.Frag} {mg : Str -> Option Value} {base : Heap} {f : Addr} {fd : FuncData} {n : Nat}
end
end Rim
namespace Rim
open PySem L2 Fr
theorem a2c : ∀ {xs ys : List Int} {a b : Int}, xs.length = ys.length -> (List.zipWith (· * ·) (xs ++ [a]) (ys ++ [b])).sum = (List.zipWith (· * ·) xs ys).sum + a * b
  | [], [], a, b, _ => by simp
  | x :: xs, y :: ys, a, b, h => by
    rw [List.cons_append, List.cons_append, List.zipWith_cons_cons, List.zipWith_cons_cons, List.sum_cons, List.sum_cons, a2c (by simpa using h), Int.add_assoc]
section
variable {P : Program} {w : World} {K : W.Frag} {mg : Str -> Option Value} {base : Heap} {f : Addr} {fd : FuncData} {n : Nat}
structure PrN (pt pg : List Int) (ps D : Int) (kt kg : Nat) : Prop where
  lt : pt.length = kt
  lg : pg.length = kg
  bt : ∀ x ∈ pt, 0 <= x /\ Big 5000 x
  bg : ∀ x ∈ pg, 0 <= x /\ Big 5000 x
  bs : Big 5000 ps
  d : 0 < D
  d2 : D < 2 ^ 4000
def L0 (h : i8) (pg : List Int) (ps : Int) : Int := (List.zipWith (· * ·) h.2 pg).sum + ps
def pay (h : i8) (pt : List Int) : Int := (List.zipWith (· * ·) h.1 pt).sum
end
end Rim
namespace Rim
open PySem L2 Fr
section
variable {P : Program} {w : World} {K : W.Frag} {mg : Str -> Option Value} {base : Heap} {f : Addr} {fd : FuncData} {n : Nat}
def a0T (z : Str) (ps : Int) : Prop := ((z = "any" \/ z = "less") -> ps <= 0) /\ ((z = "any" \/ z = "more") -> 0 <= ps)
end
end Rim
namespace Rim
open PySem L2 Fr
mutual
theorem O7 : ∀ d : PyData, d.canLay0 = true -> PyData.eqv d d = true
  | .none, _ => by rw [PyData.eqv]
  | .bool b, _ => by rw [PyData.eqv]; simp
  | .int i, _ => by rw [PyData.eqv]; simp
  | .str x, _ => by rw [PyData.eqv]; simp
  | .list xs, h => by rw [PyData.eqv]; exact S3 xs (by rw [PyData.canLay0] at h; exact h)
  | .tuple xs, h => by rw [PyData.eqv]; exact S3 xs (by rw [PyData.canLay0] at h; exact h)
  | .dict kvs, h => by rw [PyData.canLay0] at h; cases h
theorem S3 : ∀ ds : List PyData, PyData.canLayAll0 ds = true -> PyData.eqvAll ds ds = true
  | [], _ => by rw [PyData.eqvAll]
  | d :: r, h => by
    rw [PyData.canLayAll0, Bool.and_eq_true] at h
    rw [PyData.eqvAll, O7 d h.1, S3 r h.2]; rfl
end
def dF (x : Q2) : PyData := .tuple [.int x.1, .int x.2]
theorem FrV.dp {K : W.Frag} {H : Hp} {v : V} {x : Q2} (h : FrV K H v x) : Dp K H v (dF x) := by
  obtain ⟨a, rfl, q⟩ := h
  exact .tup q (.cons (.int _) (.cons (.int _) .nil))
theorem a9g (x : Q2) : (dF x).canLay0 = true := by
  unfold dF
  rw [PyData.canLay0, PyData.canLayAll0, PyData.canLay0, PyData.canLayAll0, PyData.canLay0, PyData.canLayAll0]; rfl
theorem a9s (x : Q2) : (dF x).depth <= 60 := by
  unfold dF
  simp [PyData.depth, PyData.depthAll]
section
variable {P : Program} {w : World} {K : W.Frag} {mg : Str -> Option Value} {base : Heap} {f : Addr} {fd : FuncData} {n : Nat}
end
end Rim
namespace Rim
open PySem L2 Fr
section
variable {P : Program} {w : World} {K : W.Frag} {mg : Str -> Option Value} {base : Heap} {f : Addr} {fd : FuncData} {n : Nat}
end
end Rim
namespace Lp
section
variable {m q : Nat} {A : Nat -> Nat -> Int} {b c : Nat -> Int} {S S' : Bo}
theorem a3t {g h : Nat -> Int} : ∀ {n : Nat}, (∀ k, k < n -> g k <= h k) -> sumTo g n <= sumTo h n
  | 0, _ => Int.le_refl _
  | n + 1, e => Int.add_le_add (a3t fun k hk => e k (by lia)) (e n (by lia))
theorem a4R {g h : Nat -> Int} : ∀ n : Nat, sumTo (fun k => g k - h k) n = sumTo g n - sumTo h n
  | 0 => rfl
  | n + 1 => by
    show sumTo (fun k => g k - h k) n + (g n - h n) = (sumTo g n + g n) - (sumTo h n + h n)
    rw [a4R n]; lia
theorem Of.slack (O : Of m q A b c S) (hn : ∀ j, j < q -> ¬ S.T m j < 0) {l : Nat} (hl : l < m) (hw : 0 < valOut m q S (q + l)) : sumTo (fun j => A l j * valIn m S q j) q = b l * S.d := by
  obtain ⟨p1, p2⟩ := O.primal
  have nn : ∀ v, 0 <= valOut m q S v := Of.valOut_nn fun j hj => by have := hn j hj; lia
  have nx := O.valIn_nn
  by_cases h0 : valIn m S q (q + l) = 0
  . have := p1 l hl
    lia
  . exfalso
    have hp : 0 < valIn m S q (q + l) := by have := nx (q + l); lia
    obtain ⟨D1, D2⟩ := O.dual
    -- the rows at the amounts, weighed
    have e1 : S.d * sumTo (fun j => c j * valIn m S q j) q <= sumTo (fun i => valOut m q S (q + i) * sumTo (fun j => A i j * valIn m S q j) q) m := by
      have x1 : S.d * sumTo (fun j => c j * valIn m S q j) q = sumTo (fun j => sumTo (fun i => A i j * valOut m q S (q + i)) m * valIn m S q j - valOut m q S j * valIn m S q j) q := by
        rw [<- C6]
        refine sum_congr fun j hj => ?_
        rw [D1 j hj, Int.add_mul, Int.add_sub_cancel, Int.mul_comm (c j) S.d, Int.mul_assoc]
      have x2 : sumTo (fun j => sumTo (fun i => A i j * valOut m q S (q + i)) m * valIn m S q j - valOut m q S j * valIn m S q j) q <= sumTo (fun j => sumTo (fun i => valOut m q S (q + i) * (A i j * valIn m S q j)) m) q := by
        refine a3t fun j hj => ?_
        have y := Int.mul_nonneg (nn j) (nx j)
        have z : sumTo (fun i => A i j * valOut m q S (q + i)) m * valIn m S q j = sumTo (fun i => valOut m q S (q + i) * (A i j * valIn m S q j)) m := by
          rw [Int.mul_comm, <- C6]
          refine sum_congr fun i hi => ?_
          ac_rfl
        lia
      rw [Y1] at x2
      have x3 : sumTo (fun i => sumTo (fun j => valOut m q S (q + i) * (A i j * valIn m S q j)) q) m = sumTo (fun i => valOut m q S (q + i) * sumTo (fun j => A i j * valIn m S q j) q) m := sum_congr fun i hi => by rw [C6]
      rw [x1, <- x3]; exact x2
    have e2 : sumTo (fun i => valOut m q S (q + i) * sumTo (fun j => A i j * valIn m S q j) q) m <= sumTo (fun i => S.d * (b i * valOut m q S (q + i)) - (if i = l then valOut m q S (q + l) * valIn m S q (q + l) else 0)) m := by
      refine a3t fun i hi => ?_
      have y := p1 i hi
      have z := Int.mul_nonneg (nn (q + i)) (nx (q + i))
      have ez : valOut m q S (q + i) * sumTo (fun j => A i j * valIn m S q j) q = S.d * (b i * valOut m q S (q + i)) - valOut m q S (q + i) * valIn m S q (q + i) := by
        have : sumTo (fun j => A i j * valIn m S q j) q = b i * S.d - valIn m S q (q + i) := by lia
        rw [this, Int.mul_sub]
        congr 1
        ac_rfl
      rw [ez]
      by_cases hil : i = l
      . subst hil
        rw [if_pos rfl]; exact Int.le_refl _
      . rw [if_neg hil]; lia
    have e3 : sumTo (fun i => S.d * (b i * valOut m q S (q + i)) - (if i = l then valOut m q S (q + l) * valIn m S q (q + l) else 0)) m = S.d * S.T m q - valOut m q S (q + l) * valIn m S q (q + l) := by
      rw [a4R, C6, D2, sum_one hl fun i hi hne => if_neg hne, if_pos rfl]
    rw [p2] at e1
    have := Int.mul_pos hw hp
    lia
end
end Lp
namespace Rim
open PySem L2 Fr
abbrev v4 (l x : List Int) : Int := (List.zipWith (· * ·) l x).sum
theorem a1U : ∀ (l r x : List Int), v4 (l ++ r) x = v4 l (x.take l.length) + v4 r (x.drop l.length)
  | [], r, x => by simp [v4]
  | a :: l, r, [] => by simp [v4]
  | a :: l, r, y :: x => by
    have := a1U l r x
    unfold v4 at *
    rw [List.cons_append, List.zipWith_cons_cons, List.sum_cons, this, List.length_cons, List.take_succ_cons, List.drop_succ_cons, List.zipWith_cons_cons, List.sum_cons]
    lia
theorem a1P : ∀ (l x : List Int), v4 (l.map fun y => -y) x = - v4 l x
  | [], x => by simp [v4]
  | a :: l, [] => by simp [v4]
  | a :: l, y :: x => by
    have := a1P l x
    unfold v4 at *
    rw [List.map_cons, List.zipWith_cons_cons, List.sum_cons, this, List.zipWith_cons_cons, List.sum_cons, Int.neg_mul]
    lia
theorem U7 : ∀ (k : Nat) (x : List Int), v4 (List.replicate k 0) x = 0
  | 0, x => by simp [v4]
  | k + 1, [] => by simp [v4]
  | k + 1, y :: x => by
    have := U7 k x
    unfold v4 at *
    rw [List.replicate_succ, List.zipWith_cons_cons, List.sum_cons, this]; lia
theorem E7 : ∀ (l x : List Int), v4 l x = v4 x l
  | [], x => by simp [v4]
  | a :: l, [] => by simp [v4]
  | a :: l, y :: x => by
    have := E7 l x
    unfold v4 at *
    rw [List.zipWith_cons_cons, List.sum_cons, this, List.zipWith_cons_cons, List.sum_cons, Int.mul_comm]
theorem a6Y : ∀ {l x : List Int}, (∀ y ∈ l, 0 <= y) -> (∀ y ∈ x, 0 <= y) -> 0 <= v4 l x
  | [], x, _, _ => by simp [v4]
  | a :: l, [], _, _ => by simp [v4]
  | a :: l, y :: x, h1, h2 => by
    have := a6Y (l := l) (x := x) (fun z hz => h1 z (.tail _ hz)) (fun z hz => h2 z (.tail _ hz))
    unfold v4 at *
    rw [List.zipWith_cons_cons, List.sum_cons]
    have := Int.mul_nonneg (h1 a (.head _)) (h2 y (.head _))
    lia
theorem G9 : ∀ (n : Nat) (l x : List Int), l.length = n -> x.length = n -> Lp.sumTo (fun j => l.getD j 0 * x.getD j 0) n = v4 l x
  | 0, l, x, h1, h2 => by
    rw [List.eq_nil_of_length_eq_zero h1]; simp [v4, Lp.sumTo]
  | n + 1, l, x, h1, h2 => by
    obtain ⟨l', a, rfl⟩ : ∃ l' a, l = l' ++ [a] := ⟨l.dropLast, l.getLast (by intro z; rw [z] at h1; cases h1), (List.dropLast_concat_getLast _).symm⟩
    obtain ⟨x', b, rfl⟩ : ∃ l' a, x = l' ++ [a] := ⟨x.dropLast, x.getLast (by intro z; rw [z] at h2; cases h2), (List.dropLast_concat_getLast _).symm⟩
    have l1 : l'.length = n := by simpa using h1
    have l2 : x'.length = n := by simpa using h2
    show Lp.sumTo _ n + _ = _
    have e : Lp.sumTo (fun j => (l' ++ [a]).getD j 0 * (x' ++ [b]).getD j 0) n = Lp.sumTo (fun j => l'.getD j 0 * x'.getD j 0) n := Lp.sum_congr fun j hj => by
      rw [E6, E6, if_pos (by lia), if_pos (by lia)]
    rw [e, G9 n l' x' l1 l2]
    show _ = (List.zipWith (· * ·) (l' ++ [a]) (x' ++ [b])).sum
    rw [a2c (by lia)]
    show v4 l' x' + (l' ++ [a]).getD n 0 * (x' ++ [b]).getD n 0 = _
    rw [E6, E6, if_neg (by lia), if_neg (by lia), l1, l2, Nat.sub_self]; rfl
theorem P3 {n : Nat} {F : Nat -> Int} {j : Nat} (h : j < n) : ((List.range n).map F).getD j 0 = F j := by
  rw [List.getD_eq_getElem?_getD, List.getElem?_map, List.getElem?_range h]; rfl
theorem a1j : ∀ {l x : List Int}, (∀ y ∈ l, 0 <= y) -> (∀ y ∈ x, 0 <= y) -> 0 < v4 l x -> ∃ j, j < x.length /\ 0 < x.getD j 0
  | [], x, _, _, h => by simp [v4] at h
  | a :: l, [], _, _, h => by simp [v4] at h
  | a :: l, y :: x, h1, h2, h => by
    by_cases hy : 0 < y
    . exact ⟨0, by simp, by simpa using hy⟩
    . have y0 : y = 0 := by have := h2 y (.head _); lia
      subst y0
      have h' : 0 < v4 l x := by
        unfold v4 at *
        rw [List.zipWith_cons_cons, List.sum_cons] at h; lia
      obtain ⟨j, hj, hp⟩ := a1j (fun z hz => h1 z (.tail _ hz)) (fun z hz => h2 z (.tail _ hz)) h'
      exact ⟨j + 1, by simp; lia, by simpa using hp⟩
theorem a1f : ∀ {l x : List Int}, (∀ y ∈ l, 0 < y) -> (∀ y ∈ x, 0 <= y) -> l.length = x.length -> (∃ j, j < x.length /\ 0 < x.getD j 0) -> 0 < v4 l x
  | [], [], _, _, _, ⟨j, hj, _⟩ => by simp at hj
  | a :: l, y :: x, h1, h2, hl, ⟨j, hj, hp⟩ => by
    have nn : 0 <= v4 l x := a6Y (fun z hz => Int.le_of_lt (h1 z (.tail _ hz))) (fun z hz => h2 z (.tail _ hz))
    have ya := Int.mul_nonneg (Int.le_of_lt (h1 a (.head _))) (h2 y (.head _))
    cases j with
    | zero =>
      have : 0 < a * y := Int.mul_pos (h1 a (.head _)) (by simpa using hp)
      unfold v4 at *
      rw [List.zipWith_cons_cons, List.sum_cons]; lia
    | succ j =>
      have := a1f (l := l) (x := x) (fun z hz => h1 z (.tail _ hz)) (fun z hz => h2 z (.tail _ hz)) (by simpa using hl) ⟨j, by simpa using hj, by simpa using hp⟩
      unfold v4 at *
      rw [List.zipWith_cons_cons, List.sum_cons]; lia
  | [], _ :: _, _, _, hl, _ => by simp at hl
  | _ :: _, [], _, _, hl, _ => by simp at hl
theorem a7W {m q : Nat} {A : Nat -> Nat -> Int} {b c : Nat -> Int} {S : Lp.Bo} (O : Lp.Of m q A b c S) (sz : Sz 4000 m q S) {v : Nat} (hv : v < q + m) : Big 4000 (Lp.valOut m q S v) := by
  rcases O.w.all v hv with ⟨i, hi, e⟩ | ⟨j, hj, e⟩
  . have : Lp.valOut m q S v = 0 := Lp.sum_zero fun k hk => if_neg fun z => O.w.io i k hi hk (e.trans z.symm)
    rw [this]
    show (0 : Int).natAbs < 2 ^ 4000
    exact Nat.pow_pos (by decide)
  . have : Lp.valOut m q S v = S.T m j := by
      unfold Lp.valOut
      rw [Lp.sum_one hj fun k hk hn => if_neg fun z => hn (O.w.oo k j hk hj (z.trans e.symm)), if_pos e]
    rw [this]
    exact sz.1 m j (by lia) (by lia)
section
variable {m q : Nat} {rows : List (List Int)} {bnd goal : List Int} {S : Lp.Bo}
theorem a8Q (O : Lp.Of m q (S4 rows) (K5 bnd) (K5 goal) S) {i : Nat} {row : List Int} (hi : i < m) (hr : rows[i]? = some row) (hl : row.length = q) : v4 row (u9 m q S) <= bnd.getD i 0 * S.d := by
  have h := O.primal.1 i hi
  have nn := O.valIn_nn (q + i)
  have e : Lp.sumTo (fun j => S4 rows i j * Lp.valIn m S q j) q = v4 row (u9 m q S) := by
    rw [<- G9 q row (u9 m q S) hl (by unfold u9; simp)]
    refine Lp.sum_congr fun j hj => ?_
    rw [V4 hr]
    unfold u9
    rw [P3 hj]
  rw [e] at h
  show _ <= K5 bnd i * S.d
  lia
theorem a3y (O : Lp.Of m q (S4 rows) (K5 bnd) (K5 goal) S) (hn : ∀ j, j < q -> ¬ S.T m j < 0) {i : Nat} {row : List Int} (hi : i < m) (hr : rows[i]? = some row) (hl : row.length = q) (hw : 0 < Lp.valOut m q S (q + i)) : v4 row (u9 m q S) = bnd.getD i 0 * S.d := by
  have h := O.slack hn hi hw
  have e : Lp.sumTo (fun j => S4 rows i j * Lp.valIn m S q j) q = v4 row (u9 m q S) := by
    rw [<- G9 q row (u9 m q S) hl (by unfold u9; simp)]
    refine Lp.sum_congr fun j hj => ?_
    rw [V4 hr]
    unfold u9
    rw [P3 hj]
  rw [e] at h
  exact h
theorem a6f (O : Lp.Of m q (S4 rows) (K5 bnd) (K5 goal) S) (hl : goal.length = q) : v4 goal (u9 m q S) = S.T m q := by
  have h := O.primal.2
  have e : Lp.sumTo (fun j => K5 goal j * Lp.valIn m S q j) q = v4 goal (u9 m q S) := by
    rw [<- G9 q goal (u9 m q S) hl (by unfold u9; simp)]
    refine Lp.sum_congr fun j hj => ?_
    unfold u9
    rw [P3 hj]; rfl
  rw [e] at h
  exact h
theorem a2f (O : Lp.Of m q (S4 rows) (K5 bnd) (K5 goal) S) (hn : ∀ j, j < q -> ¬ S.T m j < 0) (hl : rows.length = m) {j : Nat} (hj : j < q) : goal.getD j 0 * S.d <= v4 (col rows j) (K2 m q S) := by
  have h := O.dual.1 j hj
  have nn : 0 <= Lp.valOut m q S j := Lp.Of.valOut_nn (fun j hj => by have := hn j hj; lia) j
  have e : Lp.sumTo (fun i => S4 rows i j * Lp.valOut m q S (q + i)) m = v4 (col rows j) (K2 m q S) := by
    rw [<- G9 m (col rows j) (K2 m q S) (by unfold col; rw [List.length_map]; exact hl) (by unfold K2; simp)]
    refine Lp.sum_congr fun i hi => ?_
    unfold K2
    rw [P3 hi]
    congr 1
    unfold S4 col
    rw [List.getD_eq_getElem?_getD (l := List.map _ rows), List.getElem?_map, List.getD_eq_getElem?_getD (l := rows), List.getElem?_eq_getElem (by lia)]; rfl
  rw [e] at h
  show K5 goal j * S.d <= _
  lia
theorem a7G (O : Lp.Of m q (S4 rows) (K5 bnd) (K5 goal) S) (hl : bnd.length = m) : v4 bnd (K2 m q S) = S.T m q := by
  have h := O.dual.2
  have e : Lp.sumTo (fun i => K5 bnd i * Lp.valOut m q S (q + i)) m = v4 bnd (K2 m q S) := by
    rw [<- G9 m bnd (K2 m q S) hl (by unfold K2; simp)]
    refine Lp.sum_congr fun i hi => ?_
    unfold K2
    rw [P3 hi]; rfl
  rw [e] at h
  exact h
theorem b0r (hn : ∀ j, j < q -> ¬ S.T m j < 0) : ∀ x ∈ K2 m q S, 0 <= x := fun x hx => by
  unfold K2 at hx
  obtain ⟨i, _, rfl⟩ := List.mem_map.mp hx
  exact Lp.Of.valOut_nn (fun j hj => by have := hn j hj; lia) _
theorem a8H {A : Nat -> Nat -> Int} {b c : Nat -> Int} (O : Lp.Of m q A b c S) : ∀ x ∈ u9 m q S, 0 <= x := fun x hx => by
  unfold u9 at hx
  obtain ⟨i, _, rfl⟩ := List.mem_map.mp hx
  exact O.valIn_nn i
theorem a5K : K2 (m + 1) q S = (K2 (m + 1) q S).take m ++ [Lp.valOut (m + 1) q S (q + m)] := by
  unfold K2
  rw [List.range_succ, List.map_append, List.take_left' (by simp)]; rfl
end
end Rim
namespace Rim
open PySem L2 Fr
theorem a9M (a b c xs : List Int) : v4 (a ++ b ++ c) xs = v4 a (xs.take a.length) + v4 b ((xs.drop a.length).take b.length) + v4 c (xs.drop (a.length + b.length)) := by
  rw [a1U (a ++ b) c xs, a1U a b, List.length_append, List.take_take, Nat.min_eq_left (by lia), List.drop_take, Nat.add_sub_cancel_left]
theorem X8 (a b c : List Int) (j : Nat) : (a ++ b ++ c).getD j 0 = if j < a.length then a.getD j 0 else if j < a.length + b.length then b.getD (j - a.length) 0 else c.getD (j - (a.length + b.length)) 0 := by
  rw [E6, List.length_append]
  by_cases h1 : j < a.length
  . rw [if_pos (by lia), if_pos h1, E6, if_pos h1]
  . by_cases h2 : j < a.length + b.length
    . rw [if_pos h2, if_neg h1, if_pos h2, E6, if_neg h1]
    . rw [if_neg h2, if_neg h1, if_neg h2]
abbrev ptA (h : i8) (xs : List Int) : List Int := xs.take h.1.length
abbrev pgA (h : i8) (xs : List Int) : List Int := (xs.drop h.1.length).take h.2.length
abbrev psA (z : Str) (h : i8) (xs : List Int) : Int := v4 (xs.drop (h.1.length + h.2.length)) (Q6 z)
theorem a4d {z : Str} {g h : i8} (h1 : g.1.length = h.1.length) (h2 : g.2.length = h.2.length) (xs : List Int) : v4 (A9 z g) xs = L0 g (pgA h xs) (psA z h xs) - pay g (ptA h xs) := by
  unfold A9 L0 pay
  rw [a9M, List.length_map, a1P, h1, h2, E7 (Q6 z)]
  dsimp only [v4, ptA, pgA, psA]
  lia
theorem a2S {z : Str} {h : i8} (xs : List Int) : v4 (J1 z h) xs = pay h (ptA h xs) := by
  unfold J1 pay
  rw [a9M, U7, U7]
  dsimp only [v4, ptA, pgA, psA]
  lia
theorem a3b {z : Str} {h : i8} (xs : List Int) : v4 (G7 z h) xs = L0 h (pgA h xs) (psA z h xs) := by
  unfold G7 L0
  rw [a9M, U7, List.length_replicate, E7 (Q6 z)]
  dsimp only [v4, ptA, pgA, psA]
  lia
theorem a6C (rows : List (List Int)) (r : List Int) (j : Nat) : col (rows ++ [r]) j = col rows j ++ [r.getD j 0] := by
  unfold col
  rw [List.map_append]; rfl
theorem a2J {a b : List Int} {x y : Int} (h : a.length = b.length) : v4 (a ++ [x]) (b ++ [y]) = v4 a b + x * y := a2c h
theorem T7 (s : Int) : ∀ (hs : List i8) (ws : List Int), hs.length = ws.length -> v4 (hs.map fun _ => s) ws = s * ws.sum
  | [], [], _ => by simp [v4]
  | _ :: hs, w :: ws, h => by
    have := T7 s hs ws (by simpa using h)
    unfold v4 at *
    rw [List.map_cons, List.zipWith_cons_cons, List.sum_cons, this, List.sum_cons, Int.mul_add]
  | [], _ :: _, h => by simp at h
  | _ :: _, [], h => by simp at h
section
variable {z : Str} {hs : List i8} {h : i8} {kt kg : Nat} (hk : ∀ g ∈ hs, g.1.length = kt /\ g.2.length = kg)
include hk
theorem a5C (ws : List Int) {j : Nat} (hj : j < kt) : v4 (col (hs.map (A9 z)) j) ws = - E9 hs ws 0 j := by
  have e : col (hs.map (A9 z)) j = (col (hs.map (R1 0)) j).map fun y => -y := by
    unfold col
    rw [List.map_map, List.map_map, List.map_map]
    refine List.map_congr_left fun g hg => ?_
    show (A9 z g).getD j 0 = - (R1 0 g).getD j 0
    have := hk g hg
    unfold A9
    rw [X8, List.length_map, if_pos (by lia), a2L]; rfl
  rw [e, a1P]; rfl
theorem a5M (ws : List Int) {j : Nat} (hj : j < kg) : v4 (col (hs.map (A9 z)) (kt + j)) ws = E9 hs ws 1 j := by
  have e : col (hs.map (A9 z)) (kt + j) = col (hs.map (R1 1)) j := by
    unfold col
    rw [List.map_map, List.map_map]
    refine List.map_congr_left fun g hg => ?_
    show (A9 z g).getD (kt + j) 0 = (R1 1 g).getD j 0
    have := hk g hg
    unfold A9
    rw [X8, List.length_map, if_neg (by lia), if_pos (by lia), this.1, Nat.add_sub_cancel_left]; rfl
  rw [e]; rfl
theorem a6A {ws : List Int} (hw : hs.length = ws.length) (t : Nat) : v4 (col (hs.map (A9 z)) (kt + kg + t)) ws = (Q6 z).getD t 0 * ws.sum := by
  have e : col (hs.map (A9 z)) (kt + kg + t) = hs.map fun _ => (Q6 z).getD t 0 := by
    unfold col
    rw [List.map_map]
    refine List.map_congr_left fun g hg => ?_
    show (A9 z g).getD (kt + kg + t) 0 = _
    have := hk g hg
    unfold A9
    rw [X8, List.length_map, if_neg (by lia), if_neg (by lia), this.1, this.2, Nat.add_sub_cancel_left]
  rw [e, T7 _ _ _ hw]
end
structure b2B (z : Str) (hs : List i8) (h : i8) (S : Lp.Bo) (kt kg : Nat) (ws : List Int) : Prop where
  lw : ws.length = hs.length
  nn : ∀ x ∈ ws, 0 <= x /\ Big 20000 x
  size : a2A z ws.sum S.d
  takes : ∀ j, j < kt -> E9 hs ws 0 j <= h.1.getD j 0 * S.T (mE hs) (qE z h)
  gives : ∀ j, j < kg -> h.2.getD j 0 * S.d <= E9 hs ws 1 j
  pos : 0 < S.T (mE hs) (qE z h)
  le : h ∈ hs -> S.T (mE hs) (qE z h) <= S.d
  fair : ∀ g ∈ hs, L0 g (pgA h (u9 (mE hs) (qE z h) S)) (psA z h (u9 (mE hs) (qE z h) S)) <= pay g (ptA h (u9 (mE hs) (qE z h) S))
  pays : pay h (ptA h (u9 (mE hs) (qE z h) S)) = S.d
  earns : L0 h (pgA h (u9 (mE hs) (qE z h) S)) (psA z h (u9 (mE hs) (qE z h) S)) = S.T (mE hs) (qE z h)
  pr : PrN (ptA h (u9 (mE hs) (qE z h) S)) (pgA h (u9 (mE hs) (qE z h) S)) (psA z h (u9 (mE hs) (qE z h) S)) S.d kt kg
  sign : a0T z (psA z h (u9 (mE hs) (qE z h) S))
theorem a4G {z : Str} {xs : List Int} (hz : V6 z) (nn : ∀ x ∈ xs, 0 <= x) : a0T z (v4 xs (Q6 z)) := by
  rcases hz with rfl | rfl | rfl | rfl
  . have : v4 xs (Q6 "any") = 0 := by show (List.zipWith _ xs []).sum = 0; simp
    rw [this]; exact ⟨fun _ => Int.le_refl _, fun _ => Int.le_refl _⟩
  . exact ⟨fun h => absurd h (by decide), fun h => absurd h (by decide)⟩
  . refine ⟨fun _ => ?_, fun h => absurd h (by decide)⟩
    show (List.zipWith _ xs [-1]).sum <= 0
    cases xs with
    | nil => simp
    | cons x r => have := nn x (.head _); simp; lia
  . refine ⟨fun h => absurd h (by decide), fun _ => ?_⟩
    show 0 <= (List.zipWith _ xs [1]).sum
    cases xs with
    | nil => simp
    | cons x r => have := nn x (.head _); simp; lia
theorem a6m {z : Str} {xs : List Int} (h : ∀ x ∈ xs, Big 4000 x) (hl : xs.length <= 200) : Big 5000 (v4 xs (Q6 z)) := by
  have : ∀ y ∈ Q6 z, Big 100 y := fun y hy => Nat.lt_of_le_of_lt (a2j z y hy) (Nat.pow_lt_pow_right (by decide) (by decide))
  exact (a8V (a6v h this) (by rw [List.length_zipWith]; lia)).mono (by decide)
theorem a4Y {z : Str} {hs : List i8} {h : i8} {S : Lp.Bo} {far : Int} {kt kg : Nat} (hz : V6 z) (B : Best z hs h S) (hG : ∀ g ∈ hs, HG far kt kg g) (gh : HG far kt kg h) (kt1 : 1 <= kt) (kt4 : kt <= 20) (kg4 : kg <= 20) :
    b2B z hs h S kt kg ((K2 (mE hs) (qE z h) S).take hs.length) := by
  obtain ⟨O, hn, sz⟩ := B
  have hk : ∀ g ∈ hs, g.1.length = kt /\ g.2.length = kg := fun g hg => ⟨(hG g hg).lt, (hG g hg).lg⟩
  have sg := a2t z
  generalize hm : mE hs = m at *
  generalize hq : qE z h = q at *
  have hm' : m = hs.length + 1 := hm.symm
  have hq' : q = kt + kg + (Q6 z).length := by rw [<- hq]; show h.1.length + h.2.length + _ = _; rw [gh.lt, gh.lg]
  replace O : Lp.Of m q (S4 (C4 z hs h)) (K5 (W6 hs)) (K5 (G7 z h)) S := by rw [hm', <- hq]; exact O
  have lr : (C4 z hs h).length = m := by unfold C4; simp [hm']
  have lrow : ∀ g ∈ hs, (A9 z g).length = q := fun g hg => by unfold A9; simp [(hk g hg).1, (hk g hg).2, hq']; lia
  have lpaid : (J1 z h).length = q := by unfold J1; simp [gh.lt, gh.lg, hq']; lia
  have lgoal : (G7 z h).length = q := by unfold G7; simp [gh.lt, gh.lg, hq']; lia
  have lb : (W6 hs).length = m := by unfold W6; simp [hm']
  have la : (u9 m q S).length = q := by unfold u9; simp
  have lw : (K2 m q S).length = m := by unfold K2; simp
  have hsp : K2 m q S = (K2 m q S).take hs.length ++ [Lp.valOut m q S (q + hs.length)] := by rw [hm']; exact a5K
  generalize hws : (K2 m q S).take hs.length = ws at *
  generalize hwn : Lp.valOut m q S (q + hs.length) = wn at *
  have lws : ws.length = hs.length := by rw [<- hws, List.length_take, lw]; lia
  have wnn : ∀ x ∈ ws, 0 <= x /\ Big 20000 x := fun x hx => by
    have hx' : x ∈ K2 m q S := by rw [hsp]; exact List.mem_append_left _ hx
    refine ⟨b0r hn x hx', ?_⟩
    unfold K2 at hx'
    obtain ⟨k, hk', rfl⟩ := List.mem_map.mp hx'
    exact (a7W O sz (by have := List.mem_range.mp hk'; lia)).mono (by decide)
  have pos := O.w.pos
  -- the bounds
  have eT : wn = S.T m q := by
    have := a7G O lb
    rw [hsp] at this
    unfold W6 at this
    rw [a2J (by rw [List.length_replicate]; exact lws.symm), U7] at this
    lia
  -- columns
  have colA : ∀ j, v4 (col (C4 z hs h) j) (K2 m q S) = v4 (col (hs.map (A9 z)) j) ws + (J1 z h).getD j 0 * wn := fun j => by
    rw [hsp]
    unfold C4
    rw [a6C, a2J (by unfold col; rw [List.length_map, List.length_map, lws])]
  have tk : ∀ j, j < kt -> E9 hs ws 0 j <= h.1.getD j 0 * wn := fun j hj => by
    have := a2f O hn lr (j := j) (by lia)
    rw [colA, a5C hk ws hj] at this
    unfold G7 J1 at this
    rw [X8, X8, List.length_replicate, if_pos (by rw [gh.lt]; lia), if_pos (by rw [gh.lt]; lia), T1] at this
    lia
  have gv : ∀ j, j < kg -> h.2.getD j 0 * S.d <= E9 hs ws 1 j := fun j hj => by
    have := a2f O hn lr (j := kt + j) (by lia)
    rw [colA, a5M hk ws hj] at this
    unfold G7 J1 at this
    rw [X8, X8, List.length_replicate, List.length_replicate, gh.lt, gh.lg, if_neg (by lia), if_pos (by lia), if_neg (by lia), if_pos (by lia), Nat.add_sub_cancel_left, T1] at this
    lia
  have szc : ∀ t, t < (Q6 z).length -> (Q6 z).getD t 0 * S.d <= (Q6 z).getD t 0 * ws.sum := fun t ht => by
    have := a2f O hn lr (j := kt + kg + t) (by lia)
    rw [colA, a6A hk lws.symm t] at this
    unfold G7 J1 at this
    rw [X8, X8, List.length_replicate, List.length_replicate, gh.lt, gh.lg, if_neg (by lia), if_neg (by lia), if_neg (by lia), if_neg (by lia), Nat.add_sub_cancel_left, T1] at this
    lia
  have size : a2A z ws.sum S.d := by
    rcases hz with rfl | rfl | rfl | rfl
    . exact ⟨fun h => absurd h (by decide), fun h => absurd h (by decide)⟩
    . have s0 : (1 : Int) * S.d <= 1 * ws.sum := szc 0 (by decide)
      have s1 : (-1 : Int) * S.d <= -1 * ws.sum := szc 1 (by decide)
      exact ⟨fun _ => by lia, fun _ => by lia⟩
    . have s1 : (-1 : Int) * S.d <= -1 * ws.sum := szc 0 (by decide)
      exact ⟨fun _ => by lia, fun h => absurd h (by decide)⟩
    . have s0 : (1 : Int) * S.d <= 1 * ws.sum := szc 0 (by decide)
      exact ⟨fun h => absurd h (by decide), fun _ => by lia⟩
  -- some weight
  have posT : 0 < wn := by
    obtain ⟨y, hy, y0⟩ := gh.p
    obtain ⟨j, hj⟩ := List.getElem?_of_mem hy
    have hjl : j < kg := by have := (List.getElem?_eq_some_iff.mp hj).1; rw [gh.lg] at this; exact this
    have yD : h.2.getD j 0 = y := by rw [List.getD_eq_getElem?_getD, hj]; rfl
    have g1 := gv j hjl
    rw [yD] at g1
    have g2 : 0 < E9 hs ws 1 j := Int.lt_of_lt_of_le (Int.mul_pos y0 pos) g1
    have nnc : ∀ x ∈ col (hs.map (R1 1)) j, 0 <= x := fun x hx => by
      unfold col at hx
      obtain ⟨r, hr, rfl⟩ := List.mem_map.mp hx
      obtain ⟨g, hg, rfl⟩ := List.mem_map.mp hr
      have hg' := hG g hg
      have hl : j < (R1 1 g).length := by show j < g.2.length; rw [hg'.lg]; exact hjl
      rw [List.getD_eq_getElem?_getD, List.getElem?_eq_getElem hl]
      exact (hg'.g _ (List.getElem_mem hl)).1
    obtain ⟨k, hk1, hk2⟩ := a1j nnc (fun x hx => (wnn x hx).1) g2
    have pc : ∀ x ∈ col (hs.map (R1 0)) 0, 0 < x := fun x hx => by
      unfold col at hx
      obtain ⟨r, hr, rfl⟩ := List.mem_map.mp hx
      obtain ⟨g, hg, rfl⟩ := List.mem_map.mp hr
      have hg' := hG g hg
      have hl : 0 < (R1 0 g).length := by show 0 < g.1.length; rw [hg'.lt]; lia
      rw [List.getD_eq_getElem?_getD, List.getElem?_eq_getElem hl]
      have := (hg'.t _ (List.getElem_mem hl)).1
      show 0 < (R1 0 g)[0]
      lia
    have g3 : 0 < E9 hs ws 0 0 := a1f pc (fun x hx => (wnn x hx).1) (by unfold col; rw [List.length_map, List.length_map, lws]) ⟨k, hk1, hk2⟩
    have g4 := tk 0 (by lia)
    have hl : 0 < h.1.length := by rw [gh.lt]; lia
    have h0 : 1 <= h.1.getD 0 0 := by
      rw [List.getD_eq_getElem?_getD, List.getElem?_eq_getElem hl]
      exact (gh.t _ (List.getElem_mem hl)).1
    have g5 : 0 < h.1.getD 0 0 * wn := Int.lt_of_lt_of_le g3 g4
    by_cases hw : 0 < wn
    . exact hw
    . have := Int.mul_nonneg (show 0 <= h.1.getD 0 0 by lia) (show 0 <= -wn by lia)
      rw [Int.mul_neg] at this
      lia
  -- prices
  have fair : ∀ g ∈ hs, L0 g (pgA h (u9 m q S)) (psA z h (u9 m q S)) <= pay g (ptA h (u9 m q S)) := fun g hg => by
    obtain ⟨k, hk'⟩ := List.getElem?_of_mem hg
    have hkl := (List.getElem?_eq_some_iff.mp hk').1
    have hr : (C4 z hs h)[k]? = some (A9 z g) := by
      unfold C4
      rw [List.getElem?_append_left (by rw [List.length_map]; exact hkl), List.getElem?_map, hk']; rfl
    have := a8Q O (i := k) (by lia) hr (lrow g hg)
    rw [a4d (h := h) (by rw [(hk g hg).1, gh.lt]) (by rw [(hk g hg).2, gh.lg])] at this
    unfold W6 at this
    rw [E6, List.length_replicate, if_pos hkl, T1, Int.zero_mul] at this
    lia
  have hr : (C4 z hs h)[hs.length]? = some (J1 z h) := by
    unfold C4
    rw [List.getElem?_append_right (by rw [List.length_map]; exact Nat.le_refl _), List.length_map, Nat.sub_self]; rfl
  have pays : pay h (ptA h (u9 m q S)) = S.d := by
    have := a3y O hn (i := hs.length) (by lia) hr lpaid (by rw [hwn]; exact posT)
    rw [a2S] at this
    unfold W6 at this
    rw [E6, List.length_replicate, if_neg (by lia), Nat.sub_self] at this
    rw [this]
    exact Int.one_mul _
  have earns : L0 h (pgA h (u9 m q S)) (psA z h (u9 m q S)) = S.T m q := by rw [<- a3b]; exact a6f O lgoal
  have anb : ∀ x ∈ u9 m q S, 0 <= x /\ Big 4000 x := fun x hx => by
    refine ⟨a8H O x hx, ?_⟩
    unfold u9 at hx
    obtain ⟨k, hk', rfl⟩ := List.mem_map.mp hx
    exact a7P O sz (List.mem_range.mp hk')
  have d4 : S.d < 2 ^ 4000 := by
    have h1 : S.d.natAbs < 2 ^ 4000 := sz.2
    have h3 : S.d = (S.d.natAbs : Int) := by lia
    rw [h3]
    exact_mod_cast h1
  refine ⟨lws, wnn, size, fun j hj => ?_, gv, ?_, ?_, ?_, ?_, ?_, ?_, ?_⟩
  . rw [hm, hq, <- eT]; exact tk j hj
  . rw [hm, hq, <- eT]; exact posT
  . intro hin; rw [hm, hq, <- earns, <- pays]; exact fair h hin
  . rw [hm, hq]; exact fair
  . rw [hm, hq]; exact pays
  . rw [hm, hq]; exact earns
  . rw [hm, hq]
    refine ⟨?_, ?_, fun x hx => ?_, fun x hx => ?_, ?_, pos, d4⟩
    . rw [List.length_take, la, gh.lt]; lia
    . rw [List.length_take, List.length_drop, la, gh.lt, gh.lg]; lia
    . have := anb x (List.mem_of_mem_take hx)
      exact ⟨this.1, this.2.mono (by decide)⟩
    . have := anb x (List.mem_of_mem_drop (List.mem_of_mem_take hx))
      exact ⟨this.1, this.2.mono (by decide)⟩
    . exact a6m (fun x hx => (anb x (List.mem_of_mem_drop hx)).2) (by rw [List.length_drop, la]; lia)
  . rw [hm, hq]
    exact a4G hz fun x hx => (anb x (List.mem_of_mem_drop hx)).1
end Rim
namespace L2
open PySem PySem.Spec PyProof.Rows
theorem a5z {P : Program} {w : World} {K : W.Frag} {mg mb : Str -> Option Value} {CX : CXT} {k : Nat} {fa a : Addr} {fd : FuncData} {x : Str} {sp : Sp} {s₁ : Shared} {vs : List Value} {ns : List Int} {Ps : List Addr}
    (KX : K.In s₁.heap) (hns : s₁.heap.Ns mainGlobals mg) (hb : s₁.heap.Ns builtinsNs mb) (hbb : ∀ x : Str, x ≠ "__name__" -> mb x = bootBuiltins x) (hlim : s₁.heap.NoLimit) (hg : s₁.gens = #[])
    (ha : s₁.heap.get? a = some { cls := .type "list", data := .seq vs.toArray }) (hi : IntsAre vs ns) (hl : ns.length <= sizeLine) (hr : Room k callerA)
    (hT : ∀ p ∈ Ps, ∃ c, s₁.heap.TableAt c p #[]) (hKP : ∀ p ∈ Ps, K.lookup p = none) (BM : P0 mg s₁.heap)
    (F : ∀ base : Heap, K.In base -> base.Ns mainGlobals mg -> P0 mg base -> FnOk P w K mg base CX k fa fd [x] sp) (hbind : ∀ (s : Shared) (u : Value), BindsTo s fd ⟨[u], []⟩ [(x, u)])
    (hsp : ∀ H : Hp, (∀ p ∈ Ps, H p = some (.tbl #[])) -> SqL K H a (ns.map V.int) -> sp [.ref a] H (fun v _ => v = .bl true) fun _ _ _ => False)
    (hCX : ∀ H e s', CX [] H s₁ (fun _ _ _ => False) e s' -> False) :
    codeAny (model P w) callerA (.call (.ref fa) ⟨[.ref a], []⟩) (fun r s' => r = .ok (.ret (.bool true)) /\ OldK s₁.heap s'.heap /\ s'.os = s₁.os /\ AllBare s'.gens) s₁ := by
  have rv := a1y hi
  have lenV := hi.length
  have tabObj : ∀ p ∈ Ps, s₁.heap.get? p = some { cls := .none, data := .fields #[] } := fun p hp => by
    obtain ⟨c, z⟩ := hT p hp
    exact z.2
  have core : ∀ H : Hp, (∀ b, H b = none \/ (∃ o xs, H b = some (.frz o (.lst xs))) \/ (b ∈ Ps /\ H b = some (.tbl #[]))) -> (∀ p ∈ Ps, H p = some (.tbl #[])) -> SqL K H a (ns.map V.int) -> HOk P w H s₁.heap -> (∀ b, H b ≠ none -> b = a \/ b ∈ Ps) -> (H a ≠ none -> K.lookup a = none) →
      codeAny (model P w) callerA (.call (.ref fa) ⟨[.ref a], []⟩) (fun r s' => r = .ok (.ret (.bool true)) /\ OldK s₁.heap s'.heap /\ s'.os = s₁.os /\ AllBare s'.gens) s₁ := by
    intro H hO hP hS hok hA hK
    have base_of : ∀ {b : Addr} {o : Obj}, s₁.heap.get? b = some o -> H b = none -> (a1v s₁.heap H).get? b = some o := fun e n => a6q e n
    have noA : ∀ {b : Addr} {o : Obj} {es : Array DictEntry} {ep : Nat}, s₁.heap.get? b = some o -> o.data = .dict es ep -> H b = none := fun {b o es ep} e d => by
      cases q : H b with
      | none => rfl
      | some u =>
        rcases hA b (by rw [q]; simp) with e' | e'
        . subst e'
          rw [ha] at e; cases e
          have d' : Data.seq vs.toArray _ = Data.dict es ep := d
          cases d'
        . rw [tabObj b e'] at e; cases e
          have d' : Data.fields #[] = Data.dict es ep := d
          cases d'
    have nsK : ∀ {b : Addr} {m : Str -> Option Value}, s₁.heap.Ns b m -> (a1v s₁.heap H).Ns b m := fun {b m} ⟨o, es, ep, e, d, r⟩ => ⟨o, es, ep, base_of e (noA e d), d, r⟩
    have hKb : K.In (a1v s₁.heap H) := fun b o e => base_of (KX b o e) (by
      cases q : H b with
      | none => rfl
      | some u =>
        rcases hA b (by rw [q]; simp) with e' | e'
        . subst e'
          rw [hK (by rw [q]; simp)] at e; cases e
        . rw [hKP b e'] at e; cases e)
    have hM : Mod K mg (a1v s₁.heap H) := ⟨hKb, nsK hns, ⟨mb, nsK hb, hbb⟩, let ⟨mc, h1, h2⟩ := hlim; ⟨mc, nsK h1, h2⟩⟩
    have BM' : P0 mg (a1v s₁.heap H) := by
      obtain ⟨bm, ob, b1, b2, b3, b4, b5, b6⟩ := BM
      refine ⟨bm, ob, b1, b2, base_of b3 ?_, b4, b5, b6⟩
      cases q : H bm with
      | none => rfl
      | some u =>
        rcases hA bm (by rw [q]; simp) with e' | e'
        . subst e'
          rw [ha] at b3; cases b3; exact absurd b4 (by intro z; injection z with z; exact absurd z (by decide))
        . rw [tabObj bm e'] at b3; cases b3; cases b4
    have e0 : Env0 P w K mg (a1v s₁.heap H) callerA [] s₁ H := ⟨rfl, hM, fun b o e => a8T e, Nat.le_of_eq (a5H _ _), trivial, fun b hb => absurd (show b ∈ ([] : List Addr) from hb) (by simp), hok, .of_eq hg⟩
    refine codeAny_mono ((F _ hKb (nsK hns) BM').run callerA [] s₁ H ⟨[.ref a], []⟩ [.ref a] [.ref a] _ _ hr e0 (hbind s₁ (.ref a)) (.cons rfl .nil) (hsp H hP hS)) fun r s' h => ?_
    cases r with
    | error e => exact (hCX H e s' h).elim
    | ok fl =>
      cases fl with
      | next => exact False.elim h
      | brk => exact False.elim h
      | cont => exact False.elim h
      | ret u =>
        obtain ⟨v, H', os, bare, un, hok', r', q⟩ := h
        have q' : v = .bl true := q
        subst q'
        obtain rfl : u = Value.bool true := r'
        refine ⟨rfl, ⟨fun b o e => ?_, fun b o e => un.there b o e (by simp)⟩, os, bare⟩
        rcases hO b with q | ⟨ob, xs, z⟩ | ⟨hbP, z⟩
        . exact .inl (un.keep b o e q (by intro z; exact absurd (show b ∈ ([] : List Addr) from z) (by simp)) (by simp))
        . have z2 := un.frzs b ob _ z
          obtain ⟨e1, _⟩ := hok b _ z
          obtain ⟨e2, _⟩ := hok' b _ z2
          rw [e] at e1; cases e1
          exact .inl e2
        . obtain ⟨more, z2⟩ := un.tbls b _ z
          have e2 : s'.heap.get? b = some { cls := .none, data := .fields (#[] ++ more) } := hok' b _ z2
          rw [tabObj b hbP] at e; cases e
          obtain ⟨c, ht⟩ := hT b hbP
          exact .inr (.inl ⟨ht.isCodeTable, rfl, #[], more, rfl, e2⟩)
  have aP : a ∉ Ps := fun z => by
    have := tabObj a z
    rw [ha] at this; cases this
  cases hk : K.lookup a with
  | some o =>
    have e := KX a o hk
    rw [ha] at e
    cases e
    refine core (fun b => if b ∈ Ps then some (.tbl #[]) else none) (fun b => ?_) (fun p hp => if_pos hp) (.inr ⟨_, vs.toArray, _, hk, rfl, rfl, rfl, by rw [List.size_toArray, lenV]; exact hl, by simpa using rv⟩) (fun b u z => ?_) (fun b z => ?_) fun z => absurd (if_neg aP) z
    . by_cases hb : b ∈ Ps
      . exact .inr (.inr ⟨hb, if_pos hb⟩)
      . exact .inl (if_neg hb)
    . by_cases hb : b ∈ Ps
      . have z' := (if_pos hb).symm.trans z
        cases z'
        exact tabObj b hb
      . have z' := (if_neg hb).symm.trans z
        cases z'
    . by_cases hb : b ∈ Ps
      . exact .inr hb
      . exact absurd (if_neg hb) z
  | none =>
    refine core (fun b => if b = a then some (.frz { cls := .type "list", data := .seq vs.toArray } (.lst (ns.map V.int))) else if b ∈ Ps then some (.tbl #[]) else none) (fun b => ?_) (fun p hp => ?_) (.inl (.inr ⟨{ cls := .type "list", data := .seq vs.toArray }, if_pos rfl⟩)) (fun b u z => ?_) (fun b z => ?_) fun _ => hk
    . by_cases hb : b = a
      . exact .inr (.inl ⟨_, _, if_pos hb⟩)
      . by_cases hb2 : b ∈ Ps
        . exact .inr (.inr ⟨hb2, (if_neg hb).trans (if_pos hb2)⟩)
        . exact .inl ((if_neg hb).trans (if_neg hb2))
    . have hb : p ≠ a := fun z => aP (z ▸ hp)
      exact (if_neg hb).trans (if_pos hp)
    . by_cases hb : b = a
      . have z' := (if_pos hb).symm.trans z
        cases z'
        subst hb
        exact ⟨ha, by rw [List.length_map]; exact hl, vs, _, rv, ha⟩
      . by_cases hb2 : b ∈ Ps
        . have z' := ((if_neg hb).trans (if_pos hb2)).symm.trans z
          cases z'
          exact tabObj b hb2
        . have z' := ((if_neg hb).trans (if_neg hb2)).symm.trans z
          cases z'
    . by_cases hb : b = a
      . exact .inl hb
      . by_cases hb2 : b ∈ Ps
        . exact .inr hb2
        . exact absurd ((if_neg hb).trans (if_neg hb2)) z
theorem walk_ofT {l : W.OpenLaw} {n k : Nat} {q : Program} {loose : List Str} {XP : (Str -> Option Value) -> Heap -> Prop} {YP : World -> Heap -> Prop} {d : DefRec} {K : Params -> W.Frag} {CX : World -> CXT} {sp : World -> Sp} {x : Str} {Ts : List (Addr × Addr)}
    (hn : l.most = some n) (hn2 : n <= sizeLine) (hdf : d.params.defaults = []) (hr : Room k callerA)
    (hY : ∀ (w : World) (h : Heap), YP w h -> (K w.params).In h /\ ∀ t ∈ Ts, h.get? t.2 = some (W.tabObj #[]))
    (hC : ∀ (w : World), ∀ t ∈ Ts, W.codeHdIn (K w.params) t.1 t.2 = true /\ (K w.params).lookup t.2 = none)
    (F : ∀ (w : World) (mg : Str -> Option Value) (fa : Addr) (h : Heap), (K w.params).In h -> h.Ns mainGlobals mg -> mg d.name = some (.ref fa) →
      ∃ fd : FuncData, (∀ (s : Shared) (u : Value), BindsTo s fd ⟨[u], []⟩ [(x, u)]) ∧
        ∀ base : Heap, (K w.params).In base -> base.Ns mainGlobals mg -> P0 mg base -> (∀ t ∈ Ts, W.CodeHd base t.1 t.2) -> FnOk l.prog w (K w.params) mg base (CX w) k fa fd [x] (sp w))
    (hsp : ∀ (w : World) (H : Hp) (a : Addr) (ns : List Int), ns.length <= n -> (∀ t ∈ Ts, H t.2 = some (.tbl #[])) -> SqL (K w.params) H a (ns.map V.int) -> sp w [.ref a] H (fun v _ => v = .bl true) fun _ _ _ => False)
    (hCX : ∀ (w : World) (H : Hp) (s : Shared) (e : Value) (s' : Shared), CX w [] H s (fun _ _ _ => False) e s' -> False) :
    W.WalkO q loose XP YP l.row.toRowW d [] (fun f vs => PySem.call f vs) := by
  refine Att.attach_call hn hdf fun w s₀ s₁ mg mb fa o pm cd doc a vs ns G Y ho hd hcd hmg hobj hints hlen hg => ?_
  obtain ⟨KX, hTb⟩ := hY w _ Y
  obtain ⟨fd, hb, hF⟩ := F w mg fa _ KX G.T.g hmg
  have mem : ∀ p ∈ Ts.map (·.2), ∃ t ∈ Ts, t.2 = p := fun p hp => by
    obtain ⟨t, h1, h2⟩ := List.mem_map.mp hp
    exact ⟨t, h1, h2⟩
  refine a5z (Ps := Ts.map (·.2)) KX G.T.g G.T.b G.T.builtins G.T.nolimit hg hobj hints (Nat.le_trans hlen hn2) hr (fun p hp => ?_) (fun p hp => ?_) G.T.bmain (fun base kb nb bm => hF base kb nb bm fun t ht => W.codeHd_of_K kb (hC w t ht).1) hb (fun H hP hS => hsp w H a ns hlen (fun t ht => hP _ (List.mem_map_of_mem ht)) hS) fun H e s' => hCX w H s₁ e s'
  . obtain ⟨t, h1, rfl⟩ := mem p hp
    exact ⟨t.1, (W.codeHd_of_K KX (hC w t h1).1).tab (hTb t h1)⟩
  . obtain ⟨t, h1, rfl⟩ := mem p hp
    exact (hC w t h1).2
end L2
namespace L2
open PySem
theorem a7u {X : Cx} {P : Program} {w : World} : P2 (CX1 P w) X E0 := fun _ _ _ _ _ _ _ ⟨_, _, _, _, _, _, _, h⟩ => h.elim
end L2
namespace L2
open PySem
theorem Same.to1 {P : Addr} {H H' : Hp} (e : Same H H') : Same1 P H H' := fun b o _ h => e b o h
theorem Same1.refl {P : Addr} {H : Hp} : Same1 P H H := fun _ _ _ h => h
theorem Same1.trans {P : Addr} {H H1 H2 : Hp} (a : Same1 P H H1) (b : Same1 P H1 H2) : Same1 P H H2 := fun c o n h => b c o n (a c o n h)
theorem Same1.get {P : Addr} {pos : Pos} {qual : Str} {H H' : Hp} {b : Addr} {o : HO} (T : LamTab P pos qual H) (e : Same1 P H H') (h : H b = some o) (n : ∀ ps, o ≠ .tbl ps) : H' b = some o := e b o (fun z => by
  subst z
  rcases T with t | ⟨c, t, _⟩
  . rw [h] at t; exact n _ (Option.some.inj t)
  . rw [h] at t; exact n _ (Option.some.inj t)) h
end L2
namespace Rim
open PySem L2 Fr
theorem X0 : ∀ ns : List Int, PyData.depthAll (ns.map PyData.int) <= 3
  | [] => by simp [PyData.depthAll]
  | n :: r => by
    rw [List.map_cons, PyData.depthAll]
    exact Nat.max_le.mpr ⟨by simp [PyData.depth], X0 r⟩
theorem a0s (h : i8) : (A7 h).depth <= 8 := by
  unfold A7 a2F
  have h1 := X0 h.1
  have h2 := X0 h.2
  rw [PyData.depth, PyData.depthAll, PyData.depth, PyData.depthAll, PyData.depth, PyData.depthAll]
  lia
theorem a0N : ∀ hs : List i8, PyData.depthAll (hs.map A7) <= 8
  | [] => by simp [PyData.depthAll]
  | h :: r => by
    rw [List.map_cons, PyData.depthAll]
    exact Nat.max_le.mpr ⟨a0s h, a0N r⟩
theorem a4X {j : Nat} (h : j <= 1000) : ((j : Int)).natAbs.log2 < 1920 := by
  rw [Int.natAbs_natCast]
  by_cases h0 : j = 0
  . subst h0; decide
  . exact Nat.lt_trans ((Nat.log2_lt h0).mpr (Nat.lt_of_le_of_lt h (show 1000 < 2 ^ 10 by decide))) (by decide)
end Rim
namespace Rim
open PySem L2 Fr
section
variable {P : Program} {w : World} {K : W.Frag} {mg : Str -> Option Value} {base : Heap} {f Pt d : Addr} {fd : FuncData} {n : Nat} {C : Addr}
end
end Rim
namespace Rim
open PySem L2 Fr
section
variable {P : Program} {w : World} {K : W.Frag} {mg : Str -> Option Value} {base : Heap} {f Pt d : Addr} {fd : FuncData} {n : Nat} {C : Addr}
end
end Rim
namespace Rim
open PySem L2 Fr
structure b2W (z : Str) (hs : List i8) (h : i8) (S : Lp.Bo) (kt kg : Nat) (ws : List Int) : Prop where
  lw : ws.length = hs.length
  nn : ∀ x ∈ ws, 0 <= x /\ Big 20000 x
  size : a2A z ws.sum (S.T (mE hs) (qE z h))
  takes : ∀ j, j < kt -> E9 hs ws 0 j <= h.1.getD j 0 * S.T (mE hs) (qE z h)
  gives : ∀ j, j < kg -> h.2.getD j 0 * S.d <= E9 hs ws 1 j
  pos : 0 < S.T (mE hs) (qE z h)
  le : S.T (mE hs) (qE z h) <= S.d
  fair : ∀ g ∈ hs, L0 g (pgA h (u9 (mE hs) (qE z h) S)) (psA z h (u9 (mE hs) (qE z h) S)) <= pay g (ptA h (u9 (mE hs) (qE z h) S))
  pays : pay h (ptA h (u9 (mE hs) (qE z h) S)) - psA z h (u9 (mE hs) (qE z h) S) = S.d
  gvs : v4 h.2 (pgA h (u9 (mE hs) (qE z h) S)) = S.T (mE hs) (qE z h)
  pr : PrN (ptA h (u9 (mE hs) (qE z h) S)) (pgA h (u9 (mE hs) (qE z h) S)) (psA z h (u9 (mE hs) (qE z h) S)) (S.T (mE hs) (qE z h)) kt kg
  sign : a0T z (psA z h (u9 (mE hs) (qE z h) S))
end Rim
namespace Rim
open PySem L2 Fr
section
variable {P : Program} {w : World} {K : W.Frag} {mg : Str -> Option Value} {base : Heap} {f Pt d CN : Addr} {fd : FuncData} {n : Nat} {C : Addr}
end
end Rim
namespace Lp
section
variable {m q : Nat} {A : Nat -> Nat -> Int} {b c : Nat -> Int} {S : Bo}
end
end Lp
namespace Rim
open PySem L2 Fr
section
variable {P : Program} {w : World} {K : W.Frag} {mg : Str -> Option Value} {base : Heap} {f Pt d : Addr} {fd : FuncData} {n : Nat} {C : Addr}
end
end Rim
namespace Rim
open PySem L2 Fr
section
variable {P : Program} {w : World} {K : W.Frag} {mg : Str -> Option Value} {base : Heap} {f Pt d : Addr} {fd : FuncData} {n : Nat} {C : Addr}
end
end Rim
namespace Rim
open PySem L2 Fr
structure b1q (z : Str) (hs : List i8) (h : i8) (pt pg : List Int) (ps : Int) : Prop where
  lt : pt.length = h.1.length
  lg : pg.length = h.2.length
  tp : ∀ x ∈ pt, 0 < x
  gp : ∀ x ∈ pg, 0 < x
  sign : a0T z ps
  fair : ∀ g ∈ hs, L0 g pg ps <= pay g pt
  firm : L0 h pg ps = pay h pt
def b0T (z : Str) (hs : List i8) (h : i8) : Prop := ∃ pt pg ps, b1q z hs h pt pg ps
theorem a1V : ∀ {l x y : List Int}, x.length = y.length -> v4 l (List.zipWith (· + ·) x y) = v4 l x + v4 l y
  | [], x, y, _ => by simp [v4]
  | a :: l, [], [], _ => by simp [v4]
  | a :: l, b :: x, c :: y, h => by
    have := a1V (l := l) (x := x) (y := y) (by simpa using h)
    unfold v4 at *
    simp only [List.zipWith_cons_cons, List.sum_cons]
    rw [this, Int.mul_add]; omega
  | a :: l, [], c :: y, h => by simp at h
  | a :: l, b :: x, [], h => by simp at h
section
variable {z : Str} {hs : List i8} {h : i8} {S : Lp.Bo} {kt kg i : Nat}
end
end Rim
namespace L2
open PySem
section
variable {fr : List Nat} {tc : TT} {σ : St} {H1 : Hp} {p : Addr} {D : Hp -> Prop} {P : Addr} {pos : Pos} {qual : Str} {n : Nat}
end
end L2
namespace Rim
open PySem L2 Fr
open Classical in
noncomputable def b2p (z : Str) (hs : List i8) : List Nat := (List.range hs.length).filter fun i => decide (b0T z hs (hs.getD i ([], [])))
section
variable {P : Program} {w : World} {K : W.Frag} {mg : Str -> Option Value} {base : Heap} {f Pt d : Addr} {fd : FuncData} {n : Nat} {C : Addr}
end
end Rim
namespace Rim
open PySem L2 Fr
structure Mx (z : Str) (hs : List i8) (ws : List Int) (D : Int) : Prop where
  lw : ws.length = hs.length
  nn : ∀ x ∈ ws, 0 <= x
  d : 0 < D
  size : a2A z ws.sum D
structure Px (z : Str) (hs : List i8) (kt kg : Nat) (pt pg : List Int) (ps : Int) : Prop where
  lt : pt.length = kt
  lg : pg.length = kg
  tn : ∀ x ∈ pt, 0 <= x
  gn : ∀ x ∈ pg, 0 <= x
  sign : a0T z ps
  fair : ∀ g ∈ hs, L0 g pg ps <= pay g pt
theorem B9 (a b : Int) (l x : List Int) : v4 (a :: l) (b :: x) = a * b + v4 l x := rfl
theorem a0G {f : i8 -> List Int} {k : Nat} : ∀ {hs : List i8} {ws p : List Int}, ws.length = hs.length -> (∀ g ∈ hs, (f g).length = k) -> p.length = k →
    v4 (hs.map fun g => v4 (f g) p) ws = v4 ((List.range k).map fun j => v4 (hs.map fun g => (f g).getD j 0) ws) p
  | [], ws, p, _, _, hp => by
    have e : ∀ (l : List Nat) (p : List Int), v4 (l.map fun _ => (0 : Int)) p = 0 := fun l => by
      induction l with
      | nil => intro p; simp [v4]
      | cons a r ih =>
        intro p
        cases p with
        | nil => simp [v4]
        | cons b p => rw [List.map_cons, B9, ih p]; omega
    show (0 : Int) = _
    rw [show ((List.range k).map fun j => v4 (([] : List i8).map fun g => (f g).getD j 0) ws) = (List.range k).map fun _ => (0 : Int) from List.map_congr_left fun j _ => by simp [v4], e]
  | g :: hs, [], p, h, _, _ => by simp at h
  | g :: hs, w :: ws, p, h, hk, hp => by
    have ih := a0G (f := f) (k := k) (hs := hs) (ws := ws) (p := p) (by simpa using h) (fun x hx => hk x (.tail _ hx)) hp
    rw [List.map_cons, B9, ih]
    have e1 : ((List.range k).map fun j => v4 ((g :: hs).map fun g => (f g).getD j 0) (w :: ws)) = List.zipWith (· + ·) ((f g).map fun x => x * w) ((List.range k).map fun j => v4 (hs.map fun g => (f g).getD j 0) ws) := by
      have lg := hk g (.head _)
      refine List.ext_getElem? fun j => ?_
      by_cases hj : j < k
      . rw [List.getElem?_map, List.getElem?_range hj, List.getElem?_zipWith, List.getElem?_map, List.getElem?_map, List.getElem?_range hj, List.getElem?_eq_getElem (by rw [lg]; exact hj)]
        simp only [Option.map_some]
        rw [List.map_cons, B9, List.getD_eq_getElem?_getD, List.getElem?_eq_getElem (by rw [lg]; exact hj)]; rfl
      . rw [List.getElem?_eq_none (by simp; omega), List.getElem?_eq_none (by simp; omega)]
    rw [e1, E7 (List.zipWith _ _ _) p, a1V (by simp [hk g (.head _)]), E7 p, E7 p]
    congr 1
    have : ∀ (l p : List Int), v4 (l.map fun x => x * w) p = v4 l p * w := fun l => by
      induction l with
      | nil => intro p; simp [v4]
      | cons a r ih =>
        intro p
        cases p with
        | nil => simp [v4]
        | cons b p =>
          rw [List.map_cons, B9, B9, ih p, Int.add_mul]
          congr 1
          ac_rfl
    rw [this]
theorem T5 : ∀ {l m p : List Int}, l.length = m.length -> (∀ x ∈ p, 0 <= x) -> (∀ j, j < l.length -> l.getD j 0 <= m.getD j 0) -> v4 l p <= v4 m p
  | [], [], p, _, _, _ => Int.le_refl _
  | a :: l, b :: m, [], _, _, _ => Int.le_refl _
  | a :: l, b :: m, c :: p, h, hp, hj => by
    have ih := T5 (l := l) (m := m) (p := p) (by simpa using h) (fun x hx => hp x (.tail _ hx)) fun j hl => by
      have := hj (j + 1) (by simpa using hl)
      simpa using this
    have h0 : a <= b := by simpa using hj 0 (by simp)
    rw [B9, B9]
    have := Int.mul_le_mul_of_nonneg_right h0 (hp c (.head _))
    omega
  | [], _ :: _, _, h, _, _ => by simp at h
  | _ :: _, [], _, h, _, _ => by simp at h
theorem M6 (s : Int) : ∀ (l p : List Int), v4 (l.map fun x => x * s) p = v4 l p * s
  | [], p => by simp [v4]
  | a :: l, [] => by simp [v4]
  | a :: l, b :: p => by
    rw [List.map_cons, B9, B9, M6 s l p, Int.add_mul]
    congr 1
    ac_rfl
section
variable {z : Str} {hs : List i8} {h : i8} {kt kg : Nat} {ws pt pg : List Int} {D ps : Int}
theorem a0D (j i : Nat) : E9 hs ws j i = v4 (hs.map fun g => (R1 j g).getD i 0) ws := by
  unfold E9 col
  rw [List.map_map]; rfl
theorem a2G (hz : V6 z) (M : Mx z hs ws D) (P : Px z hs kt kg pt pg ps) (hk : ∀ g ∈ hs, g.1.length = kt /\ g.2.length = kg) :
    v4 ((List.range kg).map fun j => E9 hs ws 1 j) pg + ps * D <= v4 ((List.range kt).map fun j => E9 hs ws 0 j) pt := by
  have e0 : v4 (hs.map fun g => pay g pt) ws = v4 ((List.range kt).map fun j => E9 hs ws 0 j) pt := by
    have := a0G (f := fun g => g.1) (hs := hs) (ws := ws) (p := pt) M.lw (fun g hg => (hk g hg).1) P.lt
    rw [show (fun j => E9 hs ws 0 j) = fun j => v4 (hs.map fun g => g.1.getD j 0) ws from funext fun j => a0D 0 j]
    exact this
  have e1 : v4 (hs.map fun g => v4 g.2 pg) ws = v4 ((List.range kg).map fun j => E9 hs ws 1 j) pg := by
    have := a0G (f := fun g => g.2) (hs := hs) (ws := ws) (p := pg) M.lw (fun g hg => (hk g hg).2) P.lg
    rw [show (fun j => E9 hs ws 1 j) = fun j => v4 (hs.map fun g => g.2.getD j 0) ws from funext fun j => a0D 1 j]
    exact this
  have e2 : v4 (hs.map fun g => L0 g pg ps) ws = v4 (hs.map fun g => v4 g.2 pg) ws + ps * ws.sum := by
    have : ∀ (hs : List i8) (ws : List Int), hs.length = ws.length -> v4 (hs.map fun g => L0 g pg ps) ws = v4 (hs.map fun g => v4 g.2 pg) ws + ps * ws.sum := fun hs => by
      induction hs with
      | nil =>
        intro ws hl
        rw [List.eq_nil_of_length_eq_zero hl.symm]; simp [v4]
      | cons g r ih =>
        intro ws hl
        cases ws with
        | nil => simp at hl
        | cons w ws =>
          have := ih ws (by simpa using hl)
          rw [List.map_cons, List.map_cons, B9, B9, this, List.sum_cons]
          have e : L0 g pg ps = v4 g.2 pg + ps := rfl
          rw [e, Int.add_mul, Int.mul_add]
          omega
    exact this hs ws M.lw.symm
  have le : v4 (hs.map fun g => L0 g pg ps) ws <= v4 (hs.map fun g => pay g pt) ws := by
    refine T5 (by simp) M.nn fun j hj => ?_
    have hj' : j < hs.length := by simpa using hj
    rw [List.getD_eq_getElem?_getD, List.getD_eq_getElem?_getD, List.getElem?_map, List.getElem?_map, List.getElem?_eq_getElem hj']
    exact P.fair _ (List.getElem_mem hj')
  have sz : ps * D <= ps * ws.sum := by
    obtain ⟨s1, s2⟩ := M.size
    obtain ⟨g1, g2⟩ := P.sign
    rcases hz with c | c | c | c
    . have := g1 (.inl c); have := g2 (.inl c)
      have : ps = 0 := by omega
      rw [this]; simp
    . have a1 := s1 (.inl c)
      have a2 := s2 (.inl c)
      have : ws.sum = D := by omega
      rw [this]; exact Int.le_refl _
    . have a1 := g1 (.inr c)
      have a2 := s1 (.inr c)
      have := Int.mul_le_mul_of_nonneg_left a2 (show 0 <= -ps by omega)
      rw [Int.neg_mul, Int.neg_mul] at this
      omega
    . have a1 := g2 (.inr c)
      have a2 := s2 (.inr c)
      exact Int.mul_le_mul_of_nonneg_left a2 a1
  rw [e0, e2, e1] at le
  omega
structure Shr (z : Str) (hs : List i8) (h : i8) (kt kg : Nat) (A B : Int) (ws : List Int) (D : Int) : Prop where
  m : Mx z hs ws D
  t : ∀ j, j < kt -> E9 hs ws 0 j * B <= h.1.getD j 0 * A * D
  g : ∀ j, j < kg -> h.2.getD j 0 * D <= E9 hs ws 1 j
structure Gro (z : Str) (hs : List i8) (h : i8) (kt kg : Nat) (A B : Int) (ws : List Int) (D : Int) : Prop where
  m : Mx z hs ws D
  t : ∀ j, j < kt -> E9 hs ws 0 j <= h.1.getD j 0 * D
  g : ∀ j, j < kg -> h.2.getD j 0 * A * D <= E9 hs ws 1 j * B
theorem a0q {k : Nat} {F : Nat -> Int} {j : Nat} (h : j < k) : ((List.range k).map F).getD j 0 = F j := P3 h
theorem Shr.weak {A B : Int} (hz : V6 z) (S : Shr z hs h kt kg A B ws D) (P : Px z hs kt kg pt pg ps) (hk : ∀ g ∈ hs, g.1.length = kt /\ g.2.length = kg) (h1 : h.1.length = kt) (h2 : h.2.length = kg) (hB : 0 < B) : L0 h pg ps * B <= A * pay h pt := by
  have L := a2G hz S.m P hk
  have dp := S.m.d
  have a1 : v4 h.2 pg * D <= v4 ((List.range kg).map fun j => E9 hs ws 1 j) pg := by
    rw [<- M6]
    refine T5 (by simp [h2]) P.gn fun j hj => ?_
    have hj' : j < kg := by simpa [h2] using hj
    rw [a0q hj', List.getD_eq_getElem?_getD, List.getElem?_map, List.getElem?_eq_getElem (by omega)]
    have := S.g j hj'
    rw [List.getD_eq_getElem?_getD, List.getElem?_eq_getElem (by omega)] at this
    exact this
  have a2 : v4 ((List.range kt).map fun j => E9 hs ws 0 j) pt * B <= v4 h.1 pt * (A * D) := by
    rw [<- M6, <- M6]
    refine T5 (by simp [h1]) P.tn fun j hj => ?_
    have hj' : j < kt := by simpa using hj
    rw [List.getD_eq_getElem?_getD, List.getElem?_map, List.getElem?_map, List.getElem?_range hj', List.getD_eq_getElem?_getD, List.getElem?_map, List.getElem?_eq_getElem (by omega)]
    have := S.t j hj'
    rw [List.getD_eq_getElem?_getD, List.getElem?_eq_getElem (by omega)] at this
    show E9 hs ws 0 j * B <= h.1[j] * (A * D)
    rw [<- Int.mul_assoc]; exact this
  refine Int.le_of_mul_le_mul_right (a := D) ?_ dp
  have e1 : L0 h pg ps = v4 h.2 pg + ps := rfl
  have e2 : pay h pt = v4 h.1 pt := rfl
  rw [e1, e2]
  have b1 := Int.mul_le_mul_of_nonneg_right L (Int.le_of_lt hB)
  have b2 := Int.mul_le_mul_of_nonneg_right a1 (Int.le_of_lt hB)
  have x1 : (v4 h.2 pg + ps) * B * D = v4 h.2 pg * D * B + ps * D * B := by rw [Int.add_mul, Int.add_mul]; congr 1 <;> ac_rfl
  have x2 : A * v4 h.1 pt * D = v4 h.1 pt * (A * D) := by ac_rfl
  rw [Int.add_mul] at b1
  rw [x1, x2]
  omega
def IsShare (z : Str) (hs : List i8) (h : i8) (kt kg : Nat) (A B : Int) : Prop := 0 < B /\ (∃ ws D, Shr z hs h kt kg A B ws D) /\ ∃ pt pg ps, Px z hs kt kg pt pg ps /\ 0 < pay h pt /\ L0 h pg ps * B = A * pay h pt
def b0i (z : Str) (hs : List i8) (h : i8) (kt kg : Nat) (A B : Int) : Prop := 0 < B /\ (∃ ws D, Gro z hs h kt kg A B ws D) /\ ∃ pt pg ps, Px z hs kt kg pt pg ps /\ 0 < v4 h.2 pg /\ A * v4 h.2 pg = (pay h pt - ps) * B
theorem IsShare.le {A B A' B' : Int} (hz : V6 z) (I : IsShare z hs h kt kg A B) (hk : ∀ g ∈ hs, g.1.length = kt /\ g.2.length = kg) (h1 : h.1.length = kt) (h2 : h.2.length = kg) (hB : 0 < B') {ws : List Int} {D : Int} (S : Shr z hs h kt kg A' B' ws D) : A * B' <= A' * B := by
  obtain ⟨b, _, pt, pg, ps, P, pp, e⟩ := I
  have w := S.weak hz P hk h1 h2 hB
  refine Int.le_of_mul_le_mul_right (a := pay h pt) ?_ pp
  have x := Int.mul_le_mul_of_nonneg_right w (Int.le_of_lt b)
  have y1 : L0 h pg ps * B' * B = L0 h pg ps * B * B' := by ac_rfl
  rw [y1, e] at x
  have y2 : A * pay h pt * B' = A * B' * pay h pt := by ac_rfl
  have y3 : A' * pay h pt * B = A' * B * pay h pt := by ac_rfl
  omega
theorem IsShare.eq {A B A' B' : Int} (hz : V6 z) (I : IsShare z hs h kt kg A B) (J : IsShare z hs h kt kg A' B') (hk : ∀ g ∈ hs, g.1.length = kt /\ g.2.length = kg) (h1 : h.1.length = kt) (h2 : h.2.length = kg) : A * B' = A' * B := by
  obtain ⟨_, ⟨ws, D, S⟩, _⟩ := id J
  obtain ⟨_, ⟨ws', D', S'⟩, _⟩ := id I
  have a := I.le hz hk h1 h2 J.1 S
  have b := J.le hz hk h1 h2 I.1 S'
  omega
theorem Best.is {S : Lp.Bo} {far : Int} (hz : V6 z) (B : Best z hs h S) (hG : ∀ g ∈ hs, HG far kt kg g) (gh : HG far kt kg h) (kt1 : 1 <= kt) (kt4 : kt <= 20) (kg4 : kg <= 20) : IsShare z hs h kt kg (S.T (mE hs) (qE z h)) S.d := by
  have T := a4Y hz B hG gh kt1 kt4 kg4
  have dp := B.1.w.pos
  refine ⟨dp, ⟨_, _, ⟨T.lw, fun x hx => (T.nn x hx).1, dp, T.size⟩, fun j hj => ?_, T.gives⟩, _, _, _, ⟨T.pr.lt, T.pr.lg, fun x hx => (T.pr.bt x hx).1, fun x hx => (T.pr.bg x hx).1, T.sign, T.fair⟩, by rw [T.pays]; exact dp, by rw [T.pays, T.earns]⟩
  exact Int.mul_le_mul_of_nonneg_right (T.takes j hj) (Int.le_of_lt dp)
end
end Rim
namespace Rim
open PySem L2 Fr
def R8 (n i : Nat) : List Int := (List.range n).map fun k => if k = i then 1 else 0
theorem a5A : ∀ {n i : Nat} {l : List Int}, l.length = n -> i < n -> v4 l (R8 n i) = l.getD i 0 := fun {n i l} hl hi => by
  rw [<- G9 n l (R8 n i) hl (by unfold R8; simp), Lp.sum_one hi fun k hk hn => by unfold R8; rw [P3 hk, if_neg hn, Int.mul_zero]]
  unfold R8
  rw [P3 hi, if_pos rfl, Int.mul_one]
section
variable {z : Str} {hs : List i8} {h : i8} {kt kg i : Nat}
end
theorem a5l {l : List Int} {k : Nat} : v4 l (List.replicate k 0) = 0 := by rw [E7]; exact U7 k l
end Rim
namespace Rim
open PySem L2 Fr
def IsNone (z : Str) (hs : List i8) (h : i8) (kt kg : Nat) : Prop := ∃ pt pg ps, Px z hs kt kg pt pg ps /\ pay h pt <= 0 /\ 0 < L0 h pg ps
theorem a0r : ∀ {l p : List Int} (m : List Int), l.length = p.length -> (∀ x ∈ l, 1 <= x) -> (∀ x ∈ p, 0 <= x) -> v4 l p <= 0 -> v4 m p = 0
  | [], [], m, _, _, _, _ => by rw [E7]; simp [v4]
  | a :: l, b :: p, m, hl, h1, h2, h => by
    rw [B9] at h
    have nn : 0 <= v4 l p := by
      have : ∀ (l p : List Int), (∀ x ∈ l, 1 <= x) -> (∀ x ∈ p, 0 <= x) -> 0 <= v4 l p := fun l => by
        induction l with
        | nil => intro p _ _; simp [v4]
        | cons a r ih =>
          intro p h1 h2
          cases p with
          | nil => simp [v4]
          | cons b p =>
            rw [B9]
            have := ih p (fun x hx => h1 x (.tail _ hx)) fun x hx => h2 x (.tail _ hx)
            have := Int.mul_nonneg (show 0 <= a by have := h1 a (.head _); omega) (h2 b (.head _))
            omega
      exact this _ _ (fun x hx => h1 x (.tail _ hx)) fun x hx => h2 x (.tail _ hx)
    have hb := h2 b (.head _)
    have ha := h1 a (.head _)
    have hab := Int.mul_le_mul_of_nonneg_right ha hb
    have b0 : b = 0 := by omega
    subst b0
    cases m with
    | nil => simp [v4]
    | cons c m =>
      rw [B9, a0r m (by simpa using hl) (fun x hx => h1 x (.tail _ hx)) (fun x hx => h2 x (.tail _ hx)) (by omega)]
      omega
  | [], _ :: _, _, h, _, _, _ => by simp at h
  | _ :: _, [], _, h, _, _, _ => by simp at h
section
variable {z : Str} {hs hs' : List i8} {h : i8} {kt kg : Nat} {far : Int}
theorem none_of {S : Lp.Bo} {c : Nat} (hz : V6 z) (O : OfE z hs h S) (hc : c < qE z h) (neg : S.T (mE hs) c < 0) (no : ∀ i, i < mE hs -> ¬ 0 < S.T i c) (hG : ∀ g ∈ hs, HG far kt kg g) (gh : HG far kt kg h) : IsNone z hs h kt kg := by
  obtain ⟨y, yn, rows, goal⟩ := O.way hc neg no
  have hq : qE z h = h.1.length + h.2.length + (Q6 z).length := rfl
  have hk : ∀ g ∈ hs, g.1.length = h.1.length /\ g.2.length = h.2.length := fun g hg => ⟨(hG g hg).lt.trans gh.lt.symm, (hG g hg).lg.trans gh.lg.symm⟩
  have lx : ((List.range (qE z h)).map y).length = qE z h := by simp
  have sd : ∀ l : List Int, l.length = qE z h -> Lp.sumTo (fun j => l.getD j 0 * y j) (qE z h) = v4 l ((List.range (qE z h)).map y) := fun l hl => by
    rw [<- G9 _ l _ hl lx]
    exact Lp.sum_congr fun j hj => by rw [P3 hj]
  have xn : ∀ x ∈ (List.range (qE z h)).map y, 0 <= x := fun x hx => by
    obtain ⟨j, hj, rfl⟩ := List.mem_map.mp hx
    exact yn j (List.mem_range.mp hj)
  have fair : ∀ g ∈ hs, L0 g (pgA h ((List.range (qE z h)).map y)) (psA z h ((List.range (qE z h)).map y)) <= pay g (ptA h ((List.range (qE z h)).map y)) := fun g hg => by
    obtain ⟨k, hk'⟩ := List.getElem?_of_mem hg
    have hkl := (List.getElem?_eq_some_iff.mp hk').1
    have hr : (C4 z hs h)[k]? = some (A9 z g) := by
      unfold C4
      rw [List.getElem?_append_left (by rw [List.length_map]; exact hkl), List.getElem?_map, hk']; rfl
    have r := rows k (by omega)
    rw [show (fun j => S4 (C4 z hs h) k j * y j) = fun j => (A9 z g).getD j 0 * y j from funext fun j => by rw [V4 hr], sd _ (by unfold A9; simp [(hk g hg).1, (hk g hg).2]; omega), a4d (h := h) (hk g hg).1 (hk g hg).2] at r
    omega
  have hr : (C4 z hs h)[hs.length]? = some (J1 z h) := by
    unfold C4
    rw [List.getElem?_append_right (by rw [List.length_map]; exact Nat.le_refl _), List.length_map, Nat.sub_self]; rfl
  have pd := rows hs.length (by omega)
  rw [show (fun j => S4 (C4 z hs h) hs.length j * y j) = fun j => (J1 z h).getD j 0 * y j from funext fun j => by rw [V4 hr], sd _ (by unfold J1; simp; omega), a2S] at pd
  have gl : 0 < v4 (G7 z h) ((List.range (qE z h)).map y) := by
    rw [<- sd _ (by unfold G7; simp; omega)]; exact goal
  rw [a3b] at gl
  refine ⟨_, _, _, ⟨?_, ?_, fun x hx => xn x (List.mem_of_mem_take hx), fun x hx => xn x (List.mem_of_mem_drop (List.mem_of_mem_take hx)), a4G hz fun x hx => xn x (List.mem_of_mem_drop hx), fair⟩, pd, gl⟩
  . rw [List.length_take, lx]
    have := gh.lt
    show min h.1.length (h.1.length + h.2.length + (Q6 z).length) = kt
    omega
  . rw [List.length_take, List.length_drop, lx]
    have := gh.lg
    show min h.2.length (h.1.length + h.2.length + (Q6 z).length - h.1.length) = kg
    omega
theorem IsNone.no (hz : V6 z) (N : IsNone z hs h kt kg) (hk : ∀ g ∈ hs, g.1.length = kt /\ g.2.length = kg) (gh : HG far kt kg h) {ws : List Int} {D : Int} (M : Mx z hs ws D) (g : ∀ j, j < kg -> h.2.getD j 0 * D <= E9 hs ws 1 j) : False := by
  obtain ⟨pt, pg, ps, P, p0, e0⟩ := N
  have L := a2G hz M P hk
  have z0 := a0r ((List.range kt).map fun j => E9 hs ws 0 j) (l := h.1) (p := pt) (by rw [gh.lt, P.lt]) (fun x hx => (gh.t x hx).1) P.tn p0
  rw [z0] at L
  have a1 : v4 h.2 pg * D <= v4 ((List.range kg).map fun j => E9 hs ws 1 j) pg := by
    rw [<- M6]
    refine T5 (by simp [gh.lg]) P.gn fun j hj => ?_
    have hj' : j < kg := by simpa [gh.lg] using hj
    rw [a0q hj', List.getD_eq_getElem?_getD, List.getElem?_map, List.getElem?_eq_getElem (by rw [gh.lg]; exact hj')]
    have := g j hj'
    rw [List.getD_eq_getElem?_getD, List.getElem?_eq_getElem (by rw [gh.lg]; exact hj')] at this
    exact this
  have e1 : L0 h pg ps = v4 h.2 pg + ps := rfl
  have : 0 < L0 h pg ps * D := Int.mul_pos e0 M.d
  rw [e1, Int.add_mul] at this
  omega
theorem IsNone.notShare (hz : V6 z) (N : IsNone z hs h kt kg) (hk : ∀ g ∈ hs, g.1.length = kt /\ g.2.length = kg) (gh : HG far kt kg h) {A B : Int} (I : IsShare z hs h kt kg A B) : False := by
  obtain ⟨_, ⟨ws, D, S⟩, _⟩ := I
  exact N.no hz hk gh S.m S.g
theorem a4B : ∀ {hs : List i8} {ws : List Int}, ws.length = hs.length -> (∀ x ∈ ws, 0 <= x) -> (∀ g ∈ hs, g ∈ hs') -> ∃ ws' : List Int, ws'.length = hs'.length /\ (∀ x ∈ ws', 0 <= x) /\ ∀ f : i8 -> Int, v4 (hs'.map f) ws' = v4 (hs.map f) ws
  | [], ws, hl, _, _ => by
    rw [List.eq_nil_of_length_eq_zero hl]
    exact ⟨List.replicate hs'.length 0, by simp, fun x hx => by rw [(List.mem_replicate.mp hx).2]; exact Int.le_refl _, fun f => by rw [a5l]; simp [v4]⟩
  | g :: r, [], hl, _, _ => by simp at hl
  | g :: r, w :: ws, hl, hn, hm => by
    obtain ⟨ws1, l1, n1, f1⟩ := a4B (hs := r) (ws := ws) (by simpa using hl) (fun x hx => hn x (.tail _ hx)) fun x hx => hm x (.tail _ hx)
    obtain ⟨i, hi⟩ := List.getElem?_of_mem (hm g (.head _))
    have hil := (List.getElem?_eq_some_iff.mp hi).1
    have lu : (R8 hs'.length i).length = hs'.length := by unfold R8; simp
    refine ⟨List.zipWith (· + ·) ws1 ((R8 hs'.length i).map fun x => x * w), by simp [l1, lu], fun x hx => ?_, fun f => ?_⟩
    . obtain ⟨j, hj⟩ := List.getElem?_of_mem hx
      rw [List.getElem?_zipWith] at hj
      split at hj
      . rename_i a b e1 e2
        have ha := n1 a (List.mem_of_getElem? e1)
        rw [List.getElem?_map] at e2
        cases e3 : (R8 hs'.length i)[j]? with
        | none => rw [e3] at e2; cases e2
        | some u =>
          rw [e3] at e2
          cases e2
          have hu : 0 <= u := by
            have := List.mem_of_getElem? e3
            unfold R8 at this
            obtain ⟨k, _, rfl⟩ := List.mem_map.mp this
            split <;> decide
          have := Int.mul_nonneg hu (hn w (.head _))
          cases hj
          show 0 <= a + u * w
          omega
      . cases hj
    . rw [a1V (by simp [l1, lu]), f1 f, E7 (hs'.map f) (List.map _ _), M6, E7 (R8 _ _), a5A (by simp) hil, List.map_cons, B9, List.getD_eq_getElem?_getD, List.getElem?_map, hi]
      show _ + f g * w = f g * w + _
      omega
theorem Mx.sub {ws : List Int} {D : Int} (M : Mx z hs ws D) (hm : ∀ g ∈ hs, g ∈ hs') : ∃ ws', Mx z hs' ws' D /\ ∀ j i, E9 hs' ws' j i = E9 hs ws j i := by
  obtain ⟨ws', l, n, f⟩ := a4B M.lw M.nn hm
  have s : ws'.sum = ws.sum := by
    have := f fun _ => 1
    rw [T7 1 hs' ws' l.symm, T7 1 hs ws M.lw.symm] at this
    omega
  exact ⟨ws', ⟨l, n, M.d, by rw [s]; exact M.size⟩, fun j i => by rw [a0D, a0D]; exact f _⟩
theorem Shr.sub {A B : Int} {ws : List Int} {D : Int} (S : Shr z hs h kt kg A B ws D) (hm : ∀ g ∈ hs, g ∈ hs') : ∃ ws', Shr z hs' h kt kg A B ws' D := by
  obtain ⟨ws', M, e⟩ := S.m.sub hm
  exact ⟨ws', M, fun j hj => by rw [e]; exact S.t j hj, fun j hj => by rw [e]; exact S.g j hj⟩
end
end Rim
namespace Rim
open PySem L2 Fr
theorem K8 {X : Cx} {l : List Stmt} : PSs X l fun _ _ _ => False := fun _ _ _ _ _ _ h => h.elim
structure ShU (z : Str) (hs : List i8) (h : i8) (kt kg : Nat) (A B : Int) : Prop where
  s : IsShare z hs h kt kg A B
  a : Big 20000 A
  p : 0 < A
  b : 0 < B
  c : B < 2 ^ 8000
theorem Best.u {z : Str} {hs : List i8} {h : i8} {kt kg : Nat} {S : Lp.Bo} {far : Int} (hz : V6 z) (B : Best z hs h S) (hG : ∀ g ∈ hs, HG far kt kg g) (gh : HG far kt kg h) (kt1 : 1 <= kt) (kt4 : kt <= 20) (kg4 : kg <= 20) : ShU z hs h kt kg (S.T (mE hs) (qE z h)) S.d := by
  have T := a4Y hz B hG gh kt1 kt4 kg4
  obtain ⟨b1, b2⟩ := a4Q B
  exact ⟨B.is hz hG gh kt1 kt4 kg4, (B.2.2.1 _ _ (by omega) (by omega)).mono (by decide), T.pos, b1, b2⟩
def a1p {α : Type} (l : List α) (i : Nat) : List α := l.take i ++ l.drop (i + 1)
theorem a6W {α : Type} {l : List α} {i : Nat} {g : α} (h : g ∈ a1p l i) : g ∈ l := by
  rcases List.mem_append.mp h with h | h
  . exact List.mem_of_mem_take h
  . exact List.mem_of_mem_drop h
theorem a6V {α : Type} {l : List α} {i : Nat} : (a1p l i).length <= l.length := by unfold a1p; simp; omega
theorem Paired.take {α β : Type} {F : α -> β -> Prop} : ∀ {l₁ : List α} {l₂ : List β} (i : Nat), PySem.Paired F l₁ l₂ -> PySem.Paired F (l₁.take i) (l₂.take i)
  | _, _, 0, _ => .nil
  | _, _, _ + 1, .nil => .nil
  | _, _, i + 1, .cons r t => .cons r (Paired.take i t)
theorem Paired.drop {α β : Type} {F : α -> β -> Prop} : ∀ {l₁ : List α} {l₂ : List β} (i : Nat), PySem.Paired F l₁ l₂ -> PySem.Paired F (l₁.drop i) (l₂.drop i)
  | _, _, 0, h => h
  | _, _, _ + 1, .nil => .nil
  | _, _, i + 1, .cons _ t => Paired.drop i t
theorem Paired.app {α β : Type} {F : α -> β -> Prop} : ∀ {l₁ m₁ : List α} {l₂ m₂ : List β}, PySem.Paired F l₁ l₂ -> PySem.Paired F m₁ m₂ -> PySem.Paired F (l₁ ++ m₁) (l₂ ++ m₂)
  | _, _, _, _, .nil, h => h
  | _, _, _, _, .cons r t, h => .cons r (Paired.app t h)
theorem Bk.out {K : W.Frag} {H : Hp} {xs : List V} {hs : List i8} (i : Nat) (B : Bk K H xs hs) : Bk K H (a1p xs i) (a1p hs i) := Paired.app (Paired.take i B) (Paired.drop (i + 1) B)
section
variable {P : Program} {w : World} {K : W.Frag} {mg : Str -> Option Value} {base : Heap} {f Pt d CN CB : Addr} {fd : FuncData} {n : Nat} {C : Addr}
def a7R (K : W.Frag) (Pt : Addr) : Sp := fun vs H Q _ => ∃ (ba : Addr) (hv : V) (xs : List V) (hs : List i8) (h : i8) (z : Str) (far : Int) (kt kg : Nat), vs = [.ref ba, hv, .str z] /\ V6 z /\ N1 K H ba xs hs far kt kg /\ 1 <= kt /\ HS K H hv h /\ HG far kt kg h /\ LT Pt H ∧
  (∀ (A B : Int) (H' : Hp) (u : V), ShU z hs h kt kg A B -> Same1 Pt H H' -> LT Pt H' -> FrT H' u (low A B) -> Q u H') /\ ∀ H' : Hp, IsNone z hs h kt kg -> Same1 Pt H H' -> LT Pt H' -> Q .non H'
theorem a6g (F : FnOk P w K mg base G8 n f fd ["houses", "house", "sizes"] (Z9 K Pt)) : FnOk P w K mg base G8 n f fd ["houses", "house", "sizes"] (a7R K Pt) := F.imp fun vs H Q E h => by
  obtain ⟨ba, hv, xs, hs, h, z, far, kt, kg, rfl, hz, B, kt1, hH, gh, L, kG, kN⟩ := h
  exact ⟨ba, hv, xs, hs, h, z, far, kt, kg, rfl, hz, B, hH, gh, L, fun S H' u Bs e L' hu => kG _ _ H' u (Bs.u hz B.g gh kt1 B.t B.k) e L' hu, fun S H' c O hc hneg hno e L' => kN H' (none_of hz O hc hneg hno B.g gh) e L'⟩
def a1A (K : W.Frag) (CN : Addr) : Sp := fun vs H Q E => ∃ (a : Addr) (xs : List V) (m : Int), vs = [.ref a, .int m] /\ SqL K H a xs /\ xs.length <= 1000 /\ m.natAbs.log2 < 1920 ∧
  (∀ (i : Nat) (l : Addr) (H' : Hp), m = (i : Int) -> i < xs.length -> Same H H' -> H l = none -> H' l = some (.lst (a1p xs i)) -> Q (.ref l) H') /\ (¬ a5j xs.length m -> E (.ref CN) none H)
theorem b2v : m6 ["houses", "number"] ["houses", "number"] (i9 a0I) := ⟨rfl, rfl, rfl, by decide +kernel, rfl, by decide +kernel, by decide +kernel⟩
theorem a3O {f1 : Addr} {d1 : FuncData} (F : Fun K "without" "without" a0I f fd) (Ch : a3H P w K mg base n "house_of" ["book", "number"] (a4M K CN) f1 d1) : FnOk P w K mg base (CX1 P w) (n + 1) f fd ["houses", "number"] (a1A K CN) := by
  refine F.ok1 b2v (fun vs H Q E h => ?_) (fun cdv A outer s H vs Q E hr h => ?_)
  . obtain ⟨a, xs, m, rfl, _⟩ := h
    rfl
  obtain ⟨a, xs, m, rfl, hS, hl, hm, q, hE⟩ := h
  refine ⟨_, j0 (V3 (m8 Ch.ok hr rfl Ch.m Ch.k Ch.b .nil a4O (c5 (pv 0) (c5 (pv 1) c7))))
    (PSs.nox (j4 (t7 (j3 D6 (B6 G4 (pv 0) F0 (C3 (pv 1))) (B6 G4 (pv 0) (C3 (j3 A4 (pv 1) c6)) F0))))), ?_⟩
  refine ⟨_, rfl, _, rfl, a, xs, m, rfl, hS, hm, fun i x hi hx => ?_, hE⟩
  subst hi
  have hil := (List.getElem?_eq_some_iff.mp hx).1
  refine ⟨_, rfl, _, rfl, _, rfl, a, _, rfl, hS, fun a1 h1 => ?_⟩
  rw [a0f _ _ (by omega)]
  have s1 := Same.new h1 (.lst (xs.take i))
  refine ⟨_, rfl, _, rfl, _, _, rfl, rfl, _, rfl, a, _, rfl, s1.seq hS, fun a2 h2 => ?_⟩
  rw [show ((i : Int) + 1) = ((i + 1 : Nat) : Int) by omega, Y3 _ _ (by omega)]
  have s2 := Same.new h2 (.lst (xs.drop (i + 1)))
  refine ⟨a1, a2, _, _, rfl, rfl, s2 _ _ upd_same, upd_same, ?_, fun p hp => ?_⟩
  . have := j7 (show (1000 : Nat) <= 1000 from Nat.le_refl _)
    simp; omega
  have s3 := Same.new hp (.lst (xs.take i ++ xs.drop (i + 1)))
  refine q i p _ rfl hil ((s1.trans s2).trans s3) ?_ upd_same
  cases e : H p with
  | none => rfl
  | some o => rw [s2 _ _ (s1 _ _ e)] at hp; cases hp
def a3a (K : W.Frag) (CN Pt : Addr) : Sp := fun vs H Q E => ∃ (ba : Addr) (xs : List V) (hs : List i8) (number : Int) (z : Str) (far : Int) (kt kg : Nat), vs = [.ref ba, .int number, .str z] /\ V6 z /\ N1 K H ba xs hs far kt kg /\ 1 <= kt /\ number.natAbs.log2 < 1920 /\ LT Pt H ∧
  (∀ (i : Nat) (h : i8) (A B : Int) (H' : Hp) (u : V), number = (i : Int) -> hs[i]? = some h -> ShU z (a1p hs i) h kt kg A B -> Same1 Pt H H' -> LT Pt H' -> FrT H' u (low A B) -> Q u H') ∧
  (∀ (i : Nat) (h : i8) (H' : Hp), number = (i : Int) -> hs[i]? = some h -> IsNone z (a1p hs i) h kt kg -> Same1 Pt H H' -> LT Pt H' -> Q .non H') /\ (¬ a5j xs.length number -> E (.ref CN) none H)
theorem scOt : m6 ["book", "number", "sizes", "house"] ["book", "number", "sizes"] (i9 a2r) := ⟨rfl, rfl, rfl, by decide +kernel, rfl, by decide +kernel, by decide +kernel⟩
theorem a5x {f1 f2 f3 : Addr} {d1 d2 d3 : FuncData} (F : Fun K "share_of_others" "share_of_others" a2r f fd) (Ch : a3H P w K mg base n "house_of" ["book", "number"] (a4M K CN) f1 d1) (Cw : a3H P w K mg base n "without" ["houses", "number"] (a1A K CN) f2 d2)
    (Ce : a1k P w K mg base n "held_against" ["houses", "house", "sizes"] (Z9 K Pt) f3 d3) : FnOk P w K mg base (CX1 P w) (n + 1) f fd ["book", "number", "sizes"] (a3a K CN Pt) := by
  have Ce' := a6g Ce.ok
  refine F.ok1 scOt (fun vs H Q E h => ?_) (fun cdv A outer s H vs Q E hr h => ?_)
  . obtain ⟨ba, xs, hs, number, z, far, kt, kg, rfl, _⟩ := h
    rfl
  obtain ⟨ba, xs, hs, number, z, far, kt, kg, rfl, hz, B, kt1, lm, L, kG, kN, kE⟩ := h
  refine ⟨_, j0 (l0 (i := 3) scOt.nd rfl (Or.inl rfl) (m8 Ch.ok hr rfl Ch.m Ch.k Ch.b .nil a4O (c5 (pv 0) (c5 (pv 1) c7))))
    (j4 (t7 (m8 Ce' hr rfl Ce.m Ce.k Ce.b .nil v8 (c5 (m8 Cw.ok hr rfl Cw.m Cw.k Cw.b .nil a4O (c5 (pv 0) (c5 (pv 1) c7))) (c5 (pv 3) (c5 (pv 2) c7)))))), ?_⟩
  have xl : xs.length = hs.length := Paired.length B.b
  have few := B.few
  refine ⟨_, rfl, _, rfl, ba, xs, number, rfl, B.l, lm, fun i hv hi hx => ?_, kE⟩
  obtain ⟨h, hh, hH⟩ := Paired.at B.b hx
  have gh := B.g h (List.mem_of_getElem? hh)
  have hil := (List.getElem?_eq_some_iff.mp hx).1
  refine ⟨_, rfl, _, rfl, ba, xs, number, rfl, B.l, by omega, lm, fun i' l H1 hi' _ e1 hl hl' => ?_, fun bad => absurd ⟨by omega, by omega⟩ bad⟩
  have : i' = i := by omega
  subst this
  have L1 := L.same e1
  refine ⟨_, rfl, _, rfl, l, hv, _, a1p hs i', h, z, far, kt, kg, rfl, hz, ⟨SqL.of hl', Bk.same e1 (B.b.out i'), fun g hg => B.g g (a6W hg), B.far, Nat.le_trans a6V few, B.t, B.k⟩, kt1, hH.same e1, gh, L1, fun A B H' u x e' L' hu => kG i' h A B H' u hi hh x (e1.to1.trans e') L' hu, fun H' x e' L' => kN i' h H' hi hh x (e1.to1.trans e') L'⟩
def a6y (K : W.Frag) : Sp := fun vs H Q _ => ∃ (u v : V) (g h : i8), vs = [u, v] /\ HS K H u g /\ HS K H v h /\ Q (.bl (decide (g.1.length = h.1.length /\ g.2.length = h.2.length))) H
theorem b2L : m6 ["house", "other"] ["house", "other"] (i9 a6b) := ⟨rfl, rfl, rfl, by decide +kernel, rfl, by decide +kernel, by decide +kernel⟩
theorem a7Q (F : Fun K "are_like_counts" "are_like_counts" a6b f fd) (T : B7 mg) : FnOk P w K mg base G8 (n + 1) f fd ["house", "other"] (a6y K) := by
  refine F.ok b2L (fun vs H Q E h => ?_) (fun cdv A outer s H vs Q E hr h => ?_)
  . obtain ⟨u, v, g, h, rfl, _⟩ := h
    rfl
  obtain ⟨u, v, g, h, rfl, ⟨a, t, e, rfl, a0, a1, a2⟩, ⟨a', t', e', rfl, b0, b1, b2⟩, q⟩ := h
  refine ⟨_, j4 (t7 (a2k (E4 R6 (j8 j9 rfl T.len PySem.boot_len (c5 (j6 B8 (pv 0) c6 (fun _ _ => rfl)) c7)) (j8 j9 rfl T.len PySem.boot_len (c5 (j6 B8 (pv 1) c6 (fun _ _ => rfl)) c7)) (r6 _))
    (a0W (E4 R6 (j8 j9 rfl T.len PySem.boot_len (c5 (j6 B8 (pv 0) c6 (fun _ _ => rfl)) c7)) (j8 j9 rfl T.len PySem.boot_len (c5 (j6 B8 (pv 1) c6 (fun _ _ => rfl)) c7)) (r6 _))))), ?_⟩
  have l1 : ∀ l : List Int, ((l.map V.int).length : Int) = (l.length : Int) := fun l => by rw [List.length_map]
  refine ⟨_, rfl, a, _, 0, _, rfl, rfl, a0, Q5 _ _, t, _, rfl, .inr a1, _, rfl, a', _, 0, _, rfl, rfl, b0, Q5 _ _, t', _, rfl, .inr b1, rfl, _, rfl, ?_⟩
  rw [l1, l1]
  refine D8 (fun c => ?_) (fun c => ?_)
  . have c' : g.1.length = h.1.length := by have := V.int.inj (of_decide_eq_true c); omega
    refine ⟨_, rfl, a, _, 1, _, rfl, rfl, a0, S1 _ _, e, _, rfl, .inr a2, _, rfl, a', _, 1, _, rfl, rfl, b0, S1 _ _, e', _, rfl, .inr b2, rfl, ?_⟩
    rw [l1, l1]
    refine a7m q ?_
    simp [c']
    omega
  . have c' : ¬ g.1.length = h.1.length := fun z => c (decide_eq_true (by rw [z]))
    refine a7m q ?_
    simp [c']
theorem b2n : m6 ["book", "house", "sizes"] ["book", "house", "sizes"] (i9 a0Q) := ⟨rfl, rfl, rfl, by decide +kernel, rfl, by decide +kernel, by decide +kernel⟩
end
end Rim
namespace Rim
open PySem L2 Fr
theorem a1e : ∀ {a b : List Int}, PyData.eqvAll (a.map PyData.int) (b.map PyData.int) = true -> a = b
  | [], [], _ => rfl
  | x :: a, y :: b, h => by
    rw [List.map_cons, List.map_cons, PyData.eqvAll, Bool.and_eq_true, PyData.eqv] at h
    rw [eq_of_beq h.1, a1e h.2]
  | [], _ :: _, h => by rw [List.map_nil, List.map_cons, PyData.eqvAll] at h; cases h
  | _ :: _, [], h => by rw [List.map_nil, List.map_cons, PyData.eqvAll] at h; cases h
theorem a5J {g h : i8} (e : PyData.eqv (A7 g) (A7 h) = true) : g = h := by
  unfold A7 a2F at e
  rw [PyData.eqv, PyData.eqvAll, PyData.eqvAll, PyData.eqvAll, PyData.eqv, PyData.eqv, Bool.and_eq_true, Bool.and_eq_true] at e
  exact Prod.ext (a1e e.1) (a1e e.2.1)
def b0O (K : W.Frag) (H : Hp) (v : V) (z : Str) (hs : List i8) (h : i8) (kt kg : Nat) : Prop := (∃ A B, ShU z hs h kt kg A B /\ FrT H v (low A B)) \/ (v = .non /\ IsNone z hs h kt kg)
theorem FrT.to1 {Pt : Addr} {H H' : Hp} {v : V} {x : Q2} (L : LT Pt H) (e : Same1 Pt H H') (h : FrT H v x) : FrT H' v x := by
  obtain ⟨a, rfl, ha⟩ := h
  exact ⟨a, rfl, e.get L ha nofun⟩
end Rim
namespace Rim
open PySem L2 Fr
structure GrU (z : Str) (hs : List i8) (h : i8) (kt kg : Nat) (A B : Int) : Prop where
  s : b0i z hs h kt kg A B
  a : Big 20000 A
  p : 0 < A
  b : 0 < B
  c : B < 2 ^ 8000
section
variable {P : Program} {w : World} {K : W.Frag} {mg : Str -> Option Value} {base : Heap} {f Pt d CN CB : Addr} {fd : FuncData} {n : Nat} {C : Addr}
end
end Rim
namespace Rim
open PySem L2 Fr
structure b3w (z : Str) (hs : List i8) (h : i8) (kt kg : Nat) (ws : List Int) (v : Int) : Prop where
  m : Mx z hs ws v
  t : ∀ j, j < kt -> E9 hs ws 0 j <= h.1.getD j 0 * v
  g : ∀ j, j < kg -> h.2.getD j 0 * v <= E9 hs ws 1 j
  s : h.2.sum * v - h.1.sum * v < v4 (hs.map fun g => g.2.sum - g.1.sum) ws
section
variable {z : Str} {hs : List i8} {h : i8} {kt kg i : Nat} {S : Lp.Bo} {far : Int}
end
end Rim
namespace Rim
open PySem L2 Fr
section
variable {z : Str} {hs : List i8} {h : i8} {kt kg i : Nat} {far : Int}
end
end Rim
namespace Rim
open PySem L2 Fr
section
variable {z : Str} {hs R : List i8} {h : i8} {kt kg : Nat} {far A B : Int}
end
end Rim
namespace Rim
open PySem L2 Fr
section
variable {z : Str} {O hs : List i8} {h : i8} {kt kg : Nat} {far A B k : Int}
end
end Rim
namespace Rim
open PySem L2 Fr
structure FrB (n : Nat) (x : Q2) : Prop where
  p1 : 0 < x.1
  b1 : x.1 < 2 ^ n
  p2 : 0 < x.2
  b2 : x.2 < 2 ^ n
theorem a4v {A B : Int} (hA : 0 < A) (hB : 0 < B) : 0 < (low A B).1 /\ (low A B).1 <= A := by
  obtain ⟨h1, _⟩ := M5 (t := A) hB
  have hg := Z6 (a := A) hB
  have p : 0 < (low A B).1 := by
    rcases Int.lt_or_le 0 (low A B).1 with q | q
    . exact q
    . have := Int.mul_le_mul_of_nonneg_left q (Int.le_of_lt hg)
      omega
  refine ⟨p, ?_⟩
  have := Int.mul_le_mul_of_nonneg_right (show (1 : Int) <= gI A B by omega) (Int.le_of_lt p)
  omega
theorem FrB.low {n : Nat} {A B : Int} (hA : 0 < A) (hB : 0 < B) (h1 : A < 2 ^ n) (h2 : B < 2 ^ n) : FrB n (low A B) :=
  ⟨(a4v hA hB).1, Int.lt_of_le_of_lt (a4v hA hB).2 h1, a4T hB, Int.lt_of_le_of_lt (a9L hB) h2⟩
theorem FrB.bigs {n : Nat} {x : Q2} (hx : FrB n x) (h : n <= 1000000) : Big 1000000 x.1 /\ Big 1000000 x.2 := ⟨(a4r (Int.le_of_lt hx.p1) hx.b1).mono h, (a4r (Int.le_of_lt hx.p2) hx.b2).mono h⟩
section
variable {P : Program} {w : World} {K : W.Frag} {mg : Str -> Option Value} {base : Heap} {f Pt CN : Addr} {fd : FuncData} {n : Nat}
structure ShB (z : Str) (hs : List i8) (h : i8) (kt kg : Nat) (x : Q2) : Prop where
  s : ∃ A B, IsShare z hs h kt kg A B /\ 0 < A /\ x = low A B
  b : FrB 1200 x
theorem ShB.eq {z : Str} {hs : List i8} {h : i8} {kt kg : Nat} {far : Int} {x y : Q2} (hz : V6 z) (a : ShB z hs h kt kg x) (b : ShB z hs h kt kg y) (hG : ∀ g ∈ hs, HG far kt kg g) (gh : HG far kt kg h) : x = y := by
  obtain ⟨A, B, I, _, rfl⟩ := a.s
  obtain ⟨A', B', J, _, rfl⟩ := b.s
  exact a7i I.1 J.1 (I.eq hz J (fun g hg => ⟨(hG g hg).lt, (hG g hg).lg⟩) gh.lt gh.lg)
theorem ShB.is {z : Str} {hs : List i8} {h : i8} {kt kg : Nat} {far : Int} {x : Q2} {A B : Int} (hz : V6 z) (a : ShB z hs h kt kg x) (J : IsShare z hs h kt kg A B) (hG : ∀ g ∈ hs, HG far kt kg g) (gh : HG far kt kg h) : x = low A B := by
  obtain ⟨A', B', I, _, rfl⟩ := a.s
  exact a7i I.1 J.1 (I.eq hz J (fun g hg => ⟨(hG g hg).lt, (hG g hg).lg⟩) gh.lt gh.lg)
theorem b0R : ∀ k, k < 18 -> Lp.bnd (2 ^ 60) (k + 1) < 2 ^ 1200 := by decide +kernel
theorem Best.b {z : Str} {hs : List i8} {h : i8} {kt kg : Nat} {S : Lp.Bo} {far : Int} (hz : V6 z) (B : Best z hs h S) (hG : ∀ g ∈ hs, HG far kt kg g) (gh : HG far kt kg h) (hf : far <= 2 ^ 60) (few : hs.length <= 16) (kt1 : 1 <= kt) (kt4 : kt <= 20) (kg4 : kg <= 20) : ShB z hs h kt kg (low (S.T (mE hs) (qE z h)) S.d) := by
  have U := B.u hz hG gh kt1 kt4 kg4
  have hM := a9b (z := z) gh hG hf (qE z h)
  have hb := b0R (hs.length + 1) (by omega)
  have hd := U.b
  have hp := U.p
  have i1 : (S.T (mE hs) (qE z h)).natAbs < 2 ^ 1200 := Nat.lt_of_le_of_lt (B.1.w.bndT hM (Nat.le_refl _) (Nat.le_refl _)) hb
  have i2 : S.d.natAbs < 2 ^ 1200 := Nat.lt_of_le_of_lt (B.1.w.bndd hM) hb
  have cast : ∀ x : Int, 0 < x -> x.natAbs < 2 ^ 1200 -> x < 2 ^ 1200 := fun x h0 h => by
    have e : x = (x.natAbs : Int) := by omega
    rw [e]; exact_mod_cast h
  exact ⟨⟨_, _, U.s, hp, rfl⟩, FrB.low hp hd (cast _ hp i1) (cast _ hd i2)⟩
def a7J (K : W.Frag) (Pt : Addr) : Sp := fun vs H Q _ => ∃ (ba : Addr) (hv : V) (xs : List V) (hs : List i8) (h : i8) (z : Str) (far : Int) (kt kg : Nat), vs = [.ref ba, hv, .str z] /\ V6 z /\ N1 K H ba xs hs far kt kg /\ 1 <= kt /\ HS K H hv h /\ HG far kt kg h /\ LT Pt H ∧
  (∀ (x : Q2) (H' : Hp) (u : V), ShB z hs h kt kg x -> Same1 Pt H H' -> LT Pt H' -> FrT H' u x -> Q u H') /\ ∀ H' : Hp, IsNone z hs h kt kg -> Same1 Pt H H' -> LT Pt H' -> Q .non H'
theorem a7r (F : FnOk P w K mg base G8 n f fd ["houses", "house", "sizes"] (Z9 K Pt)) : FnOk P w K mg base G8 n f fd ["houses", "house", "sizes"] (a7J K Pt) := F.imp fun vs H Q E h => by
  obtain ⟨ba, hv, xs, hs, h, z, far, kt, kg, rfl, hz, B, kt1, hH, gh, L, kG, kN⟩ := h
  exact ⟨ba, hv, xs, hs, h, z, far, kt, kg, rfl, hz, B, hH, gh, L, fun S H' u Bs e L' hu => kG _ H' u (Bs.b hz B.g gh B.far B.few kt1 B.t B.k) e L' hu, fun S H' c O hc hneg hno e L' => kN H' (none_of hz O hc hneg hno B.g gh) e L'⟩
end
end Rim
namespace Rim
open PySem L2 Fr
section
variable {P : Program} {w : World} {K : W.Frag} {mg : Str -> Option Value} {base : Heap} {f Pt CN : Addr} {fd : FuncData} {n : Nat}
end
section
variable {P : Program} {w : World} {K : W.Frag} {mg : Str -> Option Value} {base : Heap} {f Pt CN : Addr} {fd : FuncData} {n : Nat}
end
end Rim
namespace Rim
open PySem L2 Fr
section
variable {P : Program} {w : World} {K : W.Frag} {mg : Str -> Option Value} {base : Heap} {f Pt CN : Addr} {fd : FuncData} {n : Nat}
def a7b (K : W.Frag) (CN Pt : Addr) : Sp := fun vs H Q E => ∃ (ba : Addr) (xs : List V) (hs : List i8) (number : Int) (z : Str) (far : Int) (kt kg : Nat), vs = [.ref ba, .int number, .str z] /\ V6 z /\ N1 K H ba xs hs far kt kg /\ 1 <= kt /\ number.natAbs.log2 < 1920 /\ LT Pt H ∧
  (∀ (i : Nat) (h : i8) (x : Q2) (H' : Hp) (u : V), number = (i : Int) -> hs[i]? = some h -> ShB z hs h kt kg x -> Same1 Pt H H' -> LT Pt H' -> FrT H' u x -> Q u H') /\ (¬ a5j xs.length number -> E (.ref CN) none H)
theorem a5e (F : FnOk P w K mg base (CX1 P w) n f fd ["book", "number", "sizes"] (a2a K CN Pt)) : FnOk P w K mg base (CX1 P w) n f fd ["book", "number", "sizes"] (a7b K CN Pt) := F.imp fun vs H Q E h => by
  obtain ⟨ba, xs, hs, number, z, far, kt, kg, rfl, hz, B, kt1, lm, L, kG, kE⟩ := h
  exact ⟨ba, xs, hs, number, z, far, kt, kg, rfl, hz, B, lm, L, fun i h S H' u hi hh Bs e L' hu => kG i h _ H' u hi hh (Bs.b hz B.g (B.g h (List.mem_of_getElem? hh)) B.far B.few kt1 B.t B.k) e L' hu, kE⟩
def a1a (K : W.Frag) (CB Pt : Addr) : Sp := fun vs H Q E => ∃ (ba : Addr) (hv : V) (xs : List V) (hs : List i8) (h : i8) (z : Str) (far : Int) (kt kg : Nat), vs = [.ref ba, hv, .str z] /\ V6 z /\ N1 K H ba xs hs far kt kg /\ 1 <= hs.length /\ 1 <= kt /\ HS K H hv h /\ LT Pt H ∧
  (h.1.length = kt -> h.2.length = kg -> HG far kt kg h /\ (∀ (x : Q2) (H' : Hp) (u : V), ShB z hs h kt kg x -> Same1 Pt H H' -> LT Pt H' -> FrT H' u x -> Q u H') /\ ∀ H' : Hp, IsNone z hs h kt kg -> Same1 Pt H H' -> LT Pt H' -> Q .non H') ∧
  (¬ (h.1.length = kt /\ h.2.length = kg) -> E (.ref CB) none H)
theorem a3f {CB f1 f3 : Addr} {d1 d3 : FuncData} (F : Fun K "share_against" "share_against" a0Q f fd) (kN : R7 K CB) (mN : mg "NoBook" = some (.ref CB)) (Cl : a1k P w K mg base n "are_like_counts" ["house", "other"] (a6y K) f1 d1)
    (Ce : a1k P w K mg base n "held_against" ["houses", "house", "sizes"] (Z9 K Pt) f3 d3) : FnOk P w K mg base (CX1 P w) (n + 1) f fd ["book", "house", "sizes"] (a1a K CB Pt) := by
  have Ce' := a7r Ce.ok
  refine F.ok1 b2n (fun vs H Q E h => ?_) (fun cdv A outer s H vs Q E hr h => ?_)
  . obtain ⟨ba, hv, xs, hs, h, z, far, kt, kg, rfl, _⟩ := h
    rfl
  obtain ⟨ba, hv, xs, hs, h, z, far, kt, kg, rfl, hz, B, h1, kt1, hH, L, kG, kE⟩ := h
  refine ⟨_, j0 (A5 (P5 (Q1 (m8 Cl.ok hr rfl Cl.m Cl.k Cl.b .nil v8 (c5 (j6 j5 (pv 0) c6 (fun _ _ => rfl)) (c5 (pv 1) c7))))) (j4 (a2Z kN rfl mN hr.hd (c5 J7 c7))) t0)
    (PSs.nox (j4 (t7 (m8 Ce' hr rfl Ce.m Ce.k Ce.b .nil v8 (c5 (pv 0) (c5 (pv 1) (c5 (pv 2) c7))))))), ?_⟩
  have xl : xs.length = hs.length := Paired.length B.b
  obtain ⟨x0, hx0⟩ : ∃ x0, xs[0]? = some x0 := ⟨_, List.getElem?_eq_getElem (by omega)⟩
  obtain ⟨g0, hg0, hH0⟩ := Paired.at B.b hx0
  have gg := B.g g0 (List.mem_of_getElem? hg0)
  refine ⟨_, rfl, ba, _, 0, _, rfl, rfl, B.l, y6 (j := 0) hx0, _, rfl, x0, hv, g0, h, rfl, hH0, hH, _, rfl, ?_⟩
  rw [gg.lt, gg.lg]
  refine D8 (fun c => ?_) (fun c => ?_)
  . have c' : ¬ (h.1.length = kt /\ h.2.length = kg) := fun z => by rw [decide_eq_true (show kt = h.1.length /\ kg = h.2.length from ⟨z.1.symm, z.2.symm⟩)] at c; cases c
    exact ⟨(by show 1 <= 1000; decide), kE c'⟩
  . have c' : kt = h.1.length /\ kg = h.2.length := by
      cases e : decide (kt = h.1.length /\ kg = h.2.length) with
      | true => exact of_decide_eq_true e
      | false => rw [e] at c; exact absurd rfl c
    obtain ⟨gh, k1, k2⟩ := kG c'.1.symm c'.2.symm
    exact ⟨_, rfl, _, rfl, _, rfl, ba, hv, xs, hs, h, z, far, kt, kg, rfl, hz, B, kt1, hH, gh, L, k1, k2⟩
end
end Rim
namespace L2
open PySem PySem.W
theorem W9 {K : Frag} {C : Addr} {B : List Value} {nid : String} (q : excIn K C B nid = true) : ∃ nm qn N bs bm hdct sn sub ab col dd k0 k1 k2 k3 k5, K.lookup C = some (excClassObj nm qn C N bs bm hdct sn sub ab col dd k0 k1 k2 k3 k5 nid) /\ nsOkIn K N = true /\ nsIn K N "__init__" = some none /\ tailIn K B bm = true := by
  unfold excIn at q
  split at q
  . rename_i e1 e2 e3 lk
    split at q
    . rename_i C' bm w0 w1 w2 w3 nn w5 em es
      simp only [Bool.and_eq_true, beq_iff_eq, Bool.not_eq_true'] at q
      obtain ⟨⟨⟨⟨⟨u1, u2⟩, u3⟩, u4⟩, u5⟩, u6⟩ := q
      cases u1
      cases u2
      obtain ⟨n1, n2, n3, n4, n5, n6, n7, n8, n9, n10, n11⟩ := e2
      obtain ⟨ls⟩ := e3
      replace em : n3 = _ := em
      replace u3 : n11 = false := u3
      replace es : ls = _ := es
      subst em u3 es
      exact ⟨n1, n5, n4, n2, bm, n6, n7, n8, n9, n10, e1, w0, w1, w2, w3, w5, lk, u5, u6, u4⟩
    . cases q
  . cases q
def FunI (K : Frag) (x qual : Str) (st : Stmt) (f : Addr) (cd : Value) : Prop := ∃ oc od kV dc pm an ct sl, K.lookup f = some ⟨oc, od, .func (fnOf x qual (G3 st) (y4 st) (i9 st) .none kV dc pm an cd ct), sl⟩ /\ codeIn K cd qual = true /\ keepIn K (.ref f) = true
theorem fun_in {K : Frag} {x qual : Str} {st : Stmt} {f : Addr} {cd oc kV dc pm ct : Value} {od an : Option Addr} {sl : Array (Option Value)} (l : K.lookup f = some ⟨oc, od, .func (fnOf x qual (G3 st) (y4 st) (i9 st) .none kV dc pm an cd ct), sl⟩) (c : codeIn K cd qual = true) (k : keepIn K (.ref f) = true) : FunI K x qual st f cd := ⟨_, _, _, _, _, _, _, _, l, c, k⟩
theorem FunI.fn {K : Frag} {x qual : Str} {st : Stmt} {f : Addr} {cd : Value} (h : FunI K x qual st f cd) : ∃ fd, Fun K x qual st f fd /\ fd.code = cd /\ keepIn K (.ref f) = true := by
  obtain ⟨_, _, _, _, _, _, _, _, l, c, k⟩ := h
  exact ⟨_, a6z l c k, rfl, k⟩
theorem Fun.b1 {K : Frag} {x qual : Str} {st : Stmt} {f : Addr} {fd : FuncData} {p0 : Str} (F : Fun K x qual st f fd) (h : ∀ (kV doc pm : Value) (an : Option Addr) (cdv ct v0 : Value), bindArgs (fnOf x qual (G3 st) (y4 st) (i9 st) .none kV doc pm an cdv ct) ⟨[v0], []⟩ = pure [(p0, v0)]) : Binds K fd [p0] [] :=
  F.binds fun a b c d e g us hl => match us, hl with | [v0], _ => h a b c d e g v0
theorem Fun.b2 {K : Frag} {x qual : Str} {st : Stmt} {f : Addr} {fd : FuncData} {p0 p1 : Str} (F : Fun K x qual st f fd) (h : ∀ (kV doc pm : Value) (an : Option Addr) (cdv ct v0 v1 : Value), bindArgs (fnOf x qual (G3 st) (y4 st) (i9 st) .none kV doc pm an cdv ct) ⟨[v0, v1], []⟩ = pure [(p0, v0), (p1, v1)]) : Binds K fd [p0, p1] [] :=
  F.binds fun a b c d e g us hl => match us, hl with | [v0, v1], _ => h a b c d e g v0 v1
theorem Fun.b3 {K : Frag} {x qual : Str} {st : Stmt} {f : Addr} {fd : FuncData} {p0 p1 p2 : Str} (F : Fun K x qual st f fd) (h : ∀ (kV doc pm : Value) (an : Option Addr) (cdv ct v0 v1 v2 : Value), bindArgs (fnOf x qual (G3 st) (y4 st) (i9 st) .none kV doc pm an cdv ct) ⟨[v0, v1, v2], []⟩ = pure [(p0, v0), (p1, v1), (p2, v2)]) : Binds K fd [p0, p1, p2] [] :=
  F.binds fun a b c d e g us hl => match us, hl with | [v0, v1, v2], _ => h a b c d e g v0 v1 v2
theorem Fun.b4 {K : Frag} {x qual : Str} {st : Stmt} {f : Addr} {fd : FuncData} {p0 p1 p2 p3 : Str} (F : Fun K x qual st f fd) (h : ∀ (kV doc pm : Value) (an : Option Addr) (cdv ct v0 v1 v2 v3 : Value), bindArgs (fnOf x qual (G3 st) (y4 st) (i9 st) .none kV doc pm an cdv ct) ⟨[v0, v1, v2, v3], []⟩ = pure [(p0, v0), (p1, v1), (p2, v2), (p3, v3)]) : Binds K fd [p0, p1, p2, p3] [] :=
  F.binds fun a b c d e g us hl => match us, hl with | [v0, v1, v2, v3], _ => h a b c d e g v0 v1 v2 v3
end L2
namespace Rim
open PySem L2 Fr
structure b0e (K : W.Frag) (mg : Str -> Option Value) (cE cB cH cR cT cM cL : Addr) : Prop where
  mE : mg "RimError" = some (.ref cE)
  mB : mg "NoBook" = some (.ref cB)
  mH : mg "NoHouse" = some (.ref cH)
  mR : mg "NoRow" = some (.ref cR)
  mT : mg "NoText" = some (.ref cT)
  mM : mg "TooMany" = some (.ref cM)
  mL : mg "NothingLeft" = some (.ref cL)
  kE : R7 K cE
structure a7x (K : W.Frag) (c cE cB cH cR cT cM cL : Addr) (b1 b2 b3 b4 b5 b6 : Bool) : Prop where
  k : R7 K c
  sub : W.mroIn K c (.ref cE) = some true
  i1 : W.kitOne K (.ref c) (.ref cB) = some b1
  i2 : W.kitOne K (.ref c) (.ref cH) = some b2
  i3 : W.kitOne K (.ref c) (.ref cR) = some b3
  i4 : W.kitOne K (.ref c) (.ref cT) = some b4
  i5 : W.kitOne K (.ref c) (.ref cM) = some b5
  i6 : W.kitOne K (.ref c) (.ref cL) = some b6
  v : W.kitOne K (.ref c) (.type "ValueError") = some true
abbrev a8J (b1 b2 b3 b4 b5 b6 : Bool) : List V := [.bl b1, .bl b2, .bl b3, .bl b4, .bl b5, .bl b6, .bl true]
section
variable {P : Program} {w : World} {K : W.Frag} {mg : Str -> Option Value} {base : Heap} {f g : Addr} {fd gd : FuncData} {n : Nat}
def a7c (K : W.Frag) (cE cB cH cR cT cM cL : Addr) : Sp := fun vs H Q _ => ∃ (ea c : Addr) (b1 b2 b3 b4 b5 b6 : Bool), vs = [.ref ea] /\ H ea = some (a5b ea c) /\ a7x K c cE cB cH cR cT cM cL b1 b2 b3 b4 b5 b6 /\ ∀ (r : Addr) (H' : Hp), Same H H' -> H' r = some (.lst (a8J b1 b2 b3 b4 b5 b6)) -> Q (.ref r) H'
theorem scKin : m6 ["e", "kin"] ["e"] (i9 Q0) := ⟨rfl, rfl, rfl, by decide +kernel, rfl, by decide +kernel, by decide +kernel⟩
theorem a8C : bootBuiltins "ValueError" = some (.type "ValueError") := by decide +kernel
set_option maxHeartbeats 4000000 in
theorem a8y {cE cB cH cR cT cM cL : Addr} (F : Fun K "_law_a_kin" "_law_a_kin" Q0 f fd) (T : B7 mg) (R : b0e K mg cE cB cH cR cT cM cL) : FnU P w K mg base (n + 1) f fd ["e"] (a7c K cE cB cH cR cT cM cL) := by
  refine F.okU scKin (fun vs H Q E h => ?_) (fun cdv A outer s H vs Q E hr h => ?_)
  . obtain ⟨ea, c, b1, b2, b3, b4, b5, b6, rfl, _⟩ := h
    rfl
  obtain ⟨ea, c, b1, b2, b3, b4, b5, b6, rfl, he, M, q⟩ := h
  refine ⟨_, j0 (l0 (i := 1) scKin.nd rfl (Or.inl rfl) (x6 (c5 (j8 D3 rfl T.isi PyProof.Rows.boot_isinstance (c5 (pv 0) (c5 (N8 (v := .ref cB) rfl R.mB rfl) c7)))
      (c5 (j8 D3 rfl T.isi PyProof.Rows.boot_isinstance (c5 (pv 0) (c5 (N8 (v := .ref cH) rfl R.mH rfl) c7)))
      (c5 (j8 D3 rfl T.isi PyProof.Rows.boot_isinstance (c5 (pv 0) (c5 (N8 (v := .ref cR) rfl R.mR rfl) c7)))
      (c5 (j8 D3 rfl T.isi PyProof.Rows.boot_isinstance (c5 (pv 0) (c5 (N8 (v := .ref cT) rfl R.mT rfl) c7))) c7))))))
    (j4 (t7 (j3 D6 (pv 1) (x6 (c5 (j8 D3 rfl T.isi PyProof.Rows.boot_isinstance (c5 (pv 0) (c5 (N8 (v := .ref cM) rfl R.mM rfl) c7)))
      (c5 (j8 D3 rfl T.isi PyProof.Rows.boot_isinstance (c5 (pv 0) (c5 (N8 (v := .ref cL) rfl R.mL rfl) c7)))
      (c5 (j8 D3 rfl T.isi PyProof.Rows.boot_isinstance (c5 (pv 0) (c5 (a0x (v := .ty "ValueError") rfl T.ve a8C rfl) c7))) c7))))))), ?_⟩
  refine ⟨_, rfl, ea, c, _, b1, rfl, he, M.k, fun u ru => by cases ru; exact M.i1, _, rfl, ea, c, _, b2, rfl, he, M.k, fun u ru => by cases ru; exact M.i2, _, rfl, ea, c, _, b3, rfl, he, M.k, fun u ru => by cases ru; exact M.i3,
    _, rfl, ea, c, _, b4, rfl, he, M.k, fun u ru => by cases ru; exact M.i4, (by show 4 <= sizeLine; decide), fun l1 hl1 => ?_⟩
  have s1 := Same.new hl1 (.lst [V.bl b1, V.bl b2, V.bl b3, V.bl b4])
  have he1 := s1 _ _ he
  refine ⟨_, rfl, _, rfl, ea, c, _, b5, rfl, he1, M.k, fun u ru => by cases ru; exact M.i5, _, rfl, ea, c, _, b6, rfl, he1, M.k, fun u ru => by cases ru; exact M.i6, _, rfl, ea, c, _, true, rfl, he1, M.k, fun u ru => by cases ru; exact M.v, (by show 3 <= sizeLine; decide), fun l2 hl2 => ?_⟩
  have s2 := Same.new hl2 (.lst [V.bl b5, V.bl b6, V.bl true])
  refine ⟨l1, l2, _, _, rfl, rfl, s2 _ _ upd_same, upd_same, (by show 7 <= sizeLine; decide), fun l3 hl3 => ?_⟩
  exact q l3 _ (s1.trans (s2.trans (Same.new hl3 _))) upd_same
abbrev b2l (x : Str) : List V := a8J (decide (V.str "NoBook" = V.str x)) (decide (V.str "NoHouse" = V.str x)) (decide (V.str "NoRow" = V.str x)) (decide (V.str "NoText" = V.str x)) (decide (V.str "TooMany" = V.str x)) (decide (V.str "NothingLeft" = V.str x))
def a7n : Sp := fun vs H Q _ => ∃ x : Str, vs = [.str x] /\ ∀ (r : Addr) (H' : Hp), Same H H' -> H' r = some (.lst (b2l x)) -> Q (.ref r) H'
theorem scDue : m6 ["name", "names"] ["name"] (i9 M9) := ⟨rfl, rfl, rfl, by decide +kernel, rfl, by decide +kernel, by decide +kernel⟩
theorem b0P : (["one", "name"] : List Str).Nodup := by decide +kernel
theorem a8U (F : Fun K "_law_due_kin" "_law_due_kin" M9 f fd) (T : B7 mg) : FnOk P w K mg base G8 (n + 1) f fd ["name"] a7n := by
  refine F.ok scDue (fun vs H Q E h => ?_) (fun cdv A outer s H vs Q E hr h => ?_)
  . obtain ⟨x, rfl, _⟩ := h
    rfl
  obtain ⟨nm, rfl, q⟩ := h
  refine ⟨_, j0 (l0 (i := 1) scDue.nd rfl (Or.inl rfl) (x6 (c5 J7 (c5 J7 (c5 J7 (c5 J7 (c5 J7 (c5 J7 c7))))))))
    (j4 (t7 (j3 D6 (R0 ["one"] [0] rfl (G5 (pv 1)) (fun _ _ _ _ => m9 (i := 0) b0P rfl (Or.inl rfl)) (fun _ _ _ _ => E4 R6 (pv 0) (pv 1) (r6 _))) (x6 (c5 a3Y c7))))), ?_⟩
  refine ⟨(by show 6 <= sizeLine; decide), fun l1 hl1 => ?_⟩
  have s1 := Same.new hl1 (.lst [.str "NoBook", .str "NoHouse", .str "NoRow", .str "NoText", .str "TooMany", .str "NothingLeft"])
  refine ⟨_, rfl, l1, rfl, ⟨_, SqL.of upd_same⟩, fun p hp => ?_⟩
  refine M8 (E1 (SqL.of upd_same)) hp (by decide) (fun x => .bl (decide (x = .str nm))) (fun i x H' N hx e hN => ?_) ?_
  . have hy : ∃ y, x = .str y := by
      have := List.mem_of_getElem? hx
      simp only [List.mem_cons, List.not_mem_nil, or_false] at this
      rcases this with rfl | rfl | rfl | rfl | rfl | rfl <;> exact ⟨_, rfl⟩
    obtain ⟨y, rfl⟩ := hy
    exact ⟨Wk.set (by decide), _, rfl, _, rfl, rfl, hN⟩
  . have s2 := Same.new hp (.lst (List.map (fun x => V.bl (decide (x = V.str nm))) [.str "NoBook", .str "NoHouse", .str "NoRow", .str "NoText", .str "TooMany", .str "NothingLeft"]))
    refine ⟨(by show 1 <= sizeLine; decide), fun l2 hl2 => ?_⟩
    have s3 := Same.new hl2 (.lst [V.bl true])
    refine ⟨p, l2, _, _, rfl, rfl, s3 _ _ upd_same, upd_same, (by show 7 <= sizeLine; decide), fun l3 hl3 => ?_⟩
    exact q l3 _ (s1.trans (s2.trans (s3.trans (Same.new hl3 _)))) (by rw [upd_same]; congr 2)
structure b1V (P : Program) (w : World) (K : W.Frag) (mg : Str -> Option Value) (base : Heap) (n : Nat) (x : Str) (ps : List Str) (sp : Sp) (fa : Addr) (d : FuncData) : Prop where
  ok : FnU P w K mg base n fa d ps sp
  b : Binds K d ps []
  k : W.keepIn K (.ref fa) = true
  m : mg x = some (.ref fa)
def a7A (b1 b2 b3 b4 b5 b6 : Bool) : PyData := .list [.bool b1, .bool b2, .bool b3, .bool b4, .bool b5, .bool b6, .bool true]
theorem a4o {K : W.Frag} {H : Hp} {a : Addr} {b1 b2 b3 b4 b5 b6 : Bool} (h : H a = some (.lst (a8J b1 b2 b3 b4 b5 b6))) : Dp K H (.ref a) (a7A b1 b2 b3 b4 b5 b6) :=
  .lst (SqL.of h) (.cons (.bl _) (.cons (.bl _) (.cons (.bl _) (.cons (.bl _) (.cons (.bl _) (.cons (.bl _) (.cons (.bl _) .nil)))))))
end
end Rim
namespace L2
open PySem
section
variable {K : W.Frag} {l : Addr} {fr : List Nat} {tc : TT} {σ : St} {H1 : Hp} {p : Addr} {D : Hp -> Prop} {xs : List V}
end
end L2
namespace Rim
open PySem L2 Fr
abbrev b2H (hs : List i8) (left : List Nat) : List i8 := left.map fun k => hs.getD k ([], [])
noncomputable def plc (z : Str) (hs : List i8) (left : List Nat) : List Nat := b2p z (b2H hs left)
noncomputable def lvl (z : Str) (hs : List i8) (left : List Nat) : List Nat := (plc z hs left).map fun k => left.getD k 0
noncomputable def rst (z : Str) (hs : List i8) (left : List Nat) : List Nat := ((List.range left.length).filter fun k => !(plc z hs left).contains k).map fun k => left.getD k 0
noncomputable def lev (z : Str) (hs : List i8) : Nat -> List Nat -> List (List Nat)
  | 0, _ => []
  | n + 1, left => if left = [] then [] else lvl z hs left :: lev z hs n (rst z hs left)
abbrev b0E (l : List Nat) : List V := l.map fun (k : Nat) => V.int (k : Int)
section
variable {z : Str} {hs : List i8} {far : Int} {kt kg : Nat} {left : List Nat}
end
def a9v (H : Hp) (as : List Addr) (ls : List (List Nat)) : Prop := as.length = ls.length /\ ∀ (k : Nat) a l, as[k]? = some a -> ls[k]? = some l -> H a = some (.lst (b0E l))
section
variable {P : Program} {w : World} {K : W.Frag} {mg : Str -> Option Value} {base : Heap} {f Pt d : Addr} {fd : FuncData} {n : Nat} {C : Addr}
end
end Rim
namespace Rim
open PySem L2 Fr
section
variable {P : Program} {w : World} {K : W.Frag} {mg : Str -> Option Value} {base : Heap} {f Pt d : Addr} {fd : FuncData} {n : Nat} {C : Addr}
structure b3p (z : Str) (hs : List i8) (H H' : Hp) (Pt td la : Addr) (left : List Nat) (as : List Addr) (done : List (List Nat)) : Prop where
  e : Same1 Pt H H'
  L : LT Pt H'
  tdn : H td = none
  told : H' td = some (.lst (as.map V.ref))
  lst : H' la = some (.lst (b0E left))
  at_ : a9v H' as done
  new : ∀ a ∈ as, H a = none /\ a ≠ td
  lt : ∀ k ∈ left, k < hs.length
  all : ∃ m, left.length <= m /\ done ++ lev z hs m left = lev z hs hs.length (List.range hs.length)
  few : done.length + left.length <= hs.length
end
end Rim
namespace Rim
open PySem L2 Fr
end Rim
namespace L2
open PySem
section
variable {fr : List Nat} {tc : TT} {te : TE} {σ : St} {H1 : Hp} {p : Addr} {D : Hp -> Prop} {n : Nat}
end
end L2
namespace Rim
open PySem L2 Fr
section
variable {P : Program} {w : World} {K : W.Frag} {mg : Str -> Option Value} {base : Heap} {f Pt d : Addr} {fd : FuncData} {n : Nat} {C : Addr}
end
end Rim
namespace Rim
open PySem L2 Fr
section
variable {P : Program} {w : World} {K : W.Frag} {mg : Str -> Option Value} {base : Heap} {f Pt d : Addr} {fd : FuncData} {n : Nat} {C : Addr}
def a2W (K : W.Frag) : Sp := fun vs H Q _ => ∃ (ba a : Addr) (xs : List V) (hs : List i8) (ns : List Int) (far : Int) (kt kg : Nat), vs = [.ref ba, .ref a] /\ H ba = some (.lst xs) /\ Bk K H xs hs /\ (∀ h ∈ hs, HG far kt kg h) /\ 1 <= hs.length /\ hs.length <= 16 /\ 1 <= kt /\ kt <= 4 /\ 1 <= kg /\ kg <= 4 /\ 1000 <= far /\ SqL K H a (ns.map V.int) ∧
  ∀ (r : Addr) (H' : Hp) (xs' : List V) (hs' : List i8) (kt' kg' : Nat), Same H H' -> H' r = some (.lst xs') -> Bk K H' xs' hs' -> (∀ h ∈ hs', HG far kt' kg' h) -> 1 <= hs'.length -> hs'.length <= 16 -> 1 <= kt' -> kt' <= 4 -> 1 <= kg' -> kg' <= 4 -> Q (.ref r) H'
theorem scOm : m6 ["book", "script", "picks", "far"] ["book", "script"] (i9 a1Y) := ⟨rfl, rfl, rfl, by decide +kernel, rfl, by decide +kernel, by decide +kernel⟩
theorem b2o : (["pick", "far"] : List Str).Nodup := by decide +kernel
set_option maxHeartbeats 4000000 in
theorem a5I {f1 f2 : Addr} {d1 d2 : FuncData} (F : Fun K "_law_or_many" "_law_or_many" a1Y f fd) (N : B7 mg) (Cc : Cal P w K mg base n "_law_cell_at" ["script", "k"] (a0R K) f1 d1) (Cd : Cal P w K mg base n "_law_draws" ["cell", "many", "base"] (Y6 K) f2 d2) :
    FnOk P w K mg base G8 (n + 1) f fd ["book", "script"] (a2W K) := by
  refine F.ok scOm (fun vs H Q E h => ?_) (fun cdv A outer s H vs Q E hr h => ?_)
  . obtain ⟨ba, a, xs, hs, ns, far, kt, kg, rfl, _⟩ := h
    rfl
  obtain ⟨ba, a, xs, hs, ns, far, kt, kg, rfl, hba, hB, hG, n1, n16, kt1, kt4, kg1, kg4, hf, hS, k⟩ := h
  refine ⟨_, j0 (l0 (i := 2) scOm.nd rfl (Or.inl rfl) (m8 Cd.ok hr rfl Cd.m Cd.k Cd.b .nil v8 (c5 (j3 A4 (m8 Cc.ok hr rfl Cc.m Cc.k Cc.b .nil v8 (c5 (pv 1) (c5 c6 c7))) c6) (c5 c6 (c5 c6 c7)))))
    (j0 (A5 (r8 S7 (j3 v5 (j6 j5 (pv 2) c6 (fun _ _ => rfl)) c6) c6 (r6 _)) (j4 (t7 (pv 0))) t0)
    (j0 (l0 (i := 3) scOm.nd rfl (Or.inr rfl) (j6 j5 (x6 (c5 c6 (c5 c6 (c5 c6 c7)))) (j3 v5 (j6 j5 (pv 2) c6 (fun _ _ => rfl)) c6) (fun _ _ => rfl)))
    (j4 (t7 (R0 ["pick"] [3] rfl (G5 (B6 G4 (pv 2) F0 (C3 c6))) (fun _ _ _ _ => m9 (i := 0) b2o rfl (Or.inl rfl))
      (fun _ _ _ _ => D7 (c5 (D7 (c5 (j3 A4 c6 (j3 v5 (pv 0) (pv 1))) c7)) (c5 (D7 (c5 (j3 A4 c6 (j3 v5 (j3 N7 (pv 0) c6) c6)) c7)) c7)))))))), ?_⟩
  have s1k := j7 (show (1000 : Nat) <= 1000 from Nat.le_refl _)
  refine ⟨_, rfl, a, ns, 3, rfl, hS, by decide, fun c => ?_⟩
  refine ⟨_, _, rfl, rfl, _, 18, 1000, rfl, by decide, by decide, by decide, fun r H1 ds e1 hr1 ld bd => ?_⟩
  have at16 : ∀ j, j < 18 -> (ds.map V.int)[j]? = some (.int (ds.getD j 0)) := fun j hj => by
    rw [List.getElem?_map, List.getD_eq_getElem?_getD, List.getElem?_eq_getElem (by omega)]; rfl
  have nnd : ∀ j, 0 <= ds.getD j 0 := fun j => by
    rw [List.getD_eq_getElem?_getD]
    cases q : ds[j]? with
    | none => exact Int.le_refl _
    | some x => exact (bd x (List.mem_of_getElem? q)).1
  refine ⟨_, rfl, r, _, 16, _, rfl, rfl, SqL.of hr1, y6 (j := 16) (at16 16 (by decide)), _, _, rfl, rfl, (by show (0 : Int) < 6; decide), _, _, rfl, rfl, _, rfl, ?_⟩
  refine D8 (fun _ => ?_) (fun _ => ?_)
  . exact ⟨_, rfl, k ba H1 xs hs kt kg e1 (e1 _ _ hba) (hB.same e1) hG n1 n16 kt1 kt4 kg1 kg4⟩
  refine ⟨(by show 3 <= sizeLine; decide), fun l hl => ?_⟩
  have s1 := Same.new hl (.lst [V.int 40, V.int 1000, V.int 3])
  have hm0 := Int.emod_nonneg (ds.getD 17 0) (show (3 : Int) ≠ 0 by decide)
  have hm3 := Int.emod_lt_of_pos (ds.getD 17 0) (show (0 : Int) < 3 by decide)
  obtain ⟨fv, hfv, fv1, fv2⟩ : ∃ fv : Int, [V.int 40, V.int 1000, V.int 3][(ds.getD 17 0 % 3).toNat]? = some (.int fv) /\ 1 <= fv /\ fv <= 999 + 1 := by
    have : (ds.getD 17 0 % 3).toNat = 0 \/ (ds.getD 17 0 % 3).toNat = 1 \/ (ds.getD 17 0 % 3).toNat = 2 := by omega
    rcases this with q | q | q <;> rw [q]
    . exact ⟨40, rfl, by decide, by decide⟩
    . exact ⟨1000, rfl, by decide, by decide⟩
    . exact ⟨3, rfl, by decide, by decide⟩
  refine ⟨_, rfl, r, _, 17, _, rfl, rfl, SqL.of (s1 _ _ hr1), y6 (j := 17) (at16 17 (by decide)), _, _, rfl, rfl, (by show (0 : Int) < 3; decide), l, _, _, .int fv, rfl, rfl, SqL.of upd_same, ?_, ?_⟩
  . have : ds.getD 17 0 % 3 = ((ds.getD 17 0 % 3).toNat : Int) := by omega
    rw [this]; exact y6 hfv
  refine ⟨_, rfl, _, rfl, r, _, rfl, SqL.of (s1 _ _ hr1), fun sl hsl => ?_⟩
  have ec : A6 (ds.map V.int) none (some 16) = (ds.take 16).map V.int := by
    have := a0f (ds.map V.int) 16 (by rw [List.length_map]; omega)
    rw [<- List.map_take] at this
    exact this
  rw [ec]
  have s2 := s1.trans (Same.new hsl (.lst ((ds.take 16).map V.int)))
  refine ⟨sl, rfl, ⟨_, SqL.of upd_same⟩, fun p hp => ?_⟩
  have ldt : (ds.take 16).length = 16 := by rw [List.length_take]; omega
  refine a2e (E1 (SqL.of upd_same)) hp (by rw [List.length_map, ldt]; omega) (fun j y H2 => ∃ h : i8, HS K H2 y h /\ HG far 1 1 h /\ (∃ a t g, y = .ref a /\ a ≠ p /\ t ≠ p /\ g ≠ p /\ H2 a = some (.tup [.ref t, .ref g]) /\ H2 t = some (.tup (h.1.map V.int)) /\ H2 g = some (.tup (h.2.map V.int))))
    (fun j y H2 H3 ⟨h, _, q2, a, t, g, hy, n1, n2, n3, z1, z2, z3⟩ e => ⟨h, ⟨a, t, g, hy, SqT.of (e _ _ n1 z1), SqT.of (e _ _ n2 z2), SqT.of (e _ _ n3 z3)⟩, q2, a, t, g, hy, n1, n2, n3, e _ _ n1 z1, e _ _ n2 z2, e _ _ n3 z3⟩) (fun j x H2 ys N' hx e hp2 hN => ?_) (fun ys H2 e hp2 len pr => ?_)
  . obtain ⟨x', rfl, hxm⟩ := Y5 hx
    have b0 := bd x' (List.mem_of_mem_take hxm)
    refine ⟨Wk.set (by decide), ?_⟩
    refine ⟨_, rfl, _, rfl, _, _, rfl, rfl, (by show (0 : Int) < fv; omega), _, _, rfl, rfl, (by show 1 <= sizeLine; decide), fun t ht => ?_⟩
    have f1 := Same.new ht (.tup [V.int (1 + x' % fv)])
    refine ⟨_, rfl, _, _, rfl, rfl, ⟨by decide, by decide⟩, _, _, rfl, rfl, (by show (0 : Int) < 3; decide), _, _, rfl, rfl, (by show 1 <= sizeLine; decide), fun g hg => ?_⟩
    have f2 := f1.trans (Same.new hg (.tup [V.int (1 + x' / 8 % 3)]))
    refine ⟨(by show 2 <= sizeLine; decide), fun a' ha' => ?_⟩
    have f3 := f2.trans (Same.new ha' (.tup [V.ref t, V.ref g]))
    have m1 := Int.emod_nonneg x' (show fv ≠ 0 by omega)
    have m2 := Int.emod_lt_of_pos x' (show 0 < fv by omega)
    have m3 := Int.emod_nonneg (x' / 8) (show (3 : Int) ≠ 0 by decide)
    have m4 := Int.emod_lt_of_pos (x' / 8) (show (0 : Int) < 3 by decide)
    have ct := ((Same.new hg (.tup [V.int (1 + x' / 8 % 3)])).trans (Same.new ha' (.tup [V.ref t, V.ref g]))) t _ upd_same
    have cg := (Same.new ha' (.tup [V.ref t, V.ref g])) g _ upd_same
    have np : ∀ {b : Addr} {o : HO}, (upd (upd (upd H2 t (.tup [V.int (1 + x' % fv)])) g (.tup [V.int (1 + x' / 8 % 3)])) a' (.tup [V.ref t, V.ref g])) b = some o -> (∀ l, o ≠ .lst l) -> b ≠ p := fun {b o} q n z => by
      rw [z, f3 _ _ hp2] at q
      exact n _ (Option.some.inj q).symm
    refine hN _ _ f3 ⟨([1 + x' % fv], [1 + x' / 8 % 3]), ⟨a', t, g, rfl, SqT.of upd_same, SqT.of ct, SqT.of cg⟩, ⟨rfl, rfl, fun y hy => ?_, fun y hy => ?_, ⟨_, .head _, by omega⟩⟩, a', t, g, rfl, np upd_same nofun, np ct nofun, np cg nofun, upd_same, ct, cg⟩
    . rw [List.mem_singleton.mp hy]; omega
    . rw [List.mem_singleton.mp hy]; omega
  . have key : ∀ (l : List V), (∀ (j : Nat) y, l[j]? = some y -> ∃ h : i8, HS K H2 y h /\ HG far 1 1 h) -> ∃ hs', Bk K H2 l hs' /\ ∀ h ∈ hs', HG far 1 1 h := fun l => by
      induction l with
      | nil => intro _; exact ⟨[], .nil, nofun⟩
      | cons y r ih =>
        intro q
        obtain ⟨h, q1, q2⟩ := q 0 y rfl
        obtain ⟨hs', q3, q4⟩ := ih fun j x hx => q (j + 1) x (by simpa using hx)
        refine ⟨h :: hs', .cons q1 q3, fun x hx => ?_⟩
        rcases List.mem_cons.mp hx with rfl | hx
        . exact q2
        . exact q4 x hx
    obtain ⟨hs', q3, q4⟩ := key ys fun j y hy => by obtain ⟨h, z1, z2, _⟩ := pr j y hy; exact ⟨h, z1, z2⟩
    have ll : hs'.length = 16 := by rw [<- Paired.length q3, len, List.length_map, ldt]
    exact k p H2 ys hs' 1 1 (e1.trans (s2.trans e)) hp2 q3 q4 (by omega) (by omega) (by decide) (by decide) (by decide) (by decide)
end
end Rim
namespace Rim
open PySem L2 Fr
section
variable {z : Str} {hs hs' : List i8} {h h' : i8} {kt kg kt' kg' : Nat} {far : Int} {A B A' B' : Int}
theorem a8k (hz : V6 z) (I : IsShare z hs' h kt kg A' B') (J : IsShare z hs h kt kg A B) (hm : ∀ g ∈ hs, g ∈ hs') (hG : ∀ g ∈ hs', HG far kt kg g) (gh : HG far kt kg h) : A' * B <= A * B' := by
  obtain ⟨b, ⟨ws, D, S⟩, _⟩ := J
  obtain ⟨ws', S'⟩ := S.sub hm
  exact I.le hz (fun g hg => ⟨(hG g hg).lt, (hG g hg).lg⟩) gh.lt gh.lg b S'
theorem a5m (hz : V6 z) (N : IsNone z hs' h kt kg) (J : IsShare z hs h kt kg A B) (hm : ∀ g ∈ hs, g ∈ hs') (hG : ∀ g ∈ hs', HG far kt kg g) (gh : HG far kt kg h) : False := by
  obtain ⟨b, ⟨ws, D, S⟩, _⟩ := J
  obtain ⟨ws', S'⟩ := S.sub hm
  exact N.no hz (fun g hg => ⟨(hG g hg).lt, (hG g hg).lg⟩) gh S'.m S'.g
def Btr (g g' : i8) : Prop := (∀ j, g'.1.getD j 0 <= g.1.getD j 0) /\ ∀ j, g.2.getD j 0 <= g'.2.getD j 0
end
end Rim
namespace Rim
open PySem L2 Fr
section
variable {z : Str} {hs : List i8} {h h' : i8} {kt kg : Nat} {far : Int} {A B A' B' : Int}
theorem Shr.worse {ws : List Int} {D : Int} (S : Shr z hs h kt kg A B ws D) (hA : 0 <= A) (b : Btr h' h) : Shr z hs h' kt kg A B ws D :=
  ⟨S.m, fun j hj => Int.le_trans (S.t j hj) (Int.mul_le_mul_of_nonneg_right (Int.mul_le_mul_of_nonneg_right (b.1 j) hA) (Int.le_of_lt S.m.d)), fun j hj => Int.le_trans (Int.mul_le_mul_of_nonneg_right (b.2 j) (Int.le_of_lt S.m.d)) (S.g j hj)⟩
theorem a2P (hz : V6 z) (I : IsShare z hs h' kt kg A' B') (J : IsShare z hs h kt kg A B) (hA : 0 <= A) (b : Btr h' h) (hG : ∀ g ∈ hs, HG far kt kg g) (gh : HG far kt kg h') : A' * B <= A * B' := by
  obtain ⟨p, ⟨ws, D, S⟩, _⟩ := J
  exact I.le hz (fun g hg => ⟨(hG g hg).lt, (hG g hg).lg⟩) gh.lt gh.lg p (S.worse hA b)
theorem a0X (hz : V6 z) (N : IsNone z hs h' kt kg) (J : IsShare z hs h kt kg A B) (hA : 0 <= A) (b : Btr h' h) (hG : ∀ g ∈ hs, HG far kt kg g) (gh : HG far kt kg h') : False := by
  obtain ⟨p, ⟨ws, D, S⟩, _⟩ := J
  have S' := S.worse hA b
  exact N.no hz (fun g hg => ⟨(hG g hg).lt, (hG g hg).lg⟩) gh S'.m S'.g
end
end Rim
namespace L2
open PySem PySem.Spec PyProof.Rows
section
variable {X : Cx}
def b2f (K : W.Frag) : R2 := fun x y H Q => ∃ (p : Addr) (xs : List V) (ds : List PyData) (d : PyData), y = .ref p /\ SqL K H p xs /\ Dps K H xs ds /\ Dp K H x d /\ PyData.canLayAll0 ds = true /\ d.canLay0 = true /\ d.depth <= 50 /\ Q (.bl (ds.any fun e => PyData.eqv e d)) H
theorem a9x {k : Nat} (hr : Room k X.A) : X6 X (compareOp .In) (b2f X.K) := by
  intro pins s σ H x y v u Q I rx ry h
  obtain ⟨p, xs, ds, d, rfl, hq, hD, hd, c1, c2, dp, q⟩ := h
  cases ry
  obtain ⟨its, r, pl, hz⟩ := I.list hq
  obtain ⟨as, rs⟩ := hD.reads I r
  obtain ⟨bs, rx'⟩ := hd.reads I rx
  refine SeqAt.in_listAt (fun w => PyData.eqv (SeqAt.readOf s.heap w) d) pl.isList (SeqAt.items_eqAt (xs := ds) (as := as) (by simpa using rs) rx' c1 c2 (by have := hr.units; omega)) ⟨.bl _, H, I, rfl, ?_⟩
  have e1 : its.toArray.any (fun v => PyData.eqv (SeqAt.readOf s.heap v) d) = ds.any fun e => PyData.eqv e d := by
    rw [<- SeqAt.readsAll_map ds its as c1 rs, List.any_map, List.any_toArray]; rfl
  rw [e1]; exact q
def a8p (K : W.Frag) : V -> List V -> Hp -> VK -> Prop := fun x vs H Q => ∃ (l : Addr) (xs : List V) (y : V) (ds : List PyData) (d : PyData) (j : Nat), x = .ref l /\ vs = [y] /\ H l = some (.lst xs) /\ Dps K H xs ds /\ Dp K H y d /\ PyData.canLayAll0 ds = true /\ d.canLay0 = true /\ d.depth <= 50 ∧
  (∃ e, ds[j]? = some e /\ PyData.eqv e d = true) /\ (∀ i e, i < j -> ds[i]? = some e -> PyData.eqv e d = false) /\ Q (.int (j : Int)) H
theorem a5r {k : Nat} (hr : Room k X.A) : MtM X "list.index" (a8p X.K) := by
  intro pins s σ H x vs v us Q I rx rv h
  obtain ⟨l, xs, y, ds, d, j, rfl, rfl, hH, hD, hd, c1, c2, dp, ⟨e0, hj, he0⟩, hno, q⟩ := h
  cases rx
  obtain ⟨u, rfl, ru⟩ := rv.one
  obtain ⟨z, its, n, r, hl, e⟩ := I.lstM hH
  obtain ⟨as, rs⟩ := hD.reads I r
  obtain ⟨bs, rx⟩ := hd.reads I ru
  have em := SeqAt.readsAll_map ds its as c1 rs
  have at_ : ∀ (i : Nat) (hi : i < its.toArray.size), ds[i]? = some (SeqAt.readOf s.heap its.toArray[i]) := fun i hi => by
    have hi' : i < its.length := by simpa using hi
    rw [<- em, List.getElem?_map, List.getElem?_eq_getElem hi']
    simp
  have hjn : j < its.length := by
    have := (List.getElem?_eq_some_iff.mp hj).1
    rw [<- em, List.length_map] at this
    exact this
  have hjs : j < its.toArray.size := by simpa using hjn
  have hsz : its.toArray.size <= sizeLine := by
    rw [List.size_toArray, <- hl]; exact z
  have hsl : sizeLine = 16777216 := sizeLine_eq
  refine call_meets F.slot_list_index ⟨_, e, rfl⟩ F.entry_list_index (F.args_list_index_2 _ _) (SeqAt.list_indexAt l its.toArray n none #[] u (fun v => PyData.eqv (SeqAt.readOf s.heap v) d) j hjs (by omega) ?_ fun i hi hij => ?_) ⟨e, SeqAt.items_eqAt (xs := ds) (as := as) (by simpa using rs) rx c1 c2 (by have := hr.units; show X.A.units + 1 + min (PyData.depthAll ds) d.depth < cLine; omega), ?_⟩
  . have h1 := at_ j hjs
    rw [hj] at h1
    cases h1
    exact he0
  . have h1 := at_ i hi
    exact hno i _ hij h1
  . exact ⟨.int (j : Int), H, I.tok _, ⟨_, rfl⟩, q⟩
end
end L2
namespace Rim
open PySem L2 Fr
theorem a8A {ds : List Int} {j : Nat} (h : j < ds.length) : X7 (ds.map V.int) (j : Int) = some (.int (ds.getD j 0)) := y6 (by rw [List.getElem?_map, List.getD_eq_getElem?_getD, List.getElem?_eq_getElem h]; rfl)
abbrev KB : List V := a8J true false false false false false
def AgV (H : Hp) (u : V) (z : Str) (hs : List i8) (h : i8) (kt kg : Nat) : Prop := (∃ x, ShB z hs h kt kg x /\ FrT H u x) \/ (u = .non /\ IsNone z hs h kt kg)
theorem AgV.to1 {Pt : Addr} {H H' : Hp} {u : V} {z : Str} {hs : List i8} {h : i8} {kt kg : Nat} (L : LT Pt H) (e : Same1 Pt H H') (x : AgV H u z hs h kt kg) : AgV H' u z hs h kt kg := by
  rcases x with ⟨x, s, r⟩ | x
  . exact .inl ⟨x, s, r.to1 L e⟩
  . exact .inr x
section
variable {P : Program} {w : World} {K : W.Frag} {mg : Str -> Option Value} {base : Heap} {f Pt : Addr} {fd : FuncData} {n : Nat}
def a2C (K : W.Frag) (Pt : Addr) : Sp := fun vs H Q _ => ∃ (ba : Addr) (hv : V) (xs : List V) (hs : List i8) (h : i8) (z : Str) (far : Int) (kt kg : Nat), vs = [.ref ba, hv, .str z] /\ V6 z /\ N1 K H ba xs hs far kt kg /\ 1 <= hs.length /\ 1 <= kt /\ HS K H hv h /\ LT Pt H ∧
  (h.1.length = kt -> h.2.length = kg -> HG far kt kg h /\ ∀ (H' : Hp) (r kl : Addr) (u : V), AgV H' u z hs h kt kg -> Same1 Pt H H' -> LT Pt H' -> H' r = some (.tup [u, .ref kl]) -> H' kl = some (.lst []) -> Q (.ref r) H') ∧
  (¬ (h.1.length = kt /\ h.2.length = kg) -> ∀ (H' : Hp) (r kl : Addr), Same H H' -> H' r = some (.tup [.non, .ref kl]) -> H' kl = some (.lst KB) -> Q (.ref r) H')
theorem scTo : m6 ["book", "house", "sizes", "found", "kin", "e"] ["book", "house", "sizes"] (i9 R4) := ⟨rfl, rfl, rfl, by decide +kernel, rfl, by decide +kernel, by decide +kernel⟩
set_option maxHeartbeats 8000000 in
theorem a5g {cE cB cH cR cT cM cL fa fc : Addr} {da dc : FuncData} (F : Fun K "_law_told" "_law_told" R4 f fd) (T : B7 mg) (R : b0e K mg cE cB cH cR cT cM cL) (MB : a7x K cB cE cB cH cR cT cM cL true false false false false false)
    (Cc : a3H P w K mg base n "share_against" ["book", "house", "sizes"] (a1a K cB Pt) fa da) (Ck : b1V P w K mg base n "_law_a_kin" ["e"] (a7c K cE cB cH cR cT cM cL) fc dc) : FnOk P w K mg base G8 (n + 1) f fd ["book", "house", "sizes"] (a2C K Pt) := by
  refine F.ok scTo (fun vs H Q E h => ?_) (fun cdv A outer s H vs Q E hr h => ?_)
  . obtain ⟨ba, hv, xs, hs, h, z, far, kt, kg, rfl, _⟩ := h
    rfl
  obtain ⟨ba, hv, xs, hs, h, z, far, kt, kg, rfl, hz, B, n1, kt1, hS, L, kk, kX⟩ := h
  refine ⟨_, j0 (l0 (i := 3) scTo.nd rfl (Or.inl rfl) N3)
    (j0 (l0 (i := 4) scTo.nd rfl (Or.inl rfl) (x6 c7))
    (j0 (a9U (i := 5) R.kE scTo.nd rfl rfl rfl rfl R.mE
      (fun EX pn WE hx => j4 (l0 (i := 3) scTo.nd rfl (Or.inl rfl) (a7w Cc.ok hr rfl Cc.m Cc.k Cc.b hx (c5 (pv 0) (c5 (pv 1) (c5 (pv 2) c7))))))
      (fun ea => j4 (l0 (i := 4) scTo.nd rfl (Or.inl rfl) (a6M Ck.ok (hr.u _) rfl Ck.m Ck.k Ck.b (c5 (pv 5) c7)))))
    (j4 (t7 (D7 (c5 (pv 3) (c5 (pv 4) c7))))))), ?_⟩
  refine ⟨(by show 0 <= sizeLine; decide), fun kl hkl => ?_⟩
  have s1 := Same.new hkl (.lst [])
  have hkl1 : (upd H kl (.lst [])) kl = some (.lst []) := upd_same
  generalize upd H kl (.lst []) = H1 at *
  have L1 := L.same s1
  have B1 : N1 K H1 ba xs hs far kt kg := ⟨s1.seq B.l, Bk.same s1 B.b, B.g, B.far, B.few, B.t, B.k⟩
  refine ⟨fun σ' C _ H' => σ' = [some (.ref ba), some hv, some (.str z), some .non, some (.ref kl), none] /\ Same H H' /\ C = .ref cB /\ ¬ (h.1.length = kt /\ h.2.length = kg), ?_, ?_⟩
  . have fin : ∀ (H2 : Hp) (u : V), AgV H2 u z hs h kt kg -> Same1 Pt H1 H2 -> LT Pt H2 -> h.1.length = kt -> h.2.length = kg -> ∀ r, H2 r = none -> Q (.ref r) (upd H2 r (.tup [u, V.ref kl])) := fun H2 u a e L2 e1 e2 r hr' => by
      have s3 := Same.new hr' (.tup [u, V.ref kl])
      exact (kk e1 e2).2 _ r kl u (a.to1 L2 s3.to1) (s1.to1.trans (e.trans s3.to1)) (L2.same s3) upd_same (s3 _ _ (e.get L1 hkl1 nofun))
    refine ⟨_, rfl, _, rfl, _, rfl, ba, hv, xs, hs, h, z, far, kt, kg, rfl, hz, B1, n1, kt1, hS.same s1, L1, fun e1 e2 => ⟨(kk e1 e2).1, fun x H2 u X e L2 hu => ?_, fun H2 N e L2 => ?_⟩, fun bad => ⟨rfl, s1, rfl, bad⟩⟩
    . exact ⟨_, rfl, _, rfl, (by show 2 <= sizeLine; decide), fun r hr' => fin H2 u (.inl ⟨x, X, hu⟩) e L2 e1 e2 r hr'⟩
    . exact ⟨_, rfl, _, rfl, (by show 2 <= sizeLine; decide), fun r hr' => fin H2 .non (.inr ⟨rfl, N⟩) e L2 e1 e2 r hr'⟩
  . rintro σ' H' C ea d' ⟨rfl, e2, hc, bad⟩ hea Da hC
    cases hC
    cases hc
    refine ⟨MB.k, MB.sub, ?_⟩
    refine ⟨_, rfl, ea, _, _, _, _, _, _, _, rfl, upd_same, MB, fun r2 H3 e3 hr2 => ?_⟩
    refine ⟨_, rfl, _, rfl, (by show 2 <= sizeLine; decide), fun r hr' => ?_⟩
    have s3 := Same.new hr' (.tup [V.non, V.ref r2])
    exact kX bad _ r r2 (e2.trans ((Same.new hea _).trans (e3.trans s3))) upd_same (s3 _ _ hr2)
def a0n (K : W.Frag) : Sp := fun vs H Q _ => ∃ (v1 v2 : V), vs = [v1, v2] /\ (v2 = .non \/ ∃ (a b : Addr) (x y : Q2), v1 = .ref a /\ v2 = .ref b /\ FrV K H v1 x /\ FrV K H v2 y /\ (Big 1000000 x.1 /\ Big 1000000 x.2 /\ Big 1000000 y.1 /\ Big 1000000 y.2) /\ ¬ y.1 * x.2 < x.1 * y.2) /\ Q (.bl true) H
theorem b2T : m6 ["one", "other"] ["one", "other"] (i9 J5) := ⟨rfl, rfl, rfl, by decide +kernel, rfl, by decide +kernel, by decide +kernel⟩
theorem a2h {fa : Addr} {da : FuncData} (F : Fun K "_law_no_greater" "_law_no_greater" J5 f fd) (Cl : Cal P w K mg base n "_law_a_less" ["one", "other"] (a7k K) fa da) :
    FnOk P w K mg base G8 (n + 1) f fd ["one", "other"] (a0n K) := by
  refine F.ok b2T (fun vs H Q E h => ?_) (fun cdv A outer s H vs Q E hr h => ?_)
  . obtain ⟨v1, v2, rfl, _⟩ := h
    rfl
  obtain ⟨v1, v2, rfl, hc, q⟩ := h
  refine ⟨_, j4 (t7 (b0N (E4 a2s (pv 1) N3 (r6 _)) (a0W (a2k (E4 a2m (pv 0) N3 (r6 _)) (a0W (a7d (m8 Cl.ok hr rfl Cl.m Cl.k Cl.b .nil v8 (c5 (pv 1) (c5 (pv 0) c7))))))))), ?_⟩
  rcases hc with rfl | ⟨a, b, x, y, rfl, rfl, f1, f2, ⟨g1, g2, g3, g4⟩, le⟩
  . exact ⟨_, rfl, rfl, _, rfl, a2D q⟩
  . refine ⟨_, rfl, rfl, _, rfl, N5 ?_⟩
    refine ⟨_, rfl, rfl, _, rfl, a2D ?_⟩
    refine ⟨_, rfl, _, rfl, .ref b, .ref a, y, x, rfl, f2, f1, ⟨g3, g4, g1, g2⟩, _, rfl, ?_⟩
    rw [decide_eq_false le]; exact q
def a4i (K : W.Frag) : Sp := fun vs H Q _ => ∃ (ba pk : Addr) (xs : List V) (hs : List i8) (ds : List Int) (kt kg : Nat), vs = [.ref ba, .ref pk] /\ SqL K H ba xs /\ Bk K H xs hs /\ (∀ h ∈ hs, HG (10 ^ 9) kt kg h) /\ 1 <= hs.length /\ 1 <= kt /\ kt <= 4 /\ 1 <= kg /\ kg <= 4 /\ SqL K H pk (ds.map V.int) /\ 11 <= ds.length ∧
  ∀ (v : V) (h' : i8) (H' : Hp), Same H H' -> HS K H' v h' -> HG (10 ^ 9) kt kg h' -> Q v H'
theorem scAo : m6 ["book", "picks", "far", "takes", "gives"] ["book", "picks"] (i9 D0) := ⟨rfl, rfl, rfl, by decide +kernel, rfl, by decide +kernel, by decide +kernel⟩
theorem b0F : (["pick", "far"] : List Str).Nodup := by decide +kernel
set_option maxHeartbeats 4000000 in
noncomputable def aoT {cdv : Value} {A : Around} {outer : List Env} {s : Shared} {H : Hp} {E : XK} (T : B7 mg) (hr : Room n (A.deeper (PyProof.Rows.envOfC "_law_a_other" (i9 D0) s.heap.objs.size f cdv))) :
    { t : TS // PSs (M1 G8 P w K mg base ["book", "picks", "far", "takes", "gives"] "_law_a_other" (i9 D0) f cdv A outer s H E).nox (y4 D0) t } :=
  ⟨_, r9 (l0 (i := 2) scAo.nd rfl (Or.inr rfl) (j6 j5 (x6 (c5 c6 (c5 c6 (c5 (j3 W5 c6 c6) c7)))) (j3 v5 (j6 j5 (pv 1) c6 (fun _ _ => rfl)) c6) (fun _ _ => rfl)))
    (r9 (l0 (i := 3) scAo.nd rfl (Or.inl rfl) (u0 A8 rfl T.tuple PyProof.Rows.boot_tuple (c5 (R0 ["pick"] [2] rfl (G5 (B6 G4 (pv 1) F0 (C3 (j8 j9 rfl T.len PySem.boot_len (c5 (j6 B8 (j6 j5 (pv 0) c6 (fun _ _ => rfl)) c6 (fun _ _ => rfl)) c7))))) (fun _ _ _ _ => m9 (i := 0) b0F rfl (Or.inl rfl)) (fun _ _ _ _ => j3 A4 c6 (j3 v5 (pv 0) (pv 1)))) c7)))
    (r9 (a2I (i := 4) ["pick"] [2] scAo.nd rfl rfl rfl (G5 (B6 G4 (pv 1) (C3 c6) (C3 (j3 A4 c6 (j8 j9 rfl T.len PySem.boot_len (c5 (j6 B8 (j6 j5 (pv 0) c6 (fun _ _ => rfl)) c6 (fun _ _ => rfl)) c7)))))) (fun _ _ _ _ => m9 (i := 0) b0F rfl (Or.inl rfl)) (fun _ _ _ _ => j3 P7 (j3 v5 (pv 0) (pv 1)) (u0 a0h rfl T.int PyProof.Rows.boot_int (c5 (E4 S7 (j3 v5 (pv 0) c6) c6 (r6 _)) c7))))
    (r9 (A5 (r8 R6 (j8 (T8 rfl) rfl T.max PyProof.Rows.boot_max (c5 (pv 4) c7)) c6 (r6 _)) (j4 (J3 c6 (O3 (pv 4) c6 E8))) t0)
    (j4 (t7 (D7 (c5 (pv 3) (c5 (u0 A8 rfl T.tuple PyProof.Rows.boot_tuple (c5 (pv 4) c7)) c7))))))))⟩
set_option maxHeartbeats 16000000 in
theorem a6J (F : Fun K "_law_a_other" "_law_a_other" D0 f fd) (T : B7 mg) : FnOk P w K mg base G8 (n + 1) f fd ["book", "picks"] (a4i K) := by
  refine F.ok scAo (fun vs H Q E h => ?_) (fun cdv A outer s H vs Q E hr h => ?_)
  . obtain ⟨ba, pk, xs, hs, ds, kt, kg, rfl, _⟩ := h
    rfl
  obtain ⟨ba, pk, xs, hs, ds, kt, kg, rfl, hba, hB, hG, n1, kt1, kt4, kg1, kg4, hpk, d11, q⟩ := h
  refine ⟨_, (aoT T hr).2, ?_⟩
  have xl : xs.length = hs.length := Paired.length hB
  obtain ⟨x0, hx0⟩ : ∃ x, xs[0]? = some x := ⟨_, List.getElem?_eq_getElem (by omega)⟩
  obtain ⟨h0, hh0, ⟨av, ta, ga, rfl, p0, p1, p2⟩⟩ := Paired.at hB hx0
  have gh := hG h0 (List.mem_of_getElem? hh0)
  have l1 : (h0.1.map V.int).length = kt := by rw [List.length_map]; exact gh.lt
  have l2 : (h0.2.map V.int).length = kg := by rw [List.length_map]; exact gh.lg
  -- far
  refine ⟨fun σ' H' => ∃ far : Int, 1 <= far /\ far <= 10 ^ 9 /\ σ' = [some (.ref ba), some (.ref pk), some (.int far), none, none] /\ Same H H', ?_, ?_⟩
  . refine ⟨_, _, rfl, rfl, ⟨by decide, by decide, by decide⟩, (by show 3 <= sizeLine; decide), fun l hl => ?_⟩
    have v1 := Same.new hl (.lst [V.int 9, V.int 1000, V.int (10 ^ 9)])
    refine ⟨_, rfl, pk, _, _, _, rfl, rfl, v1.seq hpk, a8A (j := 10) (by omega), _, _, rfl, rfl, (by show (0 : Int) < 3; decide), ?_⟩
    have h3 : ds.getD 10 0 % 3 = 0 \/ ds.getD 10 0 % 3 = 1 \/ ds.getD 10 0 % 3 = 2 := by omega
    rcases h3 with h3 | h3 | h3
    . refine ⟨l, _, _, V.int 9, rfl, rfl, SqL.of upd_same, by rw [h3]; exact y6 (j := 0) rfl, 9, by decide, by decide, rfl, v1⟩
    . refine ⟨l, _, _, V.int 1000, rfl, rfl, SqL.of upd_same, by rw [h3]; exact y6 (j := 1) rfl, 1000, by decide, by decide, rfl, v1⟩
    . refine ⟨l, _, _, V.int (10 ^ 9), rfl, rfl, SqL.of upd_same, by rw [h3]; exact y6 (j := 2) rfl, 10 ^ 9, by decide, by decide, rfl, v1⟩
  intro σ1 H1 hM_; refine D4 fun G_ hG_ => ?_; obtain ⟨far, f1, f9, rfl, e1⟩ := hM_; subst hG_
  -- takes
  refine ⟨fun σ' H' => ∃ (tp : Addr) (At : List Int), σ' = [some (.ref ba), some (.ref pk), some (.int far), some (.ref tp), none] /\ Same H1 H' /\ H' tp = some (.tup (At.map V.int)) /\ At.length = kt /\ ∀ x ∈ At, 1 <= x /\ x <= 10 ^ 9, ?_, ?_⟩
  . refine ⟨_, rfl, _, rfl, ba, _, 0, _, rfl, rfl, e1.seq hba, y6 hx0, av, _, 0, _, rfl, rfl, e1.tseq p0, Q5 _ _, ta, _, rfl, .inr (e1.tseq p1), _, rfl, pk, _, rfl, e1.seq hpk, fun b1 h1 => ?_⟩
    rw [l1, a0f _ _ (by rw [List.length_map]; omega), <- List.map_take]
    have w1 := Same.new h1 (.lst ((ds.take kt).map V.int))
    refine ⟨b1, rfl, ⟨_, SqL.of upd_same⟩, fun b2 h2 => ?_⟩
    refine M8 (E1 (SqL.of upd_same)) h2 (by rw [List.length_map, List.length_take]; exact j7 (by omega)) (fun x => .int (1 + vI x % far)) (fun j x H8 N hx e hN => ?_) ?_
    . obtain ⟨k, rfl⟩ := D9 hx
      exact ⟨Wk.set (by decide), _, rfl, _, rfl, _, _, rfl, rfl, (by show (0 : Int) < far; omega), _, _, rfl, rfl, hN⟩
    have eA : ((ds.take kt).map V.int).map (fun x => V.int (1 + vI x % far)) = ((ds.take kt).map fun d => 1 + d % far).map V.int := by rw [List.map_map, List.map_map]; rfl
    rw [eA]
    have w2 := Same.new h2 (.lst (((ds.take kt).map fun d => 1 + d % far).map V.int))
    refine ⟨b2, _, rfl, .inl ⟨SqL.of upd_same, fun tp htp => ?_⟩⟩
    refine ⟨tp, _, rfl, w1.trans (w2.trans (Same.new htp _)), upd_same, by rw [List.length_map, List.length_take]; omega, fun x hx => ?_⟩
    obtain ⟨d, _, rfl⟩ := List.mem_map.mp hx
    have : 0 <= d % far /\ d % far < far := ⟨Int.emod_nonneg _ (by omega), Int.emod_lt_of_pos _ (by omega)⟩
    omega
  intro σ2 H2 hM_; refine D4 fun G_ hG_ => ?_; obtain ⟨tp, At, rfl, e2, htp, lAt, bAt⟩ := hM_; subst hG_
  have e12 := e1.trans e2
  -- gives
  refine ⟨fun σ' H' => ∃ (gp : Addr) (Bs : List Int), σ' = [some (.ref ba), some (.ref pk), some (.int far), some (.ref tp), some (.ref gp)] /\ Same H2 H' /\ H2 gp = none /\ H' gp = some (.lst (Bs.map V.int)) /\ Bs.length = kg /\ ∀ x ∈ Bs, 0 <= x /\ x <= 10 ^ 9, ?_, ?_⟩
  . refine ⟨_, rfl, _, rfl, _, rfl, ba, _, 0, _, rfl, rfl, e12.seq hba, y6 hx0, av, _, 1, _, rfl, rfl, e12.tseq p0, S1 _ _, ga, _, rfl, .inr (e12.tseq p2), _, _, rfl, rfl, _, rfl, pk, _, rfl, e12.seq hpk, fun b1 h1 => ?_⟩
    rw [l2, show (4 + (kg : Int)) = ((4 + kg : Nat) : Int) by omega, show (4 : Int) = ((4 : Nat) : Int) from rfl, a7Y _ _ _ (by omega) (by rw [List.length_map]; omega), Nat.add_sub_cancel_left, <- List.map_drop, <- List.map_take]
    have w1 := Same.new h1 (.lst (((ds.drop 4).take kg).map V.int))
    refine ⟨b1, rfl, ⟨_, SqL.of upd_same⟩, fun gp h2 => ?_⟩
    refine M8 (E1 (SqL.of upd_same)) h2 (by rw [List.length_map, List.length_take]; exact j7 (by omega)) (fun x => .int (vI x % far * (if decide (0 < vI x % 5) = true then 1 else 0))) (fun j x H8 N hx e hN => ?_) ?_
    . obtain ⟨k, rfl⟩ := D9 hx
      refine ⟨Wk.set (by decide), _, rfl, _, rfl, _, _, rfl, rfl, (by show (0 : Int) < far; omega), _, rfl, _, _, rfl, rfl, (by show (0 : Int) < 5; decide), _, _, rfl, rfl, .inr ⟨_, rfl, _, _, rfl, rfl, .inr ?_, hN⟩⟩
      constructor <;> (split <;> decide)
    have eB : (((ds.drop 4).take kg).map V.int).map (fun x => V.int (vI x % far * (if decide (0 < vI x % 5) = true then 1 else 0))) = (((ds.drop 4).take kg).map fun d => d % far * (if decide (0 < d % 5) = true then 1 else 0)).map V.int := by rw [List.map_map, List.map_map]; rfl
    rw [eB]
    refine ⟨gp, _, rfl, w1.trans (Same.new h2 _), w1.free h2, upd_same, by rw [List.length_map, List.length_take, List.length_drop]; omega, fun x hx => ?_⟩
    obtain ⟨d, _, rfl⟩ := List.mem_map.mp hx
    have : 0 <= d % far /\ d % far < far := ⟨Int.emod_nonneg _ (by omega), Int.emod_lt_of_pos _ (by omega)⟩
    split <;> omega
  intro σ3 H3 hM_; refine D4 fun G_ hG_ => ?_; obtain ⟨gp, Bs, rfl, e3, fr, hgp, lBs, bBs⟩ := hM_; subst hG_
  -- a give above 0
  refine ⟨fun σ' H' => ∃ (Bs : List Int), σ' = [some (.ref ba), some (.ref pk), some (.int far), some (.ref tp), some (.ref gp)] /\ Same H2 H' /\ H' gp = some (.lst (Bs.map V.int)) /\ Bs.length = kg /\ (∀ x ∈ Bs, 0 <= x /\ x <= 10 ^ 9) /\ ∃ x ∈ Bs, 0 < x, ?_, ?_⟩
  . refine ⟨_, rfl, gp, Bs, rfl, .inl (SqL.of hgp), (fun z => by rw [z] at lBs; simp at lBs; omega), fun M hM hMx => ⟨rfl, _, rfl, ?_⟩⟩
    refine D8 (fun c => ?_) (fun c => ?_)
    . refine ⟨_, rfl, gp, _, _, _, rfl, rfl, hgp, U0 (by decide) (by rw [List.length_map]; omega), ?_⟩
      refine ⟨Bs.set 0 1, rfl, e3.write fr, by rw [upd_same, map_set]; rfl, by rw [List.length_set]; exact lBs, fun x hx => ?_, 1, List.mem_set (by omega) _, by decide⟩
      rcases List.mem_or_eq_of_mem_set hx with z | z
      . exact bBs x z
      . rw [z]; exact ⟨by decide, by decide⟩
    . have c' : ¬ M = 0 := fun z => c (decide_eq_true (by rw [z]))
      have := bBs M hM
      exact ⟨Bs, rfl, e3, hgp, lBs, bBs, M, hM, by omega⟩
  intro σ4 H4 hM_; refine D4 fun G_ hG_ => ?_; obtain ⟨Bt, rfl, e4, hgp4, lBt, bBt, pBt⟩ := hM_; subst hG_
  refine ⟨_, rfl, _, rfl, gp, _, rfl, .inl ⟨SqL.of hgp4, fun pg hpg => ?_⟩⟩
  have f1' := Same.new hpg (.tup (Bt.map V.int))
  refine ⟨(by show 2 <= sizeLine; decide), fun pr hpr => ?_⟩
  have f2' := Same.new hpr (.tup [V.ref tp, V.ref pg])
  exact q _ (At, Bt) _ (e12.trans (e4.trans (f1'.trans f2'))) ⟨pr, tp, pg, rfl, SqT.of upd_same, SqT.of (f2' _ _ (f1' _ _ (e4 _ _ htp))), SqT.of (f2' _ _ upd_same)⟩ ⟨lAt, lBt, bAt, bBt, pBt⟩
end
end Rim
namespace HT
open PySem PySem.Spec PyProof.Rows L2
section
variable {prog : Program} {w : World} {A : Around} {E : Value -> Shared -> Prop} {s : Shared}
theorem cat_tup0 {t b : Addr} {ws : List Value} {Q : Value -> Shared -> Prop} (ht : IsTup s.heap t #[]) (hb : IsTup s.heap b ws.toArray) (h : Q (.ref b) s) : wpAny (model prog w) A (binaryOp .Add (.ref t) (.ref b)) Q E s := by
  obtain ⟨⟨cls, dd, data, sl⟩, ho, hc, n, hd⟩ := id ht
  obtain ⟨⟨cls2, dd2, data2, sl2⟩, ho2, hc2, n2, hd2⟩ := id hb
  simp only at hc hd hc2 hd2
  subst hc hd hc2 hd2
  exact concat_meets ⟨_, ho, rfl⟩ ⟨_, ho2, rfl⟩ noFill_tuple_add seq_tuple_add PySem.F.slot_tuple_add PySem.F.entry_tuple_add (PySem.F.args_tuple_add_2 _ _)
      (tuple_addW0 t b #[] ws.toArray n n2 dd dd2 sl sl2 (by simp)) ⟨ho, ho2, h⟩
theorem getItem_tuple_whole {t sl : Addr} {items : Array Value} {vl vu : Value} {lo hi : Option Int} {Q : Value -> Shared -> Prop} (ht : IsTup s.heap t items) (hs : s.heap.IsSliceOf sl vl vu .none) (pl : IsPart vl lo) (pu : IsPart vu hi)
    (hw : sIx items.size 0 lo = 0 /\ sIx items.size items.size hi = items.size)
    (h : Q (.ref t) s) : wpAny (model prog w) A (getItem (.ref t) (.ref sl)) Q E s := by
  obtain ⟨os, hos, hcs, hds⟩ := id hs
  have hTs : s.TypeIs (.ref sl) "slice" := ⟨os, hos, hcs⟩
  unfold getItem
  try with_reducible refine wpAny_holding ?_
  first | refine wpAny_bind (wpAny_pure ?_) | skip
  refine wpAny_bind (wpAny_sequenceKey ht.typeIs (by decide) ?_)
  refine wpAny_bind (wpAny_callSpecial?_slot (name := Str.ofString "__getitem__") ht.typeIs PyProof.Rows.slot_tuple_getitem
    (wpAny_call_entry PyProof.Rows.slot_tuple_getitem ht.typeIs entry_tuple_getitem ?_ (args_tuple_getitem _ _)))
  show wpAny _ _ (Builtin.Tuple.tupleItemsOf (.ref t) >>= _) _ _ s
  refine wpAny_bind (tupleItemsOf_ ht ?_)
  refine wpAny_bind (wpAny_typeOf hTs ?_)
  rw [if_pos (by decide)]
  refine wpAny_bind (O6 hs pl pu ?_)
  have hyes : (((sIx items.size 0 lo : Nat) : Int) == 0 && (1 : Int) == 1 && (sIx items.size items.size hi - sIx items.size 0 lo) == items.size) = true := by
    rw [hw.1, hw.2]
    simp
  show wpAny _ _ (if (((sIx items.size 0 lo : Nat) : Int) == 0 && (1 : Int) == 1 && (sIx items.size items.size hi - sIx items.size 0 lo) == items.size) = true then _ else _) _ _ s
  rw [if_pos hyes]
  refine wpAny_bind ?_
  unfold Builtin.Tuple.tupleIsExact
  first
    | refine wpAny_bind (wpAny_typeOf ht.typeIs (wpAny_pure ?_))
    | refine wpAny_typeOf ht.typeIs ?_
  rw [if_pos (by decide)]
  first
    | exact wpAny_bind (wpAny_rule (wpAny_pure ⟨_, rfl, wpAny_pure h⟩))
    | exact wpAny_bind (wpAny_pure (wpAny_pure ⟨_, rfl, wpAny_pure h⟩))
    | trace_state
end
end HT
namespace L2
open PySem PySem.Spec PyProof.Rows
section
variable {X : Cx}
def b1f (K : W.Frag) : R2 := fun x y H Q => ∃ a b xs ys, x = .ref a /\ y = .ref b /\ SqT K H a xs /\ SqT K H b ys /\ xs.length + ys.length <= sizeLine ∧
  (xs = [] -> Q (.ref b) H) /\ (xs ≠ [] -> ys = [] -> Q (.ref a) H) /\ (xs ≠ [] -> ys ≠ [] -> ∀ p, H p = none -> Q (.ref p) (upd H p (.tup (xs ++ ys))))
theorem a4V : X6 X (binaryOp .Add) (b1f X.K) := by
  intro pins s σ H x y v u Q I rx ry h
  obtain ⟨a, b, xs, ys, rfl, rfl, ha, hb, hz, q0, q1, q2⟩ := h
  by_cases hx : xs = []
  . cases rx
    cases ry
    subst hx
    obtain ⟨its, r1, p1, _⟩ := I.tuple ha
    obtain ⟨its2, r2, p2, _⟩ := I.tuple hb
    have e : its = [] := r1.nil_iff.mpr rfl
    subst e
    exact HT.cat_tup0 p1 p2 ⟨.ref b, H, I, rfl, q0 rfl⟩
  . exact a0B pins s σ H _ _ v u Q I rx ry ⟨a, b, xs, ys, rfl, rfl, ha, hb, hx, hz, q1 hx, q2 hx⟩
def b2g (K : W.Frag) : V -> Option Int -> Option Int -> Hp -> VK -> Prop := fun x lo hi H Q => ∃ a xs, x = .ref a /\ SqT K H a xs ∧
  ((HT.sIx xs.length 0 lo = 0 /\ HT.sIx xs.length xs.length hi = xs.length) -> Q (.ref a) H) /\ (¬ (HT.sIx xs.length 0 lo = 0 /\ HT.sIx xs.length xs.length hi = xs.length) -> ∀ p, H p = none -> Q (.ref p) (upd H p (.tup (A6 xs lo hi))))
theorem a2g : SlR X (b2g X.K) := by
  intro pins s σ H x v vl vu lo hi sl Q I rx hs pl pu h
  obtain ⟨a, xs, rfl, hx, q1, q2⟩ := h
  by_cases hw : HT.sIx xs.length 0 lo = 0 /\ HT.sIx xs.length xs.length hi = xs.length
  . cases rx
    obtain ⟨its, r, ht, hz⟩ := I.tuple hx
    have hlen : its.toArray.size = xs.length := by rw [List.size_toArray]; exact r.length.symm
    refine ⟨"tuple", _, PyProof.Rows.slot_tuple_getitem.lookup, ht.typeIs, ?_⟩
    exact HT.getItem_tuple_whole ht hs pl pu (by rw [hlen]; exact hw) ⟨.ref a, H, I, rfl, q1 hw⟩
  . exact b0o pins s σ H _ v vl vu lo hi sl Q I rx hs pl pu ⟨a, xs, rfl, hx, hw, q2 hw⟩
theorem a6l (xs : List V) (h : xs ≠ []) : A6 xs none (some (-1)) = xs.take (xs.length - 1) /\ A6 xs (some (-1)) none = xs.drop (xs.length - 1) := by
  have hl : 0 < xs.length := List.length_pos_iff.mpr h
  have e : ∀ d, HT.sIx xs.length d (some (-1)) = xs.length - 1 := fun d => by
    show (if (-1 : Int) < 0 then ((-1 : Int) + (xs.length : Int)).toNat else min (-1 : Int).toNat xs.length) = _
    rw [if_pos (by decide)]; omega
  constructor
  . unfold A6
    rw [e, HT.sIx_none, List.drop_zero, Nat.sub_zero]
  . unfold A6
    rw [e, HT.sIx_none, List.take_of_length_le]
    rw [List.length_drop]; omega
end
end L2
namespace Rim
open PySem L2 Fr
section
variable {P : Program} {w : World} {K : W.Frag} {mg : Str -> Option Value} {base : Heap} {f : Addr} {fd : FuncData} {n : Nat} {CN Pt : Addr}
abbrev b1t : List Str := ["script", "book", "cell", "picks", "house", "takes", "gives", "sizes", "handed", "found", "kin", "more", "worse", "less", "odds", "odd"]
theorem scLaw : m6 b1t ["script"] (i9 a0u) := ⟨rfl, rfl, rfl, by decide +kernel, rfl, by decide +kernel, by decide +kernel⟩
theorem nd1 : (["take", "picks"] : List Str).Nodup := by decide +kernel
theorem nd2 : (["give"] : List Str).Nodup := by decide +kernel
structure Calls (P : Program) (w : World) (K : W.Frag) (mg : Str -> Option Value) (base : Heap) (n : Nat) (CN Pt : Addr) (a1 a2 a3 a4 a5 a6 a7 a8 a9 a10 a11 : Addr) (d1 d2 d3 d4 d5 d6 d7 d8 d9 d10 d11 : FuncData) : Prop where
  ab : Cal P w K mg base n "_law_a_book" ["script", "at", "most", "far"] (a4l K) a1 d1
  om : Cal P w K mg base n "_law_or_many" ["book", "script"] (a2W K) a2 d2
  ce : Cal P w K mg base n "_law_cell_at" ["script", "k"] (a0R K) a3 d3
  dw : Cal P w K mg base n "_law_draws" ["cell", "many", "base"] (Y6 K) a4 d4
  ao : Cal P w K mg base n "_law_a_other" ["book", "picks"] (a4i K) a5 d5
  to : Cal P w K mg base n "_law_told" ["book", "house", "sizes"] (a2C K Pt) a6 d6
  ot : a3H P w K mg base n "share_of_others" ["book", "number", "sizes"] (a3a K CN Pt) a7 d7
  fr : Cal P w K mg base n "_law_is_fraction" ["one"] a6k a8 d8
  sh : a3H P w K mg base n "share" ["book", "number", "sizes"] (a2a K CN Pt) a9 d9
  ng : Cal P w K mg base n "_law_no_greater" ["one", "other"] (a0n K) a10 d10
  dk : Cal P w K mg base n "_law_due_kin" ["name"] a7n a11 d11
abbrev b2e (P : Program) (w : World) (K : W.Frag) (mg : Str -> Option Value) (base : Heap) (f : Addr) (cdv : Value) (A : Around) (outer : List Env) (s : Shared) (H : Hp) (E : XK) : Cx := (M1 G8 P w K mg base b1t "law" (i9 a0u) f cdv A outer s H E).nox
variable {cdv : Value} {A : Around} {outer : List Env} {s : Shared} {H : Hp} {E : XK} {a1 a2 a3 a4 a5 a6 a7 a8 a9 a10 a11 : Addr} {d1 d2 d3 d4 d5 d6 d7 d8 d9 d10 d11 : FuncData}
set_option maxHeartbeats 8000000 in
noncomputable def b1S (T : B7 mg) (C : Calls P w K mg base n CN Pt a1 a2 a3 a4 a5 a6 a7 a8 a9 a10 a11 d1 d2 d3 d4 d5 d6 d7 d8 d9 d10 d11) (hr : Room n (A.deeper (PyProof.Rows.envOfC "law" (i9 a0u) s.heap.objs.size f cdv))) : { t : TS // PSs (b2e P w K mg base f cdv A outer s H E) (y4 a0u) t } :=
  ⟨_, j0 (l0 (i := 1) scLaw.nd rfl (Or.inl rfl) (m8 C.ab.ok hr rfl C.ab.m C.ab.k C.ab.b .nil v8 (c5 (pv 0) (c5 c6 (c5 c6 (c5 (j3 W5 c6 c6) c7))))))
    (r9 (l0 (i := 1) scLaw.nd rfl (Or.inl rfl) (B6 G4 (m8 C.om.ok hr rfl C.om.m C.om.k C.om.b .nil v8 (c5 (pv 1) (c5 (pv 0) c7))) F0 (C3 c6)))
    (j0 (T0 PassesOwn.never rfl (G5 (j3 D6 (x6 (c5 (m8 C.ce.ok hr rfl C.ce.m C.ce.k C.ce.b .nil v8 (c5 (pv 0) (c5 c6 c7))) c7)) (B6 G4 (pv 0) (C3 c6) (C3 c6)))) (m9 (i := 2) scLaw.nd rfl (Or.inl rfl))
      (j0 (l0 (i := 3) scLaw.nd rfl (Or.inr rfl) (m8 C.dw.ok hr rfl C.dw.m C.dw.k C.dw.b .nil v8 (c5 (pv 2) (c5 c6 (c5 (j3 W5 c6 c6) c7)))))
      (r9 (l0 (i := 4) scLaw.nd rfl (Or.inl rfl) (j6 j5 (pv 1) (j3 v5 (j6 j5 (pv 3) c6 (fun _ _ => rfl)) (j8 j9 rfl T.len PySem.boot_len (c5 (pv 1) c7))) (fun _ _ => rfl)))
      (r9 (A5 (r8 R5 (j3 v5 (j6 j5 (pv 3) c6 (fun _ _ => rfl)) c6) c6 (r6 _)) (j4 (l0 (i := 4) scLaw.nd rfl (Or.inl rfl) (m8 C.ao.ok hr rfl C.ao.m C.ao.k C.ao.b .nil v8 (c5 (pv 1) (c5 (pv 3) c7))))) t0)
      (j0 (J3 (pv 4) (X4 rfl (v6 (m9 (i := 5) scLaw.nd rfl (Or.inl rfl)) (v6 (m9 (i := 6) scLaw.nd rfl (Or.inl rfl)) J4))))
      (r9 (T0 PassesOwn.never rfl (G5 (x6 (c5 J7 (c5 J7 (c5 J7 (c5 J7 c7)))))) (m9 (i := 7) scLaw.nd rfl (Or.inl rfl))
        (j0 (l0 (i := 8) scLaw.nd rfl (Or.inl rfl) (u0 E5 rfl T.list PyProof.Rows.boot_list (c5 (pv 1) c7)))
        (r9 (J3 (m8 C.to.ok hr rfl C.to.m C.to.k C.to.b .nil v8 (c5 (pv 8) (c5 (pv 4) (c5 (pv 7) c7)))) (X4 rfl (v6 (m9 (i := 9) scLaw.nd rfl (Or.inl rfl)) (v6 (m9 (i := 10) scLaw.nd rfl (Or.inl rfl)) J4))))
        (r9 (A5 (PW.pt (a4H (r8 (Z8 hr) (pv 10) (x6 c7) (r6 _)) (a2o (r8 (Z8 hr) (pv 8) (pv 1) (r6 _))))) K8 t0)
        (r9 (A5 (r8 (Z8 hr) (pv 9) (m8 C.ot.ok hr rfl C.ot.m C.ot.k C.ot.b .nil a7u (c5 (j3 D6 (pv 1) (x6 (c5 (pv 4) c7))) (c5 (j8 j9 rfl T.len PySem.boot_len (c5 (pv 1) c7)) (c5 (pv 7) c7)))) (r6 _)) K8 t0)
        (r9 (A5 (PW.pt (Y9 (r8 a2m (pv 9) N3 (r6 _)) (U8 (P5 (Q1 (m8 C.fr.ok hr rfl C.fr.m C.fr.k C.fr.b .nil v8 (c5 (pv 9) c7))))))) K8 t0)
        (r9 (A5 (PW.pt (Y9 (r8 (a9x hr) (pv 4) (pv 1) rfl) (U8 (r8 (Z8 hr) (pv 9) (m8 (a5e C.sh.ok) hr rfl C.sh.m C.sh.k C.sh.b .nil a7u (c5 (pv 1) (c5 (a2Q PySem.F.plainAttrs_list PySem.F.slot_list_index PySem.F.type_list_index (a5r hr) (pv 1) (c5 (pv 4) c7)) (c5 (pv 7) c7)))) (r6 _))))) K8 t0)
        (r9 (l0 (i := 11) scLaw.nd rfl (Or.inl rfl) (j6 B8 (m8 C.to.ok hr rfl C.to.m C.to.k C.to.b .nil v8 (c5 (j3 D6 (pv 1) (x6 (c5 (m8 C.ao.ok hr rfl C.ao.m C.ao.k C.ao.b .nil v8 (c5 (pv 1) (c5 (B6 G4 (pv 3) (C3 c6) F0) c7))) c7))) (c5 (pv 4) (c5 (pv 7) c7)))) c6 (fun _ _ => rfl)))
        (r9 (A5 (P5 (Q1 (m8 C.ng.ok hr rfl C.ng.m C.ng.k C.ng.b .nil v8 (c5 (pv 11) (c5 (pv 9) c7))))) K8 t0)
        (r9 (l0 (i := 12) scLaw.nd rfl (Or.inl rfl) (D7 (c5 (u0 A8 rfl T.tuple PyProof.Rows.boot_tuple (c5 (R0 ["take"] [3] rfl (a0F (pv 5)) (fun _ _ _ _ => m9 (i := 0) nd1 rfl (Or.inl rfl)) (fun _ _ _ _ => j8 (O8 rfl) rfl T.min PyProof.Rows.boot_min (c5 (j3 W5 c6 c6) (c5 (j3 A4 (pv 0) (j3 v5 (j6 (a1X K rfl) (pv 1) c6 (fun _ _ => rfl)) c6)) c7)))) c7)) (c5 (pv 6) c7))))
        (r9 (A5 (P5 (Q1 (m8 C.ng.ok hr rfl C.ng.m C.ng.k C.ng.b .nil v8 (c5 (j6 B8 (m8 C.to.ok hr rfl C.to.m C.to.k C.to.b .nil v8 (c5 (pv 1) (c5 (pv 12) (c5 (pv 7) c7)))) c6 (fun _ _ => rfl)) (c5 (pv 9) c7))))) K8 t0)
        (r9 (l0 (i := 13) scLaw.nd rfl (Or.inl rfl) (D7 (c5 (pv 5) (c5 (j3 a4V (u0 A8 rfl T.tuple PyProof.Rows.boot_tuple (c5 (R0 ["give"] [] rfl (a0F (B6 a2g (pv 6) F0 (C3 (Q4 M0 c6)))) (fun _ _ _ _ => m9 (i := 0) nd2 rfl (Or.inl rfl)) (fun _ _ _ _ => j3 N7 (pv 0) c6)) c7)) (B6 a2g (pv 6) (C3 (Q4 M0 c6)) F0)) c7))))
        (j4 (A5 (r8 S7 (j8 (T8 rfl) rfl T.max PyProof.Rows.boot_max (c5 (j6 B8 (pv 13) c6 (fun _ _ => rfl)) c7)) c6 (r6 _))
          (j4 (A5 (P5 (Q1 (m8 C.ng.ok hr rfl C.ng.m C.ng.k C.ng.b .nil v8 (c5 (j6 B8 (m8 C.to.ok hr rfl C.to.m C.to.k C.to.b .nil v8 (c5 (pv 1) (c5 (pv 13) (c5 (pv 7) c7)))) c6 (fun _ _ => rfl)) (c5 (pv 9) c7))))) K8 t0)) t0))))))))))))))
      (r9 (l0 (i := 14) scLaw.nd rfl (Or.inl rfl) (x6 (c5 (D7 (c5 (j3 a0B (pv 5) (D7 (c5 c6 c7))) (c5 (pv 6) c7))) (c5 (D7 (c5 (pv 5) (c5 (j3 a0B (pv 6) (D7 (c5 c6 c7))) c7))) (c5 (D7 (c5 (j3 a4V (B6 a2g (pv 5) (C3 c6) F0) (D7 (c5 c6 (c5 c6 c7)))) (c5 (pv 6) c7))) c7)))))
      (j4 (T0 PassesOwn.never rfl (G5 (pv 14)) (m9 (i := 15) scLaw.nd rfl (Or.inl rfl))
        (j4 (A5 (PW.pt (Y9 (r8 R5 (j8 j9 rfl T.len PySem.boot_len (c5 (j6 B8 (pv 15) c6 (fun _ _ => rfl)) c7)) c6 (r6 _)) (U8 (r8 R5 (j8 j9 rfl T.len PySem.boot_len (c5 (j6 B8 (pv 15) c6 (fun _ _ => rfl)) c7)) c6 (r6 _)))))
          (j4 (A5 (r8 (Z8 hr) (j6 B8 (m8 C.to.ok hr rfl C.to.m C.to.k C.to.b .nil v8 (c5 (pv 1) (c5 (pv 15) (c5 J7 c7)))) c6 (fun _ _ => rfl)) (m8 C.dk.ok hr rfl C.dk.m C.dk.k C.dk.b .nil v8 (c5 J7 c7)) (r6 _)) K8 t0)) t0)))))))))))
    (j4 (t7 a3Y))))⟩
end
end Rim
namespace Rim
open PySem L2 Fr
theorem a7M (xs : List V) (k : Nat) : A6 xs none (some (k : Int)) = xs.take k := by
  by_cases h : k <= xs.length
  . exact a0f xs k h
  . unfold A6
    rw [HT.sIx_nat, HT.sIx_none, List.drop_zero, Nat.sub_zero, Nat.min_eq_right (by omega), List.take_of_length_le (Nat.le_refl _), List.take_of_length_le (by omega)]
theorem a8M {ns : List Int} {lo hi : Option Int} {x : V} (h : x ∈ A6 (ns.map V.int) lo hi) : ∃ k, x = .int k := by
  unfold A6 at h
  obtain ⟨k, _, rfl⟩ := List.mem_map.mp (List.mem_of_mem_drop (List.mem_of_mem_take h))
  exact ⟨k, rfl⟩
theorem a3c {α : Type} (p : α -> Bool) : ∀ ds : List α, ds.any p = true -> ∃ j : Nat, (∃ e, ds[j]? = some e /\ p e = true) /\ ∀ (i : Nat) e, i < j -> ds[i]? = some e -> p e = false
  | [], h => by simp at h
  | d :: r, h => by
    cases c : p d with
    | true => exact ⟨0, ⟨d, rfl, c⟩, fun i e hi => by omega⟩
    | false =>
      rw [List.any_cons, c, Bool.false_or] at h
      obtain ⟨j, ⟨e, h1, h2⟩, h3⟩ := a3c p r h
      refine ⟨j + 1, ⟨e, h1, h2⟩, fun i e' hi he => ?_⟩
      cases i with
      | zero => cases he; exact c
      | succ i => exact h3 i e' (by omega) he
section
variable {K : W.Frag} {H : Hp} {u v : V} {z : Str} {hs hs1 hs2 : List i8} {h h1 h2 : i8} {kt kg : Nat} {far : Int}
theorem ShB.notNone {x : Q2} (hz : V6 z) (a : ShB z hs h kt kg x) (N : IsNone z hs h kt kg) (hG : ∀ g ∈ hs, HG far kt kg g) (gh : HG far kt kg h) : False := by
  obtain ⟨A, B, I, _⟩ := a.s
  exact N.notShare hz (fun g hg => ⟨(hG g hg).lt, (hG g hg).lg⟩) gh I
theorem a8l (hz : V6 z) (a : AgV H u z hs h kt kg) (b : AgV H v z hs h kt kg) (hG : ∀ g ∈ hs, HG far kt kg g) (gh : HG far kt kg h) : ∃ d, Dp K H u d /\ Dp K H v d /\ d.canLay0 = true /\ d.depth <= 60 := by
  rcases a with ⟨x, X, hu⟩ | ⟨rfl, N⟩
  . rcases b with ⟨y, Y, hv⟩ | ⟨_, N⟩
    . have := X.eq hz Y hG gh
      subst this
      exact ⟨dF x, FrV.dp hu.v, FrV.dp hv.v, a9g _, a9s _⟩
    . exact (X.notNone hz N hG gh).elim
  . rcases b with ⟨y, Y, hv⟩ | ⟨rfl, _⟩
    . exact (Y.notNone hz N hG gh).elim
    . exact ⟨.none, .non, .non, rfl, by decide⟩
theorem a9S (hz : V6 z) (a : AgV H u z hs h kt kg) (b : b0O K H v z hs h kt kg) (hG : ∀ g ∈ hs, HG far kt kg g) (gh : HG far kt kg h) : ∃ d, Dp K H u d /\ Dp K H v d /\ d.canLay0 = true /\ d.depth <= 60 := by
  rcases a with ⟨x, X, hu⟩ | ⟨rfl, N⟩
  . rcases b with ⟨A, B, Y, hv⟩ | ⟨_, N⟩
    . have := X.is hz Y.s hG gh
      subst this
      exact ⟨dF (low A B), FrV.dp hu.v, FrV.dp hv.v, a9g _, a9s _⟩
    . exact (X.notNone hz N hG gh).elim
  . rcases b with ⟨A, B, Y, hv⟩ | ⟨rfl, _⟩
    . exact (N.notShare hz (fun g hg => ⟨(hG g hg).lt, (hG g hg).lg⟩) gh Y.s).elim
    . exact ⟨.none, .non, .non, rfl, by decide⟩
theorem a6S (a : AgV H u z hs1 h1 kt kg) (b : AgV H v z hs2 h2 kt kg) (le : ∀ A B A' B', IsShare z hs1 h1 kt kg A' B' -> IsShare z hs2 h2 kt kg A B -> 0 <= A -> A' * B <= A * B')
    (no : ∀ A B, IsNone z hs1 h1 kt kg -> IsShare z hs2 h2 kt kg A B -> 0 <= A -> False) :
    v = .non \/ ∃ (a b : Addr) (x y : Q2), u = .ref a /\ v = .ref b /\ FrV K H u x /\ FrV K H v y /\ (Big 1000000 x.1 /\ Big 1000000 x.2 /\ Big 1000000 y.1 /\ Big 1000000 y.2) /\ ¬ y.1 * x.2 < x.1 * y.2 := by
  rcases b with ⟨y, Y, hv⟩ | ⟨rfl, _⟩
  . obtain ⟨A, B, I, hA, rfl⟩ := id Y.s
    rcases a with ⟨x, X, hu⟩ | ⟨_, N⟩
    . obtain ⟨A', B', J, hA', rfl⟩ := id X.s
      obtain ⟨a', e1, _⟩ := id hu
      obtain ⟨b', e2, _⟩ := id hv
      have g1 := X.b.bigs (by decide)
      have g2 := Y.b.bigs (by decide)
      exact .inr ⟨a', b', _, _, e1, e2, hu.v, hv.v, ⟨g1.1, g1.2, g2.1, g2.2⟩, fun c => absurd ((a6p I.1 J.1).mp c) (Int.not_lt.mpr (le A B A' B' J I (Int.le_of_lt hA)))⟩
    . exact (no A B N I (Int.le_of_lt hA)).elim
  . exact .inl rfl
end
abbrev wf (d x : Int) : Int := if x + d < 10 ^ 9 then x + d else 10 ^ 9
abbrev a3U (d : Int) (h : i8) : i8 := (h.1.map (wf d), h.2)
theorem a5d {f : Int -> Int} {l : List Int} {j : Nat} (h : j < l.length) : (l.map f).getD j 0 = f (l.getD j 0) := by
  rw [List.getD_eq_getElem?_getD, List.getD_eq_getElem?_getD, List.getElem?_map, List.getElem?_eq_getElem h]; rfl
theorem X9 {l : List Int} {j : Nat} (h : l.length <= j) : l.getD j 0 = 0 := by
  rw [List.getD_eq_getElem?_getD, List.getElem?_eq_none h]; rfl
theorem a2q {l : List Int} {j : Nat} (h : j < l.length) : l.getD j 0 ∈ l := by
  rw [List.getD_eq_getElem?_getD, List.getElem?_eq_getElem h]; exact List.getElem_mem h
theorem a7h {d : Int} {kt kg : Nat} {h : i8} (d0 : 0 <= d) (g : HG (10 ^ 9) kt kg h) : HG (10 ^ 9) kt kg (a3U d h) :=
  ⟨by rw [List.length_map]; exact g.lt, g.lg, fun x hx => by
    obtain ⟨y, hy, rfl⟩ := List.mem_map.mp hx
    have := g.t y hy
    show 1 <= wf d y /\ wf d y <= 10 ^ 9
    unfold wf
    split <;> omega, g.g, g.p⟩
theorem a4x {d : Int} {kt kg : Nat} {h : i8} (d0 : 0 <= d) (g : HG (10 ^ 9) kt kg h) : Btr (a3U d h) h := by
  refine ⟨fun j => ?_, fun j => Int.le_refl _⟩
  show h.1.getD j 0 <= (h.1.map (wf d)).getD j 0
  by_cases hj : j < h.1.length
  . rw [a5d hj]
    have := g.t _ (a2q hj)
    unfold wf
    split <;> omega
  . rw [X9 (by omega), X9 (by rw [List.length_map]; omega)]; exact Int.le_refl _
def J6 (l : List Int) : List Int := (l.take (l.length - 1)).map (· / 2) ++ l.drop (l.length - 1)
theorem U3 (l : List Int) : (J6 l).length = l.length := by
  unfold J6
  rw [List.length_append, List.length_map, List.length_take, List.length_drop]; omega
theorem a1z {l : List Int} (nn : ∀ x ∈ l, 0 <= x /\ x <= 10 ^ 9) (j : Nat) : 0 <= (J6 l).getD j 0 /\ (J6 l).getD j 0 <= l.getD j 0 := by
  by_cases hj : j < l.length
  . have p := nn _ (a2q hj)
    have e : (J6 l).getD j 0 = l.getD j 0 / 2 \/ (J6 l).getD j 0 = l.getD j 0 := by
      unfold J6
      by_cases c : j < l.length - 1
      . refine .inl ?_
        rw [List.getD_eq_getElem?_getD, List.getElem?_append_left (by rw [List.length_map, List.length_take]; omega), List.getElem?_map, List.getElem?_take_of_lt c, List.getElem?_eq_getElem hj, List.getD_eq_getElem?_getD, List.getElem?_eq_getElem hj]; rfl
      . refine .inr ?_
        rw [List.getD_eq_getElem?_getD, List.getElem?_append_right (by rw [List.length_map, List.length_take]; omega), List.length_map, List.length_take, List.getElem?_drop, List.getD_eq_getElem?_getD]
        congr 2
        omega
    rcases e with e | e <;> omega
  . rw [X9 (by rw [U3]; omega), X9 (by omega)]; exact ⟨Int.le_refl _, Int.le_refl _⟩
theorem a5T {l : List Int} (nn : ∀ x ∈ l, 0 <= x /\ x <= 10 ^ 9) : ∀ x ∈ J6 l, 0 <= x /\ x <= 10 ^ 9 := fun x hx => by
  obtain ⟨j, hj, rfl⟩ := List.getElem_of_mem hx
  have e : (J6 l)[j] = (J6 l).getD j 0 := by rw [List.getD_eq_getElem?_getD, List.getElem?_eq_getElem hj]; rfl
  have := a1z nn j
  have hj' : j < l.length := by rw [U3] at hj; exact hj
  have q := nn _ (a2q hj')
  rw [e]; omega
theorem a5c {kt kg : Nat} {h : i8} (g : HG (10 ^ 9) kt kg h) (p : ∃ x ∈ J6 h.2, 0 < x) : HG (10 ^ 9) kt kg (h.1, J6 h.2) :=
  ⟨g.lt, by rw [U3]; exact g.lg, g.t, a5T g.g, p⟩
theorem a3m {kt kg : Nat} {h : i8} (g : HG (10 ^ 9) kt kg h) : Btr (h.1, J6 h.2) h := ⟨fun j => Int.le_refl _, fun j => (a1z g.g j).2⟩
end Rim
namespace Rim
open PySem L2 Fr
section
variable {P : Program} {w : World} {K : W.Frag} {mg : Str -> Option Value} {base : Heap} {f : Addr} {fd : FuncData} {n : Nat} {CN Pt : Addr}
def a3W (K : W.Frag) (Pt : Addr) : Sp := fun vs H Q _ => ∃ (a : Addr) (ns : List Int), vs = [.ref a] /\ SqL K H a (ns.map V.int) /\ ns.length <= 63 /\ LT Pt H /\ ∀ H', Q (.bl true) H'
set_option maxHeartbeats 16000000 in
theorem a9R {a1 a2 a3 a4 a5 a6 a7 a8 a9 a10 a11 : Addr} {d1 d2 d3 d4 d5 d6 d7 d8 d9 d10 d11 : FuncData} (F : Fun K "law" "law" a0u f fd) (T : B7 mg) (C : Calls P w K mg base n CN Pt a1 a2 a3 a4 a5 a6 a7 a8 a9 a10 a11 d1 d2 d3 d4 d5 d6 d7 d8 d9 d10 d11) :
    FnOk P w K mg base G8 (n + 1) f fd ["script"] (a3W K Pt) := by
  refine F.ok scLaw (fun vs H Q E h => ?_) (fun cdv A outer s H vs Q E hr h => ?_)
  . obtain ⟨a, ns, rfl, _⟩ := h
    rfl
  obtain ⟨a, ns, rfl, hS, h63, L, q⟩ := h
  refine ⟨_, (b1S T C hr).2, ?_⟩
  refine ⟨_, rfl, _, _, rfl, rfl, ⟨by decide, by decide, by decide⟩, a, ns, 0, 9, _, rfl, hS, by decide, by decide, by decide, by decide, fun b0 G1 xs0 hs0 kt0 kg0 e1 hb0 hB0 hn1 hn8 kt01 kt04 kg01 kg04 hG0 => ?_⟩
  have xl0 : xs0.length = hs0.length := Paired.length hB0
  have small := j7 (show (1000 : Nat) <= 1000 from Nat.le_refl _)
  -- book
  refine ⟨fun σ' H' => ∃ (bl : Addr) (xs : List V) (hs : List i8) (kt kg : Nat), σ' = [some (.ref a), some (.ref bl), none, none, none, none, none, none, none, none, none, none, none, none, none, none] /\ Same G1 H' /\ H' bl = some (.lst xs) /\ Bk K H' xs hs /\ (∀ h ∈ hs, HG (10 ^ 9) kt kg h) /\ 1 <= hs.length /\ hs.length <= 15 /\ 1 <= kt /\ kt <= 4 /\ 1 <= kg /\ kg <= 4, ?_, ?_⟩
  . refine ⟨_, rfl, _, rfl, b0, a, xs0, hs0, ns, 10 ^ 9, kt0, kg0, rfl, hb0, hB0, hG0, hn1, by omega, kt01, kt04, kg01, kg04, by decide, e1.seq hS, fun r H2 xs' hs' kt kg e2 hr2 hB2 hG2 n1 n16 kt1 kt4 kg1 kg4 => ?_⟩
    refine ⟨_, rfl, r, _, rfl, SqL.of hr2, fun b3 h3 => ?_⟩
    rw [show (15 : Int) = ((15 : Nat) : Int) from rfl, a7M]
    have s3 := Same.new h3 (.lst (xs'.take 15))
    exact ⟨b3, xs'.take 15, hs'.take 15, kt, kg, rfl, e2.trans s3, upd_same, Bk.same s3 (Paired.take 15 hB2), fun h hh => hG2 h (List.mem_of_mem_take hh), by rw [List.length_take]; omega, by rw [List.length_take]; omega, kt1, kt4, kg1, kg4⟩
  intro σ2 G2 hM_; refine D4 fun G_ hG_ => ?_; obtain ⟨bl, xs, hs, kt, kg, rfl, e2, hbl2, hB2, hG, n1, n15, kt1, kt4, kg1, kg4⟩ := hM_; subst hG_
  have xl : xs.length = hs.length := Paired.length hB2
  have hS2 := (e1.trans e2).seq hS
  -- cells
  refine ⟨_, rfl, a, ns, 2, rfl, hS2, by decide, fun c0 => ?_⟩
  refine ⟨(by show 1 <= sizeLine; decide), fun l1 hl1 => ?_⟩
  have v1 := Same.new hl1 (.lst [V.int c0])
  refine ⟨_, rfl, _, rfl, _, rfl, a, _, rfl, v1.seq hS2, fun l2 hl2 => ?_⟩
  have v2 := Same.new hl2 (.lst (A6 (ns.map V.int) (some 3) (some 6)))
  have clen : (A6 (ns.map V.int) (some 3) (some 6)).length <= 63 := Nat.le_trans (S8 _ _ _) (by rw [List.length_map]; exact h63)
  refine ⟨l1, l2, _, _, rfl, rfl, v2 _ _ upd_same, upd_same, Nat.le_of_lt (j7 (by simp only [List.length_cons, List.length_nil]; omega)), fun l3 hl3 => ?_⟩
  have v3 := Same.new hl3 (.lst ([V.int c0] ++ A6 (ns.map V.int) (some 3) (some 6)))
  have v13 := v1.trans (v2.trans v3)
  have hbl := v13 _ _ hbl2
  have hB := Bk.same v13 hB2
  have L' : LT Pt (upd (upd (upd G2 l1 (.lst [V.int c0])) l2 (.lst (A6 (ns.map V.int) (some 3) (some 6)))) l3 (.lst ([V.int c0] ++ A6 (ns.map V.int) (some 3) (some 6)))) := (L.same (e1.trans e2)).same v13
  have hl3' : (upd (upd (upd G2 l1 (.lst [V.int c0])) l2 (.lst (A6 (ns.map V.int) (some 3) (some 6)))) l3 (.lst ([V.int c0] ++ A6 (ns.map V.int) (some 3) (some 6)))) l3 = some (.lst ([V.int c0] ++ A6 (ns.map V.int) (some 3) (some 6))) := upd_same
  generalize upd (upd (upd G2 l1 (.lst [V.int c0])) l2 (.lst (A6 (ns.map V.int) (some 3) (some 6)))) l3 (.lst ([V.int c0] ++ A6 (ns.map V.int) (some 3) (some 6))) = G at *
  have cint : ∀ x ∈ [V.int c0] ++ A6 (ns.map V.int) (some 3) (some 6), ∃ k, x = .int k := fun x hx => by
    rcases List.mem_append.mp hx with q' | q'
    . exact ⟨c0, List.mem_singleton.mp q'⟩
    . exact a8M q'
  generalize [V.int c0] ++ A6 (ns.map V.int) (some 3) (some 6) = cs at *
  refine ⟨l3, rfl, ⟨_, SqL.of hl3'⟩, ?_⟩
  refine a1i (xs := cs) (fun i σ H' => ∃ o2 o3 o4 o5 o6 o7 o8 o9 o10 o11 o12 o13 o14 o15, σ = [some (.ref a), some (.ref bl), o2, o3, o4, o5, o6, o7, o8, o9, o10, o11, o12, o13, o14, o15] /\ Same1 Pt G H' /\ LT Pt H')
    ⟨_, _, _, _, _, _, _, _, _, _, _, _, _, _, rfl, Same1.refl, L'⟩ (fun i σ H' _ ⟨_, _, _, _, _, _, _, _, _, _, _, _, _, _, _, e, _⟩ => SqL.of (e.get L' hl3' nofun)) ?_ ?_
  rotate_left
  . intro σ H4 _
    exact q _
  rintro ci cv σ H2 hcv ⟨o2, o3, o4, o5, o6, o7, o8, o9, o10, o11, o12, o13, o14, o15, rfl, e2', L2⟩
  obtain ⟨ck, rfl⟩ := cint _ (List.mem_of_getElem? hcv)
  have get0 : ∀ {H' : Hp}, Same1 Pt G H' -> H' bl = some (.lst xs) := fun e => e.get L' hbl nofun
  have bk0 : ∀ {H' : Hp}, Same1 Pt G H' -> Bk K H' xs hs := fun e => Bk.same1 L' e hB
  -- picks
  refine ⟨_, rfl, _, _, rfl, rfl, ⟨by decide, by decide, by decide⟩, ck, 14, _, rfl, by decide, by decide, by decide, fun pl H3 ds e3 hpl ld bd => ?_⟩
  have e03 := e2'.trans e3.to1
  have L3 := L2.same e3
  have xpos : (0 : Int) < (xs.length : Int) := by omega
  obtain ⟨i0, hi0, i0l⟩ : ∃ i0 : Nat, ds.getD 11 0 % (xs.length : Int) = (i0 : Int) /\ i0 < xs.length := ⟨(ds.getD 11 0 % (xs.length : Int)).toNat, by have := Int.emod_nonneg (ds.getD 11 0) (show (xs.length : Int) ≠ 0 by omega); omega, by have := Int.emod_nonneg (ds.getD 11 0) (show (xs.length : Int) ≠ 0 by omega); have := Int.emod_lt_of_pos (ds.getD 11 0) xpos; omega⟩
  obtain ⟨xv, hxv⟩ : ∃ xv, xs[i0]? = some xv := ⟨_, List.getElem?_eq_getElem i0l⟩
  -- house
  refine ⟨fun σ' H' => ∃ hv h, σ' = [some (.ref a), some (.ref bl), some (.int ck), some (.ref pl), some hv, o5, o6, o7, o8, o9, o10, o11, o12, o13, o14, o15] /\ H3 = H' /\ HS K H' hv h /\ HG (10 ^ 9) kt kg h, ?_, ?_⟩
  . obtain ⟨h, hh, hHS⟩ := Paired.at (bk0 e03) hxv
    refine ⟨_, rfl, _, rfl, pl, _, _, _, rfl, rfl, SqL.of hpl, a8A (j := 11) (by omega), _, rfl, bl, _, rfl, .inl (SqL.of (get0 e03)), _, _, rfl, rfl, (by show (0 : Int) < _; exact xpos), bl, _, _, xv, rfl, rfl, SqL.of (get0 e03), ?_, ?_⟩
    . rw [hi0]; exact y6 hxv
    exact ⟨_, h, rfl, rfl, hHS, hG h (List.mem_of_getElem? hh)⟩
  rintro _ _ ⟨hv0, h0, rfl, rfl, hHS0, gh0⟩
  refine ⟨fun σ' H' => ∃ hv h, σ' = [some (.ref a), some (.ref bl), some (.int ck), some (.ref pl), some hv, o5, o6, o7, o8, o9, o10, o11, o12, o13, o14, o15] /\ Same H3 H' /\ HS K H' hv h /\ HG (10 ^ 9) kt kg h, ?_, ?_⟩
  . refine ⟨_, rfl, pl, _, _, _, rfl, rfl, SqL.of hpl, a8A (j := 12) (by omega), _, _, rfl, rfl, (by show (0 : Int) < 3; decide), _, _, rfl, rfl, _, rfl, D8 (fun _ => ?_) (fun _ => ⟨_, h0, rfl, Same.refl _, hHS0, gh0⟩)⟩
    exact ⟨_, rfl, _, rfl, bl, pl, xs, hs, ds, kt, kg, rfl, SqL.of (get0 e03), bk0 e03, hG, n1, kt1, kt4, kg1, kg4, SqL.of hpl, by omega, fun v h' H' e hv hg => ⟨v, h', rfl, e, hv, hg⟩⟩
  intro σ4 H4 hM_; refine D4 fun G_ hG_ => ?_; obtain ⟨hv, h, rfl, e4, hHS, gh⟩ := hM_; subst hG_
  obtain ⟨ha, ta, ga, rfl, p1, p2, p3⟩ := id hHS
  have L4 := L3.same e4
  have e04 := e03.trans e4.to1
  have hpl4 := e4 _ _ hpl
  refine ⟨_, rfl, ha, _, rfl, p1, rfl, _, _, rfl, _, _, rfl, rfl, ?_⟩
  -- what stays
  have get : ∀ {H' : Hp}, Same1 Pt H4 H' -> H' bl = some (.lst xs) := fun e => get0 (e04.trans e)
  have bk : ∀ {H' : Hp}, Same1 Pt H4 H' -> Bk K H' xs hs := fun e => bk0 (e04.trans e)
  have bin : ∀ {H' : Hp}, Same1 Pt H4 H' -> N1 K H' bl xs hs (10 ^ 9) kt kg := fun e => ⟨SqL.of (get e), bk e, hG, by decide, by omega, by omega, by omega⟩
  have hsH : ∀ {H' : Hp}, Same1 Pt H4 H' -> HS K H' (.ref ha) h := fun e => HS.same1 L4 e hHS
  have sqt : ∀ {H' : Hp}, Same1 Pt H4 H' -> SqT K H' ta (h.1.map V.int) := fun e => SqT.same1 L4 e p2
  have sqg : ∀ {H' : Hp}, Same1 Pt H4 H' -> SqT K H' ga (h.2.map V.int) := fun e => SqT.same1 L4 e p3
  have getP : ∀ {H' : Hp}, Same1 Pt H4 H' -> H' pl = some (.lst (ds.map V.int)) := fun e => e.get L4 hpl4 nofun
  have binM : ∀ {H' : Hp} {l : Addr} {v : V} {g : i8}, Same1 Pt H4 H' -> H' l = some (.lst (xs ++ [v])) -> HS K H' v g -> HG (10 ^ 9) kt kg g -> N1 K H' l (xs ++ [v]) (hs ++ [g]) (10 ^ 9) kt kg := fun e hl hv gg => ⟨SqL.of hl, Paired.app (bk e) (.cons hv .nil), fun x hx => by
    rcases List.mem_append.mp hx with q' | q'
    . exact hG x q'
    . rw [List.mem_singleton.mp q']; exact gg, by decide, by rw [List.length_append]; simp only [List.length_cons, List.length_nil]; omega, by omega, by omega⟩
  have lt' : (h.1.map V.int).length = kt := by rw [List.length_map]; exact gh.lt
  have lg' : (h.2.map V.int).length = kg := by rw [List.length_map]; exact gh.lg
  -- sizes
  refine ⟨fun σ' H' => ∃ o7 o8 o9 o10 o11 o12 o13, σ' = [some (.ref a), some (.ref bl), some (.int ck), some (.ref pl), some (.ref ha), some (.ref ta), some (.ref ga), o7, o8, o9, o10, o11, o12, o13, o14, o15] /\ Same1 Pt H4 H' /\ LT Pt H', ?_, ?_⟩
  . refine ⟨(by show 4 <= sizeLine; decide), fun sl hsl => ?_⟩
    have s4 := Same.new hsl (.lst [V.str "any", V.str "one", V.str "less", V.str "more"])
    have L4' := L4.same s4
    refine ⟨sl, rfl, ⟨_, SqL.of upd_same⟩, ?_⟩
    refine a1i (xs := [V.str "any", V.str "one", V.str "less", V.str "more"]) (fun i σ H' => ∃ o7 o8 o9 o10 o11 o12 o13, σ = [some (.ref a), some (.ref bl), some (.int ck), some (.ref pl), some (.ref ha), some (.ref ta), some (.ref ga), o7, o8, o9, o10, o11, o12, o13, o14, o15] /\ Same1 Pt (upd H4 sl (.lst [V.str "any", V.str "one", V.str "less", V.str "more"])) H' /\ LT Pt H')
      ⟨_, _, _, _, _, _, _, rfl, Same1.refl, L4'⟩ (fun i σ H' _ ⟨_, _, _, _, _, _, _, _, e, _⟩ => SqL.of (e.get L4' upd_same nofun)) ?_ ?_
    rotate_left
    . intro σ H5 hM_; refine D4 fun G_ hG_ => ?_; obtain ⟨o7, o8, o9, o10, o11, o12, o13, rfl, e5, L5⟩ := hM_; subst hG_
      exact ⟨_, _, _, _, _, _, _, rfl, s4.to1.trans e5, L5⟩
    rintro m' zv σ H5 hzv ⟨o7, o8, o9, o10, o11, o12, o13, rfl, e5', L5⟩
    obtain ⟨z, rfl, hz⟩ : ∃ z, zv = .str z /\ V6 z := by
      have := List.mem_of_getElem? hzv
      simp only [List.mem_cons, List.not_mem_nil, or_false] at this
      rcases this with rfl | rfl | rfl | rfl
      . exact ⟨_, rfl, .inl rfl⟩
      . exact ⟨_, rfl, .inr (.inl rfl)⟩
      . exact ⟨_, rfl, .inr (.inr (.inl rfl))⟩
      . exact ⟨_, rfl, .inr (.inr (.inr rfl))⟩
    have e5 : Same1 Pt H4 H5 := s4.to1.trans e5'
    -- handed
    refine ⟨_, rfl, bl, xs, rfl, .inl (SqL.of (get e5)), fun hd hhd => ?_⟩
    have s6 := Same.new hhd (.lst xs)
    have e6 := e5.trans s6.to1
    have L6 := L5.same s6
    have hd6 : (upd H5 hd (.lst xs)) hd = some (.lst xs) := upd_same
    generalize upd H5 hd (.lst xs) = H6 at *
    -- found
    refine ⟨fun σ' H' => ∃ (fv : V) (kl : Addr), σ' = [some (.ref a), some (.ref bl), some (.int ck), some (.ref pl), some (.ref ha), some (.ref ta), some (.ref ga), some (.str z), some (.ref hd), some fv, some (.ref kl), o11, o12, o13, o14, o15] /\ Same1 Pt H6 H' /\ LT Pt H' /\ AgV H' fv z hs h kt kg /\ H' kl = some (.lst []), ?_, ?_⟩
    . refine ⟨_, rfl, _, rfl, _, rfl, hd, .ref ha, xs, hs, h, z, 10 ^ 9, kt, kg, rfl, hz, ⟨SqL.of hd6, bk e6, hG, by decide, by omega, by omega, by omega⟩, n1, kt1, hsH e6, L6, fun _ _ => ⟨gh, fun H7 r kl u V e7 L7 hr7 hkl => ?_⟩, fun bad => absurd ⟨gh.lt, gh.lg⟩ bad⟩
      exact ⟨r, _, rfl, SqT.of hr7, rfl, _, _, rfl, _, _, rfl, rfl, u, kl, rfl, e7, L7, V, hkl⟩
    intro σ7 H7 hM_; refine D4 fun G_ hG_ => ?_; obtain ⟨fv, kl, rfl, e7, L7, V7, hkl⟩ := hM_; subst hG_
    have e47 := e6.trans e7
    have hd7 := e7.get L6 hd6 nofun
    -- kin, handed
    refine ⟨fun σ' H' => σ' = [some (.ref a), some (.ref bl), some (.int ck), some (.ref pl), some (.ref ha), some (.ref ta), some (.ref ga), some (.str z), some (.ref hd), some fv, some (.ref kl), o11, o12, o13, o14, o15] /\ Same H7 H', ?_, ?_⟩
    . refine ⟨_, rfl, (by show 0 <= sizeLine; decide), fun nl hnl => ?_⟩
      have w1 := Same.new hnl (.lst [])
      refine ⟨.list [], .list [], .lst (SqL.of (w1 _ _ hkl)) .nil, .lst (SqL.of upd_same) .nil, rfl, rfl, by decide, _, rfl, ?_⟩
      rw [O7 _ rfl]
      refine N5 ?_
      have lb : (PyData.list (hs.map A7)).canLay0 = true := by rw [PyData.canLay0]; exact S6 hs
      have db : (PyData.list (hs.map A7)).depth <= 60 := by have := a0N hs; simp only [PyData.depth]; omega
      refine ⟨_, rfl, _, rfl, .list (hs.map A7), .list (hs.map A7), .lst (SqL.of (w1 _ _ hd7)) (Bk.dps (Bk.same w1 (bk e47))), .lst (SqL.of (w1 _ _ (get e47))) (Bk.dps (Bk.same w1 (bk e47))), lb, lb, Nat.le_trans (Nat.min_le_left _ _) db, _, rfl, ?_⟩
      rw [O7 _ lb]
      exact N5 ⟨rfl, w1⟩
    intro σ8 H8 hM_; refine D4 fun G_ hG_ => ?_; obtain ⟨rfl, e8⟩ := hM_; subst hG_
    have e48 := e47.trans e8.to1
    have L8 := L7.same e8
    have V8 := V7.to1 L7 e8.to1
    clear hd7 hkl
    -- as one of the others
    refine ⟨fun σ' H' => σ' = [some (.ref a), some (.ref bl), some (.int ck), some (.ref pl), some (.ref ha), some (.ref ta), some (.ref ga), some (.str z), some (.ref hd), some fv, some (.ref kl), o11, o12, o13, o14, o15] /\ Same1 Pt H8 H' /\ LT Pt H', ?_, ?_⟩
    . refine ⟨_, rfl, _, rfl, _, rfl, (by show 1 <= sizeLine; decide), fun m1 hm1 => ?_⟩
      have w1 := Same.new hm1 (.lst [V.ref ha])
      refine ⟨bl, m1, _, _, rfl, rfl, w1 _ _ (get e48), upd_same, by simp only [List.length_cons, List.length_nil]; exact Nat.le_of_lt (j7 (by omega)), fun m2 hm2 => ?_⟩
      have w2 := Same.new hm2 (.lst (xs ++ [V.ref ha]))
      have w12 := w1.trans w2
      have e4w := e48.trans w12.to1
      have oat : (hs ++ [h])[xs.length]? = some h := by rw [xl, List.getElem?_append_right (Nat.le_refl _), Nat.sub_self]; rfl
      have olo : a1p (hs ++ [h]) xs.length = hs := by
        unfold a1p
        rw [xl, List.take_left', List.drop_of_length_le (by rw [List.length_append]; simp only [List.length_cons, List.length_nil]; omega), List.append_nil]
        rfl
      have fin : ∀ (H9 : Hp) (v : V), b0O K H9 v z hs h kt kg -> Same1 Pt H8 H9 -> ∃ d e, Dp K H9 fv d /\ Dp K H9 v e /\ d.canLay0 = true /\ e.canLay0 = true /\ min d.depth e.depth <= 60 /\ (!PyData.eqv d e) = false := fun H9 v O e => by
        obtain ⟨d, q1, q2, q3, q4⟩ := a9S (K := K) hz (V8.to1 L8 e) O hG gh
        exact ⟨d, d, q1, q2, q3, q3, Nat.le_trans (Nat.min_le_left _ _) q4, by rw [O7 _ q3]; rfl⟩
      refine ⟨_, rfl, bl, _, rfl, .inl (SqL.of (get e4w)), _, rfl, m2, xs ++ [V.ref ha], hs ++ [h], (xs.length : Int), z, 10 ^ 9, kt, kg, rfl, hz, binM e4w upd_same (hsH e4w) gh, kt1, a4X (by omega), L8.same w12, fun i h' A B H9 u hi hh X e9 L9 hu => ?_, fun i h' H9 hi hh N e9 L9 => ?_, fun bad => absurd ⟨by omega, by rw [List.length_append]; simp only [List.length_cons, List.length_nil]; omega⟩ bad⟩
      . have : i = xs.length := by omega
        subst this
        rw [oat] at hh; cases hh
        rw [olo] at X
        obtain ⟨d, e, q1, q2, q3, q4, q5, q6⟩ := fin H9 u (.inl ⟨A, B, X, hu⟩) (w12.to1.trans e9)
        refine ⟨d, e, q1, q2, q3, q4, q5, _, rfl, ?_⟩
        rw [q6]
        exact N5 ⟨rfl, w12.to1.trans e9, L9⟩
      . have : i = xs.length := by omega
        subst this
        rw [oat] at hh; cases hh
        rw [olo] at N
        obtain ⟨d, e, q1, q2, q3, q4, q5, q6⟩ := fin H9 .non (.inr ⟨rfl, N⟩) (w12.to1.trans e9)
        refine ⟨d, e, q1, q2, q3, q4, q5, _, rfl, ?_⟩
        rw [q6]
        exact N5 ⟨rfl, w12.to1.trans e9, L9⟩
    intro σ9 H9 hM_; refine D4 fun G_ hG_ => ?_; obtain ⟨rfl, e9, L9⟩ := hM_; subst hG_
    have e49 := e48.trans e9
    have V9 := V8.to1 L8 e9
    -- a fraction
    refine ⟨fun σ' H' => σ' = [some (.ref a), some (.ref bl), some (.int ck), some (.ref pl), some (.ref ha), some (.ref ta), some (.ref ga), some (.str z), some (.ref hd), some fv, some (.ref kl), o11, o12, o13, o14, o15] /\ H9 = H', ?_, ?_⟩
    . rcases id V9 with ⟨x, X, hx⟩ | ⟨rfl, _⟩
      . obtain ⟨xa, rfl, _⟩ := id hx
        obtain ⟨A, B, I, hA, rfl⟩ := id X.s
        exact ⟨_, rfl, rfl, _, rfl, a2D ⟨_, rfl, _, _, rfl, hx, a0b I.1, _, rfl, N5 ⟨rfl, rfl⟩⟩⟩
      . exact ⟨_, rfl, rfl, _, rfl, N5 (N5 ⟨rfl, rfl⟩)⟩
    rintro _ _ ⟨rfl, rfl⟩
    -- a house of the book
    refine ⟨fun σ' H' => σ' = [some (.ref a), some (.ref bl), some (.int ck), some (.ref pl), some (.ref ha), some (.ref ta), some (.ref ga), some (.str z), some (.ref hd), some fv, some (.ref kl), o11, o12, o13, o14, o15] /\ Same1 Pt H9 H' /\ LT Pt H', ?_, ?_⟩
    . have dh : (A7 h).depth <= 50 := Nat.le_trans (a0s h) (by decide)
      refine ⟨_, rfl, _, rfl, bl, xs, hs.map A7, A7 h, rfl, SqL.of (get e49), Bk.dps (bk e49), (hsH e49).dp, S6 hs, Z4 h, dh, _, rfl, D8 (fun c => ?_) (fun _ => N5 ⟨rfl, Same1.refl, L9⟩)⟩
      obtain ⟨j, ⟨e, he, pe⟩, hno⟩ := a3c (fun e => PyData.eqv e (A7 h)) (hs.map A7) c
      rw [List.getElem?_map] at he
      obtain ⟨g, hg, rfl⟩ := Option.map_eq_some_iff.mp he
      have := a5J pe
      subst this
      have hjl := (List.getElem?_eq_some_iff.mp hg).1
      refine ⟨_, rfl, _, rfl, _, rfl, .inl ⟨rfl, _, SqL.of (get e49)⟩, _, rfl, bl, xs, _, hs.map A7, A7 g, j, rfl, rfl, get e49, Bk.dps (bk e49), (hsH e49).dp, S6 hs, Z4 g, dh, ⟨A7 g, by rw [List.getElem?_map, hg]; rfl, pe⟩, hno, ?_⟩
      refine ⟨_, rfl, bl, xs, hs, (j : Int), z, 10 ^ 9, kt, kg, rfl, hz, bin e49, kt1, a4X (by omega), L9, fun i' h' x H10 u hi hh X e10 L10 hu => ?_, fun bad => absurd ⟨by omega, by omega⟩ bad⟩
      have : i' = j := by omega
      subst this
      rw [hg] at hh; cases hh
      obtain ⟨d, q1, q2, q3, q4⟩ := a8l (K := K) hz (V9.to1 L9 e10) (.inl ⟨x, X, hu⟩) hG gh
      refine ⟨d, d, q1, q2, q3, q3, Nat.le_trans (Nat.min_le_left _ _) q4, _, rfl, ?_⟩
      rw [O7 _ q3]
      exact N5 ⟨rfl, e10, L10⟩
    intro σa Ha hM_; refine D4 fun G_ hG_ => ?_; obtain ⟨rfl, ea, La⟩ := hM_; subst hG_
    have e4a := e49.trans ea
    have Va := V9.to1 L9 ea
    -- more
    refine ⟨fun σ' H' => ∃ (mv : V) (g : i8), σ' = [some (.ref a), some (.ref bl), some (.int ck), some (.ref pl), some (.ref ha), some (.ref ta), some (.ref ga), some (.str z), some (.ref hd), some fv, some (.ref kl), some mv, o12, o13, o14, o15] /\ Same1 Pt Ha H' /\ LT Pt H' /\ HG (10 ^ 9) kt kg g /\ AgV H' mv z (hs ++ [g]) h kt kg, ?_, ?_⟩
    . refine ⟨_, rfl, _, rfl, _, rfl, _, rfl, pl, _, rfl, SqL.of (getP e4a), fun p5 hp5 => ?_⟩
      rw [show (1 : Int) = ((1 : Nat) : Int) from rfl, Y3 _ _ (by rw [List.length_map]; omega), <- List.map_drop]
      have w1 := Same.new hp5 (.lst ((ds.drop 1).map V.int))
      refine ⟨bl, p5, xs, hs, ds.drop 1, kt, kg, rfl, SqL.of (w1 _ _ (get e4a)), Bk.same w1 (bk e4a), hG, n1, kt1, kt4, kg1, kg4, SqL.of upd_same, by rw [List.length_drop]; omega, fun v g H10 e10 hv hg => ?_⟩
      refine ⟨(by show 1 <= sizeLine; decide), fun l7 hl7 => ?_⟩
      have w2 := Same.new hl7 (.lst [v])
      have w12 := w1.trans (e10.trans w2)
      refine ⟨bl, l7, _, _, rfl, rfl, w12 _ _ (get e4a), upd_same, by simp only [List.length_cons, List.length_nil]; exact Nat.le_of_lt (j7 (by omega)), fun l8 hl8 => ?_⟩
      have w3 := Same.new hl8 (.lst (xs ++ [v]))
      have w13 := w12.trans w3
      have e4w := e4a.trans w13.to1
      refine ⟨_, rfl, _, rfl, l8, .ref ha, xs ++ [v], hs ++ [g], h, z, 10 ^ 9, kt, kg, rfl, hz, binM e4w upd_same (hv.same (w2.trans w3)) hg, by rw [List.length_append]; omega, kt1, hsH e4w, La.same w13, fun _ _ => ⟨gh, fun Hb r kl' u V eb Lb hrb hklb => ?_⟩, fun bad => absurd ⟨gh.lt, gh.lg⟩ bad⟩
      exact ⟨r, _, 0, _, rfl, rfl, SqT.of hrb, Q5 _ _, u, g, rfl, w13.to1.trans eb, Lb, hg, V⟩
    intro σb Hb hM_; refine D4 fun G_ hG_ => ?_; obtain ⟨mv, g, rfl, eb, Lb, gg, Vm⟩ := hM_; subst hG_
    have e4b := e4a.trans eb
    have Vb := Va.to1 La eb
    have hGm : ∀ x ∈ hs ++ [g], HG (10 ^ 9) kt kg x := fun x hx => by
      rcases List.mem_append.mp hx with q' | q'
      . exact hG x q'
      . rw [List.mem_singleton.mp q']; exact gg
    refine ⟨fun σ' H' => σ' = [some (.ref a), some (.ref bl), some (.int ck), some (.ref pl), some (.ref ha), some (.ref ta), some (.ref ga), some (.str z), some (.ref hd), some fv, some (.ref kl), some mv, o12, o13, o14, o15] /\ Hb = H', ?_, ?_⟩
    . exact ⟨_, rfl, _, rfl, mv, fv, rfl, a6S Vm Vb (fun A B A' B' I J _ => a8k hz I J (fun x hx => List.mem_append_left _ hx) hGm gh) (fun A B N J _ => a5m hz N J (fun x hx => List.mem_append_left _ hx) hGm gh), _, rfl, N5 ⟨rfl, rfl⟩⟩
    rintro _ _ ⟨rfl, rfl⟩
    -- worse
    have d0 : 0 <= ds.getD 13 0 % 9 := Int.emod_nonneg _ (by decide)
    have gw := a7h d0 gh
    refine ⟨fun σ' H' => ∃ wv, σ' = [some (.ref a), some (.ref bl), some (.int ck), some (.ref pl), some (.ref ha), some (.ref ta), some (.ref ga), some (.str z), some (.ref hd), some fv, some (.ref kl), some mv, some wv, o13, o14, o15] /\ Same Hb H' /\ HS K H' wv (a3U (ds.getD 13 0 % 9) h), ?_, ?_⟩
    . refine ⟨_, rfl, ta, rfl, ⟨_, sqt e4b⟩, fun b1 h1 => ?_⟩
      refine M8 (S2 (sqt e4b)) h1 (by rw [lt']; exact j7 (by omega)) (fun x => .int (wf (ds.getD 13 0 % 9) (vI x))) (fun j x H2 N hx e hN => ?_) ?_
      . obtain ⟨y, rfl⟩ := D9 hx
        exact ⟨Wk.set (by decide), _, _, rfl, rfl, ⟨by decide, by decide, by decide⟩, _, rfl, _, rfl, pl, _, _, _, rfl, rfl, SqL.of (e _ _ (getP e4b)), a8A (j := 13) (by omega), _, _, rfl, rfl, (by show (0 : Int) < 9; decide), _, _, rfl, rfl, _, _, rfl, hN⟩
      have eM : (h.1.map V.int).map (fun x => V.int (wf (ds.getD 13 0 % 9) (vI x))) = (a3U (ds.getD 13 0 % 9) h).1.map V.int := by
        show _ = (h.1.map (wf (ds.getD 13 0 % 9))).map V.int
        rw [List.map_map, List.map_map]; rfl
      rw [eM]
      have w1 := Same.new h1 (.lst ((a3U (ds.getD 13 0 % 9) h).1.map V.int))
      refine ⟨b1, _, rfl, .inl ⟨SqL.of upd_same, fun tt htt => ?_⟩⟩
      have w2 := Same.new htt (.tup ((a3U (ds.getD 13 0 % 9) h).1.map V.int))
      refine ⟨_, rfl, (by show 2 <= sizeLine; decide), fun wt hwt => ?_⟩
      have w3 := Same.new hwt (.tup [V.ref tt, V.ref ga])
      have w13 := w1.trans (w2.trans w3)
      exact ⟨_, rfl, w13, ⟨wt, tt, ga, rfl, SqT.of upd_same, SqT.of (w3 _ _ upd_same), w13.tseq (sqg e4b)⟩⟩
    intro σc Hc hM_; refine D4 fun G_ hG_ => ?_; obtain ⟨wv, rfl, ec, hwv⟩ := hM_; subst hG_
    have e4c := e4b.trans ec.to1
    have Lc := Lb.same ec
    have Vc := Vb.to1 Lb ec.to1
    refine ⟨fun σ' H' => σ' = [some (.ref a), some (.ref bl), some (.int ck), some (.ref pl), some (.ref ha), some (.ref ta), some (.ref ga), some (.str z), some (.ref hd), some fv, some (.ref kl), some mv, some wv, o13, o14, o15] /\ Same1 Pt Hc H' /\ LT Pt H', ?_, ?_⟩
    . refine ⟨_, rfl, _, rfl, _, rfl, bl, wv, xs, hs, a3U (ds.getD 13 0 % 9) h, z, 10 ^ 9, kt, kg, rfl, hz, bin e4c, n1, kt1, hwv, Lc, fun _ _ => ⟨gw, fun Hd r kl' u V ed Ld hrd hkld => ?_⟩, fun bad => absurd ⟨gw.lt, gw.lg⟩ bad⟩
      refine ⟨r, _, 0, _, rfl, rfl, SqT.of hrd, Q5 _ _, _, rfl, u, fv, rfl, a6S V (Vc.to1 Lc ed) (fun A B A' B' I J hA => a2P hz I J hA (a4x d0 gh) hG gw) (fun A B N J hA => a0X hz N J hA (a4x d0 gh) hG gw), _, rfl, N5 ⟨rfl, ed, Ld⟩⟩
    intro σd Hd hM_; refine D4 fun G_ hG_ => ?_; obtain ⟨rfl, ed, Ld⟩ := hM_; subst hG_
    have e4d := e4c.trans ed
    have Vd := Vc.to1 Lc ed
    -- less
    have gne : h.2.map V.int ≠ [] := fun w => by rw [w] at lg'; simp only [List.length_nil] at lg'; omega
    have cl := a6l (h.2.map V.int) gne
    refine ⟨fun σ' H' => ∃ (lt gl : Addr), σ' = [some (.ref a), some (.ref bl), some (.int ck), some (.ref pl), some (.ref ha), some (.ref ta), some (.ref ga), some (.str z), some (.ref hd), some fv, some (.ref kl), some mv, some wv, some (.ref lt), o14, o15] /\ Same Hd H' /\ H' lt = some (.tup [V.ref ta, V.ref gl]) /\ SqT K H' gl ((J6 h.2).map V.int), ?_, ?_⟩
    . have sm : ∀ dd, HT.sIx (h.2.map V.int).length dd (some (-1)) = kg - 1 := fun dd => by
        show (if (-1 : Int) < 0 then ((-1 : Int) + ((h.2.map V.int).length : Int)).toNat else min (-1 : Int).toNat (h.2.map V.int).length) = _
        rw [if_pos (by decide), lg']; omega
      refine ⟨_, rfl, _, rfl, _, rfl, _, rfl, ga, _, rfl, sqg e4d, fun w => ?_, fun _ p6 hp6 => ?_⟩
      . exfalso
        have := w.2
        rw [sm, lg'] at this
        omega
      rw [cl.1, lg', <- List.map_take]
      have w1 := Same.new hp6 (.tup ((h.2.take (kg - 1)).map V.int))
      refine ⟨p6, rfl, ⟨_, SqT.of upd_same⟩, fun b1 h1 => ?_⟩
      refine M8 (S2 (SqT.of upd_same)) h1 (by rw [List.length_map, List.length_take]; exact j7 (by omega)) (fun x => .int (vI x / 2)) (fun j x H2 N hx e hN => ?_) ?_
      . obtain ⟨y, rfl⟩ := D9 hx
        exact ⟨Wk.set (by decide), _, rfl, _, _, rfl, rfl, ⟨by decide, by decide⟩, hN⟩
      have eM : ((h.2.take (kg - 1)).map V.int).map (fun x => V.int (vI x / 2)) = ((h.2.take (kg - 1)).map (· / 2)).map V.int := by rw [List.map_map, List.map_map]; rfl
      rw [eM]
      have w2 := Same.new h1 (.lst (((h.2.take (kg - 1)).map (· / 2)).map V.int))
      refine ⟨b1, _, rfl, .inl ⟨SqL.of upd_same, fun tt htt => ?_⟩⟩
      have w3 := Same.new htt (.tup (((h.2.take (kg - 1)).map (· / 2)).map V.int))
      have w13 := w1.trans (w2.trans w3)
      have llen : ((h.2.take (kg - 1)).map (· / 2)).length = kg - 1 := by rw [List.length_map, List.length_take, gh.lg]; omega
      have eL : J6 h.2 = (h.2.take (kg - 1)).map (· / 2) ++ h.2.drop (kg - 1) := by unfold J6; rw [gh.lg]
      refine ⟨_, rfl, _, rfl, _, rfl, ga, _, rfl, w13.tseq (sqg e4d), fun wh => ?_, fun nw p7 hp7 => ?_⟩
      . have k1 : kg = 1 := by
          have := wh.1
          rw [sm] at this
          omega
        have e0 : (h.2.take (kg - 1)).map (· / 2) = [] := List.eq_nil_of_length_eq_zero (by rw [llen]; omega)
        refine ⟨tt, ga, _, _, rfl, rfl, SqT.of upd_same, w13.tseq (sqg e4d), Nat.le_of_lt (j7 (by rw [List.length_map, llen, lg']; omega)), fun _ => ?_, fun ne => absurd (by rw [e0]; rfl) ne, fun ne => absurd (by rw [e0]; rfl) ne⟩
        refine ⟨(by show 2 <= sizeLine; decide), fun lt hlt => ?_⟩
        have w4 := Same.new hlt (.tup [V.ref ta, V.ref ga])
        refine ⟨lt, ga, rfl, w13.trans w4, upd_same, ?_⟩
        have eA : J6 h.2 = h.2 := by rw [eL, e0, List.nil_append, k1, Nat.sub_self, List.drop_zero]
        rw [eA]
        exact (w13.trans w4).tseq (sqg e4d)
      . rw [cl.2, lg', <- List.map_drop]
        have k2 : 1 < kg := by
          rcases Nat.lt_or_ge 1 kg with c | c
          . exact c
          . exfalso
            refine nw ⟨?_, rfl⟩
            rw [sm]; omega
        have w4 := Same.new hp7 (.tup ((h.2.drop (kg - 1)).map V.int))
        have dlen : (h.2.drop (kg - 1)).length = 1 := by rw [List.length_drop, gh.lg]; omega
        refine ⟨tt, p7, _, _, rfl, rfl, SqT.of (w4 _ _ upd_same), SqT.of upd_same, Nat.le_of_lt (j7 (by rw [List.length_map, llen, List.length_map, dlen]; omega)), fun e => ?_, fun _ e => ?_, fun _ _ p8 hp8 => ?_⟩
        . exfalso
          have := congrArg List.length e
          rw [List.length_map, llen] at this
          simp only [List.length_nil] at this
          omega
        . exfalso
          have := congrArg List.length e
          rw [List.length_map, dlen] at this
          simp only [List.length_nil] at this
          omega
        have w5 := Same.new hp8 (.tup (((h.2.take (kg - 1)).map (· / 2)).map V.int ++ (h.2.drop (kg - 1)).map V.int))
        refine ⟨(by show 2 <= sizeLine; decide), fun lt hlt => ?_⟩
        have w6 := Same.new hlt (.tup [V.ref ta, V.ref p8])
        refine ⟨lt, p8, rfl, w13.trans (w4.trans (w5.trans w6)), upd_same, ?_⟩
        rw [eL, List.map_append]
        exact SqT.of (w6 _ _ upd_same)
    intro σe He hM_; refine D4 fun G_ hG_ => ?_; obtain ⟨lt, gl, rfl, ee, hlt, hgl⟩ := hM_; subst hG_
    have e4e := e4d.trans ee.to1
    have Le := Ld.same ee
    have Ve := Vd.to1 Ld ee.to1
    have fin : ∀ (Hf : Hp) σ', Same1 Pt He Hf -> LT Pt Hf -> σ' = [some (.ref a), some (.ref bl), some (.int ck), some (.ref pl), some (.ref ha), some (.ref ta), some (.ref ga), some (.str z), some (.ref hd), some fv, some (.ref kl), some mv, some wv, some (.ref lt), o14, o15] -> ∃ o7 o8 o9 o10 o11 o12 o13, σ' = [some (.ref a), some (.ref bl), some (.int ck), some (.ref pl), some (.ref ha), some (.ref ta), some (.ref ga), o7, o8, o9, o10, o11, o12, o13, o14, o15] /\ Same1 Pt (upd H4 sl (.lst [V.str "any", V.str "one", V.str "less", V.str "more"])) Hf /\ LT Pt Hf := fun Hf σ' ef Lf hσ => ⟨_, _, _, _, _, _, _, hσ, e5'.trans (s6.to1.trans (e7.trans (e8.to1.trans (e9.trans (ea.trans (eb.trans (ec.to1.trans (ed.trans (ee.to1.trans ef))))))))), Lf⟩
    refine ⟨_, rfl, lt, _, 1, _, rfl, rfl, SqT.of hlt, S1 _ _, gl, J6 h.2, rfl, .inr hgl, (fun w => by have := congrArg List.length w; rw [U3, gh.lg] at this; simp only [List.length_nil] at this; omega), fun M hM hMx => ⟨_, _, rfl, rfl, _, rfl, D8 (fun c => ?_) (fun _ => fin He _ Same1.refl Le rfl)⟩⟩
    have gl' := a5c gh ⟨M, hM, of_decide_eq_true c⟩
    refine ⟨_, rfl, _, rfl, _, rfl, bl, .ref lt, xs, hs, (h.1, J6 h.2), z, 10 ^ 9, kt, kg, rfl, hz, bin e4e, n1, kt1, ⟨lt, ta, gl, rfl, SqT.of hlt, sqt e4e, hgl⟩, Le, fun _ _ => ⟨gl', fun Hf r kl' u V ef Lf hrf hklf => ?_⟩, fun bad => absurd ⟨gl'.lt, gl'.lg⟩ bad⟩
    exact ⟨r, _, 0, _, rfl, rfl, SqT.of hrf, Q5 _ _, _, rfl, u, fv, rfl, a6S V (Ve.to1 Le ef) (fun A B A' B' I J hA => a2P hz I J hA (a3m gh) hG gl') (fun A B N J hA => a0X hz N J hA (a3m gh) hG gl'), _, rfl, N5 (fin Hf _ ef Lf rfl)⟩
  intro σ5 H5 hM_; refine D4 fun G_ hG_ => ?_; obtain ⟨o7, o8, o9, o10, o11, o12, o13, rfl, e5, L5⟩ := hM_; subst hG_
  -- odds
  refine ⟨fun σ' H' => ∃ (ol : Addr) (x1 x2 x3 : V), σ' = [some (.ref a), some (.ref bl), some (.int ck), some (.ref pl), some (.ref ha), some (.ref ta), some (.ref ga), o7, o8, o9, o10, o11, o12, o13, some (.ref ol), o15] /\ Same H5 H' /\ H' ol = some (.lst [x1, x2, x3]) /\ HS K H' x1 (h.1 ++ [1], h.2) /\ HS K H' x2 (h.1, h.2 ++ [1]) /\ HS K H' x3 (h.1.drop 1 ++ [1, 1], h.2), ?_, ?_⟩
  . have tne : h.1.map V.int ≠ [] := fun w => by rw [w] at lt'; simp only [List.length_nil] at lt'; omega
    have gne : h.2.map V.int ≠ [] := fun w => by rw [w] at lg'; simp only [List.length_nil] at lg'; omega
    refine ⟨_, rfl, (by show 1 <= sizeLine; decide), fun t1 ht1 => ?_⟩
    have w1 := Same.new ht1 (.tup [V.int 1])
    refine ⟨ta, t1, _, _, rfl, rfl, w1.tseq (sqt e5), SqT.of upd_same, tne, Nat.le_of_lt (j7 (by rw [lt']; simp only [List.length_cons, List.length_nil]; omega)), nofun, fun _ t2 ht2 => ?_⟩
    have w2 := Same.new ht2 (.tup (h.1.map V.int ++ [V.int 1]))
    refine ⟨_, rfl, (by show 2 <= sizeLine; decide), fun t3 ht3 => ?_⟩
    have w3 := Same.new ht3 (.tup [V.ref t2, V.ref ga])
    have w13 := w1.trans (w2.trans w3)
    have h1 : HS K _ (V.ref t3) (h.1 ++ [1], h.2) := ⟨t3, t2, ga, rfl, SqT.of upd_same, SqT.of (w3 _ _ (by rw [upd_same]; simp)), w13.tseq (sqg e5)⟩
    refine ⟨_, rfl, _, rfl, (by show 1 <= sizeLine; decide), fun t4 ht4 => ?_⟩
    have w4 := Same.new ht4 (.tup [V.int 1])
    have w14 := w13.trans w4
    refine ⟨ga, t4, _, _, rfl, rfl, w14.tseq (sqg e5), SqT.of upd_same, gne, Nat.le_of_lt (j7 (by rw [lg']; simp only [List.length_cons, List.length_nil]; omega)), nofun, fun _ t5 ht5 => ?_⟩
    have w5 := Same.new ht5 (.tup (h.2.map V.int ++ [V.int 1]))
    refine ⟨(by show 2 <= sizeLine; decide), fun t6 ht6 => ?_⟩
    have w6 := Same.new ht6 (.tup [V.ref ta, V.ref t5])
    have w46 := w4.trans (w5.trans w6)
    have w16 := w13.trans w46
    have h2 : HS K _ (V.ref t6) (h.1, h.2 ++ [1]) := ⟨t6, ta, t5, rfl, SqT.of upd_same, w16.tseq (sqt e5), SqT.of (w6 _ _ (by rw [upd_same]; simp))⟩
    have h1' := h1.same w46
    have s1 : ∀ dd, HT.sIx (h.1.map V.int).length dd (some 1) = 1 := fun dd => by
      rw [show (1 : Int) = ((1 : Nat) : Int) from rfl, HT.sIx_nat, lt']; omega
    refine ⟨_, rfl, _, rfl, ta, _, rfl, w16.tseq (sqt e5), fun w => ?_, fun _ p7 hp7 => ?_⟩
    . exfalso
      have := w.1
      rw [s1] at this
      omega
    have c1 : A6 (h.1.map V.int) (some 1) none = (h.1.drop 1).map V.int := by
      rw [show (1 : Int) = ((1 : Nat) : Int) from rfl, Y3 _ _ (by rw [lt']; omega), <- List.map_drop]
    rw [c1]
    have w7 := Same.new hp7 (.tup ((h.1.drop 1).map V.int))
    refine ⟨(by show 2 <= sizeLine; decide), fun t8 ht8 => ?_⟩
    have w8 := Same.new ht8 (.tup [V.int 1, V.int 1])
    have dl : (h.1.drop 1).length <= 4 := by rw [List.length_drop, gh.lt]; omega
    have w78 := w7.trans w8
    have last : ∀ (Hf : Hp) (t9 : Addr), Same (upd (upd (upd (upd (upd (upd (upd (upd H5 t1 (.tup [V.int 1])) t2 (.tup (h.1.map V.int ++ [V.int 1]))) t3 (.tup [V.ref t2, V.ref ga])) t4 (.tup [V.int 1])) t5 (.tup (h.2.map V.int ++ [V.int 1]))) t6 (.tup [V.ref ta, V.ref t5])) p7 (.tup ((h.1.drop 1).map V.int))) t8 (.tup [V.int 1, V.int 1])) Hf -> SqT K Hf t9 ((h.1.drop 1 ++ [1, 1]).map V.int) -> ∀ t10, Hf t10 = none -> ∀ ol, (upd Hf t10 (.tup [V.ref t9, V.ref ga])) ol = none -> ∃ (ol' : Addr) (x1 x2 x3 : V), [some (.ref a), some (.ref bl), some (.int ck), some (.ref pl), some (.ref ha), some (.ref ta), some (.ref ga), o7, o8, o9, o10, o11, o12, o13, some (.ref ol), o15] = [some (.ref a), some (.ref bl), some (.int ck), some (.ref pl), some (.ref ha), some (.ref ta), some (.ref ga), o7, o8, o9, o10, o11, o12, o13, some (.ref ol'), o15] /\ Same H5 (upd (upd Hf t10 (.tup [V.ref t9, V.ref ga])) ol (.lst [V.ref t3, V.ref t6, V.ref t10])) /\ (upd (upd Hf t10 (.tup [V.ref t9, V.ref ga])) ol (.lst [V.ref t3, V.ref t6, V.ref t10])) ol' = some (.lst [x1, x2, x3]) /\ HS K (upd (upd Hf t10 (.tup [V.ref t9, V.ref ga])) ol (.lst [V.ref t3, V.ref t6, V.ref t10])) x1 (h.1 ++ [1], h.2) /\ HS K (upd (upd Hf t10 (.tup [V.ref t9, V.ref ga])) ol (.lst [V.ref t3, V.ref t6, V.ref t10])) x2 (h.1, h.2 ++ [1]) /\ HS K (upd (upd Hf t10 (.tup [V.ref t9, V.ref ga])) ol (.lst [V.ref t3, V.ref t6, V.ref t10])) x3 (h.1.drop 1 ++ [1, 1], h.2) := fun Hf t9 ef ht9 t10 ht10 ol hol => by
      have u1 := Same.new ht10 (.tup [V.ref t9, V.ref ga])
      have u2 := Same.new hol (.lst [V.ref t3, V.ref t6, V.ref t10])
      have u12 := u1.trans u2
      exact ⟨ol, _, _, _, rfl, w16.trans (w78.trans (ef.trans u12)), upd_same, h1'.same (w78.trans (ef.trans u12)), h2.same (w78.trans (ef.trans u12)), ⟨t10, t9, ga, rfl, SqT.of (u2 _ _ upd_same), u12.tseq ht9, (w16.trans (w78.trans (ef.trans u12))).tseq (sqg e5)⟩⟩
    refine ⟨p7, t8, _, _, rfl, rfl, SqT.of (w8 _ _ upd_same), SqT.of upd_same, Nat.le_of_lt (j7 (by rw [List.length_map]; simp only [List.length_cons, List.length_nil]; omega)), fun e => ?_, fun _ e => (by cases e), fun _ _ t9 ht9 => ?_⟩
    . have e0 : h.1.drop 1 = [] := List.map_eq_nil_iff.mp e
      refine ⟨_, rfl, (by show 2 <= sizeLine; decide), fun t10 ht10 => ⟨(by show 3 <= sizeLine; decide), fun ol hol => ?_⟩⟩
      exact last _ t8 (Same.refl _) (by rw [e0]; exact SqT.of upd_same) t10 ht10 ol hol
    . refine ⟨_, rfl, (by show 2 <= sizeLine; decide), fun t10 ht10 => ⟨(by show 3 <= sizeLine; decide), fun ol hol => ?_⟩⟩
      exact last _ t9 (Same.new ht9 _) (by rw [List.map_append]; exact SqT.of upd_same) t10 ht10 ol hol
  intro σ6 H6 hM_; refine D4 fun G_ hG_ => ?_; obtain ⟨ol, x1, x2, x3, rfl, e6, hol, hx1, hx2, hx3⟩ := hM_; subst hG_
  have e46 := e5.trans e6.to1
  have L6 := L5.same e6
  refine ⟨_, rfl, ol, rfl, ⟨_, SqL.of hol⟩, ?_⟩
  refine a1i (xs := [x1, x2, x3]) (fun j σ H' => ∃ o15, σ = [some (.ref a), some (.ref bl), some (.int ck), some (.ref pl), some (.ref ha), some (.ref ta), some (.ref ga), o7, o8, o9, o10, o11, o12, o13, some (.ref ol), o15] /\ Same H6 H')
    ⟨_, rfl, Same.refl _⟩ (fun j σ H' _ ⟨_, _, e⟩ => SqL.of (e _ _ hol)) ?_ ?_
  rotate_left
  . rintro _ H7 ⟨o15', rfl, e7⟩
    exact ⟨_, _, _, _, _, _, _, _, _, _, _, _, _, _, rfl, e04.trans (e46.trans e7.to1), L6.same e7⟩
  rintro j xv' σ H7 hxv' ⟨o15', rfl, e7⟩
  obtain ⟨ho, hho, bad⟩ : ∃ ho, HS K H7 xv' ho /\ ¬ (ho.1.length = kt /\ ho.2.length = kg) := by
    have := List.mem_of_getElem? hxv'
    simp only [List.mem_cons, List.not_mem_nil, or_false] at this
    rcases this with rfl | rfl | rfl
    . exact ⟨_, hx1.same e7, fun w => by have := w.1; simp only [List.length_append, List.length_cons, List.length_nil, gh.lt] at this; omega⟩
    . exact ⟨_, hx2.same e7, fun w => by have := w.2; simp only [List.length_append, List.length_cons, List.length_nil, gh.lg] at this; omega⟩
    . exact ⟨_, hx3.same e7, fun w => by have := w.1; simp only [List.length_append, List.length_drop, List.length_cons, List.length_nil, gh.lt] at this; omega⟩
  obtain ⟨oa, ot, og, rfl, r1, r2, r3⟩ := id hho
  have e47 := e46.trans e7.to1
  have L7 := L6.same e7
  have fin : ∀ Hf, Same H7 Hf -> Same H6 Hf := fun Hf e => e7.trans e
  refine ⟨_, rfl, oa, _, 0, _, rfl, rfl, r1, Q5 _ _, ot, _, rfl, .inr r2, _, _, rfl, rfl, _, rfl, D8 (fun _ => ?_) (fun _ => N5 ⟨_, rfl, e7⟩)⟩
  refine ⟨_, rfl, oa, _, 1, _, rfl, rfl, r1, S1 _ _, og, _, rfl, .inr r3, _, _, rfl, rfl, _, rfl, D8 (fun _ => ?_) (fun _ => ⟨_, rfl, e7⟩)⟩
  refine ⟨_, rfl, _, rfl, bl, .ref oa, xs, hs, ho, "any", 10 ^ 9, kt, kg, rfl, .inl rfl, bin e47, n1, kt1, hho, L7, fun q1 q2 => absurd ⟨q1, q2⟩ bad, fun _ H8 r kl s8 hr8 hkl => ?_⟩
  refine ⟨r, _, 1, _, rfl, rfl, SqT.of hr8, S1 _ _, _, rfl, fun r2 H9 s9 hr9 => ?_⟩
  refine ⟨a7A true false false false false false, a7A true false false false false false, a4o (s9 _ _ hkl), a4o hr9, by decide, by decide, by decide, _, rfl, ?_⟩
  rw [O7 _ (by decide)]
  exact N5 ⟨_, rfl, e7.trans (s8.trans s9)⟩
end
end Rim
namespace Rim
open PySem L2 Fr
set_option maxHeartbeats 16000000 in
theorem all_mk {l : W.OpenLaw} {w : World} {K : W.Frag} {h : Heap} {mg : Str -> Option Value} {fa : Addr} {Ct Pt : Addr} (X : K.In h) (G : h.Ns mainGlobals mg) (hfa : mg "law" = some (.ref fa))
    {f1 f2 f3 f4 f5 f6 f7 f8 f9 f10 f11 f12 f13 f14 f15 f16 f17 f18 f19 f20 f21 f22 f23 f24 f25 f26 f27 f28 f29 f30 f31 f32 f33 f34 f35 CB dS tS0 tS1 tS2 tS3 cE_NoHouse cE_NoBook cE_RimError cE_NoRow cE_NoText cE_TooMany cE_NothingLeft : Addr} {cd1 cd2 cd3 cd4 cd5 cd6 cd7 cd8 cd10 cd11 cd12 cd13 cd14 cd15 cd16 cd17 cd18 cd19 cd20 cd21 cd22 cd23 cd24 cd25 cd26 cd27 cd28 cd29 cd30 cd31 cd32 cd33 cd34 ocL kVL dcL pmL cdL ctL : Value} {odL anL : Option Addr} {slL : Array (Option Value)} {odS0 odS1 odS2 odS3 : Option Addr} {slS0 slS1 slS2 slS3 : Array (Option Value)} {eS : Array DictEntry} {nS nS0 nS1 nS2 nS3 : Nat} {tkA tkB tkC tkD : Tok}
    (aB : W.nsIn K mainGlobals "Board" = some (some (.ref CB)))
    (a1 : W.nsIn K mainGlobals "_law_cell_at" = some (some (.ref f1)))
    (l1 : FunI K "_law_cell_at" "_law_cell_at" a7t f1 cd1)
    (a2 : W.nsIn K mainGlobals "_law_draws" = some (some (.ref f2)))
    (l2 : FunI K "_law_draws" "_law_draws" a3v f2 cd2)
    (a3 : W.nsIn K mainGlobals "_law_near" = some (some (.ref f3)))
    (l3 : FunI K "_law_near" "_law_near" a6c f3 cd3)
    (a4 : W.nsIn K mainGlobals "_law_a_book" = some (some (.ref f4)))
    (l4 : FunI K "_law_a_book" "_law_a_book" a0e f4 cd4)
    (a5 : W.nsIn K mainGlobals "_law_or_many" = some (some (.ref f5)))
    (l5 : FunI K "_law_or_many" "_law_or_many" a1Y f5 cd5)
    (a6 : W.nsIn K mainGlobals "_law_a_other" = some (some (.ref f6)))
    (l6 : FunI K "_law_a_other" "_law_a_other" D0 f6 cd6)
    (a7 : W.nsIn K mainGlobals "are_like_counts" = some (some (.ref f7)))
    (l7 : FunI K "are_like_counts" "are_like_counts" a6b f7 cd7)
    (a8 : W.findIn K (.ref CB) "__init__" = some (some (.ref f8)))
    (l8 : FunI K "__init__" "Board.__init__" a2X f8 cd8)
    (n8 : W.isFn K (.ref f8) = true)
    (a9 : W.findIn K (.ref CB) "coming" = some (some (.ref f9)))
    (l9 : FunI K "coming" "Board.coming" a1R f9 (.ref Ct))
    (n9 : W.isFn K (.ref f9) = true)
    (a10 : W.findIn K (.ref CB) "is_ahead" = some (some (.ref f10)))
    (l10 : FunI K "is_ahead" "Board.is_ahead" a3u f10 cd10)
    (n10 : W.isFn K (.ref f10) = true)
    (a11 : W.findIn K (.ref CB) "going" = some (some (.ref f11)))
    (l11 : FunI K "going" "Board.going" a3A f11 cd11)
    (n11 : W.isFn K (.ref f11) = true)
    (a12 : W.nsIn K mainGlobals "swept" = some (some (.ref f12)))
    (l12 : FunI K "swept" "swept" a3S f12 cd12)
    (a13 : W.findIn K (.ref CB) "exchange" = some (some (.ref f13)))
    (l13 : FunI K "exchange" "Board.exchange" M7 f13 cd13)
    (n13 : W.isFn K (.ref f13) = true)
    (a14 : W.findIn K (.ref CB) "amounts" = some (some (.ref f14)))
    (l14 : FunI K "amounts" "Board.amounts" a6I f14 cd14)
    (n14 : W.isFn K (.ref f14) = true)
    (a15 : W.findIn K (.ref CB) "weights" = some (some (.ref f15)))
    (l15 : FunI K "weights" "Board.weights" a9T f15 cd15)
    (n15 : W.isFn K (.ref f15) = true)
    (a16 : W.nsIn K mainGlobals "greatest" = some (some (.ref f16)))
    (l16 : FunI K "greatest" "greatest" K4 f16 cd16)
    (a17 : W.nsIn K mainGlobals "house_rows" = some (some (.ref f17)))
    (l17 : FunI K "house_rows" "house_rows" N4 f17 cd17)
    (a18 : W.nsIn K mainGlobals "greatest_earned" = some (some (.ref f18)))
    (l18 : FunI K "greatest_earned" "greatest_earned" U9 f18 cd18)
    (a19 : W.nsIn K mainGlobals "common_divisor" = some (some (.ref f19)))
    (l19 : FunI K "common_divisor" "common_divisor" a9w f19 cd19)
    (a20 : W.nsIn K mainGlobals "lowest" = some (some (.ref f20)))
    (l20 : FunI K "lowest" "lowest" b0k f20 cd20)
    (a21 : W.nsIn K mainGlobals "held_against" = some (some (.ref f21)))
    (l21 : FunI K "held_against" "held_against" a6G f21 cd21)
    (a22 : W.nsIn K mainGlobals "share_against" = some (some (.ref f22)))
    (l22 : FunI K "share_against" "share_against" a0Q f22 cd22)
    (a23 : W.nsIn K mainGlobals "_law_a_kin" = some (some (.ref f23)))
    (l23 : FunI K "_law_a_kin" "_law_a_kin" Q0 f23 cd23)
    (a24 : W.nsIn K mainGlobals "_law_told" = some (some (.ref f24)))
    (l24 : FunI K "_law_told" "_law_told" R4 f24 cd24)
    (a25 : W.nsIn K mainGlobals "house_of" = some (some (.ref f25)))
    (l25 : FunI K "house_of" "house_of" b0t f25 cd25)
    (a26 : W.nsIn K mainGlobals "without" = some (some (.ref f26)))
    (l26 : FunI K "without" "without" a0I f26 cd26)
    (a27 : W.nsIn K mainGlobals "share_of_others" = some (some (.ref f27)))
    (l27 : FunI K "share_of_others" "share_of_others" a2r f27 cd27)
    (a28 : W.nsIn K mainGlobals "_law_a_whole" = some (some (.ref f28)))
    (l28 : FunI K "_law_a_whole" "_law_a_whole" a3r f28 cd28)
    (a29 : W.nsIn K mainGlobals "_law_common" = some (some (.ref f29)))
    (l29 : FunI K "_law_common" "_law_common" a1O f29 cd29)
    (a30 : W.nsIn K mainGlobals "_law_is_fraction" = some (some (.ref f30)))
    (l30 : FunI K "_law_is_fraction" "_law_is_fraction" a7z f30 cd30)
    (a31 : W.nsIn K mainGlobals "share" = some (some (.ref f31)))
    (l31 : FunI K "share" "share" a3s f31 cd31)
    (a32 : W.nsIn K mainGlobals "_law_a_less" = some (some (.ref f32)))
    (l32 : FunI K "_law_a_less" "_law_a_less" a7C f32 cd32)
    (a33 : W.nsIn K mainGlobals "_law_no_greater" = some (some (.ref f33)))
    (l33 : FunI K "_law_no_greater" "_law_no_greater" J5 f33 cd33)
    (a34 : W.nsIn K mainGlobals "_law_due_kin" = some (some (.ref f34)))
    (l34 : FunI K "_law_due_kin" "_law_due_kin" M9 f34 cd34)
    (a35 : W.nsIn K mainGlobals "law" = some (some (.ref f35)))
    (l35 : K.lookup f35 = some ⟨ocL, odL, .func (W.fnOf "law" "law" (G3 a0u) (y4 a0u) (i9 a0u) .none kVL dcL pmL anL cdL ctL), slL⟩)
    (c35 : W.codeIn K cdL "law" = true)
    (k35 : W.keepIn K (.ref f35) = true)
    (z1 : W.nsIn K mainGlobals "len" = some none)
    (z2 : W.nsIn K mainGlobals "all" = some none)
    (z3 : W.nsIn K mainGlobals "any" = some none)
    (z4 : W.nsIn K mainGlobals "max" = some none)
    (z5 : W.nsIn K mainGlobals "min" = some none)
    (z6 : W.nsIn K mainGlobals "sum" = some none)
    (z7 : W.nsIn K mainGlobals "tuple" = some none)
    (z8 : W.nsIn K mainGlobals "list" = some none)
    (z9 : W.nsIn K mainGlobals "int" = some none)
    (z10 : W.nsIn K mainGlobals "bool" = some none)
    (z11 : W.nsIn K mainGlobals "range" = some none)
    (z12 : W.nsIn K mainGlobals "isinstance" = some none)
    (z13 : W.nsIn K mainGlobals "abs" = some none)
    (z14 : W.nsIn K mainGlobals "zip" = some none)
    (z15 : W.nsIn K mainGlobals "enumerate" = some none)
    (z16 : W.nsIn K mainGlobals "ValueError" = some none)
    (z17 : W.nsIn K mainGlobals "sorted" = some none)
    (bp : W.plainGet K CB Str.empty = true)
    (bh : W.hasDictIn K CB = true)
    (bo : W.plainOver K CB = true)
    (bs : W.findIn K (.ref CB) "__setattr__" = some (some (.builtin "object.__setattr__")))
    (b_many : W.findIn K (.ref CB) "many" = some none)
    (b_scale : W.findIn K (.ref CB) "scale" = some none)
    (b_cells : W.findIn K (.ref CB) "cells" = some none)
    (b_outs : W.findIn K (.ref CB) "outs" = some none)
    (b_ins : W.findIn K (.ref CB) "ins" = some none)
    (bm : W.makesIn K CB = true)
    (bk : W.keepIn K (.ref CB) = true)
    (s1 : W.nsIn K mainGlobals "SIZE_SIGNS" = some (some (.ref dS)))
    (s3 : K.lookup dS = some ⟨.type "dict", none, .dict eS nS, #[]⟩)
    (s4 : W.KeysLit w.params eS.toList)
    (sa0 : W.nsIn K dS "any" = some (some (.ref tS0)))
    (sb0 : K.lookup tS0 = some ⟨.type "tuple", odS0, .seq #[] nS0, slS0⟩)
    (sa1 : W.nsIn K dS "one" = some (some (.ref tS1)))
    (sb1 : K.lookup tS1 = some ⟨.type "tuple", odS1, .seq #[.int 1 tkA, .int (-1) tkB] nS1, slS1⟩)
    (sa2 : W.nsIn K dS "less" = some (some (.ref tS2)))
    (sb2 : K.lookup tS2 = some ⟨.type "tuple", odS2, .seq #[.int (-1) tkC] nS2, slS2⟩)
    (sa3 : W.nsIn K dS "more" = some (some (.ref tS3)))
    (sb3 : K.lookup tS3 = some ⟨.type "tuple", odS3, .seq #[.int 1 tkD] nS3, slS3⟩)
    (xmNoHouse : W.nsIn K mainGlobals "NoHouse" = some (some (.ref cE_NoHouse)))
    (xoNoHouse : W.excIn K cE_NoHouse [.type "ValueError", .type "Exception", .type "BaseException", .type "object"] "ValueError.__new__" = true)
    (xgaNoHouse : W.findIn K (.ref cE_NoHouse) "__getattribute__" = some (some (.builtin "BaseException.__getattribute__")))
    (xgnNoHouse : W.findIn K (.ref cE_NoHouse) "__getattr__" = some none)
    (xcaNoHouse : W.findIn K (.ref cE_NoHouse) "__class__" = some (some (.builtin "object.__class__")))
    (xmoNoHouse : W.mroIn K cE_NoHouse (.type "object") = some true)
    (xmbNoHouse : W.mroIn K cE_NoHouse (.type "BaseException") = some true)
    (xmNoBook : W.nsIn K mainGlobals "NoBook" = some (some (.ref cE_NoBook)))
    (xoNoBook : W.excIn K cE_NoBook [.type "ValueError", .type "Exception", .type "BaseException", .type "object"] "ValueError.__new__" = true)
    (xgaNoBook : W.findIn K (.ref cE_NoBook) "__getattribute__" = some (some (.builtin "BaseException.__getattribute__")))
    (xgnNoBook : W.findIn K (.ref cE_NoBook) "__getattr__" = some none)
    (xcaNoBook : W.findIn K (.ref cE_NoBook) "__class__" = some (some (.builtin "object.__class__")))
    (xmoNoBook : W.mroIn K cE_NoBook (.type "object") = some true)
    (xmbNoBook : W.mroIn K cE_NoBook (.type "BaseException") = some true)
    (xmRimError : W.nsIn K mainGlobals "RimError" = some (some (.ref cE_RimError)))
    (xoRimError : W.excIn K cE_RimError [.type "ValueError", .type "Exception", .type "BaseException", .type "object"] "ValueError.__new__" = true)
    (xgaRimError : W.findIn K (.ref cE_RimError) "__getattribute__" = some (some (.builtin "BaseException.__getattribute__")))
    (xgnRimError : W.findIn K (.ref cE_RimError) "__getattr__" = some none)
    (xcaRimError : W.findIn K (.ref cE_RimError) "__class__" = some (some (.builtin "object.__class__")))
    (xmoRimError : W.mroIn K cE_RimError (.type "object") = some true)
    (xmbRimError : W.mroIn K cE_RimError (.type "BaseException") = some true)
    (xmNoRow : W.nsIn K mainGlobals "NoRow" = some (some (.ref cE_NoRow)))
    (xoNoRow : W.excIn K cE_NoRow [.type "ValueError", .type "Exception", .type "BaseException", .type "object"] "ValueError.__new__" = true)
    (xgaNoRow : W.findIn K (.ref cE_NoRow) "__getattribute__" = some (some (.builtin "BaseException.__getattribute__")))
    (xgnNoRow : W.findIn K (.ref cE_NoRow) "__getattr__" = some none)
    (xcaNoRow : W.findIn K (.ref cE_NoRow) "__class__" = some (some (.builtin "object.__class__")))
    (xmoNoRow : W.mroIn K cE_NoRow (.type "object") = some true)
    (xmbNoRow : W.mroIn K cE_NoRow (.type "BaseException") = some true)
    (xmNoText : W.nsIn K mainGlobals "NoText" = some (some (.ref cE_NoText)))
    (xoNoText : W.excIn K cE_NoText [.type "ValueError", .type "Exception", .type "BaseException", .type "object"] "ValueError.__new__" = true)
    (xgaNoText : W.findIn K (.ref cE_NoText) "__getattribute__" = some (some (.builtin "BaseException.__getattribute__")))
    (xgnNoText : W.findIn K (.ref cE_NoText) "__getattr__" = some none)
    (xcaNoText : W.findIn K (.ref cE_NoText) "__class__" = some (some (.builtin "object.__class__")))
    (xmoNoText : W.mroIn K cE_NoText (.type "object") = some true)
    (xmbNoText : W.mroIn K cE_NoText (.type "BaseException") = some true)
    (xmTooMany : W.nsIn K mainGlobals "TooMany" = some (some (.ref cE_TooMany)))
    (xoTooMany : W.excIn K cE_TooMany [.type "ValueError", .type "Exception", .type "BaseException", .type "object"] "ValueError.__new__" = true)
    (xgaTooMany : W.findIn K (.ref cE_TooMany) "__getattribute__" = some (some (.builtin "BaseException.__getattribute__")))
    (xgnTooMany : W.findIn K (.ref cE_TooMany) "__getattr__" = some none)
    (xcaTooMany : W.findIn K (.ref cE_TooMany) "__class__" = some (some (.builtin "object.__class__")))
    (xmoTooMany : W.mroIn K cE_TooMany (.type "object") = some true)
    (xmbTooMany : W.mroIn K cE_TooMany (.type "BaseException") = some true)
    (xmNothingLeft : W.nsIn K mainGlobals "NothingLeft" = some (some (.ref cE_NothingLeft)))
    (xoNothingLeft : W.excIn K cE_NothingLeft [.type "ValueError", .type "Exception", .type "BaseException", .type "object"] "ValueError.__new__" = true)
    (xgaNothingLeft : W.findIn K (.ref cE_NothingLeft) "__getattribute__" = some (some (.builtin "BaseException.__getattribute__")))
    (xgnNothingLeft : W.findIn K (.ref cE_NothingLeft) "__getattr__" = some none)
    (xcaNothingLeft : W.findIn K (.ref cE_NothingLeft) "__class__" = some (some (.builtin "object.__class__")))
    (xmoNothingLeft : W.mroIn K cE_NothingLeft (.type "object") = some true)
    (xmbNothingLeft : W.mroIn K cE_NothingLeft (.type "BaseException") = some true)
    (eSub_NoBook : W.mroIn K cE_NoBook (.ref cE_RimError) = some true)
    (eI_NoBook_NoHouse : W.kitOne K (.ref cE_NoBook) (.ref cE_NoHouse) = some false)
    (eI_NoBook_NoRow : W.kitOne K (.ref cE_NoBook) (.ref cE_NoRow) = some false)
    (eI_NoBook_NoText : W.kitOne K (.ref cE_NoBook) (.ref cE_NoText) = some false)
    (eI_NoBook_TooMany : W.kitOne K (.ref cE_NoBook) (.ref cE_TooMany) = some false)
    (eI_NoBook_NothingLeft : W.kitOne K (.ref cE_NoBook) (.ref cE_NothingLeft) = some false)
    (eIV_NoBook : W.kitOne K (.ref cE_NoBook) (.type "ValueError") = some true)
    : ∃ fd : FuncData, (∀ (s : Shared) (v : Value), BindsTo s fd ⟨[v], []⟩ [("script", v)]) /\ ∀ base : Heap, K.In base -> base.Ns mainGlobals mg -> P0 mg base -> (∀ t ∈ [(Ct, Pt)], W.CodeHd base t.1 t.2) -> FnOk l.prog w K mg base G8 10 fa fd ["script"] (a3W K Pt) := by
  have e := hfa.symm.trans (W.mg_of X G a35)
  cases e
  obtain ⟨_, F1, hc1, k1⟩ := l1.fn
  obtain ⟨_, F2, hc2, k2⟩ := l2.fn
  obtain ⟨_, F3, hc3, k3⟩ := l3.fn
  obtain ⟨_, F4, hc4, k4⟩ := l4.fn
  obtain ⟨_, F5, hc5, k5⟩ := l5.fn
  obtain ⟨_, F6, hc6, k6⟩ := l6.fn
  obtain ⟨_, F7, hc7, k7⟩ := l7.fn
  obtain ⟨_, F8, hc8, k8⟩ := l8.fn
  obtain ⟨_, F9, hc9, k9⟩ := l9.fn
  obtain ⟨_, F10, hc10, k10⟩ := l10.fn
  obtain ⟨_, F11, hc11, k11⟩ := l11.fn
  obtain ⟨_, F12, hc12, k12⟩ := l12.fn
  obtain ⟨_, F13, hc13, k13⟩ := l13.fn
  obtain ⟨_, F14, hc14, k14⟩ := l14.fn
  obtain ⟨_, F15, hc15, k15⟩ := l15.fn
  obtain ⟨_, F16, hc16, k16⟩ := l16.fn
  obtain ⟨_, F17, hc17, k17⟩ := l17.fn
  obtain ⟨_, F18, hc18, k18⟩ := l18.fn
  obtain ⟨_, F19, hc19, k19⟩ := l19.fn
  obtain ⟨_, F20, hc20, k20⟩ := l20.fn
  obtain ⟨_, F21, hc21, k21⟩ := l21.fn
  obtain ⟨_, F22, hc22, k22⟩ := l22.fn
  obtain ⟨_, F23, hc23, k23⟩ := l23.fn
  obtain ⟨_, F24, hc24, k24⟩ := l24.fn
  obtain ⟨_, F25, hc25, k25⟩ := l25.fn
  obtain ⟨_, F26, hc26, k26⟩ := l26.fn
  obtain ⟨_, F27, hc27, k27⟩ := l27.fn
  obtain ⟨_, F28, hc28, k28⟩ := l28.fn
  obtain ⟨_, F29, hc29, k29⟩ := l29.fn
  obtain ⟨_, F30, hc30, k30⟩ := l30.fn
  obtain ⟨_, F31, hc31, k31⟩ := l31.fn
  obtain ⟨_, F32, hc32, k32⟩ := l32.fn
  obtain ⟨_, F33, hc33, k33⟩ := l33.fn
  obtain ⟨_, F34, hc34, k34⟩ := l34.fn
  have F35 := a6z (st := a0u) l35 c35 k35
  have b1 : Binds K _ ["script", "k"] [] := F1.b2 fun _ _ _ _ _ _ _ _ => rfl
  have b2 : Binds K _ ["cell", "many", "base"] [] := F2.b3 fun _ _ _ _ _ _ _ _ _ => rfl
  have b3 : Binds K _ ["house", "picks", "far"] [] := F3.b3 fun _ _ _ _ _ _ _ _ _ => rfl
  have b4 : Binds K _ ["script", "at", "most", "far"] [] := F4.b4 fun _ _ _ _ _ _ _ _ _ _ => rfl
  have b5 : Binds K _ ["book", "script"] [] := F5.b2 fun _ _ _ _ _ _ _ _ => rfl
  have b6 : Binds K _ ["book", "picks"] [] := F6.b2 fun _ _ _ _ _ _ _ _ => rfl
  have b7 : Binds K _ ["house", "other"] [] := F7.b2 fun _ _ _ _ _ _ _ _ => rfl
  have b8 : Binds K _ ["self", "goal", "rows", "bounds"] [] := F8.b4 fun _ _ _ _ _ _ _ _ _ _ => rfl
  have b9 : Binds K _ ["self"] [] := F9.b1 fun _ _ _ _ _ _ _ => rfl
  have b10 : Binds K _ ["self", "row", "other", "column"] [] := F10.b4 fun _ _ _ _ _ _ _ _ _ _ => rfl
  have b11 : Binds K _ ["self", "column"] [] := F11.b2 fun _ _ _ _ _ _ _ _ => rfl
  have b12 : Binds K _ ["cells", "lead", "column", "scale"] [] := F12.b4 fun _ _ _ _ _ _ _ _ _ _ => rfl
  have b13 : Binds K _ ["self", "row", "column"] [] := F13.b3 fun _ _ _ _ _ _ _ _ _ => rfl
  have b14 : Binds K _ ["self"] [] := F14.b1 fun _ _ _ _ _ _ _ => rfl
  have b15 : Binds K _ ["self"] [] := F15.b1 fun _ _ _ _ _ _ _ => rfl
  have b16 : Binds K _ ["goal", "rows", "bounds"] [] := F16.b3 fun _ _ _ _ _ _ _ _ _ => rfl
  have b17 : Binds K _ ["houses", "sizes"] [] := F17.b2 fun _ _ _ _ _ _ _ _ => rfl
  have b18 : Binds K _ ["houses", "house", "sizes"] [] := F18.b3 fun _ _ _ _ _ _ _ _ _ => rfl
  have b19 : Binds K _ ["one", "other"] [] := F19.b2 fun _ _ _ _ _ _ _ _ => rfl
  have b20 : Binds K _ ["top", "bottom"] [] := F20.b2 fun _ _ _ _ _ _ _ _ => rfl
  have b21 : Binds K _ ["houses", "house", "sizes"] [] := F21.b3 fun _ _ _ _ _ _ _ _ _ => rfl
  have b22 : Binds K _ ["book", "house", "sizes"] [] := F22.b3 fun _ _ _ _ _ _ _ _ _ => rfl
  have b23 : Binds K _ ["e"] [] := F23.b1 fun _ _ _ _ _ _ _ => rfl
  have b24 : Binds K _ ["book", "house", "sizes"] [] := F24.b3 fun _ _ _ _ _ _ _ _ _ => rfl
  have b25 : Binds K _ ["book", "number"] [] := F25.b2 fun _ _ _ _ _ _ _ _ => rfl
  have b26 : Binds K _ ["houses", "number"] [] := F26.b2 fun _ _ _ _ _ _ _ _ => rfl
  have b27 : Binds K _ ["book", "number", "sizes"] [] := F27.b3 fun _ _ _ _ _ _ _ _ _ => rfl
  have b28 : Binds K _ ["found"] [] := F28.b1 fun _ _ _ _ _ _ _ => rfl
  have b29 : Binds K _ ["one", "other"] [] := F29.b2 fun _ _ _ _ _ _ _ _ => rfl
  have b30 : Binds K _ ["one"] [] := F30.b1 fun _ _ _ _ _ _ _ => rfl
  have b31 : Binds K _ ["book", "number", "sizes"] [] := F31.b3 fun _ _ _ _ _ _ _ _ _ => rfl
  have b32 : Binds K _ ["one", "other"] [] := F32.b2 fun _ _ _ _ _ _ _ _ => rfl
  have b33 : Binds K _ ["one", "other"] [] := F33.b2 fun _ _ _ _ _ _ _ _ => rfl
  have b34 : Binds K _ ["name"] [] := F34.b1 fun _ _ _ _ _ _ _ => rfl
  have T : B7 mg := ⟨W.mg_none_of X G z1, W.mg_none_of X G z2, W.mg_none_of X G z3, W.mg_none_of X G z4, W.mg_none_of X G z5, W.mg_none_of X G z6, W.mg_none_of X G z7, W.mg_none_of X G z8, W.mg_none_of X G z9, W.mg_none_of X G z10, W.mg_none_of X G z11, W.mg_none_of X G z12, W.mg_none_of X G z13, W.mg_none_of X G z14, W.mg_none_of X G z15, W.mg_none_of X G z16, W.mg_none_of X G z17⟩
  have TBd : TB K CB := ⟨⟨bp, bh, bo, bs⟩, b_many, b_scale, b_cells, b_outs, b_ins⟩
  have SG : Sg K w.params mg dS := ⟨W.mg_of X G s1, ⟨_, _, s3, s4⟩, fun z hz => by
    rcases hz with rfl | rfl | rfl | rfl
    . exact ⟨_, sa0, fun H => .inr ⟨_, _, _, sb0, rfl, rfl, (by show 0 <= sizeLine; decide), .nil⟩⟩
    . exact ⟨_, sa1, fun H => .inr ⟨_, _, _, sb1, rfl, rfl, (by show 2 <= sizeLine; decide), .cons ⟨_, rfl⟩ (.cons ⟨_, rfl⟩ .nil)⟩⟩
    . exact ⟨_, sa2, fun H => .inr ⟨_, _, _, sb2, rfl, rfl, (by show 1 <= sizeLine; decide), .cons ⟨_, rfl⟩ .nil⟩⟩
    . exact ⟨_, sa3, fun H => .inr ⟨_, _, _, sb3, rfl, rfl, (by show 1 <= sizeLine; decide), .cons ⟨_, rfl⟩ .nil⟩⟩
    ⟩
  have k_NoHouse : R7 K cE_NoHouse := ⟨W9 xoNoHouse, xgaNoHouse, xgnNoHouse, xcaNoHouse, xmoNoHouse, xmbNoHouse⟩
  have m_NoHouse := W.mg_of X G xmNoHouse
  have k_NoBook : R7 K cE_NoBook := ⟨W9 xoNoBook, xgaNoBook, xgnNoBook, xcaNoBook, xmoNoBook, xmbNoBook⟩
  have m_NoBook := W.mg_of X G xmNoBook
  have k_RimError : R7 K cE_RimError := ⟨W9 xoRimError, xgaRimError, xgnRimError, xcaRimError, xmoRimError, xmbRimError⟩
  have m_RimError := W.mg_of X G xmRimError
  have k_NoRow : R7 K cE_NoRow := ⟨W9 xoNoRow, xgaNoRow, xgnNoRow, xcaNoRow, xmoNoRow, xmbNoRow⟩
  have m_NoRow := W.mg_of X G xmNoRow
  have k_NoText : R7 K cE_NoText := ⟨W9 xoNoText, xgaNoText, xgnNoText, xcaNoText, xmoNoText, xmbNoText⟩
  have m_NoText := W.mg_of X G xmNoText
  have k_TooMany : R7 K cE_TooMany := ⟨W9 xoTooMany, xgaTooMany, xgnTooMany, xcaTooMany, xmoTooMany, xmbTooMany⟩
  have m_TooMany := W.mg_of X G xmTooMany
  have k_NothingLeft : R7 K cE_NothingLeft := ⟨W9 xoNothingLeft, xgaNothingLeft, xgnNothingLeft, xcaNothingLeft, xmoNothingLeft, xmbNothingLeft⟩
  have m_NothingLeft := W.mg_of X G xmNothingLeft
  have R : b0e K mg cE_RimError cE_NoBook cE_NoHouse cE_NoRow cE_NoText cE_TooMany cE_NothingLeft := ⟨m_RimError, m_NoBook, m_NoHouse, m_NoRow, m_NoText, m_TooMany, m_NothingLeft, k_RimError⟩
  have M_NoBook : a7x K cE_NoBook cE_RimError cE_NoBook cE_NoHouse cE_NoRow cE_NoText cE_TooMany cE_NothingLeft true false false false false false := ⟨k_NoBook, eSub_NoBook, a1d _, eI_NoBook_NoHouse, eI_NoBook_NoRow, eI_NoBook_NoText, eI_NoBook_TooMany, eI_NoBook_NothingLeft, eIV_NoBook⟩
  refine ⟨W.fnOf "law" "law" (G3 a0u) (y4 a0u) (i9 a0u) .none kVL dcL pmL anL cdL ctL, fun s v => .of_eq rfl, fun base _ _ BM hCH => ?_⟩
  have g1 := fun n : Nat => a7V (mg := mg) (P := l.prog) (w := w) (base := base) (n := n) F1 T
  have g2 := fun n : Nat => a6e (mg := mg) (P := l.prog) (w := w) (base := base) (n := n) F2 T
  have g3 := fun n : Nat => a7T (mg := mg) (P := l.prog) (w := w) (base := base) (n := n) F3 T
  have g4 := fun n : Nat => a7s (mg := mg) (P := l.prog) (w := w) (base := base) F4 T (g1 (n + 0)) b1 k1 (W.mg_of X G a1) (g2 (n + 0)) b2 k2 (W.mg_of X G a2) (g3 (n + 0)) b3 k3 (W.mg_of X G a3)
  have g5 := fun n : Nat => a5I (mg := mg) (P := l.prog) (w := w) (base := base) F5 T ⟨g1 (n + 0), b1, k1, (W.mg_of X G a1)⟩ ⟨g2 (n + 0), b2, k2, (W.mg_of X G a2)⟩
  have g6 := fun n : Nat => a6J (mg := mg) (P := l.prog) (w := w) (base := base) (n := n) F6 T
  have g7 := fun n : Nat => a7Q (mg := mg) (P := l.prog) (w := w) (base := base) (n := n) F7 T
  have g8 := fun n : Nat => a7K (mg := mg) (P := l.prog) (w := w) (base := base) (n := n) F8 T TBd
  have g9 := fun n : Nat => a5U (mg := mg) (P := l.prog) (w := w) (base := base) (n := n) F9 hc9 (hCH _ (.head _)) BM T TBd
  have g10 := fun n : Nat => a6s (mg := mg) (P := l.prog) (w := w) (base := base) (n := n) F10 TBd
  have g11 := fun n : Nat => a6n (mg := mg) (P := l.prog) (w := w) (base := base) F11 T TBd ⟨g10 (n + 0), b10, ⟨a10, n10, k10⟩⟩
  have g12 := fun n : Nat => a7j (mg := mg) (P := l.prog) (w := w) (base := base) (n := n) F12 T
  have g13 := fun n : Nat => a3e (mg := mg) (P := l.prog) (w := w) (base := base) F13 TBd ⟨g12 (n + 0), b12, k12, (W.mg_of X G a12)⟩
  have g14 := fun n : Nat => a8d (mg := mg) (P := l.prog) (w := w) (base := base) (n := n) F14 T TBd
  have g15 := fun n : Nat => a9K (mg := mg) (P := l.prog) (w := w) (base := base) (n := n) F15 T TBd
  have g16 := fun n : Nat => a2M (mg := mg) (P := l.prog) (w := w) (base := base) F16 TBd ⟨⟨bm, a8, n8, bk⟩, g8 (n + 2), b8, W.mg_of X G aB, ⟨g9 (n + 0), b9, ⟨a9, n9, k9⟩⟩, ⟨g11 (n + 1), b11, ⟨a11, n11, k11⟩⟩, ⟨g13 (n + 1), b13, ⟨a13, n13, k13⟩⟩, ⟨g14 (n + 2), b14, ⟨a14, n14, k14⟩⟩, ⟨g15 (n + 2), b15, ⟨a15, n15, k15⟩⟩⟩
  have g17 := fun n : Nat => a2d (mg := mg) (P := l.prog) (w := w) (base := base) (n := n) F17 T SG
  have g18 := fun n : Nat => a5R (mg := mg) (P := l.prog) (w := w) (base := base) F18 T SG ⟨g16 (n + 0), b16, k16, (W.mg_of X G a16)⟩ ⟨g17 (n + 4), b17, k17, (W.mg_of X G a17)⟩
  have g19 := fun n : Nat => a9V (mg := mg) (P := l.prog) (w := w) (base := base) (n := n) F19 T
  have g20 := fun n : Nat => a9Z (mg := mg) (P := l.prog) (w := w) (base := base) F20 T ⟨g19 (n + 0), b19, k19, (W.mg_of X G a19)⟩
  have g21 := fun n : Nat => a8O (mg := mg) (P := l.prog) (w := w) (base := base) F21 ⟨g18 (n + 0), b18, k18, (W.mg_of X G a18)⟩ ⟨g20 (n + 4), b20, k20, (W.mg_of X G a20)⟩
  have g22 := fun n : Nat => a3f (mg := mg) (P := l.prog) (w := w) (base := base) F22 k_NoBook m_NoBook ⟨g7 (n + 6), b7, k7, (W.mg_of X G a7)⟩ ⟨g21 (n + 0), b21, k21, (W.mg_of X G a21)⟩
  have g23 := fun n : Nat => a8y (mg := mg) (P := l.prog) (w := w) (base := base) (n := n) F23 T R
  have g24 := fun n : Nat => a5g (mg := mg) (P := l.prog) (w := w) (base := base) F24 T R M_NoBook ⟨g22 (n + 0), b22, k22, (W.mg_of X G a22)⟩ ⟨g23 (n + 7), b23, k23, (W.mg_of X G a23)⟩
  have g25 := fun n : Nat => b0d (mg := mg) (P := l.prog) (w := w) (base := base) (n := n) F25 T k_NoHouse m_NoHouse
  have g26 := fun n : Nat => a3O (mg := mg) (P := l.prog) (w := w) (base := base) F26 ⟨g25 (n + 0), b25, k25, (W.mg_of X G a25)⟩
  have g27 := fun n : Nat => a5x (mg := mg) (P := l.prog) (w := w) (base := base) F27 ⟨g25 (n + 6), b25, k25, (W.mg_of X G a25)⟩ ⟨g26 (n + 5), b26, k26, (W.mg_of X G a26)⟩ ⟨g21 (n + 0), b21, k21, (W.mg_of X G a21)⟩
  have g28 := fun n : Nat => a6w (mg := mg) (P := l.prog) (w := w) (base := base) (n := n) F28 T
  have g29 := fun n : Nat => a5O (mg := mg) (P := l.prog) (w := w) (base := base) (n := n) F29
  have g30 := fun n : Nat => a8j (mg := mg) (P := l.prog) (w := w) (base := base) F30 T ⟨g28 (n + 0), b28, k28, (W.mg_of X G a28)⟩ ⟨g29 (n + 0), b29, k29, (W.mg_of X G a29)⟩
  have g31 := fun n : Nat => a7y (mg := mg) (P := l.prog) (w := w) (base := base) F31 ⟨g25 (n + 6), b25, k25, (W.mg_of X G a25)⟩ ⟨g21 (n + 0), b21, k21, (W.mg_of X G a21)⟩
  have g32 := fun n : Nat => a7L (mg := mg) (P := l.prog) (w := w) (base := base) (n := n) F32
  have g33 := fun n : Nat => a2h (mg := mg) (P := l.prog) (w := w) (base := base) F33 ⟨g32 (n + 0), b32, k32, (W.mg_of X G a32)⟩
  have g34 := fun n : Nat => a8U (mg := mg) (P := l.prog) (w := w) (base := base) (n := n) F34 T
  exact a9R F35 T ⟨⟨g4 7, b4, k4, (W.mg_of X G a4)⟩, ⟨g5 7, b5, k5, (W.mg_of X G a5)⟩, ⟨g1 8, b1, k1, (W.mg_of X G a1)⟩, ⟨g2 8, b2, k2, (W.mg_of X G a2)⟩, ⟨g6 8, b6, k6, (W.mg_of X G a6)⟩, ⟨g24 0, b24, k24, (W.mg_of X G a24)⟩, ⟨g27 1, b27, k27, (W.mg_of X G a27)⟩, ⟨g30 7, b30, k30, (W.mg_of X G a30)⟩, ⟨g31 1, b31, k31, (W.mg_of X G a31)⟩, ⟨g33 7, b33, k33, (W.mg_of X G a33)⟩, ⟨g34 8, b34, k34, (W.mg_of X G a34)⟩⟩
end Rim
def PySem.W.Fast.tw4337629504701240255 : Nat := 0
def PySem.W.Fast.tw7591324912327006684 : Nat := 0
def PySem.W.Fast.tw12995049281758797659 : Nat := 0
def PySem.W.Fast.tw9933779659769526234 : Nat := 0
def PySem.W.Fast.tw5374869157135224391 : Nat := 0
def PySem.W.Fast.tw15369290419807413897 : Nat := 0
def PySem.W.Fast.tw17597963487190261230 : Nat := 0
def PySem.W.Fast.tw5796126929887304065 : Nat := 0
def PySem.W.Fast.tw6379105184438821632 : Nat := 0
def PySem.W.Fast.tw12862994629027006849 : Nat := 0
def PySem.W.Fast.tw10138484338743658510 : Nat := 0
def PySem.W.Fast.tw18278054560007776927 : Nat := 0
def PySem.W.Fast.tw11748234351845453218 : Nat := 0
def PySem.W.Fast.tw4598436860321100911 : Nat := 0
def PySem.W.Fast.tw1392776039824347900 : Nat := 0
def PySem.W.Fast.tw839354976304404681 : Nat := 0
def PySem.W.Fast.tw4923525854289303452 : Nat := 0
def PySem.W.Fast.tw9917255865281845084 : Nat := 0
def PySem.W.Fast.tw13695534776271723528 : Nat := 0
def PySem.W.Fast.tw2656663588813661502 : Nat := 0
def PySem.W.Fast.tw11304746526610268582 : Nat := 0
def PySem.W.Fast.tw14458767522706349776 : Nat := 0
def PySem.W.Fast.tw13852235012518125776 : Nat := 0
def PySem.W.Fast.tw3120097821102475407 : Nat := 0
def PySem.W.Fast.tw18433660382787798951 : Nat := 0
def PySem.W.Fast.tw1164657931393840857 : Nat := 0
def PySem.W.Fast.tw18383966403506677197 : Nat := 0
def PySem.W.Fast.tw10328163392634101848 : Nat := 0
def PySem.W.Fast.tw16298078143685949270 : Nat := 0
def PySem.W.Fast.tw3796979776854138541 : Nat := 0
def PySem.W.Fast.tw173930530570377473 : Nat := 0
def PySem.W.Fast.tw2211426974060644834 : Nat := 0
def PySem.W.Fast.tw9628408439756326793 : Nat := 0
def PySem.W.Fast.tw13920301580415273016 : Nat := 0
def PySem.W.Fast.tw15583726395195997481 : Nat := 0
def PySem.W.Fast.tw2676124096741707713 : Nat := 0
def PySem.W.Fast.tw7489997850643289583 : Nat := 0
def PySem.W.Fast.tw3967617031670129334 : Nat := 0
def PySem.W.Fast.tw15362722636339405927 : Nat := 0
def PySem.W.Fast.tw5373001959514577996 : Nat := 0
def PySem.W.Fast.tw11620742839871068785 : Nat := 0
def PySem.W.Fast.tw5277439672156241057 : Nat := 0
def PySem.W.Fast.tw11723028928846061198 : Nat := 0
def PySem.W.Fast.tw17155365068318757515 : Nat := 0
def PySem.W.Fast.tw2985802973315164746 : Nat := 0
def PySem.W.Fast.tw13552126117428266747 : Nat := 0
def PySem.W.Fast.tw17035333423632403951 : Nat := 0
def PySem.W.Fast.tw2555490947349660651 : Nat := 0
def PySem.W.Fast.tw15918298062793567039 : Nat := 0
def PySem.W.Fast.tw8684212488684052732 : Nat := 0
def PySem.W.Fast.tw10675056798317256669 : Nat := 0
def PySem.W.Fast.tw15503061116064572693 : Nat := 0
def PySem.W.Fast.tw6357845673099998689 : Nat := 0
def PySem.W.Fast.tw8521800277737289719 : Nat := 0
def PySem.W.Fast.tw2815183615361285785 : Nat := 0
def PySem.W.Fast.tw9889901406020763935 : Nat := 0
def PySem.W.Fast.tw8157429803787094077 : Nat := 0
def PySem.W.Fast.tw3076202462781168306 : Nat := 0
def PySem.W.Fast.tw666905602113659618 : Nat := 0
def PySem.W.Fast.tw9766395635260363058 : Nat := 0
def PySem.W.Fast.tw7119761765503187602 : Nat := 0
def PySem.W.Fast.tw5721951621647749339 : Nat := 0
def PySem.W.Fast.tw11392856501868956357 : Nat := 0
def PySem.W.Fast.tw2420900061200533424 : Nat := 0
def PySem.W.Fast.tw10210174395569019074 : Nat := 0
def PySem.W.Fast.tw12253026955629460338 : Nat := 0
def PySem.W.Fast.tw2928642925001639961 : Nat := 0
def PySem.W.Fast.tw10995663222437341092 : Nat := 0
def PySem.W.Fast.tw4436430704293762060 : Nat := 0
def PySem.W.Fast.tw10154677750929174849 : Nat := 0
def PySem.W.Fast.tw7899110493348448471 : Nat := 0
def PySem.W.Fast.tw5238150745925047747 : Nat := 0
def PySem.W.Fast.tw442524892761956841 : Nat := 0
def PySem.W.Fast.tw14359014417987100270 : Nat := 0
def PySem.W.Fast.tw2728751059180166865 : Nat := 0
def PySem.W.Fast.tw13430843336883445439 : Nat := 0
def PySem.W.Fast.tw10166783511129367744 : Nat := 0
def PySem.W.Fast.tw3651676055506803967 : Nat := 0
def PySem.W.Fast.tw11841552816900950267 : Nat := 0
def PySem.W.Fast.tw14471817370298473569 : Nat := 0
def PySem.W.Fast.tw11245444852847205784 : Nat := 0
def PySem.W.Fast.tw10325935029237301614 : Nat := 0
namespace Rim
open PySem L2 Fr
theorem walk {l : W.OpenLaw} {q : Program} {loose : List Str} {XP : (Str -> Option Value) -> Heap -> Prop} {YP : World -> Heap -> Prop} {d : DefRec} {K : Params -> W.Frag} {Ct Pt : Addr} (hn : l.most = some 63) (hdf : d.params.defaults = [])
    (hY : ∀ (w : World) (h : Heap), YP w h -> (K w.params).In h /\ ∀ t ∈ [(Ct, Pt)], h.get? t.2 = some (W.tabObj #[]))
    (hC : ∀ (w : World), ∀ t ∈ [(Ct, Pt)], W.codeHdIn (K w.params) t.1 t.2 = true /\ (K w.params).lookup t.2 = none)
    (F : ∀ (w : World) (mg : Str -> Option Value) (fa : Addr) (h : Heap), (K w.params).In h -> h.Ns mainGlobals mg -> mg d.name = some (.ref fa) →
      ∃ fd : FuncData, (∀ (s : Shared) (u : Value), BindsTo s fd ⟨[u], []⟩ [("script", u)]) /\ ∀ base : Heap, (K w.params).In base -> base.Ns mainGlobals mg -> P0 mg base -> (∀ t ∈ [(Ct, Pt)], W.CodeHd base t.1 t.2) -> FnOk l.prog w (K w.params) mg base G8 10 fa fd ["script"] (a3W (K w.params) Pt)) :
    W.WalkO q loose XP YP l.row.toRowW d [] (fun f vs => PySem.call f vs) :=
  L2.walk_ofT (n := 63) (k := 10) (x := "script") (Ts := [(Ct, Pt)]) (CX := fun _ => G8) (sp := fun w => a3W (K w.params) Pt) hn (by decide) hdf ⟨rfl, by decide, by decide⟩ hY hC F (fun _ _ a ns hl hT hS => ⟨a, ns, rfl, hS, hl, .inl (hT _ (.head _)), fun _ => rfl⟩) fun _ _ _ _ _ z => z
end Rim
open PySem PySem.W PyProof.Rows
set_option maxRecDepth 100000 in
set_option maxHeartbeats 0 in
theorem PySem.Challenge.cw_rimhouse_k22_whole_against_a_book_holds : PySem.Challenge.rw_rimhouse_k22_whole_against_a_book.Holds := by
  w_on; o_law; km_head; (case hw => w_witness2)
  k_fill
  refine' Rim.walk (l := PySem.Challenge.rw_rimhouse_k22_whole_against_a_book) (Ct := _) (Pt := 139) rfl rfl ?Y ?C ?F
  case Y => exact fun w h Y => ⟨W.km_in_of Y, fun t ht => by rw [List.mem_singleton.mp ht]; exact W.km_tabs_of Y _ (.head _)⟩
  case F =>
    intro w mg fa h KX G hmg
    refine' Rim.all_mk KX G hmg ?aB ?a1 ?l1 ?a2 ?l2 ?a3 ?l3 ?a4 ?l4 ?a5 ?l5 ?a6 ?l6 ?a7 ?l7 ?a8 ?l8 ?n8 ?a9 ?l9 ?n9 ?a10 ?l10 ?n10 ?a11 ?l11 ?n11 ?a12 ?l12 ?a13 ?l13 ?n13 ?a14 ?l14 ?n14 ?a15 ?l15 ?n15 ?a16 ?l16 ?a17 ?l17 ?a18 ?l18 ?a19 ?l19 ?a20 ?l20 ?a21 ?l21 ?a22 ?l22 ?a23 ?l23 ?a24 ?l24 ?a25 ?l25 ?a26 ?l26 ?a27 ?l27 ?a28 ?l28 ?a29 ?l29 ?a30 ?l30 ?a31 ?l31 ?a32 ?l32 ?a33 ?l33 ?a34 ?l34 ?a35 ?l35 ?c35 ?k35 ?z1 ?z2 ?z3 ?z4 ?z5 ?z6 ?z7 ?z8 ?z9 ?z10 ?z11 ?z12 ?z13 ?z14 ?z15 ?z16 ?z17 ?bp ?bh ?bo ?bs ?b_many ?b_scale ?b_cells ?b_outs ?b_ins ?bm ?bk ?s1 ?s3 ?s4 ?sa0 ?sb0 ?sa1 ?sb1 ?sa2 ?sb2 ?sa3 ?sb3 ?xmNoHouse ?xoNoHouse ?xgaNoHouse ?xgnNoHouse ?xcaNoHouse ?xmoNoHouse ?xmbNoHouse ?xmNoBook ?xoNoBook ?xgaNoBook ?xgnNoBook ?xcaNoBook ?xmoNoBook ?xmbNoBook ?xmRimError ?xoRimError ?xgaRimError ?xgnRimError ?xcaRimError ?xmoRimError ?xmbRimError ?xmNoRow ?xoNoRow ?xgaNoRow ?xgnNoRow ?xcaNoRow ?xmoNoRow ?xmbNoRow ?xmNoText ?xoNoText ?xgaNoText ?xgnNoText ?xcaNoText ?xmoNoText ?xmbNoText ?xmTooMany ?xoTooMany ?xgaTooMany ?xgnTooMany ?xcaTooMany ?xmoTooMany ?xmbTooMany ?xmNothingLeft ?xoNothingLeft ?xgaNothingLeft ?xgnNothingLeft ?xcaNothingLeft ?xmoNothingLeft ?xmbNothingLeft ?eSub_NoBook ?eI_NoBook_NoHouse ?eI_NoBook_NoRow ?eI_NoBook_NoText ?eI_NoBook_TooMany ?eI_NoBook_NothingLeft ?eIV_NoBook
    (case aB => k_is)
    (case a1 => k_is)
    (case l1 => (refine' L2.fun_in ?l ?c ?k; (case l => k_is); (case c => k_is); (case k => k_is)))
    (case a2 => k_is)
    (case l2 => (refine' L2.fun_in ?l ?c ?k; (case l => k_is); (case c => k_is); (case k => k_is)))
    (case a3 => k_is)
    (case l3 => (refine' L2.fun_in ?l ?c ?k; (case l => k_is); (case c => k_is); (case k => k_is)))
    (case a4 => k_is)
    (case l4 => (refine' L2.fun_in ?l ?c ?k; (case l => k_is); (case c => k_is); (case k => k_is)))
    (case a5 => k_is)
    (case l5 => (refine' L2.fun_in ?l ?c ?k; (case l => k_is); (case c => k_is); (case k => k_is)))
    (case a6 => k_is)
    (case l6 => (refine' L2.fun_in ?l ?c ?k; (case l => k_is); (case c => k_is); (case k => k_is)))
    (case a7 => k_is)
    (case l7 => (refine' L2.fun_in ?l ?c ?k; (case l => k_is); (case c => k_is); (case k => k_is)))
    (case a8 => k_is)
    (case l8 => (refine' L2.fun_in ?l ?c ?k; (case l => k_is); (case c => k_is); (case k => k_is)))
    (case n8 => k_is)
    (case a9 => k_is)
    (case l9 => (refine' L2.fun_in ?l ?c ?k; (case l => k_is); (case c => k_is); (case k => k_is)))
    (case n9 => k_is)
    (case a10 => k_is)
    (case l10 => (refine' L2.fun_in ?l ?c ?k; (case l => k_is); (case c => k_is); (case k => k_is)))
    (case n10 => k_is)
    (case a11 => k_is)
    (case l11 => (refine' L2.fun_in ?l ?c ?k; (case l => k_is); (case c => k_is); (case k => k_is)))
    (case n11 => k_is)
    (case a12 => k_is)
    (case l12 => (refine' L2.fun_in ?l ?c ?k; (case l => k_is); (case c => k_is); (case k => k_is)))
    (case a13 => k_is)
    (case l13 => (refine' L2.fun_in ?l ?c ?k; (case l => k_is); (case c => k_is); (case k => k_is)))
    (case n13 => k_is)
    (case a14 => k_is)
    (case l14 => (refine' L2.fun_in ?l ?c ?k; (case l => k_is); (case c => k_is); (case k => k_is)))
    (case n14 => k_is)
    (case a15 => k_is)
    (case l15 => (refine' L2.fun_in ?l ?c ?k; (case l => k_is); (case c => k_is); (case k => k_is)))
    (case n15 => k_is)
    (case a16 => k_is)
    (case l16 => (refine' L2.fun_in ?l ?c ?k; (case l => k_is); (case c => k_is); (case k => k_is)))
    (case a17 => k_is)
    (case l17 => (refine' L2.fun_in ?l ?c ?k; (case l => k_is); (case c => k_is); (case k => k_is)))
    (case a18 => k_is)
    (case l18 => (refine' L2.fun_in ?l ?c ?k; (case l => k_is); (case c => k_is); (case k => k_is)))
    (case a19 => k_is)
    (case l19 => (refine' L2.fun_in ?l ?c ?k; (case l => k_is); (case c => k_is); (case k => k_is)))
    (case a20 => k_is)
    (case l20 => (refine' L2.fun_in ?l ?c ?k; (case l => k_is); (case c => k_is); (case k => k_is)))
    (case a21 => k_is)
    (case l21 => (refine' L2.fun_in ?l ?c ?k; (case l => k_is); (case c => k_is); (case k => k_is)))
    (case a22 => k_is)
    (case l22 => (refine' L2.fun_in ?l ?c ?k; (case l => k_is); (case c => k_is); (case k => k_is)))
    (case a23 => k_is)
    (case l23 => (refine' L2.fun_in ?l ?c ?k; (case l => k_is); (case c => k_is); (case k => k_is)))
    (case a24 => k_is)
    (case l24 => (refine' L2.fun_in ?l ?c ?k; (case l => k_is); (case c => k_is); (case k => k_is)))
    (case a25 => k_is)
    (case l25 => (refine' L2.fun_in ?l ?c ?k; (case l => k_is); (case c => k_is); (case k => k_is)))
    (case a26 => k_is)
    (case l26 => (refine' L2.fun_in ?l ?c ?k; (case l => k_is); (case c => k_is); (case k => k_is)))
    (case a27 => k_is)
    (case l27 => (refine' L2.fun_in ?l ?c ?k; (case l => k_is); (case c => k_is); (case k => k_is)))
    (case a28 => k_is)
    (case l28 => (refine' L2.fun_in ?l ?c ?k; (case l => k_is); (case c => k_is); (case k => k_is)))
    (case a29 => k_is)
    (case l29 => (refine' L2.fun_in ?l ?c ?k; (case l => k_is); (case c => k_is); (case k => k_is)))
    (case a30 => k_is)
    (case l30 => (refine' L2.fun_in ?l ?c ?k; (case l => k_is); (case c => k_is); (case k => k_is)))
    (case a31 => k_is)
    (case l31 => (refine' L2.fun_in ?l ?c ?k; (case l => k_is); (case c => k_is); (case k => k_is)))
    (case a32 => k_is)
    (case l32 => (refine' L2.fun_in ?l ?c ?k; (case l => k_is); (case c => k_is); (case k => k_is)))
    (case a33 => k_is)
    (case l33 => (refine' L2.fun_in ?l ?c ?k; (case l => k_is); (case c => k_is); (case k => k_is)))
    (case a34 => k_is)
    (case l34 => (refine' L2.fun_in ?l ?c ?k; (case l => k_is); (case c => k_is); (case k => k_is)))
    (case a35 => k_is)
    (case l35 => k_is)
    (case c35 => k_is)
    (case k35 => k_is)
    (case z1 => k_is)
    (case z2 => k_is)
    (case z3 => k_is)
    (case z4 => k_is)
    (case z5 => k_is)
    (case z6 => k_is)
    (case z7 => k_is)
    (case z8 => k_is)
    (case z9 => k_is)
    (case z10 => k_is)
    (case z11 => k_is)
    (case z12 => k_is)
    (case z13 => k_is)
    (case z14 => k_is)
    (case z15 => k_is)
    (case z16 => k_is)
    (case z17 => k_is)
    (case bp => k_is)
    (case bh => k_is)
    (case bo => k_is)
    (case bs => k_is)
    (case b_many => k_is)
    (case b_scale => k_is)
    (case b_cells => k_is)
    (case b_outs => k_is)
    (case b_ins => k_is)
    (case bm => k_is)
    (case bk => k_is)
    (case s1 => k_is)
    (case s3 => k_is)
    (case s4 => k_keys)
    (case sa0 => k_is)
    (case sb0 => k_is)
    (case sa1 => k_is)
    (case sb1 => k_is)
    (case sa2 => k_is)
    (case sb2 => k_is)
    (case sa3 => k_is)
    (case sb3 => k_is)
    (case xmNoHouse => k_is)
    (case xoNoHouse => k_exc)
    (case xgaNoHouse => k_is)
    (case xgnNoHouse => k_is)
    (case xcaNoHouse => k_is)
    (case xmoNoHouse => k_is)
    (case xmbNoHouse => k_is)
    (case xmNoBook => k_is)
    (case xoNoBook => k_exc)
    (case xgaNoBook => k_is)
    (case xgnNoBook => k_is)
    (case xcaNoBook => k_is)
    (case xmoNoBook => k_is)
    (case xmbNoBook => k_is)
    (case xmRimError => k_is)
    (case xoRimError => k_exc)
    (case xgaRimError => k_is)
    (case xgnRimError => k_is)
    (case xcaRimError => k_is)
    (case xmoRimError => k_is)
    (case xmbRimError => k_is)
    (case xmNoRow => k_is)
    (case xoNoRow => k_exc)
    (case xgaNoRow => k_is)
    (case xgnNoRow => k_is)
    (case xcaNoRow => k_is)
    (case xmoNoRow => k_is)
    (case xmbNoRow => k_is)
    (case xmNoText => k_is)
    (case xoNoText => k_exc)
    (case xgaNoText => k_is)
    (case xgnNoText => k_is)
    (case xcaNoText => k_is)
    (case xmoNoText => k_is)
    (case xmbNoText => k_is)
    (case xmTooMany => k_is)
    (case xoTooMany => k_exc)
    (case xgaTooMany => k_is)
    (case xgnTooMany => k_is)
    (case xcaTooMany => k_is)
    (case xmoTooMany => k_is)
    (case xmbTooMany => k_is)
    (case xmNothingLeft => k_is)
    (case xoNothingLeft => k_exc)
    (case xgaNothingLeft => k_is)
    (case xgnNothingLeft => k_is)
    (case xcaNothingLeft => k_is)
    (case xmoNothingLeft => k_is)
    (case xmbNothingLeft => k_is)
    (case eSub_NoBook => k_is)
    (case eI_NoBook_NoHouse => kit_is)
    (case eI_NoBook_NoRow => kit_is)
    (case eI_NoBook_NoText => kit_is)
    (case eI_NoBook_TooMany => kit_is)
    (case eI_NoBook_NothingLeft => kit_is)
    (case eIV_NoBook => kit_is)
  case C => exact fun w t ht => by rw [List.mem_singleton.mp ht]; exact ⟨by kernel_rfl, by kernel_rfl⟩
