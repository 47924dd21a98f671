import PyProof.Rows.All
import Wide.All
import OpenK.AllK
import Wide.FinOn
import Lean
import PyProof.EqAt
import PyProof.EqKinds
import PyProof.TupleCall
import PyProof.NeData
import PyProof.ZipIter
import KE.KIntText
import PyProof.Rows.StrSplitAre
import PyProof.Rows.StrJoin2
import PyProof.StrWalks
import PyProof.StrLawsChain
import PyProof.StrLawsTight
import PyProof.Rows.StrItems
import PyProof.Rows.ReprOcc
import PyProof.EnumMake
import PyProof.EnumFor
import KE.KMinKey
import KE.KUnpack
import KE.KNestM
import PyProof.AssignAttr
import KE.KLam
import PySem.Challenge.RW_rimhouse_k13_books_as_texts
set_option Elab.async false
set_option linter.all false
set_option maxRecDepth 100000
namespace L2
open PySem PySem.Spec PyProof.Rows
abbrev Key := Sum Int Str
def a7O : Key -> Value -> Bool
  | .inl k, v => Value.isInt k v
  | .inr x, v => Value.isStrOf x v
def b1x (w : World) : Key -> Int
  | .inl k => hashInt k
  | .inr x => hashStr w x
theorem B6 : ∀ {k : Key} {v : Value}, a7O k v = true -> (∃ i t, k = Sum.inl i /\ v = Value.int i t) \/ (∃ x t, k = Sum.inr x /\ v = Value.str x t)
  | .inl i, v, h => by
    obtain ⟨t, e⟩ := Value.isInt_shape (k := i) (v := v) h
    exact .inl ⟨i, t, rfl, e⟩
  | .inr x, v, h => by
    obtain ⟨t, e⟩ := Value.isStrOf_shape (x := x) (v := v) h
    exact .inr ⟨x, t, rfl, e⟩
theorem a8c (a b : Int) : decide ((Sum.inl a : Key) = Sum.inl b) = (a == b) := by
  by_cases e : a = b
  . subst e; simp
  . have h : ¬ (Sum.inl a : Key) = Sum.inl b := fun q => e (Sum.inl.inj q)
    rw [decide_eq_false h]
    exact (beq_eq_false_iff_ne.mpr e).symm
theorem a8k (a b : Str) : decide ((Sum.inr a : Key) = Sum.inr b) = decide (a = b) := by
  by_cases e : a = b
  . subst e; simp
  . have h : ¬ (Sum.inr a : Key) = Sum.inr b := fun q => e (Sum.inr.inj q)
    rw [decide_eq_false h, decide_eq_false e]
theorem a8m (a : Int) (b : Str) : decide ((Sum.inl a : Key) = Sum.inr b) = false := decide_eq_false (fun q => nomatch q)
theorem a8n (a : Str) (b : Int) : decide ((Sum.inr a : Key) = Sum.inl b) = false := decide_eq_false (fun q => nomatch q)
def a1B (prog : Program) (w : World) : PySem.KeyKind prog w Key where
  is := a7O
  hash := b1x w
  inj := fun v a b ha hb => by
    rcases B6 ha with ⟨i, t, rfl, rfl⟩ | ⟨x, t, rfl, rfl⟩
    . rcases B6 hb with ⟨j, u, rfl, e⟩ | ⟨y, u, rfl, e⟩
      . injection e with e1 _; rw [e1]
      . exact nomatch e
    . rcases B6 hb with ⟨j, u, rfl, e⟩ | ⟨y, u, rfl, e⟩
      . exact nomatch e
      . injection e with e1 _; rw [e1]
  byValue := fun k v h => by
    rcases B6 h with ⟨i, t, rfl, rfl⟩ | ⟨x, t, rfl, rfl⟩ <;> rfl
  pyHash := fun hv h => by
    rcases B6 hv with ⟨i, t, rfl, rfl⟩ | ⟨x, t, rfl, rfl⟩
    . exact wpAny_pyHash_int h
    . exact wpAny_pyHash_str h
  eqBool := fun hu hv h => by
    rcases B6 hu with ⟨i, t, rfl, rfl⟩ | ⟨x, t, rfl, rfl⟩
    . rcases B6 hv with ⟨j, u, rfl, rfl⟩ | ⟨y, u, rfl, rfl⟩
      . rw [a8c] at h; exact wpAny_eqBool_int h
      . rw [a8m] at h; exact SeqAt.EqAt.int_str i t y u _ _ _ _ h
    . rcases B6 hv with ⟨j, u, rfl, rfl⟩ | ⟨y, u, rfl, rfl⟩
      . rw [a8n] at h; exact SeqAt.EqAt.str_int x t j u _ _ _ _ h
      . rw [a8k] at h; exact wpAny_eqBool_str h
  «strs» := fun k x t v h => by
    rcases B6 h with ⟨i, u, rfl, e⟩ | ⟨y, u, rfl, e⟩
    . exact nomatch e
    . injection e with e1 _
      subst e1
      cases v <;> rfl
end L2
namespace L2
open PySem PySem.Spec PyProof.Rows
inductive V where
  | non | bl (b : Bool) | int (i : Int) | str (x : Str) | byt (b : Array UInt8) | flt (b : UInt64) | ref (a : Addr) | ty (n : String)
  deriving DecidableEq
def RelV : V -> Value -> Prop
  | .non, u => u = Value.none
  | .bl b, u => u = Value.bool b
  | .int i, u => ∃ t, u = Value.int i t
  | .str x, u => ∃ t, u = Value.str x t
  | .byt b, u => ∃ t, u = Value.bytes b t
  | .flt b, u => ∃ t, u = Value.float b t
  | .ref a, u => u = Value.ref a
  | .ty n, u => u = Value.type n
abbrev Vals : List V -> List Value -> Prop := Paired RelV
theorem Vals.length {xs : List V} {us : List Value} (r : Vals xs us) : xs.length = us.length := Paired.length r
theorem Vals.get : ∀ {xs : List V} {us : List Value} {i : Nat} {x : V}, Vals xs us -> xs[i]? = some x -> ∃ u, us[i]? = some u /\ RelV x u
  | _, _, _, _, .nil, e => by simp at e
  | _, _, 0, _, .cons r _, e => by simp at e; subst e; exact ⟨_, rfl, r⟩
  | _, _, i + 1, x, .cons _ t, e => by
    obtain ⟨u, h1, h2⟩ := Vals.get (i := i) (x := x) t (by simpa using e)
    exact ⟨u, by simpa using h1, h2⟩
theorem Vals.set {x : V} {u : Value} (r : RelV x u) : ∀ {xs : List V} {us : List Value} (i : Nat), Vals xs us -> Vals (xs.set i x) (us.set i u)
  | _, _, _, .nil => .nil
  | _, _, 0, .cons _ t => .cons r t
  | _, _, i + 1, .cons q t => .cons q (Vals.set r i t)
theorem Vals.append : ∀ {xs ys : List V} {us ws : List Value}, Vals xs us -> Vals ys ws -> Vals (xs ++ ys) (us ++ ws)
  | _, _, _, _, .nil, s => s
  | _, _, _, _, .cons r t, s => .cons r (Vals.append t s)
theorem Vals.take : ∀ {xs : List V} {us : List Value} (n : Nat), Vals xs us -> Vals (xs.take n) (us.take n)
  | _, _, 0, _ => .nil
  | _, _, _ + 1, .nil => .nil
  | _, _, n + 1, .cons r t => .cons r (Vals.take n t)
theorem Vals.drop : ∀ {xs : List V} {us : List Value} (n : Nat), Vals xs us -> Vals (xs.drop n) (us.drop n)
  | _, _, 0, r => r
  | _, _, _ + 1, .nil => .nil
  | _, _, n + 1, .cons _ t => Vals.drop n t
theorem Vals.none_of : ∀ {xs : List V} {us : List Value} {i : Nat}, Vals xs us -> xs[i]? = none -> us[i]? = none := fun {xs us i} r e => by
  have h1 := r.length
  have h2 : xs.length <= i := List.getElem?_eq_none_iff.mp e
  exact List.getElem?_eq_none_iff.mpr (by omega)
def RelO : Option V -> Option Value -> Prop
  | some v, some u => RelV v u
  | none, none => True
  | _, _ => False
def KV {κ : Type} : List (κ × V) -> List (κ × Value) -> Prop := Paired fun (p : κ × V) (q : κ × Value) => p.1 = q.1 /\ RelV p.2 q.2
def kV : Key -> V
  | .inl i => .int i
  | .inr x => .str x
inductive HO where
  /-- a list -/
  | lst (xs : List V)
  /-- a tuple (never changes) -/
  | tup (xs : List V)
  /-- a dict whose keys are ints and texts; one whose keys are tuples of ints and texts (the empty one is both) -/
  | dK (kvs : List (Key × V)) | dT (kvs : List (List Key × V))
  /-- a set of ints: its members, its size -/
  | set (S : Int -> Bool) (n : Nat)
  /-- an instance of the class at C, its dict at dx, its attributes -/
  | ins (C dx : Addr) (fs : List (Str × V))
  /-- the dict of the instance at x -/
  | own (x : Addr)
  /-- the dict of an exception -/
  | xd (fs : List (Str × V))
  /-- a bound method, f of x -/
  | met (f x : Addr)
  /-- a range object lo, lo + 1, .. below hi -/
  | rng (lo hi : Int)
  /-- a thing that is known to the object (the script; a dict while a loop walks it): read, never written while it is so -/
  | frz (o : Obj) (u : HO)
  /-- a code object's table -/
  | tbl (ps : Array Value)
  /-- any other thing, by what is true of its one object (a def of one's own: SetO a S n := HO.ext fun h => ..) -/
  | ext (φ : Heap -> Prop)
abbrev Hp := Addr -> Option HO
def upd (H : Hp) (a : Addr) (o : HO) : Hp := fun b => if b = a then some o else H b
theorem c6 {H : Hp} {a : Addr} {o : HO} : upd H a o a = some o := by unfold upd; rw [if_pos rfl]
theorem j6 {H : Hp} {a b : Addr} {o : HO} (h : b ≠ a) : upd H a o b = H b := by unfold upd; rw [if_neg h]
theorem P4 {H : Hp} {a : Addr} {o u : HO} : upd (upd H a o) a u = upd H a u := by
  funext b; unfold upd; split <;> rfl
theorem K5 {H : Hp} {a b : Addr} {o u : HO} (h : H a = some o) (h' : H b = some u) (d : o ≠ u) : a ≠ b := by
  intro e; subst e; rw [h] at h'; exact d (Option.some.inj h')
theorem j7 {H : Hp} {a b : Addr} {o : HO} (h : H a = some o) (h' : H b = none) : a ≠ b := by
  intro e; subst e; rw [h] at h'; cases h'
section
variable (P : Program) (w : World)
def ObjOk (H : Hp) (h : Heap) (a : Addr) : HO -> Prop
  | .lst xs => xs.length <= sizeLine /\ ∃ (its : List Value) (n : Nat), Vals xs its /\ h.get? a = some { cls := .type "list", data := .seq its.toArray n }
  | .tup xs => xs.length <= sizeLine /\ ∃ its : List Value, Vals xs its /\ IsTup h a its.toArray
  | .dK kvs => kvs.length <= sizeLine /\ (a == sysModules) = false /\ ∃ vs, KV kvs vs /\ h.DictOf (a1B P w) a vs
  | .dT kvs => kvs.length <= sizeLine /\ (a == sysModules) = false /\ ∃ xs : List (List Key × Addr × Value),
      Paired (fun (p : List Key × V) (q : List Key × Addr × Value) => p.1 = q.1 /\ H q.2.1 = some (.tup (p.1.map kV)) /\ RelV p.2 q.2.2) kvs xs ∧
      ∃ o es ep, h.get? a = some o /\ o.ExactDict /\ o.data = .dict es ep /\ es.toList = xs.map (entryOfKey (tupleKind (a1B P w))) /\ (xs.map (·.1)).Nodup
  | .set S n => h.SetOf (intKind P w) a S n
  | .ins C dx fs => H dx = some (.own a) /\ fs.length <= 1000 /\ dx ≠ a /\ h.get? a = some (W.instObj C dx) ∧
      ∃ mA, h.Ns1 dx mA /\ (∀ f, RelO (fs.lookup f) (mA f)) /\ PySem.Within mA (fs.map (·.1))
  | .own _ => ∃ o, h.get? a = some o
  | .xd fs => ∃ mA, h.Ns1 a mA /\ ∀ f, RelO (fs.lookup f) (mA f)
  | .rng lo hi => ∃ t u v, h.get? a = some { cls := .type "range", data := .fields #[.int lo t, .int hi u, .int 1 v] }
  | .frz o u => h.get? a = some o /\ ObjOk H h a u
  | .tbl ps => h.get? a = some { cls := .none, data := .fields ps }
  | .met f x => h.get? a = some (W.methodObj (.ref f) (.ref x))
  | .ext φ => φ h /\ (∃ o, h.get? a = some o) /\ ∀ h1 h2 : Heap, φ h1 -> (∀ o, h1.get? a = some o -> h2.get? a = some o) -> φ h2
def HOk (H : Hp) (h : Heap) : Prop := ∀ a o, H a = some o -> ObjOk P w H h a o
end
section
variable {P : Program} {w : World} {H H' : Hp} {h h' : Heap} {a : Addr} {o : HO}
theorem ObjOk.lt (x : ObjOk P w H h a o) : a < h.objs.size := by
  cases o with
  | lst xs => obtain ⟨_, _, _, _, e⟩ := x; exact Heap.lt_size e
  | tup xs => obtain ⟨_, _, _, p⟩ := x; exact p.lt
  | dK kvs => obtain ⟨_, _, _, _, o, _, _, e, _⟩ := x; exact Heap.lt_size e
  | dT kvs => obtain ⟨_, _, _, _, o, _, _, e, _⟩ := x; exact Heap.lt_size e
  | set S n => obtain ⟨o, _, _, _, e, _⟩ := x; exact Heap.lt_size e
  | ins C dx fs => obtain ⟨_, _, _, e, _⟩ := x; exact Heap.lt_size e
  | own y => obtain ⟨_, e⟩ := x; exact Heap.lt_size e
  | xd fs => obtain ⟨_, ⟨_, _, _, e, _⟩, _⟩ := x; exact Heap.lt_size e
  | rng lo hi => obtain ⟨_, _, _, e⟩ := x; exact Heap.lt_size e
  | frz ob u => obtain ⟨e, _⟩ := x; exact Heap.lt_size e
  | tbl ps => exact Heap.lt_size (show h.get? a = some _ from x)
  | met f y => exact Heap.lt_size (show h.get? a = some _ from x)
  | ext φ => obtain ⟨_, ⟨_, e⟩, _⟩ := x; exact Heap.lt_size e
theorem Paired.mapP {α β : Type} {F G : α -> β -> Prop} : ∀ {l₁ : List α} {l₂ : List β}, Paired F l₁ l₂ -> (∀ a b, F a b -> G a b) -> Paired G l₁ l₂
  | _, _, .nil, _ => .nil
  | _, _, .cons r t, f => .cons (f _ _ r) (Paired.mapP t f)
theorem Paired.imp' {α β : Type} {F G : α -> β -> Prop} (f : ∀ a b, F a b -> G a b) {l₁ : List α} {l₂ : List β} (r : Paired F l₁ l₂) : Paired G l₁ l₂ := Paired.mapP r f
theorem ObjOk.stay (x : ObjOk P w H h a o) (k : ∀ b u, (b = a \/ H b = some (.own a)) -> h.get? b = some u -> h'.get? b = some u)
    (ho : ∀ b, H b = some (.own a) -> H' b = some (.own a)) (ht : ∀ b xs, H b = some (.tup xs) -> H' b = some (.tup xs)) : ObjOk P w H' h' a o := by
  induction o with
  | lst xs => obtain ⟨z, its, n, r, e⟩ := x; exact ⟨z, its, n, r, k _ _ (.inl rfl) e⟩
  | tup xs => obtain ⟨z, its, r, ob, e, c⟩ := x; exact ⟨z, its, r, ob, k _ _ (.inl rfl) e, c⟩
  | dK kvs => obtain ⟨z, y, vs, r, ob, es, ep, e, c⟩ := x; exact ⟨z, y, vs, r, ob, es, ep, k _ _ (.inl rfl) e, c⟩
  | dT kvs =>
    obtain ⟨z, y, xs, r, ob, es, ep, e, c⟩ := x
    exact ⟨z, y, xs, Paired.mapP r fun p q z => ⟨z.1, ht _ _ z.2.1, z.2.2⟩, ob, es, ep, k _ _ (.inl rfl) e, c⟩
  | set S n => obtain ⟨ob, es, ep, t, e, c⟩ := x; exact ⟨ob, es, ep, t, k _ _ (.inl rfl) e, c⟩
  | ins C dx fs =>
    obtain ⟨d, z, ne, e, mA, ⟨od, es, ep, e2, c⟩, r⟩ := x
    exact ⟨ho _ d, z, ne, k _ _ (.inl rfl) e, mA, ⟨od, es, ep, k _ _ (.inr d) e2, c⟩, r⟩
  | own y => obtain ⟨ob, e⟩ := x; exact ⟨ob, k _ _ (.inl rfl) e⟩
  | xd fs => obtain ⟨mA, ⟨od, es, ep, e, c⟩, r⟩ := x; exact ⟨mA, ⟨od, es, ep, k _ _ (.inl rfl) e, c⟩, r⟩
  | rng lo hi => obtain ⟨t, u, v, e⟩ := x; exact ⟨t, u, v, k _ _ (.inl rfl) e⟩
  | frz ob u ih => obtain ⟨e, q⟩ := x; exact ⟨k _ _ (.inl rfl) e, ih q⟩
  | tbl ps =>
    have e : h.get? a = some { cls := .none, data := .fields ps } := x
    show h'.get? a = some { cls := .none, data := .fields ps }
    exact k a _ (.inl rfl) e
  | met f y =>
    have e : h.get? a = some (W.methodObj (.ref f) (.ref y)) := x
    show h'.get? a = some (W.methodObj (.ref f) (.ref y))
    exact k a _ (.inl rfl) e
  | ext φ => obtain ⟨p, ⟨o, e⟩, st⟩ := x; exact ⟨st _ _ p fun o q => k _ _ (.inl rfl) q, ⟨o, k _ _ (.inl rfl) e⟩, st⟩
theorem HOk.lt (x : HOk P w H h) (e : H a = some o) : a < h.objs.size := (x a o e).lt
theorem HOk.fresh (x : HOk P w H h) (e : h.objs.size <= a) : H a = none := by
  cases q : H a with
  | none => rfl
  | some u => exact absurd (Nat.lt_of_lt_of_le (x.lt q) e) (Nat.lt_irrefl _)
theorem HOk.kept (x : HOk P w H h) (k : ∀ b u, h.get? b = some u -> h'.get? b = some u) : HOk P w H h' := fun a o e =>
  (x a o e).stay (fun b u _ q => k b u q) (fun _ q => q) fun _ _ q => q
theorem HOk.laid (x : HOk P w H h) (k : ∀ b u, h.get? b = some u -> h'.get? b = some u) (hp : h.objs.size <= a) (new : ObjOk P w (upd H a o) h' a o) : HOk P w (upd H a o) h' := fun b u e => by
  have hn := x.fresh hp
  by_cases hb : b = a
  . subst hb; rw [c6] at e; cases e; exact new
  . rw [j6 hb] at e
    exact (x b u e).stay (fun c v _ q => k c v q) (fun c q => by rw [j6 (j7 q hn)]; exact q) fun c xs q => by rw [j6 (j7 q hn)]; exact q
end
def Rd (H : Hp) (a : Addr) (u : HO) : Prop := H a = some u \/ ∃ o, H a = some (.frz o u)
theorem Rd.ok {P : Program} {w : World} {H : Hp} {h : Heap} {a : Addr} {u : HO} (r : Rd H a u) (x : HOk P w H h) : ObjOk P w H h a u := by
  rcases r with r | ⟨o, r⟩
  . exact x a u r
  . obtain ⟨_, q⟩ := x a _ r
    exact q
def Mut : Option HO -> Prop
  | some (.lst _) => True
  | some (.dK _) => True
  | some (.dT _) => True
  | some (.set _ _) => True
  | some (.ins _ _ _) => True
  | some (.ext _) => True
  | _ => False
section
variable {P : Program} {w : World} {H : Hp} {h h' : Heap} {x e : Addr} {o' : HO}
theorem HOk.write (ok : HOk P w H h) (mu : Mut (H x)) (he : e = x \/ H e = some (.own x)) (k : ∀ b u, b ≠ e -> h.get? b = some u -> h'.get? b = some u) (heo : ∃ u, h'.get? e = some u)
    (new : ObjOk P w (upd H x o') h' x o') : HOk P w (upd H x o') h' := fun b u q => by
  have nown : ∀ c y, H c = some (.own y) -> c ≠ x := fun c y r z => by subst z; rw [r] at mu; exact mu
  have ntup : ∀ c xs, H c = some (.tup xs) -> c ≠ x := fun c xs r z => by subst z; rw [r] at mu; exact mu
  by_cases hb : b = x
  . subst hb; rw [c6] at q; cases q; exact new
  . rw [j6 hb] at q
    by_cases hbe : b = e
    . have q' : H b = some (.own x) := by
        rcases he with z | z
        . exact absurd (hbe.trans z) hb
        . rw [hbe]; exact z
      rw [q] at q'; cases q'
      obtain ⟨v, hv⟩ := heo
      exact ⟨v, by rw [hbe]; exact hv⟩
    . refine (ok b u q).stay (fun c v hc r => k c v ?_ r) (fun c r => by rw [j6 (nown c b r)]; exact r) fun c xs r => by rw [j6 (ntup c xs r)]; exact r
      rcases hc with rfl | hc
      . exact hbe
      . rintro rfl
        rcases he with z | z
        . exact nown c b hc z
        . rw [hc] at z; cases z; exact hb rfl
end
structure Un (fs ex : List Addr) (H H' : Hp) (h h' : Heap) : Prop where
  keep : ∀ b o, h.get? b = some o -> H b = none -> b ∉ fs -> b ∉ ex -> h'.get? b = some o
  slot : ∀ b o, h.get? b = some o -> H b = none -> b ∈ fs -> b ∉ ex -> ∃ sl, h'.get? b = some { o with slots := sl }
  free : ∀ b o, h.get? b = some o -> H b = none -> b ∉ ex -> H' b = none
  there : ∀ b o, h.get? b = some o -> b ∉ ex -> ∃ o', h'.get? b = some o'
  tups : ∀ b xs, H b = some (.tup xs) -> H' b = some (.tup xs)
  frzs : ∀ b o u, H b = some (.frz o u) -> H' b = some (.frz o u)
  tbls : ∀ b ps, H b = some (.tbl ps) -> ∃ more, H' b = some (.tbl (ps ++ more))
section
variable {fs fs' ex ex' : List Addr} {H H1 H2 : Hp} {h h1 h2 h' : Heap} {a x e : Addr} {o : HO}
theorem Un.any (u : Un fs ex H H1 h h1) {b : Addr} {ob : Obj} (q : h.get? b = some ob) (n : H b = none) (hx : b ∉ ex) : ∃ sl, h1.get? b = some { ob with slots := sl } := by
  by_cases hb : b ∈ fs
  . exact u.slot b ob q n hb hx
  . exact ⟨ob.slots, u.keep b ob q n hb hx⟩
theorem Un.kept (k : ∀ b u, h.get? b = some u -> h'.get? b = some u) : Un fs ex H H h h' :=
  ⟨fun b ob q _ _ _ => k b ob q, fun b ob q _ _ _ => ⟨ob.slots, k b ob q⟩, fun _ _ _ n _ => n, fun b ob q _ => ⟨ob, k b ob q⟩, fun _ _ q => q, fun _ _ _ q => q, fun _ ps q => ⟨#[], by rw [q]; simp⟩⟩
theorem Un.refl : Un fs ex H H h h := Un.kept fun _ _ q => q
theorem Un.laid (k : ∀ b u, h.get? b = some u -> h'.get? b = some u) (hp : h.objs.size <= a) (hn : H a = none) : Un fs ex H (upd H a o) h h' where
  keep := fun b u q _ _ _ => k b u q
  slot := fun b u q _ _ _ => ⟨u.slots, k b u q⟩
  free := fun b u q n _ => by rw [j6 (Nat.ne_of_lt (Nat.lt_of_lt_of_le (Heap.lt_size q) hp))]; exact n
  there := fun b u q _ => ⟨u, k b u q⟩
  tups := fun b xs q => by rw [j6 (j7 q hn)]; exact q
  frzs := fun b u xs q => by rw [j6 (j7 q hn)]; exact q
  tbls := fun b ps q => ⟨#[], by rw [j6 (j7 q hn), q]; simp⟩
theorem Un.write (mu : Mut (H x)) (he : e = x \/ H e = some (.own x)) (k : ∀ b u, b ≠ e -> h.get? b = some u -> h'.get? b = some u) (heo : ∃ u, h'.get? e = some u) : Un fs ex H (upd H x o) h h' := by
  have hx : ∀ b, H b = none -> b ≠ x := fun b n z => by subst z; rw [n] at mu; exact mu
  have hb : ∀ b, H b = none -> b ≠ e := fun b n z => by
    subst z
    rcases he with r | r
    . exact hx b n r
    . rw [n] at r; cases r
  have hm : ∀ b u, H b = some u -> ¬ Mut (some u) -> b ≠ x := fun b u q nm z => by subst z; rw [q] at mu; exact nm mu
  refine ⟨fun b u q n _ _ => k b u (hb b n) q, fun b u q n _ _ => ⟨u.slots, k b u (hb b n) q⟩, fun b u q n _ => by rw [j6 (hx b n)]; exact n, fun b u q _ => ?_,
    fun b xs q => by rw [j6 (hm b _ q fun z => z)]; exact q, fun b u xs q => by rw [j6 (hm b _ q fun z => z)]; exact q, fun b ps q => ⟨#[], by rw [j6 (hm b _ q fun z => z), q]; simp⟩⟩
  by_cases hbe : b = e
  . subst hbe; exact heo
  . exact ⟨u, k b u hbe q⟩
end
def trk (h : Heap) (H : Hp) : List Addr := (List.range h.objs.size).filter fun a => (H a).isSome
def a0w (h : Heap) (H : Hp) : Heap := W.hideAll h (trk h H)
theorem a4a (h : Heap) (H : Hp) : (a0w h H).objs.size = h.objs.size := W.hideAll_size _ _
theorem a4N {h : Heap} {H : Hp} {b : Addr} {o : Obj} (e : h.get? b = some o) (n : H b = none) : (a0w h H).get? b = some o :=
  W.hideAll_get _ e fun hm => by
    have q : (H b).isSome = true := (List.mem_filter.mp hm).2
    rw [n] at q; simp at q
theorem a7u {h : Heap} {H : Hp} {b : Addr} {o : Obj} (e : (a0w h H).get? b = some o) : h.get? b = some o /\ H b = none := by
  have e' : h.get? b = some o := W.of_hideAll (trk h H) e
  refine ⟨e', ?_⟩
  cases q : H b with
  | none => rfl
  | some x =>
    have hm : b ∈ trk h H := List.mem_filter.mpr ⟨List.mem_range.mpr (Heap.lt_size e'), by simp [q]⟩
    have z : (a0w h H).get? b = none := W.hideAll_none (trk h H) hm
    rw [z] at e; cases e
def a6R (g h : Heap) (L : Addr) : List (Addr × Obj) := (List.range h.objs.size).filterMap fun a => if a = L \/ (g.get? a).isSome = true then none else (h.get? a).map fun o => (a, o)
def S3 (g h : Heap) (L d : Addr) : List (Addr × Obj) := (a6R g h L).filter fun p => decide (p.1 ≠ d)
end L2
namespace L2
open PySem PySem.Spec PyProof.Rows
structure Mod (K : W.Frag) (mg : Str -> Option Value) (base : Heap) : Prop where
  kin : K.In base
  glob : base.Ns mainGlobals mg
  blt : ∃ mb, base.Ns builtinsNs mb /\ ∀ x : Str, x ≠ "__name__" -> mb x = bootBuiltins x
  nolimit : base.NoLimit
structure Cx where
  prog : Program
  w : World
  K : W.Frag
  mg : Str -> Option Value
  base : Heap
  A : Around
  N : List Str
  s₀ : Shared
  H₀ : Hp
  env : Env
  outer : List Env
  stack : List Env
  ex : List Addr
  fn : Str -> Bool
  calm : Bool
  pn : List (Addr × Obj)
  xe : Value -> Shared -> Prop
def frs (l : List Env) : List Addr := l.filterMap (·.frame)
abbrev Cx.fs (X : Cx) : List Addr := frs X.outer
def Vis (sc : Scope) (x : Str) : Prop := sc.names.lookup x = some .local \/ sc.names.lookup x = some .cell \/ sc.names.lookup x = some .free
def Loc (sc : Scope) (x : Str) : Prop := sc.names.lookup x = some .local \/ sc.names.lookup x = some .cell
def b1U (env : Env) (h : Heap) (m : Str -> Option Value) (x : Str) (u : Value) : Prop :=
  (env.kindOf x = some .local /\ m x = some u) \/ ((env.kindOf x = some .cell \/ env.kindOf x = some .free) /\ ∃ c, env.cells.lookup x = some c /\ h.IsCell c (some u))
structure Cx.Ok (X : Cx) : Prop where
  mod : Mod X.K X.mg X.base
  kind : X.env.scope.kind = .function
  glob : X.env.globals = mainGlobals
  blt : X.env.builtins = builtinsNs
  above : X.s₀.heap.objs.size <= X.env.locals
  inj : ∀ x y c, X.env.cells.lookup x = some c -> X.env.cells.lookup y = some c -> x = y
  has : ∀ x, (X.env.kindOf x = some .cell \/ X.env.kindOf x = some .free) -> ∃ c, X.env.cells.lookup x = some c
  cab : ∀ x c, X.fn x = true -> X.env.cells.lookup x = some c -> X.s₀.heap.objs.size <= c
  hd : X.calm = true -> X.A.handled = none
  frames : X.A.frames = some X.stack
  stk : X.stack = X.outer \/ (X.stack = X.env :: X.outer /\ X.env.frame = some X.env.locals)
  exf : ∀ b ∈ X.ex, b ≠ X.env.locals /\ ∀ x c, X.env.cells.lookup x = some c -> c ≠ b
  bs : ∀ b o, X.base.get? b = some o -> X.s₀.heap.get? b = some o /\ X.H₀ b = none
  bsz : X.base.objs.size <= X.s₀.heap.objs.size
  noex : ∀ b o, X.base.get? b = some o -> b ∉ X.ex
  exfs : ∀ b ∈ X.ex, b ∉ X.fs
  funs : X.s₀.heap.FunFrames X.base X.outer
  frf : ∀ b ∈ X.fs, X.H₀ b = none
structure Inv (X : Cx) (pins : List (Addr × Obj)) (σ : List (Option V)) (H : Hp) (s : Shared) : Prop where
  ok : X.Ok
  os : s.os = X.s₀.os
  bare : AllBare s.gens
  base : Un X.fs X.ex X.H₀ H X.s₀.heap s.heap
  loc : ∃ m, s.heap.Ns X.env.locals m /\ ∀ (i : Nat) (x : Str) (v : V), X.N[i]? = some x -> σ[i]? = some (some v) -> Vis X.env.scope x -> ∃ u, RelV v u /\ b1U X.env s.heap m x u
  cell : ∀ x c, X.env.cells.lookup x = some c -> ∃ v, s.heap.IsCell c v
  free : H X.env.locals = none
  freeC : ∀ x c, X.env.cells.lookup x = some c -> H c = none
  pin : ∀ p ∈ X.pn ++ pins, s.heap.get? p.1 = some p.2 /\ H p.1 = none /\ p.1 ≠ X.env.locals /\ p.1 ∉ X.fs /\ ∀ v, p.2.data ≠ .cell v
  hok : HOk X.prog X.w H s.heap
  len : σ.length = X.N.length
section
variable {X : Cx} {pins : List (Addr × Obj)} {σ : List (Option V)} {H H' : Hp} {s : Shared} {h' : Heap}
theorem Cx.Ok.nofr (ok : X.Ok) {b : Addr} {o : Obj} (e : X.base.get? b = some o) : b ∉ X.fs := fun hb => by
  have := (ok.funs.mem hb).1
  rw [e] at this; cases this
theorem Inv.bs (I : Inv X pins σ H s) : ∀ b o, X.base.get? b = some o -> s.heap.get? b = some o /\ H b = none := fun b o e =>
  ⟨I.base.keep b o (I.ok.bs b o e).1 (I.ok.bs b o e).2 (I.ok.nofr e) (I.ok.noex b o e), I.base.free b o (I.ok.bs b o e).1 (I.ok.bs b o e).2 (I.ok.noex b o e)⟩
theorem Inv.bk (I : Inv X pins σ H s) : ∀ b o, X.base.get? b = some o -> s.heap.get? b = some o := fun b o e => (I.bs b o e).1
theorem Inv.mod (I : Inv X pins σ H s) : Mod X.K X.mg X.base := I.ok.mod
theorem Inv.kIn (I : Inv X pins σ H s) : X.K.In s.heap := I.ok.mod.kin.keeps I.bk
theorem Inv.fr (I : Inv X pins σ H s) : ∃ m, Fr X.base X.env.locals s.heap m :=
  let ⟨m, hn, _⟩ := I.loc
  ⟨m, hn, I.bk, Nat.le_trans I.ok.bsz I.ok.above⟩
theorem Inv.lt (I : Inv X pins σ H s) : X.env.locals < s.heap.objs.size := let ⟨_, hn, _⟩ := I.loc; hn.lt
theorem Inv.sz (I : Inv X pins σ H s) : X.s₀.heap.objs.size <= s.heap.objs.size := Nat.le_trans I.ok.above (Nat.le_of_lt I.lt)
theorem Inv.nofs (I : Inv X pins σ H s) {a : Addr} (h : s.heap.objs.size <= a) : a ∉ X.fs := fun hb => by
  obtain ⟨_, o, ho, _⟩ := I.ok.funs.mem hb
  exact absurd (Nat.lt_of_lt_of_le (Heap.lt_size ho) (Nat.le_trans I.sz h)) (Nat.lt_irrefl _)
theorem Inv.cne (I : Inv X pins σ H s) : ∀ x c, X.env.cells.lookup x = some c -> c ≠ X.env.locals := fun x c e z => by
  obtain ⟨v, o, ho, hd⟩ := I.cell x c e
  obtain ⟨m, ⟨o', es, ep, ho', hd', _⟩, _⟩ := I.loc
  rw [z, ho'] at ho; cases ho; rw [hd'] at hd; cases hd
theorem Inv.funs (I : Inv X pins σ H s) : s.heap.FunFrames X.base X.outer := by
  have all : ∀ (l : List Env), (∀ b ∈ frs l, b ∈ X.fs) -> X.s₀.heap.FunFrames X.base l -> s.heap.FunFrames X.base l := by
    intro l
    induction l with
    | nil => intro _ _; trivial
    | cons env r ih =>
      intro hs hl
      obtain ⟨hk, ⟨L, o, hf, hn, ho, hd⟩, hr⟩ := hl
      have hL : L ∈ X.fs := hs L (by unfold frs; rw [List.filterMap_cons, hf]; exact List.mem_cons_self)
      obtain ⟨sl, e⟩ := I.base.slot L o ho (I.ok.frf L hL) hL fun z => I.ok.exfs L z hL
      exact ⟨hk, ⟨L, _, hf, hn, e, hd⟩, ih (fun b hb => hs b (by unfold frs; rw [List.filterMap_cons, hf]; exact List.mem_cons_of_mem _ hb)) hr⟩
  exact all X.outer (fun _ hb => hb) I.ok.funs
theorem Inv.stack (I : Inv X pins σ H s) : s.heap.FunFrames X.base X.stack := by
  rcases I.ok.stk with e | ⟨e, hf⟩
  . rw [e]; exact I.funs
  . rw [e]
    obtain ⟨m, hn, _⟩ := I.loc
    refine .cons (by rw [I.ok.kind]; decide) hf hn ?_ I.funs
    exact Heap.get?_none_of_le (Nat.le_trans I.ok.bsz I.ok.above)
theorem Inv.stkSub (I : Inv X pins σ H s) : ∀ b ∈ frs X.stack, b ∈ X.env.locals :: X.fs := fun b hb => by
  rcases I.ok.stk with e | ⟨e, hf⟩
  . rw [e] at hb; exact List.mem_cons_of_mem _ hb
  . rw [e] at hb
    unfold frs at hb
    rw [List.filterMap_cons, hf] at hb
    exact hb
theorem Inv.stkFree (I : Inv X pins σ H s) : ∀ b ∈ frs X.stack, H b = none := fun b hb => by
  rcases List.mem_cons.mp (I.stkSub b hb) with e | hb
  . rw [e]; exact I.free
  . obtain ⟨_, o, ho, _⟩ := I.ok.funs.mem hb
    exact I.base.free b o ho (I.ok.frf b hb) fun z => I.ok.exfs b z hb
theorem Inv.step {g' : Array GenState} {t' : Nat} {d' : Drawn} {ch : List Addr} (I : Inv X pins σ H s)
    (hch : ∀ b ∈ ch, (b ∈ X.ex \/ X.s₀.heap.objs.size <= b) /\ b ≠ X.env.locals /\ (∀ x c, X.env.cells.lookup x = some c -> c ≠ b) /\ ∀ p ∈ X.pn ++ pins, p.1 ≠ b)
    (keep : ∀ b o, b ≠ X.env.locals -> b ∉ X.fs -> b ∉ ch -> s.heap.get? b = some o -> H b = none -> h'.get? b = some o)
    (slot : ∀ b o, b ≠ X.env.locals -> b ∈ X.fs -> b ∉ ch -> s.heap.get? b = some o -> H b = none -> ∃ sl, h'.get? b = some { o with slots := sl }) (free : ∀ b o, b ∉ ch -> s.heap.get? b = some o -> H b = none -> H' b = none)
    (there : ∀ b o, b ∉ ch -> s.heap.get? b = some o -> ∃ o', h'.get? b = some o')
    (tups : ∀ b xs, H b = some (.tup xs) -> H' b = some (.tup xs)) (frzs : ∀ b o u, H b = some (.frz o u) -> H' b = some (.frz o u)) (tbls : ∀ b ps, H b = some (.tbl ps) -> ∃ more, H' b = some (.tbl (ps ++ more)))
    (ns : ∀ m, s.heap.Ns X.env.locals m -> h'.Ns X.env.locals m) (hok : HOk X.prog X.w H' h') (hg : AllBare g') :
    Inv X pins σ H' { s with heap := h', gens := g', drawn := d', toks := t' } := by
  have neL : ∀ b o, X.s₀.heap.get? b = some o -> b ≠ X.env.locals := fun b o e => Nat.ne_of_lt (Nat.lt_of_lt_of_le (Heap.lt_size e) I.ok.above)
  have neC : ∀ b o, X.s₀.heap.get? b = some o -> b ∉ X.ex -> b ∉ ch := fun b o e hx hb => by
    rcases (hch b hb).1 with z | z
    . exact hx z
    . exact absurd (Nat.lt_of_lt_of_le (Heap.lt_size e) z) (Nat.lt_irrefl _)
  have cellK : ∀ x c, X.env.cells.lookup x = some c -> ∀ v, s.heap.IsCell c v -> h'.IsCell c v := fun x c e v ⟨o, ho, hd⟩ => by
    have nch : c ∉ ch := fun z => (hch c z).2.2.1 x c e rfl
    by_cases hc : c ∈ X.fs
    . obtain ⟨sl, q⟩ := slot c o (I.cne x c e) hc nch ho (I.freeC x c e)
      exact ⟨_, q, hd⟩
    . exact ⟨o, keep c o (I.cne x c e) hc nch ho (I.freeC x c e), hd⟩
  refine ⟨I.ok, I.os, hg, ⟨fun b o e n hb hx => ?_, fun b o e n hb hx => ?_, fun b o e n hx => ?_, fun b o e hx => ?_, fun b xs e => tups b xs (I.base.tups b xs e), fun b o xs e => frzs b o xs (I.base.frzs b o xs e), fun b ps e => ?_⟩, ?_, fun x c e => ?_, ?_, fun x c e => ?_, fun p hp => ?_, hok, I.len⟩
  . exact keep b o (neL b o e) hb (neC b o e hx) (I.base.keep b o e n hb hx) (I.base.free b o e n hx)
  . obtain ⟨sl, e1⟩ := I.base.slot b o e n hb hx
    obtain ⟨sl', e2⟩ := slot b _ (neL b o e) hb (neC b o e hx) e1 (I.base.free b o e n hx)
    exact ⟨sl', e2⟩
  . obtain ⟨o', e1⟩ := I.base.there b o e hx
    exact free b o' (neC b o e hx) e1 (I.base.free b o e n hx)
  . obtain ⟨o', e1⟩ := I.base.there b o e hx
    exact there b o' (neC b o e hx) e1
  . obtain ⟨m1, e1⟩ := I.base.tbls b ps e
    obtain ⟨m2, e2⟩ := tbls b _ e1
    exact ⟨m1 ++ m2, by rw [e2, Array.append_assoc]⟩
  . obtain ⟨m, hn, hl⟩ := I.loc
    refine ⟨m, ns m hn, fun i x v e1 e2 e3 => ?_⟩
    obtain ⟨u, r, l⟩ := hl i x v e1 e2 e3
    refine ⟨u, r, ?_⟩
    rcases l with l | ⟨k, c, e, z⟩
    . exact .inl l
    . exact .inr ⟨k, c, e, cellK x c e _ z⟩
  . obtain ⟨v, z⟩ := I.cell x c e
    exact ⟨v, cellK x c e v z⟩
  . obtain ⟨m, ⟨o, _, _, ho, _⟩, _⟩ := I.loc
    exact free _ o (fun z => (hch _ z).2.1 rfl) ho I.free
  . obtain ⟨v, o, ho, hd⟩ := I.cell x c e
    exact free c o (fun z => (hch c z).2.2.1 x c e rfl) ho (I.freeC x c e)
  . obtain ⟨e, n, ne, nf, d⟩ := I.pin p hp
    have nch : p.1 ∉ ch := fun z => (hch p.1 z).2.2.2 p hp rfl
    exact ⟨keep p.1 p.2 ne nf nch e n, free p.1 p.2 nch e n, ne, nf, d⟩
theorem Inv.un {t' : Nat} (I : Inv X pins σ H s) (u : Un X.fs [] H H' s.heap h') (hok : HOk X.prog X.w H' h') : Inv X pins σ H' { s with heap := h', toks := t' } := by
  obtain ⟨m, ⟨o, es, ep, ho, r⟩, _⟩ := id I.loc
  obtain ⟨sl, hL⟩ := u.any ho I.free (by simp)
  exact I.step (g' := s.gens) (d' := s.drawn) (ch := []) (fun _ z => nomatch z) (fun b o _ hb _ e n => u.keep b o e n hb (by simp)) (fun b o _ hb _ e n => u.slot b o e n hb (by simp)) (fun b o _ e n => u.free b o e n (by simp)) (fun b o _ e => u.there b o e (by simp)) u.tups u.frzs u.tbls (fun m' hm => by
    obtain ⟨o', es', ep', ho', r'⟩ := hm
    rw [ho] at ho'; cases ho'
    exact ⟨_, es', ep', hL, r'⟩) hok I.bare
theorem Inv.call {g' : Array GenState} {t' : Nat} {d' : Drawn} {ch : List Addr} (I : Inv X pins σ H s) (u : Un (frs X.stack) ch H H' s.heap h') (hok : HOk X.prog X.w H' h') (hg : AllBare g')
    (hch : ∀ b ∈ ch, (b ∈ X.ex \/ X.s₀.heap.objs.size <= b) /\ b ≠ X.env.locals /\ (∀ x c, X.env.cells.lookup x = some c -> c ≠ b) /\ ∀ p ∈ X.pn ++ pins, p.1 ≠ b) :
    Inv X pins σ H' { s with heap := h', gens := g', drawn := d', toks := t' } := by
  obtain ⟨m, ⟨o, es, ep, ho, r⟩, _⟩ := id I.loc
  obtain ⟨sl, hL⟩ := u.any ho I.free fun z => (hch _ z).2.1 rfl
  exact I.step (ch := ch) hch (fun b o hL hb hc e n => u.keep b o e n (fun z => (List.mem_cons.mp (I.stkSub b z)).elim hL hb) hc) (fun b o _ _ hc e n => u.any e n hc) (fun b o hc e n => u.free b o e n hc) (fun b o hc e => u.there b o e hc) u.tups u.frzs u.tbls (fun m' hm => by
    obtain ⟨o', es', ep', ho', r'⟩ := hm
    rw [ho] at ho'; cases ho'
    exact ⟨_, es', ep', hL, r'⟩) hok hg
theorem Inv.turned {t' : Nat} {it : Addr} (I : Inv X pins σ H s) (k : ∀ b o, b ≠ it -> s.heap.get? b = some o -> h'.get? b = some o) (hn : H it = none) (hL : it ≠ X.env.locals)
    (h1 : it ∈ X.ex \/ X.s₀.heap.objs.size <= it) (h2 : ∀ x c, X.env.cells.lookup x = some c -> c ≠ it) (h3 : ∀ p ∈ X.pn ++ pins, p.1 ≠ it) : Inv X pins σ H { s with heap := h', toks := t' } := by
  have nit : ∀ b u, H b = some u -> b ≠ it := fun b u e z => by rw [z, hn] at e; cases e
  refine I.step (g' := s.gens) (d' := s.drawn) (ch := [it]) (fun b hb => ?_) (fun b o _ _ hc e _ => k b o (fun z => hc (by simp [z])) e) (fun b o _ _ hc e _ => ⟨o.slots, k b o (fun z => hc (by simp [z])) e⟩) (fun _ _ _ _ n => n)
    (fun b o hc e => ⟨o, k b o (fun z => hc (by simp [z])) e⟩) (fun _ _ e => e) (fun _ _ _ e => e) (fun b ps e => ⟨#[], by rw [e]; simp⟩) (fun m hm => ?_) (fun b u e => ?_) I.bare
  . have e : b = it := by simpa using hb
    subst e
    exact ⟨h1, hL, h2, h3⟩
  . obtain ⟨o, es, ep, ho, r⟩ := hm
    exact ⟨o, es, ep, k _ o (Ne.symm hL) ho, r⟩
  . refine (I.hok b u e).stay (fun c v hc q => k c v ?_ q) (fun _ q => q) fun _ _ q => q
    rcases hc with z | z
    . rw [z]; exact nit b u e
    . exact nit c _ z
theorem Inv.tok (I : Inv X pins σ H s) (t : Nat) : Inv X pins σ H { s with toks := t } := I.un (h' := s.heap) (t' := t) Un.refl I.hok
theorem Inv.kept {t' : Nat} (I : Inv X pins σ H s) (k : ∀ b u, s.heap.get? b = some u -> h'.get? b = some u) : Inv X pins σ H { s with heap := h', toks := t' } := I.un (Un.kept k) (I.hok.kept k)
theorem Inv.laid {a : Addr} {o : HO} {t' : Nat} (I : Inv X pins σ H s) (k : ∀ b u, s.heap.get? b = some u -> h'.get? b = some u) (hp : s.heap.objs.size <= a) (new : ObjOk X.prog X.w (upd H a o) h' a o) :
    Inv X pins σ (upd H a o) { s with heap := h', toks := t' } := I.un (Un.laid k hp (I.hok.fresh hp)) (I.hok.laid k hp new)
theorem Inv.write {x e : Addr} {o : HO} {t' : Nat} (I : Inv X pins σ H s) (mu : Mut (H x)) (he : e = x \/ H e = some (.own x)) (k : ∀ b u, b ≠ e -> s.heap.get? b = some u -> h'.get? b = some u) (heo : ∃ u, h'.get? e = some u)
    (new : ObjOk X.prog X.w (upd H x o) h' x o) : Inv X pins σ (upd H x o) { s with heap := h', toks := t' } := I.un (Un.write mu he k heo) (I.hok.write mu he k heo new)
theorem Inv.weak {σ' : List (Option V)} (I : Inv X pins σ H s) (hl : σ'.length = σ.length) (w : ∀ (i : Nat) v, σ'[i]? = some (some v) -> σ[i]? = some (some v)) : Inv X pins σ' H s :=
  ⟨I.ok, I.os, I.bare, I.base, let ⟨m, hn, hl'⟩ := I.loc; ⟨m, hn, fun i x v e1 e2 e3 => hl' i x v e1 (w i v e2) e3⟩, I.cell, I.free, I.freeC, I.pin, I.hok, hl.trans I.len⟩
theorem Inv.pins_of {pins' : List (Addr × Obj)} (I : Inv X pins σ H s) (h : ∀ p ∈ pins', s.heap.get? p.1 = some p.2 /\ H p.1 = none /\ p.1 ≠ X.env.locals /\ p.1 ∉ X.fs /\ ∀ v, p.2.data ≠ .cell v) : Inv X pins' σ H s :=
  ⟨I.ok, I.os, I.bare, I.base, I.loc, I.cell, I.free, I.freeC, fun p hp => (List.mem_append.mp hp).elim (fun z => I.pin p (List.mem_append_left _ z)) (h p), I.hok, I.len⟩
theorem a0m {N : List Str} (hN : N.Nodup) {i j : Nat} {x : Str} (a : N[i]? = some x) (b : N[j]? = some x) : i = j := by
  obtain ⟨h1, e1⟩ := List.getElem?_eq_some_iff.mp a
  obtain ⟨h2, e2⟩ := List.getElem?_eq_some_iff.mp b
  exact (List.getElem_inj hN).mp (e1.trans e2.symm)
theorem W1 {M : Model} {A : Around} {E : Value -> Shared -> Prop} {i : Nat} {x : Str} {v : V} {u : Value} {Q : Unit -> Shared -> Prop} (I : Inv X pins σ H s) (hN : X.N.Nodup) (hi : X.N[i]? = some x) (hx : Loc X.env.scope x) (r : RelV v u)
    (h : ∀ s', Inv X pins (σ.set i (some v)) H s' -> (∃ a, Heap.SameBut a s.heap s'.heap /\ (a = X.env.locals \/ X.env.cells.lookup x = some a)) -> Q () s') (hf : X.fn x = true \/ X.env.scope.names.lookup x = some .local := by first | exact .inl rfl | exact .inr rfl | assumption) : wpAny M A (storeName X.env x u) Q E s := by
  obtain ⟨m, hn, hl⟩ := id I.loc
  have hcls : (X.env.scope.kind == .class || (X.env.scope.kind == .module && X.env.locals != X.env.globals)) = false := by rw [I.ok.kind]; rfl
  have hiσ : i < σ.length := by rw [I.len]; exact (List.getElem?_eq_some_iff.mp hi).1
  have cne := I.cne
  have tracked : ∀ {a : Addr} {h' : Heap}, (∃ o, s.heap.get? a = some o /\ H a = none) -> Heap.SameBut a s.heap h' -> HOk X.prog X.w H h' := fun {a h'} ha hs b ob e => by
    obtain ⟨_, _, hfree⟩ := ha
    refine (I.hok b ob e).stay (fun c w' hc q => (hs.2 c ?_).trans q) (fun _ q => q) fun _ _ q => q
    rintro rfl
    rcases hc with rfl | hc
    . rw [hfree] at e; cases e
    . rw [hfree] at hc; cases hc
  rcases hx with hk | hk
  . refine wpAny_storeName_local hk hn (fun h' hn' hs => ?_) hcls
    obtain ⟨oL, _, _, hoL, _⟩ := id hn
    refine h _ ⟨I.ok, I.os, I.bare, ⟨fun b o e n hb hx => ?_, fun b o e n hb hx => ?_, I.base.free, fun b o e hx => ?_, I.base.tups, I.base.frzs, I.base.tbls⟩, ⟨_, hn', fun j y v' e1 e2 e3 => ?_⟩, fun y c e => ?_, I.free, I.freeC, fun p hp => ?_, tracked ⟨oL, hoL, I.free⟩ hs, by simpa using I.len⟩ ⟨_, hs, .inl rfl⟩
    . exact (hs.2 b (Nat.ne_of_lt (Nat.lt_of_lt_of_le (Heap.lt_size e) I.ok.above))).trans (I.base.keep b o e n hb hx)
    . obtain ⟨sl, e1⟩ := I.base.slot b o e n hb hx
      exact ⟨sl, (hs.2 b (Nat.ne_of_lt (Nat.lt_of_lt_of_le (Heap.lt_size e) I.ok.above))).trans e1⟩
    . obtain ⟨o', e1⟩ := I.base.there b o e hx
      exact ⟨o', (hs.2 b (Nat.ne_of_lt (Nat.lt_of_lt_of_le (Heap.lt_size e) I.ok.above))).trans e1⟩
    . by_cases hj : j = i
      . subst hj
        rw [hi] at e1; cases e1
        rw [List.getElem?_set_self hiσ] at e2
        cases e2
        exact ⟨u, r, .inl ⟨hk, by simp⟩⟩
      . rw [List.getElem?_set_ne (Ne.symm hj)] at e2
        obtain ⟨u', r', q⟩ := hl j y v' e1 e2 e3
        refine ⟨u', r', ?_⟩
        rcases q with ⟨k, e⟩ | ⟨k, c, e, z⟩
        . refine .inl ⟨k, ?_⟩
          have : y ≠ x := fun e => hj (a0m hN e1 (e ▸ hi))
          simp [this, e]
        . exact .inr ⟨k, c, e, z.sameBut hs (cne y c e)⟩
    . obtain ⟨w', z⟩ := I.cell y c e
      exact ⟨w', z.sameBut hs (cne y c e)⟩
    . obtain ⟨e, n, ne, nf, d⟩ := I.pin p hp
      exact ⟨(hs.2 p.1 ne).trans e, n, ne, nf, d⟩
  . have hfn : X.fn x = true := by
      rcases hf with z | z
      . exact z
      . rw [z] at hk; cases hk
    obtain ⟨c, hc⟩ := I.ok.has x (.inl hk)
    obtain ⟨w', z⟩ := I.cell x c hc
    refine wpAny_storeName_cell I.ok.kind hk hc z (fun h' hc' hs => ?_)
    obtain ⟨oc, hoc, hocd⟩ := id z
    refine h { s with heap := h' } ⟨I.ok, I.os, I.bare, ⟨fun b o e n hb hx => ?_, fun b o e n hb hx => ?_, I.base.free, fun b o e hx => ?_, I.base.tups, I.base.frzs, I.base.tbls⟩, ⟨m, hn.sameBut hs (Ne.symm (cne x c hc)), fun j y v' e1 e2 e3 => ?_⟩, fun y c' e => ?_, I.free, I.freeC, fun p hp => ?_, tracked ⟨oc, hoc, I.freeC x c hc⟩ hs, by simpa using I.len⟩ ⟨c, hs, .inr hc⟩
    . exact (hs.2 b (Nat.ne_of_lt (Nat.lt_of_lt_of_le (Heap.lt_size e) (I.ok.cab x c hfn hc)))).trans (I.base.keep b o e n hb hx)
    . obtain ⟨sl, e1⟩ := I.base.slot b o e n hb hx
      exact ⟨sl, (hs.2 b (Nat.ne_of_lt (Nat.lt_of_lt_of_le (Heap.lt_size e) (I.ok.cab x c hfn hc)))).trans e1⟩
    . obtain ⟨o', e1⟩ := I.base.there b o e hx
      exact ⟨o', (hs.2 b (Nat.ne_of_lt (Nat.lt_of_lt_of_le (Heap.lt_size e) (I.ok.cab x c hfn hc)))).trans e1⟩
    . by_cases hj : j = i
      . subst hj
        rw [hi] at e1; cases e1
        rw [List.getElem?_set_self hiσ] at e2
        cases e2
        exact ⟨u, r, .inr ⟨.inl hk, c, hc, hc'⟩⟩
      . rw [List.getElem?_set_ne (Ne.symm hj)] at e2
        obtain ⟨u', r', q⟩ := hl j y v' e1 e2 e3
        refine ⟨u', r', ?_⟩
        rcases q with q | ⟨k, c', e, z'⟩
        . exact .inl q
        . refine .inr ⟨k, c', e, z'.sameBut hs ?_⟩
          rintro rfl
          exact hj (a0m hN e1 (I.ok.inj _ _ _ e hc ▸ hi))
    . by_cases hcc : c' = c
      . subst hcc; exact ⟨_, hc'⟩
      . obtain ⟨w2, z2⟩ := I.cell y c' e
        exact ⟨w2, z2.sameBut hs hcc⟩
    . obtain ⟨e, n, ne, nf, d⟩ := I.pin p hp
      refine ⟨(hs.2 p.1 ?_).trans e, n, ne, nf, d⟩
      intro q
      rw [q, hoc] at e
      have q' : oc = p.2 := Option.some.inj e
      exact d w' (by rw [<- q']; exact hocd)
theorem Q9 {M : Model} {A : Around} {E : Value -> Shared -> Prop} {i : Nat} {x : Str} {v : V} {u : Value} {Q : Unit -> Shared -> Prop} (I : Inv X pins σ H s) (hN : X.N.Nodup) (hi : X.N[i]? = some x) (hx : Loc X.env.scope x) (r : RelV v u)
    (h : ∀ s', Inv X pins (σ.set i (some v)) H s' -> Q () s') (hf : X.fn x = true \/ X.env.scope.names.lookup x = some .local := by first | exact .inl rfl | exact .inr rfl | assumption) : wpAny M A (storeName X.env x u) Q E s :=
  W1 I hN hi hx r (fun s' I' _ => h s' I') hf
theorem Inv.call' {s' : Shared} {ch : List Addr} (I : Inv X pins σ H s) (ho : s'.os = s.os) (u : Un (frs X.stack) ch H H' s.heap s'.heap) (hok : HOk X.prog X.w H' s'.heap) (hg : AllBare s'.gens)
    (hch : ∀ b ∈ ch, (b ∈ X.ex \/ X.s₀.heap.objs.size <= b) /\ b ≠ X.env.locals /\ (∀ x c, X.env.cells.lookup x = some c -> c ≠ b) /\ ∀ p ∈ X.pn ++ pins, p.1 ≠ b) : Inv X pins σ H' s' := by
  obtain ⟨h', g', d', t', o'⟩ := s'
  have e : o' = s.os := ho
  subst e
  exact I.call (g' := g') (t' := t') (d' := d') u hok hg hch
end
abbrev XK := Value -> Option Addr -> Hp -> Prop
abbrev St := List (Option V)
abbrev VK := V -> Hp -> Prop
abbrev TE := St -> Hp -> VK -> Prop
abbrev TT := St -> Hp -> (Bool -> Hp -> Prop) -> Prop
abbrev TA := St -> Hp -> (List V -> Hp -> Prop) -> Prop
structure Ends where
  nx : St -> Hp -> Prop
  rt : VK
  bk : St -> Hp -> Prop := fun _ _ => False
  ct : St -> Hp -> Prop := fun _ _ => False
abbrev TS := Ends -> St -> Hp -> Prop
def EP (X : Cx) (pins : List (Addr × Obj)) (σ : St) (Q : VK) (u : Value) (s' : Shared) : Prop := ∃ v H', Inv X pins σ H' s' /\ RelV v u /\ Q v H'
def TP (X : Cx) (pins : List (Addr × Obj)) (σ : St) (Q : Bool -> Hp -> Prop) (b : Bool) (s' : Shared) : Prop := ∃ H', Inv X pins σ H' s' /\ Q b H'
def AP (X : Cx) (pins : List (Addr × Obj)) (σ : St) (Q : List V -> Hp -> Prop) (us : List Value) (s' : Shared) : Prop := ∃ vs H', Inv X pins σ H' s' /\ Vals vs us /\ Q vs H'
def SP (X : Cx) (pins : List (Addr × Obj)) (D : Ends) (f : Flow) (s' : Shared) : Prop :=
  match f with
  | .next => ∃ σ' H', Inv X pins σ' H' s' /\ D.nx σ' H'
  | .brk => ∃ σ' H', Inv X pins σ' H' s' /\ D.bk σ' H'
  | .cont => ∃ σ' H', Inv X pins σ' H' s' /\ D.ct σ' H'
  | .ret u => ∃ v σ' H', Inv X pins σ' H' s' /\ RelV v u /\ D.rt v H'
def PE (X : Cx) (e : Expr) (t : TE) : Prop :=
  ∀ (pins : List (Addr × Obj)) (s : Shared) (σ : St) (H : Hp) (Q : VK), Inv X pins σ H s -> t σ H Q -> wpAny (model X.prog X.w) X.A (eval e X.env) (EP X pins σ Q) X.xe s
def PT (X : Cx) (e : Expr) (t : TT) : Prop :=
  ∀ (pins : List (Addr × Obj)) (s : Shared) (σ : St) (H : Hp) (Q : Bool -> Hp -> Prop), Inv X pins σ H s -> t σ H Q -> wpAny (model X.prog X.w) X.A (isTrue e X.env (eval e X.env)) (TP X pins σ Q) X.xe s
def PW (X : Cx) (e : Expr) (t : TT) : Prop :=
  ∀ (whole : Sem Value) (pins : List (Addr × Obj)) (s : Shared) (σ : St) (H : Hp) (Q : Bool -> Hp -> Prop), Inv X pins σ H s -> t σ H Q -> wpAny (model X.prog X.w) X.A (isTrue e X.env whole) (TP X pins σ Q) X.xe s
theorem PW.pt {X : Cx} {e : Expr} {t : TT} (h : PW X e t) : PT X e t := h _
def PA (X : Cx) (es : List Expr) (t : TA) : Prop :=
  ∀ (pos : Pos) (pins : List (Addr × Obj)) (s : Shared) (σ : St) (H : Hp) (Q : List V -> Hp -> Prop), Inv X pins σ H s -> t σ H Q -> wpAny (model X.prog X.w) X.A (spliced (backTo pos (starEach es X.env))) (AP X pins σ Q) X.xe s
def PS (X : Cx) (st : Stmt) (t : TS) : Prop :=
  ∀ (pins : List (Addr × Obj)) (s : Shared) (σ : St) (H : Hp) (D : Ends), Inv X pins σ H s -> t D σ H -> wpAny (model X.prog X.w) X.A (exec st X.env) (SP X pins D) X.xe s
def PSs (X : Cx) (st : List Stmt) (t : TS) : Prop :=
  ∀ (pins : List (Addr × Obj)) (s : Shared) (σ : St) (H : Hp) (D : Ends), Inv X pins σ H s -> t D σ H -> wpAny (model X.prog X.w) X.A (execs st X.env) (SP X pins D) X.xe s
theorem A6 {α : Type} {t : Sem α} {Q Q' : α -> Shared -> Prop} {M : Model} {A : Around} {E : Value -> Shared -> Prop} {s : Shared} (h : wpAny M A t Q E s) (hQ : ∀ a s, Q a s -> Q' a s) : wpAny M A t Q' E s := wpAny_mono h hQ fun _ _ x => x
end L2
namespace L2
open PySem PySem.Spec PyProof.Rows
section
variable {X : Cx}
theorem bin {a b : Expr} {ta tb : TE} (ha : PE X a ta) (hb : PE X b tb) {pins : List (Addr × Obj)} {s : Shared} {σ : St} {H : Hp} {R : V -> V -> Hp -> Prop} (I : Inv X pins σ H s) (h : ta σ H fun x H1 => tb σ H1 fun y H2 => R x y H2)
    {α : Type} {Q : α -> Shared -> Prop} {f : Value -> Value -> Sem α}
    (hf : ∀ v u s2 x y H2, Inv X pins σ H2 s2 -> RelV x v -> RelV y u -> R x y H2 -> wpAny (model X.prog X.w) X.A (f v u) Q X.xe s2) :
    wpAny (model X.prog X.w) X.A (eval a X.env) (fun v s₁ => wpAny (model X.prog X.w) X.A (eval b X.env) (fun u s₂ => wpAny (model X.prog X.w) X.A (f v u) Q X.xe s₂) X.xe s₁) X.xe s := by
  refine A6 (ha pins s σ H _ I h) fun v s1 ⟨x, H1, I1, r1, q1⟩ => ?_
  refine A6 (hb pins s1 σ H1 _ I1 q1) fun u s2 ⟨y, H2, I2, r2, q2⟩ => ?_
  exact hf v u s2 x y H2 I2 r1 r2 q2
def a8A (i : Nat) : TE := fun σ H Q => ∃ v, σ[i]? = some (some v) /\ Q v H
def tC (v : V) : TE := fun _ H Q => Q v H
theorem a9b {i : Nat} {x : Str} {pos : Pos} (hN : X.N[i]? = some x) (hv : Vis X.env.scope x) (hd : (x == ("__debug__" : Str)) = false := by decide) (hcd : (x == ("__classdict__" : Str)) = false := by decide) : PE X (.Name x pos) (a8A i) := by
  intro pins s σ H Q I h
  obtain ⟨v, e, h⟩ := h
  obtain ⟨m, hn, hl⟩ := I.loc
  obtain ⟨u, r, l⟩ := hl i x v hN e hv
  have fin : EP X pins σ Q u s := ⟨v, H, I, r, h⟩
  rcases l with ⟨hk, hm⟩ | ⟨hk, c, hc, hcell⟩
  . exact wpAny_Name (wpAny_loadName_local I.ok.kind hk hn hm fin) hd
  . rcases hk with hk | hk
    . exact wpAny_Name (wpAny_loadName_cell I.ok.kind hk hc hcell fin) hd
    . exact wpAny_Name (wpAny_loadName_free I.ok.kind hk hc hcell fin hcd) hd
theorem d0 {i j pos} : PE X (.Constant (.int i) j pos) (tC (.int i)) := fun _ _ _ H _ I h => wpAny_Constant_int ⟨.int i, H, I.tok _, ⟨_, rfl⟩, h⟩
theorem a0a {b j pos} : PE X (.Constant (.bool b) j pos) (tC (.bl b)) := fun _ _ _ H _ I h => Constant_bool ⟨.bl b, H, I, rfl, h⟩
theorem B8 {j pos} : PE X (.Constant .none j pos) (tC .non) := fun _ _ _ H _ I h => Constant_none ⟨.non, H, I, rfl, h⟩
theorem t7 {x j pos} : PE X (.Constant (.str x) j pos) (tC (.str x)) := fun _ _ _ H _ I h => Calls.Constant_str ⟨.str x, H, I.tok _, ⟨_, rfl⟩, h⟩
def Gl (X : Cx) (x : Str) : Prop := X.env.kindOf x = some .globalImplicit
theorem P3 {E : Value -> Shared -> Prop} {pins : List (Addr × Obj)} {s : Shared} {σ : St} {H : Hp} {x : Str} {u : Value} {pos : Pos} {Q : Value -> Shared -> Prop} (I : Inv X pins σ H s) (hg : Gl X x) (hm : X.mg x = some u) (h : Q u s)
    (hd : (x == ("__debug__" : Str)) = false := by decide) : wpAny (model X.prog X.w) X.A (eval (.Name x pos) X.env) Q E s :=
  Calls.Name_function_global I.ok.kind hg (Calls.loadGlobal_global (by rw [I.ok.glob]; exact I.mod.glob.keeps I.bk) hm h) hd
theorem a0k {E : Value -> Shared -> Prop} {pins : List (Addr × Obj)} {s : Shared} {σ : St} {H : Hp} {x : Str} {u : Value} {pos : Pos} {Q : Value -> Shared -> Prop} (I : Inv X pins σ H s) (hg : Gl X x) (hm : X.mg x = none) (hv : bootBuiltins x = some u) (h : Q u s)
    (hn : x ≠ "__name__" := by decide) (hd : (x == ("__debug__" : Str)) = false := by decide) : wpAny (model X.prog X.w) X.A (eval (.Name x pos) X.env) Q E s := by
  obtain ⟨mb, h1, h2⟩ := I.mod.blt
  exact Calls.Name_function_global I.ok.kind hg (Calls.loadGlobal_builtin (by rw [I.ok.glob]; exact I.mod.glob.keeps I.bk) hm (by rw [I.ok.blt]; exact h1.keeps I.bk) ((h2 x hn).trans hv) h) hd
theorem A3 {x : Str} {v : V} {u : Value} {pos : Pos} (hg : Gl X x) (hm : X.mg x = some u) (r : RelV v u) (hd : (x == ("__debug__" : Str)) = false := by decide) : PE X (.Name x pos) (tC v) :=
  fun _ _ _ H _ I h => P3 I hg hm ⟨v, H, I, r, h⟩ hd
theorem J4 {x : Str} {v : V} {u : Value} {pos : Pos} (hg : Gl X x) (hm : X.mg x = none) (hv : bootBuiltins x = some u) (r : RelV v u) (hn : x ≠ "__name__" := by decide) (hd : (x == ("__debug__" : Str)) = false := by decide) : PE X (.Name x pos) (tC v) :=
  fun _ _ _ H _ I h => a0k I hg hm hv ⟨v, H, I, r, h⟩ hn hd
variable {a b : Expr} {ta tb : TE} {pos : Pos}
def tB (t : TE) : TT := fun σ H Q => t σ H fun x H1 => ∃ c, x = .bl c /\ Q c H1
theorem M1 {e : Expr} {t : TE} (h : PE X e t) (he : ∀ whole, isTrue e X.env whole = (do let v <- whole; standAt e.pos; holding [v] (truthy v)) := by intro _; rfl) : PT X e (tB t) := by
  intro pins s σ H Q I hw
  refine isTrue_plain (A6 (h pins s σ H _ I hw) fun v s1 ⟨x, H1, I1, r1, q1⟩ => ?_) (he _)
  obtain ⟨d, rfl, q⟩ := q1
  cases r1
  exact wpAny_truthy_bool ⟨H1, I1, q⟩
variable {tA tB' : TT} {S3 : List Expr}
def b1t (t u : TT) : TT := fun σ H Q => t σ H fun c H1 => if c = true then u σ H1 Q else Q false H1
def tOr (t u : TT) : TT := fun σ H Q => t σ H fun c H1 => if c = true then Q true H1 else u σ H1 Q
def b0V (t : TT) : TT := fun σ H Q => t σ H fun c H1 => Q (!c) H1
theorem M7 (ha : PT X a tA) : PW X (.BoolOp .And [a] pos) tA := by
  intro wh pins s σ H Q I h
  refine isTrue_and (A6 (ha pins s σ H Q I h) fun c s1 e => ?_)
  cases c with
  | true => exact isTrue_and_nil e
  | false => exact e
theorem G9 (ha : PT X a tA) : PW X (.BoolOp .Or [a] pos) tA := by
  intro wh pins s σ H Q I h
  refine isTrue_or (A6 (ha pins s σ H Q I h) fun c s1 e => ?_)
  cases c with
  | false => exact isTrue_or_nil e
  | true => exact e
theorem Q6 (ha : PT X a tA) (hb : PW X (.BoolOp .And (b :: S3) pos) tB') : PW X (.BoolOp .And (a :: b :: S3) pos) (b1t tA tB') := by
  intro wh pins s σ H Q I h
  refine isTrue_and (A6 (ha pins s σ H _ I h) fun c s1 ⟨H1, I1, q1⟩ => ?_)
  cases c with
  | true => exact hb wh pins s1 σ H1 Q I1 q1
  | false => exact ⟨H1, I1, q1⟩
theorem K0 (ha : PT X a tA) (hb : PW X (.BoolOp .Or (b :: S3) pos) tB') : PW X (.BoolOp .Or (a :: b :: S3) pos) (tOr tA tB') := by
  intro wh pins s σ H Q I h
  refine isTrue_or (A6 (ha pins s σ H _ I h) fun c s1 ⟨H1, I1, q1⟩ => ?_)
  cases c with
  | true => exact ⟨H1, I1, q1⟩
  | false => exact hb wh pins s1 σ H1 Q I1 q1
theorem G7 (ha : PT X a tA) : PT X (.UnaryOp .Not a pos) (b0V tA) := by
  intro pins s σ H Q I h
  exact isTrue_not (ha pins s σ H (fun c H1 => Q (!c) H1) I h)
def a9Z (ta tb : TE) : TE := fun σ H Q => ta σ H fun x H1 => ∃ c, x = .bl c /\ if c = true then tb σ H1 Q else Q (.bl false) H1
def b0i (ta : TE) : TE := fun σ H Q => ta σ H fun x H1 => ∃ c, x = .bl c /\ Q (.bl (!c)) H1
theorem a2y {op} {t : TE} (h : PE X a t) : PE X (.BoolOp op [a] pos) t := fun pins s σ H Q I hw => BoolOp_one (h pins s σ H Q I hw)
theorem a2H (ha : PE X a ta) (hb : PE X (.BoolOp .And (b :: S3) pos) tb) : PE X (.BoolOp .And (a :: b :: S3) pos) (a9Z ta tb) := by
  intro pins s σ H Q I h
  refine BoolOp_and (A6 (ha pins s σ H _ I h) fun v s1 ⟨x, H1, I1, r1, q1⟩ => ?_)
  obtain ⟨c, rfl, q1⟩ := q1
  cases r1
  refine wpAny_truthy_bool ?_
  cases c with
  | true => exact hb pins s1 σ H1 Q I1 q1
  | false => exact ⟨.bl false, H1, I1, rfl, q1⟩
theorem a4v (ha : PE X a ta) : PE X (.UnaryOp .Not a pos) (b0i ta) := by
  intro pins s σ H Q I h
  refine UnaryOp_ (A6 (ha pins s σ H _ I h) fun v s1 ⟨x, H1, I1, r1, q1⟩ => ?_)
  obtain ⟨c, rfl, q1⟩ := q1
  cases r1
  exact not_of (wpAny_truthy_bool ⟨.bl (!c), H1, I1, rfl, q1⟩)
def tIf (t : TT) (ta tb : TE) : TE := fun σ H Q => t σ H fun c H1 => if c = true then ta σ H1 Q else tb σ H1 Q
theorem V0 {c : Expr} (hc : PT X c tA) (ha : PE X a ta) (hb : PE X b tb) : PE X (.IfExp c a b pos) (tIf tA ta tb) := by
  intro pins s σ H Q I h
  refine wpAny_IfExp (A6 (hc pins s σ H _ I h) fun d s1 ⟨H1, I1, q1⟩ => ?_)
  cases d with
  | true => exact ha pins s1 σ H1 Q I1 q1
  | false => exact hb pins s1 σ H1 Q I1 q1
end
end L2
namespace L2
open PySem PySem.Spec PyProof.Rows
def SqL (K : W.Frag) (H : Hp) (a : Addr) (xs : List V) : Prop :=
  Rd H a (.lst xs) ∨
    ∃ (o : Obj) (its : Array Value) (n : Nat), K.lookup a = some o /\ o.cls = .type "list" /\ o.dict = none /\ o.data = .seq its n /\ its.size <= sizeLine /\ Vals xs its.toList
def SqT (K : W.Frag) (H : Hp) (a : Addr) (xs : List V) : Prop :=
  Rd H a (.tup xs) ∨
    ∃ (o : Obj) (its : Array Value) (n : Nat), K.lookup a = some o /\ o.cls = .type "tuple" /\ o.data = .seq its n /\ its.size <= sizeLine /\ Vals xs its.toList
def b1s : Value -> Option V
  | .none => some .non
  | .bool b => some (.bl b)
  | .int i _ => some (.int i)
  | .str x _ => some (.str x)
  | .bytes b _ => some (.byt b)
  | .float b _ => some (.flt b)
  | .ref a => some (.ref a)
  | .type n => some (.ty n)
  | _ => none
theorem RelV.abs {x : V} {u : Value} (r : RelV x u) : b1s u = some x := by
  cases x with
  | non => cases r; rfl
  | bl _ => cases r; rfl
  | int _ => obtain ⟨t, rfl⟩ := r; rfl
  | str _ => obtain ⟨t, rfl⟩ := r; rfl
  | byt _ => obtain ⟨t, rfl⟩ := r; rfl
  | flt _ => obtain ⟨t, rfl⟩ := r; rfl
  | ref _ => cases r; rfl
  | ty _ => cases r; rfl
theorem RelV.inj {x y : V} {u : Value} (r : RelV x u) (q : RelV y u) : x = y := Option.some.inj (r.abs.symm.trans q.abs)
theorem Vals.inj : ∀ {xs ys : List V} {us : List Value}, Vals xs us -> Vals ys us -> xs = ys
  | _, _, _, .nil, .nil => rfl
  | _, _, _, .cons r t, .cons r' t' => by rw [r.inj r', Vals.inj t t']
section
variable {X : Cx} {pins : List (Addr × Obj)} {σ : St} {H : Hp} {s : Shared} {a : Addr} {xs ys : List V}
theorem SqL.of {K : W.Frag} (h : H a = some (.lst xs)) : SqL K H a xs := .inl (.inl h)
theorem SqT.of {K : W.Frag} (h : H a = some (.tup xs)) : SqT K H a xs := .inl (.inl h)
theorem Inv.list (I : Inv X pins σ H s) (h : SqL X.K H a xs) : ∃ its : List Value, Vals xs its /\ PlainL s.heap a its.toArray /\ xs.length <= sizeLine := by
  rcases h with h | ⟨o, its, n, hk, hc, hd, hs, hz, r⟩
  . obtain ⟨z, its, n, r, e⟩ := h.ok I.hok
    exact ⟨its, r, ⟨_, n, e, rfl, rfl, rfl⟩, z⟩
  . refine ⟨its.toList, r, ⟨o, n, I.kIn a o hk, hc, hd, by simpa using hs⟩, ?_⟩
    have e := r.length
    simp only [Array.length_toList] at e
    omega
theorem Inv.tuple (I : Inv X pins σ H s) (h : SqT X.K H a xs) : ∃ its : List Value, Vals xs its /\ IsTup s.heap a its.toArray /\ xs.length <= sizeLine := by
  rcases h with h | ⟨o, its, n, hk, hc, hs, hz, r⟩
  . obtain ⟨z, its, r, p⟩ := h.ok I.hok
    exact ⟨its, r, p, z⟩
  . refine ⟨its.toList, r, ⟨o, I.kIn a o hk, hc, n, by simpa using hs⟩, ?_⟩
    have e := r.length
    simp only [Array.length_toList] at e
    omega
theorem Inv.list_inj (I : Inv X pins σ H s) (h : SqL X.K H a xs) (h' : SqL X.K H a ys) : xs = ys := by
  obtain ⟨its, r, ⟨o, n, e, _, _, d⟩, _⟩ := I.list h
  obtain ⟨its', r', ⟨o', n', e', _, _, d'⟩, _⟩ := I.list h'
  rw [e] at e'; cases e'
  rw [d] at d'
  injection d' with d1 _
  have : its = its' := by simpa using congrArg Array.toList d1
  subst this
  exact r.inj r'
theorem Inv.tuple_inj (I : Inv X pins σ H s) (h : SqT X.K H a xs) (h' : SqT X.K H a ys) : xs = ys := by
  obtain ⟨its, r, ⟨o, e, _, n, d⟩, _⟩ := I.tuple h
  obtain ⟨its', r', ⟨o', e', _, n', d'⟩, _⟩ := I.tuple h'
  rw [e] at e'; cases e'
  rw [d] at d'
  injection d' with d1 _
  have : its = its' := by simpa using congrArg Array.toList d1
  subst this
  exact r.inj r'
end
abbrev Cx.wish (X : Cx) (E : Value -> Shared -> Prop) : Cx := { X with xe := E }
abbrev Cx.nox (X : Cx) : Cx := X.wish fun _ _ => False
theorem Cx.Ok.wish {X : Cx} (ok : X.Ok) (E : Value -> Shared -> Prop) : (X.wish E).Ok :=
  ⟨ok.mod, ok.kind, ok.glob, ok.blt, ok.above, ok.inj, ok.has, ok.cab, ok.hd, ok.frames, ok.stk, ok.exf, ok.bs, ok.bsz, ok.noex, ok.exfs, ok.funs, ok.frf⟩
theorem Cx.Ok.unwish {X : Cx} {E : Value -> Shared -> Prop} (ok : (X.wish E).Ok) : X.Ok :=
  ⟨ok.mod, ok.kind, ok.glob, ok.blt, ok.above, ok.inj, ok.has, ok.cab, ok.hd, ok.frames, ok.stk, ok.exf, ok.bs, ok.bsz, ok.noex, ok.exfs, ok.funs, ok.frf⟩
section
variable {X : Cx} {pins : List (Addr × Obj)} {σ : St} {H : Hp} {s : Shared} {E : Value -> Shared -> Prop}
theorem Inv.wish (I : Inv X pins σ H s) (E : Value -> Shared -> Prop) : Inv (X.wish E) pins σ H s := ⟨I.ok.wish E, I.os, I.bare, I.base, I.loc, I.cell, I.free, I.freeC, I.pin, I.hok, I.len⟩
theorem Inv.unwish (I : Inv (X.wish E) pins σ H s) : Inv X pins σ H s := ⟨I.ok.unwish, I.os, I.bare, I.base, I.loc, I.cell, I.free, I.freeC, I.pin, I.hok, I.len⟩
theorem SP.unwish {D : Ends} {f : Flow} {s' : Shared} (h : SP (X.wish E) pins D f s') : SP X pins D f s' := by
  cases f with
  | next => obtain ⟨σ', H', I, q⟩ := h; exact ⟨σ', H', I.unwish, q⟩
  | brk => obtain ⟨σ', H', I, q⟩ := h; exact ⟨σ', H', I.unwish, q⟩
  | cont => obtain ⟨σ', H', I, q⟩ := h; exact ⟨σ', H', I.unwish, q⟩
  | ret u => obtain ⟨v, σ', H', I, r, q⟩ := h; exact ⟨v, σ', H', I.unwish, r, q⟩
theorem PSs.nox {st : List Stmt} {t : TS} (h : PSs X.nox st t) : PSs X st t := fun pins s σ H D I hw =>
  wpAny_mono (h pins s σ H D (I.wish _) hw) (fun _ _ q => q.unwish) fun _ _ z => False.elim z
end
section
variable {X : Cx} {st : Stmt} {S3 : List Stmt} {t u : TS} {e : Expr} {te : TE} {pos : Pos}
def b0g : TS := fun D σ H => D.nx σ H
def a7B (t u : TS) : TS := fun D σ H => t { D with nx := u D } σ H
theorem r6 : PSs X [] b0g := fun _ _ σ H _ I h => wpAny_execs_nil ⟨σ, H, I, h⟩
theorem h8 (h1 : PS X st t) (h2 : PSs X S3 u) : PSs X (st :: S3) (a7B t u) := by
  intro pins s σ H D I h
  refine wpAny_execs_cons (A6 (h1 pins s σ H { D with nx := u D } I h) fun f s1 q => ?_)
  cases f with
  | next =>
    obtain ⟨σ', H', I', q⟩ := q
    exact h2 pins s1 σ' H' D I' q
  | ret v => exact q
  | brk => exact q
  | cont => exact q
theorem g0 (h1 : PS X st t) : PSs X [st] t := by
  intro pins s σ H D I h
  refine wpAny_execs_cons (A6 (h1 pins s σ H D I h) fun f s1 q => ?_)
  cases f with
  | next => exact wpAny_execs_nil q
  | ret v => exact q
  | brk => exact q
  | cont => exact q
theorem Inv.quiet {pins : List (Addr × Obj)} {σ : St} {H : Hp} {s : Shared} (I : Inv X pins σ H s) : interactive X.env = false := by simp [interactive, I.ok.kind]
def b0A (te : TE) : TS := fun D σ H => te σ H fun _ H1 => D.nx σ H1
theorem V8 (he : PE X e te) (hs : swapsWith e none pos.line X.env = pure false := by rfl) : PS X (.Expr e pos) (b0A te) := by
  intro pins s σ H D I h
  exact wpAny_Expr_any (A6 (he pins s σ H _ I h) fun v s1 ⟨x, H1, I1, r1, q1⟩ => ⟨σ, H1, I1, q1⟩) I.quiet hs
def b1A (te : TE) : TS := fun D σ H => te σ H D.rt
theorem m6 (he : PE X e te) : PS X (.Return (some e) pos) (b1A te) := by
  intro pins s σ H D I h
  exact wpAny_Return_some (A6 (he pins s σ H _ I h) fun v s1 ⟨x, H1, I1, r1, q1⟩ => ⟨x, σ, H1, I1, r1, q1⟩)
def b0W (c : TT) (t u : TS) : TS := fun D σ H => c σ H fun b H1 => if b = true then t D σ H1 else u D σ H1
theorem u9 {c : Expr} {a b : List Stmt} {tc : TT} (hc : PT X c tc) (ha : PSs X a t) (hb : PSs X b u) : PS X (.If c a b pos) (b0W tc t u) := by
  intro pins s σ H D I h
  refine wpAny_If (A6 (hc pins s σ H _ I h) fun d s1 ⟨H1, I1, q1⟩ => ?_)
  cases d with
  | true => exact ha pins s1 σ H1 D I1 q1
  | false => exact hb pins s1 σ H1 D I1 q1
def a8h : TS := fun _ _ _ => False
theorem a4h {sts : List Stmt} : PSs X sts a8h := fun _ _ _ _ _ _ h => h.elim
end
abbrev TG := V -> St -> Hp -> (St -> Hp -> Prop) -> Prop
abbrev TGs := List V -> St -> Hp -> (St -> Hp -> Prop) -> Prop
def PG (X : Cx) (target : Expr) (t : TG) : Prop :=
  ∀ (pins : List (Addr × Obj)) (s : Shared) (σ : St) (H : Hp) (v : V) (u : Value) (Q : St -> Hp -> Prop), Inv X pins σ H s -> RelV v u -> t v σ H Q →
    wpAny (model X.prog X.w) X.A (assign target X.env u) (fun _ s' => ∃ σ' H', Inv X pins σ' H' s' /\ Q σ' H') X.xe s
def PGs (X : Cx) (ts : List Expr) (t : TGs) : Prop :=
  ∀ (pins : List (Addr × Obj)) (s : Shared) (σ : St) (H : Hp) (vs : List V) (us : List Value) (Q : St -> Hp -> Prop), Inv X pins σ H s -> Vals vs us -> t vs σ H Q →
    wpAny (model X.prog X.w) X.A (assignInOrder ((assignEach ts X.env).map (·.2)) us) (fun _ s' => ∃ σ' H', Inv X pins σ' H' s' /\ Q σ' H') X.xe s
abbrev a8s := V -> V -> V -> Hp -> (Hp -> Prop) -> Prop
def a9T (X : Cx) (t : a8s) : Prop :=
  ∀ (pins : List (Addr × Obj)) (s : Shared) (σ : St) (H : Hp) (o i v : V) (ov iv u : Value) (Q : Hp -> Prop), Inv X pins σ H s -> RelV o ov -> RelV i iv -> RelV v u -> t o i v H Q →
    wpAny (model X.prog X.w) X.A (setItem ov iv u) (fun _ s' => ∃ H', Inv X pins σ H' s' /\ Q H') X.xe s
section
variable {X : Cx} {pos : Pos}
def S8 (i : Nat) : TG := fun v σ H Q => Q (σ.set i (some v)) H
theorem j5 {i : Nat} {x : Str} (hN : X.N.Nodup) (hi : X.N[i]? = some x) (hx : Loc X.env.scope x) (hf : X.fn x = true \/ X.env.scope.names.lookup x = some .local := by first | exact .inl rfl | exact .inr rfl | assumption) : PG X (.Name x pos) (S8 i) := by
  intro pins s σ H v u Q I r h
  exact wpAny_assign_Name (Q9 I hN hi hx r (fun s' I' => ⟨_, H, I', h⟩) hf)
def b0l : TGs := fun vs σ H Q => vs = [] /\ Q σ H
def a4C (t : TG) (u : TGs) : TGs := fun vs σ H Q => ∃ v r, vs = v :: r /\ t v σ H fun σ' H' => u r σ' H' Q
theorem C4 : PGs X [] b0l := by
  intro pins s σ H vs us Q I r h
  obtain ⟨e, h⟩ := h
  subst e
  cases r
  exact assignInOrder_nil ⟨σ, H, I, h⟩
theorem t6 {e : Expr} {es : List Expr} {t : TG} {u : TGs} (h1 : PG X e t) (h2 : PGs X es u)
    (hs : (assignEach (e :: es) X.env).map (·.2) = assign e X.env :: (assignEach es X.env).map (·.2) := by rfl) : PGs X (e :: es) (a4C t u) := by
  intro pins s σ H vs us Q I r h
  obtain ⟨v, vr, e1, h⟩ := h
  subst e1
  cases r with
  | cons r rr =>
    rw [hs]
    refine assignInOrder_cons (A6 (h1 pins s σ H _ _ _ I r h) fun _ s1 ⟨σ1, H1, I1, q1⟩ => ?_)
    exact h2 pins s1 σ1 H1 _ _ Q I1 rr q1
def a8Z (K : W.Frag) (n : Nat) (t : TGs) : TG := fun v σ H Q => ∃ a xs, v = .ref a /\ SqT K H a xs /\ xs.length = n /\ t xs σ H Q
theorem G6 {es : List Expr} {k : Nat} {t : TGs} {n : Nat} (hc : X.calm = true) (h : PGs X es t)
    (hn : (assignEach es X.env).length = n := by rfl) (hst : (assignEach es X.env).findIdx? (·.1) = none := by rfl) : PG X (.Tuple es k pos) (a8Z X.K n t) := by
  intro pins s σ H v u Q I r hw
  obtain ⟨a, xs, e1, hq, hl, hw⟩ := hw
  subst e1
  cases r
  obtain ⟨its, rv, ht, hz⟩ := I.tuple hq
  refine assign_Tuple_tuple (I.ok.hd hc) ht (by simp [hn, <- hl, rv.length]) hst fun h' hx => ?_
  have I1 : Inv X pins σ H { s with heap := h' } := I.kept (t' := s.toks) fun b o e => hx b o (Nat.ne_of_lt (Heap.lt_size e)) e
  exact h pins _ σ H xs _ Q I1 (by simpa using rv) hw
def b0Q (to ti : TE) (t : a8s) : TG := fun v σ H Q => to σ H fun o H1 => ti σ H1 fun i H2 => t o i v H2 fun H3 => Q σ H3
theorem a2B {o i : Expr} {to ti : TE} {t : a8s} (ho : PE X o to) (hi : PE X i ti) (hs : a9T X t)
    (ha : ∀ v, assign (.Subscript o i pos) X.env v = (do
      let ov <- holding [v] (eval o X.env)
      let iv <- holding [v, ov] (eval i X.env)
      standAt pos
      holding [v, ov, iv] (setItem ov iv v)
      release [v, ov, iv] []) := by intro _; rfl) : PG X (.Subscript o i pos) (b0Q to ti t) := by
  intro pins s σ H v u Q I r h
  rw [ha]
  refine wpAny_bind (wpAny_holding (A6 (ho pins s σ H _ I h) fun ov s1 ⟨x, H1, I1, r1, q1⟩ => ?_))
  refine wpAny_bind (wpAny_holding (A6 (hi pins s1 σ H1 _ I1 q1) fun iv s2 ⟨y, H2, I2, r2, q2⟩ => ?_))
  refine wpAny_bind (wpAny_standAt (wpAny_bind (wpAny_holding (A6 (hs pins s2 σ H2 x y v ov iv u _ I2 r1 r2 r q2) fun _ s3 ⟨H3, I3, q3⟩ => ?_))))
  exact wpAny_release ⟨σ, H3, I3, q3⟩
def a0A (te : TE) (g : TG) : TS := fun D σ H => te σ H fun x H1 => g x σ H1 D.nx
theorem E4 {tg e : Expr} {te : TE} {g : TG} (he : PE X e te) (hg : PG X tg g) (hs : swapsWithSole [tg] e pos.line X.env = pure false := by rfl) (hw : swappedStores [tg] e X.env = pure none := by rfl)
    (h1 : (assignEach [tg] X.env).map (·.2) = [assign tg X.env] := by rfl) : PS X (.Assign [tg] e pos) (a0A te g) := by
  intro pins s σ H D I h
  refine wpAny_Assign_stores (A6 (he pins s σ H _ I h) fun v s1 ⟨x, H1, I1, r1, q1⟩ => ?_) hs hw
  rw [h1]
  exact A6 (hg pins s1 σ H1 x v _ I1 r1 q1) fun _ s2 q => q
theorem r9 {i : Nat} {x : Str} {e : Expr} {te : TE} {pos' : Pos} (hN : X.N.Nodup) (hi : X.N[i]? = some x) (hx : Loc X.env.scope x) (he : PE X e te) (hs : swapsWith e (some (.Name x pos')) pos.line X.env = pure false := by rfl) (hf : X.fn x = true \/ X.env.scope.names.lookup x = some .local := by first | exact .inl rfl | exact .inr rfl | assumption) :
    PS X (.Assign [.Name x pos'] e pos) (a0A te (S8 i)) := by
  intro pins s σ H D I h
  refine wpAny_Assign_Name (A6 (he pins s σ H _ I h) fun v s1 ⟨y, H1, I1, r1, q1⟩ => ?_) hs
  exact Q9 I1 hN hi hx r1 (fun s2 I2 => ⟨_, H1, I2, q1⟩) hf
def b1O (i j : Nat) (ta : TA) : TS := fun D σ H => ta σ H fun vs H1 => ∃ v w, vs = [v, w] /\ D.nx ((σ.set i (some v)).set j (some w)) H1
theorem a8q {i j : Nat} {x y : Str} {a b : Expr} {ta : TA} {px py pt : Pos} {kt k2 pt2} (hc : X.calm = true) (hN : X.N.Nodup) (hi : X.N[i]? = some x) (hj : X.N[j]? = some y) (hij : i ≠ j)
    (hx : X.env.scope.names.lookup x = some .local) (hy : X.env.scope.names.lookup y = some .local) (ha : PA X [a, b] ta)
    (hw : swappedStores [.Tuple [.Name x px, .Name y py] kt pt] (.Tuple [a, b] k2 pt2) X.env = pure (some [x, y]))
    (hs : swapsWithSole [.Tuple [.Name x px, .Name y py] kt pt] (.Tuple [a, b] k2 pt2) pos.line X.env = pure false := by rfl) :
    PS X (.Assign [.Tuple [.Name x px, .Name y py] kt pt] (.Tuple [a, b] k2 pt2) pos) (b1O i j ta) := by
  intro pins s σ H D I h
  rw [exec_Assign_arm]
  refine wpAny_bind (wpAny_standAt ?_)
  rw [hs]
  refine wpAny_bind (wpAny_pure ?_)
  rw [if_neg (by decide)]
  refine wpAny_bind (Tuple_ (A6 (ha _ pins s σ H _ I h) fun us s1 ⟨vs, H1, I1, r1, q1⟩ => ?_))
  obtain ⟨v, w, e1, q1⟩ := q1
  subst e1
  obtain ⟨u1, u2, rfl, rv, rw'⟩ : ∃ u1 u2, us = [u1, u2] /\ RelV v u1 /\ RelV w u2 := by
    cases r1 with
    | cons p q =>
      cases q with
      | cons p' q' =>
        cases q'
        exact ⟨_, _, rfl, p, p'⟩
  refine wpAny_newObj_type ?_ (by show 2 <= sizeLine; decide)
  have I2 : Inv X pins σ H1 { s1 with heap := s1.heap.push { cls := .type "tuple", data := .seq [u1, u2].toArray } } := I1.kept (t' := s1.toks) fun b o e => Heap.get?_push_of_some _ e
  rw [hw]
  refine wpAny_bind (wpAny_pure ?_)
  show wpAny (model X.prog X.w) X.A (do rule "assign.swapped-stores"; let items <- unpackItems (.ref s1.heap.objs.size) 2 none; assignInOrder [fun v => bindName X.env y v, fun v => bindName X.env x v] items.reverse; pure Flow.next) _ _ _
  refine wpAny_bind (wpAny_rule (wpAny_bind (unpackItems_tuple (items := #[u1, u2]) (I.ok.hd hc) (IsTup.new s1.heap _) fun h' hx' => ?_)))
  have I3 := I2.kept (h' := h') (t' := s1.toks) fun b o e => hx' b o (Nat.ne_of_lt (Heap.lt_size e)) e
  show wpAny _ _ (assignInOrder [fun v => bindName X.env y v, fun v => bindName X.env x v] [u2, u1] >>= fun _ => pure Flow.next) _ _ _
  refine wpAny_bind (assignInOrder_cons (wpAny_bindName (Q9 I3 hN hj (.inl hy) rw' (fun s2 I4 => ?_) (.inr hy))))
  refine assignInOrder_cons (wpAny_bindName (Q9 I4 hN hi (.inl hx) rv (fun s3 I5 => assignInOrder_nil (wpAny_pure ?_)) (.inr hx)))
  rw [List.set_comm _ _ (Ne.symm hij)] at I5
  exact ⟨_, H1, I5, q1⟩
end
section
variable {X : Cx} {pos : Pos}
def a5I (c : TT) (tb : TS) : TS := fun D σ H => ∃ W : Nat -> St -> Hp -> Prop, (∃ m, W m σ H) /\ ∀ m σ H, W m σ H →
  c σ H fun b H1 => if b = true then ∃ N : St -> Hp -> Prop, (∀ σ' H', N σ' H' -> ∃ m', m' < m /\ W m' σ' H') /\ tb { D with nx := N, ct := N, bk := D.nx } σ H1 else D.nx σ H1
theorem a5l {c : Expr} {body : List Stmt} {tc : TT} {tb : TS} (hp : PassesOwn (model X.prog X.w) X.A X.env X.xe) (hc : PT X c tc) (hb : PSs X body tb) : PS X (.While c body [] pos) (a5I tc tb) := by
  intro pins s σ H D I h
  obtain ⟨W, ⟨m0, w0⟩, turn⟩ := h
  refine wpAny_While (codeAny_whileLoop (fun n s' => ∃ σ' H', Inv X pins σ' H' s' /\ W n σ' H') ?_ m0 ⟨σ, H, I, w0⟩)
  rintro n s1 ⟨σ1, H1, I1, w1⟩
  refine wpAny_passesOwn hp (A6 (hc pins s1 σ1 H1 _ I1 (turn n σ1 H1 w1)) fun b s2 ⟨H2, I2, q2⟩ => ?_)
  cases b with
  | true =>
    obtain ⟨N, hN, q2⟩ := q2
    rw [if_pos rfl]
    refine wpAny_passesOwn hp (A6 (hb pins s2 σ1 H2 _ I2 q2) fun f s3 q3 => ?_)
    cases f with
    | next =>
      obtain ⟨σ3, H3, I3, n3⟩ := q3
      obtain ⟨m', hm, w3⟩ := hN σ3 H3 n3
      exact ⟨m', hm, σ3, H3, I3, w3⟩
    | cont =>
      obtain ⟨σ3, H3, I3, n3⟩ := q3
      obtain ⟨m', hm, w3⟩ := hN σ3 H3 n3
      exact ⟨m', hm, σ3, H3, I3, w3⟩
    | brk => exact q3
    | ret v => exact q3
  | false =>
    rw [if_neg Bool.false_ne_true]
    exact wpAny_execs_nil ⟨σ1, H2, I2, q2⟩
end
structure It where
  go : Nat -> Hp -> Prop
  yld : Nat -> Hp -> V -> Hp -> Prop
  stop : Nat -> Hp -> Prop
def Y3 (X : Cx) (pins : List (Addr × Obj)) (H : Hp) (b : Addr) : Prop :=
  H b = none /\ b ≠ X.env.locals /\ b ∉ X.fs /\ (b ∈ X.ex \/ X.s₀.heap.objs.size <= b) /\ (∀ x c, X.env.cells.lookup x = some c -> c ≠ b) /\ ∀ p ∈ X.pn ++ pins, p.1 ≠ b
theorem Inv.fpOk {X : Cx} {pins : List (Addr × Obj)} {σ : St} {H H' : Hp} {s : Shared} {b : Addr} (I : Inv X pins σ H s) (hb : s.heap.objs.size <= b) (hn : H' b = none) : Y3 X pins H' b := by
  refine ⟨hn, Nat.ne_of_gt (Nat.lt_of_lt_of_le I.lt hb), I.nofs hb, .inr (Nat.le_trans I.sz hb), fun x c e z => ?_, fun p hp z => ?_⟩
  . obtain ⟨v, q⟩ := I.cell x c e
    exact absurd (Nat.lt_of_lt_of_le q.lt (by rw [z]; exact hb)) (Nat.lt_irrefl _)
  . exact absurd (Nat.lt_of_lt_of_le (Heap.lt_size (I.pin p hp).1) (by rw [z]; exact hb)) (Nat.lt_irrefl _)
structure a3O (P : Program) (w : World) (K : W.Frag) (tg : Expr) (J : It) (fp : List Addr) (it : Addr) (tn : Nat -> Heap -> Prop) : Prop where
  mem : it ∈ fp
  obj : ∀ i h, tn i h -> ∀ b ∈ fp, ∃ o, h.get? b = some o /\ ∀ v, o.data ≠ .cell v
  keep : ∀ i h h', tn i h -> (∀ b ∈ fp, ∀ o, h.get? b = some o -> h'.get? b = some o) -> tn i h'
  item : ∀ (X : Cx), X.prog = P -> X.w = w -> X.K = K -> X.calm = true -> ∀ (i : Nat) (pins : List (Addr × Obj)) (s : Shared) (σ : St) (H : Hp) (E : Value -> Shared -> Prop), Inv X pins σ H s -> (∀ b ∈ fp, Y3 X pins H b) -> tn i s.heap -> J.go i H →
    wpAny (model P w) X.A (pyNext (.ref it)) (fun r s1 => ∃ u, r = some u ∧
      wpAny (model P w) X.A (letOwnedTupleGo tg (.ref it) u) (fun _ s2 => ∃ x H', Inv X pins σ H' s2 /\ RelV x u /\ J.yld i H x H' /\ tn (i + 1) s2.heap /\ ∀ b ∈ fp, H' b = none) E s1) E s
  done : ∀ (X : Cx), X.prog = P -> X.w = w -> X.K = K -> X.calm = true -> ∀ (i : Nat) (pins : List (Addr × Obj)) (s : Shared) (σ : St) (H : Hp) (E : Value -> Shared -> Prop), Inv X pins σ H s -> (∀ b ∈ fp, Y3 X pins H b) -> tn i s.heap -> J.stop i H →
    wpAny (model P w) X.A (pyNext (.ref it)) (fun r s1 => r = none /\ Inv X pins σ H s1) E s
  self : ∀ (A : Around) (i : Nat) (s : Shared) (Q : Value -> Shared -> Prop) (E : Value -> Shared -> Prop), tn i s.heap -> Q (.ref it) s -> wpAny (model P w) A (pyIter (.ref it)) Q E s
abbrev TI := St -> Hp -> (It -> Hp -> Prop) -> Prop
def PIE (X : Cx) (pins : List (Addr × Obj)) (σ : St) (tg : Expr) (R : It -> Hp -> Prop) (itv : Value) (s2 : Shared) : Prop :=
  ∃ (it : Addr) (fp : List Addr) (tn : Nat -> Heap -> Prop) (J : It) (H' : Hp), itv = .ref it /\ Inv X pins σ H' s2 /\ a3O X.prog X.w X.K tg J fp it tn /\ tn 0 s2.heap /\ (∀ b ∈ fp, Y3 X pins H' b) /\ R J H'
def PI (X : Cx) (tg iter : Expr) (wi : TI) : Prop :=
  ∀ (pins : List (Addr × Obj)) (s : Shared) (σ : St) (H : Hp) (R : It -> Hp -> Prop), Inv X pins σ H s -> wi σ H R →
    wpAny (model X.prog X.w) X.A (eval iter X.env) (fun v s1 => wpAny (model X.prog X.w) X.A (pyIter v) (PIE X pins σ tg R) X.xe s1) X.xe s
theorem a1S {M : Model} {A : Around} {E : Value -> Shared -> Prop} {s : Shared} {tg : Expr} {it : Addr} {u : Value} {o : Obj} {n : String} {vs : Array Value} {Q : Unit -> Shared -> Prop} (ho : s.heap.get? it = some o) (hc : o.cls = .type n) (hd : o.data = .fields vs)
    (hn : ["enumerate", "zip", "dict_itemiterator", "dict_reverseitemiterator", "odict_iterator", "itertools.zip_longest", "itertools.pairwise"].contains n = false) (hQ : Q () s) : wpAny M A (letOwnedTupleGo tg (.ref it) u) Q E s := by
  unfold letOwnedTupleGo
  cases tg <;> first
    | exact wpAny_pure hQ
    | (cases u <;> first
        | exact wpAny_pure hQ
        | (refine wpAny_bind (wpAny_load ho ?_)
           rw [hc, hd]
           show wpAny M A (if (["enumerate", "zip", "dict_itemiterator", "dict_reverseitemiterator", "odict_iterator", "itertools.zip_longest", "itertools.pairwise"].contains n && vs[0]? == some (rawInt _)) = true then _ else _) Q E s
           rw [if_neg (by intro h; rw [hn, Bool.false_and] at h; cases h)]
           exact wpAny_pure hQ))
def Itl (K : W.Frag) (a : Addr) : It :=
  ⟨fun i H => ∃ xs x, SqL K H a xs /\ xs[i]? = some x, fun i H x H' => H' = H /\ ∀ xs, SqL K H a xs -> xs[i]? = some x, fun i H => ∃ xs, SqL K H a xs /\ xs.length <= i⟩
def Itt (K : W.Frag) (a : Addr) : It :=
  ⟨fun i H => ∃ xs x, SqT K H a xs /\ xs[i]? = some x, fun i H x H' => H' = H /\ ∀ xs, SqT K H a xs -> xs[i]? = some x, fun i H => ∃ xs, SqT K H a xs /\ xs.length <= i⟩
def Itr (lo : Int) (n : Nat) : It := ⟨fun i _ => i < n, fun i H x H' => H' = H /\ x = .int (lo + i), fun i _ => n <= i⟩
theorem a4g {P : Program} {w : World} {K : W.Frag} {tg : Expr} (a it : Addr) : a3O P w K tg (Itl K a) [it] it (fun i h => h.IsListIter it a i) where
  mem := by simp
  obj := fun i h st b hb => by
    have e : b = it := by simpa using hb
    subst e
    obtain ⟨o, e, c, d⟩ := st
    exact ⟨o, e, fun v z => by rw [d] at z; cases z⟩
  keep := fun i h h' st k => st.at fun o e => k it (by simp) o e
  item := by
    intro X hP hw hK hc i pins s σ H E I hf st hg
    subst hP hw hK
    obtain ⟨xs, x, hq, hx⟩ := hg
    obtain ⟨its, rv, p, hz⟩ := I.list hq
    obtain ⟨u, hu, ru⟩ := rv.get hx
    obtain ⟨f0, f1, f2, f3, f4, f5⟩ := hf it (by simp)
    refine wpAny_pyNext_list_item st p.isList (x := u) (by simpa using hu) fun h' st' sb => ?_
    have I1 : Inv X pins σ H { s with heap := h' } := I.turned (t' := s.toks) (fun b o hb e => (sb.2 b hb).trans e) f0 f1 f3 f4 f5
    obtain ⟨o, e, c, d⟩ := id st'
    exact ⟨u, rfl, a1S (s := { s with heap := h' }) e c d (by decide) ⟨x, H, I1, ru, ⟨rfl, fun ys hy => by rw [I.list_inj hy hq]; exact hx⟩, st', fun b hb => (hf b hb).1⟩⟩
  done := by
    intro X hP hw hK hc i pins s σ H E I hf st hg
    subst hP hw hK
    obtain ⟨xs, hq, hx⟩ := hg
    obtain ⟨its, rv, p, hz⟩ := I.list hq
    obtain ⟨f0, f1, f2, f3, f4, f5⟩ := hf it (by simp)
    have hl := rv.length
    exact wpAny_pyNext_list_end (I.ok.hd hc) st p.isList (by simp; omega) fun h' eb => ⟨rfl, I.turned (t' := s.toks) (fun b o hb e => eb b o hb e) f0 f1 f3 f4 f5⟩
  self := fun _ _ _ _ _ st h => wpAny_pyIter_listiter st h
theorem a2T {P : Program} {w : World} {K : W.Frag} {tg : Expr} (a it : Addr) : a3O P w K tg (Itt K a) [it] it (fun i h => h.IsTupleIter it a i) where
  mem := by simp
  obj := fun i h st b hb => by
    have e : b = it := by simpa using hb
    subst e
    obtain ⟨o, e, c, d⟩ := st
    exact ⟨o, e, fun v z => by rw [d] at z; cases z⟩
  keep := fun i h h' st k => st.at fun o e => k it (by simp) o e
  item := by
    intro X hP hw hK hc i pins s σ H E I hf st hg
    subst hP hw hK
    obtain ⟨xs, x, hq, hx⟩ := hg
    obtain ⟨its, rv, p, hz⟩ := I.tuple hq
    obtain ⟨u, hu, ru⟩ := rv.get hx
    obtain ⟨f0, f1, f2, f3, f4, f5⟩ := hf it (by simp)
    refine wpAny_pyNext_tuple_item st (show s.heap.IsTuple a its.toArray from p) (x := u) (by simpa using hu) fun h' st' sb => ?_
    have I1 : Inv X pins σ H { s with heap := h' } := I.turned (t' := s.toks) (fun b o hb e => (sb.2 b hb).trans e) f0 f1 f3 f4 f5
    obtain ⟨o, e, c, d⟩ := id st'
    exact ⟨u, rfl, a1S (s := { s with heap := h' }) e c d (by decide) ⟨x, H, I1, ru, ⟨rfl, fun ys hy => by rw [I.tuple_inj hy hq]; exact hx⟩, st', fun b hb => (hf b hb).1⟩⟩
  done := by
    intro X hP hw hK hc i pins s σ H E I hf st hg
    subst hP hw hK
    obtain ⟨xs, hq, hx⟩ := hg
    obtain ⟨its, rv, p, hz⟩ := I.tuple hq
    obtain ⟨f0, f1, f2, f3, f4, f5⟩ := hf it (by simp)
    have hl := rv.length
    exact wpAny_pyNext_tuple_end (I.ok.hd hc) st (show s.heap.IsTuple a its.toArray from p) (by simp; omega) fun h' eb => ⟨rfl, I.turned (t' := s.toks) (fun b o hb e => eb b o hb e) f0 f1 f3 f4 f5⟩
  self := fun _ _ _ _ _ st h => wpAny_pyIter_tupleiter st h
theorem a2J {P : Program} {w : World} {K : W.Frag} {tg : Expr} (it : Addr) (lo : Int) (n : Nat) : a3O P w K tg (Itr lo n) [it] it (fun i h => IsRangeIter h it (lo + (i : Nat) * 1) ((n : Int) - (i : Nat)) 1) where
  mem := by simp
  obj := fun i h st b hb => by
    have e : b = it := by simpa using hb
    subst e
    exact ⟨_, st, fun v z => by
      have z' : Data.fields _ = Data.cell v := z
      cases z'⟩
  keep := fun i h h' st k => k it (by simp) _ st
  item := by
    intro X hP hw hK hc i pins s σ H E I hf st hg
    subst hP hw hK
    obtain ⟨f0, f1, f2, f3, f4, f5⟩ := hf it (by simp)
    have W := Walks.range (prog := X.prog) (w := X.w) (I.ok.hd hc) it lo 1 n
    refine W.item i s _ _ hg st fun v h' tk hv st' kk => ?_
    obtain ⟨t, rfl⟩ := hv
    have I1 : Inv X pins σ H { s with heap := h', toks := tk } := I.turned (fun b o hb e => kk b o (by simpa using hb) e) f0 f1 f3 f4 f5
    refine ⟨_, rfl, a1S (s := { s with heap := h', toks := tk }) (n := "range_iterator") st' rfl rfl (by decide) ⟨.int (lo + i), H, I1, ⟨t, ?_⟩, ⟨rfl, rfl⟩, st', fun b hb => (hf b hb).1⟩⟩
    rw [Int.mul_one]
  done := by
    intro X hP hw hK hc i pins s σ H E I hf st hg
    subst hP hw hK
    obtain ⟨f0, f1, f2, f3, f4, f5⟩ := hf it (by simp)
    exact wpAny_pyNext_range_end (I.ok.hd hc) st (by have : n <= i := hg; omega) fun h' eb => ⟨rfl, I.turned (t' := s.toks) (fun b o hb e => eb b o hb e) f0 f1 f3 f4 f5⟩
  self := fun _ _ _ _ _ st h => wpAny_pyIter_rangeiter st h
end L2
namespace L2
open PySem PySem.Spec PyProof.Rows
section
variable {X : Cx} {tg : Expr}
def b0y (K : W.Frag) (tl : TE) : TI := fun σ H R => tl σ H fun x H1 => ∃ a, x = .ref a /\ (∃ xs, SqL K H1 a xs) /\ R (Itl K a) H1
def a8b (K : W.Frag) (tl : TE) : TI := fun σ H R => tl σ H fun x H1 => ∃ a, x = .ref a /\ (∃ xs, SqT K H1 a xs) /\ R (Itt K a) H1
theorem C0 {l : Expr} {tl : TE} (hl : PE X l tl) : PI X tg l (b0y X.K tl) := by
  intro pins s σ H R I h
  refine A6 (hl pins s σ H _ I h) fun v s1 ⟨x, H1, I1, r1, q1⟩ => ?_
  obtain ⟨a, e, ⟨xs, hq⟩, q⟩ := q1
  subst e
  cases r1
  obtain ⟨its, rv, p, hz⟩ := I1.list hq
  refine wpAny_pyIter_list p.isList ?_
  refine ⟨s1.heap.objs.size, [s1.heap.objs.size], _, _, H1, rfl, I1.kept (t' := s1.toks) fun b o e => Heap.get?_push_of_some _ e, a4g a _, ⟨_, Heap.get?_push_size _ rfl, rfl, rfl⟩, fun b hb => ?_, q⟩
  have e : b = s1.heap.objs.size := by simpa using hb
  subst e
  exact I1.fpOk (Nat.le_refl _) (I1.hok.fresh (Nat.le_refl _))
theorem O7 {l : Expr} {tl : TE} (hl : PE X l tl) : PI X tg l (a8b X.K tl) := by
  intro pins s σ H R I h
  refine A6 (hl pins s σ H _ I h) fun v s1 ⟨x, H1, I1, r1, q1⟩ => ?_
  obtain ⟨a, e, ⟨xs, hq⟩, q⟩ := q1
  subst e
  cases r1
  obtain ⟨its, rv, p, hz⟩ := I1.tuple hq
  refine wpAny_pyIter_tuple (show s1.heap.IsTuple a its.toArray from p) ?_
  refine ⟨s1.heap.objs.size, [s1.heap.objs.size], _, _, H1, rfl, I1.kept (t' := s1.toks) fun b o e => Heap.get?_push_of_some _ e, a2T a _, ⟨_, Heap.get?_push_size _ rfl, rfl, rfl⟩, fun b hb => ?_, q⟩
  have e : b = s1.heap.objs.size := by simpa using hb
  subst e
  exact I1.fpOk (Nat.le_refl _) (I1.hok.fresh (Nat.le_refl _))
theorem a5a {pins : List (Addr × Obj)} {σ : St} {H : Hp} {s : Shared} {R : It -> Hp -> Prop} {E : Value -> Shared -> Prop} {lo hi : Int} {t u v : Tok} {tk : Nat} (I : Inv X pins σ H s) (h1 : -(2 ^ 62) <= lo) (h2 : lo < 2 ^ 62) (h3 : -(2 ^ 62) <= hi) (h4 : hi < 2 ^ 62)
    (q : R (Itr lo (hi - lo).toNat) H) : wpAny (model X.prog X.w) X.A (pyIter (.ref s.heap.objs.size)) (PIE X pins σ tg R) E { s with heap := s.heap.push { cls := .type "range", data := .fields #[.int lo t, .int hi u, .int 1 v] }, toks := tk } := by
  refine wpAny_pyIter_range (IsRange.new ..) (small_one h1 h2 h3 h4) ?_
  have I1 : Inv X pins σ H { s with heap := s.heap.push { cls := .type "range", data := .fields #[.int lo t, .int hi u, .int 1 v] }, toks := tk } := I.kept fun b o e => Heap.get?_push_of_some _ e
  refine ⟨(s.heap.push { cls := .type "range", data := .fields #[.int lo t, .int hi u, .int 1 v] }).objs.size, [(s.heap.push { cls := .type "range", data := .fields #[.int lo t, .int hi u, .int 1 v] }).objs.size], _, _, H, rfl,
    I1.kept (t' := tk) fun b o e => Heap.get?_push_of_some _ e, a2J _ lo (hi - lo).toNat, ?_, fun b hb => ?_, q⟩
  . have e1 : lo + ((0 : Nat) : Int) * 1 = lo := by simp
    have e2 : (((hi - lo).toNat : Nat) : Int) - ((0 : Nat) : Int) = Builtin.Range.rangeSize lo hi 1 := by rw [rangeSize_one]; split <;> omega
    show IsRangeIter _ _ (lo + ((0 : Nat) : Int) * 1) ((((hi - lo).toNat : Nat) : Int) - ((0 : Nat) : Int)) 1
    rw [e1, e2]
    exact Heap.get?_push_size _ rfl
  . have e : b = (s.heap.push { cls := .type "range", data := .fields #[.int lo t, .int hi u, .int 1 v] }).objs.size := by simpa using hb
    subst e
    exact I1.fpOk (Nat.le_refl _) (I1.hok.fresh (Nat.le_refl _))
def a9Q (ta : TA) : TI := fun σ H R => ta σ H fun vs H1 => ∃ j : Int, vs = [.int j] /\ -(2 ^ 62) <= j /\ j < 2 ^ 62 /\ R (Itr 0 j.toNat) H1
theorem R3 {a : Expr} {ta : TA} {p pos : Pos} (hg : Gl X "range") (hm : X.mg "range" = none) (ha : PA X [a] ta) (hs : starEach [a] X.env = [(false, eval a X.env)] := by rfl) : PI X tg (.Call (.Name "range" p) [a] [] pos) (a9Q ta) := by
  intro pins s σ H R I h
  refine Call_ (a0k I hg hm boot_range (PyProof.Rows.callWith_type1 (A6 (ha pos pins s σ H _ I h) fun us s1 ⟨vs, H1, I1, r1, q1⟩ => ?_) hs rfl))
  obtain ⟨j, e, q1, q2, q⟩ := q1
  subst e
  cases r1 with
  | cons r rr =>
    cases rr
    obtain ⟨t, rfl⟩ := r
    exact call_range_1 (a5a I1 (by omega) (by omega) q1 q2 (by simpa using q))
def b1L (wi : TI) (g : TG) (tb : TS) : TS := fun D σ H => wi σ H fun J H1 => ∃ W : Nat -> Nat -> St -> Hp -> Prop, (∃ m, W 0 m σ H1) /\ ∀ i m σ H, W i m σ H →
  (J.stop i H /\ D.nx σ H) \/ (J.go i H /\ ∃ N : St -> Hp -> Prop, (∀ σ' H', N σ' H' -> ∃ m', m' < m /\ W (i + 1) m' σ' H') /\ ∀ x H', J.yld i H x H' -> g x σ H' fun σ2 H2 => tb { D with nx := N, ct := N, bk := D.nx } σ2 H2)
def a0e (fp : List Addr) (h : Heap) : List (Addr × Obj) := fp.filterMap fun b => (h.get? b).map fun o => (b, o)
theorem O2 {fp : List Addr} {h : Heap} {b : Addr} {o : Obj} (hb : b ∈ fp) (e : h.get? b = some o) : (b, o) ∈ a0e fp h := List.mem_filterMap.mpr ⟨b, hb, by rw [e]; rfl⟩
theorem a3S {fp : List Addr} {h : Heap} {p : Addr × Obj} (hp : p ∈ a0e fp h) : p.1 ∈ fp /\ h.get? p.1 = some p.2 := by
  obtain ⟨b, hb, e⟩ := List.mem_filterMap.mp hp
  cases q : h.get? b with
  | none => rw [q] at e; cases e
  | some o =>
    rw [q] at e
    have e' : (b, o) = p := Option.some.inj e
    subst e'
    exact ⟨hb, q⟩
theorem Inv.pinned {pins : List (Addr × Obj)} {σ : St} {H : Hp} {s : Shared} {fp : List Addr} (I : Inv X pins σ H s) (hf : ∀ b ∈ fp, Y3 X pins H b) (ho : ∀ b ∈ fp, ∃ o, s.heap.get? b = some o /\ ∀ v, o.data ≠ .cell v) : Inv X (pins ++ a0e fp s.heap) σ H s :=
  I.pins_of fun p hp => (List.mem_append.mp hp).elim (fun z => I.pin p (List.mem_append_right _ z)) fun z => by
    obtain ⟨hb, e⟩ := a3S z
    obtain ⟨f0, f1, f2, _⟩ := hf p.1 hb
    obtain ⟨o, e', d⟩ := ho p.1 hb
    rw [e] at e'; cases e'
    exact ⟨e, f0, f1, f2, d⟩
theorem Inv.unpinned {pins pl : List (Addr × Obj)} {σ : St} {H : Hp} {s : Shared} (I : Inv X (pins ++ pl) σ H s) : Inv X pins σ H s := I.pins_of fun p hp => I.pin p (List.mem_append_right _ (List.mem_append_left _ hp))
theorem X1 {iter : Expr} {body : List Stmt} {wi : TI} {g : TG} {tb : TS} {pos : Pos} (hp : PassesOwn (model X.prog X.w) X.A X.env X.xe) (hc : X.calm = true) (hi : PI X tg iter wi) (hg : PG X tg g) (hb : PSs X body tb)
    (hs : ∀ x, foldedSetIterable iter X.env x = pure x := by intro _; rfl) : PS X (.For tg iter body [] pos) (b1L wi g tb) := by
  intro pins s σ H D I h
  refine wpAny_For (A6 (hi pins s σ H _ I h) fun v s1 h1 => A6 h1 fun itv s2 h2 => ?_) hs
  obtain ⟨it, fp, tn, J, H2, e, I2, T, st2, f2, W, ⟨m0, w0⟩, turn⟩ := h2
  subst e
  -- what stays true of the iterator's objects through the loop
  have stat : ∀ {H' : Hp}, (∀ b ∈ fp, H' b = none) -> ∀ b ∈ fp, Y3 X pins H' b := fun hn b hb => ⟨hn b hb, (f2 b hb).2⟩
  refine codeAny_forLoop_any (fun n s' => ∃ i σ' H', Inv X pins σ' H' s' /\ tn i s'.heap /\ (∀ b ∈ fp, H' b = none) /\ W i n σ' H') ?_ m0 ⟨0, σ, H2, I2, st2, fun b hb => (f2 b hb).1, w0⟩
  rintro n s3 ⟨i, σ3, H3, I3, st3, fr3, w3⟩
  rcases turn i n σ3 H3 w3 with ⟨stop, qn⟩ | ⟨go, N, hN, step⟩
  . refine wpAny_passesOwn hp (A6 (T.done X rfl rfl rfl hc i pins s3 σ3 H3 X.xe I3 (stat fr3) st3 stop) fun r s4 ⟨hr, I4⟩ => ?_)
    subst hr
    exact wpAny_execs_nil ⟨σ3, H3, I4, qn⟩
  . refine wpAny_passesOwn hp (A6 (T.item X rfl rfl rfl hc i pins s3 σ3 H3 X.xe I3 (stat fr3) st3 go) fun r s4 ⟨u, hr, h4⟩ => ?_)
    subst hr
    refine wpAny_passesOwn hp (A6 h4 fun _ s5 ⟨x, H5, I5, r5, y5, st5, fr5⟩ => ?_)
    have I5' := I5.pinned (stat fr5) (T.obj _ _ st5)
    refine wpAny_passesOwn hp (A6 (hg _ s5 σ3 H5 x u _ I5' r5 (step x H5 y5)) fun _ s6 ⟨σ6, H6, I6, q6⟩ => ?_)
    refine wpAny_passesOwn hp (A6 (hb _ s6 σ6 H6 _ I6 q6) fun f s7 q7 => ?_)
    have again : ∀ {σ7 : St} {H7 : Hp}, Inv X (pins ++ a0e fp s5.heap) σ7 H7 s7 -> N σ7 H7 -> ∃ m, m < n /\ ∃ i σ' H', Inv X pins σ' H' s7 /\ tn i s7.heap /\ (∀ b ∈ fp, H' b = none) /\ W i m σ' H' := fun {σ7 H7} I7 n7 => by
      obtain ⟨m', hm, w7⟩ := hN σ7 H7 n7
      refine ⟨m', hm, i + 1, σ7, H7, I7.unpinned, T.keep _ _ _ st5 fun b hb o e => (I7.pin (b, o) (List.mem_append_right _ (List.mem_append_right _ (O2 hb e)))).1, fun b hb => ?_, w7⟩
      obtain ⟨o, e, d⟩ := T.obj _ _ st5 b hb
      exact (I7.pin (b, o) (List.mem_append_right _ (List.mem_append_right _ (O2 hb e)))).2.1
    cases f with
    | next => obtain ⟨σ7, H7, I7, n7⟩ := q7; exact again I7 n7
    | cont => obtain ⟨σ7, H7, I7, n7⟩ := q7; exact again I7 n7
    | brk => obtain ⟨σ7, H7, I7, q7⟩ := q7; exact ⟨σ7, H7, I7.unpinned, q7⟩
    | ret v => obtain ⟨x7, σ7, H7, I7, r7, q7⟩ := q7; exact ⟨x7, σ7, H7, I7.unpinned, r7, q7⟩
end
theorem a0o {K : W.Frag} {a : Addr} {xs : List V} {g : TG} {tb : TS} {D : Ends} {σ : St} {H : Hp} (Pv : Nat -> St -> Hp -> Prop) (h0 : Pv 0 σ H) (hl : ∀ i σ H, i <= xs.length -> Pv i σ H -> SqL K H a xs)
    (hs : ∀ i x σ H, xs[i]? = some x -> Pv i σ H -> g x σ H fun σ2 H2 => tb { D with nx := Pv (i + 1), ct := Pv (i + 1), bk := D.nx } σ2 H2) (hd : ∀ σ H, Pv xs.length σ H -> D.nx σ H) :
    ∃ W : Nat -> Nat -> St -> Hp -> Prop, (∃ m, W 0 m σ H) /\ ∀ i m σ H, W i m σ H →
      ((Itl K a).stop i H /\ D.nx σ H) \/ ((Itl K a).go i H /\ ∃ N : St -> Hp -> Prop, (∀ σ' H', N σ' H' -> ∃ m', m' < m /\ W (i + 1) m' σ' H') /\ ∀ x H', (Itl K a).yld i H x H' -> g x σ H' fun σ2 H2 => tb { D with nx := N, ct := N, bk := D.nx } σ2 H2) := by
  refine ⟨fun i m σ H => m = xs.length - i /\ i <= xs.length /\ Pv i σ H, ⟨xs.length, by simp, Nat.zero_le _, h0⟩, ?_⟩
  rintro i m σ H ⟨rfl, hi, p⟩
  have q := hl i σ H hi p
  by_cases hlt : i < xs.length
  . refine .inr ⟨⟨xs, xs[i], q, by simp [hlt]⟩, Pv (i + 1), fun σ' H' p' => ⟨xs.length - (i + 1), by omega, rfl, hlt, p'⟩, fun x H' y => ?_⟩
    obtain ⟨e, y⟩ := y
    subst e
    exact hs i x σ _ (y xs q) p
  . have e : i = xs.length := by omega
    subst e
    exact .inl ⟨⟨xs, q, Nat.le_refl _⟩, hd σ H p⟩
theorem X5 {lo : Int} {n : Nat} {g : TG} {tb : TS} {D : Ends} {σ : St} {H : Hp} (Pv : Nat -> St -> Hp -> Prop) (h0 : Pv 0 σ H)
    (hs : ∀ i σ H, i < n -> Pv i σ H -> g (.int (lo + i)) σ H fun σ2 H2 => tb { D with nx := Pv (i + 1), ct := Pv (i + 1), bk := D.nx } σ2 H2) (hd : ∀ σ H, Pv n σ H -> D.nx σ H) :
    ∃ W : Nat -> Nat -> St -> Hp -> Prop, (∃ m, W 0 m σ H) /\ ∀ i m σ H, W i m σ H →
      ((Itr lo n).stop i H /\ D.nx σ H) \/ ((Itr lo n).go i H /\ ∃ N : St -> Hp -> Prop, (∀ σ' H', N σ' H' -> ∃ m', m' < m /\ W (i + 1) m' σ' H') /\ ∀ x H', (Itr lo n).yld i H x H' -> g x σ H' fun σ2 H2 => tb { D with nx := N, ct := N, bk := D.nx } σ2 H2) := by
  refine ⟨fun i m σ H => m = n - i /\ i <= n /\ Pv i σ H, ⟨n, by simp, Nat.zero_le _, h0⟩, ?_⟩
  rintro i m σ H ⟨rfl, hi, p⟩
  by_cases hlt : i < n
  . refine .inr ⟨hlt, Pv (i + 1), fun σ' H' p' => ⟨n - (i + 1), by omega, rfl, hlt, p'⟩, fun x H' y => ?_⟩
    obtain ⟨e, y⟩ := y
    subst e y
    exact hs i σ _ hlt p
  . have e : i = n := by omega
    subst e
    exact .inl ⟨Nat.le_refl _, hd σ H p⟩
theorem a4V {c : TT} {tb : TS} {D : Ends} {σ : St} {H : Hp} (Pv : St -> Hp -> Prop) (μ : St -> Hp -> Nat) (h0 : Pv σ H)
    (hs : ∀ σ H, Pv σ H -> c σ H fun b H1 => if b = true then tb { D with nx := fun σ' H' => Pv σ' H' /\ μ σ' H' < μ σ H, ct := fun σ' H' => Pv σ' H' /\ μ σ' H' < μ σ H, bk := D.nx } σ H1 else D.nx σ H1)
    (mono : ∀ σ H Q Q', (∀ b H1, Q b H1 -> Q' b H1) -> c σ H Q -> c σ H Q') : a5I c tb D σ H := by
  refine ⟨fun m σ H => m = μ σ H /\ Pv σ H, ⟨_, rfl, h0⟩, ?_⟩
  rintro m σ H ⟨rfl, p⟩
  refine mono σ H _ _ (fun b H1 q => ?_) (hs σ H p)
  cases b with
  | true => exact ⟨_, fun σ' H' ⟨p', l⟩ => ⟨_, l, rfl, p'⟩, q⟩
  | false => exact q
end L2
namespace L2
open PySem PySem.Spec PyProof.Rows
abbrev R2 := V -> V -> Hp -> VK -> Prop
def P6 (X : Cx) (f : Value -> Value -> Sem Value) (r : R2) : Prop :=
  ∀ (pins : List (Addr × Obj)) (s : Shared) (σ : St) (H : Hp) (x y : V) (v u : Value) (Q : VK), Inv X pins σ H s -> RelV x v -> RelV y u -> r x y H Q →
    wpAny (model X.prog X.w) X.A (f v u) (EP X pins σ Q) X.xe s
def G1 (X : Cx) (f : Value) (r : List V -> Hp -> VK -> Prop) : Prop :=
  ∀ (pins : List (Addr × Obj)) (s : Shared) (σ : St) (H : Hp) (xs : List V) (us : List Value) (Q : VK), Inv X pins σ H s -> Vals xs us -> r xs H Q →
    wpAny (model X.prog X.w) X.A (call f us) (EP X pins σ Q) X.xe s
def b0Y (X : Cx) (r : V -> Hp -> (Bool -> Hp -> Prop) -> Prop) : Prop :=
  ∀ (pins : List (Addr × Obj)) (s : Shared) (σ : St) (H : Hp) (x : V) (v : Value) (Q : Bool -> Hp -> Prop), Inv X pins σ H s -> RelV x v -> r x H Q →
    wpAny (model X.prog X.w) X.A (truthy v) (TP X pins σ Q) X.xe s
def tOp (r : R2) (ta tb : TE) : TE := fun σ H Q => ta σ H fun x H1 => tb σ H1 fun y H2 => r x y H2 Q
def rI (C : Int -> Int -> Prop) (g : Int -> Int -> V) : R2 := fun x y H Q => ∃ i j, x = .int i /\ y = .int j /\ C i j /\ Q (g i j) H
def rI0 (g : Int -> Int -> V) : R2 := fun x y H Q => ∃ i j, x = .int i /\ y = .int j /\ Q (g i j) H
section
variable {X : Cx} {a b c : Expr} {ta tb tc : TE} {pos : Pos}
theorem a8V (ha : PE X a ta) (hb : PE X b tb) {pins : List (Addr × Obj)} {s : Shared} {σ : St} {H : Hp} {R : V -> V -> Hp -> Prop} (I : Inv X pins σ H s)
    (h : ta σ H fun x H1 => tb σ H1 fun y H2 => R x y H2) {Q : Value -> Shared -> Prop} {f : Value -> Value -> Sem Value}
    (hf : ∀ v u s2 x y H2, Inv X pins σ H2 s2 -> RelV x v -> RelV y u -> R x y H2 -> wpAny (model X.prog X.w) X.A (f v u) Q X.xe s2) :
    wpAny (model X.prog X.w) X.A (eval a X.env) (fun v s₁ => wpAny (model X.prog X.w) X.A (eval b X.env) (fun u s₂ => wpAny (model X.prog X.w) X.A (f v u) Q X.xe s₂) X.xe s₁) X.xe s := by
  refine A6 (ha pins s σ H _ I h) fun v s1 ⟨x, H1, I1, r1, q1⟩ => ?_
  refine A6 (hb pins s1 σ H1 _ I1 q1) fun u s2 ⟨y, H2, I2, r2, q2⟩ => ?_
  exact hf v u s2 x y H2 I2 r1 r2 q2
theorem j0 {op : Operator} {r : R2} (ho : P6 X (binaryOp op) r) (ha : PE X a ta) (hb : PE X b tb) : PE X (.BinOp a op b pos) (tOp r ta tb) := by
  intro pins s σ H Q I h
  exact wpAny_BinOp (a8V ha hb I h fun v u s2 x y H2 I2 rx ry q => ho pins s2 σ H2 x y v u Q I2 rx ry q)
theorem opI {f : Value -> Value -> Sem Value} {C : Int -> Int -> Prop} {g : Int -> Int -> Int}
    (rule : ∀ (i j : Int) (t u : Tok) (s : Shared) (Q : Value -> Shared -> Prop) (E : Value -> Shared -> Prop), C i j -> Q (.int (g i j) s.toks) { s with toks := s.toks + 1 } -> wpAny (model X.prog X.w) X.A (f (.int i t) (.int j u)) Q E s) :
    P6 X f (rI C fun i j => .int (g i j)) := by
  intro pins s σ H x y v u Q I rx ry h
  obtain ⟨i, j, rfl, rfl, hc, q⟩ := h
  obtain ⟨t, rfl⟩ := rx
  obtain ⟨t', rfl⟩ := ry
  exact rule i j t t' s _ _ hc ⟨.int (g i j), H, I.tok _, ⟨_, rfl⟩, q⟩
theorem a9B {f : Value -> Value -> Sem Value} {g : Int -> Int -> Int}
    (rule : ∀ (i j : Int) (t u : Tok) (s : Shared) (Q : Value -> Shared -> Prop) (E : Value -> Shared -> Prop), Q (.int (g i j) s.toks) { s with toks := s.toks + 1 } -> wpAny (model X.prog X.w) X.A (f (.int i t) (.int j u)) Q E s) :
    P6 X f (rI0 fun i j => .int (g i j)) := by
  intro pins s σ H x y v u Q I rx ry h
  obtain ⟨i, j, rfl, rfl, q⟩ := h
  obtain ⟨t, rfl⟩ := rx
  obtain ⟨t', rfl⟩ := ry
  exact rule i j t t' s _ _ ⟨.int (g i j), H, I.tok _, ⟨_, rfl⟩, q⟩
theorem a6E {f : Value -> Value -> Sem Value} {g : Int -> Int -> Bool}
    (rule : ∀ (i j : Int) (t u : Tok) (s : Shared) (Q : Value -> Shared -> Prop) (E : Value -> Shared -> Prop), Q (.bool (g i j)) s -> wpAny (model X.prog X.w) X.A (f (.int i t) (.int j u)) Q E s) :
    P6 X f (rI0 fun i j => .bl (g i j)) := by
  intro pins s σ H x y v u Q I rx ry h
  obtain ⟨i, j, rfl, rfl, q⟩ := h
  obtain ⟨t, rfl⟩ := rx
  obtain ⟨t', rfl⟩ := ry
  exact rule i j t t' s _ _ ⟨.bl (g i j), H, I, rfl, q⟩
def b1z (i j : Int) : Prop := 0 < j /\ j < 1073741824
def b1e (i j : Int) : Prop := 0 <= j /\ j <= 1000000 /\ i.natAbs < 2 ^ 64
def CMul (i j : Int) : Prop := (-(2 ^ 64) < i /\ i < 2 ^ 64) \/ (-(2 ^ 64) < j /\ j < 2 ^ 64)
theorem CMul.ok {i j : Int} (h : CMul i j) : IntMulOk i j := by
  rcases h with ⟨h1, h2⟩ | ⟨h1, h2⟩
  . exact .of_left (intBits_le_64 h1 h2)
  . exact .of_right (intBits_le_64 h1 h2)
theorem A8 : P6 X (binaryOp .Add) (rI0 fun i j => .int (i + j)) := a9B fun _ _ _ _ _ _ _ q => add_int q
theorem a1w : P6 X (binaryOp .Sub) (rI0 fun i j => .int (i - j)) := a9B fun _ _ _ _ _ _ _ q => sub_int q
theorem K4 : P6 X (binaryOp .Mult) (rI CMul fun i j => .int (i * j)) := opI fun _ _ _ _ _ _ _ hc q => mul_int q hc.ok
theorem J3 : P6 X (binaryOp .FloorDiv) (rI b1z fun i j => .int (i / j)) := opI fun i j _ _ _ _ _ hc q => by
  have h1 : (0 : Int) < j := hc.1
  have h2 : j < 1073741824 := hc.2
  exact floordiv_int (by omega) (by rw [Int.fdiv_eq_ediv_of_nonneg i (by omega)]; exact q) (.inl (PyProof.noPylong_small (by omega)))
theorem t9 : P6 X (binaryOp .Mod) (rI (fun _ j => 0 < j) fun i j => .int (i % j)) := opI fun i j _ _ _ _ _ hc q => by
  have h1 : (0 : Int) < j := hc
  exact mod_int' (by omega) (by rw [Int.fmod_eq_emod_of_nonneg i (by omega)]; exact q)
theorem T9 : P6 X (binaryOp .Pow) (rI b1e fun i j => .int (i ^ j.toNat)) := opI fun _ _ _ _ _ _ _ hc q => pow_int_small hc.1 hc.2.1 hc.2.2 q
end
def a9H : V -> V -> Bool
  | .non, .non => true | .non, .int _ => true | .int _, .non => true | .non, .bl _ => true | .bl _, .non => true | .non, .str _ => true | .str _, .non => true
  | .int _, .int _ => true | .bl _, .bl _ => true | .str _, .str _ => true | .byt _, .byt _ => true
  | .int _, .str _ => true | .str _, .int _ => true | .bl _, .str _ => true | .str _, .bl _ => true
  | _, _ => false
def rEq : R2 := fun x y H Q => a9H x y = true /\ Q (.bl (decide (x = y))) H
def rNe : R2 := fun x y H Q => a9H x y = true /\ Q (.bl (!decide (x = y))) H
theorem a3H {i j : Int} : decide (V.int i = V.int j) = (i == j) := by
  rw [Bool.eq_iff_iff]
  simp
theorem a5P {i j : Bool} : decide (V.bl i = V.bl j) = (i == j) := by
  rw [Bool.eq_iff_iff]
  simp
theorem a3e {i j : Str} : decide (V.str i = V.str j) = (i == j) := by
  rw [Bool.eq_iff_iff]
  simp
theorem a3u {i j : Array UInt8} : decide (V.byt i = V.byt j) = (i.toList == j.toList) := by
  rw [Bool.eq_iff_iff]
  cases i
  cases j
  simp
section
variable {X : Cx} {a b c : Expr} {ta tb tc : TE} {pos : Pos}
theorem w6 {pins : List (Addr × Obj)} {σ : St} {H : Hp} {s : Shared} {Q : VK} {k k' : Bool} (I : Inv X pins σ H s) (q : Q (.bl k) H) (e : k = k') : EP X pins σ Q (.bool k') s := by
  subst e
  exact ⟨.bl k, H, I, rfl, q⟩
theorem G4 : P6 X (compareOp .Eq) rEq := by
  intro pins s σ H x y v u Q I rx ry h
  obtain ⟨hs, q⟩ := h
  cases x with
  | non =>
    cases rx
    cases y with
    | non => cases ry; exact PySem.EqNone.eq_none_none (w6 I q (by simp))
    | bl j => cases ry; exact PySem.EqNone.eq_none_bool (w6 I q (by simp))
    | int j => obtain ⟨t', rfl⟩ := ry; exact PySem.EqNone.eq_none_int (w6 I q (by simp))
    | str j => obtain ⟨t', rfl⟩ := ry; exact PySem.EqNone.eq_none_str (w6 I q (by simp))
    | _ => exact absurd (show false = true from hs) Bool.false_ne_true
  | bl i =>
    cases rx
    cases y with
    | non => cases ry; exact PySem.EqNone.eq_bool_none (w6 I q (by simp))
    | bl j => cases ry; exact eq_bool (w6 I q a5P)
    | str j => obtain ⟨t', rfl⟩ := ry; exact PySem.EqMixed.eq_bool_str (w6 I q (by simp))
    | _ => exact absurd (show false = true from hs) Bool.false_ne_true
  | int i =>
    obtain ⟨t, rfl⟩ := rx
    cases y with
    | non => cases ry; exact PySem.EqNone.eq_int_none (w6 I q (by simp))
    | int j => obtain ⟨t', rfl⟩ := ry; exact eq_int (w6 I q a3H)
    | str j => obtain ⟨t', rfl⟩ := ry; exact PySem.EqMixed.eq_int_str (w6 I q (by simp))
    | _ => exact absurd (show false = true from hs) Bool.false_ne_true
  | str i =>
    obtain ⟨t, rfl⟩ := rx
    cases y with
    | non => cases ry; exact PySem.EqNone.eq_str_none (w6 I q (by simp))
    | bl j => cases ry; exact PySem.EqMixed.eq_str_bool (w6 I q (by simp))
    | int j => obtain ⟨t', rfl⟩ := ry; exact PySem.EqMixed.eq_str_int (w6 I q (by simp))
    | str j => obtain ⟨t', rfl⟩ := ry; exact eq_str (w6 I q a3e)
    | _ => exact absurd (show false = true from hs) Bool.false_ne_true
  | byt i =>
    obtain ⟨t, rfl⟩ := rx
    cases y with
    | byt j => obtain ⟨t', rfl⟩ := ry; exact W.eq_bytes (w6 I q a3u)
    | _ => exact absurd (show false = true from hs) Bool.false_ne_true
  | _ => cases y <;> exact absurd (show false = true from hs) Bool.false_ne_true
theorem S9 : P6 X (compareOp .NotEq) rNe := by
  intro pins s σ H x y v u Q I rx ry h
  obtain ⟨hs, q⟩ := h
  cases x with
  | non =>
    cases rx
    cases y with
    | non => cases ry; exact PySem.EqNone.ne_none_none (w6 I q (by simp))
    | bl j => cases ry; exact PySem.EqNone.ne_none_bool (w6 I q (by simp))
    | int j => obtain ⟨t', rfl⟩ := ry; exact PySem.EqNone.ne_none_int (w6 I q (by simp))
    | str j => obtain ⟨t', rfl⟩ := ry; exact PySem.EqNone.ne_none_str (w6 I q (by simp))
    | _ => exact absurd (show false = true from hs) Bool.false_ne_true
  | bl i =>
    cases rx
    cases y with
    | non => cases ry; exact PySem.EqNone.ne_bool_none (w6 I q (by simp))
    | bl j => cases ry; exact ne_bool (w6 I q (congrArg not a5P))
    | str j => obtain ⟨t', rfl⟩ := ry; exact PySem.EqMixed.ne_bool_str (w6 I q (by simp))
    | _ => exact absurd (show false = true from hs) Bool.false_ne_true
  | int i =>
    obtain ⟨t, rfl⟩ := rx
    cases y with
    | non => cases ry; exact PySem.EqNone.ne_int_none (w6 I q (by simp))
    | int j => obtain ⟨t', rfl⟩ := ry; exact ne_int (w6 I q (congrArg not a3H))
    | str j => obtain ⟨t', rfl⟩ := ry; exact PySem.EqMixed.ne_int_str (w6 I q (by simp))
    | _ => exact absurd (show false = true from hs) Bool.false_ne_true
  | str i =>
    obtain ⟨t, rfl⟩ := rx
    cases y with
    | non => cases ry; exact PySem.EqNone.ne_str_none (w6 I q (by simp))
    | bl j => cases ry; exact PySem.EqMixed.ne_str_bool (w6 I q (by simp))
    | int j => obtain ⟨t', rfl⟩ := ry; exact PySem.EqMixed.ne_str_int (w6 I q (by simp))
    | str j => obtain ⟨t', rfl⟩ := ry; exact ne_str (w6 I q (congrArg not a3e))
    | _ => exact absurd (show false = true from hs) Bool.false_ne_true
  | byt i =>
    obtain ⟨t, rfl⟩ := rx
    cases y with
    | byt j => obtain ⟨t', rfl⟩ := ry; exact W.ne_bytes (w6 I q (congrArg not a3u))
    | _ => exact absurd (show false = true from hs) Bool.false_ne_true
  | _ => cases y <;> exact absurd (show false = true from hs) Bool.false_ne_true
theorem a2h : P6 X (compareOp .Lt) (rI0 fun i j => .bl (decide (i < j))) := a6E fun _ _ _ _ _ _ _ q => lt_int q
theorem S5 : P6 X (compareOp .LtE) (rI0 fun i j => .bl (decide (i <= j))) := a6E fun _ _ _ _ _ _ _ q => le_int q
theorem P5 : P6 X (compareOp .Gt) (rI0 fun i j => .bl (decide (j < i))) := a6E fun _ _ _ _ _ _ _ q => gt_int q
theorem a9y : P6 X (compareOp .GtE) (rI0 fun i j => .bl (decide (j <= i))) := a6E fun _ _ _ _ _ _ _ q => ge_int q
theorem a4n : P6 X (compareOp .In) (fun x y H Q => ∃ i j, x = .str i /\ y = .str j /\ Q (.bl (!(Builtin.Str.occurrences j i 0 j.length 1).isEmpty)) H) := by
  intro pins s σ H x y v u Q I rx ry h
  obtain ⟨i, j, rfl, rfl, q⟩ := h
  obtain ⟨t, rfl⟩ := rx
  obtain ⟨t', rfl⟩ := ry
  exact in_str (w6 I q rfl)
theorem a8f : P6 X (compareOp .Is) (fun x y H Q => y = .non /\ Q (.bl (decide (x = .non))) H) := by
  intro pins s σ H x y v u Q I rx ry h
  obtain ⟨rfl, q⟩ := h
  cases ry
  refine is_none_gen (w6 I q ?_)
  cases x <;> first
    | (cases rx; rfl)
    | (obtain ⟨t, rfl⟩ := rx; rfl)
theorem V4 : P6 X (compareOp .NotIn) (fun x y H Q => ∃ i j, x = .str i /\ y = .str j /\ Q (.bl (!(!(Builtin.Str.occurrences j i 0 j.length 1).isEmpty))) H) := by
  intro pins s σ H x y v u Q I rx ry h
  obtain ⟨i, j, rfl, rfl, q⟩ := h
  obtain ⟨t, rfl⟩ := rx
  obtain ⟨t', rfl⟩ := ry
  exact notIn_str (w6 I q rfl)
theorem o3 (b : Expr) {op : CmpOp} (h : op ≠ .In := by decide) (h2 : op ≠ .NotIn := by decide) : behindInMarks op b = false := by
  have e1 : (op == CmpOp.In) = false := by cases op <;> first | rfl | exact absurd rfl h
  have e2 : (op == CmpOp.NotIn) = false := by cases op <;> first | rfl | exact absurd rfl h2
  cases b <;> simp [behindInMarks, e1, e2]
theorem M4 {op : CmpOp} {r : R2} (ho : P6 X (compareOp op) r) (ha : PE X a ta) (hb : PE X b tb) (hm : behindInMarks op b = false) : PE X (.Compare a [op] [b] pos) (tOp r ta tb) := by
  intro pins s σ H Q I h
  exact wpAny_Compare1 (a8V ha hb I h fun v u s2 x y H2 I2 rx ry q => ho pins s2 σ H2 x y v u Q I2 rx ry q) hm
def a7H (t : TE) : TT := fun σ H Q => t σ H fun x H' => ∃ k, x = .bl k /\ Q k H'
theorem j3 {op : CmpOp} {r : R2} (ho : P6 X (compareOp op) r) (ha : PE X a ta) (hb : PE X b tb) (hm : behindInMarks op b = false) : PT X (.Compare a [op] [b] pos) (a7H (tOp r ta tb)) := by
  intro pins s σ H Q I h
  refine wpAny_isTrue_Compare1 (A6 (ha pins s σ H _ I h) fun v s1 ⟨x, H1, I1, r1, q1⟩ => A6 (hb pins s1 σ H1 _ I1 q1) fun u s2 ⟨y, H2, I2, r2, q2⟩ =>
    A6 (ho pins s2 σ H2 x y v u _ I2 r1 r2 q2) fun c s3 ⟨z, H3, I3, r3, k, e, q3⟩ => ?_) hm
  subst e
  cases r3
  exact wpAny_truthy_bool ⟨H3, I3, q3⟩
def a5m (r r' : R2) (ta tb tc : TE) : TE := fun σ H Q => ta σ H fun x H1 => tb σ H1 fun y H2 => r x y H2 fun z H3 => ∃ k, z = .bl k ∧
  (if k = true then tc σ H3 fun w' H4 => r' y w' H4 Q else Q (.bl false) H3)
theorem a6b {op op' : CmpOp} {r r' : R2} (ho : P6 X (compareOp op) r) (ho' : P6 X (compareOp op') r') (ha : PE X a ta) (hb : PE X b tb) (hc : PE X c tc)
    (hm : lastMarks [op, op'] [b, c] = false := by with_unfolding_all rfl) : PE X (.Compare a [op, op'] [b, c] pos) (a5m r r' ta tb tc) := by
  intro pins s σ H Q I h
  refine Compare_chain (A6 (ha pins s σ H _ I h) fun v s1 ⟨x, H1, I1, r1, q1⟩ => chain_link (A6 (hb pins s1 σ H1 _ I1 q1) fun u s2 ⟨y, H2, I2, r2, q2⟩ =>
    A6 (ho pins s2 σ H2 x y v u _ I2 r1 r2 q2) fun d s3 ⟨z, H3, I3, r3, k, e, q3⟩ => ?_)) hm
  subst e
  cases r3
  refine wpAny_truthy_bool ?_
  cases k with
  | false => exact ite_ff ⟨.bl false, H3, I3, rfl, q3⟩
  | true => exact ite_tt (chain_last (A6 (hc pins s3 σ H3 _ I3 q3) fun w' s4 ⟨z', H4, I4, r4, q4⟩ => ho' pins s4 σ H4 y z' u w' Q I4 r2 r4 q4))
theorem U7 {op op' : CmpOp} {r r' : R2} (ho : P6 X (compareOp op) r) (ho' : P6 X (compareOp op') r') (ha : PE X a ta) (hb : PE X b tb) (hc : PE X c tc)
    (hm : lastMarks [op, op'] [b, c] = false := by with_unfolding_all rfl) : PT X (.Compare a [op, op'] [b, c] pos) (a7H (a5m r r' ta tb tc)) := by
  intro pins s σ H Q I h
  refine isTrue_chain (A6 (ha pins s σ H _ I h) fun v s1 ⟨x, H1, I1, r1, q1⟩ => test_link (A6 (hb pins s1 σ H1 _ I1 q1) fun u s2 ⟨y, H2, I2, r2, q2⟩ =>
    A6 (ho pins s2 σ H2 x y v u _ I2 r1 r2 q2) fun d s3 ⟨z, H3, I3, r3, k, e, q3⟩ => ?_)) hm
  subst e
  cases r3
  refine wpAny_truthy_bool ?_
  cases k with
  | false =>
    obtain ⟨k', e', q'⟩ := q3
    cases e'
    exact ite_ff ⟨H3, I3, q'⟩
  | true =>
    refine ite_tt (test_last (A6 (hc pins s3 σ H3 _ I3 q3) fun w' s4 ⟨z', H4, I4, r4, q4⟩ => A6 (ho' pins s4 σ H4 y z' u w' _ I4 r2 r4 q4) fun d' s5 ⟨z2, H5, I5, r5, k2, e2, q5⟩ => ?_))
    subst e2
    cases r5
    exact wpAny_truthy_bool ⟨H5, I5, q5⟩
def a9L (K : W.Frag) (x : V) (H : Hp) (k : Bool) : Prop :=
  match x with
  | .non => k = false
  | .bl b => k = b
  | .int i => k = (i != 0)
  | .str y => y.length <= sizeLine /\ k = ((y.length : Int) != 0)
  | .byt y => y.size <= sizeLine /\ k = ((y.size : Int) != 0)
  | .ref p => (∃ xs, SqL K H p xs /\ k = !xs.isEmpty) \/ (∃ xs, SqT K H p xs /\ k = !xs.isEmpty) \/ ∃ kvs, H p = some (.dK kvs) /\ k = !kvs.isEmpty
  | _ => False
theorem a2I {κ : Type} {kvs : List (κ × V)} {vs : List (κ × Value)} (r : KV kvs vs) : (!vs.isEmpty) = !kvs.isEmpty := by
  cases r <;> rfl
theorem a0h {xs : List V} {its : List Value} (r : Vals xs its) : (!its.toArray.isEmpty) = !xs.isEmpty := by
  cases r <;> simp
theorem T8 : (sizeLine : Nat) < 2 ^ 63 := by rw [sizeLine_eq]; decide
theorem a9l : b0Y X (fun x H Q => ∃ k, a9L X.K x H k /\ Q k H) := by
  intro pins s σ H x v Q I rx h
  obtain ⟨k, e, q⟩ := h
  have hl := T8
  have hs : sizeLine = 16777216 := sizeLine_eq
  cases x with
  | non =>
    cases rx
    have e' : k = false := e
    subst e'
    exact truthy_none ⟨H, I, q⟩
  | bl b =>
    cases rx
    have e' : k = b := e
    subst e'
    exact wpAny_truthy_bool ⟨H, I, q⟩
  | int i =>
    obtain ⟨t, rfl⟩ := rx
    have e' : k = (i != 0) := e
    subst e'
    exact PySem.P.truthy_int ⟨H, I, q⟩
  | str y =>
    obtain ⟨t, rfl⟩ := rx
    obtain ⟨hy, e'⟩ : y.length <= sizeLine /\ k = ((y.length : Int) != 0) := e
    subst e'
    exact PySem.P.truthy_str (by omega) ⟨H, I.tok _, q⟩
  | byt y =>
    obtain ⟨t, rfl⟩ := rx
    obtain ⟨hy, e'⟩ : y.size <= sizeLine /\ k = ((y.size : Int) != 0) := e
    subst e'
    exact W.truthy_bytes (by omega) ⟨H, I.tok _, q⟩
  | ref p =>
    cases rx
    have e' : (∃ xs, SqL X.K H p xs /\ k = !xs.isEmpty) \/ (∃ xs, SqT X.K H p xs /\ k = !xs.isEmpty) \/ ∃ kvs, H p = some (.dK kvs) /\ k = !kvs.isEmpty := e
    rcases e' with ⟨xs, hx, e'⟩ | ⟨xs, hx, e'⟩ | ⟨kvs, hx, e'⟩
    . subst e'
      obtain ⟨its, r, pl, hz⟩ := I.list hx
      have hlen := r.length
      exact wpAny_truthy_list pl.isList (by simp only [List.size_toArray]; omega) ⟨H, I.tok _, by rw [a0h r]; exact q⟩
    . subst e'
      obtain ⟨its, r, pl, hz⟩ := I.tuple hx
      have hlen := r.length
      exact truthy_tuple pl (by simp only [List.size_toArray]; omega) ⟨H, I.tok _, by rw [a0h r]; exact q⟩
    . subst e'
      obtain ⟨hz, hS, vs, r, m⟩ : kvs.length <= sizeLine /\ (p == sysModules) = false /\ ∃ vs, KV kvs vs /\ s.heap.DictOf (a1B X.prog X.w) p vs := I.hok p _ hx
      have hlen : kvs.length = vs.length := Paired.length r
      exact wpAny_truthy_dict hS m (by omega) ⟨H, I.tok _, by rw [a2I r]; exact q⟩
  | _ => exact (show False from e).elim
theorem a2l (ha : PE X a ta) (he : ∀ whole, isTrue a X.env whole = (do let v <- whole; standAt a.pos; holding [v] (truthy v))) :
    PT X a (fun σ H Q => ta σ H fun x H' => ∃ k, a9L X.K x H' k /\ Q k H') := by
  intro pins s σ H Q I h
  exact isTrue_plain (A6 (ha pins s σ H _ I h) fun v s1 ⟨x, H1, I1, r1, q1⟩ => a9l pins s1 σ H1 x v Q I1 r1 q1) (he _)
theorem C3 : P6 X (binaryOp .Add) (fun x y H Q => ∃ i j, x = .str i /\ y = .str j /\ i.length + j.length <= sizeLine /\ Q (.str (i ++ j)) H) := by
  intro pins s σ H x y v u Q I rx ry h
  obtain ⟨i, j, rfl, rfl, hz, q⟩ := h
  obtain ⟨t, rfl⟩ := rx
  obtain ⟨t', rfl⟩ := ry
  exact add_str (fun t' tk => ⟨.str (i ++ j), H, I.tok _, ⟨_, rfl⟩, q⟩) hz
theorem Q0 {x : V} {us : List Value} (r : Vals [x] us) : ∃ u, us = [u] /\ RelV x u := by
  cases r with
  | cons r1 r2 => cases r2; exact ⟨_, rfl, r1⟩
theorem a0R {x y : V} {us : List Value} (r : Vals [x, y] us) : ∃ u w', us = [u, w'] /\ RelV x u /\ RelV y w' := by
  cases r with
  | cons r1 r2 =>
    cases r2 with
    | cons r3 r4 => cases r4; exact ⟨_, _, rfl, r1, r3⟩
theorem a4i (hc : X.calm = true) : G1 X (.builtin "max") (fun xs H Q => ∃ i j, xs = [.int i, .int j] /\ Q (.int (if j > i then j else i)) H) := by
  intro pins s σ H xs us Q I r h
  obtain ⟨i, j, rfl, q⟩ := h
  obtain ⟨u, w', rfl, ⟨t, rfl⟩, ⟨t', rfl⟩⟩ := a0R r
  refine max_two_ints (I.ok.hd hc) fun h' tk k => ⟨_, H, I.kept k, ?_, q⟩
  by_cases hj : j > i
  . rw [if_pos hj, if_pos hj]; exact ⟨_, rfl⟩
  . rw [if_neg hj, if_neg hj]; exact ⟨_, rfl⟩
theorem R5 (hc : X.calm = true) : G1 X (.builtin "min") (fun xs H Q => ∃ i j, xs = [.int i, .int j] /\ Q (.int (if j < i then j else i)) H) := by
  intro pins s σ H xs us Q I r h
  obtain ⟨i, j, rfl, q⟩ := h
  obtain ⟨u, w', rfl, ⟨t, rfl⟩, ⟨t', rfl⟩⟩ := a0R r
  refine min_two_ints (I.ok.hd hc) fun h' tk k => ⟨_, H, I.kept k, ?_, q⟩
  by_cases hj : j < i
  . rw [if_pos hj, if_pos hj]; exact ⟨_, rfl⟩
  . rw [if_neg hj, if_neg hj]; exact ⟨_, rfl⟩
theorem N8 : G1 X (.type "int") (fun xs H Q => (∃ i, xs = [.int i] /\ Q (.int i) H) \/ ∃ k, xs = [.bl k] /\ Q (.int (if k then 1 else 0)) H) := by
  intro pins s σ H xs us Q I r h
  rcases h with ⟨i, rfl, q⟩ | ⟨k, rfl, q⟩
  . obtain ⟨u, rfl, t, rfl⟩ := Q0 r
    exact call_int_int ⟨.int i, H, I, ⟨_, rfl⟩, q⟩
  . obtain ⟨u, rfl, r1⟩ := Q0 r
    cases r1
    exact call_int_bool ⟨.int (if k then 1 else 0), H, I.tok _, ⟨_, rfl⟩, q⟩
theorem D3 : G1 X (.type "str") (fun xs H Q => ∃ i, xs = [.int i] /\ i.natAbs.log2 < 1920 /\ Q (.str (toString i)) H) := by
  intro pins s σ H xs us Q I r h
  obtain ⟨i, rfl, hz, q⟩ := h
  obtain ⟨u, rfl, t, rfl⟩ := Q0 r
  exact PySem.P.str_of_int hz ⟨.str _, H, I.tok _, ⟨_, rfl⟩, q⟩
def LenV (K : W.Frag) (x : V) (H : Hp) (n : Nat) : Prop :=
  match x with
  | .str y => y.length <= sizeLine /\ n = y.length
  | .byt y => y.size <= sizeLine /\ n = y.size
  | .ref p => (∃ xs, SqL K H p xs /\ n = xs.length) \/ ∃ xs, SqT K H p xs /\ n = xs.length
  | _ => False
end
end L2
namespace L2
open PySem PySem.Spec PyProof.Rows
structure ObjM (h : Heap) (x dx C : Addr) (mA : Str -> Option Value) : Prop where
  obj : h.get? x = some (W.instObj C dx)
  ns : h.Ns1 dx mA
  ne : dx ≠ x
theorem a3T {h : Heap} {dx : Addr} {mA : Str -> Option Value} (n : h.Ns1 dx mA) : ∃ od, h.get? dx = some od /\ ∀ name, W.lookIn name od = some (mA name) := by
  obtain ⟨o, es, ep, ho, hd, hk, _, hm⟩ := n
  refine ⟨o, ho, fun name => ?_⟩
  have e := hm name
  unfold nsFind findBy at e
  rw [<- Array.find?_toList] at e
  unfold W.lookIn
  rw [hd]
  dsimp only
  split
  . rename_i y q
    rw [q] at e
    exact congrArg some e
  . rename_i q
    rw [q] at e
    have a : es.toList.any (·.refKey) = false := by
      rw [List.any_eq_false]
      intro y hy
      obtain ⟨z, t, hkey⟩ := hk y (Array.mem_toList_iff.mp hy)
      simp [DictEntry.refKey, hkey]
    have a' : ¬ es.toList.any (·.refKey) = true := by rw [a]; exact Bool.false_ne_true
    rw [if_neg a']
    exact congrArg some e
theorem ObjM.look {h : Heap} {x dx C : Addr} {mA : Str -> Option Value} (I : ObjM h x dx C mA) : ∃ od, W.InstAt h x (W.instObj C dx) C (some od) /\ ∀ name, W.lookIn name od = some (mA name) :=
  let ⟨od, ho, hl⟩ := a3T I.ns
  ⟨od, ⟨I.obj, rfl, rfl, ho⟩, hl⟩
section
variable {prog : Program} {w : World} {A : Around} {E : Value -> Shared -> Prop} {s : Shared} {K : W.Frag} {x dx C f : Addr} {mA : Str -> Option Value} {name : Str} {v : Value}
theorem a6H {expr : Bool} {Q : Value -> Shared -> Prop} (X : K.In s.heap) (I : ObjM s.heap x dx C mA) (hg : W.plainGet K C name = true) (hh : W.hasDictIn K C = true)
    (ha : W.findIn K (.ref C) name = some none) (hv : mA name = some v) (hv' : W.handedIn v = true) (h : Q v { s with toks := s.toks + 1 }) :
    wpAny (model prog w) A (getAttr (.ref x) name expr) Q E s := by
  obtain ⟨od, J, hl⟩ := I.look
  exact W.get_value X J (W.plainGet_of hg).1 (W.findObj_own hh ha rfl (by rw [hl, hv])) hv' h
theorem a5S {pl : Sem Bool} {Q : Value × List Value -> Shared -> Prop} (X : K.In s.heap) (I : ObjM s.heap x dx C mA) (hg : W.plainGet K C name = true)
    (hf : W.findIn K (.ref C) name = some (some (.ref f))) (ht : W.isFn K (.ref f) = true) (hv : mA name = none) (h : Q (.ref f, [.ref x]) s) :
    wpAny (model prog w) A (getMethod (.ref x) name pl) Q E s := by
  obtain ⟨od, J, hl⟩ := I.look
  exact W.method_fn X J (W.plainGet_of hg).1 (W.plainGet_of hg).2 hf (beq_iff_eq.mp ht) (by show (W.lookIn name od).map (·.isSome) = some false; rw [hl, hv]; rfl) h
theorem a6S {ns : List Str} {Q : Unit -> Shared -> Prop} (X : K.In s.heap) (I : ObjM s.heap x dx C mA)
    (hs : W.findIn K (.ref C) "__setattr__" = some (some (.builtin "object.__setattr__"))) (hp : W.plainOver K C = true) (ht : W.takerIn K C name = some none) (hh : W.hasDictIn K C = true)
    (hw : PySem.Within mA ns) (hsz : ns.length <= sizeLine)
    (h : ∀ h', ObjM h' x dx C (fun y => if y = name then some v else mA y) -> Heap.SameBut dx s.heap h' -> Q () { s with heap := h', toks := s.toks + 2 }) :
    wpAny (model prog w) A (setAttr (.ref x) name v) Q E s := by
  obtain ⟨od, J, hl⟩ := I.look
  refine W.set_plain X J hs (W.osa_open (s := { s with toks := s.toks + 1 }) (r := none) X J hp ht fun b => ?_)
  obtain ⟨cd, hc, hd'⟩ := W.any_some hh
  have hx : s.heap.get? x = some ⟨.ref C, some dx, .plain, #[]⟩ := I.obj
  refine wpAny_bind (wpAny_pure (wpAny_bind (wpAny_bind (wpAny_loadPart hx (wpAny_bind (W.Looks.here (s := { s with toks := s.toks + 1 }) (W.looks_clsIn X hc) ?_))))))
  rw [hd']
  refine wpAny_pure (a := some dx) (wpAny_bind (wpAny_pure (wpAny_bind ?_)))
  refine wpAny_nsSet1 (s := { s with toks := s.toks + 1 }) I.ns fun h' hn2 hs2 => ?_
  obtain ⟨oD, esD, epD, hoD, hdD, hcD⟩ := hn2.count (PySem.Within.cons name v hw)
  refine wpAny_bind (wpAny_lookBehind hoD (by rw [hdD]; exact pastItsLine_dict (Nat.le_trans hcD (by rw [List.length_cons]; omega))) ?_)
  exact wpAny_pure (h _ ⟨(hs2.2 _ (Ne.symm I.ne)).trans I.obj, hn2, I.ne⟩ hs2)
theorem a5T {R : Result -> Shared -> Prop} {vs : List Value} {kw : List (Str × Value)} (X : K.In s.heap) (hm : W.makesIn K C = true)
    (hi : W.findIn K (.ref C) "__init__" = some (some (.ref f))) (hf : W.typeIn K (.ref f) = some (.type "function"))
    (h : codeAny (model prog w) (A.under (.builtin "type.__call__" ⟨.ref C :: vs, kw⟩)) (.call (.ref f) ⟨.ref (s.heap.objs.size + 1) :: vs, kw⟩) (W.InitBack (s.heap.objs.size + 1) R)
      { s with heap := (s.heap.push W.emptyDict).push (W.instObj C s.heap.objs.size) }) :
    codeAny (model prog w) A (.call (.ref C) ⟨vs, kw⟩) R s := by
  obtain ⟨hh, g, d, t, os⟩ := s
  exact W.make_core (W.makes_of X hm) (W.looks_findIn X hi) (fun self => W.bind_fn X self hf) (.inl rfl) h
end
def N4 (f : Str) (v : V) : List (Str × V) -> List (Str × V)
  | [] => [(f, v)]
  | (g, x) :: r => if g = f then (g, v) :: r else (g, x) :: N4 f v r
theorem Y2 (f g : Str) (v : V) : ∀ fs : List (Str × V), (N4 f v fs).lookup g = if g = f then some v else fs.lookup g
  | [] => by
    show List.lookup g [(f, v)] = _
    by_cases h : g = f
    . have hb : (g == f) = true := beq_iff_eq.mpr h
      simp only [List.lookup, hb, if_pos h]
    . have hb : (g == f) = false := beq_eq_false_iff_ne.mpr h
      simp only [List.lookup, hb, if_neg h]
  | (k, x) :: r => by
    have ih := Y2 f g v r
    rw [show N4 f v ((k, x) :: r) = (if k = f then (k, v) :: r else (k, x) :: N4 f v r) from rfl]
    by_cases hk : k = f
    . rw [if_pos hk]
      by_cases h : g = k
      . have hb : (g == k) = true := beq_iff_eq.mpr h
        simp only [List.lookup, hb, if_pos (h.trans hk)]
      . have hb : (g == k) = false := beq_eq_false_iff_ne.mpr h
        simp only [List.lookup, hb, if_neg (fun e : g = f => h (e.trans hk.symm))]
    . rw [if_neg hk]
      by_cases h : g = k
      . have hb : (g == k) = true := beq_iff_eq.mpr h
        simp only [List.lookup, hb, if_neg (fun e : g = f => hk (h.symm.trans e))]
      . have hb : (g == k) = false := beq_eq_false_iff_ne.mpr h
        simp only [List.lookup, hb]
        exact ih
theorem W4 (f : Str) (v : V) : ∀ fs : List (Str × V), f ∈ (N4 f v fs).map (·.1) /\ ∀ g, g ∈ fs.map (·.1) -> g ∈ (N4 f v fs).map (·.1)
  | [] => ⟨by simp [N4], fun g h => by simp at h⟩
  | (k, x) :: r => by
    obtain ⟨i1, i2⟩ := W4 f v r
    rw [show N4 f v ((k, x) :: r) = (if k = f then (k, v) :: r else (k, x) :: N4 f v r) from rfl]
    by_cases hk : k = f
    . rw [if_pos hk]
      subst hk
      exact ⟨by simp, fun g h => by simpa using h⟩
    . rw [if_neg hk]
      refine ⟨?_, fun g h => ?_⟩
      . rw [List.map_cons]
        exact List.mem_cons_of_mem _ i1
      . rw [List.map_cons] at h ⊢
        rcases List.mem_cons.mp h with e | e
        . exact List.mem_cons.mpr (.inl e)
        . exact List.mem_cons_of_mem _ (i2 g e)
theorem Y0 (f : Str) (v : V) : ∀ fs : List (Str × V), (N4 f v fs).length <= fs.length + 1
  | [] => by simp [N4]
  | (k, x) :: r => by
    have ih := Y0 f v r
    rw [show N4 f v ((k, x) :: r) = (if k = f then (k, v) :: r else (k, x) :: N4 f v r) from rfl]
    by_cases hk : k = f
    . rw [if_pos hk, List.length_cons, List.length_cons]; omega
    . rw [if_neg hk, List.length_cons, List.length_cons]; omega
theorem RelO.some_of {v : V} {o : Option Value} (r : RelO (some v) o) : ∃ u, o = some u /\ RelV v u := by
  cases o with
  | none => exact (show False from r).elim
  | some u => exact ⟨u, rfl, r⟩
theorem RelO.none_of {o : Option Value} (r : RelO none o) : o = none := by
  cases o with
  | none => rfl
  | some u => exact (show False from r).elim
theorem a4q {v : V} {u : Value} (r : RelV v u) : W.handedIn u = true := by
  cases v with
  | non => cases (show u = Value.none from r); rfl
  | bl b => cases (show u = Value.bool b from r); rfl
  | int i => obtain ⟨t, e⟩ := (show ∃ t, u = Value.int i t from r); cases e; rfl
  | str x => obtain ⟨t, e⟩ := (show ∃ t, u = Value.str x t from r); cases e; rfl
  | byt b => obtain ⟨t, e⟩ := (show ∃ t, u = Value.bytes b t from r); cases e; rfl
  | flt b => obtain ⟨t, e⟩ := (show ∃ t, u = Value.float b t from r); cases e; rfl
  | ref a => cases (show u = Value.ref a from r); rfl
  | ty n => cases (show u = Value.type n from r); rfl
section
variable {P : Program} {w : World} {H H' : Hp} {h h' : Heap} {a C dx : Addr} {fs fs' : List (Str × V)}
theorem Z1 (hok : HOk P w H h) (e : H a = some (.ins C dx fs)) : ∃ mA, ObjM h a dx C mA /\ (∀ f, RelO (fs.lookup f) (mA f)) /\ PySem.Within mA (fs.map (·.1)) /\ fs.length <= 1000 /\ H dx = some (.own a) := by
  obtain ⟨d, z, ne, ob, mA, n, r, q⟩ := (show ObjOk P w H h a (.ins C dx fs) from hok a _ e)
  exact ⟨mA, ⟨ob, n, ne⟩, r, q, z, d⟩
end
structure Cls (K : W.Frag) (C : Addr) : Prop where
  pg : W.plainGet K C Str.empty = true
  hd : W.hasDictIn K C = true
  po : W.plainOver K C = true
  sa : W.findIn K (.ref C) "__setattr__" = some (some (.builtin "object.__setattr__"))
theorem Cls.get {K : W.Frag} {C : Addr} (c : Cls K C) (f : Str) : W.plainGet K C f = true := c.pg
def NoAttr (K : W.Frag) (C : Addr) (f : Str) : Prop := W.findIn K (.ref C) f = some none
theorem NoAttr.taker {K : W.Frag} {C : Addr} {f : Str} (n : NoAttr K C f) : W.takerIn K C f = some none := by
  unfold W.takerIn
  rw [show W.findIn K (.ref C) f = some none from n]
  rfl
structure Con (K : W.Frag) (C : Addr) (f : Str) (v : V) (u : Value) : Prop where
  at_ : W.findIn K (.ref C) f = some (some u)
  rel : RelV v u
  get : W.specialIn K u "__get__" = some none
  cp : W.copiedNames.contains f = false
structure a5c (K : W.Frag) (C : Addr) (m : Str) (f : Addr) : Prop where
  at_ : W.findIn K (.ref C) m = some (some (.ref f))
  fn : W.isFn K (.ref f) = true
  kp : W.keepIn K (.ref f) = true
section
variable {X : Cx} {pins : List (Addr × Obj)} {σ : St} {H : Hp} {s : Shared} {a C dx : Addr} {fs : List (Str × V)} {f : Str} {v : V} {A : Around} {E : Value -> Shared -> Prop}
theorem a2R {b : Bool} {Q : Value -> Shared -> Prop} (I : Inv X pins σ H s) (e : H a = some (.ins C dx fs)) (c : Cls X.K C) (n : NoAttr X.K C f) (l : fs.lookup f = some v)
    (h : ∀ u s', Inv X pins σ H s' -> RelV v u -> Q u s') : wpAny (model X.prog X.w) A (getAttr (.ref a) f b) Q E s := by
  obtain ⟨mA, O, r, _, _, _⟩ := Z1 I.hok e
  obtain ⟨u, hu, ru⟩ := RelO.some_of (v := v) (o := mA f) (by rw [<- l]; exact r f)
  exact a6H I.kIn O (c.get f) c.hd n hu (a4q ru) (h u _ (I.tok _) ru)
theorem a0u {m : Str} {g : Addr} {pl : Sem Bool} {Q : Value × List Value -> Shared -> Prop} (I : Inv X pins σ H s) (e : H a = some (.ins C dx fs)) (c : Cls X.K C) (k : a5c X.K C m g) (l : fs.lookup m = none)
    (h : Q (.ref g, [.ref a]) s) : wpAny (model X.prog X.w) A (getMethod (.ref a) m pl) Q E s := by
  obtain ⟨mA, O, r, _, _, _⟩ := Z1 I.hok e
  have hn : mA m = none := RelO.none_of (by rw [<- l]; exact r m)
  exact a5S I.kIn O (c.get m) k.at_ k.fn hn h
theorem a0r {y : V} {u : Value} {Q : Unit -> Shared -> Prop} (I : Inv X pins σ H s) (e : H a = some (.ins C dx fs)) (c : Cls X.K C) (n : NoAttr X.K C f) (hl : fs.length < 1000) (ry : RelV y u)
    (h : ∀ s', Inv X pins σ (upd H a (.ins C dx (N4 f y fs))) s' -> Q () s') : wpAny (model X.prog X.w) A (setAttr (.ref a) f u) Q E s := by
  obtain ⟨mA, O, r, wi, _, ho⟩ := Z1 I.hok e
  have hz : (fs.map (·.1)).length <= sizeLine := by rw [List.length_map, sizeLine_eq]; omega
  refine a6S I.kIn O c.sa c.po n.taker c.hd wi hz fun h' O' sb => h _ ?_
  have hd : ∃ o, h'.get? dx = some o := let ⟨o, _, _, e', _⟩ := O'.ns; ⟨o, e'⟩
  refine I.write (x := a) (e := dx) (by rw [e]; exact True.intro) (.inr ho) (fun b q hb z => (sb.2 b hb).trans z) hd ?_
  refine ⟨by rw [j6 O.ne]; exact ho, ?_, O.ne, O'.obj, _, O'.ns, fun g => ?_, fun g hg => ?_⟩
  . have := Y0 f y fs; omega
  . show RelO ((N4 f y fs).lookup g) (if g = f then some u else mA g)
    rw [Y2]
    by_cases q : g = f
    . rw [if_pos q, if_pos q]; exact ry
    . rw [if_neg q, if_neg q]; exact r g
  . by_cases q : g = f
    . rw [q]; exact (W4 f y fs).1
    . refine (W4 f y fs).2 g (wi g fun z => hg ?_)
      show (if g = f then some u else mA g) = none
      rw [if_neg q]; exact z
theorem Inv.made (I : Inv X pins σ H s) : Inv X pins σ (upd (upd H s.heap.objs.size (.own (s.heap.objs.size + 1))) (s.heap.objs.size + 1) (.ins C s.heap.objs.size []))
    { s with heap := (s.heap.push W.emptyDict).push (W.instObj C s.heap.objs.size) } := by
  have e1 : (s.heap.push W.emptyDict).get? s.heap.objs.size = some W.emptyDict := Heap.get?_push_size s.heap rfl
  have e2 : ((s.heap.push W.emptyDict).push (W.instObj C s.heap.objs.size)).get? (s.heap.objs.size + 1) = some (W.instObj C s.heap.objs.size) := by
    have := Heap.get?_push_size (s.heap.push W.emptyDict) (o := W.instObj C s.heap.objs.size) rfl
    rwa [Heap.size_push] at this
  have e3 : (s.heap.push W.emptyDict).Ns s.heap.objs.size (fun _ => none) := ⟨W.emptyDict, #[], _, e1, rfl, (fun e he => absurd he (by simp)), fun _ => rfl⟩
  have I1 := I.laid (a := s.heap.objs.size) (o := .own (s.heap.objs.size + 1)) (h' := s.heap.push W.emptyDict) (t' := s.toks) (fun b u q => Heap.get?_push_of_some _ q) (Nat.le_refl _) ⟨_, e1⟩
  refine I1.laid (a := s.heap.objs.size + 1) (o := .ins C s.heap.objs.size []) (t' := s.toks) (fun b u q => Heap.get?_push_of_some _ q) (Nat.le_of_eq (Heap.size_push _ _)) ?_
  have ne : s.heap.objs.size ≠ s.heap.objs.size + 1 := Nat.ne_of_lt (Nat.lt_succ_self _)
  refine ⟨by rw [j6 ne, c6], Nat.zero_le _, ne, e2, fun _ => none, (Heap.Ns1.of_empty e3).at fun o q => Heap.get?_push_of_some _ q, fun _ => True.intro, fun y hy => absurd rfl hy⟩
theorem a7z {prog : Program} {w : World} {env : Env} {e : Expr} {f : Str} {pos : Pos} {s : Shared} {Q : Value -> Shared -> Prop} (hb : attributeBase e f env (eval e env) = eval e env)
    (h : wpAny (model prog w) A (eval e env) (fun o s₁ => wpAny (model prog w) A (getAttr o f true) Q E s₁) E s) : wpAny (model prog w) A (eval (.Attribute e f pos) env) Q E s :=
  Attribute_any_ h (by rw [arm_eval_Attribute, hb])
end
def b1q (K : W.Frag) (ta : TE) (f : Str) : TE := fun σ H Q => ta σ H fun x H1 => ∃ a C dx fs v, x = .ref a /\ H1 a = some (.ins C dx fs) /\ Cls K C /\ NoAttr K C f /\ fs.lookup f = some v /\ Q v H1
def b0S (K : W.Frag) (ta tv : TE) (f : Str) : TS := fun D σ H => tv σ H fun y H1 => ta σ H1 fun x H2 => ∃ a C dx fs, x = .ref a /\ H2 a = some (.ins C dx fs) /\ Cls K C /\ NoAttr K C f /\ fs.length < 1000 ∧
  D.nx σ (upd H2 a (.ins C dx (N4 f y fs)))
section
variable {X : Cx} {o e value : Expr} {f : Str} {pos pos' tpos : Pos} {ta tv : TE}
theorem O3 (he : PE X e ta) (hb : attributeBase e f X.env (eval e X.env) = eval e X.env) : PE X (.Attribute e f pos) (b1q X.K ta f) := by
  intro pins s σ H Q I h
  refine a7z hb (A6 (he pins s σ H _ I h) fun u s1 ⟨x, H1, I1, rx, a, C, dx, fs, v, ex, ea, c, n, l, q⟩ => ?_)
  subst ex
  obtain rfl : u = Value.ref a := rx
  exact a2R I1 ea c n l fun u' s2 I2 ru => ⟨v, H1, I2, ru, q⟩
theorem a2Z (ha : PE X o ta) (hv : PE X value tv) (hs : swapsWith value (some (.Attribute o f pos')) pos.line X.env = pure false) : PS X (.Assign [.Attribute o f pos'] value pos) (b0S X.K ta tv f) := by
  intro pins s σ H D I h
  refine plainObj_wpAny_Assign_Attribute (A6 (hv pins s σ H _ I h) fun u s1 ⟨y, H1, I1, ry, q⟩ => A6 (ha pins s1 σ H1 _ I1 q) fun ov s2 ⟨x, H2, I2, rx, a, C, dx, fs, ex, ea, c, n, l, q2⟩ => ?_) hs
  subst ex
  obtain rfl : ov = Value.ref a := rx
  exact a0r I2 ea c n l ry fun s3 I3 => ⟨σ, _, I3, q2⟩
end
section
variable {X : Cx} {pins : List (Addr × Obj)} {σ : St} {H : Hp} {s : Shared} {A : Around} {E : Value -> Shared -> Prop} {Q : Value -> Shared -> Prop} {c : Value} {b : Bool}
inductive W5 (K : W.Frag) (H : Hp) : V -> Value -> Prop where
  | non : W5 K H .non (.type "NoneType")
  | bl (x : Bool) : W5 K H (.bl x) (.type "bool")
  | int (i : Int) : W5 K H (.int i) (.type "int")
  | str (x : Str) : W5 K H (.str x) (.type "str")
  | flt (x : UInt64) : W5 K H (.flt x) (.type "float")
  | lst {a : Addr} {xs : List V} (e : H a = some (.lst xs)) : W5 K H (.ref a) (.type "list")
  | frz {a : Addr} {o : Obj} {xs : List V} (e : H a = some (.frz o (.lst xs))) : W5 K H (.ref a) (.type "list")
  | tup {a : Addr} {xs : List V} (e : H a = some (.tup xs)) : W5 K H (.ref a) (.type "tuple")
  | dK {a : Addr} {kvs : List (Key × V)} (e : H a = some (.dK kvs)) : W5 K H (.ref a) (.type "dict")
  | dT {a : Addr} {kvs : List (List Key × V)} (e : H a = some (.dT kvs)) : W5 K H (.ref a) (.type "dict")
  | ins {a C dx : Addr} {fs : List (Str × V)} (e : H a = some (.ins C dx fs)) (cl : Cls K C) (ha : W.findIn K (.ref C) "__class__" = some (some (.builtin "object.__class__")))
      (hn : W.specialIn K (.builtin "object.__class__") "__get__" = some (some (.builtin "getset_descriptor.__get__"))) (htk : W.takesIn K (.builtin "object.__class__") = some true)
      (hm : W.mroIn K C (.type "object") = some true) : W5 K H (.ref a) (.ref C)
theorem a3W {x : V} {u t : Value} (I : Inv X pins σ H s) (rx : RelV x u) (ty : W5 X.K H x t) (e : W.kitOne X.K t c = some b) (h : ∀ tk, Q (.bool b) { s with toks := tk }) :
    wpAny (model X.prog X.w) A (call (.builtin "isinstance") [u, c]) Q E s := by
  cases ty with
  | non => cases (show u = Value.none from rx); exact W.kia_one W.kitx_none I.kIn True.intro e (fun z => nomatch z) h
  | bl y => cases (show u = Value.bool y from rx); exact W.kia_one W.kitx_bool I.kIn True.intro e (fun z => nomatch z) h
  | int i => obtain ⟨t, q⟩ := (show ∃ t, u = Value.int i t from rx); cases q; exact W.kia_one W.kitx_int I.kIn True.intro e (fun z => nomatch z) h
  | str y => obtain ⟨t, q⟩ := (show ∃ t, u = Value.str y t from rx); cases q; exact W.kia_one W.kitx_str I.kIn True.intro e (fun z => nomatch z) h
  | flt y => obtain ⟨t, q⟩ := (show ∃ t, u = Value.float y t from rx); cases q; exact W.kia_one W.kitx_float I.kIn True.intro e (fun z => nomatch z) h
  | @lst a xs ea =>
    cases (show u = Value.ref a from rx)
    obtain ⟨_, _, n, _, h1⟩ := (show ObjOk X.prog X.w H s.heap a (.lst xs) from I.hok a _ ea)
    exact W.kia_one W.kitx_list I.kIn ⟨_, h1, rfl⟩ e (fun z => nomatch z) h
  | @frz a ob xs ea =>
    cases (show u = Value.ref a from rx)
    obtain ⟨_, _, _, n, _, h1⟩ := (show ObjOk X.prog X.w H s.heap a (.frz ob (.lst xs)) from I.hok a _ ea)
    exact W.kia_one W.kitx_list I.kIn ⟨_, h1, rfl⟩ e (fun z => nomatch z) h
  | @tup a xs ea =>
    cases (show u = Value.ref a from rx)
    obtain ⟨_, _, _, p⟩ := (show ObjOk X.prog X.w H s.heap a (.tup xs) from I.hok a _ ea)
    obtain ⟨o, h1, h2, _⟩ := p
    exact W.kia_one W.kitx_tuple I.kIn ⟨o, h1, h2⟩ e (fun z => nomatch z) h
  | @dK a kvs ea =>
    cases (show u = Value.ref a from rx)
    obtain ⟨_, _, vs, _, p⟩ := (show ObjOk X.prog X.w H s.heap a (.dK kvs) from I.hok a _ ea)
    obtain ⟨o, es, ep, h1, h2, _⟩ := p
    exact W.kia_one W.kitx_dict I.kIn ⟨o, h1, h2.1⟩ e (fun z => nomatch z) h
  | @dT a kvs ea =>
    cases (show u = Value.ref a from rx)
    obtain ⟨_, _, xs, _, o, es, ep, h1, h2, _⟩ := (show ObjOk X.prog X.w H s.heap a (.dT kvs) from I.hok a _ ea)
    exact W.kia_one W.kitx_dict I.kIn ⟨o, h1, h2.1⟩ e (fun z => nomatch z) h
  | @ins a C dx fs ea cl ha hn htk hm =>
    cases (show u = Value.ref a from rx)
    obtain ⟨mA, O, _⟩ := Z1 I.hok ea
    obtain ⟨od, J, _⟩ := O.look
    exact W.kia_one (W.kitx_own (cl.get _) cl.hd ha hn htk hm) I.kIn J e (fun z => nomatch z) h
end
end L2
namespace L2
open PySem PySem.Spec PyProof.Rows
structure Room (k : Nat) (A : Around) : Prop where
  hd : A.handled = none
  dp : A.depth + 3 * k + 5 < recursionLimit
  un : A.units + 16 * k + 200 < cLine
theorem Room.deeper {k : Nat} {A : Around} (r : Room (k + 1) A) (env : Env) : Room k (A.deeper env) :=
  ⟨r.hd, by have := r.dp; show A.depth + 1 + 3 * k + 5 < _; omega, by have := r.un; show A.units + 3 + 16 * k + 200 < _; omega⟩
theorem a2N {A : Around} {C : Addr} {us : List Value} {kw : List (Str × Value)} : (A.under (.builtin "type.__call__" ⟨.ref C :: us, kw⟩)).depth = A.depth + 1 := by
  first | rfl | simp [Around.under, Code.weight, Code.isCreation, Code.isGuard, Code.isCaller, Code.frames, Code.isFrame, guardIds]
theorem a2u {A : Around} {C : Addr} {us : List Value} {kw : List (Str × Value)} : (A.under (.builtin "type.__call__" ⟨.ref C :: us, kw⟩)).units = A.units + 1 := by
  first | rfl | simp [Around.under, Code.cUnits, Code.frames, Code.isFrame]
theorem Room.make {k : Nat} {A : Around} (r : Room (k + 1) A) (C : Addr) (us : List Value) (kw : List (Str × Value)) : Room k (A.under (.builtin "type.__call__" ⟨.ref C :: us, kw⟩)) :=
  ⟨r.hd, by have := r.dp; rw [a2N]; omega, by have := r.un; rw [a2u]; omega⟩
theorem Room.depth {k : Nat} {A : Around} (r : Room k A) : A.depth < recursionLimit := by have := r.dp; omega
theorem Room.units {k : Nat} {A : Around} (r : Room k A) : A.units + 64 < cLine := by have := r.un; omega
def a1R : TA := fun _ H Q => Q [] H
def X7 (ta : TE) (tr : TA) : TA := fun σ H Q => ta σ H fun x H1 => tr σ H1 fun xs H2 => Q (x :: xs) H2
section
variable {X : Cx} {e : Expr} {es : List Expr} {te : TE} {t : TA} {pos : Pos}
theorem c7 : PA X [] a1R := fun _ _ _ _ H Q I h => Calls.spliced_nil ⟨[], H, I, .nil, h⟩
theorem c0 (ha : PE X e te) (hr : PA X es t) (hs : starEach (e :: es) X.env = (false, eval e X.env) :: starEach es X.env := by rfl) : PA X (e :: es) (X7 te t) := by
  intro pos pins s σ H Q I h
  rw [hs]
  show wpAny _ _ (spliced ((false, eval e X.env) :: backTo pos (starEach es X.env))) _ _ s
  refine Calls.spliced_cons (A6 (ha pins s σ H _ I h) fun u s1 ⟨x, H1, I1, r1, q1⟩ => ?_)
  exact A6 (hr pos pins s1 σ H1 _ I1 q1) fun us s2 ⟨xs, H2, I2, r2, q2⟩ => ⟨x :: xs, H2, I2, .cons r1 r2, q2⟩
def b1W (t : TA) : TE := fun σ H Q => t σ H fun xs H1 => xs.length <= sizeLine /\ ∀ p, H1 p = none -> Q (.ref p) (upd H1 p (.tup xs))
def a6A (t : TA) : TE := fun σ H Q => t σ H fun xs H1 => xs.length <= sizeLine /\ ∀ p, H1 p = none -> Q (.ref p) (upd H1 p (.lst xs))
theorem N6 {x1} (h : PA X es t) : PE X (.Tuple es x1 pos) (b1W t) := by
  intro pins s σ H Q I hq
  refine wpAny_Tuple_spliced (A6 (h pos pins s σ H _ I hq) fun us s1 ⟨xs, H1, I1, r, z, q⟩ => ⟨by rw [<- r.length]; exact z, ?_⟩)
  have hf : H1 s1.heap.objs.size = none := I1.hok.fresh (Nat.le_refl _)
  refine ⟨.ref s1.heap.objs.size, upd H1 s1.heap.objs.size (.tup xs), I1.laid (t' := s1.toks) (fun b u e => Heap.get?_push_of_some _ e) (Nat.le_refl _) ?_, rfl, q _ hf⟩
  exact ⟨z, us, r, ⟨_, Heap.get?_push_size _ rfl, rfl, _, rfl⟩⟩
theorem w4 (h : PA X es t) : PE X (.List es pos) (a6A t) := by
  intro pins s σ H Q I hq
  refine wpAny_List_spliced (A6 (h pos pins s σ H _ I hq) fun us s1 ⟨xs, H1, I1, r, z, q⟩ => ⟨by rw [<- r.length]; exact z, ?_⟩)
  have hf : H1 s1.heap.objs.size = none := I1.hok.fresh (Nat.le_refl _)
  refine ⟨.ref s1.heap.objs.size, upd H1 s1.heap.objs.size (.lst xs), I1.laid (t' := s1.toks) (fun b u e => Heap.get?_push_of_some _ e) (Nat.le_refl _) ?_, rfl, q _ hf⟩
  exact ⟨z, us, 0, r, Heap.get?_push_size _ rfl⟩
end
abbrev Sp := List V -> Hp -> VK -> XK -> Prop
abbrev CXT := List Env -> Hp -> Shared -> XK -> Value -> Shared -> Prop
structure Env0 (P : Program) (w : World) (K : W.Frag) (mg : Str -> Option Value) (base : Heap) (A : Around) (outer : List Env) (s : Shared) (H : Hp) : Prop where
  frames : A.frames = some outer
  mod : Mod K mg base
  bs : ∀ b o, base.get? b = some o -> s.heap.get? b = some o /\ H b = none
  bsz : base.objs.size <= s.heap.objs.size
  funs : s.heap.FunFrames base outer
  frf : ∀ b ∈ frs outer, H b = none
  hok : HOk P w H s.heap
  bare : AllBare s.gens
def CE (outer : List Env) (P : Program) (w : World) (H : Hp) (s : Shared) (Q : VK) (u : Value) (s' : Shared) : Prop :=
  ∃ v H', s'.os = s.os /\ AllBare s'.gens /\ Un (frs outer) [] H H' s.heap s'.heap /\ HOk P w H' s'.heap /\ RelV v u /\ Q v H'
def CR (CX : CXT) (outer : List Env) (P : Program) (w : World) (H : Hp) (s : Shared) (Q : VK) (E : XK) (r : Result) (s' : Shared) : Prop :=
  match r with
  | .ok (.ret u) => CE outer P w H s Q u s'
  | .ok _ => False
  | .error e => CX outer H s E e s'
structure x8 (P : Program) (w : World) (K : W.Frag) (mg : Str -> Option Value) (base : Heap) (CX : CXT) (k : Nat) (f : Addr) (fd : FuncData) (ps : List Str) (sp : Sp) : Prop where
  len : ∀ vs H Q E, sp vs H Q E -> vs.length = ps.length
  run : ∀ (A : Around) (outer : List Env) (s : Shared) (H : Hp) (args : Args) (us : List Value) (vs : List V) (Q : VK) (E : XK), Room k A -> Env0 P w K mg base A outer s H -> BindsTo s fd args (ps.zip us) -> Vals vs us -> sp vs H Q E →
    codeAny (model P w) A (.call (.ref f) args) (CR CX outer P w H s Q E) s
theorem Env0.make {P : Program} {w : World} {K : W.Frag} {mg : Str -> Option Value} {base : Heap} {A : Around} {outer : List Env} {s : Shared} {H : Hp} (e : Env0 P w K mg base A outer s H) (C : Addr) (us : List Value) (kw : List (Str × Value)) :
    Env0 P w K mg base (A.under (.builtin "type.__call__" ⟨.ref C :: us, kw⟩)) outer s H := ⟨by first | exact e.frames | (simpa [Around.under, Code.envs, Code.isFrame, pushEnvs] using e.frames), e.mod, e.bs, e.bsz, e.funs, e.frf, e.hok, e.bare⟩
section
variable {X : Cx} {pins : List (Addr × Obj)} {σ : St} {H : Hp} {s s' : Shared}
theorem Inv.env0 (I : Inv X pins σ H s) : Env0 X.prog X.w X.K X.mg X.base X.A X.stack s H :=
  ⟨I.ok.frames, I.ok.mod, I.bs, Nat.le_trans I.ok.bsz I.sz, I.stack, I.stkFree, I.hok, I.bare⟩
theorem Inv.after {Q : VK} {u : Value} (I : Inv X pins σ H s) (h : CE X.stack X.prog X.w H s Q u s') : EP X pins σ Q u s' := by
  obtain ⟨v, H', os, bare, un, hok, r, q⟩ := h
  obtain ⟨hh, g, d, t, os'⟩ := s'
  obtain rfl : os' = s.os := os
  exact ⟨v, H', I.call (h' := hh) (g' := g) (d' := d) (t' := t) (ch := []) un hok bare (fun b z => absurd z (by simp)), r, q⟩
end
def a7R (sp : Sp) (dvs : List V) (E : XK) (t : TA) : TE := fun σ H Q => t σ H fun vs H1 => sp (vs ++ dvs) H1 Q E
def a7K (C : Addr) (m : Str) (sp : Sp) (dvs : List V) (E : XK) (ta : TE) (t : TA) : TE := fun σ H Q => ta σ H fun x H1 => ∃ a dx fs, x = .ref a /\ H1 a = some (.ins C dx fs) /\ fs.lookup m = none ∧
  t σ H1 fun vs H2 => sp (x :: (vs ++ dvs)) H2 Q E
def Binds (K : W.Frag) (fd : FuncData) (ps : List Str) (ds : List Value) : Prop :=
  ∀ (s : Shared) (us : List Value), K.In s.heap -> (us ++ ds).length = ps.length -> BindsTo s fd ⟨us, []⟩ (ps.zip (us ++ ds))
theorem Binds.all {K : W.Frag} {fd : FuncData} {ps : List Str} (h : ∀ us : List Value, us.length = ps.length -> bindArgs fd ⟨us, []⟩ = pure (ps.zip us)) : Binds K fd ps [] := fun s us _ hl => by
  rw [List.append_nil] at hl ⊢
  exact .of_eq (h us hl)
def R1 (CX : CXT) (X : Cx) (E : XK) : Prop := ∀ (pins : List (Addr × Obj)) (σ : St) (H : Hp) (s : Shared) (e : Value) (s' : Shared), Inv X pins σ H s -> CX X.stack H s E e s' -> X.xe e s'
section
variable {X : Cx} {CX : CXT} {k : Nat} {f C : Addr} {fd : FuncData} {ps : List Str} {sp : Sp} {dvs : List V} {ds : List Value} {E : XK} {x m : Str} {p pos apos : Pos} {e o : Expr} {es : List Expr} {ta : TE} {t : TA}
theorem a1j {pins : List (Addr × Obj)} {σ : St} {H : Hp} {s : Shared} {Q : VK} {us : List Value} {vs : List V} (F : x8 X.prog X.w X.K X.mg X.base CX k f fd ps sp) (hr : Room k X.A) (hb : Binds X.K fd ps ds) (hd : Vals dvs ds) (hx : R1 CX X E)
    (I : Inv X pins σ H s) (r : Vals vs us) (h : sp (vs ++ dvs) H Q E) : wpAny (model X.prog X.w) X.A (call (.ref f) us) (EP X pins σ Q) X.xe s := by
  have r2 : Vals (vs ++ dvs) (us ++ ds) := r.append hd
  have hl : (us ++ ds).length = ps.length := by rw [<- r2.length]; exact F.len _ _ _ _ h
  refine wpAny_call (codeAny_mono (F.run X.A X.stack s H ⟨us, []⟩ (us ++ ds) (vs ++ dvs) Q E hr I.env0 (hb s us I.kIn hl) r2 h) fun r s' hq => ?_)
  cases r with
  | error e => exact hx pins σ H s e s' I hq
  | ok fl =>
    cases fl with
    | ret u => exact I.after hq
    | next => exact False.elim hq
    | brk => exact False.elim hq
    | cont => exact False.elim hq
theorem r8 (F : x8 X.prog X.w X.K X.mg X.base CX k f fd ps sp) (hr : Room k X.A) (hg : Gl X x) (hm : X.mg x = some (.ref f)) (hk : W.keepIn X.K (.ref f) = true) (hb : Binds X.K fd ps ds) (hd : Vals dvs ds) (hx : R1 CX X E)
    (ha : PA X (e :: es) t) (hdb : (x == ("__debug__" : Str)) = false := by decide) (he : starEach (e :: es) X.env = (false, eval e X.env) :: starEach es X.env := by rfl) (hpl : (backTo pos (starEach es X.env)).any (·.1) = false := by rfl) :
    PE X (.Call (.Name x p) (e :: es) [] pos) (a7R sp dvs E t) := by
  intro pins s σ H Q I h
  refine wpAny_Call_Name_kw (P3 I hg hm ?_ hdb)
  refine W.callWith_K (h₀ := X.base) I.ok.mod.kin hk (A6 (ha pos pins s σ H _ I h) fun us s1 ⟨vs, H1, I1, r, q⟩ => ⟨I1.kIn, ?_⟩) he hpl
  exact a1j F hr hb hd hx I1 r q
theorem a7v {pl : Sem Bool} (he : PE X o ta) (c : Cls X.K C) (hm : a5c X.K C m f) (F : x8 X.prog X.w X.K X.mg X.base CX k f fd ps sp) (hr : Room k X.A) (hb : Binds X.K fd ps ds) (hd : Vals dvs ds) (hx : R1 CX X E) (ha : PA X (e :: es) t)
    (hst : starEach (e :: es) X.env = (false, eval e X.env) :: starEach es X.env := by rfl) (hpl : (backTo pos (starEach es X.env)).any (·.1) = false := by rfl)
    (ht : eval (.Call (.Attribute o m apos) (e :: es) [] pos) X.env = (do
      let ov <- eval o X.env
      standAt apos.atName
      let (f, first) <- holding [ov] (getMethod ov m pl)
      callWith pos f first (backTo pos (starEach (e :: es) X.env)) (backToKw pos (keywordEach [] X.env))) := by rfl) :
    PE X (.Call (.Attribute o m apos) (e :: es) [] pos) (a7K C m sp dvs E ta t) := by
  intro pins s σ H Q I h
  refine W.methodCall_KW (pl := pl) (A6 (he pins s σ H _ I h) fun u s1 ⟨x, H1, I1, rx, a, dx, fs, ex, ea, l, q⟩ => ?_) ht
  subst ex
  obtain rfl : u = Value.ref a := rx
  refine a0u I1 ea c hm l ?_
  refine W.callWith_K (first := [.ref a]) (h₀ := X.base) I.ok.mod.kin hm.kp (A6 (ha pos pins s1 σ H1 _ I1 q) fun us s2 ⟨vs, H2, I2, r, q2⟩ => ⟨I2.kIn, ?_⟩) hst hpl
  exact a1j (us := .ref a :: us) (vs := .ref a :: vs) F hr hb hd hx I2 (.cons rfl r) q2
theorem a6a {pl : Sem Bool} (he : PE X o ta) (c : Cls X.K C) (hm : a5c X.K C m f) (F : x8 X.prog X.w X.K X.mg X.base CX k f fd ps sp) (hr : Room k X.A) (hb : Binds X.K fd ps ds) (hd : Vals dvs ds) (hx : R1 CX X E)
    (ht : eval (.Call (.Attribute o m apos) [] [] pos) X.env = (do
      let ov <- eval o X.env
      standAt apos.atName
      let (f, first) <- holding [ov] (getMethod ov m pl)
      callWith pos f first (backTo pos (starEach [] X.env)) (backToKw pos (keywordEach [] X.env))) := by rfl) :
    PE X (.Call (.Attribute o m apos) [] [] pos) (a7K C m sp dvs E ta a1R) := by
  intro pins s σ H Q I h
  refine W.methodCall_KW (pl := pl) (A6 (he pins s σ H _ I h) fun u s1 ⟨x, H1, I1, rx, a, dx, fs, ex, ea, l, q⟩ => ?_) ht
  subst ex
  obtain rfl : u = Value.ref a := rx
  refine a0u I1 ea c hm l ?_
  exact W.callWith_K0 (first := [.ref a]) I1.kIn hm.kp (a1j (us := [.ref a]) (vs := [.ref a]) F hr hb hd hx I1 (.cons rfl .nil) q)
structure Mk (K : W.Frag) (C f : Addr) : Prop where
  makes : W.makesIn K C = true
  init : W.findIn K (.ref C) "__init__" = some (some (.ref f))
  fn : W.isFn K (.ref f) = true
  kp : W.keepIn K (.ref C) = true
end
section
variable {X : Cx} {CX : CXT} {k : Nat} {f C : Addr} {fd : FuncData} {ps ks : List Str} {sp : Sp} {E : XK} {x m : Str} {p pos apos kpos : Pos} {e o : Expr} {es : List Expr} {kws : List Keyword} {te ta : TE} {t tk : TA} {nm : Option Str}
structure b1K (K : W.Frag) (fd : FuncData) (ps ks : List Str) (g : List Value -> List Value -> List Value) (gV : List V -> List V -> List V) : Prop where
  to : ∀ (s : Shared) (us ws : List Value), K.In s.heap -> (g us ws).length = ps.length -> BindsTo s fd ⟨us, ks.zip ws⟩ (ps.zip (g us ws))
  rel : ∀ {vs : List V} {us : List Value} {zs : List V} {ws : List Value}, Vals vs us -> Vals zs ws -> Vals (gV vs zs) (g us ws)
variable {g : List Value -> List Value -> List Value} {gV : List V -> List V -> List V}
end
structure p6 (N P : List Str) (sc : Scope) : Prop where
  kind : sc.kind = .function
  co : sc.isCoroutine = false
  gen : sc.isGenerator = false
  nd : N.Nodup
  pre : N.take P.length = P
  par : ∀ x ∈ P, sc.names.lookup x = some .local \/ sc.names.lookup x = some .cell
  nofree : ∀ y ∈ sc.names, y.2 ≠ .free
theorem a0U {kindOf : Str -> Option NameKind} {x : Str} : ∀ {binds : List (Str × Value)} {m : Str -> Option Value}, (∀ v, (x, v) ∉ binds) -> bindL kindOf binds m x = m x
  | [], _, _ => rfl
  | (n, v) :: r, m, h => by
    unfold bindL
    rw [a0U fun w hw => h w (List.mem_cons_of_mem _ hw)]
    split
    . have : x ≠ n := by rintro rfl; exact h v List.mem_cons_self
      simp [this]
    . rfl
theorem a0H {kindOf : Str -> Option NameKind} {x : Str} : ∀ {binds : List (Str × Value)} {m : Str -> Option Value}, (∀ v, (x, v) ∉ binds) -> bindC kindOf binds m x = m x
  | [], _, _ => rfl
  | (n, v) :: r, m, h => by
    unfold bindC
    rw [a0H fun w hw => h w (List.mem_cons_of_mem _ hw)]
    split
    . rfl
    . have : x ≠ n := by rintro rfl; exact h v List.mem_cons_self
      simp [this]
theorem a0V {kindOf : Str -> Option NameKind} {x : Str} {v : Value} : ∀ {P : List Str} {vs : List Value} {i : Nat} {m : Str -> Option Value}, P.Nodup -> P[i]? = some x -> vs[i]? = some v -> kindOf x = some .local →
    bindL kindOf (P.zip vs) m x = some v
  | [], _, _, _, _, h, _, _ => by simp at h
  | _ :: _, [], _, _, _, _, h, _ => by simp at h
  | p :: P, w :: vs, 0, m, nd, h1, h2, hk => by
    simp at h1 h2; subst h1; subst h2
    show bindL kindOf ((p, w) :: P.zip vs) m p = _
    unfold bindL
    rw [a0U fun v hv => (List.nodup_cons.mp nd).1 (List.of_mem_zip hv).1, if_pos hk]
    simp
  | p :: P, w :: vs, i + 1, m, nd, h1, h2, hk => by
    show bindL kindOf ((p, w) :: P.zip vs) m x = _
    unfold bindL
    exact a0V (i := i) (List.nodup_cons.mp nd).2 (by simpa using h1) (by simpa using h2) hk
theorem a0C {kindOf : Str -> Option NameKind} {x : Str} {v : Value} : ∀ {P : List Str} {vs : List Value} {i : Nat} {m : Str -> Option Value}, P.Nodup -> P[i]? = some x -> vs[i]? = some v -> kindOf x ≠ some .local →
    bindC kindOf (P.zip vs) m x = some v
  | [], _, _, _, _, h, _, _ => by simp at h
  | _ :: _, [], _, _, _, _, h, _ => by simp at h
  | p :: P, w :: vs, 0, m, nd, h1, h2, hk => by
    simp at h1 h2; subst h1; subst h2
    show bindC kindOf ((p, w) :: P.zip vs) m p = _
    unfold bindC
    rw [a0H fun v hv => (List.nodup_cons.mp nd).1 (List.of_mem_zip hv).1, if_neg hk]
    simp
  | p :: P, w :: vs, i + 1, m, nd, h1, h2, hk => by
    show bindC kindOf ((p, w) :: P.zip vs) m x = _
    unfold bindC
    exact a0C (i := i) (List.nodup_cons.mp nd).2 (by simpa using h1) (by simpa using h2) hk
def M5 (N : List Str) (vs : List V) : St := vs.map some ++ List.replicate (N.length - vs.length) none
def M2 (CX : CXT) (P : Program) (w : World) (K : W.Frag) (mg : Str -> Option Value) (base : Heap) (N : List Str) (qual : Str) (scope : Scope) (f : Addr) (cd : Value) (A : Around) (outer : List Env) (s : Shared) (H : Hp) (E : XK) : Cx where
  prog := P
  w := w
  K := K
  mg := mg
  base := base
  A := A.deeper (envOfC qual scope s.heap.objs.size f cd)
  N := N
  s₀ := s
  H₀ := H
  env := envOfC qual scope s.heap.objs.size f cd
  outer := outer
  stack := envOfC qual scope s.heap.objs.size f cd :: outer
  ex := []
  calm := true
  fn := fun _ => true
  pn := []
  xe := fun e s' => wpAny (model P w) (A.deeper (envOfC qual scope s.heap.objs.size f cd)) (leaving (envOfC qual scope s.heap.objs.size f cd) e) (fun _ s'' => CX outer H s E e s'') (fun e' s'' => CX outer H s E e' s'') s'
theorem a1M {sc : Scope} {n : Nat} {x : Str} (h : sc.names.lookup x = some .cell) : ∃ c, (cellsFrom n sc.names []).lookup x = some c := by
  have q := W.cellsFrom_some sc.names n [] (.inl h)
  exact Option.isSome_iff_exists.mp q
theorem a0S {CX : CXT} {P : Program} {w : World} {K : W.Frag} {mg : Str -> Option Value} {base : Heap} {N ps : List Str} {qual : Str} {scope : Scope} {f : Addr} {cd : Value} {A : Around} {outer : List Env} {s s1 : Shared} {H : Hp} {E : XK} {us : List Value} {vs : List V}
    (S : p6 N ps scope) (hd : A.handled = none) (e0 : Env0 P w K mg base A outer s H) (hl : vs.length = ps.length) (r : Vals vs us)
    (x : InCallC s s.heap.objs.size (bindL (envOfC qual scope s.heap.objs.size f cd).kindOf (ps.zip us) fun _ => none) (cellsFrom (s.heap.objs.size + 1) scope.names []) (bindC (envOfC qual scope s.heap.objs.size f cd).kindOf (ps.zip us) fun _ => none) s1) :
    Inv (M2 CX P w K mg base N qual scope f cd A outer s H E) [] (M5 N vs) H s1 := by
  have hpl : ps.length <= N.length := by have := congrArg List.length S.pre; rw [List.length_take] at this; omega
  obtain ⟨h1, tk, rfl, hk⟩ := x.done
  have noA : ∀ b : Addr, b ∉ (M2 CX P w K mg base N qual scope f cd A outer s H E).ex := fun b z => absurd (show b ∈ ([] : List Addr) from z) (by simp)
  refine ⟨⟨e0.mod, S.kind, rfl, rfl, Nat.le_refl _, fun y z c h1 h2 => ?_, fun y hy => ?_, fun y c _ h => ?_, fun _ => hd, Around.frames_deeper e0.frames, .inr ⟨rfl, rfl⟩, fun b z => absurd z (noA b), e0.bs, e0.bsz, fun b _ _ => noA b, fun b z => absurd z (noA b), e0.funs, e0.frf⟩,
    rfl, e0.bare, Un.kept hk, ⟨_, x.toInCall.ns, fun i y v h1 h2 h3 => ?_⟩, fun y c h => ⟨_, x.cell y c h⟩, e0.hok.fresh (Nat.le_refl _), fun y c h => ?_, fun p hp => absurd (show p ∈ ([] : List (Addr × Obj)) from hp) (by simp), e0.hok.kept hk, ?_⟩
  . exact name_of_addr x.apart (PySem.mem_of_lookup h1) (PySem.mem_of_lookup h2)
  . have hy : scope.names.lookup y = some .cell \/ scope.names.lookup y = some .free := hy
    rcases hy with hy | hy
    . exact a1M hy
    . exact absurd rfl (S.nofree _ (PySem.mem_of_lookup hy))
  . exact Nat.le_of_lt (x.above y c (PySem.mem_of_lookup h))
  . have hi : i < vs.length := by
      unfold M5 at h2
      by_cases hi : i < vs.length
      . exact hi
      . rw [List.getElem?_append_right (by simpa using hi)] at h2
        rw [List.getElem?_replicate] at h2
        split at h2 <;> cases h2
    have ha : vs[i]? = some v := by
      unfold M5 at h2
      rw [List.getElem?_append_left (by simpa using hi), List.getElem?_map] at h2
      cases e : vs[i]? with
      | none => rw [e] at h2; cases h2
      | some a => rw [e] at h2; cases h2; rfl
    obtain ⟨u, hu, rv⟩ := r.get ha
    have hp : ps[i]? = some y := by
      rw [<- S.pre, List.getElem?_take_of_lt (by omega)]; exact h1
    have ndP : ps.Nodup := by rw [<- S.pre]; exact S.nd.sublist (List.take_sublist _ _)
    refine ⟨u, rv, ?_⟩
    rcases S.par y (List.mem_of_getElem? hp) with k | k
    . exact .inl ⟨k, a0V ndP hp hu k⟩
    . obtain ⟨c, e⟩ := a1M (n := s.heap.objs.size + 1) k
      refine .inr ⟨.inl k, c, e, ?_⟩
      have q := x.cell y c e
      rw [a0C ndP hp hu (by show scope.names.lookup y ≠ _; rw [k]; decide)] at q
      exact q
  . exact e0.hok.fresh (Nat.le_of_lt (x.above y c (PySem.mem_of_lookup h)))
  . unfold M5
    show _ = N.length
    rw [List.length_append, List.length_map, List.length_replicate]
    omega
theorem a7E {CX : CXT} {P : Program} {w : World} {K : W.Frag} {mg : Str -> Option Value} {base : Heap} {k : Nat} {f : Addr} {name qual : Str} {params : Arguments} {body : List Stmt} {scope : Scope} {dV kV doc pm cdv ct oc : Value} {an od : Option Addr}
    {osl : Array (Option Value)} {N ps : List Str} {sp : Sp} (lk : K.lookup f = some ⟨oc, od, .func (W.fnOf name qual params body scope dV kV doc pm an cdv ct), osl⟩) (hcd : W.codeIn K cdv qual = true) (S : p6 N ps scope)
    (len : ∀ vs H Q E, sp vs H Q E -> vs.length = ps.length)
    (hbody : ∀ (A : Around) (outer : List Env) (s : Shared) (H : Hp) (vs : List V) (Q : VK) (E : XK), Room k (A.deeper (envOfC qual scope s.heap.objs.size f cdv)) -> sp vs H Q E →
      ∃ t, PSs (M2 CX P w K mg base N qual scope f cdv A outer s H E) body t /\ t { nx := fun _ H' => Q .non H', rt := Q } (M5 N vs) H) :
    x8 P w K mg base CX (k + 1) f (W.fnOf name qual params body scope dV kV doc pm an cdv ct) ps sp := by
  refine ⟨len, fun A outer s H args us vs Q E hr e0 hb r hsp => ?_⟩
  have hl := len _ _ _ _ hsp
  have KX : K.In s.heap := e0.mod.kin.keeps fun b o e => (e0.bs b o e).1
  have lim : s.heap.NoLimit := e0.mod.nolimit.keeps fun b o e => (e0.bs b o e).1
  have hkind : ∀ y ∈ ps.zip us, scope.names.lookup y.1 = some .local \/ (scope.names.lookup y.1 = some .cell /\ ((cellsFrom (s.heap.objs.size + 1) scope.names []).lookup y.1).isSome = true) := fun ⟨n, v⟩ hy => by
    rcases S.par n (List.of_mem_zip hy).1 with q | q
    . exact .inl q
    . exact .inr ⟨q, W.cellsFrom_some _ _ _ (.inl q)⟩
  refine codeAny_call_function hr.depth (KX _ _ lk) rfl S.co S.gen rfl (W.codeRec_of KX hcd) (hb _ _ _ _ ?_)
  refine wpAny_newFunctionEnv_cells S.kind hkind fun env he s1 x => ?_
  subst he
  refine ⟨lim.keeps x.toInCall.keep, codeAny_func ?_⟩
  obtain ⟨t, ht, hq⟩ := hbody A outer s H vs Q E (hr.deeper _) hsp
  have I : Inv (M2 CX P w K mg base N qual scope f cdv A outer s H E) [] (M5 N vs) H s1 := a0S S hr.hd e0 hl r x
  refine wpAny_mono (ht [] s1 (M5 N vs) H _ I hq) (fun fl s' hs => ?_) fun e s' hs => hs
  have fin : ∀ {σ' : St} {H' : Hp} {v : V} {u : Value}, Inv (M2 CX P w K mg base N qual scope f cdv A outer s H E) [] σ' H' s' -> RelV v u -> Q v H' -> CE outer P w H s Q u s' :=
    fun {σ' H' v u} J rv q => ⟨v, H', J.os, J.bare, J.base, J.hok, rv, q⟩
  cases fl with
  | ret u =>
    obtain ⟨v, σ', H', J, rv, q⟩ := hs
    exact fin J rv q
  | next =>
    obtain ⟨σ', H', J, q⟩ := hs
    exact fin (v := V.non) (u := Value.none) J rfl q
  | brk =>
    obtain ⟨_, _, _, q⟩ := hs
    exact False.elim q
  | cont =>
    obtain ⟨_, _, _, q⟩ := hs
    exact False.elim q
end L2
namespace L2
open PySem PySem.Spec PyProof.Rows
section
variable {X : Cx} {x : Str} {p pos : Pos} {e : Expr} {es : List Expr} {t : TA} {id T : String} {r : List V -> Hp -> VK -> Prop}
def tCB (r : List V -> Hp -> VK -> Prop) (t : TA) : TE := fun σ H Q => t σ H fun vs H1 => r vs H1 Q
theorem i7 (hc : G1 X (.builtin id) r) (hg : Gl X x) (hm : X.mg x = none) (hv : bootBuiltins x = some (.builtin id)) (ha : PA X (e :: es) t) (hn : x ≠ "__name__" := by decide) (hdb : (x == ("__debug__" : Str)) = false := by decide)
    (he : starEach (e :: es) X.env = (false, eval e X.env) :: starEach es X.env := by rfl) (hpl : (backTo pos (starEach es X.env)).any (·.1) = false := by rfl) : PE X (.Call (.Name x p) (e :: es) [] pos) (tCB r t) := by
  intro pins s σ H Q I h
  refine wpAny_Call_Name_kw (a0k I hg hm hv ?_ hn hdb)
  exact PyProof.Rows.callWith_builtin1 (A6 (ha pos pins s σ H _ I h) fun us s1 ⟨vs, H1, I1, r1, q1⟩ => hc pins s1 σ H1 vs us Q I1 r1 q1) he hpl
theorem t8 (hc : G1 X (.type T) r) (hg : Gl X x) (hm : X.mg x = none) (hv : bootBuiltins x = some (.type T)) (ha : PA X (e :: es) t) (hn : x ≠ "__name__" := by decide) (hdb : (x == ("__debug__" : Str)) = false := by decide)
    (he : starEach (e :: es) X.env = (false, eval e X.env) :: starEach es X.env := by rfl) (hpl : (backTo pos (starEach es X.env)).any (·.1) = false := by rfl) : PE X (.Call (.Name x p) (e :: es) [] pos) (tCB r t) := by
  intro pins s σ H Q I h
  refine wpAny_Call_Name_kw (a0k I hg hm hv ?_ hn hdb)
  exact PyProof.Rows.callWith_type1 (A6 (ha pos pins s σ H _ I h) fun us s1 ⟨vs, H1, I1, r1, q1⟩ => hc pins s1 σ H1 vs us Q I1 r1 q1) he hpl
end
end L2
namespace HT
open PySem PyProof.Rows
section
open PySem.SeqAt
open PySem.AutoSeq1 (wpAny_loadPart')
open PySem.MeetsSeq PySem.MeetsSeq2 PySem.MeetsSeq3
end
section
variable {prog : Program} {w : World} {A : Around} {E : Value -> Shared -> Prop} {s : Shared}
theorem cat_tup {t b : Addr} {vs ws : List Value} {Q : Value -> Shared -> Prop} (ht : IsTup s.heap t vs.toArray) (hb : IsTup s.heap b ws.toArray) (hv : vs ≠ [])
    (h1 : ws = [] -> Q (.ref t) s) (h2 : ws ≠ [] -> Q (.ref s.heap.objs.size) { s with heap := s.heap.push { cls := .type "tuple", data := .seq (vs ++ ws).toArray } })
    (hsz : vs.length + ws.length <= sizeLine) : wpAny (model prog w) A (binaryOp .Add (.ref t) (.ref b)) Q E s := by
  obtain ⟨⟨cls, dd, data, sl⟩, ho, hc, n, hd⟩ := id ht
  obtain ⟨⟨cls2, dd2, data2, sl2⟩, ho2, hc2, n2, hd2⟩ := id hb
  simp only at hc hd hc2 hd2
  subst hc hd hc2 hd2
  have e : vs.toArray ++ ws.toArray = (vs ++ ws).toArray := by simp
  by_cases hw : ws = []
  . exact concat_meets ⟨_, ho, rfl⟩ ⟨_, ho2, rfl⟩ noFill_tuple_add seq_tuple_add PySem.F.slot_tuple_add PySem.F.entry_tuple_add (PySem.F.args_tuple_add_2 _ _)
      (tuple_addW1 t b vs.toArray ws.toArray n n2 dd dd2 sl sl2 (by simpa using hv) (by simp [hw])) ⟨ho, ho2, h1 hw⟩
  . refine concat_meets ⟨_, ho, rfl⟩ ⟨_, ho2, rfl⟩ noFill_tuple_add seq_tuple_add PySem.F.slot_tuple_add PySem.F.entry_tuple_add (PySem.F.args_tuple_add_2 _ _)
      (tuple_addW2 t b vs.toArray ws.toArray n n2 dd dd2 sl sl2 (by simpa using hv) (by simpa using hw) (by rw [List.size_toArray, List.size_toArray]; exact hsz)) ⟨ho, ho2, ?_⟩
    rw [e]
    exact h2 hw
def sIx (n d : Nat) : Option Int -> Nat
  | none => d
  | some v => if v < 0 then (v + (n : Int)).toNat else min v.toNat n
theorem sIx_none (n d : Nat) : sIx n d none = d := rfl
theorem sIx_nat (n d k : Nat) : sIx n d (some (k : Int)) = min k n := by
  show (if (k : Int) < 0 then ((k : Int) + (n : Int)).toNat else min (k : Int).toNat n) = min k n
  rw [if_neg (by omega), Int.toNat_natCast]
end
end HT
namespace L2
open PySem PySem.Spec PyProof.Rows
abbrev TO := St -> Hp -> (Option Int -> Hp -> Prop) -> Prop
def PO (X : Cx) (e : Option Expr) (t : TO) : Prop :=
  ∀ (pins : List (Addr × Obj)) (s : Shared) (σ : St) (H : Hp) (Q : Option Int -> Hp -> Prop), Inv X pins σ H s -> t σ H Q →
    wpAny (model X.prog X.w) X.A (evalPart e X.env) (fun u s' => ∃ o H', Inv X pins σ H' s' /\ IsPart u o /\ Q o H') X.xe s
def a7s : TO := fun _ H Q => Q none H
def a9S (t : TE) : TO := fun σ H Q => t σ H fun x H1 => ∃ i, x = .int i /\ Q (some i) H1
section
variable {X : Cx} {e : Expr} {te : TE} {lo hi : Option Expr} {tl th : TO} {pos p2 : Pos}
theorem E1 : PO X none a7s := by
  intro pins s σ H Q I h
  rw [evalPart_none]
  exact wpAny_pure ⟨none, H, I, .none, h⟩
theorem A4 (h : PE X e te) : PO X (some e) (a9S te) := by
  intro pins s σ H Q I hw
  rw [evalPart_some]
  refine A6 (h pins s σ H _ I hw) fun u s1 ⟨x, H1, I1, r1, q1⟩ => ?_
  obtain ⟨i, rfl, q⟩ := q1
  obtain ⟨t, rfl⟩ := r1
  exact ⟨some i, H1, I1, .int i t, q⟩
def SlR (X : Cx) (r : V -> Option Int -> Option Int -> Hp -> VK -> Prop) : Prop :=
  ∀ (pins : List (Addr × Obj)) (s : Shared) (σ : St) (H : Hp) (x : V) (v vl vu : Value) (lo hi : Option Int) (sl : Addr) (Q : VK), Inv X pins σ H s -> RelV x v -> s.heap.IsSliceOf sl vl vu .none -> IsPart vl lo -> IsPart vu hi -> r x lo hi H Q →
    ∃ T id, typeLookup (.type T) "__getitem__" = pure (some (.builtin id)) /\ s.TypeIs v T /\ wpAny (model X.prog X.w) X.A (getItem v (.ref sl)) (EP X pins σ Q) X.xe s
def tSl (r : V -> Option Int -> Option Int -> Hp -> VK -> Prop) (te : TE) (tl th : TO) : TE := fun σ H Q => te σ H fun x H1 => tl σ H1 fun l H2 => th σ H2 fun u H3 => r x l u H3 Q
theorem A5 {r : V -> Option Int -> Option Int -> Hp -> VK -> Prop} (hr : SlR X r) (he : PE X e te) (hl : PO X lo tl) (hu : PO X hi th) : PE X (.Subscript e (.Slice lo hi none p2) pos) (tSl r te tl th) := by
  intro pins s σ H Q I h
  refine Subscript_ (A6 (he pins s σ H _ I h) fun v s1 ⟨x, H1, I1, r1, q1⟩ => ?_)
  refine wpAny_Slice (A6 (hl pins s1 σ H1 _ I1 q1) fun vl s2 ⟨l, H2, I2, pl, q2⟩ => A6 (hu pins s2 σ H2 _ I2 q2) fun vu s3 ⟨u, H3, I3, pu, q3⟩ => ?_)
  rw [evalPart_none]
  refine wpAny_pure ?_
  have I4 : Inv X pins σ H3 { s3 with heap := s3.heap.push { cls := .type "slice", data := .fields #[vl, vu, .none] } } := I3.kept (t' := s3.toks) fun b ob q => Heap.get?_push_of_some _ q
  obtain ⟨T, id, hT, ht, hg⟩ := hr pins { s3 with heap := s3.heap.push { cls := .type "slice", data := .fields #[vl, vu, .none] } } σ H3 x v vl vu l u s3.heap.objs.size Q I4 r1 (Heap.IsSliceOf.new ..) pl pu q3
  show wpAny (model X.prog X.w) X.A (subscriptTail e (.Slice lo hi none p2) v (.ref s3.heap.objs.size)) (EP X pins σ Q) X.xe { s3 with heap := s3.heap.push { cls := .type "slice", data := .fields #[vl, vu, .none] } }
  exact tail_any (ops := [.ref s3.heap.objs.size, v]) ht hT hg (by with_unfolding_all rfl)
def O4 (xs : List V) (lo hi : Option Int) : List V := (xs.drop (HT.sIx xs.length 0 lo)).take (HT.sIx xs.length xs.length hi - HT.sIx xs.length 0 lo)
theorem X8 (xs : List V) (lo hi : Option Int) : (O4 xs lo hi).length <= xs.length := by
  unfold O4
  rw [List.length_take, List.length_drop]
  omega
def b0a (K : W.Frag) : R2 := fun x y H Q => ∃ a b xs ys, x = .ref a /\ y = .ref b /\ SqT K H a xs /\ SqT K H b ys /\ xs ≠ [] /\ xs.length + ys.length <= sizeLine ∧
  (ys = [] -> Q (.ref a) H) /\ (ys ≠ [] -> ∀ p, H p = none -> Q (.ref p) (upd H p (.tup (xs ++ ys))))
theorem Vals.nil_iff {xs : List V} {us : List Value} (r : Vals xs us) : us = [] ↔ xs = [] := by
  cases r with
  | nil => simp
  | cons _ _ => simp
theorem a3y : P6 X (binaryOp .Add) (b0a X.K) := by
  intro pins s σ H x y v u Q I rx ry h
  obtain ⟨a, b, xs, ys, rfl, rfl, ha, hb, hx, hz, q1, q2⟩ := h
  cases rx
  cases ry
  obtain ⟨its, r1, p1, _⟩ := I.tuple ha
  obtain ⟨its2, r2, p2, _⟩ := I.tuple hb
  refine HT.cat_tup p1 p2 (fun z => hx (r1.nil_iff.mp z)) (fun z => ⟨.ref a, H, I, rfl, q1 (r2.nil_iff.mp z)⟩) (fun z => ?_) (by rw [<- r1.length, <- r2.length]; exact hz)
  refine ⟨.ref s.heap.objs.size, _, I.laid (t' := s.toks) (o := .tup (xs ++ ys)) (fun b ob q => Heap.get?_push_of_some _ q) (Nat.le_refl _) ?_, rfl, q2 (fun w => z (r2.nil_iff.mpr w)) _ (I.hok.fresh (Nat.le_refl _))⟩
  exact ⟨by rw [List.length_append]; exact hz, _, r1.append r2, IsTup.new _ _⟩
end
end L2
namespace L2
open PySem PySem.Spec PyProof.Rows
def ixN (n : Nat) (i : Int) : Option Nat := if 0 <= i then (if i < n then some i.toNat else none) else if -(n : Int) <= i then some (i + n).toNat else none
def S6 {α : Type} (xs : List α) (i : Int) : Option α := (ixN xs.length i).bind fun j => xs[j]?
theorem a3j {n : Nat} {i : Int} {j : Nat} (h : ixN n i = some j) : seqIndex? i n = some j /\ j < n /\ -(n : Int) <= i /\ i < n := by
  unfold ixN at h
  by_cases h0 : 0 <= i
  . rw [if_pos h0] at h
    by_cases h1 : i < n
    . rw [if_pos h1] at h
      have e : i.toNat = j := Option.some.inj h
      exact ⟨by rw [seqIndex_of h0 h1, e], by omega, by omega, h1⟩
    . rw [if_neg h1] at h; cases h
  . rw [if_neg h0] at h
    by_cases h1 : -(n : Int) <= i
    . rw [if_pos h1] at h
      have e : (i + n).toNat = j := Option.some.inj h
      exact ⟨by rw [seqIndex_neg (by omega) h1, e], by omega, h1, by omega⟩
    . rw [if_neg h1] at h; cases h
theorem a1i {α : Type} {xs : List α} {i : Int} {v : α} (h : S6 xs i = some v) : ∃ j, seqIndex? i xs.length = some j /\ xs[j]? = some v /\ j < xs.length /\ -(xs.length : Int) <= i /\ i < xs.length := by
  unfold S6 at h
  cases e : ixN xs.length i with
  | none => rw [e] at h; cases h
  | some j =>
    rw [e] at h
    obtain ⟨h1, h2, h3, h4⟩ := a3j e
    exact ⟨j, h1, h, h2, h3, h4⟩
theorem E2 {α : Type} {xs : List α} {j : Nat} {v : α} (h : xs[j]? = some v) : S6 xs (j : Int) = some v := by
  have hj : j < xs.length := (List.getElem?_eq_some_iff.mp h).1
  have e : ixN xs.length (j : Int) = some j := by
    unfold ixN
    rw [if_pos (by omega), if_pos (by omega)]; simp
  unfold S6; rw [e]; exact h
def a6Q (b : Expr) : Prop := ∀ o i, subscripted b false o i = operate [o, i] (getItem o i)
def IxR (X : Cx) (r : R2) : Prop :=
  ∀ (value slice : Expr) (pins : List (Addr × Obj)) (s : Shared) (σ : St) (H : Hp) (x y : V) (v u : Value) (Q : VK), Inv X pins σ H s -> RelV x v -> RelV y u -> r x y H Q →
    subscripted slice false v u = operate [v, u] (getItem v u) -> wpAny (model X.prog X.w) X.A (subscriptTail value slice v u) (EP X pins σ Q) X.xe s
def MtR (X : Cx) (id : String) (r : V -> List V -> Hp -> VK -> Prop) : Prop :=
  ∀ (pins : List (Addr × Obj)) (s : Shared) (σ : St) (H : Hp) (x : V) (xs : List V) (v : Value) (us : List Value) (Q : VK), Inv X pins σ H s -> RelV x v -> Vals xs us -> r x xs H Q →
    wpAny (model X.prog X.w) X.A (call (.builtin id) (v :: us)) (EP X pins σ Q) X.xe s
section
variable {X : Cx} {a b : Expr} {ta tb : TE} {pos : Pos}
theorem p7 {r : R2} (hr : IxR X r) (ha : PE X a ta) (hb : PE X b tb) (hs : a6Q b) : PE X (.Subscript a b pos) (tOp r ta tb) := by
  intro pins s σ H Q I h
  exact Subscript_ (a8V ha hb I h fun v u s2 x y H2 I2 rx ry q => hr a b pins s2 σ H2 x y v u Q I2 rx ry q (hs _ _))
def b1R (K : W.Frag) : R2 := fun x y H Q => ∃ p xs i v, x = .ref p /\ y = .int i /\ SqL K H p xs /\ S6 xs i = some v /\ Q v H
def b1d (K : W.Frag) : R2 := fun x y H Q => ∃ p xs i v, x = .ref p /\ y = .int i /\ SqT K H p xs /\ S6 xs i = some v /\ Q v H
def b1N : R2 := fun x y H Q => ∃ z i c, x = .str z /\ y = .int i /\ z.length <= sizeLine /\ S6 z.cps.toList i = some c /\ Q (.str ⟨#[c]⟩) H
theorem j4 : IxR X (b1R X.K) := by
  intro value slice pins s σ H x y v u Q I rx ry h hs
  obtain ⟨p, xs, i, z, rfl, rfl, hq, he, q⟩ := h
  cases rx
  obtain ⟨t, rfl⟩ := ry
  obtain ⟨its, r, pl, hz⟩ := I.list hq
  obtain ⟨j, h1, h2, h3, h4, h5⟩ := a1i he
  obtain ⟨w, ew, rw'⟩ := r.get h2
  have hl := r.length
  have hn := T8
  have fin : EP X pins σ Q w s := ⟨z, H, I, rw', q⟩
  by_cases h0 : 0 <= i
  . have hj : i.toNat = j := by
      rw [seqIndex_of h0 h5] at h1
      exact Option.some.inj h1
    exact item_listR pl.isList h0 (by omega) (by rw [hj]; simpa using ew) fin hs
  . have hj : (i + (its.toArray.size : Int)).toNat = j := by
      rw [seqIndex_neg (by omega) h4] at h1
      rw [List.size_toArray, <- hl]
      exact Option.some.inj h1
    exact subscriptTail_builtinR (x := w) pl.isList.typeIs slot_list_getitem.lookup
      (wpAny_getItem_list_neg (Q := fun r s' => r = w /\ EP X pins σ Q r s') pl.isList (by omega) (by rw [List.size_toArray] <;> omega) (by omega) (by rw [hj]; simpa using ew) ⟨rfl, fin⟩) hs
theorem a0i : IxR X (b1d X.K) := by
  intro value slice pins s σ H x y v u Q I rx ry h hs
  obtain ⟨p, xs, i, z, rfl, rfl, hq, he, q⟩ := h
  cases rx
  obtain ⟨t, rfl⟩ := ry
  obtain ⟨its, r, pl, hz⟩ := I.tuple hq
  obtain ⟨j, h1, h2, h3, h4, h5⟩ := a1i he
  obtain ⟨w, ew, rw'⟩ := r.get h2
  have hl := r.length
  have hn := T8
  have fin : EP X pins σ Q w s := ⟨z, H, I, rw', q⟩
  exact subscriptTail_builtinR (x := w) pl.typeIs slot_tuple_getitem.lookup
    (getItem_tuple (j := j) (Q := fun r s' => r = w /\ EP X pins σ Q r s') pl (by omega) (by omega) (by rw [List.size_toArray, <- hl]; exact h1) (by simpa using ew) ⟨rfl, fin⟩) hs
theorem a0t : IxR X b1N := by
  intro value slice pins s σ H x y v u Q I rx ry h hs
  obtain ⟨z, i, c, rfl, rfl, hz, he, q⟩ := h
  obtain ⟨t, rfl⟩ := rx
  obtain ⟨t', rfl⟩ := ry
  obtain ⟨j, h1, h2, h3, h4, h5⟩ := a1i he
  have hl : z.cps.toList.length = z.length := by simp [Str.length]
  rw [hl] at h1 h4 h5
  have hn := T8
  exact tail_any (typeIs_str s z t) slot_str_getitem.lookup (getItem_str (c := c) (by
    have e1 : decide (i < -(2 ^ 63 : Int)) = false := decide_eq_false (by omega)
    have e2 : decide (i ≥ 2 ^ 63) = false := decide_eq_false (by omega)
    rw [e1, e2, Bool.or_false]) (by rw [h1]; simpa using h2) ⟨.str ⟨#[c]⟩, H, I.tok _, ⟨_, rfl⟩, q⟩) hs
theorem a2S (its : List Value) (n j : Nat) (u : Value) : Obj.mapSeq (·.setIfInBounds j u) { cls := .type "list", data := .seq its.toArray n } = { cls := .type "list", data := .seq (its.set j u).toArray n } := by
  simp [Obj.mapSeq]
theorem Inv.lst {pins : List (Addr × Obj)} {σ : St} {H : Hp} {s : Shared} {p : Addr} {xs : List V} (I : Inv X pins σ H s) (h : H p = some (.lst xs)) :
    ∃ (its : List Value) (n : Nat), Vals xs its /\ s.heap.get? p = some { cls := .type "list", data := .seq its.toArray n } /\ xs.length <= sizeLine := by
  obtain ⟨z, its, n, r, e⟩ := I.hok p _ h
  exact ⟨its, n, r, e, z⟩
theorem Inv.lstUpd {pins : List (Addr × Obj)} {σ : St} {H : Hp} {s : Shared} {p : Addr} {xs ys : List V} {its its' : List Value} {n n' : Nat} {f : Obj -> Obj} (I : Inv X pins σ H s) (h : H p = some (.lst xs))
    (ho : s.heap.get? p = some { cls := .type "list", data := .seq its.toArray n }) (hf : f { cls := .type "list", data := .seq its.toArray n } = { cls := .type "list", data := .seq its'.toArray n' }) (r : Vals ys its') (hz : ys.length <= sizeLine) (t : Nat) :
    Inv X pins σ (upd H p (.lst ys)) { s with heap := s.heap.update p f, toks := t } := by
  have e : (s.heap.update p f).get? p = some { cls := .type "list", data := .seq its'.toArray n' } := by
    rw [Heap.get?_update_self f ho (by rw [hf] <;> rfl), hf]
  refine I.write (x := p) (e := p) (by rw [h]; trivial) (.inl rfl) (fun b u hb q => (Heap.get?_update_other _ _ (Ne.symm hb)).trans q) ⟨_, e⟩ ?_
  exact ⟨hz, its', n', r, e⟩
def a9R : V -> V -> V -> Hp -> (Hp -> Prop) -> Prop := fun o i v H Q => ∃ p xs k j, o = .ref p /\ i = .int k /\ H p = some (.lst xs) /\ ixN xs.length k = some j /\ Q (upd H p (.lst (xs.set j v)))
theorem a0d : a9T X a9R := by
  intro pins s σ H o i v ov iv u Q I ro ri rv h
  obtain ⟨p, xs, k, j, rfl, rfl, hp, hj, q⟩ := h
  cases ro
  obtain ⟨t, rfl⟩ := ri
  obtain ⟨its, n, r, ho, hz⟩ := I.lst hp
  obtain ⟨h1, h2, h3, h4⟩ := a3j hj
  have hl := r.length
  have hn := T8
  have I' : Inv X pins σ (upd H p (.lst (xs.set j v))) { s with heap := s.heap.update p (Obj.mapSeq (·.setIfInBounds j u)) } :=
    I.lstUpd hp ho (a2S its n j u) (r.set rv j) (by rw [List.length_set]; exact hz) s.toks
  by_cases h0 : 0 <= k
  . have hk : k.toNat = j := by
      rw [seqIndex_of h0 h4] at h1
      exact Option.some.inj h1
    exact W.ki_setAt ho h0 (by omega) (by rw [List.size_toArray, <- hl]; exact h4) (by rw [hk]; exact ⟨_, I', q⟩)
  . have hk : (k + (its.toArray.size : Int)).toNat = j := by
      rw [seqIndex_neg (by omega) h3] at h1
      rw [List.size_toArray, <- hl]
      exact Option.some.inj h1
    exact W.ki_setBack ho (by omega) (by rw [List.size_toArray, <- hl]; exact h3) (by omega) (by rw [hk]; exact ⟨_, I', q⟩)
theorem a1q (lo hi : Option Int) (n : Nat) : (sliceBounds lo hi none n).1 = ((HT.sIx n 0 lo : Nat) : Int) /\ (sliceBounds lo hi none n).2.1 = ((HT.sIx n n hi : Nat) : Int) /\ (sliceBounds lo hi none n).2.2 = 1 := by
  refine ⟨?_, ?_, rfl⟩
  . cases lo with
    | none => simp [sliceBounds, HT.sIx]
    | some i =>
      simp only [sliceBounds, HT.sIx, Option.getD_none, show (1 : Int) > 0 by decide, if_true]
      by_cases h : i < 0
      . simp only [h, if_true] <;> omega
      . simp only [h, if_false] <;> omega
  . cases hi with
    | none => simp [sliceBounds, HT.sIx]
    | some i =>
      simp only [sliceBounds, HT.sIx, Option.getD_none, show (1 : Int) > 0 by decide, if_true]
      by_cases h : i < 0
      . simp only [h, if_true] <;> omega
      . simp only [h, if_false] <;> omega
theorem a0y (its : List Value) (lo hi : Option Int) : slicePick its.toArray lo hi none = ((its.drop (HT.sIx its.length 0 lo)).take (HT.sIx its.length its.length hi - HT.sIx its.length 0 lo)).toArray := by
  obtain ⟨h1, h2, h3⟩ := a1q lo hi its.toArray.size
  unfold slicePick
  rw [h1, h2, h3]
  simp only [sliceRange_one, pick_run, List.size_toArray] <;> rfl
def b1F (K : W.Frag) : V -> Option Int -> Option Int -> Hp -> VK -> Prop := fun x lo hi H Q => ∃ a xs, x = .ref a /\ SqL K H a xs /\ ∀ p, H p = none -> Q (.ref p) (upd H p (.lst (O4 xs lo hi)))
theorem M6 : SlR X (b1F X.K) := by
  intro pins s σ H x v vl vu lo hi sl Q I rx hs pl pu h
  obtain ⟨a, xs, rfl, hx, q⟩ := h
  cases rx
  obtain ⟨its, r, ht, hz⟩ := I.list hx
  have hlen := r.length
  refine ⟨"list", _, slot_list_getitem.lookup, ht.isList.typeIs, ?_⟩
  refine wpAny_getItem_list_slice ht.isList hs pl pu .none (by simp) ?_ (by rw [List.size_toArray] <;> omega)
  rw [a0y, <- hlen]
  refine ⟨.ref s.heap.objs.size, _, I.laid (t' := s.toks) (o := .lst (O4 xs lo hi)) (fun b ob q => Heap.get?_push_of_some _ q) (Nat.le_refl _) ?_, rfl, q _ (I.hok.fresh (Nat.le_refl _))⟩
  exact ⟨Nat.le_trans (X8 xs lo hi) hz, _, 0, (r.drop (HT.sIx xs.length 0 lo)).take (HT.sIx xs.length xs.length hi - HT.sIx xs.length 0 lo), Heap.get?_push_size _ rfl⟩
def V3 : V -> Bool
  | .non => true
  | .bl _ => true
  | .int _ => true
  | .str _ => true
  | _ => false
def eqV : V -> V -> Bool
  | .non, .non => true
  | .bl a, .bl b => a == b
  | .bl a, .int b => (if a then 1 else 0) == b
  | .int a, .bl b => a == (if b then 1 else 0)
  | .int a, .int b => a == b
  | .str a, .str b => a == b
  | _, _ => false
theorem a8B {A : Around} {s : Shared} {y x : V} {u v : Value} (ry : RelV y u) (rx : RelV x v) (fy : V3 y = true) (fx : V3 x = true) : SeqAt.EqAt A s u v (eqV y x) := by
  cases y with
  | non =>
    cases ry
    cases x with
    | non => cases rx; exact SeqAt.EqAt.same _
    | bl b => cases rx; exact SeqAt.EqAt.none_bool b
    | int b => obtain ⟨t, rfl⟩ := rx; exact SeqAt.EqAt.none_int b t
    | str b => obtain ⟨t, rfl⟩ := rx; exact SeqAt.EqAt.none_str b t
    | _ => exact absurd (show false = true from fx) Bool.false_ne_true
  | bl a =>
    cases ry
    cases x with
    | non => cases rx; exact SeqAt.EqAt.bool_none a
    | bl b => cases rx; exact SeqAt.EqAt.bool_bool a b
    | int b => obtain ⟨t, rfl⟩ := rx; exact SeqAt.EqAt.bool_int a b t
    | str b => obtain ⟨t, rfl⟩ := rx; exact SeqAt.EqAt.bool_str a b t
    | _ => exact absurd (show false = true from fx) Bool.false_ne_true
  | int a =>
    obtain ⟨t', rfl⟩ := ry
    cases x with
    | non => cases rx; exact SeqAt.EqAt.int_none a t'
    | bl b => cases rx; exact SeqAt.EqAt.int_bool a t' b
    | int b => obtain ⟨t, rfl⟩ := rx; exact SeqAt.EqAt.int_int a t' b t
    | str b => obtain ⟨t, rfl⟩ := rx; exact SeqAt.EqAt.int_str a t' b t
    | _ => exact absurd (show false = true from fx) Bool.false_ne_true
  | str a =>
    obtain ⟨t', rfl⟩ := ry
    cases x with
    | non => cases rx; exact SeqAt.EqAt.str_none a t'
    | bl b => cases rx; exact SeqAt.EqAt.str_bool a t' b
    | int b => obtain ⟨t, rfl⟩ := rx; exact SeqAt.EqAt.str_int a t' b t
    | str b => obtain ⟨t, rfl⟩ := rx; exact SeqAt.EqAt.str_str a t' b t
    | _ => exact absurd (show false = true from fx) Bool.false_ne_true
  | _ => exact absurd (show false = true from fy) Bool.false_ne_true
def eqU (x : V) (u : Value) : Bool := match u with
  | .none => eqV .non x
  | .bool b => eqV (.bl b) x
  | .int i _ => eqV (.int i) x
  | .str z _ => eqV (.str z) x
  | _ => false
theorem a4Y {x y : V} {u : Value} (r : RelV y u) (f : V3 y = true) : eqU x u = eqV y x := by
  cases y with
  | non => cases r; rfl
  | bl b => cases r; rfl
  | int i => obtain ⟨t, rfl⟩ := r; rfl
  | str z => obtain ⟨t, rfl⟩ := r; rfl
  | _ => exact absurd (show false = true from f) Bool.false_ne_true
theorem a1u {x : V} : ∀ {xs : List V} {us : List Value}, Vals xs us -> xs.all V3 = true -> us.any (eqU x) = xs.any fun y => eqV y x
  | _, _, .nil, _ => rfl
  | y :: xs, u :: us, .cons r t, f => by
    rw [List.all_cons, Bool.and_eq_true] at f
    rw [List.any_cons, List.any_cons, a4Y r f.1, a1u t f.2]
theorem a0n {A : Around} {s : Shared} {x : V} {v : Value} (rx : RelV x v) (fx : V3 x = true) : ∀ {xs : List V} {us : List Value}, Vals xs us -> xs.all V3 = true -> ∀ u ∈ us, SeqAt.EqAt A s u v (eqU x u)
  | _, _, .nil, _ => fun u hu => by cases hu
  | y :: xs, u :: us, .cons r t, f => fun u' hu => by
    rw [List.all_cons, Bool.and_eq_true] at f
    rcases List.mem_cons.mp hu with rfl | hu
    . rw [a4Y r f.1]; exact a8B r rx f.1 fx
    . exact a0n rx fx t f.2 u' hu
def inV (x : V) (xs : List V) : Bool := xs.any fun y => eqV y x
def rIn (K : W.Frag) (neg : Bool) : R2 := fun x y H Q => ∃ p xs, y = .ref p /\ (SqL K H p xs \/ SqT K H p xs) /\ V3 x = true /\ xs.all V3 = true /\ Q (.bl (if neg then !inV x xs else inV x xs)) H
theorem W2 : P6 X (compareOp .In) (rIn X.K false) := by
  intro pins s σ H x y v u Q I rx ry h
  obtain ⟨p, xs, rfl, hq, fx, fs, q⟩ := h
  cases ry
  rcases hq with hq | hq
  . obtain ⟨its, r, pl, hz⟩ := I.list hq
    refine SeqAt.in_listAt (eqU x) pl.isList (fun w hw => a0n rx fx r fs w (by simpa using hw)) ⟨.bl _, H, I, rfl, ?_⟩
    rw [show its.toArray.any (eqU x) = its.any (eqU x) by simp, a1u r fs]
    exact q
  . obtain ⟨its, r, pl, hz⟩ := I.tuple hq
    refine SeqAt.in_tupleAt (eqU x) pl (fun w hw => a0n rx fx r fs w (by simpa using hw)) ⟨.bl _, H, I, rfl, ?_⟩
    rw [show its.toArray.any (eqU x) = its.any (eqU x) by simp, a1u r fs]
    exact q
theorem j8 : G1 X (.builtin "len") (fun xs H Q => ∃ p ys, xs = [.ref p] /\ (SqL X.K H p ys \/ SqT X.K H p ys) /\ Q (.int ys.length) H) := by
  intro pins s σ H xs us Q I r h
  obtain ⟨p, ys, rfl, hq, q⟩ := h
  obtain ⟨u, rfl, rx⟩ := Q0 r
  cases rx
  have hn := T8
  rcases hq with hq | hq
  . obtain ⟨its, r', pl, hz⟩ := I.list hq
    have hlen := r'.length
    exact Calls.call_len_list pl.isList (by simp only [List.size_toArray] <;> omega) ⟨.int ys.length, H, I.tok _, ⟨s.toks + 1, by rw [List.size_toArray, hlen]⟩, q⟩
  . obtain ⟨its, r', pl, hz⟩ := I.tuple hq
    have hlen := r'.length
    exact len_tuple pl (by simp only [List.size_toArray] <;> omega) ⟨.int ys.length, H, I.tok _, ⟨s.toks + 1, by rw [List.size_toArray, hlen]⟩, q⟩
theorem E8 : G1 X (.builtin "len") (fun xs H Q => ∃ z, xs = [.str z] /\ z.length <= sizeLine /\ Q (.int z.length) H) := by
  intro pins s σ H xs us Q I r h
  obtain ⟨z, rfl, hz, q⟩ := h
  obtain ⟨u, rfl, t, rfl⟩ := Q0 r
  have hn := T8
  exact len_str (by omega) ⟨.int z.length, H, I.tok _, ⟨_, rfl⟩, q⟩
theorem a1C : G1 X (.type "list") (fun xs H Q => ∃ p ys, xs = [.ref p] /\ (SqL X.K H p ys \/ SqT X.K H p ys) /\ ∀ l, H l = none -> Q (.ref l) (upd H l (.lst ys))) := by
  intro pins s σ H xs us Q I r h
  obtain ⟨p, ys, rfl, hq, q⟩ := h
  obtain ⟨u, rfl, rx⟩ := Q0 r
  cases rx
  have fin : ∀ (its : List Value), Vals ys its -> ys.length <= sizeLine -> ∀ (h' : Heap) (c' : Nat), (∀ b o', s.heap.get? b = some o' -> h'.get? b = some o') →
      h'.get? s.heap.objs.size = some { cls := .type "list", dict := none, data := .seq its.toArray c', slots := #[] } -> EP X pins σ Q (.ref s.heap.objs.size) { s with heap := h' } := fun its r' hz h' c' kp e =>
    ⟨.ref s.heap.objs.size, _, I.laid (t' := s.toks) kp (Nat.le_refl _) (show ObjOk X.prog X.w _ h' _ (.lst ys) from ⟨hz, its, c', r', e⟩), rfl, q _ (I.hok.fresh (Nat.le_refl _))⟩
  rcases hq with hq | hq
  . obtain ⟨its, r', pl, hz⟩ := I.list hq
    have hlen := r'.length
    obtain ⟨o, ho, hc, n, hd⟩ := pl.isList
    exact call_list_seq p (.inl rfl) ho hc hd (fun h' c' kp e => fin its r' hz h' c' kp e) (by simp only [List.size_toArray] <;> omega)
  . obtain ⟨its, r', pl, hz⟩ := I.tuple hq
    have hlen := r'.length
    obtain ⟨o, ho, hc, n, hd⟩ := pl
    exact call_list_seq p (.inr rfl) ho hc hd (fun h' c' kp e => fin its r' hz h' c' kp e) (by simp only [List.size_toArray] <;> omega)
theorem A9 : G1 X (.type "tuple") (fun xs H Q => ∃ p ys, xs = [.ref p] /\ ((SqL X.K H p ys /\ ∀ l, H l = none -> Q (.ref l) (upd H l (.tup ys))) \/ (SqT X.K H p ys /\ Q (.ref p) H))) := by
  intro pins s σ H xs us Q I r h
  obtain ⟨p, ys, rfl, h⟩ := h
  obtain ⟨u, rfl, rx⟩ := Q0 r
  cases rx
  rcases h with ⟨hq, q⟩ | ⟨hq, q⟩
  . obtain ⟨its, r', pl, hz⟩ := I.list hq
    have hlen := r'.length
    refine call_tuple_list pl.isList (fun h' kp => ?_) (by simp only [List.size_toArray] <;> omega)
    have I1 : Inv X pins σ H { s with heap := h' } := I.kept (t' := s.toks) kp
    have I2 : Inv X pins σ (upd H h'.objs.size (.tup ys)) { s with heap := h'.push { cls := .type "tuple", data := .seq its.toArray } } :=
      I1.laid (t' := s.toks) (fun b o e => Heap.get?_push_of_some _ e) (Nat.le_refl _) (show ObjOk X.prog X.w _ _ _ (.tup ys) from ⟨hz, its, r', IsTup.new _ _⟩)
    exact ⟨.ref h'.objs.size, _, I2, rfl, q _ (I1.hok.fresh (Nat.le_refl _))⟩
  . obtain ⟨its, r', pl, hz⟩ := I.tuple hq
    exact call_tuple_same pl ⟨.ref p, H, I, rfl, q⟩
def tyV (K : W.Frag) (T : String) (x : V) (H : Hp) : Prop := match x with
  | .str _ => T = "str"
  | .int _ => T = "int"
  | .ref p => (T = "list" /\ ∃ xs, SqL K H p xs) \/ (T = "tuple" /\ ∃ o, K.lookup p = some o /\ o.cls = .type "tuple" /\ o.dict = none) ∨
      (T = "dict" /\ ((∃ kvs, H p = some (.dK kvs)) \/ ∃ kvs, H p = some (.dT kvs))) \/ (T = "set" /\ ∃ S n, H p = some (.set S n))
  | _ => False
theorem a5t {pins : List (Addr × Obj)} {σ : St} {H : Hp} {s : Shared} {T : String} {x : V} {v : Value} (I : Inv X pins σ H s) (r : RelV x v) (ty : tyV X.K T x H) :
    s.TypeIs v T /\ ∀ a, v = .ref a -> ∃ ob, s.heap.get? a = some ob /\ ob.dict = none := by
  cases x with
  | str z =>
    obtain ⟨t, rfl⟩ := r
    cases (show T = "str" from ty)
    exact ⟨typeIs_str s z t, fun _ e => nomatch e⟩
  | int i =>
    obtain ⟨t, rfl⟩ := r
    cases (show T = "int" from ty)
    exact ⟨typeIs_int s i t, fun _ e => nomatch e⟩
  | ref p =>
    cases r
    rcases ty with ⟨rfl, xs, hq⟩ | ⟨rfl, o, hk, hc, hd⟩ | ⟨rfl, hk⟩ | ⟨rfl, S, n, hk⟩
    . obtain ⟨its, _, pl, _⟩ := I.list hq
      refine ⟨pl.isList.typeIs, fun a e => ?_⟩
      cases e
      obtain ⟨o, n, e, c, hd, _⟩ := pl
      exact ⟨o, e, hd⟩
    . refine ⟨⟨o, I.kIn p o hk, hc⟩, fun a e => ?_⟩
      cases e
      exact ⟨o, I.kIn _ o hk, hd⟩
    . have z : ∃ o, s.heap.get? p = some o /\ o.ExactDict := by
        rcases hk with ⟨kvs, hk⟩ | ⟨kvs, hk⟩
        . obtain ⟨_, _, _, _, o, _, _, e, ex, _⟩ := I.hok p _ hk
          exact ⟨o, e, ex⟩
        . obtain ⟨_, _, _, _, o, _, _, e, ex, _⟩ := I.hok p _ hk
          exact ⟨o, e, ex⟩
      obtain ⟨o, e, ex⟩ := z
      refine ⟨⟨o, e, ex.1⟩, fun a e2 => ?_⟩
      cases e2
      exact ⟨o, e, ex.2.1⟩
    . obtain ⟨o, _, _, _, e, ex, _⟩ := I.hok p _ hk
      refine ⟨⟨o, e, ex.1⟩, fun a e2 => ?_⟩
      cases e2
      exact ⟨o, e, ex.2.1⟩
  | _ => exact False.elim ty
def b0U (K : W.Frag) (T : String) (r : V -> List V -> Hp -> VK -> Prop) (to : TE) : TE := fun σ H Q => to σ H fun x H1 => tyV K T x H1 /\ r x [] H1 Q
def tBM (K : W.Frag) (T : String) (r : V -> List V -> Hp -> VK -> Prop) (to : TE) (t : TA) : TE := fun σ H Q => to σ H fun x H1 => tyV K T x H1 /\ t σ H1 fun xs H2 => r x xs H2 Q
variable {o e : Expr} {es : List Expr} {to : TE} {t : TA} {name : Str} {apos cpos : Pos} {T id : String} {r : V -> List V -> Hp -> VK -> Prop}
theorem a8p (pa : PlainAttrs T) (slot : Slot T name id) (hty : typeOf (.builtin id) = pure (.type "method_descriptor")) (hm : MtR X id r) (ho : PE X o to)
    (hbase : attributeBase o name X.env (eval o X.env) = eval o X.env := by rfl) (hline : (apos.endLine == cpos.line) = true := by rfl) : PE X (.Call (.Attribute o name apos) [] [] cpos) (b0U X.K T r to) := by
  intro pins s σ H Q I h
  refine wpAny_Call_method0_late hbase hline (A6 (ho pins s σ H _ I h) fun v s1 ⟨x, H1, I1, r1, ty, q1⟩ => ?_)
  obtain ⟨h1, h2⟩ := a5t I1 r1 ty
  exact ⟨T, id, pa, slot, hty, h1, h2, Calls.callWith_builtin rfl (PySem.evalArgs_none (hm pins s1 σ H1 x [] v [] Q I1 r1 .nil q1))⟩
theorem E5 (pa : PlainAttrs T) (slot : Slot T name id) (hty : typeOf (.builtin id) = pure (.type "method_descriptor")) (hm : MtR X id r) (ho : PE X o to) (ha : PA X (e :: es) t)
    (hbase : attributeBase o name X.env (eval o X.env) = eval o X.env := by rfl)
    (hfew : ((backTo cpos (starEach (e :: es) X.env)).all (fun x => !x.1) && (backToKw cpos (keywordEach [] X.env)).all (fun x => x.1.isSome)
      && decide ((e :: es).length + ([] : List Keyword).length + (if ([] : List Keyword).isEmpty then 0 else 1) < 30)) = true := by rfl)
    (hline : (apos.endLine == cpos.line) = true := by rfl) (hs : starEach (e :: es) X.env = (false, eval e X.env) :: starEach es X.env := by rfl) (hplain : (backTo cpos (starEach es X.env)).any (·.1) = false := by rfl) :
    PE X (.Call (.Attribute o name apos) (e :: es) [] cpos) (tBM X.K T r to t) := by
  intro pins s σ H Q I h
  refine wpAny_Call_method_late hbase hfew hline rfl (A6 (ho pins s σ H _ I h) fun v s1 ⟨x, H1, I1, r1, ty, q1⟩ => ?_)
  obtain ⟨h1, h2⟩ := a5t I1 r1 ty
  refine ⟨T, id, pa, slot, hty, h1, h2, ?_⟩
  have hA := ha cpos pins s1 σ H1 _ I1 q1
  rw [hs] at hA ⊢
  refine Calls.callWith_builtin (by show (false || (backTo cpos (starEach es X.env)).any (·.1)) = false; rw [hplain] <;> rfl) (Calls.evalArgs_plain ?_)
  exact A6 hA fun us s2 ⟨vs, H2, I2, r2, q2⟩ => hm pins s2 σ H2 x vs v us Q I2 r1 r2 q2
/- xs.append(e), list.index on a module's tuple .. are MtR facts of 06m -/
end
end L2
namespace L2
open PySem PySem.Spec PyProof.Rows
def MtM (X : Cx) (id : String) (r : V -> List V -> Hp -> VK -> Prop) : Prop :=
  ∀ (pins : List (Addr × Obj)) (s : Shared) (σ : St) (H : Hp) (x : V) (xs : List V) (v : Value) (us : List Value) (Q : VK), Inv X pins σ H s -> RelV x v -> Vals xs us -> r x xs H Q →
    wpAny (model X.prog X.w) X.A (call (.builtin id) (v :: us)) (EP X pins σ Q) X.xe s
theorem Vals.one : ∀ {x : V} {us : List Value}, Vals [x] us -> ∃ u, us = [u] /\ RelV x u
  | _, _, .cons r .nil => ⟨_, rfl, r⟩
theorem Vals.zero : ∀ {us : List Value}, Vals [] us -> us = []
  | _, .nil => rfl
theorem Vals.dropLast {xs : List V} {us : List Value} (h : Vals xs us) : Vals xs.dropLast us.dropLast := by
  induction h with
  | nil => exact .nil
  | cons r t ih =>
    cases t with
    | nil => exact .nil
    | cons q t' => exact .cons r ih
theorem Vals.rep {xs : List V} {us : List Value} (h : Vals xs us) : ∀ k : Nat, Vals (List.replicate k xs).flatten (List.replicate k us).flatten
  | 0 => .nil
  | k + 1 => by
    rw [List.replicate_succ, List.replicate_succ, List.flatten_cons, List.flatten_cons]
    exact Vals.append h (Vals.rep h k)
theorem a2X {α : Type} (l : List α) : l.eraseIdx (l.length - 1) = l.dropLast := by
  induction l with
  | nil => rfl
  | cons a r ih =>
    cases r with
    | nil => rfl
    | cons b r =>
      have e : (a :: b :: r).length - 1 = ((b :: r).length - 1) + 1 := by
        have h1 : (a :: b :: r).length = r.length + 2 := rfl
        have h2 : (b :: r).length = r.length + 1 := rfl
        omega
      rw [e, List.eraseIdx_cons_succ, ih]
      all_goals rfl
theorem a0K (its : List Value) : ∀ (k : Nat) (acc : List Value),
    List.foldl (fun x1 x2 => x1 ++ x2) acc.toArray (List.replicate k its.toArray) = (acc ++ (List.replicate k its).flatten).toArray
  | 0, acc => by simp
  | k + 1, acc => by
    have e : acc.toArray ++ its.toArray = (acc ++ its).toArray := by simp
    have e2 : (acc ++ its) ++ (List.replicate k its).flatten = acc ++ (List.replicate (k + 1) its).flatten := by
      rw [List.replicate_succ, List.flatten_cons, List.append_assoc]
    rw [<- e2, <- a0K its k (acc ++ its), <- e, List.replicate_succ, List.foldl_cons]
section
variable {X : Cx} {pins : List (Addr × Obj)} {σ : St} {H : Hp} {s : Shared} {l b : Addr} {xs ys zs : List V}
theorem Inv.lset {its its' : List Value} {n : Nat} {f : Array Value -> Array Value} {t' : Nat} (I : Inv X pins σ H s) (hH : H l = some (.lst xs))
    (e : s.heap.get? l = some { cls := .type "list", data := .seq its.toArray n }) (hf : f its.toArray = its'.toArray) (hv : Vals ys its') (hz : ys.length <= sizeLine) :
    Inv X pins σ (upd H l (.lst ys)) { s with heap := s.heap.update l (Obj.mapSeq f), toks := t' } := by
  have q := PySem.IsL.update e f
  rw [hf] at q
  refine I.write (x := l) (e := l) (by rw [hH]; exact trivial) (.inl rfl) (fun b' u hb hu => (Heap.get?_update_other s.heap (Obj.mapSeq f) (Ne.symm hb)).trans hu) ⟨_, q⟩ ?_
  exact ⟨hz, its', _, hv, q⟩
theorem Inv.lnew {its : List Value} {t' : Nat} (I : Inv X pins σ H s) (hv : Vals ys its) (hz : ys.length <= sizeLine) :
    Inv X pins σ (upd H s.heap.objs.size (.lst ys)) { s with heap := s.heap.push { cls := .type "list", data := .seq its.toArray }, toks := t' } :=
  I.laid (fun _ _ q => Heap.get?_push_of_some _ q) (Nat.le_refl _) ⟨hz, its, 0, hv, Heap.get?_push_size _ rfl⟩
theorem Inv.fresh (I : Inv X pins σ H s) : H s.heap.objs.size = none := I.hok.fresh (Nat.le_refl _)
theorem Inv.lstM (I : Inv X pins σ H s) (hH : H l = some (.lst xs)) : xs.length <= sizeLine /\ ∃ (its : List Value) (n : Nat), Vals xs its /\ xs.length = its.length /\ s.heap.get? l = some { cls := .type "list", data := .seq its.toArray n } := by
  obtain ⟨z, its, n, r, e⟩ := I.hok l _ hH
  exact ⟨z, its, n, r, r.length, e⟩
theorem a5o {n : Nat} (h : n <= sizeLine) : Builtin.List.listTooLong n = false := by
  unfold Builtin.List.listTooLong
  exact decide_eq_false (by omega)
end
section
variable {X : Cx}
def a6l : V -> List V -> Hp -> VK -> Prop := fun x vs H Q => ∃ l xs y, x = .ref l /\ vs = [y] /\ H l = some (.lst xs) /\ xs.length < sizeLine /\ Q .non (upd H l (.lst (xs ++ [y])))
theorem K7 : MtM X "list.append" a6l := by
  intro pins s σ H x vs v us Q I rx rv h
  obtain ⟨l, xs, y, rfl, rfl, hH, hz, q⟩ := h
  cases rx
  obtain ⟨u, rfl, ru⟩ := rv.one
  obtain ⟨z, its, n, r, hl, e⟩ := I.lstM hH
  refine call_meets F.slot_list_append ⟨_, e, rfl⟩ F.entry_list_append (F.args_list_append_2 _ _) (PySem.list_append l its.toArray n u (by rw [List.size_toArray]; omega)) ⟨e, ?_⟩
  refine ⟨.non, _, I.lset (its' := its ++ [u]) hH e (by simp) (r.append (.cons ru .nil)) ?_, rfl, q⟩
  rw [List.length_append, List.length_singleton]
  omega
def b1c : V -> List V -> Hp -> VK -> Prop := fun x vs H Q => ∃ l xs y, x = .ref l /\ vs = [] /\ H l = some (.lst xs) /\ xs[xs.length - 1]? = some y /\ Q y (upd H l (.lst xs.dropLast))
theorem a8g : MtM X "list.pop" b1c := by
  intro pins s σ H x vs v us Q I rx rv h
  obtain ⟨l, xs, y, rfl, rfl, hH, hy, q⟩ := h
  cases rx
  have hus := rv.zero
  subst hus
  obtain ⟨z, its, n, r, hl, e⟩ := I.lstM hH
  obtain ⟨u, hu, ru⟩ := r.get hy
  have hy' : its.toArray[its.toArray.size - 1]? = some u := by
    show its.toArray[its.length - 1]? = some u
    rw [<- Array.getElem?_toList, <- hl]
    exact hu
  refine call_meets F.slot_list_pop ⟨_, e, rfl⟩ F.entry_list_pop (F.args_list_pop_1 _) (MeetsSeq.list_pop_last l its.toArray n u hy' (by rw [List.size_toArray]; omega)) ⟨e, ?_⟩
  refine ⟨y, _, I.lset (its' := its.dropLast) hH e ?_ r.dropLast ?_, ru, q⟩
  . show its.toArray.eraseIdxIfInBounds (its.toArray.size - 1) = its.dropLast.toArray
    rw [List.size_toArray, List.eraseIdxIfInBounds_toArray, a2X]
  . rw [List.length_dropLast]
    omega
def b1g : R2 := fun x y H Q => ∃ l b xs zs, x = .ref l /\ y = .ref b /\ H l = some (.lst xs) /\ H b = some (.lst zs) /\ xs.length + zs.length <= sizeLine /\ ∀ p, H p = none -> Q (.ref p) (upd H p (.lst (xs ++ zs)))
theorem U0 : P6 X (binaryOp .Add) b1g := by
  intro pins s σ H x y v u Q I rx ry h
  obtain ⟨l, b, xs, zs, rfl, rfl, hH, hB, hz, q⟩ := h
  cases rx
  cases ry
  obtain ⟨z, its, n, r, hl, e⟩ := I.lstM hH
  obtain ⟨z2, its2, n2, r2, hl2, e2⟩ := I.lstM hB
  refine PySem.P.add_list e e2 ?_ (by rw [List.size_toArray, List.size_toArray]; omega)
  have ea : its.toArray ++ its2.toArray = (its ++ its2).toArray := by simp
  rw [ea]
  exact ⟨.ref _, _, I.lnew (t' := s.toks) (r.append r2) (by rw [List.length_append]; omega), rfl, q _ I.fresh⟩
def b1J : R2 := fun x y H Q => ∃ l k xs, x = .ref l /\ y = .int k /\ H l = some (.lst xs) /\ -(2 ^ 63) <= k /\ k < 2 ^ 63 /\ xs.length * k.toNat <= sizeLine ∧
  ∀ p, H p = none -> Q (.ref p) (upd H p (.lst (List.replicate k.toNat xs).flatten))
theorem a7c {α : Type} (xs : List α) (k : Nat) : (List.replicate k xs).flatten.length = k * xs.length := by
  induction k with
  | zero => simp
  | succ k ih => rw [List.replicate_succ, List.flatten_cons, List.length_append, ih, Nat.succ_mul, Nat.add_comm]
theorem a2x : P6 X (binaryOp .Mult) b1J := by
  intro pins s σ H x y v u Q I rx ry h
  obtain ⟨l, k, xs, rfl, rfl, hH, h1, h2, hz, q⟩ := h
  cases rx
  obtain ⟨t, rfl⟩ := ry
  obtain ⟨z, its, n, r, hl, e⟩ := I.lstM hH
  have hlen : its.toArray.size * k.toNat <= sizeLine := by rw [List.size_toArray, <- hl]; exact hz
  have hcap : ¬ its.toArray.size * k.toNat > (2 ^ 63 - 1) / 8 := by
    have : (sizeLine : Nat) <= (2 ^ 63 - 1) / 8 := by decide
    omega
  have hfit : ¬ (!Builtin.List.listFitsIndex k) = true := by
    rw [fitsIndex_both h1 h2]
    exact Bool.false_ne_true
  have hlong : ¬ Builtin.List.listTooLong (its.toArray.size * k.toNat) = true := by
    rw [a5o hlen]
    exact Bool.false_ne_true
  have hnew : List.foldl (fun x1 x2 => x1 ++ x2) #[] (List.replicate (if its.toArray.isEmpty = true then 0 else k.toNat) its.toArray) = (List.replicate k.toNat its).flatten.toArray := by
    have f0 : ∀ m : Nat, List.foldl (fun x1 x2 => x1 ++ x2) #[] (List.replicate m its.toArray) = (List.replicate m its).flatten.toArray := fun m => by
      have := a0K its m []
      rw [List.nil_append] at this
      exact this
    rw [f0]
    cases its with
    | nil => simp
    | cons a r' => rw [if_neg (by simp)]
  refine wpAny_binaryOp_repeat_ref (T := "list") (U := "int") (by decide) ⟨_, e, rfl⟩ (fun s' => typeIs_int s' k t) noFill_list_mul F.fills_int_mul F.slot_int_rmul repeat_list F.slot_int_index.lookup
    (call_meets F.slot_int_rmul (typeIs_int s k t) F.entry_int_rmul (F.args_int_rmul_2 _ _) (int___rmul___int_list k t l its.toArray n)
      ⟨e, rfl, ⟨_, e, rfl⟩, call_meets F.slot_list_mul ⟨_, e, rfl⟩ F.entry_list_mul (F.args_list_mul_2 _ _) (AutoListH.list___mul___list_int_3 l its.toArray n k t hfit hcap hlong) ⟨e, ?_⟩⟩)
  rw [hnew]
  exact ⟨.ref _, _, I.lnew (t' := s.toks) (r.rep k.toNat) (by rw [a7c, Nat.mul_comm]; exact hz), rfl, q _ I.fresh⟩
end
section
variable {prog : Program} {w : World} {A : Around} {E : Value -> Shared -> Prop} {s : Shared}
end
section
variable {X : Cx}
end
end L2
namespace Att
open PySem PySem.W PySem.Calls PyProof.Rows
theorem Y4 {P : Params} {h : Heap} : ∀ (ns : List Int) (vs : List Value), WellAll P h vs (ns.map WData.int) -> IntsAre vs ns := by
  intro ns
  induction ns with
  | nil =>
    intro vs w
    rw [List.map_nil] at w
    cases w
    exact .nil
  | cons n ns ih =>
    intro vs w
    rw [List.map_cons] at w
    cases w with
    | cons a b =>
      cases a
      exact .cons _ _ (ih _ b)
theorem a3Y {l : OpenLaw} {n : Nat} (hn : l.most = some n) {P : Params} {h : Heap} {args : List WData} {vals : List Value}
    (hpre : l.row.toRowW.claim.pre args = true) (hwl : WellAll P h vals args) :
    ∃ a vs ns, vals = [Value.ref a] /\ args = [WData.list (ns.map WData.int)] /\ h.get? a = some { cls := .type "list", data := .seq vs.toArray } /\ IntsAre vs ns /\ ns.length <= n := by
  have hsh : WShape.hasAll [] args [.list .int] = true := (pre_splitW hpre).1
  have hc : l.pre.holds [] { args := args } = true := (pre_splitW hpre).2
  obtain ⟨d, r, rfl, h1, h2⟩ := hasAllW_cons hsh
  obtain rfl := hasAllW_nil h2
  obtain ⟨xs, rfl, h3⟩ := hasW_list h1
  obtain ⟨ns, rfl⟩ := items_int h3
  have hlen : ns.length <= n := by
    unfold OpenLaw.pre at hc
    have h4 : (WTm.not (.lt (.lit (.int (n : Int))) (.len (.arg 0)))).holds [] { args := [.list (ns.map .int)] } = true := by
      have h4 := (holds_andW hc).1
      rw [hn] at h4
      exact h4
    have h5 := condW_of h4 (w_not (w_lt w_lit (w_len_list (w_arg rfl))))
    rw [List.length_map] at h5
    refine Nat.le_of_not_lt fun q => ?_
    have q' : (n : Int) < ((ns.length : Nat) : Int) := by omega
    first
      | (rw [decide_eq_true q'] at h5; exact absurd h5 (by decide))
      | (simp at h5; omega)
  cases hwl with
  | cons w1 w2 =>
    cases w2
    cases w1 with
    | list ho hall => exact ⟨_, _, ns, rfl, rfl, ho, Y4 ns _ hall, hlen⟩
theorem a4e (l : OpenLaw) (args : List WData) : l.row.toRowW.claim.post args (.bool true) args = true :=
  postW_of (r := l.row.toRowW) (X := (true == true))
    (show WShape.has [] (.bool true) .bool = true by first | rfl | decide | simp [WShape.has, WShape.arms, WShape.armsAll])
    (show (WTm.eq .res (.lit (.bool true))).value [] { args := args, res := some (.bool true), after := args } = some (.bool (true == true)) from w_eq_bool (w_res rfl) w_lit) rfl
theorem attach_call {l : OpenLaw} {n : Nat} {q : Program} {loose : List Str} {XP : (Str -> Option Value) -> Heap -> Prop} {YP : World -> Heap -> Prop} {d : DefRec}
    (hn : l.most = some n) (hdf : d.params.defaults = [])
    (call : ∀ (w : World) (s₀ s₁ : Shared) (mg mb : Str -> Option Value) (fa : Addr) (o : Obj) (pm cd doc : Value) (a : Addr) (vs : List Value) (ns : List Int),
      Ground q loose [] XP w s₀ mg mb s₁.heap -> YP w s₁.heap →
      s₁.heap.get? fa = some o -> o.data = .func (docDef d.name d.params d.body d.scope pm cd doc) -> s₁.heap.CodeRec cd d.name -> mg d.name = some (.ref fa) →
      s₁.heap.get? a = some { cls := .type "list", data := .seq vs.toArray } -> IntsAre vs ns -> ns.length <= n -> s₁.gens = #[] →
      codeAny (model l.prog w) callerA (.call (.ref fa) ⟨[.ref a], []⟩) (fun r s' => r = .ok (.ret (.bool true)) /\ OldK s₁.heap s'.heap /\ s'.os = s₁.os /\ AllBare s'.gens) s₁) :
    WalkO q loose XP YP l.row.toRowW d [] (fun f vs => PySem.call f vs) := by
  intro w s₀ s₁ mg mb G Y fa o pm cd doc dV kV ho hd hcd hD hmg hg args vals as hpre hlay hrd hwl hlo
  obtain rfl : dV = .none := Dflts.none hD hdf
  obtain rfl : kV = .none := Dflts.noKw hD
  obtain ⟨a, vs, ns, rfl, rfl, hobj, hints, hlen⟩ := a3Y hn hpre hwl
  refine enter_call (codeAny_mono (call w s₀ s₁ mg mb fa o pm cd doc a vs ns G Y ho (fd_plain hd) hcd hmg hobj hints hlen hg) fun r s' hq => ?_)
  obtain ⟨rfl, h2, h3, h4⟩ := hq
  exact ⟨.inl ⟨.bool true, .bool true, [], rfl, fun _ => rfl, .bool true, a4e l _, fun _ => ⟨List.Pairwise.nil, fun _ hm => (nomatch hm)⟩⟩, h2, h3, h4⟩
section
variable {prog : Program} {w : World} {A : Around} {E : Value -> Shared -> Prop} {s : Shared} {K : Frag}
end
end Att
namespace L2
open PySem PySem.Spec PyProof.Rows
theorem a0X : ∀ {vs : List Value} {ns : List Int}, IntsAre vs ns -> Vals (ns.map V.int) vs
  | _, _, .nil => .nil
  | _, _, .cons n t h => .cons ⟨t, rfl⟩ (a0X h)
end L2
namespace L2
open PySem PySem.Spec PyProof.Rows
end L2
namespace L2
open PySem PySem.Spec PyProof.Rows
def a1k (s : Stmt) (j : Nat) : Stmt := match s with
  | .ClassDef _ _ _ body _ _ _ _ _ _ _ => body.getD j (.Pass ⟨0, 0, 0, 0⟩)
  | _ => .Pass ⟨0, 0, 0, 0⟩
def E3 (s : Stmt) : Arguments := match s with
  | .FunctionDef _ a _ _ _ _ _ _ _ _ => a
  | _ => { posonlyargs := [], args := [], vararg := none, kwonlyargs := [], kw_defaults := [], kwarg := none, defaults := [] }
def x6 (s : Stmt) : List Stmt := match s with
  | .FunctionDef _ _ b _ _ _ _ _ _ _ => b
  | _ => []
def h7 (s : Stmt) : Scope := match s with
  | .FunctionDef _ _ _ _ _ _ sc _ _ _ => sc
  | _ => { kind := .function, names := [], isGenerator := false, isCoroutine := false }
abbrev K1 : CXT := fun _ _ _ _ _ _ => False
abbrev E0 : XK := fun _ _ _ => False
theorem x9 {X : Cx} : R1 K1 X E0 := fun _ _ _ _ _ _ _ h => h.elim
structure Fun (K : W.Frag) (x qual : Str) (st : Stmt) (f : Addr) (fd : FuncData) : Prop where
  ex : ∃ (oc : Value) (od : Option Addr) (kV doc pm : Value) (an : Option Addr) (cdv ct : Value) (osl : Array (Option Value)),
    fd = W.fnOf x qual (E3 st) (x6 st) (h7 st) .none kV doc pm an cdv ct /\ K.lookup f = some ⟨oc, od, .func fd, osl⟩ /\ W.codeIn K cdv qual = true
  kp : W.keepIn K (.ref f) = true
section
variable {P : Program} {w : World} {K : W.Frag} {mg : Str -> Option Value} {base : Heap}
theorem Fun.ok {x qual : Str} {st : Stmt} {f : Addr} {fd : FuncData} {N ps : List Str} {k : Nat} {sp : Sp} (F : Fun K x qual st f fd) (S : p6 N ps (h7 st)) (len : ∀ vs H Q E, sp vs H Q E -> vs.length = ps.length)
    (hbody : ∀ (cdv : Value) (A : Around) (outer : List Env) (s : Shared) (H : Hp) (vs : List V) (Q : VK) (E : XK), Room k (A.deeper (envOfC qual (h7 st) s.heap.objs.size f cdv)) -> sp vs H Q E →
      ∃ t, PSs (M2 K1 P w K mg base N qual (h7 st) f cdv A outer s H E).nox (x6 st) t /\ t { nx := fun _ H' => Q .non H', rt := Q } (M5 N vs) H) : x8 P w K mg base K1 (k + 1) f fd ps sp := by
  obtain ⟨oc, od, kV, doc, pm, an, cdv, ct, osl, rfl, lk, hcd⟩ := F.ex
  refine a7E lk hcd S len fun A outer s H vs Q E hr hsp => ?_
  obtain ⟨t, h, q⟩ := hbody cdv A outer s H vs Q E hr hsp
  exact ⟨t, h.nox, q⟩
theorem Fun.binds {x qual : Str} {st : Stmt} {f : Addr} {fd : FuncData} {ps : List Str} (F : Fun K x qual st f fd)
    (h : ∀ (kV doc pm : Value) (an : Option Addr) (cdv ct : Value) (us : List Value), us.length = ps.length -> bindArgs (W.fnOf x qual (E3 st) (x6 st) (h7 st) .none kV doc pm an cdv ct) ⟨us, []⟩ = pure (ps.zip us)) : Binds K fd ps [] := by
  obtain ⟨oc, od, kV, doc, pm, an, cdv, ct, osl, rfl, lk, hcd⟩ := F.ex
  exact .all (h kV doc pm an cdv ct)
theorem a4K {x qual : Str} {st : Stmt} {f : Addr} {oc : Value} {od an : Option Addr} {osl : Array (Option Value)} {kV doc pm cdv ct : Value} (l : K.lookup f = some ⟨oc, od, .func (W.fnOf x qual (E3 st) (x6 st) (h7 st) .none kV doc pm an cdv ct), osl⟩)
    (c : W.codeIn K cdv qual = true) (k : W.keepIn K (.ref f) = true) : Fun K x qual st f (W.fnOf x qual (E3 st) (x6 st) (h7 st) .none kV doc pm an cdv ct) := ⟨⟨oc, od, kV, doc, pm, an, cdv, ct, osl, rfl, l, c⟩, k⟩
end
theorem v4 {n : Nat} (h : n <= 1000) : n < sizeLine := Nat.lt_of_le_of_lt h (by decide)
section
variable {X : Cx}
theorem pv (i : Nat) {x : Str} {pos : Pos} (hN : X.N[i]? = some x := by rfl) (hv : Vis X.env.scope x := by first | exact Or.inl rfl | exact Or.inr (Or.inl rfl) | exact Or.inr (Or.inr rfl)) (hd : (x == ("__debug__" : Str)) = false := by decide)
    (hcd : (x == ("__classdict__" : Str)) = false := by decide) : PE X (.Name x pos) (a8A i) := a9b hN hv hd hcd
end
theorem D0 {A B : Prop} (h : B) : if false = true then A else B := by
  rw [if_neg Bool.false_ne_true]
  exact h
theorem C9 {A B : Prop} (h : A) : if true = true then A else B := by
  rw [if_pos rfl]
  exact h
theorem A2 {c A B : Prop} [Decidable c] (h1 : c -> A) (h2 : ¬ c -> B) : if c then A else B := by
  by_cases h : c
  . rw [if_pos h]
    exact h1 h
  . rw [if_neg h]
    exact h2 h
theorem a9W {c A B : Prop} [Decidable c] (hc : c) (h : B) : if (!decide c) = true then A else B := by
  rw [decide_eq_true hc]
  exact D0 h
def Same (H H' : Hp) : Prop := ∀ b o, H b = some o -> H' b = some o
theorem Same.refl (H : Hp) : Same H H := fun _ _ h => h
theorem Same.trans {H H1 H2 : Hp} (a : Same H H1) (b : Same H1 H2) : Same H H2 := fun c o h => b c o (a c o h)
theorem Same.free {H H' : Hp} (e : Same H H') {l : Addr} (h : H' l = Option.none) : H l = Option.none := by
  cases q : H l with
  | none => rfl
  | some o =>
    rw [e l o q] at h
    cases h
theorem Same.seq {K : W.Frag} {H H' : Hp} {a : Addr} {xs : List V} (e : Same H H') (h : SqL K H a xs) : SqL K H' a xs := by
  rcases h with (h | ⟨o, h⟩) | h
  . exact .inl (.inl (e _ _ h))
  . exact .inl (.inr ⟨o, e _ _ h⟩)
  . exact .inr h
end L2
namespace L2
open PySem PySem.Spec PyProof.Rows
def clo (env : Env) : List (Str × NameKind) -> List (Str × Addr) -> List (Str × Addr)
  | [], cs => cs
  | (n, k) :: r, cs => if k == .free then (match env.cells.lookup n with | some a => clo env r ((n, a) :: cs) | none => clo env r cs) else clo env r cs
theorem F0 {scope : Scope} {env : Env} (h : ∀ n, (n, NameKind.free) ∈ scope.names -> ∃ c, env.cells.lookup n = some c) : closureFor scope env = pure (clo env scope.names []) := by
  simp only [closureFor]
  generalize ([] : List (Str × Addr)) = cs
  revert h
  generalize scope.names = l
  intro h
  induction l generalizing cs with
  | nil => rfl
  | cons x r ih =>
    obtain ⟨n, k⟩ := x
    have hr : ∀ n, (n, NameKind.free) ∈ r -> ∃ c, env.cells.lookup n = some c := fun n hn => h n (List.mem_cons_of_mem _ hn)
    by_cases hk : k = .free
    . subst hk
      obtain ⟨c, hc⟩ := h n List.mem_cons_self
      have q := ih ((n, c) :: cs) hr
      simp only [List.forIn_cons, clo, hc, beq_self_eq_true, if_true, cellOf]
      exact q
    . have hb : (k == NameKind.free) = false := by simpa using hk
      have q := ih cs hr
      simp only [List.forIn_cons, clo, hb, Bool.false_eq_true, if_false]
      exact q
theorem Z4 {env : Env} {x : Str} {c : Addr} : ∀ {l : List (Str × NameKind)} {cs : List (Str × Addr)}, (∀ x c, cs.lookup x = some c -> env.cells.lookup x = some c) -> (clo env l cs).lookup x = some c -> env.cells.lookup x = some c
  | [], _, h, e => h x c e
  | (n, k) :: r, cs, h, e => by
    unfold clo at e
    by_cases hk : (k == NameKind.free) = true
    . rw [if_pos hk] at e
      cases q : env.cells.lookup n with
      | none => rw [q] at e; exact Z4 h e
      | some a =>
        rw [q] at e
        refine Z4 (cs := (n, a) :: cs) (fun y d z => ?_) e
        rw [List.lookup_cons] at z
        cases hy : y == n with
        | true =>
          rw [hy] at z
          have : y = n := by simpa using hy
          subst this
          rw [q]; exact z
        | false => rw [hy] at z; exact h y d z
    . rw [if_neg hk] at e
      exact Z4 h e
theorem Y9 {env : Env} {x : Str} {c : Addr} : ∀ {l : List (Str × NameKind)} {cs : List (Str × Addr)}, (x, c) ∈ clo env l cs -> (env.cells.lookup x = some c /\ (x, NameKind.free) ∈ l) \/ (x, c) ∈ cs
  | [], _, e => .inr e
  | (n, k) :: r, cs, e => by
    unfold clo at e
    by_cases hk : (k == NameKind.free) = true
    . rw [if_pos hk] at e
      have hk' : k = .free := by simpa using hk
      cases q : env.cells.lookup n with
      | none =>
        rw [q] at e
        exact (Y9 e).imp (fun z => ⟨z.1, List.mem_cons_of_mem _ z.2⟩) id
      | some a =>
        rw [q] at e
        rcases Y9 (cs := (n, a) :: cs) e with z | z
        . exact .inl ⟨z.1, List.mem_cons_of_mem _ z.2⟩
        . rcases List.mem_cons.mp z with z | z
          . cases z
            exact .inl ⟨q, by rw [hk']; exact List.mem_cons_self⟩
          . exact .inr z
    . rw [if_neg hk] at e
      exact (Y9 e).imp (fun z => ⟨z.1, List.mem_cons_of_mem _ z.2⟩) id
theorem v5 : ∀ (names : List (Str × NameKind)) (n : Nat) (acc : List (Str × Addr)), cellsFrom n names acc = cellsFrom n names [] ++ acc
  | [], _, _ => rfl
  | (x, k) :: r, n, acc => by
    unfold cellsFrom
    split
    . rw [v5 r (n + 1) ((x, n) :: acc), v5 r (n + 1) [(x, n)], List.append_assoc]; rfl
    . exact v5 r n acc
theorem G2 {x : Str} {c : Addr} : ∀ {names : List (Str × NameKind)} {n : Nat}, (x, c) ∈ cellsFrom n names [] -> (x, NameKind.cell) ∈ names
  | [], _, e => by cases e
  | (y, k) :: r, n, e => by
    unfold cellsFrom at e
    by_cases hk : (k == NameKind.cell) = true
    . rw [if_pos hk, v5] at e
      have hk' : k = .cell := by simpa using hk
      rcases List.mem_append.mp e with z | z
      . exact List.mem_cons_of_mem _ (G2 z)
      . rw [List.mem_singleton] at z
        cases z
        rw [hk']; exact List.mem_cons_self
    . rw [if_neg hk] at e
      exact List.mem_cons_of_mem _ (G2 e)
theorem N5 {x : Str} : ∀ {names : List (Str × NameKind)} {n : Nat}, (x, NameKind.cell) ∈ names -> ∃ c, (x, c) ∈ cellsFrom n names []
  | (y, k) :: r, n, e => by
    unfold cellsFrom
    rcases List.mem_cons.mp e with z | z
    . cases z
      rw [if_pos (by rfl), v5]
      exact ⟨n, List.mem_append_right _ List.mem_cons_self⟩
    . split
      . rw [v5]
        obtain ⟨c, hc⟩ := N5 (n := n + 1) z
        exact ⟨c, List.mem_append_left _ hc⟩
      . exact N5 z
theorem a0p {α : Type} {x : Str} : ∀ {l₁ l₂ : List (Str × α)}, (l₁ ++ l₂).lookup x = match l₁.lookup x with | some c => some c | none => l₂.lookup x
  | [], _ => rfl
  | (n, c) :: r, l₂ => by
    rw [List.cons_append, List.lookup_cons, List.lookup_cons]
    cases hx : x == n with
    | true => rfl
    | false => exact a0p (l₁ := r)
theorem S7 {α : Type} {x : Str} {c : α} : ∀ {l : List (Str × α)}, (x, c) ∈ l -> ∃ c', l.lookup x = some c'
  | (n, d) :: r, h => by
    rw [List.lookup_cons]
    cases hx : x == n with
    | true => exact ⟨d, rfl⟩
    | false =>
      rcases List.mem_cons.mp h with z | z
      . cases z; simp at hx
      . exact S7 z
theorem R4 {env : Env} {x : Str} : ∀ {l : List (Str × NameKind)} {cs : List (Str × Addr)}, (∃ c, cs.lookup x = some c) -> ∃ c, (clo env l cs).lookup x = some c
  | [], _, h => h
  | (n, k) :: r, cs, h => by
    unfold clo
    split
    . split
      . refine R4 ?_
        rw [List.lookup_cons]
        cases hy : x == n with
        | true => exact ⟨_, rfl⟩
        | false => exact h
      . exact R4 h
    . exact R4 h
theorem Y5 {env : Env} {x : Str} (hx : ∃ c, env.cells.lookup x = some c) : ∀ {l : List (Str × NameKind)} {cs : List (Str × Addr)}, (x, NameKind.free) ∈ l -> ∃ c, (clo env l cs).lookup x = some c
  | (n, k) :: r, cs, h => by
    rcases List.mem_cons.mp h with e | e
    . cases e
      obtain ⟨c, hc⟩ := hx
      unfold clo
      rw [if_pos (by rfl), hc]
      refine R4 ⟨c, ?_⟩
      simp [List.lookup_cons]
    . unfold clo
      split
      . split
        . exact Y5 hx e
        . exact Y5 hx e
      . exact Y5 hx e
def N3 (env : Env) (scope : Scope) (C : Addr) : List (Str × Addr) := cellsFrom (C + 1) scope.names (clo env scope.names [])
theorem D4 {env : Env} {scope : Scope} {C : Addr} {x : Str} {c : Addr} (h : (N3 env scope C).lookup x = some c) :
    ((x, c) ∈ cellsFrom (C + 1) scope.names [] /\ (x, NameKind.cell) ∈ scope.names) \/ (env.cells.lookup x = some c /\ (x, NameKind.free) ∈ scope.names) := by
  have m := mem_of_lookup h
  unfold N3 at m
  rw [v5] at m
  rcases List.mem_append.mp m with z | z
  . exact .inl ⟨z, G2 z⟩
  . rcases Y9 z with y | y
    . exact .inr y
    . cases y
theorem Y1 {env : Env} {scope : Scope} {C : Addr} {x : Str} (hx : ∃ c, env.cells.lookup x = some c) (hf : (x, NameKind.free) ∈ scope.names) (hn : (x, NameKind.cell) ∉ scope.names) : (N3 env scope C).lookup x = env.cells.lookup x := by
  obtain ⟨c, hc⟩ := Y5 (env := env) (cs := []) hx hf
  have hc' := Z4 (env := env) (fun _ _ z => by simp at z) hc
  unfold N3
  rw [v5, a0p]
  cases q : (cellsFrom (C + 1) scope.names []).lookup x with
  | some d => exact absurd (G2 (mem_of_lookup q)) hn
  | none => rw [hc', <- hc]
def blk (X : Cx) (os : List Str) (fr : List Nat) (scope : Scope) (C : Addr) (fp : List Addr) (s₀ : Shared) (H₀ : Hp) : Cx :=
  { X with N := os ++ fr.map (fun j => X.N.getD j ""), s₀ := s₀, H₀ := H₀, env := compEnvC scope (N3 X.env scope C) C X.env, outer := X.stack, ex := fp, fn := fun x => scope.names.lookup x == some .cell, pn := [], xe := fun _ _ => False }
def frv (fr : List Nat) (σ : St) : St := fr.map fun j => (σ[j]?).join
def blkσ (n : Nat) (fr : List Nat) (σ : St) : St := List.replicate n none ++ frv fr σ
def Wk (σ0 σ2 : St) : Prop := σ2.length = σ0.length /\ ∀ (i : Nat) v, σ0[i]? = some (some v) -> σ2[i]? = some (some v)
def a0x (outer : Scope) (scope : Scope) (N : List Str) (fr : List Nat) : Bool :=
  (scope.names.all fun p => (scope.names.lookup p.1 == some p.2) && (p.2 != .free || outer.names.lookup p.1 == some .cell)) &&
  (fr.all fun j => decide (j < N.length) && (outer.names.lookup (N.getD j "") == some .cell) && (scope.names.lookup (N.getD j "") == some .free))
theorem T3 {x : Str} {k : NameKind} : ∀ {l : List (Str × NameKind)}, l.lookup x = some k -> (x, k) ∈ l
  | (n, j) :: r, h => by
    rw [List.lookup_cons] at h
    cases hx : x == n with
    | true =>
      rw [hx] at h
      have : x = n := by simpa using hx
      subst this
      cases h
      exact List.mem_cons_self
    | false => rw [hx] at h; exact List.mem_cons_of_mem _ (T3 h)
theorem K6 {env : Env} {x : Str} {k : NameKind} : ∀ {names : List (Str × NameKind)},
    (names.map fun (n, k) => if (k == NameKind.free && env.scope.kind == .function && env.kindOf n == some .cell) then (n, NameKind.cell) else (n, k)).lookup x = some k →
    (x, k) ∈ names \/ (x, NameKind.free) ∈ names
  | [], h => by simp at h
  | (n, j) :: r, h => by
    rw [List.map_cons] at h
    dsimp only at h
    by_cases hc : (j == NameKind.free && env.scope.kind == .function && env.kindOf n == some .cell) = true
    . rw [if_pos hc, List.lookup_cons] at h
      have hj : j = .free := by
        have := (Bool.and_eq_true _ _ ▸ (Bool.and_eq_true _ _ ▸ hc).1).1
        simpa using this
      cases hx : x == n with
      | true =>
        have : x = n := by simpa using hx
        subst this
        subst hj
        exact .inr List.mem_cons_self
      | false =>
        rw [hx] at h
        exact (K6 h).imp (List.mem_cons_of_mem _) (List.mem_cons_of_mem _)
    . rw [if_neg hc, List.lookup_cons] at h
      cases hx : x == n with
      | true =>
        rw [hx] at h
        have : x = n := by simpa using hx
        subst this
        cases h
        exact .inl List.mem_cons_self
      | false =>
        rw [hx] at h
        exact (K6 h).imp (List.mem_cons_of_mem _) (List.mem_cons_of_mem _)
section
variable {X : Cx} {os : List Str} {fr : List Nat} {scope : Scope}
theorem L4 (h : a0x X.env.scope scope X.N fr = true) : ∀ p ∈ scope.names, scope.names.lookup p.1 = some p.2 /\ (p.2 = .free -> X.env.scope.names.lookup p.1 = some .cell) := fun p hp => by
  have q := List.all_eq_true.mp (Bool.and_eq_true _ _ ▸ h).1 p hp
  simp only [Bool.and_eq_true, bne_iff_ne, Bool.or_eq_true, beq_iff_eq, ne_eq] at q
  refine ⟨q.1, fun e => ?_⟩
  rcases q.2 with z | z
  . exact absurd e z
  . exact z
theorem a2K (h : a0x X.env.scope scope X.N fr = true) {x : Str} {a b : NameKind} (ha : (x, a) ∈ scope.names) (hb : (x, b) ∈ scope.names) : a = b := by
  have h1 := (L4 h _ ha).1
  have h2 := (L4 h _ hb).1
  rw [h1] at h2
  exact Option.some.inj h2
theorem b0s (h : a0x X.env.scope scope X.N fr = true) : ∀ j ∈ fr, j < X.N.length /\ X.env.scope.names.lookup (X.N.getD j "") = some .cell /\ scope.names.lookup (X.N.getD j "") = some .free := fun j hj => by
  have q := List.all_eq_true.mp (Bool.and_eq_true _ _ ▸ h).2 j hj
  simp only [Bool.and_eq_true, beq_iff_eq, decide_eq_true_eq] at q
  exact ⟨q.1.1, q.1.2, q.2⟩
theorem V6 {pins : List (Addr × Obj)} {σ : St} {H : Hp} {s : Shared} (I : Inv X pins σ H s) (h : a0x X.env.scope scope X.N fr = true) : ∀ n, (n, NameKind.free) ∈ scope.names -> ∃ c, X.env.cells.lookup n = some c := fun n hn =>
  I.ok.has n (.inl ((L4 h _ hn).2 rfl))
theorem Inv.block {pins : List (Addr × Obj)} {σ : St} {H : Hp} {s : Shared} {fp : List Addr} {h₁ : Heap} {t' : Nat} (I : Inv X pins σ H s) (hk : scope.kind = .function) (h : a0x X.env.scope scope X.N fr = true)
    (hf : ∀ b ∈ fp, Y3 X pins H b) (ho : ∀ b ∈ fp, ∃ o, s.heap.get? b = some o) (hns : h₁.Ns s.heap.objs.size fun _ => none) (hkeep : ∀ b o, s.heap.get? b = some o -> h₁.get? b = some o)
    (hcl : CellsOk h₁ (s.heap.objs.size + 1) (cellsFrom (s.heap.objs.size + 1) scope.names [])) :
    Inv (blk X os fr scope s.heap.objs.size fp s H) [] (blkσ os.length fr σ) H { s with heap := h₁, toks := t' } where
  ok := {
    mod := I.ok.mod
    kind := hk
    glob := I.ok.glob
    blt := I.ok.blt
    above := Nat.le_refl _
    inj := fun x y c e1 e2 => by
      have old : ∀ {z : Str}, X.env.cells.lookup z = some c -> c < s.heap.objs.size := fun {z} e => by
        obtain ⟨v, q⟩ := I.cell z c e
        exact q.lt
      rcases D4 e1 with z1 | z1 <;> rcases D4 e2 with z2 | z2
      . exact name_of_addr hcl.apart z1.1 z2.1
      . exact absurd (Nat.lt_of_lt_of_le (Nat.lt_succ_of_lt (old z2.1)) (hcl.empty _ _ z1.1).2) (Nat.lt_irrefl _)
      . exact absurd (Nat.lt_of_lt_of_le (Nat.lt_succ_of_lt (old z1.1)) (hcl.empty _ _ z2.1).2) (Nat.lt_irrefl _)
      . exact I.ok.inj x y c z1.1 z2.1
    has := fun x hx => by
      have hm : (x, NameKind.cell) ∈ scope.names \/ (x, NameKind.free) ∈ scope.names := by
        rcases hx with e | e
        . exact K6 e
        . rcases K6 e with z | z
          . exact .inr z
          . exact .inr z
      rcases hm with z | z
      . obtain ⟨c, hc⟩ := N5 (n := s.heap.objs.size + 1) z
        refine S7 (c := c) ?_
        show (x, c) ∈ N3 _ _ _
        unfold N3
        rw [v5]
        exact List.mem_append_left _ hc
      . obtain ⟨c, hc⟩ := V6 I h x z
        refine ⟨c, ?_⟩
        show (N3 _ _ _).lookup x = _
        rw [Y1 ⟨c, hc⟩ z (fun w => by cases a2K h z w)]
        exact hc
    cab := fun x c hx e => by
      have hx' : scope.names.lookup x = some .cell := by simpa using (show (scope.names.lookup x == some .cell) = true from hx)
      rcases D4 e with z | z
      . exact Nat.le_of_lt (Nat.lt_of_succ_le (hcl.empty _ _ z.1).2)
      . cases a2K h (T3 hx') z.2
    hd := I.ok.hd
    frames := I.ok.frames
    stk := .inl rfl
    exf := fun b hb => by
      obtain ⟨o, e⟩ := ho b hb
      refine ⟨Nat.ne_of_lt (Heap.lt_size e), fun x c e1 => ?_⟩
      rcases D4 e1 with z | z
      . intro w
        have := (hcl.empty _ _ z.1).2
        rw [w] at this
        exact absurd (Nat.lt_of_lt_of_le (Nat.lt_succ_of_lt (Heap.lt_size e)) this) (Nat.lt_irrefl _)
      . exact (hf b hb).2.2.2.2.1 x c z.1
    bs := I.bs
    bsz := Nat.le_trans I.ok.bsz I.sz
    noex := fun b o e hb => by
      rcases (hf b hb).2.2.2.1 with z | z
      . exact I.ok.noex b o e z
      . exact absurd (Nat.lt_of_lt_of_le (Heap.lt_size e) (Nat.le_trans I.ok.bsz z)) (Nat.lt_irrefl _)
    exfs := fun b hb hz => by
      rcases List.mem_cons.mp (I.stkSub b hz) with e | e
      . exact (hf b hb).2.1 e
      . exact (hf b hb).2.2.1 e
    funs := I.stack
    frf := I.stkFree }
  os := rfl
  bare := I.bare
  base := Un.kept hkeep
  loc := by
    refine ⟨_, hns, fun i x v e1 e2 _ => ?_⟩
    have hi : os.length <= i := by
      refine Nat.le_of_not_lt fun hlt => ?_
      unfold blkσ at e2
      rw [List.getElem?_append_left (by simpa using hlt)] at e2
      rw [List.getElem?_replicate] at e2
      split at e2 <;> cases e2
    have e1' : (fr.map fun j => X.N.getD j "")[i - os.length]? = some x := by
      rw [<- List.getElem?_append_right (l₁ := os) hi]; exact e1
    have e2' : (fr.map fun j => (σ[j]?).join)[i - os.length]? = some (some v) := by
      have z : (List.replicate os.length (none : Option V)).length <= i := by simpa using hi
      unfold blkσ at e2
      rw [List.getElem?_append_right z, List.length_replicate] at e2
      exact e2
    rw [List.getElem?_map] at e1' e2'
    cases q : fr[i - os.length]? with
    | none => rw [q] at e1'; cases e1'
    | some j =>
      rw [q] at e1' e2'
      have hj : j ∈ fr := List.mem_of_getElem? q
      obtain ⟨hjl, hjc, hjf⟩ := b0s h j hj
      have ex : X.N.getD j "" = x := Option.some.inj e1'
      have ev : (σ[j]?).join = some v := Option.some.inj e2'
      have hN : X.N[j]? = some x := by
        rw [<- ex, List.getD_eq_getElem?_getD, List.getElem?_eq_getElem hjl]; rfl
      have hσ : σ[j]? = some (some v) := by
        cases r : σ[j]? with
        | none => rw [r] at ev; cases ev
        | some y => rw [r] at ev; exact congrArg some ev
      rw [ex] at hjc hjf
      obtain ⟨m, _, hl⟩ := I.loc
      obtain ⟨u, r, lk⟩ := hl j x v hN hσ (.inr (.inl hjc))
      refine ⟨u, r, ?_⟩
      have kc : Env.kindOf X.env x = some .cell := hjc
      rcases lk with ⟨k1, _⟩ | ⟨_, c, ec, z⟩
      . rw [kc] at k1; cases k1
      . have hfm := T3 hjf
        have ec' : (N3 X.env scope s.heap.objs.size).lookup x = some c := by
          rw [Y1 ⟨c, ec⟩ hfm (fun w => by cases a2K h hfm w)]; exact ec
        refine .inr ⟨?_, c, ec', ?_⟩
        . have kk : ∀ {names : List (Str × NameKind)}, names.lookup x = some .free -> (names.map fun (n, k) => if (k == NameKind.free && X.env.scope.kind == .function && X.env.kindOf n == some .cell) then (n, NameKind.cell) else (n, k)).lookup x = some .cell := by
            intro names
            induction names with
            | nil => intro e; simp at e
            | cons p r ih =>
              obtain ⟨n, k⟩ := p
              intro e
              rw [List.lookup_cons] at e
              rw [List.map_cons]
              dsimp only
              cases hx : x == n with
              | true =>
                rw [hx] at e
                cases e
                have hxn : x = n := by simpa using hx
                subst hxn
                rw [if_pos (by rw [I.ok.kind, kc]; rfl), List.lookup_cons]
                simp
              | false =>
                rw [hx] at e
                by_cases hc : (k == NameKind.free && X.env.scope.kind == .function && X.env.kindOf n == some .cell) = true
                . rw [if_pos hc, List.lookup_cons, hx]; exact ih e
                . rw [if_neg hc, List.lookup_cons, hx]; exact ih e
          exact .inl (kk hjf)
        . obtain ⟨o, ho', hd⟩ := z
          exact ⟨o, hkeep _ _ ho', hd⟩
  cell := fun x c e => by
    rcases D4 e with z | z
    . exact ⟨_, (hcl.empty _ _ z.1).1⟩
    . obtain ⟨v, o, ho', hd⟩ := I.cell x c z.1
      exact ⟨v, o, hkeep _ _ ho', hd⟩
  free := I.hok.fresh (Nat.le_refl _)
  freeC := fun x c e => by
    rcases D4 e with z | z
    . exact I.hok.fresh (Nat.le_of_lt (Nat.lt_of_succ_le (hcl.empty _ _ z.1).2))
    . exact I.freeC x c z.1
  pin := fun p hp => nomatch hp
  hok := I.hok.kept hkeep
  len := by simp [blkσ, frv, blk]
theorem Inv.unblock {pins : List (Addr × Obj)} {σ σ' : St} {H H' : Hp} {s s' : Shared} {fp : List Addr} {C : Addr} (I : Inv X pins σ H s) (hf : ∀ b ∈ fp, Y3 X pins H b) (J : Inv (blk X os fr scope C fp s H) [] σ' H' s') : Inv X pins σ H' s' :=
  I.call' J.os J.base J.hok J.bare fun b hb => ⟨(hf b hb).2.2.2.1, (hf b hb).2.1, (hf b hb).2.2.2.2.1, (hf b hb).2.2.2.2.2⟩
theorem Inv.letgo {pins : List (Addr × Obj)} {σ : St} {H H₀ : Hp} {s s₀ : Shared} {C : Addr} {h' : Heap} (I₀ : Inv X pins σ₀ H₀ s₀) (I : Inv X pins σ H s) (hn : H C = none) (hC : s₀.heap.objs.size <= C) (hs : Heap.SameBut C s.heap h') : Inv X pins σ H { s with heap := h' } :=
  I.turned (t' := s.toks) (it := C) (fun b o hb e => (hs.2 b hb).trans e) hn (Nat.ne_of_gt (Nat.lt_of_lt_of_le I₀.lt hC)) (.inr (Nat.le_trans I₀.sz hC))
    (fun x c e z => by
      obtain ⟨v, q⟩ := I₀.cell x c e
      exact absurd (Nat.lt_of_lt_of_le q.lt (by rw [z]; exact hC)) (Nat.lt_irrefl _))
    fun p hp z => absurd (Nat.lt_of_lt_of_le (Heap.lt_size (I₀.pin p hp).1) (by rw [z]; exact hC)) (Nat.lt_irrefl _)
end
def a9h (X : Cx) (ifs : List Expr) (t : TT) : Prop :=
  ∀ (pins : List (Addr × Obj)) (s : Shared) (σ : St) (H : Hp) (Q : Bool -> Hp -> Prop), Inv X pins σ H s -> t σ H Q →
    wpAny (model X.prog X.w) X.A (forIn ifs true fun c r => if r = true then do let ok <- isTrue c X.env (eval c X.env); pure (ForInStep.yield ok) else pure (ForInStep.yield r)) (TP X pins σ Q) X.xe s
def a5O : TT := fun _ H Q => Q true H
theorem a2e {X : Cx} : a9h X [] a5O := fun _ _ _ H _ I h => wpAny_tests_nil ⟨H, I, h⟩
theorem a1V {X : Cx} {c : Expr} {t : TT} (h : PT X c t) : a9h X [c] t := fun pins s σ H Q I q => wpAny_tests_one (h pins s σ H Q I q)
theorem a0Z {M : Model} {A : Around} {E : Value -> Shared -> Prop} {s : Shared} {scope : Scope} {globals : Addr} {closure : List (Str × Addr)} {qual : Str} {env : Env} {Q : Env -> Shared -> Prop}
    (hQ : Q { scope, locals := s.heap.objs.size, globals, cells := cellsFrom (s.heap.objs.size + 1) scope.names closure, qual, func := none, code := env.code, frame := env.frame, builtins := env.builtins } { s with heap := pushCells (s.heap.push { cls := .type "dict", data := .dict #[] }) scope.names }) :
    wpAny M A (newFunctionEnv scope globals closure [] qual none .none (some env)) Q E s := by
  simp only [newFunctionEnv, Option.isSome_some, if_true]
  refine wpAny_bind (wpAny_alloc ?_)
  refine wpAny_bind (wpAny_layCells _ (fun name kind cells => by cases hkc : kind == NameKind.cell <;> simp [hkc]) _ _ _ _ ?_)
  rw [show ({ s with heap := s.heap.push { cls := .type "dict", data := .dict #[] } } : Shared).heap.objs.size = s.heap.objs.size + 1 from Heap.size_push ..]
  simp only [List.forIn_nil]
  exact wpAny_bind (wpAny_pure (wpAny_pure hQ))
theorem a1p {prog : Program} {w : World} {A : Around} {R : Result -> Shared -> Prop} {s : Shared} {elt target iter : Expr} {ifs : List Expr} {scope : Scope} {pos : Pos} {it acc : Value} {env : Env} (I : Nat -> Shared -> Prop)
    (turn : ∀ n s, I n s -> wpAny (model prog w) A (pyNext it) (fun r s₁ => match r with
      | none => R (.ok .next) s₁
      | some v => wpAny (model prog w) A (letOwnedTupleGo target it v) (fun _ s₀ => wpAny (model prog w) A (assign target env v) (fun _ s₂ =>
          wpAny (model prog w) A (forIn ifs true fun c r => if r = true then do let ok <- isTrue c env (eval c env); pure (ForInStep.yield ok) else pure (ForInStep.yield r)) (fun ok s₃ =>
            if ok = true then wpAny (model prog w) A (eval elt env) (fun x s₄ =>
              wpAny (model prog w) A (call (.builtin "list.append") [acc, x]) (fun _ s₅ => ∃ m, m < n /\ I m s₅) (fun _ _ => False) s₄) (fun _ _ => False) s₃
            else ∃ m, m < n /\ I m s₃) (fun _ _ => False) s₂) (fun _ _ => False) s₀) (fun _ _ => False) s₁) (fun _ _ => False) s)
    (n : Nat) (h : I n s) :
    codeAny (model prog w) A (.compLoop (.ListComp elt [⟨target, iter, ifs, 0⟩] scope pos) 0 it acc env) R s := by
  refine codeAny_loop rfl I (fun n s hI => ?_) n h
  show wpAny _ A ((compTurn (.ListComp elt [⟨target, iter, ifs, 0⟩] scope pos) 0 it acc env).onRaise (fun x => do noteFrame x env; theTreesLotGoes x)) _ _ s
  refine wpAny_noted ?_
  rw [compTurn_list]
  refine wpAny_bind (wpAny_standAt (wpAny_bind (wpAny_mono (turn n s hI) (fun r s₁ h₁ => ?_) fun _ _ h' => h'.elim)))
  cases r with
  | none => exact wpAny_pure h₁
  | some v =>
    refine wpAny_bind (wpAny_mono h₁ (fun _ s₀ h₀ => ?_) fun _ _ h' => h'.elim)
    refine wpAny_bind (wpAny_mono h₀ (fun _ s₂ h₂ => wpAny_bind (wpAny_mono h₂ (fun ok s₃ h₃ => ?_) fun _ _ h' => h'.elim)) fun _ _ h' => h'.elim)
    cases ok with
    | false => exact wpAny_pure ⟨rfl, h₃⟩
    | true =>
      exact wpAny_bind (wpAny_bind (wpAny_mono h₃ (fun x s₄ h₄ => wpAny_bind (wpAny_mono h₄ (fun _ s₅ h₅ => wpAny_pure (wpAny_pure ⟨rfl, h₅⟩)) fun _ _ h' => h'.elim)) fun _ _ h' => h'.elim))
def lcW (n : Nat) (fr : List Nat) (g : TG) (te : TE) (σ : St) (J : It) (H1 : Hp) (p : Addr) (D : Hp -> Prop) : Prop :=
  ∃ W : Nat -> Nat -> List V -> Hp -> Prop, (∃ m, W 0 m [] (upd H1 p (.lst []))) /\ ∀ i m ys H, W i m ys H →
    (J.stop i H /\ D H) \/ (J.go i H /\ ∀ x H', J.yld i H x H' -> g x (blkσ n fr σ) H' fun σ2 H2 => Wk (blkσ n fr σ) σ2 /\ te σ2 H2 fun v H3 => H3 p = some (.lst ys) /\ ys.length < sizeLine /\ ∃ m', m' < m /\ W (i + 1) m' (ys ++ [v]) (upd H3 p (.lst (ys ++ [v]))))
def tLC (n : Nat) (fr : List Nat) (wi : TI) (g : TG) (te : TE) : TE := fun σ H Q => wi σ H fun J H1 => ∀ p, H1 p = none -> lcW n fr g te σ J H1 p (Q (.ref p))
def lcI (n : Nat) (fr : List Nat) (g : TG) (tc : TT) (te : TE) (σ : St) (J : It) (H1 : Hp) (p : Addr) (D : Hp -> Prop) : Prop :=
  ∃ W : Nat -> Nat -> List V -> Hp -> Prop, (∃ m, W 0 m [] (upd H1 p (.lst []))) /\ ∀ i m ys H, W i m ys H →
    (J.stop i H /\ D H) \/ (J.go i H /\ ∀ x H', J.yld i H x H' -> g x (blkσ n fr σ) H' fun σ2 H2 => Wk (blkσ n fr σ) σ2 /\ tc σ2 H2 fun ok H2' =>
      if ok = true then te σ2 H2' fun v H3 => H3 p = some (.lst ys) /\ ys.length < sizeLine /\ ∃ m', m' < m /\ W (i + 1) m' (ys ++ [v]) (upd H3 p (.lst (ys ++ [v]))) else ∃ m', m' < m /\ W (i + 1) m' ys H2')
def b0f (n : Nat) (fr : List Nat) (wi : TI) (g : TG) (tc : TT) (te : TE) : TE := fun σ H Q => wi σ H fun J H1 => ∀ p, H1 p = none -> lcI n fr g tc te σ J H1 p (Q (.ref p))
theorem a2s {n : Nat} {fr : List Nat} {g : TG} {te : TE} {σ : St} {J : It} {H1 : Hp} {p : Addr} {D : Hp -> Prop} : lcI n fr g a5O te σ J H1 p D = lcW n fr g te σ J H1 p D := by
  unfold lcI lcW a5O
  simp only [if_true]
section
variable {X : Cx} {os : List Str} {fr : List Nat} {scope : Scope} {elt tg iter : Expr} {pos : Pos} {wi : TI} {g : TG} {te : TE}
theorem U9 {ifs : List Expr} {tc : TT} {pins : List (Addr × Obj)} {σ : St} {s2 : Shared} {D : Addr -> Hp -> Prop} {itv : Value} {RR : Value -> Addr -> Result -> Shared -> Prop}
    (hc : X.calm = true) (hg : ∀ C fp s₀ H₀, PG (blk X os fr scope C fp s₀ H₀) tg g) (ht : ∀ C fp s₀ H₀, a9h (blk X os fr scope C fp s₀ H₀) ifs tc) (he : ∀ C fp s₀ H₀, PE (blk X os fr scope C fp s₀ H₀) elt te)
    (hk : scope.kind = .function) (hok : a0x X.env.scope scope X.N fr = true)
    (h2 : PIE X pins σ tg (fun J H1 => ∀ p, H1 p = none -> lcI os.length fr g tc te σ J H1 p (D p)) itv s2)
    (hRR : ∀ p C s3 H3 s' H', Inv X pins σ H3 s3 -> s3.heap.objs.size = C -> H' C = none -> Inv X pins σ H' s' -> (∃ m, s'.heap.Ns C m) -> D p H' -> RR (.ref p) C (.ok .next) s') :
    wpAny (model X.prog X.w) X.A (newList []) (fun acc s₃ => wpAny (model X.prog X.w) X.A (newFunctionEnv scope X.env.globals (clo X.env scope.names []) [] X.env.qual none .none (some X.env)) (fun cenv s₄ =>
      codeAny (model X.prog X.w) X.A (.compStart (.ListComp elt [⟨tg, iter, ifs, 0⟩] scope pos) 0 itv acc { cenv with scope := relabel scope X.env }) (RR acc cenv.locals) s₄) X.xe s₃) X.xe s2 := by
  obtain ⟨it, fp, tn, J, H2, e, I2, T, st2, f2, hR⟩ := h2
  subst e
  refine wpAny_newObj_type ?_
  have fresh : H2 s2.heap.objs.size = none := I2.fresh
  obtain ⟨W, ⟨m0, w0⟩, turn⟩ := hR s2.heap.objs.size fresh
  have I3 : Inv X pins σ (upd H2 s2.heap.objs.size (.lst [])) { s2 with heap := s2.heap.push { cls := .type "list", dict := none, data := .seq ([] : List Value).toArray } } := I2.lnew (ys := []) (its := []) (t' := s2.toks) .nil (Nat.zero_le _)
  have obj2 := T.obj _ _ st2
  have ne2 : ∀ b ∈ fp, b ≠ s2.heap.objs.size := fun b hb => by
    obtain ⟨o, e, _⟩ := obj2 b hb
    exact Nat.ne_of_lt (Heap.lt_size e)
  have st3 : tn 0 (s2.heap.push { cls := .type "list", dict := none, data := .seq ([] : List Value).toArray }) := T.keep _ _ _ st2 fun b hb o e => Heap.get?_push_of_some _ e
  have f3 : ∀ b ∈ fp, Y3 X pins (upd H2 s2.heap.objs.size (.lst [])) b := fun b hb => ⟨by rw [j6 (ne2 b hb)]; exact (f2 b hb).1, (f2 b hb).2⟩
  generalize hs3 : ({ s2 with heap := s2.heap.push { cls := .type "list", dict := none, data := .seq ([] : List Value).toArray } } : Shared) = s3 at I3 ⊢
  have st3' : tn 0 s3.heap := by rw [<- hs3]; exact st3
  generalize s2.heap.objs.size = p at *
  refine a0Z ?_
  have hns : (pushCells (s3.heap.push { cls := .type "dict", data := .dict #[] }) scope.names).Ns s3.heap.objs.size fun _ => none := (Heap.Ns.new s3.heap (.type "dict")).keeps (pushCells_keeps _ _)
  have hkeep : ∀ b o, s3.heap.get? b = some o -> (pushCells (s3.heap.push { cls := .type "dict", data := .dict #[] }) scope.names).get? b = some o := fun b o e => pushCells_keeps _ _ b o (Heap.get?_push_of_some _ e)
  have hcl := cellsFrom_ok scope.names (s3.heap.push { cls := .type "dict", data := .dict #[] }) (s3.heap.objs.size + 1) [] ⟨fun _ _ hm => (nomatch hm), List.Pairwise.nil⟩ (by rw [Heap.size_push]; exact Nat.le_refl _)
  rw [Heap.size_push] at hcl
  generalize pushCells (s3.heap.push { cls := .type "dict", data := .dict #[] }) scope.names = h₁ at hns hkeep hcl ⊢
  have obj3 : ∀ b ∈ fp, ∃ o, s3.heap.get? b = some o := fun b hb => by
    obtain ⟨o, e, _⟩ := T.obj _ _ st3' b hb
    exact ⟨o, e⟩
  have J0 := I3.block (os := os) (t' := s3.toks) hk hok f3 obj3 (h₁ := h₁) hns hkeep hcl
  have ok0 := J0.ok
  have fpY : ∀ {H' : Hp}, (∀ b ∈ fp, H' b = none) -> ∀ b ∈ fp, Y3 (blk X os fr scope s3.heap.objs.size fp s3 (upd H2 p (.lst []))) [] H' b := fun hn b hb =>
    ⟨hn b hb, (ok0.exf b hb).1, ok0.exfs b hb, .inl hb, (ok0.exf b hb).2, fun q hq => nomatch hq⟩
  have st4 : tn 0 h₁ := T.keep _ _ _ st3' fun b hb o e => hkeep b o e
  have fr0 : ∀ b ∈ fp, upd H2 p (.lst []) b = none := fun b hb => (f3 b hb).1
  have loop : ∀ s4 : Shared, s4 = { s3 with heap := h₁, toks := s3.toks } →
      codeAny (model X.prog X.w) X.A (.compLoop (.ListComp elt [⟨tg, iter, ifs, 0⟩] scope pos) 0 (.ref it) (.ref p) (compEnvC scope (N3 X.env scope s3.heap.objs.size) s3.heap.objs.size X.env)) (RR (.ref p) s3.heap.objs.size) s4 := by
    rintro s4 rfl
    refine a1p (fun n s' => ∃ i ys H', Inv (blk X os fr scope s3.heap.objs.size fp s3 (upd H2 p (.lst []))) [] (blkσ os.length fr σ) H' s' /\ tn i s'.heap /\ (∀ b ∈ fp, H' b = none) /\ W i n ys H') ?_ m0 ⟨0, [], _, J0, st4, fr0, w0⟩
    rintro n s5 ⟨i, ys, H5, I5, st5, fr5, w5⟩
    rcases turn i n ys H5 w5 with ⟨stop, qd⟩ | ⟨go, step⟩
    . refine A6 (T.done (blk X os fr scope s3.heap.objs.size fp s3 (upd H2 p (.lst []))) rfl rfl rfl hc i [] s5 _ H5 (fun _ _ => False) I5 (fpY fr5) st5 stop) fun r s6 ⟨hr, I6⟩ => ?_
      subst hr
      exact hRR p _ s3 _ s6 H5 I3 rfl I6.free (I3.unblock f3 I6) (let ⟨m, hm, _⟩ := I6.loc; ⟨m, hm⟩) qd
    . refine A6 (T.item (blk X os fr scope s3.heap.objs.size fp s3 (upd H2 p (.lst []))) rfl rfl rfl hc i [] s5 _ H5 (fun _ _ => False) I5 (fpY fr5) st5 go) fun r s6 ⟨u, hr, h6⟩ => ?_
      subst hr
      refine A6 h6 fun _ s7 ⟨x, H7, I7, r7, y7, st7, fr7⟩ => ?_
      have I7' := I7.pinned (fpY fr7) (T.obj _ _ st7)
      refine A6 (hg _ _ _ _ _ s7 _ H7 x u _ I7' r7 (step x H7 y7)) fun _ s8 ⟨σ8, H8, I8, wk8, q8⟩ => ?_
      have again : ∀ {H' : Hp} {s' : Shared} {zs : List V} {m' : Nat}, Inv (blk X os fr scope s3.heap.objs.size fp s3 (upd H2 p (.lst []))) ([] ++ a0e fp s7.heap) σ8 H' s' -> m' < n -> W (i + 1) m' zs H' →
          ∃ m, m < n /\ ∃ i ys H', Inv (blk X os fr scope s3.heap.objs.size fp s3 (upd H2 p (.lst []))) [] (blkσ os.length fr σ) H' s' /\ tn i s'.heap /\ (∀ b ∈ fp, H' b = none) /\ W i m ys H' := fun {H' s' zs m'} J' hm' w' => by
        refine ⟨m', hm', i + 1, zs, H', (J'.weak wk8.1.symm fun i v e => wk8.2 i v e).unpinned, T.keep _ _ _ st7 fun b hb o e => (J'.pin (b, o) (List.mem_append_right _ (List.mem_append_right _ (O2 hb e)))).1, fun b hb => ?_, w'⟩
        obtain ⟨o, e, d⟩ := T.obj _ _ st7 b hb
        exact (J'.pin (b, o) (List.mem_append_right _ (List.mem_append_right _ (O2 hb e)))).2.1
      refine A6 (ht _ _ _ _ _ s8 σ8 H8 _ I8 q8) fun ok s9 ⟨H9, I9, q9⟩ => ?_
      cases ok with
      | false =>
        obtain ⟨m', hm', w9⟩ := q9
        exact again I9 hm' w9
      | true =>
        refine A6 (he _ _ _ _ _ s9 σ8 H9 _ I9 q9) fun y s10 ⟨v, H10, I10, r10, hp10, hz10, m', hm', w10⟩ => ?_
        refine A6 (K7 (X := blk X os fr scope s3.heap.objs.size fp s3 (upd H2 p (.lst []))) _ s10 σ8 H10 (.ref p) [v] (.ref p) [y] (fun _ H' => H' = upd H10 p (.lst (ys ++ [v]))) I10 rfl (.cons r10 .nil) ⟨p, ys, v, rfl, rfl, hp10, hz10, rfl⟩) fun _ s11 ⟨_, H11, I11, _, e11⟩ => ?_
        subst e11
        exact again I11 hm' w10
  exact codeAny_compStart_list (loop _ rfl) (T.self _ 0 _ _ _ st4 (loop _ rfl))
theorem N9 (os : List Str) (fr : List Nat) (hc : X.calm = true) (hi : PI X tg iter wi) (hg : ∀ C fp s₀ H₀, PG (blk X os fr scope C fp s₀ H₀) tg g) (he : ∀ C fp s₀ H₀, PE (blk X os fr scope C fp s₀ H₀) elt te)
    (hk : scope.kind = .function := by rfl) (hok : a0x X.env.scope scope X.N fr = true := by rfl) (hs : ∀ x, foldedSetIterable iter X.env x = pure x := by intro _; rfl) :
    PE X (.ListComp elt [⟨tg, iter, [], 0⟩] scope pos) (tLC os.length fr wi g te) := by
  intro pins s σ H Q I h
  unfold tLC at h
  simp only [<- a2s] at h
  rw [eval_ListComp]
  refine wpAny_comprehension_free (use := none) rfl hs (F0 (V6 I hok)) hk (fun x hx hl => by have := (L4 hok x hx).1; rw [hl] at this; exact this) (A6 (hi pins s σ H _ I h) fun v s1 h1 => A6 h1 fun itv s2 h2 => ?_)
  refine U9 (os := os) (D := fun p H' => Q (.ref p) H') (RR := fun acc C => compPost (model X.prog X.w) X.A X.xe none (EP X pins σ Q) acc C) hc hg (fun _ _ _ _ => a2e) he hk hok h2 ?_
  intro p C s3 H3 s' H' I3 eC hn I' ⟨m, hm⟩ q
  refine ⟨m, hm, fun h' hs' => ⟨.ref p, H', I3.letgo I' hn (by omega) hs', rfl, q⟩⟩
theorem a5d {c : Expr} {tc : TT} (os : List Str) (fr : List Nat) (hc : X.calm = true) (hi : PI X tg iter wi) (hg : ∀ C fp s₀ H₀, PG (blk X os fr scope C fp s₀ H₀) tg g) (ht : ∀ C fp s₀ H₀, PT (blk X os fr scope C fp s₀ H₀) c tc) (he : ∀ C fp s₀ H₀, PE (blk X os fr scope C fp s₀ H₀) elt te)
    (hk : scope.kind = .function := by rfl) (hok : a0x X.env.scope scope X.N fr = true := by rfl) (hs : ∀ x, foldedSetIterable iter X.env x = pure x := by intro _; rfl) :
    PE X (.ListComp elt [⟨tg, iter, [c], 0⟩] scope pos) (b0f os.length fr wi g tc te) := by
  intro pins s σ H Q I h
  rw [eval_ListComp]
  refine wpAny_comprehension_free (use := none) rfl hs (F0 (V6 I hok)) hk (fun x hx hl => by have := (L4 hok x hx).1; rw [hl] at this; exact this) (A6 (hi pins s σ H _ I h) fun v s1 h1 => A6 h1 fun itv s2 h2 => ?_)
  refine U9 (os := os) (D := fun p H' => Q (.ref p) H') (RR := fun acc C => compPost (model X.prog X.w) X.A X.xe none (EP X pins σ Q) acc C) hc hg (fun _ _ _ _ => a1V (ht _ _ _ _)) he hk hok h2 ?_
  intro p C s3 H3 s' H' I3 eC hn I' ⟨m, hm⟩ q
  refine ⟨m, hm, fun h' hs' => ⟨.ref p, H', I3.letgo I' hn (by omega) hs', rfl, q⟩⟩
theorem U2 {i : Nat} {x : Str} {pos' spos : Pos} (os : List Str) (fr : List Nat) (hN : X.N.Nodup) (hi' : X.N[i]? = some x) (hx : X.env.scope.names.lookup x = some .local)
    (hc : X.calm = true) (hi : PI X tg iter wi) (hg : ∀ C fp s₀ H₀, PG (blk X os fr scope C fp s₀ H₀) tg g) (he : ∀ C fp s₀ H₀, PE (blk X os fr scope C fp s₀ H₀) elt te)
    (hsw : swapsWith (.ListComp elt [⟨tg, iter, [], 0⟩] scope pos) (some (.Name x pos')) spos.line X.env = pure true := by rfl)
    (hk : scope.kind = .function := by rfl) (hok : a0x X.env.scope scope X.N fr = true := by rfl) (hs : ∀ x, foldedSetIterable iter X.env x = pure x := by intro _; rfl) :
    PS X (.Assign [.Name x pos'] (.ListComp elt [⟨tg, iter, [], 0⟩] scope pos) spos) (a0A (tLC os.length fr wi g te) (S8 i)) := by
  intro pins s σ H D I h
  unfold a0A tLC at h
  simp only [<- a2s] at h
  rw [exec_Assign_Name_used _ _ _ _ hsw]
  refine wpAny_bind (wpAny_standAt (wpAny_bind ?_))
  show wpAny _ X.A (do let _ <- comprehension (.ListComp elt [⟨tg, iter, [], 0⟩] scope pos) scope X.env _ (newList []) false (eval iter X.env) (some (assign (.Name x pos') X.env))) _ _ s
  refine wpAny_bind (wpAny_mono (wpAny_comprehension_free (use := some (assign (.Name x pos') X.env)) (Q := fun _ s' => SP X pins D .next s') rfl hs (F0 (V6 I hok)) hk (fun x hx hl => by have := (L4 hok x hx).1; rw [hl] at this; exact this)
    (A6 (hi pins s σ H _ I h) fun v s1 h1 => A6 h1 fun itv s2 h2 => ?_)) (fun _ s' hq => wpAny_pure (wpAny_pure hq)) fun _ _ e => e)
  refine U9 (os := os) (D := fun p H' => D.nx (σ.set i (some (.ref p))) H') (RR := fun acc C => compPost (model X.prog X.w) X.A X.xe (some (assign (.Name x pos') X.env)) (fun _ s' => SP X pins D .next s') acc C) hc hg (fun _ _ _ _ => a2e) he hk hok h2 ?_
  intro p C s3 H3 s' H' I3 eC hn I' ⟨m, hm⟩ q
  show wpAny _ X.A (assign (.Name x pos') X.env (.ref p)) _ _ _
  refine wpAny_assign_Name (W1 (v := .ref p) I' hN hi' (.inl hx) rfl (fun s'' I'' ⟨a, hsa, ha⟩ => ?_) (.inr hx))
  have hCa : C ≠ a := by
    rcases ha with e | e
    . rw [e]; exact Nat.ne_of_gt (by rw [<- eC]; exact I3.lt)
    . obtain ⟨v, z⟩ := I3.cell x a e
      exact Nat.ne_of_gt (by rw [<- eC]; exact z.lt)
  exact ⟨m, hm.sameBut hsa hCa, fun h' hs' => ⟨_, H', I3.letgo I'' hn (by omega) hs', q⟩⟩
end
end L2
namespace L2
open PySem PySem.Spec PyProof.Rows
section
variable {X : Cx} {pins : List (Addr × Obj)} {σ : St} {H : Hp} {s : Shared} {a : Addr} {xs : List V}
abbrev SqA (K : W.Frag) (H : Hp) (a : Addr) (xs : List V) : Prop := SqL K H a xs \/ SqT K H a xs
theorem Z6 {h' : Heap} {o : Obj} {h : Heap} (hk : ∀ b x, b ∉ [h.objs.size] -> (h.push o).get? b = some x -> h'.get? b = some x) : ∀ b x, h.get? b = some x -> h'.get? b = some x :=
  fun b x e => hk b x (fun hm => by rw [List.mem_singleton.mp hm] at e; exact Nat.lt_irrefl _ (Heap.lt_size e)) (Heap.get?_push_of_some _ e)
theorem U3 (hc : X.calm = true) (I : Inv X pins σ H s) (h : SqA X.K H a xs) : ∃ its : List Value, Vals xs its /\ ∀ (Q : Value -> Shared -> Prop) (E : Value -> Shared -> Prop),
    (∀ (o : Obj) (St : Nat -> Heap -> Prop), Walks X.prog X.w X.A.in1 s.heap.objs.size [s.heap.objs.size, a] [s.heap.objs.size] its.toArray.size (fun i v => its.toArray[i]? = some v) St -> St 0 (s.heap.push o) →
      (∀ b ∈ [s.heap.objs.size, a], b < (s.heap.push o).objs.size) -> Q (.ref s.heap.objs.size) { s with heap := s.heap.push o }) -> wpAny (model X.prog X.w) X.A.in1 (pyIter (.ref a)) Q E s := by
  have hh := I.ok.hd hc
  have lt2 : ∀ (o : Obj), a < s.heap.objs.size -> ∀ b ∈ [s.heap.objs.size, a], b < (s.heap.push o).objs.size := fun o hlt b hb => by
    rw [Heap.size_push]
    rcases List.mem_cons.mp hb with rfl | hb
    . exact Nat.lt_succ_self _
    . rw [List.mem_singleton.mp hb]; exact Nat.lt_succ_of_lt hlt
  rcases h with h | h
  . obtain ⟨its, r, p, hz⟩ := I.list h
    have hl := p.isList
    have hlt : a < s.heap.objs.size := by obtain ⟨_, e, _⟩ := hl; exact Heap.lt_size e
    refine ⟨its, r, fun Q E hQ => wpAny_pyIter_list hl ?_⟩
    exact hQ _ _ (Walks.list (A := X.A.in1) hh _ a (Nat.ne_of_lt hlt) its.toArray) ⟨⟨_, Heap.get?_push_size _ rfl, rfl, rfl⟩, hl.push _⟩ (lt2 _ hlt)
  . obtain ⟨its, r, p, hz⟩ := I.tuple h
    have hl : s.heap.IsTuple a its.toArray := p
    have hlt : a < s.heap.objs.size := by obtain ⟨_, e, _⟩ := hl; exact Heap.lt_size e
    refine ⟨its, r, fun Q E hQ => wpAny_pyIter_tuple hl ?_⟩
    exact hQ _ _ (Walks.tuple (A := X.A.in1) hh _ a (Nat.ne_of_lt hlt) its.toArray) ⟨⟨_, Heap.get?_push_size _ rfl, rfl, rfl⟩, hl.push _⟩ (lt2 _ hlt)
theorem a1c {ys : List V} {its : List Value} (r : Vals ys its) {i : Nat} {v : Value} (e : its.toArray[i]? = some v) : ∃ y, ys[i]? = some y /\ RelV y v := by
  have e' : its[i]? = some v := by simpa using e
  cases q : ys[i]? with
  | none => rw [r.none_of q] at e'; cases e'
  | some y =>
    obtain ⟨u, h1, h2⟩ := r.get q
    rw [e'] at h1; cases h1
    exact ⟨y, rfl, h2⟩
theorem a2E (bs : List Bool) : ((List.range bs.length).all fun i => (bs[i]?).getD true) = bs.all id := by
  rw [Bool.eq_iff_iff, List.all_eq_true, List.all_eq_true]
  constructor
  . intro h b hb
    obtain ⟨i, hi, e⟩ := List.getElem_of_mem hb
    have := h i (List.mem_range.mpr hi)
    simp only [List.getElem?_eq_getElem hi, Option.getD_some, e] at this
    exact this
  . intro h i hi
    have hi' := List.mem_range.mp hi
    simp only [List.getElem?_eq_getElem hi', Option.getD_some]
    exact h _ (List.getElem_mem hi')
theorem a2F (bs : List Bool) : ((List.range bs.length).any fun i => (bs[i]?).getD false) = bs.any id := by
  rw [Bool.eq_iff_iff, List.any_eq_true, List.any_eq_true]
  constructor
  . rintro ⟨i, hi, e⟩
    have hi' := List.mem_range.mp hi
    simp only [List.getElem?_eq_getElem hi', Option.getD_some] at e
    exact ⟨_, List.getElem_mem hi', e⟩
  . rintro ⟨b, hb, e⟩
    obtain ⟨i, hi, rfl⟩ := List.getElem_of_mem hb
    exact ⟨i, List.mem_range.mpr hi, by simp only [List.getElem?_eq_getElem hi, Option.getD_some]; exact e⟩
end
section
variable {X : Cx}
theorem a2c (hc : X.calm = true) : G1 X (.builtin "all") (fun vs H Q => ∃ (a : Addr) (bs : List Bool), vs = [.ref a] /\ SqA X.K H a (bs.map V.bl) /\ Q (.bl (bs.all id)) H) := by
  intro pins s σ H vs us Q I r h
  obtain ⟨a, bs, rfl, hs, q⟩ := h
  obtain ⟨u, rfl, ru⟩ := Q0 r
  cases ru
  obtain ⟨its, rv, walk⟩ := U3 hc I hs
  have hlen : its.toArray.size = bs.length := by rw [List.size_toArray, <- rv.length, List.length_map]
  refine call_all_walk (walk _ _ fun o St W st fp => ?_)
  refine ⟨_, _, _, _, _, _, fun i => (bs[i]?).getD true, rfl, W, st, fun i v s' Q' E' hP hQ => ?_, fun h' tk hk => ?_⟩
  . obtain ⟨y, e, ry⟩ := a1c rv hP
    rw [List.getElem?_map] at e
    cases eb : bs[i]? with
    | none => rw [eb] at e; cases e
    | some b =>
      rw [eb] at e; cases e
      cases ry
      simp only [eb, Option.getD_some] at hQ
      exact wpAny_truthy_bool hQ
  . rw [hlen, a2E bs]
    exact ⟨.bl _, H, I.kept (Z6 hk), rfl, q⟩
theorem a1Y (hc : X.calm = true) : G1 X (.builtin "any") (fun vs H Q => ∃ (a : Addr) (bs : List Bool), vs = [.ref a] /\ SqA X.K H a (bs.map V.bl) /\ Q (.bl (bs.any id)) H) := by
  intro pins s σ H vs us Q I r h
  obtain ⟨a, bs, rfl, hs, q⟩ := h
  obtain ⟨u, rfl, ru⟩ := Q0 r
  cases ru
  obtain ⟨its, rv, walk⟩ := U3 hc I hs
  have hlen : its.toArray.size = bs.length := by rw [List.size_toArray, <- rv.length, List.length_map]
  refine call_any_walk (walk _ _ fun o St W st fp => ?_)
  refine ⟨_, _, _, _, _, _, fun i => (bs[i]?).getD false, rfl, W, st, fun i v s' Q' E' hP hQ => ?_, fun h' tk hk => ?_⟩
  . obtain ⟨y, e, ry⟩ := a1c rv hP
    rw [List.getElem?_map] at e
    cases eb : bs[i]? with
    | none => rw [eb] at e; cases e
    | some b =>
      rw [eb] at e; cases e
      cases ry
      simp only [eb, Option.getD_some] at hQ
      exact wpAny_truthy_bool hQ
  . rw [hlen, a2F bs]
    exact ⟨.bl _, H, I.kept (Z6 hk), rfl, q⟩
theorem Y8 {ns : List Int} {its : List Value} (rv : Vals (ns.map V.int) its) : ∀ (i : Nat) (v : Value), its.toArray[i]? = some v -> ∃ t, v = Value.int (ns.getD i 0) t := fun i v hP => by
  obtain ⟨y, e, ry⟩ := a1c rv hP
  rw [List.getElem?_map] at e
  cases en : ns[i]? with
  | none => rw [en] at e; cases e
  | some n =>
    rw [en] at e; cases e
    obtain ⟨t, rfl⟩ := ry
    exact ⟨t, by rw [List.getD_eq_getElem?_getD, en]; rfl⟩
theorem a0G {l : List Int} {j : Nat} (h : j < l.length) : l.getD j 0 ∈ l := by
  rw [List.getD_eq_getElem?_getD, List.getElem?_eq_getElem h]; exact List.getElem_mem h
theorem a0O {l : List Int} {a : Int} (h : a ∈ l) : ∃ j, j < l.length /\ l.getD j 0 = a := by
  obtain ⟨j, hj, e⟩ := List.getElem_of_mem h
  exact ⟨j, hj, by rw [List.getD_eq_getElem?_getD, List.getElem?_eq_getElem hj]; exact e⟩
theorem R6 (hc : X.calm = true) : G1 X (.builtin "max") (fun vs H Q => ∃ (a : Addr) (ns : List Int), vs = [.ref a] /\ SqA X.K H a (ns.map V.int) /\ ns ≠ [] /\ ∀ M, M ∈ ns -> (∀ n ∈ ns, n <= M) -> Q (.int M) H) := by
  intro pins s σ H vs us Q I r h
  obtain ⟨a, ns, rfl, hs, hne, q⟩ := h
  obtain ⟨u, rfl, ru⟩ := Q0 r
  cases ru
  obtain ⟨its, rv, walk⟩ := U3 hc I hs
  have hlen : its.toArray.size = ns.length := by rw [List.size_toArray, <- rv.length, List.length_map]
  have hpos : 0 < ns.length := List.length_pos_iff.mpr hne
  refine call_max_walk (walk _ _ fun o St W st fp => ?_)
  refine ⟨_, _, _, _, _, _, _, rfl, W, st, fp, by rw [hlen]; exact hpos, CmpOf.ints_gt (fun i => ns.getD i 0) (Y8 rv), fun v h' tk hP hk => ?_⟩
  obtain ⟨h1, h2⟩ := argBest_gt (fun i => ns.getD i 0) (its.toArray.size - 1)
  obtain ⟨t, rfl⟩ := Y8 rv _ v hP
  refine ⟨.int _, H, I.kept (Z6 hk), ⟨_, rfl⟩, q _ (a0G (by omega)) fun n hn => ?_⟩
  obtain ⟨j, hj, rfl⟩ := a0O hn
  exact h2 j (by omega)
theorem a4r (hc : X.calm = true) : G1 X (.builtin "min") (fun vs H Q => ∃ (a : Addr) (ns : List Int), vs = [.ref a] /\ SqA X.K H a (ns.map V.int) /\ ns ≠ [] /\ ∀ M, M ∈ ns -> (∀ n ∈ ns, M <= n) -> Q (.int M) H) := by
  intro pins s σ H vs us Q I r h
  obtain ⟨a, ns, rfl, hs, hne, q⟩ := h
  obtain ⟨u, rfl, ru⟩ := Q0 r
  cases ru
  obtain ⟨its, rv, walk⟩ := U3 hc I hs
  have hlen : its.toArray.size = ns.length := by rw [List.size_toArray, <- rv.length, List.length_map]
  have hpos : 0 < ns.length := List.length_pos_iff.mpr hne
  refine call_min_walk (walk _ _ fun o St W st fp => ?_)
  refine ⟨_, _, _, _, _, _, _, rfl, W, st, fp, by rw [hlen]; exact hpos, CmpOf.ints_lt (fun i => ns.getD i 0) (Y8 rv), fun v h' tk hP hk => ?_⟩
  obtain ⟨h1, h2⟩ := argBest_lt (fun i => ns.getD i 0) (its.toArray.size - 1)
  obtain ⟨t, rfl⟩ := Y8 rv _ v hP
  refine ⟨.int _, H, I.kept (Z6 hk), ⟨_, rfl⟩, q _ (a0G (by omega)) fun n hn => ?_⟩
  obtain ⟨j, hj, rfl⟩ := a0O hn
  exact h2 j (by omega)
theorem J8 : G1 X (.builtin "isinstance") (fun vs H Q => ∃ x t n b, vs = [x, .ty n] /\ W5 X.K H x t /\ W.kitOne X.K t (.type n) = some b /\ Q (.bl b) H) := by
  intro pins s σ H vs us Q I r h
  obtain ⟨x, t, n, b, rfl, ty, e, q⟩ := h
  obtain ⟨u, v, rfl, ru, rv⟩ := a0R r
  cases rv
  exact a3W I ru ty e fun tk => ⟨.bl b, H, I.tok _, rfl, q⟩
end
mutual
inductive Dp (K : W.Frag) (H : Hp) : V -> PyData -> Prop
  | non : Dp K H .non .none
  | bl (b : Bool) : Dp K H (.bl b) (.bool b)
  | int (i : Int) : Dp K H (.int i) (.int i)
  | str (x : Str) : Dp K H (.str x) (.str x)
  | lst {a : Addr} {xs : List V} {ds : List PyData} : SqL K H a xs -> Dps K H xs ds -> Dp K H (.ref a) (.list ds)
  | tup {a : Addr} {xs : List V} {ds : List PyData} : SqT K H a xs -> Dps K H xs ds -> Dp K H (.ref a) (.tuple ds)
inductive Dps (K : W.Frag) (H : Hp) : List V -> List PyData -> Prop
  | nil : Dps K H [] []
  | cons {x : V} {xs : List V} {d : PyData} {ds : List PyData} : Dp K H x d -> Dps K H xs ds -> Dps K H (x :: xs) (d :: ds)
end
theorem Same.tseq {K : W.Frag} {H H' : Hp} {a : Addr} {xs : List V} (e : Same H H') (h : SqT K H a xs) : SqT K H' a xs := by
  rcases h with (h | ⟨o, h⟩) | h
  . exact .inl (.inl (e _ _ h))
  . exact .inl (.inr ⟨o, e _ _ h⟩)
  . exact .inr h
mutual
theorem Dp.same {K : W.Frag} {H H' : Hp} (e : Same H H') : ∀ {x : V} {d : PyData}, Dp K H x d -> Dp K H' x d
  | _, _, .non => .non
  | _, _, .bl b => .bl b
  | _, _, .int i => .int i
  | _, _, .str x => .str x
  | _, _, .lst h r => .lst (e.seq h) (Dps.same e r)
  | _, _, .tup h r => .tup (e.tseq h) (Dps.same e r)
theorem Dps.same {K : W.Frag} {H H' : Hp} (e : Same H H') : ∀ {xs : List V} {ds : List PyData}, Dps K H xs ds -> Dps K H' xs ds
  | _, _, .nil => .nil
  | _, _, .cons a r => .cons (Dp.same e a) (Dps.same e r)
end
section
variable {X : Cx} {pins : List (Addr × Obj)} {σ : St} {H : Hp} {s : Shared}
mutual
theorem Dp.reads (I : Inv X pins σ H s) : ∀ {x : V} {d : PyData}, Dp X.K H x d -> ∀ {u : Value}, RelV x u -> ∃ as, Reads s.heap u d as
  | _, _, .non, u, r => by cases r; exact ⟨_, .none⟩
  | _, _, .bl b, u, r => by cases r; exact ⟨_, .bool b⟩
  | _, _, .int i, u, r => by obtain ⟨t, rfl⟩ := r; exact ⟨_, .int i t⟩
  | _, _, .str x, u, r => by obtain ⟨t, rfl⟩ := r; exact ⟨_, .str x t⟩
  | _, _, .lst h q, u, r => by
    cases r
    obtain ⟨its, rv, p, hz⟩ := I.list h
    obtain ⟨o, e1, e2, n, e3⟩ := p.isList
    obtain ⟨as, ra⟩ := Dps.reads I q rv
    exact ⟨_, .list e1 e2 e3 (by simpa using ra)⟩
  | _, _, .tup h q, u, r => by
    cases r
    obtain ⟨its, rv, p, hz⟩ := I.tuple h
    obtain ⟨o, e1, e2, n, e3⟩ := (show s.heap.IsTuple _ its.toArray from p)
    obtain ⟨as, ra⟩ := Dps.reads I q rv
    exact ⟨_, .tuple e1 e2 e3 (by simpa using ra)⟩
theorem Dps.reads (I : Inv X pins σ H s) : ∀ {xs : List V} {ds : List PyData}, Dps X.K H xs ds -> ∀ {us : List Value}, Vals xs us -> ∃ as, ReadsAll s.heap us ds as
  | _, _, .nil, us, r => by cases r; exact ⟨_, .nil⟩
  | _, _, .cons a q, us, r => by
    cases r with
    | cons r1 r2 =>
      obtain ⟨as, h1⟩ := Dp.reads I a r1
      obtain ⟨bs, h2⟩ := Dps.reads I q r2
      exact ⟨_, .cons h1 h2⟩
end
end
section
variable {X : Cx}
def b2b (K : W.Frag) : R2 := fun x y H Q => ∃ d e, Dp K H x d /\ Dp K H y e /\ d.canLay0 = true /\ e.canLay0 = true /\ min d.depth e.depth <= 60 /\ Q (.bl (PyData.eqv d e)) H
def b1r (K : W.Frag) : R2 := fun x y H Q => ∃ d e, Dp K H x d /\ Dp K H y e /\ d.canLay0 = true /\ e.canLay0 = true /\ min d.depth e.depth <= 60 /\ Q (.bl (!PyData.eqv d e)) H
theorem a5M {k : Nat} (hr : Room k X.A) : P6 X (compareOp .Eq) (b2b X.K) := by
  intro pins s σ H x y v u Q I rx ry h
  obtain ⟨d, e, h1, h2, c1, c2, hd, q⟩ := h
  obtain ⟨as, r1⟩ := h1.reads I rx
  obtain ⟨bs, r2⟩ := h2.reads I ry
  exact SeqAt.compareEq_reads r1 r2 c1 c2 (by have := hr.units; omega) ⟨.bl _, H, I, rfl, q⟩
theorem P7 {k : Nat} (hr : Room k X.A) : P6 X (compareOp .NotEq) (b1r X.K) := by
  intro pins s σ H x y v u Q I rx ry h
  obtain ⟨d, e, h1, h2, c1, c2, hd, q⟩ := h
  obtain ⟨as, r1⟩ := h1.reads I rx
  obtain ⟨bs, r2⟩ := h2.reads I ry
  exact SeqAt.compareNe_reads r1 r2 c1 c2 (by have := hr.units; omega) ⟨.bl _, H, I, rfl, q⟩
end
theorem Same.new {H : Hp} {p : Addr} (h : H p = none) (o : HO) : Same H (upd H p o) := fun b u q => by rw [j6 (j7 q h)]; exact q
theorem Wk.set {n : Nat} {fr : List Nat} {σ : St} {i : Nat} {v : V} (hi : i < n) : Wk (blkσ n fr σ) ((blkσ n fr σ).set i (some v)) := by
  refine ⟨by simp, fun j w e => ?_⟩
  by_cases hj : j = i
  . subst hj
    unfold blkσ at e
    rw [List.getElem?_append_left (by simpa using hi), List.getElem?_replicate] at e
    split at e <;> cases e
  . rw [List.getElem?_set_ne (Ne.symm hj)]; exact e
structure a2U (J : It) (H1 : Hp) (xs : List V) : Prop where
  go : ∀ i H, Same H1 H -> i < xs.length -> J.go i H
  yld : ∀ i H x H', Same H1 H -> i < xs.length -> J.yld i H x H' -> H' = H /\ xs[i]? = some x
  stop : ∀ H, Same H1 H -> J.stop xs.length H
theorem B2 {K : W.Frag} {a : Addr} {xs : List V} {H1 : Hp} (h : SqL K H1 a xs) : a2U (Itl K a) H1 xs :=
  ⟨fun i H e hi => ⟨xs, xs[i], e.seq h, List.getElem?_eq_getElem hi⟩, fun i H x H' e hi y => ⟨y.1, y.2 xs (e.seq h)⟩, fun H e => ⟨xs, e.seq h, Nat.le_refl _⟩⟩
theorem J7 {K : W.Frag} {a : Addr} {xs : List V} {H1 : Hp} (h : SqT K H1 a xs) : a2U (Itt K a) H1 xs :=
  ⟨fun i H e hi => ⟨xs, xs[i], e.tseq h, List.getElem?_eq_getElem hi⟩, fun i H x H' e hi y => ⟨y.1, y.2 xs (e.tseq h)⟩, fun H e => ⟨xs, e.tseq h, Nat.le_refl _⟩⟩
theorem a2O {lo : Int} {n : Nat} {H1 : Hp} : a2U (Itr lo n) H1 ((List.range n).map fun (i : Nat) => V.int (lo + (i : Int))) :=
  ⟨fun i H e hi => (show i < n from by simpa using hi), fun i H x H' e hi y => ⟨y.1, by rw [y.2, List.getElem?_map, List.getElem?_range (by simpa using hi)]; rfl⟩, fun H e => by simp [Itr]⟩
theorem Paired.app {α β : Type} {F : α -> β -> Prop} : ∀ {a c : List α} {b d : List β}, Paired F a b -> Paired F c d -> Paired F (a ++ c) (b ++ d)
  | _, _, _, _, .nil, s => s
  | _, _, _, _, .cons r t, s => .cons r (Paired.app t s)
section
variable {xs : List V} {J : It} {n : Nat} {fr : List Nat} {g : TG} {te : TE} {σ : St} {H1 : Hp} {p : Addr} {D : Hp -> Prop}
theorem N2 (hJ : a2U J H1 xs) (hp : H1 p = none) (hz : xs.length < sizeLine) (F : V -> V)
    (step : ∀ (i : Nat) x H (N : VK), xs[i]? = some x -> Same H1 H -> N (F x) H -> g x (blkσ n fr σ) H fun σ2 H2 => Wk (blkσ n fr σ) σ2 /\ te σ2 H2 N)
    (hd : D (upd H1 p (.lst (xs.map F)))) : lcW n fr g te σ J H1 p D := by
  refine ⟨fun i m ys H => m = xs.length - i /\ i <= xs.length /\ ys = (xs.take i).map F /\ H = upd H1 p (.lst ys), ⟨xs.length, by simp, Nat.zero_le _, by simp, rfl⟩, ?_⟩
  rintro i m ys H ⟨rfl, hi, rfl, rfl⟩
  have e := Same.new (o := .lst ((xs.take i).map F)) hp
  by_cases hlt : i < xs.length
  . refine .inr ⟨hJ.go i _ e hlt, fun x H' y => ?_⟩
    obtain ⟨rfl, hx⟩ := hJ.yld i _ x H' e hlt y
    refine step i x _ _ hx e ⟨c6, by rw [List.length_map, List.length_take]; omega, xs.length - (i + 1), by omega, rfl, hlt, ?_, P4⟩
    rw [List.take_succ, hx, List.map_append]; rfl
  . have : i = xs.length := by omega
    subst this
    refine .inl ⟨hJ.stop _ e, ?_⟩
    rw [List.take_of_length_le (Nat.le_refl _)]; exact hd
theorem E9 (hJ : a2U J H1 xs) (hp : H1 p = none) (hz : xs.length < sizeLine) (R : Nat -> V -> Hp -> Prop) (hR : ∀ i y H H', R i y H -> (∀ b o, b ≠ p -> H b = some o -> H' b = some o) -> R i y H')
    (step : ∀ (i : Nat) x H ys (N : VK), xs[i]? = some x -> Same H1 H -> H p = some (.lst ys) -> (∀ v H3, Same H H3 -> R i v H3 -> N v H3) -> g x (blkσ n fr σ) H fun σ2 H2 => Wk (blkσ n fr σ) σ2 /\ te σ2 H2 N)
    (hd : ∀ ys H, Same H1 H -> H p = some (.lst ys) -> ys.length = xs.length -> (∀ i y, ys[i]? = some y -> R i y H) -> D H) : lcW n fr g te σ J H1 p D := by
  refine ⟨fun i m ys H => m = xs.length - i /\ i <= xs.length /\ Same H1 H /\ H p = some (.lst ys) /\ ys.length = i /\ ∀ j y, ys[j]? = some y -> R j y H, ⟨xs.length, by simp, Nat.zero_le _, Same.new hp _, c6, rfl, fun j y e => by simp at e⟩, ?_⟩
  rintro i m ys H ⟨rfl, hi, e, hH, len, pr⟩
  by_cases hlt : i < xs.length
  . refine .inr ⟨hJ.go i _ e hlt, fun x H' y => ?_⟩
    obtain ⟨rfl, hx⟩ := hJ.yld i _ x H' e hlt y
    refine step i x _ ys _ hx e hH fun v H3 s3 r3 => ⟨s3 _ _ hH, by omega, xs.length - (i + 1), by omega, rfl, hlt, fun b o q => ?_, c6, by rw [List.length_append, len]; rfl, fun j y ey => ?_⟩
    . rw [j6 (j7 q hp)]; exact s3 _ _ (e _ _ q)
    . have up : ∀ b o, b ≠ p -> H3 b = some o -> upd H3 p (.lst (ys ++ [v])) b = some o := fun b o hb q => by rw [j6 hb]; exact q
      by_cases hj : j < ys.length
      . rw [List.getElem?_append_left hj] at ey
        exact hR j y _ _ (pr j y ey) fun b o hb q => up b o hb (s3 _ _ q)
      . rw [List.getElem?_append_right (by omega)] at ey
        have hj' : j - ys.length = 0 := by
          cases q : j - ys.length with
          | zero => rfl
          | succ k => rw [q] at ey; simp at ey
        rw [hj'] at ey
        have : j = i := by omega
        subst this
        simp at ey
        subst ey
        exact hR j v _ _ r3 up
  . have : i = xs.length := by omega
    subst this
    exact .inl ⟨hJ.stop _ e, hd ys H e hH len pr⟩
end
end L2
namespace L2
open PySem PySem.Spec PyProof.Rows
theorem Inv.turnedLaid {X : Cx} {pins : List (Addr × Obj)} {σ : St} {H : Hp} {s : Shared} {h' : Heap} {fp : List Addr} {T : Addr} {xs : List V} {its : List Value} (I : Inv X pins σ H s) (hf : ∀ b ∈ fp, Y3 X pins H b)
    (k : ∀ b o, b ∉ fp -> s.heap.get? b = some o -> h'.get? b = some o) (ho : ∀ b ∈ fp, ∃ o, h'.get? b = some o) (hT : s.heap.objs.size <= T) (hz : xs.length <= sizeLine) (hv : Vals xs its) (ht : IsTup h' T its.toArray) :
    Inv X pins σ (upd H T (.tup xs)) { s with heap := h' } := by
  have hTn : H T = none := I.hok.fresh hT
  have neT : ∀ b o, s.heap.get? b = some o -> b ≠ T := fun b o e => Nat.ne_of_lt (Nat.lt_of_lt_of_le (Heap.lt_size e) hT)
  refine I.step (g' := s.gens) (t' := s.toks) (d' := s.drawn) (ch := fp) (fun b hb => ⟨(hf b hb).2.2.2.1, (hf b hb).2.1, (hf b hb).2.2.2.2.1, (hf b hb).2.2.2.2.2⟩) (fun b o _ _ hc e _ => k b o hc e) (fun b o _ _ hc e _ => ⟨o.slots, k b o hc e⟩)
    (fun b o hc e n => by rw [j6 (neT b o e)]; exact n) (fun b o hc e => ⟨o, k b o hc e⟩) (fun b ys e => by rw [j6 (j7 e hTn)]; exact e) (fun b o u e => by rw [j6 (j7 e hTn)]; exact e) (fun b ps e => ⟨#[], by rw [j6 (j7 e hTn), e]; simp⟩)
    (fun m hm => ?_) (fun b u e => ?_) I.bare
  . obtain ⟨o, es, ep, e1, r⟩ := hm
    exact ⟨o, es, ep, k _ o (fun z => (hf _ z).2.1 rfl) e1, r⟩
  . by_cases hb : b = T
    . subst hb; rw [c6] at e; cases e
      exact ⟨hz, its, hv, ht⟩
    . rw [j6 hb] at e
      have nit : ∀ c u, H c = some u -> c ∉ fp := fun c u q z => by rw [(hf c z).1] at q; cases q
      refine (I.hok b u e).stay (fun c v hc q => k c v ?_ q) (fun c q => by rw [j6 (j7 q hTn)]; exact q) fun c ys q => by rw [j6 (j7 q hTn)]; exact q
      rcases hc with z | z
      . rw [z]; exact nit b u e
      . exact nit c _ z
theorem Inv.turnedAll {X : Cx} {pins : List (Addr × Obj)} {σ : St} {H : Hp} {s : Shared} {h' : Heap} {fp : List Addr} (I : Inv X pins σ H s) (hf : ∀ b ∈ fp, Y3 X pins H b)
    (k : ∀ b o, b ∉ fp -> s.heap.get? b = some o -> h'.get? b = some o) : Inv X pins σ H { s with heap := h' } := by
  refine I.step (g' := s.gens) (t' := s.toks) (d' := s.drawn) (ch := fp) (fun b hb => ⟨(hf b hb).2.2.2.1, (hf b hb).2.1, (hf b hb).2.2.2.2.1, (hf b hb).2.2.2.2.2⟩) (fun b o _ _ hc e _ => k b o hc e) (fun b o _ _ hc e _ => ⟨o.slots, k b o hc e⟩)
    (fun b o hc e n => n) (fun b o hc e => ⟨o, k b o hc e⟩) (fun b ys e => e) (fun b o u e => e) (fun b ps e => ⟨#[], by rw [e]; simp⟩)
    (fun m hm => ?_) (fun b u e => ?_) I.bare
  . obtain ⟨o, es, ep, e1, r⟩ := hm
    exact ⟨o, es, ep, k _ o (fun z => (hf _ z).2.1 rfl) e1, r⟩
  . have nit : ∀ c u, H c = some u -> c ∉ fp := fun c u q z => by rw [(hf c z).1] at q; cases q
    refine (I.hok b u e).stay (fun c v hc q => k c v ?_ q) (fun c q => q) fun c ys q => q
    rcases hc with z | z
    . rw [z]; exact nit b u e
    . exact nit c _ z
theorem a8S (n l1 l2 : Nat) (h1 : l1 < n) (h2 : l2 < n) : ZipApart (n + 4) (n + 2) (n + 3) n (n + 1) l1 l2 where
  TIz := (by omega : (n + 2 : Nat) ≠ n + 4)
  TOz := (by omega : (n + 3 : Nat) ≠ n + 4)
  i1z := (by omega : (n : Nat) ≠ n + 4)
  i2z := (by omega : (n + 1 : Nat) ≠ n + 4)
  TITO := (by omega : (n + 2 : Nat) ≠ n + 3)
  TIi1 := (by omega : (n + 2 : Nat) ≠ n)
  TIi2 := (by omega : (n + 2 : Nat) ≠ n + 1)
  TOi1 := (by omega : (n + 3 : Nat) ≠ n)
  TOi2 := (by omega : (n + 3 : Nat) ≠ n + 1)
  i12 := (by omega : (n : Nat) ≠ n + 1)
  l1z := (by omega : (l1 : Nat) ≠ n + 4)
  l1TO := (by omega : (l1 : Nat) ≠ n + 3)
  l1i1 := (by omega : (l1 : Nat) ≠ n)
  l1i2 := (by omega : (l1 : Nat) ≠ n + 1)
  l2z := (by omega : (l2 : Nat) ≠ n + 4)
  l2TO := (by omega : (l2 : Nat) ≠ n + 3)
  l2i1 := (by omega : (l2 : Nat) ≠ n)
  l2i2 := (by omega : (l2 : Nat) ≠ n + 1)
section
variable {X : Cx}
def b0t (i j : Int) : Prop := 0 < j /\ j < 2 ^ 8000
theorem log2_lt {y : Nat} (h : y < 2 ^ 8000) : y.log2 < 9000 := by
  by_cases h0 : y = 0
  . subst h0; decide
  . exact Nat.lt_of_lt_of_le ((Nat.log2_lt h0).mpr h) (by decide)
theorem a2p : P6 X (binaryOp .FloorDiv) (rI b0t fun i j => .int (i / j)) := opI fun i j _ _ _ _ _ hc q => by
  have h0 : j ≠ 0 := by have := hc.1; omega
  have e : i.fdiv j = i / j := Int.fdiv_eq_ediv_of_nonneg i (Int.le_of_lt hc.1)
  refine floordiv_int h0 (by rw [e]; exact q) (.inl (PyProof.noPylong_of_log2 (log2_lt ?_)))
  have := hc.1
  have := hc.2
  omega
def Big (n : Nat) (i : Int) : Prop := i.natAbs < 2 ^ n
end
theorem Same.write {H H' : Hp} {p : Addr} {o : HO} (e : Same H H') (hp : H p = none) : Same H (upd H' p o) := fun b u q => by rw [j6 (j7 q hp)]; exact e b u q
section
variable {xs : List V} {J : It} {fr : List Nat} {tc : TT} {σ : St} {H1 : Hp} {p : Addr} {D : Hp -> Prop}
end
end L2
namespace L2
open PySem PySem.W
theorem Q5 : typeOf (.builtin "object.__class__") = pure (.type "getset_descriptor") := by kernel_rfl
theorem a1z : (".".intercalate ("object.__class__".cutAt '.').dropLast) = "object" := by
  have e0 : "object.__class__".cutAt '.' = ["object", "__class__"] := by decide +kernel
  rw [e0]
  decide +kernel
section
variable {prog : Program} {w : World} {A : Around} {E : Value -> Shared -> Prop} {s : Shared} {K : Frag} {x C D : Addr} {ox : Obj}
theorem a6f {R : Result -> Shared -> Prop} (X : K.In s.heap) (hx : s.heap.get? x = some ox) (hc : ox.cls = .ref D) (hm : mroIn K D (.type "object") = some true) (hq : R (.ok (.ret (.ref D))) s) :
    codeAny (model prog w) A (.call (.builtin "getset_descriptor.__get__") ⟨[.builtin "object.__class__", .ref x, .ref D], []⟩) R s := by
  obtain ⟨h, g, d, t, os⟩ := s
  have L1 := looks_mroIn (M := model prog w) X hm
  have hT5 : (⟨h, g, d, t, os⟩ : Shared).TypeIs (.builtin "object.__class__") "getset_descriptor" := Q5
  refine codeAny_call_builtin F.slot_gs_get.plain F.entry_gs_get (F.slot_gs_get.check _ _ _ _ _ _ _ _ hT5 (F.args_gs_get _ _ _) ?_)
  repeat (any_goals (first | assumption | (with_reducible refine wpAny_loadPart_at hx ?_; rw [hc]) | with_reducible refine L1.at ?_ | wp_step))
  rw [a1z]
  refine L1.at ?_
  repeat (any_goals (first | assumption | wp_step))
  refine ⟨Code.quiet_builtin _ (by decide +kernel), codeAny_builtin KF.entry_class ?_⟩
  unfold Builtin.«object.__class__»
  repeat (any_goals (first | assumption | (with_reducible refine wpAny_loadPart_at hx ?_; rw [hc]) | wp_step))
theorem a4j {tk : Tok} {Q : PySem.Fin -> Shared -> Prop} (X : K.In s.heap) (hx : s.heap.get? x = some ox) (hc : ox.cls = .ref D) (ha : findIn K (.ref D) "__class__" = some (some (.builtin "object.__class__")))
    (hm : mroIn K D (.type "object") = some true)
    (hq : Q (.done (.ret (.ref D))) s) :
    wpAny (model prog w) A (Builtin.«object.__getattribute__» ⟨[.ref x, .str "__class__" tk], []⟩) Q E s := by
  obtain ⟨h, g, d, t, os⟩ := s
  have L1 := looks_findIn (M := model prog w) X ha
  have hT5 : (⟨h, g, d, t, os⟩ : Shared).TypeIs (.builtin "object.__class__") "getset_descriptor" := Q5
  have f5 := Q5
  have f6 := F.slot_gs_get.lookup
  have f7 := F.slot_gs_set.lookup
  unfold Builtin.«object.__getattribute__»
  repeat (any_goals (first | assumption | (with_reducible refine wpAny_loadPart_at hx ?_; rw [hc]) | with_reducible refine L1.at ?_ | wp_step))
  refine a6f X hx hc hm ?_
  repeat (any_goals (first | assumption | wp_step))
theorem a4k {nv : Value} {Q : Unit -> Shared -> Prop} (X : K.In s.heap) (hx : s.heap.get? x = some ox) (hc : ox.cls = .ref D) (hb : mroIn K D (.type "BaseException") = some true) (hq : Q () s) :
    wpAny (model prog w) A (checkBuiltinCall "BaseException.__getattribute__" ⟨[.ref x, nv], []⟩) Q E s := by
  have hk : builtinKind "BaseException.__getattribute__" = some .slot := by decide +kernel
  have hsplit : splitId "BaseException.__getattribute__" = some ("BaseException", "__getattribute__") := by decide +kernel
  have ag := F.args_bexc_ga (.ref x) nv
  obtain ⟨h, g, d, t, os⟩ := s
  have L1 := looks_mroIn (M := model prog w) X hb
  simp only [checkBuiltinCall, hk, hsplit]
  refine wpAny_bind ?_
  unfold isInstance
  repeat (first | (with_reducible refine wpAny_loadPart_at hx ?_; rw [hc]) | with_reducible refine L1.at ?_ | wp_step)
  exact hq
theorem a5W {tk : Tok} {R : Result -> Shared -> Prop} (X : K.In s.heap) (hx : s.heap.get? x = some ox) (hc : ox.cls = .ref D) (ha : findIn K (.ref D) "__class__" = some (some (.builtin "object.__class__")))
    (hm : mroIn K D (.type "object") = some true) (hb : mroIn K D (.type "BaseException") = some true) (hq : R (.ok (.ret (.ref D))) s) :
    codeAny (model prog w) A (.call (.builtin "BaseException.__getattribute__") ⟨[.ref x, .str "__class__" tk], []⟩) R s :=
  codeAny_call_builtin F.excAttr_ValueError.ga.plain F.entry_bexc_ga (a4k X hx hc hb (a4j X hx hc ha hm hq))
theorem a4d {Q : Option Value -> Shared -> Prop} (X : K.In s.heap) (hx : s.heap.get? x = some ox) (hc : ox.cls = .ref D) (hga : findIn K (.ref D) "__getattribute__" = some (some (.builtin "BaseException.__getattribute__")))
    (hgn : findIn K (.ref D) "__getattr__" = some none) (ha : findIn K (.ref D) "__class__" = some (some (.builtin "object.__class__")))
    (hm : mroIn K D (.type "object") = some true) (hb : mroIn K D (.type "BaseException") = some true) (hq : Q (some (.ref D)) { s with toks := s.toks + 1 }) :
    wpAny (model prog w) A (getAttr? (.ref x) "__class__") Q E s := by
  obtain ⟨h, g, d, t, os⟩ := s
  have L1 := looks_findIn (M := model prog w) X hga
  have L2 := looks_findIn (M := model prog w) X hgn
  have f3 := F.excAttr_ValueError.ga.bind (.ref x)
  have hx2 : (Value.builtin "BaseException.__getattribute__" == Value.builtin "object.__getattribute__") = false := by decide +kernel
  have hx1 : (onTheHeap (Value.ref D) && Value.builtin "BaseException.__getattribute__" == Value.builtin "object.__getattribute__") = false := by rw [hx2]; rfl
  have hx0 : (false && onTheHeap (Value.builtin "BaseException.__getattribute__")) = false := rfl
  unfold getAttr?
  repeat (any_goals (first | assumption | (with_reducible refine wpAny_loadPart_at hx ?_; rw [hc]) | with_reducible refine L1.at ?_ | with_reducible refine L2.at ?_ | wp_step))
  refine a5W X hx hc ha hm hb ?_
  repeat (any_goals (first | assumption | wp_step))
end
structure P1 (K : Frag) (D : Addr) : Prop where
  ob : ∃ nm q N bs bm hdct sn sub ab col dd k0 k1 k2 k3 k5, K.lookup D = some (excClassObj nm q D N bs bm hdct sn sub ab col dd k0 k1 k2 k3 k5 "ValueError.__new__") /\ nsOkIn K N = true /\ nsIn K N "__init__" = some none ∧
    tailIn K [.type "ValueError", .type "Exception", .type "BaseException", .type "object"] bm = true
  ga : findIn K (.ref D) "__getattribute__" = some (some (.builtin "BaseException.__getattribute__"))
  gn : findIn K (.ref D) "__getattr__" = some none
  ca : findIn K (.ref D) "__class__" = some (some (.builtin "object.__class__"))
  mo : mroIn K D (.type "object") = some true
  mb : mroIn K D (.type "BaseException") = some true
def a3g (ea D : Addr) (h : Heap) : Prop := ∃ o, h.get? ea = some o /\ o.cls = .ref D
theorem a5Q {K : Frag} {D ea : Addr} (k : P1 K D) : KitX K (.ref ea) (.ref D) (a3g ea D) where
  ty := fun M h X p => by
    obtain ⟨o, h1, h2⟩ := p
    exact h2 ▸ (Looks.ld h1).andThen .now
  it := fun M h X p => by
    obtain ⟨_, _, _, _, _, _, _, _, _, _, _, _, _, _, _, _, lk, _⟩ := k.ob
    intro A' Q' E' s' kk q
    unfold isType loadHead
    exact wpAny_bind (wpAny_loadPart (kk _ _ (X _ _ lk)) (wpAny_pure q))
  ne := fun h tp dd its n sl X htp => Bool.eq_false_iff.mpr fun q => by
    obtain ⟨_, _, _, _, _, _, _, _, _, _, _, _, _, _, _, _, lk, _⟩ := k.ob
    have e : D = tp := Value.ref.inj (beq_iff_eq.mp q)
    subst e
    have z := (X _ _ lk).symm.trans htp
    exact absurd (Value.type.inj (congrArg Obj.cls (Option.some.inj z))) (by decide)
  ca := fun {prog w A E Q s} X p kk => by
    obtain ⟨o, h1, h2⟩ := p
    exact a4d X h1 h2 k.ga k.gn k.ca k.mo k.mb kk
def a4o (ea D : Addr) : HO := .ext (a3g ea D)
theorem a7b {P : Program} {w : World} {H : Hp} {h : Heap} {ea D : Addr} (e : a3g ea D h) : ObjOk P w H h ea (a4o ea D) :=
  ⟨e, let ⟨o, h1, _⟩ := e; ⟨o, h1⟩, fun h1 h2 ⟨o, a, b⟩ k => ⟨o, k o a, b⟩⟩
theorem C5 {X : Cx} : G1 X (.builtin "isinstance") (fun vs H Q => ∃ (ea D : Addr) (c : V) (b : Bool), vs = [.ref ea, c] /\ H ea = some (a4o ea D) /\ P1 X.K D /\ (∀ u, RelV c u -> kitOne X.K (.ref D) u = some b) /\ Q (.bl b) H) := by
  intro pins s σ H vs us Q I r h
  obtain ⟨ea, D, c, b, rfl, he, k, e, q⟩ := h
  obtain ⟨u, v, rfl, ru, rv⟩ := a0R r
  cases (show u = Value.ref ea from ru)
  have ho : ObjOk X.prog X.w H s.heap ea (a4o ea D) := I.hok ea _ he
  exact kia_one (a5Q k) I.kIn ho.1 (e v rv) (fun z => nomatch z) fun tk => ⟨.bl b, H, I.tok _, rfl, q⟩
theorem a3M {prog : Program} {w : World} {A : Around} {E : Value -> Shared -> Prop} {s : Shared} {K : Frag} {ea D R : Addr} {oe : Obj} {Q : Bool -> Shared -> Prop} (X : K.In s.heap) (hx : s.heap.get? ea = some oe) (hc : oe.cls = .ref D)
    (hs : mroIn K D (.ref R) = some true) (kR : P1 K R) (hq : Q true s) : wpAny (model prog w) A (excMatches (.ref ea) (.ref R)) Q E s := by
  obtain ⟨h, g, d, t, os⟩ := s
  obtain ⟨_, _, _, _, _, _, _, _, _, _, _, _, _, _, _, _, lk, _⟩ := kR.ob
  have hR := X _ _ lk
  have L1 := looks_mroIn (M := model prog w) X hs
  have L2 := looks_mroIn (M := model prog w) X kR.mb
  have f := tc_notTuple
  unfold excMatches
  repeat (first | with_reducible refine L1.at ?_ | with_reducible refine L2.at ?_ | (with_reducible refine wpAny_loadPart_at hx ?_; rw [hc]) | with_reducible refine wpAny_loadPart_at hR ?_ | wp_step)
  exact hq
end L2
namespace L2
open PySem PySem.Spec PyProof.Rows
theorem ObjOk.got {P : Program} {w : World} {H : Hp} {h : Heap} {a : Addr} {o : HO} (x : ObjOk P w H h a o) : ∃ ob, h.get? a = some ob := by
  cases o with
  | lst xs => obtain ⟨_, _, _, _, e⟩ := x; exact ⟨_, e⟩
  | tup xs => obtain ⟨_, _, _, ob, e, _⟩ := x; exact ⟨ob, e⟩
  | dK kvs => obtain ⟨_, _, _, _, ob, _, _, e, _⟩ := x; exact ⟨ob, e⟩
  | dT kvs => obtain ⟨_, _, _, _, ob, _, _, e, _⟩ := x; exact ⟨ob, e⟩
  | set S n => obtain ⟨ob, _, _, _, e, _⟩ := x; exact ⟨ob, e⟩
  | ins C dx fs => obtain ⟨_, _, _, e, _⟩ := x; exact ⟨_, e⟩
  | own y => exact x
  | xd fs => obtain ⟨_, ⟨ob, _, _, e, _⟩, _⟩ := x; exact ⟨ob, e⟩
  | rng lo hi => obtain ⟨_, _, _, e⟩ := x; exact ⟨_, e⟩
  | frz ob u => obtain ⟨e, _⟩ := x; exact ⟨_, e⟩
  | tbl ps => exact ⟨_, (show h.get? a = some _ from x)⟩
  | met f y => exact ⟨_, (show h.get? a = some _ from x)⟩
  | ext φ => obtain ⟨_, e, _⟩ := x; exact e
theorem Un.slots {fs ex : List Addr} {H0 H' : Hp} {h0 h1 h2 : Heap} (u : Un fs ex H0 H' h0 h1) (hb : ∀ b o, h1.get? b = some o -> (∃ o0, h0.get? b = some o0) -> b ∉ fs -> h2.get? b = some o)
    (hf : ∀ b ∈ fs, ∀ o, h1.get? b = some o -> ∃ sl, h2.get? b = some { o with slots := sl }) : Un fs ex H0 H' h0 h2 where
  keep := fun b o q n hfs hx => hb b o (u.keep b o q n hfs hx) ⟨o, q⟩ hfs
  slot := fun b o q n hfs hx => by
    obtain ⟨sl, e⟩ := u.slot b o q n hfs hx
    obtain ⟨sl', e'⟩ := hf b hfs _ e
    exact ⟨sl', e'⟩
  free := u.free
  there := fun b o q hx => by
    obtain ⟨o', e⟩ := u.there b o q hx
    by_cases hm : b ∈ fs
    . obtain ⟨sl, e'⟩ := hf b hm _ e; exact ⟨_, e'⟩
    . exact ⟨_, hb b o' e ⟨o, q⟩ hm⟩
  tups := u.tups
  frzs := u.frzs
  tbls := u.tbls
theorem HOk.slots {P : Program} {w : World} {H : Hp} {h h' : Heap} (x : HOk P w H h) (k : ∀ b u o, H b = some u -> h.get? b = some o -> h'.get? b = some o) : HOk P w H h' := fun a o e =>
  (x a o e).stay (fun b u hb q => by
    rcases hb with rfl | hb
    . exact k b o u e q
    . exact k b _ u hb q) (fun _ q => q) fun _ _ q => q
structure Fly (P : Program) (w : World) (l : List Env) (H : Hp) (s : Shared) (ea t D : Addr) (B : Heap) (H' : Hp) (s' : Shared) : Prop where
  os : s'.os = s.os
  bare : AllBare s'.gens
  un : Un (frs l) [] H H' s.heap s'.heap
  hok : HOk P w H' s'.heap
  fly : Heap.FlyingW B l ea (.ref D) (.ref t) s'.heap
  inb : ∀ b o, s'.heap.get? b = some o -> ((∃ o0, s.heap.get? b = some o0) /\ b ∉ frs l) \/ H' b ≠ none -> B.get? b = some o
def T6 (P : Program) (w : World) : CXT := fun l H s E e s' => ∃ (ea t D : Addr) (B : Heap) (H' : Hp), e = .ref ea /\ Fly P w l H s ea t D B H' s' /\ E (.ref D) none H'
section
variable {P : Program} {w : World} {l : List Env} {H : Hp} {s s' : Shared} {ea t D : Addr} {B h' : Heap} {H' : Hp}
theorem Fly.slots (F : Fly P w l H s ea t D B H' s') (fl : Heap.FlyingW B l ea (.ref D) (.ref t) h') (up : s'.heap.UpToSlots h') : Fly P w l H s ea t D B H' { s' with heap := h' } := by
  have st : ∀ b o, B.get? b = some o -> h'.get? b = some o := fl.1
  refine ⟨F.os, F.bare, F.un.slots (fun b o q z hn => st b o (F.inb b o q (.inl ⟨z, hn⟩))) (fun b hb o q => ?_), F.hok.slots (fun b u o e q => st b o (F.inb b o q (.inr (by rw [e]; simp)))), fl, fun b o q z => ?_⟩
  . obtain ⟨_, o', ho', hd⟩ := F.fly.2.2.1.mem hb
    rw [q] at ho'; cases ho'
    exact up b o q hd
  . have : ∃ o1, s'.heap.get? b = some o1 := by
      rcases z with ⟨⟨o0, z⟩, _⟩ | z
      . exact F.un.there b o0 z (by simp)
      . cases e : H' b with
        | none => exact absurd e z
        | some u => exact (F.hok b u e).got
    obtain ⟨o1, q1⟩ := this
    have b1 := F.inb b o1 q1 z
    have := st b o1 b1
    rw [show h'.get? b = some o from q] at this
    cases this
    exact b1
theorem Fly.new (F : Fly P w l H s ea t D B H' s') : s.heap.get? ea = none /\ H' ea = none := by
  obtain ⟨_, hb, hfr, oe, vs, T, oT, ts, he, hc, hd, _⟩ := F.fly
  have nb : ∀ o, B.get? ea ≠ some o := fun o z => by rw [hb] at z; cases z
  constructor
  . cases q : s.heap.get? ea with
    | none => rfl
    | some o0 =>
      refine absurd (F.inb ea oe he (.inl ⟨⟨o0, q⟩, fun hm => ?_⟩)) (nb _)
      obtain ⟨_, o, ho, hnf⟩ := hfr.mem hm
      rw [he] at ho; cases ho
      exact hnf vs hd
  . cases q : H' ea with
    | none => rfl
    | some u => exact absurd (F.inb ea oe he (.inr (by rw [q]; simp))) (nb _)
theorem Fly.at (F : Fly P w l H s ea t D B H' s') : a3g ea D s'.heap := by
  obtain ⟨o, h1, h2⟩ := F.fly.there
  exact ⟨o, h1, h2⟩
theorem Fly.inv {X : Cx} {pins : List (Addr × Obj)} {σ : St} (I : Inv X pins σ H s) (F : Fly X.prog X.w X.stack H s ea t D B H' s') : Inv X pins σ H' s' :=
  I.call' F.os F.un F.hok F.bare (fun b z => absurd z (by simp))
theorem Fly.track {X : Cx} {pins : List (Addr × Obj)} {σ : St} (I : Inv X pins σ H s) (F : Fly X.prog X.w X.stack H s ea t D B H' s') : Inv X pins σ (upd H' ea (a4o ea D)) s' := by
  obtain ⟨n1, n2⟩ := F.new
  have u := F.un
  refine I.call' F.os (ch := []) ⟨u.keep, u.slot, fun b o q n hx => ?_, u.there, fun b xs q => ?_, fun b o xs q => ?_, fun b ps q => ?_⟩ (fun a o e => ?_) F.bare (fun b z => absurd z (by simp))
  . rw [j6 (fun z => by rw [z, n1] at q; cases q)]; exact u.free b o q n hx
  . have := u.tups b xs q
    rw [j6 (j7 this n2)]; exact this
  . have := u.frzs b o xs q
    rw [j6 (j7 this n2)]; exact this
  . obtain ⟨m, e⟩ := u.tbls b ps q
    exact ⟨m, by rw [j6 (j7 e n2)]; exact e⟩
  . by_cases ha : a = ea
    . subst ha; rw [c6] at e; cases e
      exact a7b F.at
    . rw [j6 ha] at e
      exact (F.hok a o e).stay (fun _ _ _ q => q) (fun c q => by rw [j6 (j7 q n2)]; exact q) fun c xs q => by rw [j6 (j7 q n2)]; exact q
end
section
variable {P : Program} {w : World} {K : W.Frag} {mg : Str -> Option Value} {base : Heap} {N : List Str} {qual : Str} {scope : Scope} {f : Addr} {cd : Value} {A : Around} {outer : List Env} {s₀ : Shared} {H₀ : Hp} {E : XK}
theorem W9 {b : Addr} {o : Obj} {X : Cx} {pins : List (Addr × Obj)} {σ : St} {H : Hp} {s : Shared} (I : Inv X pins σ H s) (e : X.s₀.heap.get? b = some o) (hb : b ∉ frs X.outer) : b ∉ frs X.stack := fun z => by
  rcases List.mem_cons.mp (I.stkSub b z) with q | q
  . have := Nat.lt_of_lt_of_le (Heap.lt_size e) I.ok.above
    rw [q] at this
    exact Nat.lt_irrefl _ this
  . exact hb q
theorem a1K : R1 (T6 P w) (M2 (T6 P w) P w K mg base N qual scope f cd A outer s₀ H₀ E) E := by
  intro pins σ H s e s' I h
  obtain ⟨ea, t, D, B, H', rfl, F, hE⟩ := h
  have I' := F.inv I
  refine wpAny_leaves_onW I.ok.frames rfl F.fly fun h' fl up => ?_
  have st : ∀ b o, B.get? b = some o -> h'.get? b = some o := fl.1
  have bin : ∀ b o, s'.heap.get? b = some o -> (∃ o0, s₀.heap.get? b = some o0) -> b ∉ frs outer -> B.get? b = some o := fun b o q ⟨o0, z⟩ hn => by
    obtain ⟨o1, q1⟩ := I.base.there b o0 z (by show b ∉ ([] : List Addr); simp)
    exact F.inb b o q (.inl ⟨⟨o1, q1⟩, W9 I z hn⟩)
  refine ⟨ea, t, D, B, H', rfl, ⟨I'.os, F.bare, I'.base.slots (fun b o q z hn => st b o (bin b o q z hn)) (fun b hb o q => ?_), F.hok.slots (fun b u o e q => st b o (F.inb b o q (.inr (by rw [e]; simp)))), fl, fun b o q z => ?_⟩, hE⟩
  . obtain ⟨_, o', ho', hd⟩ := F.fly.2.2.1.2.2.mem hb
    rw [q] at ho'; cases ho'
    exact up b o q hd
  . have : ∃ o1, s'.heap.get? b = some o1 /\ B.get? b = some o1 := by
      rcases z with ⟨⟨o0, z⟩, hn⟩ | z
      . obtain ⟨o1, q1⟩ := I'.base.there b o0 z (by show b ∉ ([] : List Addr); simp)
        exact ⟨o1, q1, bin b o1 q1 ⟨o0, z⟩ hn⟩
      . cases e : H' b with
        | none => exact absurd e z
        | some u =>
          obtain ⟨o1, q1⟩ := (F.hok b u e).got
          exact ⟨o1, q1, F.inb b o1 q1 (.inr z)⟩
    obtain ⟨o1, _, b1⟩ := this
    have := st b o1 b1
    rw [show h'.get? b = some o from q] at this
    cases this
    exact b1
theorem a9G {pins : List (Addr × Obj)} {σ : St} {H : Hp} {s : Shared} {h1 : Heap} {ea D : Addr} {vs : List Value} (I : Inv (M2 (T6 P w) P w K mg base N qual scope f cd A outer s₀ H₀ E) pins σ H s) (hx : Heap.MadeExcOf s.heap h1 ea (.ref D) vs)
    (hE : E (.ref D) none H) : (M2 (T6 P w) P w K mg base N qual scope f cd A outer s₀ H₀ E).xe (.ref ea) { s with heap := h1 } := by
  have hin : ∀ env ∈ (envOfC qual scope s₀.heap.objs.size f cd :: outer), ∀ b, env.frame = some b -> b ∈ frs (envOfC qual scope s₀.heap.objs.size f cd :: outer) := fun env he b hb => List.mem_filterMap.mpr ⟨env, he, hb⟩
  refine wpAny_leaves_madeW (base := W.hideAll s.heap (frs (envOfC qual scope s₀.heap.objs.size f cd :: outer))) (h := s.heap) I.ok.frames rfl (fun b o q => W.of_hideAll _ q) (W.funFrames_hide I.stack hin) hx fun h' t fl _ _ up => ?_
  have st : ∀ b o, s.heap.get? b = some o -> b ∉ frs (envOfC qual scope s₀.heap.objs.size f cd :: outer) -> h'.get? b = some o := fun b o q hn => fl.1 b o (W.hideAll_get _ q hn)
  have trn : ∀ b u, H b = some u -> b ∉ frs (envOfC qual scope s₀.heap.objs.size f cd :: outer) := fun b u e z => by
    have := I.stkFree b z
    rw [e] at this; cases this
  refine ⟨ea, t, D, _, H, rfl, ⟨I.os, I.bare, I.base.slots (fun b o q ⟨o0, z⟩ hn => st b o q (W9 I z hn)) (fun b hb o q => ?_), I.hok.slots (fun b u o e q => st b o q (trn b u e)), fl, fun b o q z => ?_⟩, hE⟩
  . obtain ⟨_, o', ho', hd⟩ := I.funs.mem hb
    rw [q] at ho'; cases ho'
    exact up b o (hx.keeps b o q) hd
  . have : ∃ o1, s.heap.get? b = some o1 /\ b ∉ frs (envOfC qual scope s₀.heap.objs.size f cd :: outer) := by
      rcases z with ⟨⟨o0, z⟩, hn⟩ | z
      . obtain ⟨o1, q1⟩ := I.base.there b o0 z (by show b ∉ ([] : List Addr); simp)
        exact ⟨o1, q1, W9 I z hn⟩
      . cases e : H b with
        | none => exact absurd e z
        | some u =>
          obtain ⟨o1, q1⟩ := (I.hok b u e).got
          exact ⟨o1, q1, trn b u e⟩
    obtain ⟨o1, q1, hn⟩ := this
    have := st b o1 q1 hn
    rw [show h'.get? b = some o from q] at this
    cases this
    exact W.hideAll_get _ q1 hn
end
end L2
namespace L2
open PySem PySem.Spec PyProof.Rows
section
variable {X : Cx} {e : Expr} {te : TE} {a : Str} {j : Nat} {p1 p2 p3 : Pos}
end
section
variable {P : Program} {w : World} {K : W.Frag} {mg : Str -> Option Value} {base : Heap} {N : List Str} {qual : Str} {scope : Scope} {f : Addr} {cd : Value} {A : Around} {outer : List Env} {s₀ : Shared} {H₀ : Hp} {E : XK}
  {x : Str} {D : Addr} {e : Expr} {t : TA} {np cpos pos : Pos}
def a8x (t : TA) (D : Addr) (E : XK) : TS := fun _ σ H => t σ H fun vs H1 => vs.length <= 1000 /\ E (.ref D) none H1
theorem W0 (k : P1 K D) (hg : Gl (M2 (T6 P w) P w K mg base N qual scope f cd A outer s₀ H₀ E) x) (hm : mg x = some (.ref D)) (hh : A.handled = none)
    (ha : PA (M2 (T6 P w) P w K mg base N qual scope f cd A outer s₀ H₀ E) [e] t)
    (he : starEach [e] (envOfC qual scope s₀.heap.objs.size f cd) = [(false, eval e (envOfC qual scope s₀.heap.objs.size f cd))] := by rfl) (hdb : (x == ("__debug__" : Str)) = false := by decide) :
    PS (M2 (T6 P w) P w K mg base N qual scope f cd A outer s₀ H₀ E) (.Raise (some (.Call (.Name x np) [e] [] cpos)) none pos) (a8x t D E) := by
  intro pins s σ H Dn I h
  obtain ⟨nm, q, Na, bs, bm, hdct, sn, sub, ab, col, dd, k0, k1, k2, k3, k5, lk, ok, ni, tl⟩ := k.ob
  have tb : ∀ h : Heap, K.In h -> OwnTail h [.type "ValueError", .type "Exception", .type "BaseException", .type "object"] bm := fun h X => W.tail_of_in X tl
  have nsf : ∀ h : Heap, K.In h -> h.Ns Na (h.nsMap Na) /\ h.nsMap Na "__init__" = none := fun h X => ⟨.of_isNs (W.isNs_of_in X ok), W.nsMap_none_of_in X ok ni⟩
  have hN0 := (nsf s.heap I.kIn).1
  refine wpAny_Raise_call_subT (C := D) (nm := nm) (q := q) (N := Na) (bs := bs) (bm := bm) (hdct := hdct) (sn := sn) (sub := sub) (ab := ab) (col := col) (dd := dd) (k0 := k0) (k1 := k1) (k2 := k2) (k3 := k3) (k5 := k5) (newId := "ValueError.__new__")
    F.excBase_ValueError (mN := base.nsMap Na) ((tb base I.mod.kin).hasType (by decide +kernel)) (by show (A.deeper _).handled = none; exact hh) (by rw [show starEach [e] (M2 (T6 P w) P w K mg base N qual scope f cd A outer s₀ H₀ E).env = _ from he]; rfl)
    (nsf base I.mod.kin).2 (P3 I hg hm ⟨rfl, ?_⟩ hdb)
  have h2 := ha cpos pins s σ H _ I h
  rw [show starEach [e] (M2 (T6 P w) P w K mg base N qual scope f cd A outer s₀ H₀ E).env = _ from he] at h2 ⊢
  refine Calls.evalArgs_plain (wpAny_mono h2 (fun us s2 ⟨vs, H2, I2, r, hl, hE⟩ => ⟨rfl, by rw [<- r.length]; exact Nat.le_of_lt (v4 hl), I2.kIn _ _ lk, (nsf base I.mod.kin).1.keeps I2.bk, tb _ I2.kIn, fun h' ea hx => a9G I2 hx hE⟩) fun _ _ z => z)
end
def U8 (CX : CXT) (X : Cx) (EX : St -> XK) : Prop := ∀ (pins : List (Addr × Obj)) (σ : St) (H : Hp) (s : Shared) (e : Value) (s' : Shared), Inv X pins σ H s -> CX X.stack H s (EX σ) e s' -> X.xe e s'
def a8e (sp : Sp) (EX : St -> XK) (t : TA) : TE := fun σ H Q => t σ H fun vs H1 => sp vs H1 Q (EX σ)
section
variable {X : Cx} {CX : CXT} {k : Nat} {f : Addr} {fd : FuncData} {ps : List Str} {sp : Sp} {EX : St -> XK} {x : Str} {p pos : Pos} {e : Expr} {es : List Expr} {t : TA}
theorem a5y (F : x8 X.prog X.w X.K X.mg X.base CX k f fd ps sp) (hr : Room k X.A) (hg : Gl X x) (hm : X.mg x = some (.ref f)) (hk : W.keepIn X.K (.ref f) = true) (hb : Binds X.K fd ps []) (hx : U8 CX X EX)
    (ha : PA X (e :: es) t) (hdb : (x == ("__debug__" : Str)) = false := by decide) (he : starEach (e :: es) X.env = (false, eval e X.env) :: starEach es X.env := by rfl) (hpl : (backTo pos (starEach es X.env)).any (·.1) = false := by rfl) :
    PE X (.Call (.Name x p) (e :: es) [] pos) (a8e sp EX t) := by
  intro pins s σ H Q I h
  refine wpAny_Call_Name_kw (P3 I hg hm ?_ hdb)
  refine W.callWith_K (h₀ := X.base) I.ok.mod.kin hk (A6 (ha pos pins s σ H _ I h) fun us s1 ⟨vs, H1, I1, r, q⟩ => ⟨I1.kIn, ?_⟩) he hpl
  have hl : (us ++ []).length = ps.length := by rw [List.append_nil, <- r.length]; exact F.len _ _ _ _ q
  have hb' := hb s1 us I1.kIn hl
  rw [List.append_nil] at hb'
  refine wpAny_call (codeAny_mono (F.run X.A X.stack s1 H1 ⟨us, []⟩ us vs Q (EX σ) hr I1.env0 hb' r q) fun rr s' hq => ?_)
  cases rr with
  | error e => exact hx pins σ H1 s1 e s' I1 hq
  | ok fl =>
    cases fl with
    | ret u => exact I1.after hq
    | next => exact False.elim hq
    | brk => exact False.elim hq
    | cont => exact False.elim hq
end
abbrev Cx.held (X : Cx) (ea : Addr) : Cx := { X with A := X.A.mark (some (.ref ea)), calm := false, xe := fun _ _ => False }
abbrev Cx.tried (X : Cx) (pn : List (Addr × Obj)) (E : Value -> Shared -> Prop) : Cx := { X with pn := pn, xe := E }
section
variable {X : Cx} {pins : List (Addr × Obj)} {σ : St} {H : Hp} {s : Shared} {ea : Addr}
theorem Cx.Ok.held (ok : X.Ok) : (X.held ea).Ok :=
  ⟨ok.mod, ok.kind, ok.glob, ok.blt, ok.above, ok.inj, ok.has, ok.cab, (fun z => Bool.noConfusion z), ok.frames, ok.stk, ok.exf, ok.bs, ok.bsz, ok.noex, ok.exfs, ok.funs, ok.frf⟩
theorem Inv.held (I : Inv X pins σ H s) (ea : Addr) : Inv (X.held ea) pins σ H s := ⟨I.ok.held, I.os, I.bare, I.base, I.loc, I.cell, I.free, I.freeC, I.pin, I.hok, I.len⟩
theorem Inv.unheld (ok : X.Ok) (I : Inv (X.held ea) pins σ H s) : Inv X pins σ H s := ⟨ok, I.os, I.bare, I.base, I.loc, I.cell, I.free, I.freeC, I.pin, I.hok, I.len⟩
theorem Cx.Ok.tried (ok : X.Ok) {pn : List (Addr × Obj)} {E : Value -> Shared -> Prop} : (X.tried pn E).Ok :=
  ⟨ok.mod, ok.kind, ok.glob, ok.blt, ok.above, ok.inj, ok.has, ok.cab, ok.hd, ok.frames, ok.stk, ok.exf, ok.bs, ok.bsz, ok.noex, ok.exfs, ok.funs, ok.frf⟩
theorem Inv.tried (I : Inv X pins σ H s) {E : Value -> Shared -> Prop} : Inv (X.tried (X.pn ++ pins) E) [] σ H s := ⟨I.ok.tried, I.os, I.bare, I.base, I.loc, I.cell, I.free, I.freeC, by rw [List.append_nil]; exact I.pin, I.hok, I.len⟩
theorem Inv.untried (ok : X.Ok) {E : Value -> Shared -> Prop} {pins' : List (Addr × Obj)} (I : Inv (X.tried (X.pn ++ pins) E) pins' σ H s) : Inv X pins σ H s :=
  ⟨ok, I.os, I.bare, I.base, I.loc, I.cell, I.free, I.freeC, fun p hp => I.pin p (List.mem_append_left _ hp), I.hok, I.len⟩
theorem R9 {M : Model} {A : Around} {E : Value -> Shared -> Prop} {i : Nat} {n : Str} {pos : Pos} {Q : Unit -> Shared -> Prop} (I : Inv X pins σ H s) (hN : X.N.Nodup) (hi : X.N[i]? = some n) (hk : X.env.scope.names.lookup n = some .local)
    (h : ∀ s', Inv X pins (σ.set i none) H s' -> Q () s') : wpAny M A (do bindName X.env n .none; unbindBehindTheSuite X.env n pos) Q E s := by
  obtain ⟨m, hn, hl⟩ := id I.loc
  have hcls : (X.env.scope.kind == .class || (X.env.scope.kind == .module && X.env.locals != X.env.globals)) = false := by rw [I.ok.kind]; rfl
  have hiσ : i < σ.length := by rw [I.len]; exact (List.getElem?_eq_some_iff.mp hi).1
  have cne := I.cne
  refine wpAny_nameGoes_keeps hk hn hcls fun h' v hn' hs => ?_
  obtain ⟨oL, _, _, hoL, _⟩ := id hn
  have far : ∀ b o, X.s₀.heap.get? b = some o -> b ≠ X.env.locals := fun b o e => Nat.ne_of_lt (Nat.lt_of_lt_of_le (Heap.lt_size e) I.ok.above)
  refine h _ ⟨I.ok, I.os, I.bare, ⟨fun b o e n hb hx => ?_, fun b o e n hb hx => ?_, I.base.free, fun b o e hx => ?_, I.base.tups, I.base.frzs, I.base.tbls⟩, ⟨_, hn', fun j y v' e1 e2 e3 => ?_⟩, fun y c e => ?_, I.free, I.freeC, fun p hp => ?_, fun b ob e => ?_, by simpa using I.len⟩
  . exact (hs.2 b (far b o e)).trans (I.base.keep b o e n hb hx)
  . obtain ⟨sl, e1⟩ := I.base.slot b o e n hb hx
    exact ⟨sl, (hs.2 b (far b o e)).trans e1⟩
  . obtain ⟨o', e1⟩ := I.base.there b o e hx
    exact ⟨o', (hs.2 b (far b o e)).trans e1⟩
  . by_cases hj : j = i
    . subst hj
      rw [List.getElem?_set_self hiσ] at e2
      cases e2
    . rw [List.getElem?_set_ne (Ne.symm hj)] at e2
      obtain ⟨u', r', q⟩ := hl j y v' e1 e2 e3
      refine ⟨u', r', ?_⟩
      rcases q with ⟨k, e⟩ | ⟨k, c, e, z⟩
      . refine .inl ⟨k, ?_⟩
        have : y ≠ n := fun e => hj (a0m hN e1 (e ▸ hi))
        simp [this, e]
      . exact .inr ⟨k, c, e, z.sameBut hs (cne y c e)⟩
  . obtain ⟨w', z⟩ := I.cell y c e
    exact ⟨w', z.sameBut hs (cne y c e)⟩
  . obtain ⟨e, n, ne, nf, d⟩ := I.pin p hp
    exact ⟨(hs.2 p.1 ne).trans e, n, ne, nf, d⟩
  . refine (I.hok b ob e).stay (fun c w' hc q => (hs.2 c ?_).trans q) (fun _ q => q) fun _ _ q => q
    rintro rfl
    rcases hc with z | hc
    . rw [<- z, I.free] at e; cases e
    . rw [I.free] at hc; cases hc
end
def Ends.less (D : Ends) (i : Nat) : Ends := { nx := fun σ H => D.nx (σ.set i none) H, rt := D.rt, bk := fun σ H => D.bk (σ.set i none) H, ct := fun σ H => D.ct (σ.set i none) H }
def b1T (K : W.Frag) (R : Addr) (tb : (St -> XK) -> TS) (i : Nat) (ts : TS) : TS := fun D σ H => ∃ EX : St -> XK, tb EX D σ H ∧
  ∀ σ' H' C ea d, EX σ' C d H' -> H' ea = none -> ∀ Da, C = .ref Da -> P1 K Da /\ W.mroIn K Da (.ref R) = some true /\ ts (D.less i) (σ'.set i (some (.ref ea))) (upd H' ea (a4o ea Da))
section
variable {X : Cx} {x n : Str} {R : Addr} {i : Nat} {tb : (St -> XK) -> TS} {ts : TS} {body suite : List Stmt} {b₀ : Stmt} {np hpos pos : Pos}
theorem a8v (kR : P1 X.K R) (hN : X.N.Nodup) (hi : X.N[i]? = some n) (hk : X.env.scope.names.lookup n = some .local) (hst : X.stack = X.env :: X.outer) (hgl : Gl X x) (hm : X.mg x = some (.ref R))
    (hb : ∀ (EX : St -> XK) (pn : List (Addr × Obj)) (E : Value -> Shared -> Prop), U8 (T6 X.prog X.w) (X.tried pn E) EX -> PSs (X.tried pn E) body (tb EX))
    (hs : ∀ ea, PSs (X.held ea) (b₀ :: suite) ts) (hdb : (x == ("__debug__" : Str)) = false := by decide) :
    PS X (.Try body [.ExceptHandler (some (.Name x np)) (some n) (b₀ :: suite) hpos] [] [] pos) (b1T X.K R tb i ts) := by
  intro pins s σ H D I ⟨EX, hq, hh⟩
  refine wpAny_Try_except ?_
  have pass : U8 (T6 X.prog X.w) (X.tried (X.pn ++ pins) fun e s' => ∃ σ' H0 s0, Inv X pins σ' H0 s0 /\ T6 X.prog X.w X.stack H0 s0 (EX σ') e s') EX := fun pins' σ' H0 s0 e s' I0 q => ⟨σ', H0, s0, I0.untried I.ok, q⟩
  refine wpAny_mono (hb EX _ _ pass [] s σ H D I.tried hq) (fun f s1 q => ?_) fun e s1 ⟨σ', H0, s0, I0, cx⟩ => ?_
  . cases f with
    | next => obtain ⟨σ', H', J, q⟩ := q; exact wpAny_execs_nil ⟨σ', H', J.untried I.ok, q⟩
    | brk => obtain ⟨σ', H', J, q⟩ := q; exact ⟨σ', H', J.untried I.ok, q⟩
    | cont => obtain ⟨σ', H', J, q⟩ := q; exact ⟨σ', H', J.untried I.ok, q⟩
    | ret u => obtain ⟨v, σ', H', J, r, q⟩ := q; exact ⟨v, σ', H', J.untried I.ok, r, q⟩
  . obtain ⟨ea, t, Da, B, H', rfl, F, hE⟩ := cx
    have hfr : X.A.frames = some (X.env :: X.outer) := by rw [I.ok.frames, hst]
    have hf : X.env.frame = some X.env.locals := by
      rcases I.ok.stk with z | ⟨_, z⟩
      . rw [hst] at z
        have := congrArg List.length z
        simp at this
      . exact z
    have Ffly := F.fly
    rw [hst] at Ffly
    refine wpAny_looks_onW hfr hf Ffly fun h4 held4 up4 => wpAny_landsW held4 fun h5 fly5 up5 => ?_
    have F5 := F.slots (by rw [hst]; exact fly5) (up4.trans up5)
    refine wpAny_handleBy_cons (codeAny_handlers_test ?_) (by intro q; cases q)
    have I5 := (F5.inv I0).held ea
    refine P3 I5 hgl hm ?_ hdb
    obtain ⟨kD, hsub, hts⟩ := hh σ' H' _ ea none hE F.new.2 Da rfl
    obtain ⟨oe, he, hc⟩ := F5.at
    refine a3M I5.kIn he hc hsub kR ?_
    refine codeAny_handlers_suite_as ?_
    refine lands_againW fly5 fun h6 fly6 up6 => ?_
    have F6 := F5.slots (by rw [hst]; exact fly6) up6
    have I6 := (F6.track I0).held ea
    refine Q9 (X := X.held ea) (v := .ref ea) I6 hN hi (Or.inl hk) (rfl : RelV (.ref ea) (.ref ea)) (fun s7 I7 => ?_) (.inr hk)
    refine wpAny_mono (hs ea pins s7 _ _ (D.less i) I7 hts) (fun f s8 q => ?_) fun _ _ z => z.elim
    cases f with
    | next => obtain ⟨σ2, H2, J, q⟩ := q; exact R9 (J.unheld I.ok) hN hi hk fun s9 J9 => ⟨_, _, J9, q⟩
    | brk => obtain ⟨σ2, H2, J, q⟩ := q; exact R9 (J.unheld I.ok) hN hi hk fun s9 J9 => ⟨_, _, J9, q⟩
    | cont => obtain ⟨σ2, H2, J, q⟩ := q; exact R9 (J.unheld I.ok) hN hi hk fun s9 J9 => ⟨_, _, J9, q⟩
    | ret u => obtain ⟨v, σ2, H2, J, r, q⟩ := q; exact R9 (J.unheld I.ok) hN hi hk fun s9 J9 => ⟨v, _, _, J9, r, q⟩
end
end L2
namespace L2
open PySem PySem.Spec PyProof.Rows
structure a1N (k : Nat) (A : Around) : Prop where
  dp : A.depth + 3 * k + 5 < recursionLimit
  un : A.units + 16 * k + 200 < cLine
theorem Room.u {k : Nat} {A : Around} (r : Room k A) (e : Option Value) : a1N k (A.mark e) := ⟨r.dp, r.un⟩
structure FnU (P : Program) (w : World) (K : W.Frag) (mg : Str -> Option Value) (base : Heap) (k : Nat) (f : Addr) (fd : FuncData) (ps : List Str) (sp : Sp) : Prop where
  len : ∀ vs H Q E, sp vs H Q E -> vs.length = ps.length
  run : ∀ (A : Around) (outer : List Env) (s : Shared) (H : Hp) (args : Args) (us : List Value) (vs : List V) (Q : VK) (E : XK), a1N k A -> Env0 P w K mg base A outer s H -> BindsTo s fd args (ps.zip us) -> Vals vs us -> sp vs H Q E →
    codeAny (model P w) A (.call (.ref f) args) (CR K1 outer P w H s Q E) s
abbrev a1H (P : Program) (w : World) (K : W.Frag) (mg : Str -> Option Value) (base : Heap) (N : List Str) (qual : Str) (scope : Scope) (f : Addr) (cd : Value) (A : Around) (outer : List Env) (s : Shared) (H : Hp) : Cx :=
  { M2 K1 P w K mg base N qual scope f cd A outer s H E0 with calm := false, xe := fun _ _ => False }
theorem a2D {P : Program} {w : World} {K : W.Frag} {mg : Str -> Option Value} {base : Heap} {N ps : List Str} {qual : Str} {scope : Scope} {f : Addr} {cd : Value} {A : Around} {outer : List Env} {s s1 : Shared} {H : Hp} {us : List Value} {vs : List V}
    (S : p6 N ps scope) (e0 : Env0 P w K mg base A outer s H) (hl : vs.length = ps.length) (r : Vals vs us)
    (x : InCallC s s.heap.objs.size (bindL (envOfC qual scope s.heap.objs.size f cd).kindOf (ps.zip us) fun _ => none) (cellsFrom (s.heap.objs.size + 1) scope.names []) (bindC (envOfC qual scope s.heap.objs.size f cd).kindOf (ps.zip us) fun _ => none) s1) :
    Inv (a1H P w K mg base N qual scope f cd A outer s H) [] (M5 N vs) H s1 := by
  have e1 : Env0 P w K mg base ({ A with handled := none }) outer s H := ⟨e0.frames, e0.mod, e0.bs, e0.bsz, e0.funs, e0.frf, e0.hok, e0.bare⟩
  have I := a0S (CX := K1) (E := E0) (qual := qual) (f := f) (cd := cd) S (A := { A with handled := none }) rfl e1 hl r x
  have ok := I.ok
  exact ⟨⟨ok.mod, ok.kind, ok.glob, ok.blt, ok.above, ok.inj, ok.has, ok.cab, (fun z => Bool.noConfusion z), Around.frames_deeper e0.frames, .inr ⟨rfl, rfl⟩, ok.exf, ok.bs, ok.bsz, ok.noex, ok.exfs, ok.funs, ok.frf⟩, I.os, I.bare, I.base, I.loc, I.cell, I.free, I.freeC, I.pin, I.hok, I.len⟩
theorem a8r {P : Program} {w : World} {K : W.Frag} {mg : Str -> Option Value} {base : Heap} {k : Nat} {f : Addr} {name qual : Str} {params : Arguments} {body : List Stmt} {scope : Scope} {dV kV doc pm cdv ct oc : Value} {an od : Option Addr}
    {osl : Array (Option Value)} {N ps : List Str} {sp : Sp} (lk : K.lookup f = some ⟨oc, od, .func (W.fnOf name qual params body scope dV kV doc pm an cdv ct), osl⟩) (hcd : W.codeIn K cdv qual = true) (S : p6 N ps scope)
    (len : ∀ vs H Q E, sp vs H Q E -> vs.length = ps.length)
    (hbody : ∀ (A : Around) (outer : List Env) (s : Shared) (H : Hp) (vs : List V) (Q : VK) (E : XK), a1N k (A.deeper (envOfC qual scope s.heap.objs.size f cdv)) -> sp vs H Q E →
      ∃ t, PSs (a1H P w K mg base N qual scope f cdv A outer s H) body t /\ t { nx := fun _ H' => Q .non H', rt := Q } (M5 N vs) H) :
    FnU P w K mg base (k + 1) f (W.fnOf name qual params body scope dV kV doc pm an cdv ct) ps sp := by
  refine ⟨len, fun A outer s H args us vs Q E hr e0 hb r hsp => ?_⟩
  have hl := len _ _ _ _ hsp
  have KX : K.In s.heap := e0.mod.kin.keeps fun b o e => (e0.bs b o e).1
  have lim : s.heap.NoLimit := e0.mod.nolimit.keeps fun b o e => (e0.bs b o e).1
  have hkind : ∀ y ∈ ps.zip us, scope.names.lookup y.1 = some .local \/ (scope.names.lookup y.1 = some .cell /\ ((cellsFrom (s.heap.objs.size + 1) scope.names []).lookup y.1).isSome = true) := fun ⟨n, v⟩ hy => by
    rcases S.par n (List.of_mem_zip hy).1 with q | q
    . exact .inl q
    . exact .inr ⟨q, W.cellsFrom_some _ _ _ (.inl q)⟩
  refine codeAny_call_function (by have := hr.dp; omega) (KX _ _ lk) rfl S.co S.gen rfl (W.codeRec_of KX hcd) (hb _ _ _ _ ?_)
  refine wpAny_newFunctionEnv_cells S.kind hkind fun env he s1 x => ?_
  subst he
  refine ⟨lim.keeps x.toInCall.keep, codeAny_func ?_⟩
  obtain ⟨t, ht, hq⟩ := hbody A outer s H vs Q E ⟨by have := hr.dp; show A.depth + 1 + 3 * k + 5 < _; omega, by have := hr.un; show A.units + 3 + 16 * k + 200 < _; omega⟩ hsp
  have I : Inv (a1H P w K mg base N qual scope f cdv A outer s H) [] (M5 N vs) H s1 := a2D S e0 hl r x
  refine wpAny_mono (ht [] s1 (M5 N vs) H _ I hq) (fun fl s' hs => ?_) fun e s' hs => hs.elim
  have fin : ∀ {σ' : St} {H' : Hp} {v : V} {u : Value}, Inv (a1H P w K mg base N qual scope f cdv A outer s H) [] σ' H' s' -> RelV v u -> Q v H' -> CE outer P w H s Q u s' :=
    fun {σ' H' v u} J rv q => ⟨v, H', J.os, J.bare, J.base, J.hok, rv, q⟩
  cases fl with
  | ret u =>
    obtain ⟨v, σ', H', J, rv, q⟩ := hs
    exact fin J rv q
  | next =>
    obtain ⟨σ', H', J, q⟩ := hs
    exact fin (v := V.non) (u := Value.none) J rfl q
  | brk =>
    obtain ⟨_, _, _, q⟩ := hs
    exact False.elim q
  | cont =>
    obtain ⟨_, _, _, q⟩ := hs
    exact False.elim q
section
variable {P : Program} {w : World} {K : W.Frag} {mg : Str -> Option Value} {base : Heap}
theorem Fun.okU {x qual : Str} {st : Stmt} {f : Addr} {fd : FuncData} {N ps : List Str} {k : Nat} {sp : Sp} (F : Fun K x qual st f fd) (S : p6 N ps (h7 st)) (len : ∀ vs H Q E, sp vs H Q E -> vs.length = ps.length)
    (hbody : ∀ (cdv : Value) (A : Around) (outer : List Env) (s : Shared) (H : Hp) (vs : List V) (Q : VK) (E : XK), a1N k (A.deeper (envOfC qual (h7 st) s.heap.objs.size f cdv)) -> sp vs H Q E →
      ∃ t, PSs (a1H P w K mg base N qual (h7 st) f cdv A outer s H) (x6 st) t /\ t { nx := fun _ H' => Q .non H', rt := Q } (M5 N vs) H) : FnU P w K mg base (k + 1) f fd ps sp := by
  obtain ⟨oc, od, kV, doc, pm, an, cdv, ct, osl, rfl, lk, hcd⟩ := F.ex
  exact a8r lk hcd S len fun A outer s H vs Q E hr hsp => hbody cdv A outer s H vs Q E hr hsp
theorem Fun.ok1 {x qual : Str} {st : Stmt} {f : Addr} {fd : FuncData} {N ps : List Str} {k : Nat} {sp : Sp} (F : Fun K x qual st f fd) (S : p6 N ps (h7 st)) (len : ∀ vs H Q E, sp vs H Q E -> vs.length = ps.length)
    (hbody : ∀ (cdv : Value) (A : Around) (outer : List Env) (s : Shared) (H : Hp) (vs : List V) (Q : VK) (E : XK), Room k (A.deeper (envOfC qual (h7 st) s.heap.objs.size f cdv)) -> sp vs H Q E →
      ∃ t, PSs (M2 (T6 P w) P w K mg base N qual (h7 st) f cdv A outer s H E) (x6 st) t /\ t { nx := fun _ H' => Q .non H', rt := Q } (M5 N vs) H) : x8 P w K mg base (T6 P w) (k + 1) f fd ps sp := by
  obtain ⟨oc, od, kV, doc, pm, an, cdv, ct, osl, rfl, lk, hcd⟩ := F.ex
  exact a7E lk hcd S len fun A outer s H vs Q E hr hsp => hbody cdv A outer s H vs Q E hr hsp
end
section
variable {X : Cx} {k : Nat} {f : Addr} {fd : FuncData} {ps : List Str} {sp : Sp} {x : Str} {p pos : Pos} {e : Expr} {es : List Expr} {t : TA}
theorem a5L (F : FnU X.prog X.w X.K X.mg X.base k f fd ps sp) (hr : a1N k X.A) (hg : Gl X x) (hm : X.mg x = some (.ref f)) (hk : W.keepIn X.K (.ref f) = true) (hb : Binds X.K fd ps [])
    (ha : PA X (e :: es) t) (hdb : (x == ("__debug__" : Str)) = false := by decide) (he : starEach (e :: es) X.env = (false, eval e X.env) :: starEach es X.env := by rfl) (hpl : (backTo pos (starEach es X.env)).any (·.1) = false := by rfl) :
    PE X (.Call (.Name x p) (e :: es) [] pos) (a7R sp [] E0 t) := by
  intro pins s σ H Q I h
  refine wpAny_Call_Name_kw (P3 I hg hm ?_ hdb)
  refine W.callWith_K (h₀ := X.base) I.ok.mod.kin hk (A6 (ha pos pins s σ H _ I h) fun us s1 ⟨vs, H1, I1, r, q⟩ => ⟨I1.kIn, ?_⟩) he hpl
  replace q : sp (vs ++ []) H1 Q E0 := q
  rw [List.append_nil] at q
  have hl : (us ++ []).length = ps.length := by rw [List.append_nil, <- r.length]; exact F.len _ _ _ _ q
  have hb' := hb s1 us I1.kIn hl
  rw [List.append_nil] at hb'
  refine wpAny_call (codeAny_mono (F.run X.A X.stack s1 H1 ⟨us, []⟩ us vs Q E0 hr I1.env0 hb' r q) fun rr s' hq => ?_)
  cases rr with
  | error e => exact False.elim hq
  | ok fl =>
    cases fl with
    | ret u => exact I1.after hq
    | next => exact False.elim hq
    | brk => exact False.elim hq
    | cont => exact False.elim hq
end
end L2
namespace L2
open PySem PySem.Spec PyProof.Rows
abbrev TJ := St -> Hp -> (Hp -> Prop) -> Prop
section
variable {X : Cx} {e : Expr} {es : List Expr} {te : TE} {t : TJ} {a : Str} {j : Nat} {p1 p2 p3 : Pos}
end
end L2
namespace L2
open PySem PySem.Spec PySem.Builtin PySem.Builtin.Str PyProof.Rows
theorem a0L : ∀ (l : List (PySem.Str × Tok)), Vals ((l.map (·.1)).map V.str) (strValues l)
  | [] => .nil
  | p :: l => .cons ⟨p.2, rfl⟩ (a0L l)
theorem a0N : ∀ {ys : List PySem.Str} {its : List Value}, Vals (ys.map V.str) its -> StrsAre its ys
  | [], _, h => by cases h; exact .nil
  | y :: ys, _, h => by
    cases h with
    | cons r t =>
      obtain ⟨tk, rfl⟩ := r
      exact .cons y tk (a0N t)
section
variable {X : Cx}
def a6C : V -> List V -> Hp -> VK -> Prop := fun x vs H Q => ∃ z y, x = .str z /\ vs = [.str y] /\ (y.length == 0) = false /\ z.length + 2 <= sizeLine /\ ∀ l, H l = none -> Q (.ref l) (upd H l (.lst ((Txt.split z y).map V.str)))
theorem J6 : MtM X "str.split" a6C := by
  intro pins s σ H x vs v us Q I rx rv h
  obtain ⟨z, y, rfl, rfl, hy, hsz, q⟩ := h
  obtain ⟨t, rfl⟩ := rx
  obtain ⟨u, rfl, ru⟩ := rv.one
  obtain ⟨u, rfl⟩ := ru
  have hn : (partsBetween z (occurrences z y 0 z.length (z.length + 1)) y.length).length <= sizeLine := by
    have e1 := StrLaws.occ_length_le z y 0 z.length (z.length + 1)
    rw [length_partsBetween]; omega
  have fin : ∀ (l : List (PySem.Str × Tok)) (k : Nat), l.map (·.1) = Txt.split z y -> l.length <= sizeLine -> ∃ v' H', Inv X pins σ H' { s with heap := s.heap.push { cls := .type "list", data := .seq (strValues l).toArray }, toks := k } /\ RelV v' (.ref s.heap.objs.size) /\ Q v' H' := fun l k e hl => by
    refine ⟨.ref s.heap.objs.size, _, I.laid (o := .lst ((Txt.split z y).map V.str)) (t' := k) (fun b u e => Heap.get?_push_of_some _ e) (Nat.le_refl _) ⟨?_, strValues l, 0, ?_, ?_⟩, rfl, q _ (I.hok.fresh (Nat.le_refl _))⟩
    . rw [<- e, List.length_map, List.length_map]; exact hl
    . rw [<- e]; exact a0L l
    . exact Heap.get?_push_size _ rfl
  have ls : ∀ (l : List PySem.Str) (k : Nat), (numbered k l).length = l.length := fun l k => by
    have := congrArg List.length (numbered_texts k l)
    rw [List.length_map] at this
    exact this
  cases h1 : (decide (z.length < y.length) || decide (strKind z < strKind y))
  . cases hf : (occurrences z y 0 z.length (z.length + 1)).isEmpty
    . refine call_meets F.slot_str_split (typeIs_str _ _ _) F.entry_str_split (F.args_str_split_2 _ _) (meets_str_split_sep z y t u h1 hy hf (by omega) hn) ?_
      show wants _ _ _ { s with toks := _, heap := s.heap.push { cls := .type "list", data := .seq (strsFrom s.toks (partsBetween z (occurrences z y 0 z.length (z.length + 1)) y.length)).toArray } }
      rw [strsFrom_eq]
      exact fin (numbered s.toks _) _ ((numbered_texts _ _).trans ((if_neg (ne_true_of_eq_false h1)).trans (if_neg (ne_true_of_eq_false hf))).symm) (by rw [ls]; exact hn)
    . exact call_meets F.slot_str_split (typeIs_str _ _ _) F.entry_str_split (F.args_str_split_2 _ _) (meets_str_split_not_found z y t u h1 hy hf)
        (fin [(z, t)] s.toks ((if_neg (ne_true_of_eq_false h1)).trans (if_pos hf)).symm (show 1 <= sizeLine by decide))
  . exact call_meets F.slot_str_split (typeIs_str _ _ _) F.entry_str_split (F.args_str_split_2 _ _) (meets_str_split_cannot_occur z y t u h1)
      (fin [(z, t)] s.toks (if_pos h1).symm (show 1 <= sizeLine by decide))
def a5h (K : W.Frag) : V -> List V -> Hp -> VK -> Prop := fun x vs H Q => ∃ (y : PySem.Str) (l : Addr) (ys : List PySem.Str), x = .str y /\ vs = [.ref l] /\ SqL K H l (ys.map V.str) /\ (ys.map (·.length)).sum + ys.length * y.length <= 16777216 /\ Q (.str (Txt.join y ys)) H
theorem P0 : MtM X "str.join" (a5h X.K) := by
  intro pins s σ H x vs v us Q I rx rv h
  obtain ⟨y, l, ys, rfl, rfl, hl, hz, q⟩ := h
  obtain ⟨t, rfl⟩ := rx
  obtain ⟨u, rfl, ru⟩ := rv.one
  cases ru
  obtain ⟨its, r, p, _⟩ := I.list hl
  exact join_list p.isList (a0N r) hz fun t' k => ⟨.str _, H, I.tok _, ⟨_, rfl⟩, q⟩
theorem a7w (K : W.Frag) (h : X.K = K) : MtM X "str.join" (a5h K) := by subst h; exact P0
theorem U1 : G1 X (.type "int") (fun xs H Q => ∃ z n, xs = [.str z] /\ PySem.intText? z = some n /\ z.length <= 640 /\ Q (.int n) H) := by
  intro pins s σ H vs us Q I r h
  obtain ⟨z, n, rfl, hn, hl, q⟩ := h
  obtain ⟨u, rfl, ru⟩ := r.one
  obtain ⟨t, rfl⟩ := ru
  exact W.KIN.call_text hn hl ⟨.int n, H, I.tok _, ⟨_, rfl⟩, q⟩
end
end L2
namespace L2
open PySem PySem.Spec PySem.Builtin PySem.Builtin.Str PyProof.Rows
def Its (z : PySem.Str) : It := ⟨fun i _ => i < z.cps.size, fun i H x H' => H' = H /\ ∃ c, z.cps[i]? = some c /\ x = .str ⟨#[c]⟩, fun i _ => z.cps.size <= i⟩
theorem a4S {P : Program} {w : World} {K : W.Frag} {tg : Expr} (z : PySem.Str) (t : Tok) (it : Addr) : a3O P w K tg (Its z) [it] it (fun i h => h.IsStrIter it "str_ascii_iterator" z t i \/ h.IsStrIter it "str_iterator" z t i) where
  mem := by simp
  obj := fun i h st b hb => by
    have e : b = it := by simpa using hb
    subst e
    rcases st with st | st
    . obtain ⟨o, e, c, d⟩ := st
      exact ⟨o, e, fun v z => by rw [d] at z; cases z⟩
    . obtain ⟨o, e, c, d⟩ := st
      exact ⟨o, e, fun v z => by rw [d] at z; cases z⟩
  keep := fun i h h' st k => by
    rcases st with ⟨o, e, r⟩ | ⟨o, e, r⟩
    . exact .inl ⟨o, k it (by simp) o e, r⟩
    . exact .inr ⟨o, k it (by simp) o e, r⟩
  item := by
    intro X hP hw hK hc i pins s σ H E I hf st hg
    subst hP hw hK
    have hg' : i < z.cps.size := hg
    obtain ⟨f0, f1, f2, f3, f4, f5⟩ := hf it (by simp)
    have hx : z.cps[i]? = some z.cps[i] := by simp [hg']
    rcases st with st | st
    . refine wpAny_pyNext_ascii_item st hx fun h' st' sb => ?_
      have I1 : Inv X pins σ H { s with heap := h', toks := s.toks + 1 } := I.turned (t' := s.toks + 1) (fun b o hb e => (sb.2 b hb).trans e) f0 f1 f3 f4 f5
      obtain ⟨o, e, c, d⟩ := id st'
      exact ⟨_, rfl, a1S (s := { s with heap := h', toks := s.toks + 1 }) e c d (by decide) ⟨.str ⟨#[z.cps[i]]⟩, H, I1, ⟨_, rfl⟩, ⟨rfl, _, hx, rfl⟩, .inl st', fun b hb => (hf b hb).1⟩⟩
    . refine wpAny_pyNext_wide_item st hx fun h' st' sb => ?_
      have I1 : Inv X pins σ H { s with heap := h', toks := s.toks + 1 } := I.turned (t' := s.toks + 1) (fun b o hb e => (sb.2 b hb).trans e) f0 f1 f3 f4 f5
      obtain ⟨o, e, c, d⟩ := id st'
      exact ⟨_, rfl, a1S (s := { s with heap := h', toks := s.toks + 1 }) e c d (by decide) ⟨.str ⟨#[z.cps[i]]⟩, H, I1, ⟨_, rfl⟩, ⟨rfl, _, hx, rfl⟩, .inr st', fun b hb => (hf b hb).1⟩⟩
  done := by
    intro X hP hw hK hc i pins s σ H E I hf st hg
    subst hP hw hK
    have hg' : z.cps.size <= i := hg
    obtain ⟨f0, f1, f2, f3, f4, f5⟩ := hf it (by simp)
    have hx : z.cps[i]? = none := by simp [hg']
    rcases st with st | st
    . exact wpAny_pyNext_ascii_end (I.ok.hd hc) st hx fun h' eb => ⟨rfl, I.turned (t' := s.toks) (fun b o hb e => eb b o hb e) f0 f1 f3 f4 f5⟩
    . exact wpAny_pyNext_wide_end (I.ok.hd hc) st hx fun h' eb => ⟨rfl, I.turned (t' := s.toks) (fun b o hb e => eb b o hb e) f0 f1 f3 f4 f5⟩
  self := fun _ _ _ _ _ st h => st.elim (fun st => wpAny_pyIter_striter_ascii st h) fun st => wpAny_pyIter_striter_wide st h
def b1I (tl : TE) : TI := fun σ H R => tl σ H fun x H1 => ∃ z, x = .str z /\ R (Its z) H1
theorem a6d {X : Cx} {tg l : Expr} {tl : TE} (hl : PE X l tl) : PI X tg l (b1I tl) := by
  intro pins s σ H R I h
  refine A6 (hl pins s σ H _ I h) fun v s1 ⟨x, H1, I1, r1, q1⟩ => ?_
  obtain ⟨z, e, q⟩ := q1
  subst e
  obtain ⟨t, rfl⟩ := r1
  have fin : ∀ (o : Obj), (s1.heap.push o).IsStrIter s1.heap.objs.size "str_ascii_iterator" z t 0 \/ (s1.heap.push o).IsStrIter s1.heap.objs.size "str_iterator" z t 0 -> PIE X pins σ tg R (.ref s1.heap.objs.size) { s1 with heap := s1.heap.push o } := fun o st =>
    ⟨s1.heap.objs.size, [s1.heap.objs.size], _, _, H1, rfl, I1.kept (t' := s1.toks) fun b o e => Heap.get?_push_of_some _ e, a4S z t _, st, fun b hb => by
      have e : b = s1.heap.objs.size := by simpa using hb
      subst e
      exact I1.fpOk (Nat.le_refl _) (I1.hok.fresh (Nat.le_refl _)), q⟩
  cases ha : z.cps.all (· < 128)
  . exact wpAny_pyIter_wide ha (fin _ (.inr ⟨_, Heap.get?_push_size _ rfl, rfl, rfl⟩))
  . exact wpAny_pyIter_ascii ha (fin _ (.inl ⟨_, Heap.get?_push_size _ rfl, rfl, rfl⟩))
def G3 (z : PySem.Str) : List V := z.cps.toList.map fun c => V.str ⟨#[c]⟩
theorem a1T {z : PySem.Str} {H1 : Hp} : a2U (Its z) H1 (G3 z) := by
  have l : (G3 z).length = z.cps.size := by unfold G3; rw [List.length_map, Array.length_toList]
  refine ⟨fun i H _ hi => by rw [l] at hi; exact hi, fun i H x H' _ hi y => ⟨y.1, ?_⟩, fun H _ => by rw [l]; exact Nat.le_refl _⟩
  obtain ⟨c, hc, rfl⟩ := y.2
  unfold G3
  rw [List.getElem?_map, Array.getElem?_toList, hc]; rfl
abbrev TK2 := St -> Hp -> (PySem.Str -> Hp -> Prop) -> Prop
def PJ2 (X : Cx) (es : List Expr) (t : TK2) : Prop :=
  ∀ (pins : List (Addr × Obj)) (s : Shared) (σ : St) (H : Hp) (out : PySem.Str) (Q : PySem.Str -> Hp -> Prop), Inv X pins σ H s -> out.length + 2000 * es.length <= 100000 -> t σ H Q →
    wpAny (model X.prog X.w) X.A (joinParts out (evalEach es X.env)) (fun u s' => ∃ z tk H', u = Value.str (out ++ z) tk /\ Inv X pins σ H' s' /\ Q z H') X.xe s
theorem a3R (x : PySem.Str) : x ++ Str.empty = x := by
  cases x with | mk c => show PySem.Str.mk (c ++ #[]) = _; simp
theorem a3X (x : PySem.Str) : Str.empty ++ x = x := by
  cases x with | mk c => show PySem.Str.mk (#[] ++ c) = _; simp
theorem a0J (x y z : PySem.Str) : (x ++ y) ++ z = x ++ (y ++ z) := by
  cases x with | mk a => cases y with | mk b => cases z with | mk c =>
  show PySem.Str.mk ((a ++ b) ++ c) = PySem.Str.mk (a ++ (b ++ c))
  rw [Array.append_assoc]
def a9J (v : V) (y : PySem.Str) : Prop := (∃ i : Int, v = .int i /\ i.natAbs.log2 < 1920 /\ y = Str.ofString (toString i)) \/ (v = .str y /\ y.length <= 2000)
section
variable {X : Cx} {e : Expr} {es : List Expr} {te : TE} {t : TK2} {a : PySem.Str} {j : Nat} {p1 p2 p3 : Pos}
theorem a3t : PJ2 X [] fun _ H Q => Q Str.empty H := by
  intro pins s σ H out Q I hl h
  exact joinParts_nilE (joinParts_nil ⟨Str.empty, _, H, by rw [a3R], I.tok _, h⟩ (by rw [sizeLine_eq]; simp at hl; omega))
theorem a3n (h : PJ2 X es t) (ha : a.length <= 1000 := by decide) : PJ2 X (.Constant (.str a) j p1 :: es) fun σ H Q => t σ H fun z H' => Q (a ++ z) H' := by
  intro pins s σ H out Q I hl ht
  refine joinParts_consE (joinParts_cons ?_)
  refine A6 (t7 pins s σ H (fun v H' => v = .str a /\ H' = H) I ⟨rfl, rfl⟩) fun u s1 ⟨v, H1, I1, r, hv, hH⟩ => ?_
  subst hv; subst hH
  obtain ⟨tk, rfl⟩ := r
  simp only [List.length_cons] at hl
  have e0 : (out ++ a).length = out.length + a.length := strLen_append ..
  refine ⟨by rw [e0, sizeLine_eq]; omega, A6 (h pins s1 σ H1 (out ++ a) _ I1 (by rw [e0]; omega) ht) fun u s' ⟨z, tk, H', e1, I', q⟩ => ⟨a ++ z, tk, H', by rw [e1, a0J], I', q⟩⟩
theorem Z3 (he : PE X e te) (h : PJ2 X es t) : PJ2 X (.FormattedValue e (-1) none p2 :: es) fun σ H Q => te σ H fun v H1 => ∃ y, a9J v y /\ t σ H1 fun z H' => Q (y ++ z) H' := by
  intro pins s σ H out Q I hl ht
  refine joinParts_consE (joinParts_cons (FormattedValue_plain ?_))
  refine A6 (he pins s σ H _ I ht) fun u s2 ⟨v, H2, I2, r, y, hp, q⟩ => ?_
  simp only [List.length_cons] at hl
  have fin : ∀ (tk : Nat) , y.length <= 2000 -> (out ++ y).length <= sizeLine /\ wpAny (model X.prog X.w) X.A (joinParts (out ++ y) (evalEach es X.env)) (fun u s' => ∃ z tk H', u = Value.str (out ++ z) tk /\ Inv X pins σ H' s' /\ Q z H') X.xe { s2 with toks := tk } := fun tk hy => by
    have e0 : (out ++ y).length = out.length + y.length := strLen_append ..
    refine ⟨by rw [e0, sizeLine_eq]; omega, A6 (h pins _ σ H2 (out ++ y) _ (I2.tok _) (by rw [e0]; omega) q) fun u s' ⟨z, tk, H', e1, I', q⟩ => ⟨y ++ z, tk, H', by rw [e1, a0J], I', q⟩⟩
  rcases hp with ⟨i, rfl, hi, rfl⟩ | ⟨rfl, hy⟩
  . obtain ⟨tk2, rfl⟩ := r
    refine formatField_int_small hi ?_
    have h1 := int_text_length_le (a := i) (k := 1920) (by decide) hi
    exact fin _ (by rw [PySem.ofString_length]; omega)
  . obtain ⟨tk2, rfl⟩ := r
    exact formatField_str (fun t' tk => fin tk hy) (by rw [sizeLine_eq]; omega)
def tFe (t : TK2) : TE := fun σ H Q => t σ H fun z H1 => Q (.str z) H1
theorem a1I {v1 v2 : Expr} (h : PJ2 X (v1 :: v2 :: es) t) (hl : es.length <= 20 := by decide) : PE X (.JoinedStr (v1 :: v2 :: es) p3) (tFe t) := by
  intro pins s σ H Q I ht
  refine JoinedStr_many ?_
  refine A6 (h pins s σ H Str.empty _ I ?_ ht) fun u s' ⟨z, tk, H', e1, I', q⟩ => ?_
  . show 0 + 2000 * (es.length + 1 + 1) <= 100000
    omega
  . subst e1
    exact ⟨.str z, H', I', ⟨_, by rw [a3X]⟩, q⟩
theorem a4R (he : PE X e te) : PE X (.JoinedStr [.FormattedValue e (-1) none p2] p3) (fun σ H Q => te σ H fun v H1 => ∃ y, a9J v y /\ Q (.str y) H1) := by
  intro pins s σ H Q I ht
  refine JoinedStr_one (FormattedValue_plain ?_)
  refine A6 (he pins s σ H _ I ht) fun u s2 ⟨v, H2, I2, r, y, hp, q⟩ => ?_
  rcases hp with ⟨i, rfl, hi, rfl⟩ | ⟨rfl, hy⟩
  . obtain ⟨tk2, rfl⟩ := r
    exact formatField_int_small hi ⟨.str _, H2, I2.tok _, ⟨_, rfl⟩, q⟩
  . obtain ⟨tk2, rfl⟩ := r
    exact formatField_str (fun t' tk => ⟨.str _, H2, I2.tok _, ⟨_, rfl⟩, q⟩) (by rw [sizeLine_eq]; omega)
end
end L2
namespace Tx
open PySem PySem.Builtin PySem.Builtin.Str PyProof.Rows
abbrev S := PySem.Str
abbrev cs (x : S) : List Nat := x.cps.toList
theorem ext {x y : S} (h : cs x = cs y) : x = y := by
  cases x with | mk a => cases y with | mk b =>
  have : a.toList = b.toList := h
  rw [Array.toList_inj.mp this]
theorem cs_app (x y : S) : cs (x ++ y) = cs x ++ cs y := by
  cases x with | mk a => cases y with | mk b =>
  show (a ++ b).toList = a.toList ++ b.toList
  simp
abbrev ch (c : Nat) : S := ⟨#[c]⟩
theorem cs_ch (c : Nat) : cs (ch c) = [c] := rfl
theorem len_cs (x : S) : x.length = (cs x).length := (Array.length_toList).symm
theorem a5R {c : Nat} : ∀ {a b s t : List Nat}, c ∉ a -> c ∉ b -> a ++ c :: s = b ++ c :: t -> a = b /\ s = t
  | [], [], s, t, _, _, h => ⟨rfl, by simpa using h⟩
  | [], y :: b, s, t, _, hb, h => by
    have : c = y := by simpa using (List.cons.inj h).1
    exact absurd (this ▸ List.mem_cons_self) hb
  | x :: a, [], s, t, ha, _, h => by
    have : x = c := by simpa using (List.cons.inj h).1
    exact absurd (this ▸ List.mem_cons_self) ha
  | x :: a, y :: b, s, t, ha, hb, h => by
    obtain ⟨h1, h2⟩ := List.cons.inj h
    obtain ⟨e1, e2⟩ := a5R (c := c) (a := a) (b := b) (fun z => ha (List.mem_cons_of_mem _ z)) (fun z => hb (List.mem_cons_of_mem _ z)) h2
    exact ⟨by rw [h1, e1], e2⟩
theorem a1O {c : Nat} : ∀ {ps qs : List S}, ps ≠ [] -> qs ≠ [] -> (∀ p ∈ ps, c ∉ cs p) -> (∀ p ∈ qs, c ∉ cs p) -> Str.join (ch c) ps = Str.join (ch c) qs -> ps = qs
  | [], _, h, _, _, _, _ => absurd rfl h
  | _ :: _, [], _, h, _, _, _ => absurd rfl h
  | [p], [q], _, _, _, _, h => by rw [show p = q from h]
  | [p], q :: q' :: r, _, _, hp, _, h => by
    have e := congrArg cs h
    have e' : cs p = cs (q ++ ch c ++ Str.join (ch c) (q' :: r)) := e
    rw [cs_app, cs_app] at e'
    exact absurd (by rw [e']; simp) (hp p List.mem_cons_self)
  | p :: p' :: r, [q], _, _, _, hq, h => by
    have e := congrArg cs h
    have e' : cs (p ++ ch c ++ Str.join (ch c) (p' :: r)) = cs q := e
    rw [cs_app, cs_app] at e'
    exact absurd (by rw [<- e']; simp) (hq q List.mem_cons_self)
  | p :: p' :: r, q :: q' :: r', _, _, hp, hq, h => by
    have e : cs (p ++ ch c ++ Str.join (ch c) (p' :: r)) = cs (q ++ ch c ++ Str.join (ch c) (q' :: r')) := congrArg cs h
    rw [cs_app, cs_app, cs_app, cs_app, List.append_assoc, List.append_assoc] at e
    obtain ⟨e1, e2⟩ := a5R (hp p List.mem_cons_self) (hq q List.mem_cons_self) e
    rw [ext e1, a1O (ps := p' :: r) (qs := q' :: r') (by simp) (by simp) (fun x hx => hp x (List.mem_cons_of_mem _ hx)) (fun x hx => hq x (List.mem_cons_of_mem _ hx)) (ext e2)]
theorem T1 {c : Nat} {ps : List S} (hne : ps ≠ []) (hf : ∀ p ∈ ps, c ∉ cs p) : Txt.split (Str.join (ch c) ps) (ch c) = ps := by
  refine a1O ?_ hne (StrLaws.split_free _ c) hf (StrLaws.join_split _ _)
  intro z
  have := split_pos (Str.join (ch c) ps) (ch c)
  rw [z] at this
  exact absurd this (by decide)
theorem split_ne (x : S) (c : Nat) : Txt.split x (ch c) ≠ [] := fun z => by
  have := split_pos x (ch c)
  rw [z] at this
  exact absurd this (by decide)
theorem a2f {c d : Nat} : ∀ {ps : List S} {p : S}, p ∈ ps -> d ∈ cs p -> d ∈ cs (Str.join (ch c) ps)
  | [q], p, h, hd => by rw [List.mem_singleton.mp h] at hd; exact hd
  | q :: q' :: r, p, h, hd => by
    show d ∈ cs (q ++ ch c ++ Str.join (ch c) (q' :: r))
    rw [cs_app, cs_app]
    rcases List.mem_cons.mp h with rfl | h
    . exact List.mem_append_left _ (List.mem_append_left _ hd)
    . exact List.mem_append_right _ (a2f h hd)
def Asc (x : S) : Prop := ∀ c ∈ cs x, c < 128
theorem asc_part {x p : S} {c : Nat} (h : Asc x) (hp : p ∈ Txt.split x (ch c)) : Asc p := fun d hd => h d (by
  have := a2f (c := c) hp hd
  rwa [StrLaws.join_split] at this)
theorem asc_app {x y : S} (hx : Asc x) (hy : Asc y) : Asc (x ++ y) := fun c hc => by
  rw [cs_app] at hc
  exact (List.mem_append.mp hc).elim (hx c) (hy c)
theorem join_asc {c : Nat} (hc : c < 128) : ∀ {ps : List S}, (∀ p ∈ ps, Asc p) -> Asc (Str.join (ch c) ps)
  | [], _ => fun d hd => by cases hd
  | [p], h => h p List.mem_cons_self
  | p :: p' :: r, h => by
    refine asc_app (asc_app (h p List.mem_cons_self) fun d hd => ?_) (join_asc hc fun q hq => h q (List.mem_cons_of_mem _ hq))
    rw [cs_ch, List.mem_singleton] at hd; omega
theorem join_eq (sep : S) (ps : List S) : Txt.join sep ps = Str.join sep ps := StrLaws.glued_eq_join sep ps
def w8 (n : Int) : S := Str.ofString (toString n)
theorem num_nat (m : Nat) : cs (w8 (m : Int)) = (Nat.toDigits 10 m).map Char.toNat := W.KIN.signs_num m
theorem num_digits (m : Nat) : NumText.AllDigits (cs (w8 (m : Int))) := fun c hc => by
  rw [num_nat] at hc
  obtain ⟨x, hx, rfl⟩ := List.mem_map.mp hc
  exact digit_range (Nat.isDigit_of_mem_toDigits (by decide) (by decide) hx)
def C1 (x : S) : Bool := decide (1 <= (cs x).length) && decide ((cs x).length <= 10) && (cs x).all (fun c => decide (48 <= c) && decide (c <= 57)) && (decide ((cs x).head? ≠ some 48) || decide (cs x = [48]))
def v7 (x : S) : Option Int := if C1 x = true then some ((NumText.digitsVal (cs x) : Nat) : Int) else none
theorem num_len {m : Nat} (h : m < 10 ^ 10) : 1 <= (cs (w8 (m : Int))).length /\ (cs (w8 (m : Int))).length <= 10 := by
  have h2 := W.KT.len_num (n := (m : Int)) (by omega) (by omega)
  refine ⟨?_, by rw [<- len_cs]; exact h2⟩
  rw [num_nat, List.length_map]
  have := Nat.toDigits_ne_nil (n := m) (b := 10)
  cases e : Nat.toDigits 10 m with
  | nil => exact absurd e this
  | cons _ _ => simp
theorem readN_nn {x : S} {n : Int} (h : v7 x = some n) : 0 <= n := by
  unfold v7 at h
  split at h
  . cases h; exact Int.natCast_nonneg _
  . cases h
end Tx
namespace L2
open PySem PySem.Spec PyProof.Rows
section
variable {prog : Program} {w : World} {A : Around} {E : Value -> Shared -> Prop} {s : Shared}
theorem a6O {j tp : Addr} {i : Nat} {vs : Array Value} {x : Value} {Q : Value -> Shared -> Prop} (q1 : IsTupIter s.heap j tp i) (q2 : IsTup s.heap tp vs) (q3 : vs[i]? = some x)
    (q : ∀ h', IsTupIter h' j tp (i + 1) -> Heap.SameBut j s.heap h' -> Q x { s with heap := h' }) : wpAny (model prog w) A (Builtin.SmallTypes.nextOf (.ref j)) Q E s := by
  obtain ⟨oj, g1, g2, g3⟩ := id q1
  obtain ⟨ot, g4, _, nt, g5⟩ := q2
  unfold Builtin.SmallTypes.nextOf
  refine wpAny_bind (wpAny_callSpecial?_slot (name := Str.ofString "__next__") q1.typeIs slot_tupleiter_next (wpAny_call_entry slot_tupleiter_next q1.typeIs entry_tupleiter_next ?_ (args_tupleiter_next _)))
  show wpAny _ _ (field (.ref j) 0 >>= _) _ _ s
  refine wpAny_bind (wpAny_field g1 g3 (x := .ref tp) rfl ?_)
  show wpAny _ _ (if (Value.ref tp == Value.none) = true then _ else _) _ _ s
  rw [if_neg (fun z => by cases z)]
  show wpAny _ _ (field (.ref j) 1 >>= _) _ _ s
  refine wpAny_bind (wpAny_field g1 g3 (x := .int i 0) rfl ?_)
  show wpAny _ _ (seqItems? (.ref tp) >>= _) _ _ s
  refine wpAny_bind (wpAny_seqItems g4 g5 ?_)
  simp only [Int.toNat_natCast, q3]
  refine wpAny_bind (wpAny_setField g1 g3 (by simp) (wpAny_pure ⟨x, rfl, wpAny_pure (q _ ?_ (Heap.SameBut.update ..))⟩))
  refine ⟨_, Heap.get?_update_self _ g1 (Obj.isFreed_of_fields (Obj.data_mapFields g3 _)), (Obj.cls_mapFields ..).trans g2, ?_⟩
  rw [Obj.data_mapFields g3]
  simp [rawInt]
theorem a8d {j tp : Addr} {i : Nat} {vs : Array Value} {Q : Value -> Shared -> Prop} (hh : A.handled = none) (q1 : IsTupIter s.heap j tp i) (q2 : IsTup s.heap tp vs) (q3 : vs[i]? = none)
    (q : ∀ h' e, Heap.ExtBut j s.heap h' -> (∃ o, h'.get? e = some o /\ o.cls = .type "StopIteration") -> E (.ref e) { s with heap := h' }) : wpAny (model prog w) A (Builtin.SmallTypes.nextOf (.ref j)) Q E s := by
  obtain ⟨oj, g1, g2, g3⟩ := id q1
  obtain ⟨ot, g4, _, nt, g5⟩ := q2
  unfold Builtin.SmallTypes.nextOf
  refine wpAny_bind (wpAny_callSpecial?_slot (name := Str.ofString "__next__") q1.typeIs slot_tupleiter_next (wpAny_call_entry slot_tupleiter_next q1.typeIs entry_tupleiter_next ?_ (args_tupleiter_next _)))
  show wpAny _ _ (field (.ref j) 0 >>= _) _ _ s
  refine wpAny_bind (wpAny_field g1 g3 (x := .ref tp) rfl ?_)
  show wpAny _ _ (if (Value.ref tp == Value.none) = true then _ else _) _ _ s
  rw [if_neg (fun z => by cases z)]
  show wpAny _ _ (field (.ref j) 1 >>= _) _ _ s
  refine wpAny_bind (wpAny_field g1 g3 (x := .int i 0) rfl ?_)
  show wpAny _ _ (seqItems? (.ref tp) >>= _) _ _ s
  refine wpAny_bind (wpAny_seqItems g4 g5 ?_)
  simp only [Int.toNat_natCast, q3]
  refine wpAny_bind (wpAny_rule (wpAny_bind (wpAny_setField g1 g3 (by simp) ?_)))
  show wpAny _ _ (do let e <- newExc (.type "StopIteration") []; _) _ _ _
  simp only [newExc, newTuple]
  refine wpAny_bind (wpAny_bind (wpAny_newObj_type (wpAny_bind (m := firstArgMember _ _) (wpAny_of_eq (a := Value.none) (by first | rfl | (simp only [firstArgMember]; rfl)) (wpAny_newObj_type ?_ (by size_fits)))) (by size_fits)))
  simp only [raiseNew]
  refine wpAny_bind (wpAny_handled ?_)
  rw [show A.in1.handled = none from hh]
  exact wpAny_bind (wpAny_pure (wpAny_throw (q _ _ (((Heap.SameBut.update ..).extBut.push _).push _) ⟨_, Heap.get?_push_size _ rfl, rfl⟩)))
theorem IsTupIter.at' {h h' : Heap} {a t : Addr} {i : Nat} (x : IsTupIter h a t i) (e : ∀ o, h.get? a = some o -> h'.get? a = some o) : IsTupIter h' a t i := let ⟨o, ho, r⟩ := x; ⟨o, e _ ho, r⟩
end
def IsB : Bool -> Heap -> Addr -> Array Value -> Prop
  | true, h, t, xs => h.IsList t xs
  | false, h, t, xs => IsTup h t xs
def ItB : Bool -> Heap -> Addr -> Addr -> Nat -> Prop
  | true, h, j, t, k => h.IsListIter j t k
  | false, h, j, t, k => IsTupIter h j t k
def SqB : Bool -> W.Frag -> Hp -> Addr -> List V -> Prop
  | true, K, H, a, xs => SqL K H a xs
  | false, K, H, a, xs => SqT K H a xs
def itN : Bool -> String
  | true => "list_iterator"
  | false => "tuple_iterator"
section
variable {b : Bool} {h h' : Heap} {j t c : Addr} {k : Nat} {xs : Array Value}
theorem ItB.at' (x : ItB b h j t k) (e : ∀ o, h.get? j = some o -> h'.get? j = some o) : ItB b h' j t k := by
  cases b
  . exact IsTupIter.at' x e
  . exact Heap.IsListIter.at x e
theorem ItB.extBut (x : ItB b h j t k) (hs : Heap.ExtBut c h h') (n : j ≠ c) : ItB b h' j t k := x.at' fun o e => hs j o n e
theorem IsB.at' (x : IsB b h t xs) (e : ∀ o, h.get? t = some o -> h'.get? t = some o) : IsB b h' t xs := by
  cases b
  . obtain ⟨o, ho, r⟩ := x; exact ⟨o, e o ho, r⟩
  . obtain ⟨o, ho, r⟩ := x; exact ⟨o, e o ho, r⟩
theorem IsB.extBut (x : IsB b h t xs) (hs : Heap.ExtBut c h h') (n : t ≠ c) : IsB b h' t xs := x.at' fun o e => hs t o n e
theorem IsB.push (x : IsB b h t xs) (o : Obj) : IsB b (h.push o) t xs := x.at' fun _ e => Heap.get?_push_of_some _ e
theorem IsB.lt (x : IsB b h t xs) : t < h.objs.size := by
  cases b
  . obtain ⟨o, ho, _⟩ := x; exact Heap.lt_size ho
  . obtain ⟨o, ho, _⟩ := x; exact Heap.lt_size ho
theorem ItB.mk (e : h.get? j = some { cls := .type (itN b), data := .fields #[.ref t, .int 0 0] }) : ItB b h j t 0 := by
  cases b
  . exact ⟨_, e, rfl, rfl⟩
  . exact ⟨_, e, rfl, rfl⟩
theorem ItB.obj (x : ItB b h j t k) : ∃ o, h.get? j = some o /\ ∃ vs, o.data = .fields vs := by
  cases b
  . obtain ⟨o, ho, _, d⟩ := x; exact ⟨o, ho, _, d⟩
  . obtain ⟨o, ho, _, d⟩ := x; exact ⟨o, ho, _, d⟩
theorem Same.sqB {K : W.Frag} {H H' : Hp} {a : Addr} {ys : List V} (e : Same H H') (x : SqB b K H a ys) : SqB b K H' a ys := by
  cases b
  . exact e.tseq x
  . exact e.seq x
theorem Inv.sqB {X : Cx} {pins : List (Addr × Obj)} {σ : St} {H : Hp} {s : Shared} {a : Addr} {ys : List V} (I : Inv X pins σ H s) (x : SqB b X.K H a ys) : ∃ its : List Value, Vals ys its /\ IsB b s.heap a its.toArray /\ ys.length <= sizeLine := by
  cases b
  . exact I.tuple x
  . obtain ⟨i, r, p, z⟩ := I.list x
    exact ⟨i, r, p.isList, z⟩
theorem Inv.sqB_inj {X : Cx} {pins : List (Addr × Obj)} {σ : St} {H : Hp} {s : Shared} {a : Addr} {ys zs : List V} (I : Inv X pins σ H s) (x : SqB b X.K H a ys) (y : SqB b X.K H a zs) : ys = zs := by
  cases b
  . exact I.tuple_inj x y
  . exact I.list_inj x y
end
section
variable {prog : Program} {w : World} {A : Around} {E : Value -> Shared -> Prop} {s : Shared}
theorem Z9 {b : Bool} {j tp : Addr} {i : Nat} {vs : Array Value} {x : Value} {Q : Value -> Shared -> Prop} (q1 : ItB b s.heap j tp i) (q2 : IsB b s.heap tp vs) (q3 : vs[i]? = some x)
    (q : ∀ h', ItB b h' j tp (i + 1) -> Heap.SameBut j s.heap h' -> Q x { s with heap := h' }) : wpAny (model prog w) A (Builtin.SmallTypes.nextOf (.ref j)) Q E s := by
  cases b
  . exact a6O q1 q2 q3 q
  . exact wpAny_nextOf_list_item q1 q2 q3 q
theorem a3G {b : Bool} {j tp : Addr} {i : Nat} {vs : Array Value} {Q : Value -> Shared -> Prop} (hh : A.handled = none) (q1 : ItB b s.heap j tp i) (q2 : IsB b s.heap tp vs) (q3 : vs[i]? = none)
    (q : ∀ h' e, Heap.ExtBut j s.heap h' -> (∃ o, h'.get? e = some o /\ o.cls = .type "StopIteration") -> E (.ref e) { s with heap := h' }) : wpAny (model prog w) A (Builtin.SmallTypes.nextOf (.ref j)) Q E s := by
  cases b
  . exact a8d hh q1 q2 q3 q
  . exact wpAny_nextOf_list_end hh q1 q2 q3 q
theorem a7P {b : Bool} {t : Addr} {xs : Array Value} {Q : Value -> Shared -> Prop} (m : IsB b s.heap t xs) (h : Q (.ref s.heap.objs.size) { s with heap := s.heap.push { cls := .type (itN b), data := .fields #[.ref t, .int 0 0] } }) : wpAny (model prog w) A (pyIter (.ref t)) Q E s := by
  cases b
  . exact iter_tuple m h
  . exact wpAny_pyIter_list m h
theorem a7p {b1 b2 : Bool} {z ti to j1 j2 t1 t2 : Addr} {k1 k2 : Nat} {xs ys : Array Value} {x y a b : Value} {Q : Value -> Shared -> Prop} (D : ZipApart z ti to j1 j2 t1 t2)
    (q0 : IsZip s.heap z ti to .none) (p1 : IsPair s.heap ti (.ref j1) (.ref j2)) (p2 : IsPair s.heap to a b)
    (i1 : ItB b1 s.heap j1 t1 k1) (i2 : ItB b2 s.heap j2 t2 k2) (l1 : IsB b1 s.heap t1 xs) (l2 : IsB b2 s.heap t2 ys) (ex : xs[k1]? = some x) (ey : ys[k2]? = some y)
    (q : ∀ h', IsZip h' z ti to (rawInt s.heap.objs.size) -> IsPair h' to x y -> ItB b1 h' j1 t1 (k1 + 1) -> ItB b2 h' j2 t2 (k2 + 1) -> IsPair h' s.heap.objs.size x y →
      (∀ c o, c ≠ z -> c ≠ to -> c ≠ j1 -> c ≠ j2 -> s.heap.get? c = some o -> h'.get? c = some o) -> Q (.ref s.heap.objs.size) { s with heap := h' }) :
    wpAny (model prog w) A (Builtin.«zip.__next__» ⟨[.ref z], []⟩) (fun fin s' => ∃ v, fin = .done (.ret v) /\ Q v s') E s := by
  show wpAny _ _ (field (.ref z) 2 >>= _) _ _ _
  refine wpAny_bind (wpAny_field q0 rfl (x := .bool false) rfl (show wpAny _ _ (field (.ref z) 3 >>= _) _ _ _ from wpAny_bind (wpAny_field q0 rfl (x := .ref ti) rfl (wpAny_bind (wpAny_seqItems p1 rfl ?_)))))
  show wpAny _ _ (do let free <- Builtin.SmallTypes.ownedTupleIsFree (.ref z); _) _ _ _
  unfold Builtin.SmallTypes.ownedTupleIsFree
  refine wpAny_bind (wpAny_bind (wpAny_field q0 rfl (x := .none) rfl (wpAny_pure ?_)))
  simp only [if_true]
  refine wpAny_bind (wpAny_rule (wpAny_bind (wpAny_field q0 rfl (x := .ref to) rfl (wpAny_bind (wpAny_setField_rec q0 (by simp) fun u1 z1 s1 => ?_)))))
  have z1' : IsZip u1 z ti to .ellipsis := z1
  refine wpAny_bind ?_
  simp only [List.zipIdx_cons, List.zipIdx_nil, List.forIn_cons, List.forIn_nil]
  refine wpAny_bind (wpAny_bind (wpAny_onRaise (show wpAny _ _ (Builtin.SmallTypes.nextOf (.ref j1) >>= _) _ _ _ from wpAny_bind (Z9 (i1.extBut s1.extBut D.i1z) (l1.extBut s1.extBut D.l1z) ex fun u2 j1' s2 => wpAny_pure ?_))))
  have to2 : IsPair u2 to a b := s2.extBut _ _ D.TOi1 (s1.extBut _ _ D.TOz p2)
  refine wpAny_bind (wpAny_seqItems to2 rfl (wpAny_bind (wpAny_updateSeq_pair to2 fun u3 to3 s3 => wpAny_bind (wpAny_letGo (wpAny_pure ?_)))))
  have to3' : IsPair u3 to x b := to3
  refine wpAny_bind (wpAny_bind (wpAny_onRaise (show wpAny _ _ (Builtin.SmallTypes.nextOf (.ref j2) >>= _) _ _ _ from wpAny_bind (Z9 (((i2.extBut s1.extBut D.i2z).extBut s2.extBut D.i12.symm).extBut s3.extBut D.TOi2.symm)
    (((l2.extBut s1.extBut D.l2z).extBut s2.extBut D.l2i1).extBut s3.extBut D.l2TO) ey fun u4 j2' s4 => wpAny_pure ?_))))
  have to4 : IsPair u4 to x b := s4.extBut _ _ D.TOi2 to3'
  refine wpAny_bind (wpAny_seqItems to4 rfl (wpAny_bind (wpAny_updateSeq_pair to4 fun u5 to5 s5 => wpAny_bind (wpAny_letGo (wpAny_pure (wpAny_pure ?_))))))
  have to5' : IsPair u5 to x y := to5
  refine wpAny_bind (wpAny_seqItems to5' rfl (wpAny_bind (wpAny_newTuple ?_)))
  have sz : u5.objs.size = s.heap.objs.size := by rw [s5.1, s4.1, s3.1, s2.1, s1.1]
  have z5 : IsZip u5 z ti to .ellipsis := s5.extBut _ _ D.TOz.symm (s4.extBut _ _ D.i2z.symm (s3.extBut _ _ D.TOz.symm (s2.extBut _ _ D.i1z.symm z1')))
  have kp : ∀ c o, c ≠ z -> c ≠ to -> c ≠ j1 -> c ≠ j2 -> s.heap.get? c = some o -> u5.get? c = some o := fun c o n1 n2 n3 n4 e => s5.extBut _ _ n2 (s4.extBut _ _ n4 (s3.extBut _ _ n2 (s2.extBut _ _ n3 (s1.extBut _ _ n1 e))))
  have a1 : ItB b1 u5 j1 t1 (k1 + 1) := ((j1'.extBut s3.extBut D.TOi1.symm).extBut s4.extBut D.i12).extBut s5.extBut D.TOi1.symm
  have a2 : ItB b2 u5 j2 t2 (k2 + 1) := j2'.extBut s5.extBut D.TOi2.symm
  have zl : z < u5.objs.size := Heap.lt_size z5
  show wpAny _ _ (do let r <- Builtin.SmallTypes.ownedTupleHandOut (.ref z) (.ref u5.objs.size); _) _ _ _
  unfold Builtin.SmallTypes.ownedTupleHandOut
  have z6 : IsZip (u5.push { cls := .type "tuple", data := .seq #[x, y] }) z ti to .ellipsis := Heap.get?_push_of_some _ z5
  refine wpAny_bind (wpAny_bind (wpAny_setField_rec z6 (by simp) fun u7 z7 s7 => ?_))
  have z7' : IsZip u7 z ti to (rawInt u5.objs.size) := z7
  refine wpAny_setField_rec z7' (by simp) fun u8 z8 s8 => ?_
  have z8' : IsZip u8 z ti to (rawInt u5.objs.size) := z8
  have up : ∀ c o, c ≠ z -> u5.get? c = some o -> u8.get? c = some o := fun c o n1 e => s8.extBut _ _ n1 (s7.extBut _ _ n1 (Heap.get?_push_of_some _ e))
  have nt8 : IsPair u8 u5.objs.size x y := s8.extBut _ _ (Nat.ne_of_gt zl) (s7.extBut _ _ (Nat.ne_of_gt zl) (Heap.get?_push_size _ rfl))
  rw [sz] at z8' nt8
  refine wpAny_pure ⟨_, rfl, ?_⟩
  show Q (.ref u5.objs.size) _
  rw [sz]
  exact q u8 z8' (up _ _ D.TOz to5') (ItB.at' a1 fun o e => up _ o D.i1z e) (ItB.at' a2 fun o e => up _ o D.i2z e) nt8 fun c o n1 n2 n3 n4 e => up c o n1 (kp c o n1 n2 n3 n4 e)
theorem a9g {b1 b2 : Bool} {z ti to j1 j2 t1 t2 : Addr} {k1 k2 : Nat} {xs ys : Array Value} {a b : Value} {Q : PySem.Fin -> Shared -> Prop} (hh : A.handled = none) (D : ZipApart z ti to j1 j2 t1 t2)
    (q0 : IsZip s.heap z ti to .none) (p1 : IsPair s.heap ti (.ref j1) (.ref j2)) (p2 : IsPair s.heap to a b)
    (i1 : ItB b1 s.heap j1 t1 k1) (i2 : ItB b2 s.heap j2 t2 k2) (l1 : IsB b1 s.heap t1 xs) (l2 : IsB b2 s.heap t2 ys) (en : xs[k1]? = none \/ ys[k2]? = none)
    (q : ∀ h' e, (∀ c o, c ≠ z -> c ≠ to -> c ≠ j1 -> c ≠ j2 -> s.heap.get? c = some o -> h'.get? c = some o) -> (∃ o, h'.get? e = some o /\ o.cls = .type "StopIteration") -> E (.ref e) { s with heap := h' }) :
    wpAny (model prog w) A (Builtin.«zip.__next__» ⟨[.ref z], []⟩) Q E s := by
  show wpAny _ _ (field (.ref z) 2 >>= _) _ _ _
  refine wpAny_bind (wpAny_field q0 rfl (x := .bool false) rfl (show wpAny _ _ (field (.ref z) 3 >>= _) _ _ _ from wpAny_bind (wpAny_field q0 rfl (x := .ref ti) rfl (wpAny_bind (wpAny_seqItems p1 rfl ?_)))))
  show wpAny _ _ (do let free <- Builtin.SmallTypes.ownedTupleIsFree (.ref z); _) _ _ _
  unfold Builtin.SmallTypes.ownedTupleIsFree
  refine wpAny_bind (wpAny_bind (wpAny_field q0 rfl (x := .none) rfl (wpAny_pure ?_)))
  simp only [if_true]
  refine wpAny_bind (wpAny_rule (wpAny_bind (wpAny_field q0 rfl (x := .ref to) rfl (wpAny_bind (wpAny_setField_rec q0 (by simp) fun u1 z1 s1 => ?_)))))
  have z1' : IsZip u1 z ti to .ellipsis := z1
  refine wpAny_bind ?_
  simp only [List.zipIdx_cons, List.zipIdx_nil, List.forIn_cons, List.forIn_nil]
  cases ex : xs[k1]? with
  | none =>
    refine wpAny_bind (wpAny_bind (wpAny_onRaise (show wpAny _ _ (Builtin.SmallTypes.nextOf (.ref j1) >>= _) _ _ _ from wpAny_bind (a3G hh (i1.extBut s1.extBut D.i1z) (l1.extBut s1.extBut D.l1z) ex fun u2 e s2 ⟨oe, e1, e2⟩ => ?_))))
    have z2 : IsZip u2 z ti to .ellipsis := s2 _ _ D.i1z.symm z1'
    have ne : e ≠ z := fun c => by subst c; rw [z2] at e1; cases e1; simp at e2
    exact wpAny_setField_rec z2 (by simp) fun u3 _ s3 => q u3 e (fun c o n1 _ n3 _ m => s3.extBut _ _ n1 (s2 _ _ n3 (s1.extBut _ _ n1 m))) ⟨oe, s3.extBut _ _ ne e1, e2⟩
  | some x =>
    have ey : ys[k2]? = none := by
      rcases en with m | m
      . rw [ex] at m; cases m
      . exact m
    refine wpAny_bind (wpAny_bind (wpAny_onRaise (show wpAny _ _ (Builtin.SmallTypes.nextOf (.ref j1) >>= _) _ _ _ from wpAny_bind (Z9 (i1.extBut s1.extBut D.i1z) (l1.extBut s1.extBut D.l1z) ex fun u2 j1' s2 => wpAny_pure ?_))))
    have to2 : IsPair u2 to a b := s2.extBut _ _ D.TOi1 (s1.extBut _ _ D.TOz p2)
    refine wpAny_bind (wpAny_seqItems to2 rfl (wpAny_bind (wpAny_updateSeq_pair to2 fun u3 to3 s3 => wpAny_bind (wpAny_letGo (wpAny_pure ?_)))))
    refine wpAny_bind (wpAny_bind (wpAny_onRaise (show wpAny _ _ (Builtin.SmallTypes.nextOf (.ref j2) >>= _) _ _ _ from wpAny_bind (a3G hh (((i2.extBut s1.extBut D.i2z).extBut s2.extBut D.i12.symm).extBut s3.extBut D.TOi2.symm)
      (((l2.extBut s1.extBut D.l2z).extBut s2.extBut D.l2i1).extBut s3.extBut D.l2TO) ey fun u4 e s4 ⟨oe, e1, e2⟩ => ?_))))
    have z4 : IsZip u4 z ti to .ellipsis := s4 _ _ D.i2z.symm (s3.extBut _ _ D.TOz.symm (s2.extBut _ _ D.i1z.symm z1'))
    have ne : e ≠ z := fun c => by subst c; rw [z4] at e1; cases e1; simp at e2
    exact wpAny_setField_rec z4 (by simp) fun u5 _ s5 => q u5 e (fun c o n1 n2 n3 n4 m => s5.extBut _ _ n1 (s4 _ _ n4 (s3.extBut _ _ n2 (s2.extBut _ _ n3 (s1.extBut _ _ n1 m))))) ⟨oe, s5.extBut _ _ ne e1, e2⟩
theorem a6n {b1 b2 : Bool} {z ti to j1 j2 t1 t2 : Addr} {k1 k2 : Nat} {xs ys : Array Value} {x y a b : Value} {Q : Option Value -> Shared -> Prop} (D : ZipApart z ti to j1 j2 t1 t2)
    (q0 : IsZip s.heap z ti to .none) (p1 : IsPair s.heap ti (.ref j1) (.ref j2)) (p2 : IsPair s.heap to a b)
    (i1 : ItB b1 s.heap j1 t1 k1) (i2 : ItB b2 s.heap j2 t2 k2) (l1 : IsB b1 s.heap t1 xs) (l2 : IsB b2 s.heap t2 ys) (ex : xs[k1]? = some x) (ey : ys[k2]? = some y)
    (q : ∀ h', IsZip h' z ti to (rawInt s.heap.objs.size) -> IsPair h' to x y -> ItB b1 h' j1 t1 (k1 + 1) -> ItB b2 h' j2 t2 (k2 + 1) -> IsPair h' s.heap.objs.size x y →
      (∀ c o, c ≠ z -> c ≠ to -> c ≠ j1 -> c ≠ j2 -> s.heap.get? c = some o -> h'.get? c = some o) -> Q (some (.ref s.heap.objs.size)) { s with heap := h' }) :
    wpAny (model prog w) A (pyNext (.ref z)) Q E s := by
  have ty : s.TypeIs (.ref z) "zip" := ⟨_, q0, rfl⟩
  unfold pyNext
  exact wpAny_bind (wpAny_attempt (wpAny_callSpecial?_slot (name := Str.ofString "__next__") ty F.slot_zip_next (wpAny_call_entry F.slot_zip_next ty F.entry_zip_next
    (a7p D q0 p1 p2 i1 i2 l1 l2 ex ey fun h' b1 b2 b3 b4 b5 b6 => wpAny_pure (q h' b1 b2 b3 b4 b5 b6)) (F.args_zip_next_1 _))))
theorem a6p {b1 b2 : Bool} {z ti to j1 j2 t1 t2 : Addr} {k1 k2 : Nat} {xs ys : Array Value} {a b : Value} {Q : Option Value -> Shared -> Prop} (hh : A.handled = none) (D : ZipApart z ti to j1 j2 t1 t2)
    (q0 : IsZip s.heap z ti to .none) (p1 : IsPair s.heap ti (.ref j1) (.ref j2)) (p2 : IsPair s.heap to a b)
    (i1 : ItB b1 s.heap j1 t1 k1) (i2 : ItB b2 s.heap j2 t2 k2) (l1 : IsB b1 s.heap t1 xs) (l2 : IsB b2 s.heap t2 ys) (en : xs[k1]? = none \/ ys[k2]? = none)
    (q : ∀ h', (∀ c o, c ≠ z -> c ≠ to -> c ≠ j1 -> c ≠ j2 -> s.heap.get? c = some o -> h'.get? c = some o) -> Q none { s with heap := h' }) : wpAny (model prog w) A (pyNext (.ref z)) Q E s := by
  have ty : s.TypeIs (.ref z) "zip" := ⟨_, q0, rfl⟩
  unfold pyNext
  refine wpAny_bind (wpAny_attempt (wpAny_callSpecial?_slot (name := Str.ofString "__next__") ty F.slot_zip_next (wpAny_call_entry F.slot_zip_next ty F.entry_zip_next
    (a9g hh D q0 p1 p2 i1 i2 l1 l2 en fun h' e kp ⟨o, e1, e2⟩ => wpAny_bind (wpAny_isInstance (T := "StopIteration") (b := true) ⟨o, e1, e2⟩ isSubtype_stop (wpAny_pure (q _ kp)))) (F.args_zip_next_1 _))))
end
abbrev zg1 (b1 : Bool) (h : Heap) (t1 : Addr) : Heap := h.push { cls := .type (itN b1), data := .fields #[.ref t1, .int 0 0] }
abbrev zg2 (b1 b2 : Bool) (h : Heap) (t1 t2 : Addr) : Heap := (zg1 b1 h t1).push { cls := .type (itN b2), data := .fields #[.ref t2, .int 0 0] }
abbrev zg3 (b1 b2 : Bool) (h : Heap) (t1 t2 : Addr) : Heap := (zg2 b1 b2 h t1 t2).push { cls := .type "tuple", data := .seq #[.ref h.objs.size, .ref (zg1 b1 h t1).objs.size] }
abbrev zg4 (b1 b2 : Bool) (h : Heap) (t1 t2 : Addr) : Heap := (zg3 b1 b2 h t1 t2).push { cls := .type "tuple", data := .seq #[.none, .none] }
abbrev zg5 (b1 b2 : Bool) (h : Heap) (t1 t2 : Addr) : Heap := (zg4 b1 b2 h t1 t2).push { cls := .type "zip", data := .fields #[.none, .bool false, .bool false, .ref (zg2 b1 b2 h t1 t2).objs.size, .ref (zg3 b1 b2 h t1 t2).objs.size] }
theorem a8j (b1 b2 : Bool) (t1 t2 : Addr) (xs ys : Array Value) :
    Meets (Builtin.«zip.__new__» ⟨[.type "zip", .ref t1, .ref t2], []⟩) (fun _ R s => IsB b1 s.heap t1 xs /\ IsB b2 s.heap t2 ys /\ R (.ok (.ret (.ref (zg4 b1 b2 s.heap t1 t2).objs.size))) { s with heap := zg5 b1 b2 s.heap t1 t2 }) :=
  .of_wp fun prog w A R s h => by
    obtain ⟨hp, g, d, tk, os⟩ := s
    obtain ⟨e1, e2, h⟩ := h
    have hsub := sub_zip
    have m1 : IsB b1 (Shared.heap ⟨hp, g, d, tk, os⟩) t1 xs := e1
    have m2 : IsB b2 (Shared.heap ⟨hp.push { cls := .type (itN b1), data := .fields #[.ref t1, .int 0 0] }, g, d, tk, os⟩) t2 ys := IsB.push e2 _
    wp_walk using a7P m1, a7P m2
    exact ⟨_, rfl, h⟩
section
variable {prog : Program} {w : World} {A : Around} {E : Value -> Shared -> Prop} {s : Shared}
theorem a7j {b1 b2 : Bool} {t1 t2 : Addr} {xs ys : Array Value} {Q : Value -> Shared -> Prop} (l1 : IsB b1 s.heap t1 xs) (l2 : IsB b2 s.heap t2 ys)
    (q : ∀ h', IsZip h' (s.heap.objs.size + 4) (s.heap.objs.size + 2) (s.heap.objs.size + 3) .none -> IsPair h' (s.heap.objs.size + 2) (.ref s.heap.objs.size) (.ref (s.heap.objs.size + 1)) -> IsPair h' (s.heap.objs.size + 3) .none .none →
      ItB b1 h' s.heap.objs.size t1 0 -> ItB b2 h' (s.heap.objs.size + 1) t2 0 -> (∀ c o, s.heap.get? c = some o -> h'.get? c = some o) -> Q (.ref (s.heap.objs.size + 4)) { s with heap := h' }) :
    wpAny (model prog w) A (call (.type "zip") [.ref t1, .ref t2]) Q E s := by
  refine callType_new F.called_zip (by decide) (F.typeCall_zip_2 _ _) (F.newCall_zip_2 _ _) (fun ob => F.args_object_init_3 ob _ _) F.entry_zip_new (a8j b1 b2 t1 t2 xs ys) ⟨l1, l2, ?_⟩
  have n1 : (zg1 b1 s.heap t1).objs.size = s.heap.objs.size + 1 := Heap.size_push ..
  have n2 : (zg2 b1 b2 s.heap t1 t2).objs.size = s.heap.objs.size + 2 := by rw [Heap.size_push, n1]
  have n3 : (zg3 b1 b2 s.heap t1 t2).objs.size = s.heap.objs.size + 3 := by rw [Heap.size_push, n2]
  have n4 : (zg4 b1 b2 s.heap t1 t2).objs.size = s.heap.objs.size + 4 := by rw [Heap.size_push, n3]
  have p5 : (zg5 b1 b2 s.heap t1 t2).get? (zg4 b1 b2 s.heap t1 t2).objs.size = some _ := Heap.get?_push_size _ rfl
  have p4 : (zg5 b1 b2 s.heap t1 t2).get? (zg3 b1 b2 s.heap t1 t2).objs.size = some _ := Heap.get?_push_of_some _ (Heap.get?_push_size _ rfl)
  have p3 : (zg5 b1 b2 s.heap t1 t2).get? (zg2 b1 b2 s.heap t1 t2).objs.size = some _ := Heap.get?_push_of_some _ (Heap.get?_push_of_some _ (Heap.get?_push_size _ rfl))
  have p2 : (zg5 b1 b2 s.heap t1 t2).get? (zg1 b1 s.heap t1).objs.size = some _ := Heap.get?_push_of_some _ (Heap.get?_push_of_some _ (Heap.get?_push_of_some _ (Heap.get?_push_size _ rfl)))
  have p1 : (zg5 b1 b2 s.heap t1 t2).get? s.heap.objs.size = some _ := Heap.get?_push_of_some _ (Heap.get?_push_of_some _ (Heap.get?_push_of_some _ (Heap.get?_push_of_some _ (Heap.get?_push_size _ rfl))))
  rw [n2, n3, n4] at p5
  rw [n1, n2] at p3
  rw [n3] at p4
  rw [n1] at p2
  show _ /\ _
  rw [n4]
  refine ⟨⟨_, p5, rfl⟩, q _ p5 p3 p4 (ItB.mk p1) (ItB.mk p2) fun c o m => ?_⟩
  exact Heap.get?_push_of_some _ (Heap.get?_push_of_some _ (Heap.get?_push_of_some _ (Heap.get?_push_of_some _ (Heap.get?_push_of_some _ m))))
end
def Itg (b1 b2 : Bool) (K : W.Frag) (l1 l2 : Addr) : It :=
  ⟨fun i H => ∃ xs ys x y, SqB b1 K H l1 xs /\ SqB b2 K H l2 ys /\ xs[i]? = some x /\ ys[i]? = some y,
   fun i H x H' => ∃ p a b, H p = none /\ x = .ref p /\ H' = upd H p (.tup [a, b]) /\ ∀ xs ys, SqB b1 K H l1 xs -> SqB b2 K H l2 ys -> xs[i]? = some a /\ ys[i]? = some b,
   fun i H => ∃ xs ys, SqB b1 K H l1 xs /\ SqB b2 K H l2 ys /\ (xs.length <= i \/ ys.length <= i)⟩
theorem a7a {b1 b2 : Bool} {P : Program} {w : World} {K : W.Frag} {elts : List Expr} {x1 : Nat} {pos : Pos} {z ti to j1 j2 l1 l2 : Addr} (D : ZipApart z ti to j1 j2 l1 l2) :
    a3O P w K (.Tuple elts x1 pos) (Itg b1 b2 K l1 l2) [z, ti, to, j1, j2] z (fun i h => IsZip h z ti to .none /\ IsPair h ti (.ref j1) (.ref j2) /\ (∃ a b, IsPair h to a b) /\ ItB b1 h j1 l1 i /\ ItB b2 h j2 l2 i) where
  mem := by simp
  obj := fun i h st b hb => by
    obtain ⟨hz, hti, ⟨a, c, hto⟩, h1, h2⟩ := st
    obtain ⟨o1, e1, v1, d1⟩ := h1.obj
    obtain ⟨o2, e2, v2, d2⟩ := h2.obj
    simp only [List.mem_cons, List.not_mem_nil, or_false] at hb
    rcases hb with rfl | rfl | rfl | rfl | rfl
    . exact ⟨_, hz, fun v q => by cases q⟩
    . exact ⟨_, hti, fun v q => by cases q⟩
    . exact ⟨_, hto, fun v q => by cases q⟩
    . exact ⟨o1, e1, fun v q => by rw [d1] at q; cases q⟩
    . exact ⟨o2, e2, fun v q => by rw [d2] at q; cases q⟩
  keep := fun i h h' st k => by
    obtain ⟨hz, hti, ⟨a, c, hto⟩, h1, h2⟩ := st
    exact ⟨k z (by simp) _ hz, k ti (by simp) _ hti, ⟨a, c, k to (by simp) _ hto⟩, ItB.at' h1 fun o e => k j1 (by simp) o e, ItB.at' h2 fun o e => k j2 (by simp) o e⟩
  item := by
    intro X hP hw hK hc i pins s σ H E I hf st hg
    subst hP hw hK
    obtain ⟨xs, ys, x, y, hq1, hq2, hx, hy⟩ := hg
    obtain ⟨hz, hti, ⟨a, c, hto⟩, h1, h2⟩ := st
    obtain ⟨its1, rv1, p1, _⟩ := I.sqB hq1
    obtain ⟨its2, rv2, p2, _⟩ := I.sqB hq2
    obtain ⟨u1, hu1, ru1⟩ := rv1.get hx
    obtain ⟨u2, hu2, ru2⟩ := rv2.get hy
    refine a6n D hz hti hto h1 h2 p1 p2 (x := u1) (y := u2) (by simpa using hu1) (by simpa using hu2) fun h' a1 a2 a3 a4 a5 a7 => ?_
    refine ⟨_, rfl, wpAny_letOwnedTupleGo_zip (s := { s with heap := h' }) a1 fun h'' hz'' hs'' => ?_⟩
    have neT : ∀ b ∈ [z, ti, to, j1, j2], b ≠ s.heap.objs.size := fun b hb e => by
      have : ∃ o, s.heap.get? b = some o := by
        obtain ⟨o1, e1, _⟩ := h1.obj
        obtain ⟨o2, e2, _⟩ := h2.obj
        simp only [List.mem_cons, List.not_mem_nil, or_false] at hb
        rcases hb with rfl | rfl | rfl | rfl | rfl
        . exact ⟨_, hz⟩
        . exact ⟨_, hti⟩
        . exact ⟨_, hto⟩
        . exact ⟨_, e1⟩
        . exact ⟨_, e2⟩
      obtain ⟨o, ho⟩ := this
      exact absurd (Heap.lt_size ho) (by rw [e]; exact Nat.lt_irrefl _)
    have kk : ∀ b o, b ∉ [z, ti, to, j1, j2] -> s.heap.get? b = some o -> h''.get? b = some o := fun b o hb e => by
      simp only [List.mem_cons, List.not_mem_nil, or_false, not_or] at hb
      exact hs''.extBut b o hb.1 (a7 b o hb.1 hb.2.2.1 hb.2.2.2.1 hb.2.2.2.2 e)
    have tti : h'.get? ti = _ := a7 ti _ D.TIz D.TITO D.TIi1 D.TIi2 hti
    have st' : IsZip h'' z ti to .none /\ IsPair h'' ti (.ref j1) (.ref j2) /\ (∃ a b, IsPair h'' to a b) /\ ItB b1 h'' j1 l1 (i + 1) /\ ItB b2 h'' j2 l2 (i + 1) :=
      ⟨hz'', hs''.extBut _ _ D.TIz tti, ⟨_, _, hs''.extBut _ _ D.TOz a2⟩, a3.extBut hs''.extBut D.i1z, a4.extBut hs''.extBut D.i2z⟩
    have hoF : ∀ b ∈ [z, ti, to, j1, j2], ∃ o, h''.get? b = some o := fun b hb => by
      obtain ⟨q1, q2, ⟨_, _, q3⟩, q4, q5⟩ := st'
      obtain ⟨o1, e1, _⟩ := q4.obj
      obtain ⟨o2, e2, _⟩ := q5.obj
      simp only [List.mem_cons, List.not_mem_nil, or_false] at hb
      rcases hb with rfl | rfl | rfl | rfl | rfl
      . exact ⟨_, q1⟩
      . exact ⟨_, q2⟩
      . exact ⟨_, q3⟩
      . exact ⟨_, e1⟩
      . exact ⟨_, e2⟩
    have zs : z ≠ s.heap.objs.size := neT z (by simp)
    have tup : IsTup h'' s.heap.objs.size [u1, u2].toArray := ⟨_, hs''.extBut _ _ (Ne.symm zs) a5, rfl, 0, rfl⟩
    refine ⟨.ref s.heap.objs.size, upd H s.heap.objs.size (.tup [x, y]), I.turnedLaid (h' := h'') hf kk hoF (Nat.le_refl _) (by show 2 <= sizeLine; decide) (.cons ru1 (.cons ru2 .nil)) tup, rfl, ⟨_, x, y, I.fresh, rfl, rfl, fun xs' ys' q1 q2 => ?_⟩, st', fun b hb => ?_⟩
    . rw [I.sqB_inj q1 hq1, I.sqB_inj q2 hq2]; exact ⟨hx, hy⟩
    . rw [j6 (neT b hb)]; exact (hf b hb).1
  done := by
    intro X hP hw hK hc i pins s σ H E I hf st hg
    subst hP hw hK
    obtain ⟨xs, ys, hq1, hq2, hend⟩ := hg
    obtain ⟨hz, hti, ⟨a, c, hto⟩, h1, h2⟩ := st
    obtain ⟨its1, rv1, p1, _⟩ := I.sqB hq1
    obtain ⟨its2, rv2, p2, _⟩ := I.sqB hq2
    have hl1 := rv1.length
    have hl2 := rv2.length
    refine a6p (I.ok.hd hc) D hz hti hto h1 h2 p1 p2 (by
      rcases hend with q | q
      . exact .inl (by simp; omega)
      . exact .inr (by simp; omega)) fun h' k => ⟨rfl, I.turnedAll hf fun b o hb e => ?_⟩
    simp only [List.mem_cons, List.not_mem_nil, or_false, not_or] at hb
    exact k b o hb.1 hb.2.2.1 hb.2.2.2.1 hb.2.2.2.2 e
  self := fun _ _ _ _ _ st h => wpAny_pyIter_zip st.1 h
def iZg (b1 b2 : Bool) (K : W.Frag) (ta : TA) : TI := fun σ H R => ta σ H fun vs H1 => ∃ l1 l2, vs = [.ref l1, .ref l2] /\ (∃ xs, SqB b1 K H1 l1 xs) /\ (∃ ys, SqB b2 K H1 l2 ys) /\ R (Itg b1 b2 K l1 l2) H1
theorem a9v (b1 b2 : Bool) (K : W.Frag) {X : Cx} {a b : Expr} {ta : TA} {p pos pos' : Pos} {elts : List Expr} {x1 : Nat} (hK : X.K = K) (hg : Gl X "zip") (hm : X.mg "zip" = none) (ha : PA X [a, b] ta) (hs : starEach [a, b] X.env = [(false, eval a X.env), (false, eval b X.env)] := by rfl) (hs2 : starEach [b] X.env = [(false, eval b X.env)] := by rfl) :
    PI X (.Tuple elts x1 pos') (.Call (.Name "zip" p) [a, b] [] pos) (iZg b1 b2 K ta) := by
  subst hK
  intro pins s σ H R I h
  refine Call_ (a0k I hg hm boot_zip (PyProof.Rows.callWith_type1 (A6 (ha pos pins s σ H _ I h) fun us s1 ⟨vs, H1, I1, r1, q1⟩ => ?_) (by rw [hs, hs2]) (by rw [hs2]; rfl)))
  obtain ⟨l1, l2, e, ⟨xs, q1⟩, ⟨ys, q2⟩, q⟩ := q1
  subst e
  obtain ⟨u1, u2, rfl, ru1, ru2⟩ := a0R r1
  cases ru1
  cases ru2
  obtain ⟨its1, rv1, p1, _⟩ := I1.sqB q1
  obtain ⟨its2, rv2, p2, _⟩ := I1.sqB q2
  refine a7j p1 p2 fun h' z1 z2 z3 z4 z5 k => ?_
  have I2 : Inv X pins σ H1 { s1 with heap := h' } := I1.kept (t' := s1.toks) k
  refine wpAny_pyIter_zip z1 ?_
  have D : ZipApart (s1.heap.objs.size + 4) (s1.heap.objs.size + 2) (s1.heap.objs.size + 3) s1.heap.objs.size (s1.heap.objs.size + 1) l1 l2 := a8S _ _ _ p1.lt p2.lt
  refine ⟨s1.heap.objs.size + 4, [s1.heap.objs.size + 4, s1.heap.objs.size + 2, s1.heap.objs.size + 3, s1.heap.objs.size, s1.heap.objs.size + 1], _, _, H1, rfl, I2, a7a D, ⟨z1, z2, ⟨_, _, z3⟩, z4, z5⟩, fun b hb => ?_, q⟩
  have hb' : s1.heap.objs.size <= b := by
    simp only [List.mem_cons, List.not_mem_nil, or_false] at hb
    rcases hb with rfl | rfl | rfl | rfl | rfl
    . exact Nat.le_add_right _ _
    . exact Nat.le_add_right _ _
    . exact Nat.le_add_right _ _
    . exact Nat.le_refl _
    . exact Nat.le_add_right _ _
  exact I1.fpOk hb' (I1.hok.fresh hb')
section
variable {b1 b2 : Bool} {xs ys : List V} {K : W.Frag} {l1 l2 : Addr} {fr : List Nat} {te : TE} {σ : St} {H1 : Hp} {p : Addr} {D : Hp -> Prop}
theorem a8a (h1 : SqB b1 K H1 l1 xs) (h2 : SqB b2 K H1 l2 ys) (hp : H1 p = none) (hz : xs.length < sizeLine) (R : Nat -> V -> Hp -> Prop) (hR : ∀ i y H H', R i y H -> (∀ b o, b ≠ p -> H b = some o -> H' b = some o) -> R i y H')
    (step : ∀ (i : Nat) x y H zs (N : VK), xs[i]? = some x -> ys[i]? = some y -> Same H1 H -> H p = some (.lst zs) -> (∀ v H3, Same H H3 -> R i v H3 -> N v H3) -> te (((blkσ 2 fr σ).set 0 (some x)).set 1 (some y)) H N)
    (hd : ∀ zs H, Same H1 H -> H p = some (.lst zs) -> zs.length = min xs.length ys.length -> (∀ i z, zs[i]? = some z -> R i z H) -> D H) : lcW 2 fr (a8Z K 2 (a4C (S8 0) (a4C (S8 1) b0l))) te σ (Itg b1 b2 K l1 l2) H1 p D := by
  refine ⟨fun i m zs H => m = min xs.length ys.length - i /\ i <= min xs.length ys.length /\ Same H1 H /\ H p = some (.lst zs) /\ zs.length = i /\ ∀ j y, zs[j]? = some y -> R j y H, ⟨_, rfl, Nat.zero_le _, Same.new hp _, c6, rfl, fun j y e => by simp at e⟩, ?_⟩
  rintro i m zs H ⟨rfl, hi, e, hH, len, pr⟩
  by_cases hlt : i < min xs.length ys.length
  . have hx : i < xs.length := by omega
    have hy : i < ys.length := by omega
    refine .inr ⟨⟨xs, ys, xs[i], ys[i], e.sqB h1, e.sqB h2, List.getElem?_eq_getElem hx, List.getElem?_eq_getElem hy⟩, fun u H' y => ?_⟩
    obtain ⟨q, a, b, hq, rfl, rfl, hab⟩ := y
    obtain ⟨ha, hb⟩ := hab xs ys (e.sqB h1) (e.sqB h2)
    have s1 := Same.new hq (.tup [a, b])
    refine ⟨q, _, rfl, SqT.of c6, rfl, _, _, rfl, _, _, rfl, rfl, ?_, ?_⟩
    . refine ⟨by simp, fun k w ek => ?_⟩
      have : ¬ k < 2 := fun hk => by
        unfold blkσ at ek
        rw [List.getElem?_append_left (by simpa using hk), List.getElem?_replicate] at ek
        split at ek <;> cases ek
      rw [List.getElem?_set_ne (by omega), List.getElem?_set_ne (by omega)]; exact ek
    . refine step i a b _ zs _ ha hb (e.trans s1) (s1 _ _ hH) fun v H3 s3 r3 => ⟨s3 _ _ (s1 _ _ hH), by omega, min xs.length ys.length - (i + 1), by omega, rfl, hlt, fun b' o q' => ?_, c6, by rw [List.length_append, len]; rfl, fun j y ey => ?_⟩
      . rw [j6 (j7 q' hp)]; exact s3 _ _ (s1 _ _ (e _ _ q'))
      . have up : ∀ b o, b ≠ p -> H3 b = some o -> upd H3 p (.lst (zs ++ [v])) b = some o := fun b o hb q => by rw [j6 hb]; exact q
        by_cases hj : j < zs.length
        . rw [List.getElem?_append_left hj] at ey
          exact hR j y _ _ (pr j y ey) fun b o hb q => up b o hb (s3 _ _ (s1 _ _ q))
        . rw [List.getElem?_append_right (by omega)] at ey
          have hj' : j - zs.length = 0 := by
            cases q : j - zs.length with
            | zero => rfl
            | succ k => rw [q] at ey; simp at ey
          rw [hj'] at ey
          have : j = i := by omega
          subst this
          simp at ey
          subst ey
          exact hR j v _ _ r3 up
  . have : i = min xs.length ys.length := by omega
    subst this
    exact .inl ⟨⟨xs, ys, e.sqB h1, e.sqB h2, by omega⟩, hd zs H e hH len pr⟩
end
section
variable {xs ys : List V} {K : W.Frag} {l1 l2 : Addr} {fr : List Nat} {te : TE} {σ : St} {H1 : Hp} {p : Addr} {D : Hp -> Prop}
end
end L2
namespace Fr
abbrev Q2 := Int × Int
def gI (a b : Int) : Int := (Int.gcd a b : Int)
def low (t b : Int) : Q2 := (t / gI t b, b / gI t b)
theorem W3 (a b : Int) : 0 <= gI a b := Int.natCast_nonneg _
theorem M3 (a b : Int) : gI a b ∣ a := Int.gcd_dvd_left ..
theorem D5 (a b : Int) : gI a b ∣ b := Int.gcd_dvd_right ..
theorem a5b {a b : Int} (hb : 0 < b) : 0 < gI a b := by
  have h0 := W3 a b
  by_cases z : gI a b = 0
  . have := D5 a b
    rw [z, Int.zero_dvd] at this
    omega
  . omega
theorem b0j {a b : Int} (hb : 0 < b) : gI a b <= b := Int.le_of_dvd hb (D5 a b)
theorem a5G {c a b : Int} (h1 : c ∣ a) (h2 : c ∣ b) : c ∣ gI a b := Int.dvd_coe_gcd h1 h2
theorem a3P {a b : Int} (ha : 0 <= a) (hb : 0 <= b) (h1 : a ∣ b) (h2 : b ∣ a) : a = b := Int.dvd_antisymm ha hb h1 h2
theorem a6Z (a b : Int) : gI b (a % b) = gI a b := by
  refine a3P (W3 _ _) (W3 _ _) (a5G ?_ (M3 _ _)) (a5G (D5 _ _) ?_)
  . have h1 := M3 b (a % b)
    have h2 := D5 b (a % b)
    have := Int.dvd_add (Int.dvd_mul_of_dvd_left (c := a / b) h1) h2
    rw [Int.mul_ediv_add_emod] at this
    exact this
  . have h1 := M3 a b
    have h2 := D5 a b
    have := Int.dvd_sub h1 (Int.dvd_mul_of_dvd_left (c := a / b) h2)
    rw [Int.emod_def]
    exact this
theorem a6K (a : Int) : gI a 0 = a.natAbs := by unfold gI; rw [Int.gcd_zero_right]
theorem a8z (a b : Int) : gI (-a) b = gI a b := by unfold gI; rw [Int.neg_gcd]
theorem X6 {t b : Int} (hb : 0 < b) : t = gI t b * (low t b).1 /\ b = gI t b * (low t b).2 :=
  ⟨(Int.mul_ediv_cancel' (M3 t b)).symm, (Int.mul_ediv_cancel' (D5 t b)).symm⟩
end Fr
namespace L2
open PySem PySem.Spec PyProof.Rows
section
variable {X : Cx} {pins : List (Addr × Obj)} {σ : St} {H : Hp} {s : Shared} {fr : List Nat} {scope : Scope} {col : Str} {qual : Str} {f : Addr} {cd : Value} {A' : Around}
end
end L2
namespace L2
open PySem PySem.Spec PyProof.Rows
def a1a (mg : Str -> Option Value) (base : Heap) : Prop := ∃ bm ob, mg "__builtins__" = some (.ref bm) /\ bm ≠ builtinsNs /\ base.get? bm = some ob /\ ob.cls = .type "module" /\ ob.dict = some builtinsNs /\ ob.data = .plain
abbrev a9x (c : Addr) (qual : Str) : HO := .ext fun h => h.CodeRec (.ref c) qual
def a9e (P : Addr) (pos : Pos) (qual : Str) (H : Hp) : Prop :=
  H P = some (.tbl #[]) \/ ∃ c', H P = some (.tbl #[rawInt pos.line, rawInt pos.col, .ref c']) /\ H c' = some (a9x c' qual)
def b0q (P : Addr) (H H' : Hp) : Prop := ∀ b o, b ≠ P -> H b = some o -> H' b = some o
section
variable {X : Cx} {pins : List (Addr × Obj)} {σ : St} {H : Hp} {s : Shared} {fr : List Nat} {scope : Scope} {qual : Str} {c P : Addr} {params : Arguments} {body : Expr} {pos : Pos}
end
end L2
namespace L2
open PySem PySem.Spec PyProof.Rows
section
variable {X : Cx} {pins : List (Addr × Obj)} {σ : St} {H : Hp} {l It S fq : Addr} {ns : List Int} {g : Int -> Int} {R : Result -> Shared -> Prop}
end
end L2
namespace L2
open PySem PySem.Spec PyProof.Rows
section
variable {X : Cx} {e body : Expr} {es : List Expr} {t : TA} {tb : TE} {fr : List Nat} {scope : Scope} {col : Str} {c P : Addr} {params : Arguments} {p pos lpos kp1 kp2 cp : Pos} {cj : Nat}
end
end L2
namespace L2
open PySem PySem.Spec PyProof.Rows
section
variable {X : Cx} {os : List Str} {fr : List Nat} {scope : Scope} {elt tg iter : Expr} {pos : Pos} {wi : TI} {g : TG} {te : TE}
theorem a9a {c : Expr} {tc : TT} {i : Nat} {x : Str} {pos' spos : Pos} (os : List Str) (fr : List Nat) (hN : X.N.Nodup) (hi' : X.N[i]? = some x) (hx : X.env.scope.names.lookup x = some .local)
    (hc : X.calm = true) (hi : PI X tg iter wi) (hg : ∀ C fp s₀ H₀, PG (blk X os fr scope C fp s₀ H₀) tg g) (ht : ∀ C fp s₀ H₀, PT (blk X os fr scope C fp s₀ H₀) c tc) (he : ∀ C fp s₀ H₀, PE (blk X os fr scope C fp s₀ H₀) elt te)
    (hsw : swapsWith (.ListComp elt [⟨tg, iter, [c], 0⟩] scope pos) (some (.Name x pos')) spos.line X.env = pure true := by rfl)
    (hk : scope.kind = .function := by rfl) (hok : a0x X.env.scope scope X.N fr = true := by rfl) (hs : ∀ x, foldedSetIterable iter X.env x = pure x := by intro _; rfl) :
    PS X (.Assign [.Name x pos'] (.ListComp elt [⟨tg, iter, [c], 0⟩] scope pos) spos) (a0A (b0f os.length fr wi g tc te) (S8 i)) := by
  intro pins s σ H D I h
  unfold a0A at h
  rw [exec_Assign_Name_used _ _ _ _ hsw]
  refine wpAny_bind (wpAny_standAt (wpAny_bind ?_))
  show wpAny _ X.A (do let _ <- comprehension (.ListComp elt [⟨tg, iter, [c], 0⟩] scope pos) scope X.env _ (newList []) false (eval iter X.env) (some (assign (.Name x pos') X.env))) _ _ s
  refine wpAny_bind (wpAny_mono (wpAny_comprehension_free (use := some (assign (.Name x pos') X.env)) (Q := fun _ s' => SP X pins D .next s') rfl hs (F0 (V6 I hok)) hk (fun x hx hl => by have := (L4 hok x hx).1; rw [hl] at this; exact this)
    (A6 (hi pins s σ H _ I h) fun v s1 h1 => A6 h1 fun itv s2 h2 => ?_)) (fun _ s' hq => wpAny_pure (wpAny_pure hq)) fun _ _ e => e)
  refine U9 (os := os) (D := fun p H' => D.nx (σ.set i (some (.ref p))) H') (RR := fun acc C => compPost (model X.prog X.w) X.A X.xe (some (assign (.Name x pos') X.env)) (fun _ s' => SP X pins D .next s') acc C) hc hg (fun _ _ _ _ => a1V (ht _ _ _ _)) he hk hok h2 ?_
  intro p C s3 H3 s' H' I3 eC hn I' ⟨m, hm⟩ q
  show wpAny _ X.A (assign (.Name x pos') X.env (.ref p)) _ _ _
  refine wpAny_assign_Name (W1 (v := .ref p) I' hN hi' (.inl hx) rfl (fun s'' I'' ⟨a, hsa, ha⟩ => ?_) (.inr hx))
  have hCa : C ≠ a := by
    rcases ha with e | e
    . rw [e]; exact Nat.ne_of_gt (by rw [<- eC]; exact I3.lt)
    . obtain ⟨v, z⟩ := I3.cell x a e
      exact Nat.ne_of_gt (by rw [<- eC]; exact z.lt)
  exact ⟨m, hm.sameBut hsa hCa, fun h' hs' => ⟨_, H', I3.letgo I'' hn (by omega) hs', q⟩⟩
end
section
variable {fr : List Nat} {tc : TT} {σ : St} {J : It} {H1 : Hp} {p : Addr} {D : Hp -> Prop} {xs : List V}
theorem a1h (hJ : a2U J H1 xs) (hp : H1 p = none) (hz : xs.length < sizeLine) (F : V -> Bool)
    (step : ∀ (i : Nat) x H (N : Bool -> Hp -> Prop), xs[i]? = some x -> Same H1 H -> N (F x) H -> tc ((blkσ 1 fr σ).set 0 (some x)) H N)
    (hd : D (upd H1 p (.lst (xs.filter F)))) : lcI 1 fr (S8 0) tc (a8A 0) σ J H1 p D := by
  refine ⟨fun i m ys H => m = xs.length - i /\ i <= xs.length /\ ys = (xs.take i).filter F /\ H = upd H1 p (.lst ys), ⟨xs.length, by simp, Nat.zero_le _, by simp, rfl⟩, ?_⟩
  rintro i m ys H ⟨rfl, hi, rfl, rfl⟩
  have e := Same.new (o := .lst ((xs.take i).filter F)) hp
  by_cases hlt : i < xs.length
  . refine .inr ⟨hJ.go i _ e hlt, fun x H' y => ?_⟩
    obtain ⟨rfl, hx⟩ := hJ.yld i _ x H' e hlt y
    have tk : (xs.take (i + 1)).filter F = (xs.take i).filter F ++ [x].filter F := by rw [List.take_succ, hx, List.filter_append]; rfl
    refine ⟨Wk.set (by decide), step i x _ _ hx e ?_⟩
    cases hq : F x with
    | false =>
      rw [if_neg Bool.false_ne_true]
      refine ⟨xs.length - (i + 1), by omega, rfl, hlt, ?_, rfl⟩
      rw [tk]; simp [hq]
    | true =>
      rw [if_pos rfl]
      refine ⟨x, ?_, c6, ?_, xs.length - (i + 1), by omega, rfl, hlt, ?_, P4⟩
      . show ((blkσ 1 fr σ).set 0 (some x))[0]? = some (some x)
        rw [List.getElem?_set_self (by simp [blkσ])]
      . have h1 := List.length_filter_le F (xs.take i)
        rw [List.length_take] at h1
        omega
      . rw [tk]; simp [hq]
  . have : i = xs.length := by omega
    subst this
    refine .inl ⟨hJ.stop _ e, ?_⟩
    rw [List.take_of_length_le (Nat.le_refl _)]; exact hd
end
section
variable {P : Program} {w : World} {K : W.Frag} {mg : Str -> Option Value} {base : Heap}
end
end L2
namespace L2
open PySem
section
variable {xs ys : List V} {K : W.Frag} {l1 l2 : Addr} {fr : List Nat} {te : TE} {σ : St} {H1 : Hp} {p : Addr} {D : Hp -> Prop}
end
end L2
namespace L2
open PySem
theorem D1 {G0 : St -> Hp -> Prop} {σ : St} {H : Hp} (h : ∀ G : St -> Hp -> Prop, G = G0 -> G σ H) : G0 σ H := h G0 rfl
section
variable {X : Cx} {st : Stmt} {S3 : List Stmt} {t u : TS}
def W8 (t u : TS) : TS := fun D σ H => ∃ M : St -> Hp -> Prop, t { D with nx := M } σ H /\ ∀ σ' H', M σ' H' -> u D σ' H'
theorem j9 (h1 : PS X st t) (h2 : PSs X S3 u) : PSs X (st :: S3) (W8 t u) := by
  intro pins s σ H D I ⟨M, h, hM⟩
  refine wpAny_execs_cons (A6 (h1 pins s σ H { D with nx := M } I h) fun f s1 q => ?_)
  cases f with
  | next =>
    obtain ⟨σ', H', I', q⟩ := q
    exact h2 pins s1 σ' H' D I' (hM _ _ q)
  | ret v => exact q
  | brk => exact q
  | cont => exact q
end
end L2
namespace Rim
open PySem L2
theorem a8O (xs : List V) (k : Nat) (h : k <= xs.length) : O4 xs none (some (k : Int)) = xs.take k := by
  unfold O4
  rw [HT.sIx_none, HT.sIx_nat, List.drop_zero]
  congr 1
  omega
theorem a2m (xs : List V) (k : Nat) (h : k <= xs.length) : O4 xs (some (k : Int)) none = xs.drop k := by
  unfold O4
  rw [HT.sIx_none, HT.sIx_nat, Nat.min_eq_left h]
  exact List.take_of_length_le (by rw [List.length_drop]; exact Nat.le_refl _)
end Rim
namespace L2
open PySem PySem.Spec PyProof.Rows
section
variable {X : Cx}
end
end L2
namespace Lp
abbrev Vec := Nat -> Int
def tl (v : Vec) : Vec := fun i => v (i + 1)
def b0b (D : List Vec -> Int) : List Vec -> List Vec -> Int
  | _, [] => 0
  | pre, c :: S3 => c 0 * D ((pre ++ S3).map tl) - b0b D (pre ++ [c]) S3
def det : Nat -> List Vec -> Int
  | 0, _ => 1
  | n + 1, cols => b0b (det n) [] cols
def bnd (M : Nat) : Nat -> Nat
  | 0 => 1
  | n + 1 => (n + 1) * (M * bnd M n)
end Lp
namespace Lp
def X9 (g : Nat -> Int) : Nat -> Int
  | 0 => 0
  | n + 1 => X9 g n + g n
def zv : Vec := fun _ => 0
def b1S (n : Nat) (B : List Vec) (u : Vec) : Prop := ∀ x, det n B * u x = X9 (fun k => det n (B.set k u) * (B.getD k zv) x) n
end Lp
namespace Lp
structure Bo where
  d : Int
  T : Nat -> Nat -> Int
  ins : Nat -> Nat
  outs : Nat -> Nat
def upN (g : Nat -> Nat) (k v : Nat) : Nat -> Nat := fun i => if i = k then v else g i
def piv (S : Bo) (r c : Nat) : Bo where
  d := S.T r c
  T := fun i j => if i = r then (if j = c then S.d else S.T r j) else (if j = c then - S.T i c else (S.T i j * S.T r c - S.T i c * S.T r j) / S.d)
  ins := upN S.ins r (S.outs c)
  outs := upN S.outs c (S.ins r)
def Bs (m : Nat) (V : Nat -> Vec) (ins : Nat -> Nat) : List Vec := (List.range (m + 1)).map fun i => V (ins i)
structure Wf (m q : Nat) (V : Nat -> Vec) (S : Bo) : Prop where
  hd : S.d = det (m + 1) (Bs m V S.ins)
  hT : ∀ i j, i < m + 1 -> j < q + 1 -> S.T i j = det (m + 1) ((Bs m V S.ins).set i (V (S.outs j)))
  cr : ∀ j, j < q + 1 -> b1S (m + 1) (Bs m V S.ins) (V (S.outs j))
  pos : 0 < S.d
  feas : ∀ i, i < m -> 0 <= S.T i q
  im : S.ins m = q + m
  oq : S.outs q = q + m + 1
  ib : ∀ i, i < m -> S.ins i < q + m
  ob : ∀ j, j < q -> S.outs j < q + m
  ii : ∀ i k, i < m -> k < m -> S.ins i = S.ins k -> i = k
  oo : ∀ j k, j < q -> k < q -> S.outs j = S.outs k -> j = k
  io : ∀ i j, i < m -> j < q -> S.ins i ≠ S.outs j
  all : ∀ v, v < q + m -> (∃ i, i < m /\ S.ins i = v) \/ (∃ j, j < q /\ S.outs j = v)
section
variable {m q : Nat} {V : Nat -> Vec} {S : Bo}
def Ker (m q : Nat) (V : Nat -> Vec) (S : Bo) (z : Nat -> Int) : Prop := ∀ x, X9 (fun k => z (S.ins k) * V (S.ins k) x) (m + 1) + X9 (fun j => z (S.outs j) * V (S.outs j) x) (q + 1) = 0
end
end Lp
namespace Lp
structure a2W (m q : Nat) (S : Bo) (r c : Nat) : Prop where
  hc : c < q
  neg : S.T m c < 0
  minc : ∀ j, j < q -> S.T m j < 0 -> S.outs c <= S.outs j
  hr : r < m
  pos : 0 < S.T r c
  ratio : ∀ i, i < m -> 0 < S.T i c -> S.T r q * S.T i c <= S.T i q * S.T r c
  tie : ∀ i, i < m -> 0 < S.T i c -> S.T r q * S.T i c = S.T i q * S.T r c -> S.ins r <= S.ins i
section
variable {m q : Nat} {V : Nat -> Vec} {S S' : Bo}
end
structure Seq (m q : Nat) (V : Nat -> Vec) (S : Nat -> Bo) (R C : Nat -> Nat) : Prop where
  w : Wf m q V (S 0)
  ch : ∀ k, a2W m q (S k) (R k) (C k)
  st : ∀ k, S (k + 1) = piv (S k) (R k) (C k)
section
variable {m q : Nat} {V : Nat -> Vec} {S : Nat -> Bo} {R C : Nat -> Nat}
end
end Lp
namespace Lp
section
variable {m q : Nat} {V : Nat -> Vec} {S : Bo}
end
section
variable {m q : Nat} {V : Nat -> Vec} {S : Nat -> Bo} {R C : Nat -> Nat}
end
inductive Ends (m q : Nat) : Bo -> Nat -> Prop
  | stop {S : Bo} : (¬ ∃ r c, a2W m q S r c) -> Ends m q S 0
  | go {S : Bo} {r c k : Nat} : a2W m q S r c -> Ends m q (piv S r c) k -> Ends m q S (k + 1)
end Lp
namespace Lp
def Vv (m q : Nat) (A : Nat -> Nat -> Int) (b c : Nat -> Int) : Nat -> Vec := fun v x =>
  if v < q then (if x < m then A x v else if x = m then - c v else 0) else if v < q + m + 1 then (if x = v - q then 1 else 0) else (if x < m then b x else 0)
def S0 (m q : Nat) (A : Nat -> Nat -> Int) (b c : Nat -> Int) : Bo where
  d := 1
  T := fun i j => if j < q then (if i < m then A i j else - c j) else (if i < m then b i else 0)
  ins := fun i => q + i
  outs := fun j => if j < q then j else q + m + 1
section
variable {m q : Nat} {A : Nat -> Nat -> Int} {b c : Nat -> Int}
end
def valIn (m : Nat) (S : Bo) (q v : Nat) : Int := X9 (fun i => if S.ins i = v then S.T i q else 0) m
def valOut (m q : Nat) (S : Bo) (v : Nat) : Int := X9 (fun j => if S.outs j = v then S.T m j else 0) q
section
variable {m q : Nat} {A : Nat -> Nat -> Int} {b c : Nat -> Int} {S : Bo}
structure Of (m q : Nat) (A : Nat -> Nat -> Int) (b c : Nat -> Int) (S : Bo) : Prop where
  w : Wf m q (Vv m q A b c) S
  k : ∀ z, Ker m q (Vv m q A b c) S z ↔ Ker m q (Vv m q A b c) (S0 m q A b c) z
end
end Lp
namespace Rim
open PySem L2
def S1 (i : Nat) : Stmt := PySem.Challenge.pw_rimhouse_k13_books_as_texts.main.body.getD i (.Pass ⟨0, 0, 0, 0⟩)
abbrev a1d : Stmt := S1 92
abbrev a4I : Stmt := S1 90
abbrev a3b : Stmt := S1 91
abbrev a4Q : Stmt := S1 93
abbrev X2 : Stmt := S1 94
abbrev a1D : Stmt := S1 95
abbrev a5i : Stmt := S1 96
abbrev S2 : Stmt := S1 106
abbrev T7 : Stmt := S1 19
abbrev M8 : Stmt := S1 20
abbrev T2 : Stmt := S1 21
abbrev L8 : Stmt := S1 22
abbrev X3 : Stmt := S1 23
abbrev L7 : Stmt := S1 28
abbrev O5 : Stmt := S1 29
abbrev P8 : Stmt := S1 30
abbrev K2 : Stmt := S1 31
abbrev N0 : Stmt := S1 32
abbrev L5 : Stmt := S1 33
abbrev O9 : Stmt := S1 34
abbrev P9 : Stmt := S1 35
abbrev O8 : Stmt := S1 67
abbrev G8 : Stmt := S1 68
abbrev Q7 : Stmt := S1 81
abbrev a2C : Stmt := S1 88
abbrev E7 : Stmt := S1 97
abbrev M9 : Stmt := S1 98
abbrev B5 : Stmt := S1 99
abbrev C8 : Stmt := S1 100
abbrev P2 : Stmt := S1 101
abbrev K9 : Stmt := S1 102
abbrev Q4 : Stmt := S1 103
abbrev Q1 : Stmt := S1 104
abbrev D8 : Stmt := S1 105
abbrev K3 : Stmt := a1k a2C 0
abbrev J1 : Stmt := a1k a2C 1
abbrev J2 : Stmt := a1k a2C 2
abbrev a8C : Pos := ⟨161, 32, 161, 64⟩
end Rim
namespace Rim
open PySem L2
structure y6 (mg : Str -> Option Value) : Prop where
  len : mg "len" = none
  all : mg "all" = none
  any : mg "any" = none
  max : mg "max" = none
  min : mg "min" = none
  sum : mg "sum" = none
  tuple : mg "tuple" = none
  list : mg "list" = none
  int : mg "int" = none
  bool : mg "bool" = none
  range : mg "range" = none
  isi : mg "isinstance" = none
  abs : mg "abs" = none
  zip : mg "zip" = none
  enum : mg "enumerate" = none
  ve : mg "ValueError" = none
  so : mg "sorted" = none
def b1p (K : W.Frag) : List V -> Hp -> VK -> Prop := fun xs H Q => ∃ p ys, xs = [.ref p] /\ (SqL K H p ys \/ SqT K H p ys) /\ Q (.int (ys.length : Int)) H
theorem a1x (K : W.Frag) {X : Cx} (h : X.K = K) : G1 X (.builtin "len") (b1p K) := by subst h; exact j8
theorem a5Z (K : W.Frag) {X : Cx} {es : List Expr} {k : Nat} {t : TGs} {n : Nat} {pos : Pos} (h : X.K = K) (hc : X.calm = true) (hp : PGs X es t) (hn : (assignEach es X.env).length = n := by rfl) (hst : (assignEach es X.env).findIdx? (·.1) = none := by rfl) : PG X (.Tuple es k pos) (a8Z K n t) := by subst h; exact G6 hc hp hn hst
def vI : V -> Int
  | .int i => i
  | _ => 0
theorem G5 {ns : List Int} {i : Nat} {x : V} (h : (ns.map V.int)[i]? = some x) : ∃ k, x = .int k := by
  rw [List.getElem?_map] at h
  cases hn : ns[i]? with
  | none => rw [hn] at h; cases h
  | some k => rw [hn] at h; cases h; exact ⟨k, rfl⟩
abbrev h9 := List Int × List Int
def HS (K : W.Frag) (H : Hp) (v : V) (h : h9) : Prop := ∃ a t g, v = .ref a /\ SqT K H a [.ref t, .ref g] /\ SqT K H t (h.1.map V.int) /\ SqT K H g (h.2.map V.int)
abbrev Bk (K : W.Frag) (H : Hp) : List V -> List h9 -> Prop := PySem.Paired (HS K H)
theorem HS.same {K : W.Frag} {H H' : Hp} {v : V} {h : h9} (e : Same H H') (x : HS K H v h) : HS K H' v h := by
  obtain ⟨a, t, g, h0, h1, h2, h3⟩ := x
  exact ⟨a, t, g, h0, e.tseq h1, e.tseq h2, e.tseq h3⟩
theorem Bk.same {K : W.Frag} {H H' : Hp} {vs : List V} {hs : List h9} (e : Same H H') (x : Bk K H vs hs) : Bk K H' vs hs := Paired.imp' (fun _ _ r => HS.same e r) x
theorem Paired.at {α β : Type} {F : α -> β -> Prop} : ∀ {l₁ : List α} {l₂ : List β}, PySem.Paired F l₁ l₂ -> ∀ {i : Nat} {x : α}, l₁[i]? = some x -> ∃ y, l₂[i]? = some y /\ F x y
  | _, _, .nil, _, _, e => by simp at e
  | _, _, .cons r _, 0, _, e => by simp at e; subst e; exact ⟨_, rfl, r⟩
  | _, _, .cons _ t, i + 1, x, e => by
    obtain ⟨y, h1, h2⟩ := Paired.at t (i := i) (x := x) (by simpa using e)
    exact ⟨y, by simpa using h1, h2⟩
end Rim
namespace Rim
open PySem L2
def b0X (q : Nat) (S : Lp.Bo) (i : Nat) : List Int := (List.range (q + 1)).map (S.T i)
def a9I (q : Nat) (S : Lp.Bo) : List Int := (List.range q).map fun j => (S.outs j : Int)
def b1b (m : Nat) (S : Lp.Bo) : List Int := (List.range m).map fun i => (S.ins i : Int)
abbrev bdF (q : Nat) (d : Int) (ca oa ia : Addr) : List (Str × V) := [("many", .int q), ("scale", .int d), ("cells", .ref ca), ("outs", .ref oa), ("ins", .ref ia)]
structure Bd (C : Addr) (H : Hp) (p dx ca oa ia : Addr) (rs : List Addr) (m q : Nat) (S : Lp.Bo) : Prop where
  obj : H p = some (.ins C dx (bdF q S.d ca oa ia))
  cel : H ca = some (.lst (rs.map V.ref))
  len : rs.length = m + 1
  row : ∀ i r, rs[i]? = some r -> H r = some (.lst ((b0X q S i).map V.int))
  out : H oa = some (.lst ((a9I q S).map V.int))
  inn : H ia = some (.lst ((b1b m S).map V.int))
  ne : oa ≠ ia
structure TB (K : W.Frag) (C : Addr) : Prop where
  cl : Cls K C
  nM : NoAttr K C "many"
  nS : NoAttr K C "scale"
  nC : NoAttr K C "cells"
  nO : NoAttr K C "outs"
  nI : NoAttr K C "ins"
section
variable {C : Addr} {H H' : Hp} {p dx ca oa ia : Addr} {rs : List Addr} {m q : Nat} {S : Lp.Bo}
def Sz (n m q : Nat) (S : Lp.Bo) : Prop := (∀ i j, i < m + 1 -> j < q + 1 -> Big n (S.T i j)) /\ Big n S.d
end
section
variable {P : Program} {w : World} {K : W.Frag} {mg : Str -> Option Value} {base : Heap} {f : Addr} {fd : FuncData} {n : Nat} {C : Addr}
end
end Rim
namespace Rim
open PySem L2
structure a5A (P : Program) (w : World) (K : W.Frag) (mg : Str -> Option Value) (base : Heap) (n : Nat) (C : Addr) (m : Str) (ps : List Str) (sp : Sp) (f : Addr) (fd : FuncData) : Prop where
  ok : x8 P w K mg base K1 n f fd ps sp
  bd : Binds K fd ps []
  me : a5c K C m f
def Bet (q : Nat) (S : Lp.Bo) (c r i : Nat) : Prop := S.T r q * S.T i c <= S.T i q * S.T r c /\ (S.T r q * S.T i c = S.T i q * S.T r c -> S.ins r <= S.ins i)
section
variable {P : Program} {w : World} {K : W.Frag} {mg : Str -> Option Value} {base : Heap} {f g : Addr} {fd gd : FuncData} {n : Nat} {C : Addr}
def a6j (C : Addr) : Sp := fun vs H Q _ => ∃ (p dx ca oa ia : Addr) (rs : List Addr) (m q : Nat) (S : Lp.Bo) (c : Nat), vs = [.ref p, .int c] /\ Bd C H p dx ca oa ia rs m q S /\ Sz 4000 m q S /\ m < 1000 /\ c < q + 1 ∧
  ((∀ i, i < m -> ¬ 0 < S.T i c) -> Q .non H) /\ ∀ r, r < m -> 0 < S.T r c -> (∀ i, i < m -> 0 < S.T i c -> Bet q S c r i) -> Q (.int r) H
end
end Rim
namespace Rim
open PySem L2
abbrev b1m : Str := ("Board.coming" ++ ".<locals>.") ++ "<lambda>"
abbrev LT (Pt : Addr) (H : Hp) : Prop := a9e Pt a8C b1m H
section
variable {P : Program} {w : World} {K : W.Frag} {mg : Str -> Option Value} {base : Heap} {f g c Pt : Addr} {fd gd : FuncData} {n : Nat} {C : Addr}
def a4P (C Pt : Addr) : Sp := fun vs H Q _ => ∃ (p dx ca oa ia : Addr) (rs : List Addr) (m q : Nat) (S : Lp.Bo), vs = [.ref p] /\ Bd C H p dx ca oa ia rs m q S /\ q < 1000 /\ LT Pt H ∧
  ∀ H', b0q Pt H H' -> LT Pt H' -> ((∀ j, j < q -> ¬ S.T m j < 0) -> Q .non H') /\ ∀ j, j < q -> S.T m j < 0 -> (∀ i, i < q -> S.T m i < 0 -> S.outs j <= S.outs i) -> Q (.int j) H'
end
end Rim
namespace Rim
open PySem L2
section
variable {P : Program} {w : World} {K : W.Frag} {mg : Str -> Option Value} {base : Heap} {f g c Pt : Addr} {fd gd : FuncData} {n : Nat} {C : Addr}
end
end Rim
namespace Rim
open PySem L2
structure N1 (P : Program) (w : World) (K : W.Frag) (mg : Str -> Option Value) (base : Heap) (n : Nat) (x : Str) (ps : List Str) (sp : Sp) (fa : Addr) (d : FuncData) : Prop where
  ok : x8 P w K mg base K1 n fa d ps sp
  b : Binds K d ps []
  k : W.keepIn K (.ref fa) = true
  m : mg x = some (.ref fa)
end Rim
namespace Rim
open PySem L2
section
variable {P : Program} {w : World} {K : W.Frag} {mg : Str -> Option Value} {base : Heap} {f g c Pt : Addr} {fd gd : FuncData} {n : Nat} {C : Addr}
def a2w (C : Addr) : Sp := fun vs H Q _ => ∃ (p dx ca oa ia : Addr) (rs : List Addr) (m q : Nat) (S : Lp.Bo) (r c : Nat), vs = [.ref p, .int r, .int c] /\ Bd C H p dx ca oa ia rs m q S /\ Sz 4000 m q S /\ r < m /\ c < q /\ m < 900 /\ q < 900 /\ 0 < S.d ∧
  ∀ (H' : Hp) (ca' : Addr) (rs' : List Addr), Bd C H' p dx ca' oa ia rs' m q (Lp.piv S r c) -> (∀ b o, b ≠ p -> b ≠ oa -> b ≠ ia -> H b = some o -> H' b = some o) -> Q .non H'
end
end Rim
namespace Rim
open PySem L2
section
variable {P : Program} {w : World} {K : W.Frag} {mg : Str -> Option Value} {base : Heap} {f g c Pt : Addr} {fd gd : FuncData} {n : Nat} {C : Addr}
end
end Rim
namespace Rim
open PySem L2
def D9 (m q : Nat) (S : Lp.Bo) : List Int := (List.range q).map fun v => Lp.valIn m S q v
def b1V (m q : Nat) (S : Lp.Bo) : List Int := (List.range m).map fun i => Lp.valOut m q S (q + i)
section
variable {P : Program} {w : World} {K : W.Frag} {mg : Str -> Option Value} {base : Heap} {f g c Pt : Addr} {fd gd : FuncData} {n : Nat} {C : Addr}
def a8J (C : Addr) : Sp := fun vs H Q _ => ∃ (p dx ca oa ia : Addr) (rs : List Addr) (m q : Nat) (S : Lp.Bo), vs = [.ref p] /\ Bd C H p dx ca oa ia rs m q S /\ m < 900 /\ q < 900 /\ (∀ i k, i < m -> k < m -> S.ins i = S.ins k -> i = k) ∧
  ∀ (r : Addr) (H' : Hp), Same H H' -> H r = none -> H' r = some (.lst ((D9 m q S).map V.int)) -> Q (.ref r) H'
def b0m (C : Addr) : Sp := fun vs H Q _ => ∃ (p dx ca oa ia : Addr) (rs : List Addr) (m q : Nat) (S : Lp.Bo), vs = [.ref p] /\ Bd C H p dx ca oa ia rs m q S /\ m < 900 /\ q < 900 /\ (∀ j k, j < q -> k < q -> S.outs j = S.outs k -> j = k) /\ (∀ j, j < q -> S.outs j < q + m) ∧
  ∀ (r : Addr) (H' : Hp), Same H H' -> H r = none -> H' r = some (.lst ((b1V m q S).map V.int)) -> Q (.ref r) H'
end
end Rim
namespace Rim
open PySem L2
def Arr (rows : List (List Int)) : Nat -> Nat -> Int := fun i j => (rows.getD i []).getD j 0
def vec (l : List Int) : Nat -> Int := fun i => l.getD i 0
abbrev a9z (K : W.Frag) (H : Hp) : List V -> List (List Int) -> Prop := PySem.Paired fun v row => ∃ a, v = .ref a /\ SqL K H a (row.map V.int)
section
variable {P : Program} {w : World} {K : W.Frag} {mg : Str -> Option Value} {base : Heap} {f g c Pt : Addr} {fd gd : FuncData} {n : Nat} {C : Addr}
def a8t (K : W.Frag) (C : Addr) : Sp := fun vs H Q _ => ∃ (p dx ga ra ba : Addr) (goal : List Int) (rvs : List V) (rows : List (List Int)) (bounds : List Int) (m q : Nat), vs = [.ref p, .ref ga, .ref ra, .ref ba] /\ H p = some (.ins C dx []) /\ SqL K H ga (goal.map V.int) /\ SqL K H ra rvs ∧
  a9z K H rvs rows /\ SqL K H ba (bounds.map V.int) /\ rows.length = m /\ bounds.length = m /\ goal.length = q /\ (∀ r ∈ rows, r.length = q) /\ m < 900 /\ q < 900 ∧
  ∀ (H' : Hp) (ca oa ia : Addr) (rs : List Addr), Bd C H' p dx ca oa ia rs m q (Lp.S0 m q (Arr rows) (vec bounds) (vec goal)) -> (∀ b o, b ≠ p -> H b = some o -> H' b = some o) -> H oa = none -> H ia = none -> Q .non H'
end
end Rim
namespace Rim
open PySem L2
section
variable {P : Program} {w : World} {K : W.Frag} {mg : Str -> Option Value} {base : Heap} {f g c Pt : Addr} {fd gd : FuncData} {n : Nat} {C : Addr}
end
end Rim
namespace Rim
open PySem L2
section
variable {P : Program} {w : World} {K : W.Frag} {mg : Str -> Option Value} {base : Heap} {f Pt : Addr} {fd : FuncData} {n : Nat} {C : Addr}
structure b2z (P : Program) (w : World) (K : W.Frag) (mg : Str -> Option Value) (base : Heap) (n : Nat) (C Pt : Addr) (f1 f2 f3 f4 f5 f6 : Addr) (d1 d2 d3 d4 d5 d6 : FuncData) : Prop where
  mak : Mk K C f1
  ini : x8 P w K mg base K1 n f1 d1 ["self", "goal", "rows", "bounds"] (a8t K C)
  inb : Binds K d1 ["self", "goal", "rows", "bounds"] []
  mC : mg "Board" = some (.ref C)
  com : a5A P w K mg base n C "coming" ["self"] (a4P C Pt) f2 d2
  goi : a5A P w K mg base n C "going" ["self", "column"] (a6j C) f3 d3
  exc : a5A P w K mg base n C "exchange" ["self", "row", "column"] (a2w C) f4 d4
  amt : a5A P w K mg base n C "amounts" ["self"] (a8J C) f5 d5
  wts : a5A P w K mg base n C "weights" ["self"] (b0m C) f6 d6
end
end Rim
namespace Rim
open PySem L2
section
variable {P : Program} {w : World} {K : W.Frag} {mg : Str -> Option Value} {base : Heap} {f Pt : Addr} {fd : FuncData} {n : Nat} {C : Addr}
end
end Rim
namespace Rim
open PySem L2
section
variable {P : Program} {w : World} {K : W.Frag} {mg : Str -> Option Value} {base : Heap} {f g : Addr} {fd gd : FuncData}
def a2L (K : W.Frag) : Sp := fun vs H Q _ => ∃ (a : Addr) (ns : List Int) (k : Int), vs = [.ref a, .int k] /\ SqL K H a (ns.map V.int) /\ 0 <= k /\ ∀ c : Int, Q (.int c) H
theorem a8M : p6 ["script", "k"] ["script", "k"] (h7 a4I) := ⟨rfl, rfl, rfl, by decide +kernel, rfl, by decide +kernel, by decide +kernel⟩
theorem a8I {ns : List Int} {k : Int} (h0 : 0 <= k) (h : k < ((ns.map V.int).length : Int)) : ∃ v : Int, S6 (ns.map V.int) k = some (.int v) := by
  have hl : (ns.map V.int).length = ns.length := List.length_map _
  have hk : k.toNat < ns.length := by lia
  have ek : k = ((k.toNat : Nat) : Int) := by lia
  have q : S6 (ns.map V.int) ((k.toNat : Nat) : Int) = some (.int ns[k.toNat]) := E2 (by rw [List.getElem?_map, List.getElem?_eq_getElem hk]; rfl)
  rw [<- ek] at q
  exact ⟨_, q⟩
theorem a6B {n : Nat} (F : Fun K "_law_cell_at" "_law_cell_at" a4I f fd) (T : y6 mg) : x8 P w K mg base K1 (n + 1) f fd ["script", "k"] (a2L K) := by
  refine F.ok a8M (fun vs H Q E h => ?_) (fun cdv A outer s H vs Q E hr h => ?_)
  . obtain ⟨a, ns, k, rfl, _⟩ := h
    rfl
  obtain ⟨a, ns, k, rfl, hS, h0, q⟩ := h
  refine ⟨_, h8 (u9 (j3 a2h (pv 1) (i7 j8 rfl T.len PySem.boot_len (c0 (pv 0) c7)) (o3 _)) (g0 (m6 (p7 j4 (pv 0) (pv 1) (fun _ _ => rfl)))) r6)
    (g0 (m6 d0)), ?_⟩
  refine ⟨_, rfl, _, rfl, a, _, rfl, .inl hS, _, _, rfl, rfl, _, rfl, ?_⟩
  refine A2 (fun c => ?_) (fun c => ?_)
  . obtain ⟨v, hv⟩ := a8I h0 (of_decide_eq_true c)
    exact ⟨_, rfl, _, rfl, a, _, _, _, rfl, rfl, hS, hv, q v⟩
  . exact q 0
def Z0 (K : W.Frag) : Sp := fun vs H Q _ => ∃ (c : Int) (many : Nat) (b : Int), vs = [.int c, .int (many : Int), .int b] /\ many <= 900 /\ 0 < b /\ b < 1073741824 ∧
  ∀ (r : Addr) (H' : Hp) (ds : List Int), Same H H' -> H' r = some (.lst (ds.map V.int)) -> ds.length = many -> (∀ d ∈ ds, 0 <= d /\ d < b) -> Q (.ref r) H'
theorem scDraws : p6 ["cell", "many", "base", "found", "rest", "stirred", "k"] ["cell", "many", "base"] (h7 a3b) := ⟨rfl, rfl, rfl, by decide +kernel, rfl, by decide +kernel, by decide +kernel⟩
theorem a4G {n : Nat} (F : Fun K "_law_draws" "_law_draws" a3b f fd) (T : y6 mg) : x8 P w K mg base K1 (n + 1) f fd ["cell", "many", "base"] (Z0 K) := by
  refine F.ok scDraws (fun vs H Q E h => ?_) (fun cdv A outer s H vs Q E hr h => ?_)
  . obtain ⟨a, ns, k, rfl, _⟩ := h
    rfl
  obtain ⟨c, many, b, rfl, hm, hb0, hb1, q⟩ := h
  refine ⟨_, h8 (r9 (i := 3) scDraws.nd rfl (Or.inl rfl) (w4 c7))
    (h8 (r9 (i := 4) scDraws.nd rfl (Or.inl rfl) (j0 K4 (pv 0) (t8 N8 rfl T.int PyProof.Rows.boot_int (c0 (M4 a9y (pv 0) (j0 T9 d0 d0) (o3 _)) c7))))
    (h8 (r9 (i := 5) scDraws.nd rfl (Or.inl rfl) (j0 t9 (pv 0) d0))
    (h8 (X1 PassesOwn.never rfl (R3 rfl T.range (c0 (j0 A8 (pv 1) d0) c7)) (j5 (i := 6) scDraws.nd rfl (Or.inl rfl))
      (h8 (r9 (i := 5) scDraws.nd rfl (Or.inl rfl) (j0 t9 (j0 A8 (j0 A8 (j0 A8 (j0 K4 (pv 5) (pv 5)) (j0 K4 d0 (pv 5))) (pv 6)) d0) d0))
        (g0 (u9 (PW.pt (Q6 (j3 P5 (pv 6) d0 (o3 _)) (M7 (j3 P5 (pv 4) d0 (o3 _)))))
          (h8 (V8 (E5 PySem.F.plainAttrs_list PySem.F.slot_list_append PySem.F.type_list_append K7 (pv 3) (c0 (j0 t9 (pv 4) (pv 2)) c7))) (g0 (r9 (i := 4) scDraws.nd rfl (Or.inl rfl) (j0 J3 (pv 4) (pv 2)))))
          (g0 (u9 (j3 P5 (pv 6) d0 (o3 _)) (g0 (V8 (E5 PySem.F.plainAttrs_list PySem.F.slot_list_append PySem.F.type_list_append K7 (pv 3) (c0 (j0 t9 (j0 J3 (pv 5) d0) (pv 2)) c7)))) r6))))))
    (g0 (m6 (pv 3)))))), ?_⟩
  refine ⟨(by show 0 <= sizeLine; decide), fun fl hfl => ?_⟩
  refine ⟨_, rfl, _, rfl, _, _, rfl, rfl, ⟨by decide, by decide, by decide⟩, _, _, rfl, rfl, .inr ⟨_, rfl, _, _, rfl, rfl, .inr ?_, ?_⟩⟩
  . constructor <;> (split <;> decide)
  refine ⟨_, rfl, _, _, rfl, rfl, (by show (0 : Int) < 2305843009213693951; decide), ?_⟩
  refine ⟨_, rfl, _, _, rfl, rfl, ((many : Int) + 3), rfl, by lia, by lia, ?_⟩
  have e3 : ((many : Int) + 3).toNat = many + 3 := by lia
  rw [e3]
  refine X5 (n := many + 3) (fun i σ H' => ∃ (r st : Int) (ds : List Int) (ks : Option V), σ = [some (.int c), some (.int (many : Int)), some (.int b), some (.ref fl), some (.int r), some (.int st), ks] /\ H' = upd H fl (.lst (ds.map V.int)) /\ ds.length = i - 3 /\ (∀ d ∈ ds, 0 <= d /\ d < b) /\ 0 <= st /\ st < 2305843009213693951)
    ⟨_, _, [], none, rfl, rfl, rfl, fun d hd => (by cases hd), Int.emod_nonneg _ (by decide), Int.emod_lt_of_pos _ (by decide)⟩ ?_ ?_
  . rintro i σ H' hi ⟨r, st, ds, ks, rfl, rfl, hl, hd, hs0, hs1⟩
    refine ⟨_, rfl, _, rfl, _, _, rfl, rfl, .inl ⟨by lia, by lia⟩, _, rfl, _, _, rfl, rfl, .inl ⟨by decide, by decide⟩, _, _, rfl, rfl, _, rfl, _, _, rfl, rfl, _, _, rfl, rfl, _, _, rfl, rfl, (by show (0 : Int) < 2305843009213693951; decide), ?_⟩
    have hs0' : 0 <= (st * st + 48271 * st + (0 + (i : Int)) + 1) % 2305843009213693951 := Int.emod_nonneg _ (by decide)
    have hs1' : (st * st + 48271 * st + (0 + (i : Int)) + 1) % 2305843009213693951 < 2305843009213693951 := Int.emod_lt_of_pos _ (by decide)
    refine ⟨_, rfl, _, _, rfl, rfl, _, rfl, ?_⟩
    have hz : (ds.map V.int).length < sizeLine := by rw [List.length_map]; exact v4 (by lia)
    have more : ∀ d : Int, (ds.map V.int) ++ [V.int d] = (ds ++ [d]).map V.int := fun d => by rw [List.map_append]; rfl
    have mem : ∀ d : Int, 0 <= d -> d < b -> ∀ d' ∈ ds ++ [d], 0 <= d' /\ d' < b := fun d h0 h1 d' hd' => by
      rcases List.mem_append.mp hd' with z | z
      . exact hd d' z
      . rw [List.mem_singleton.mp z]; exact ⟨h0, h1⟩
    refine A2 (fun c1 => ?_) (fun c1 => ?_)
    . have c1' : 2 < 0 + (i : Int) := of_decide_eq_true c1
      refine ⟨_, rfl, _, _, rfl, rfl, _, rfl, ?_⟩
      refine A2 (fun c2 => ?_) (fun c2 => ?_)
      . refine ⟨_, rfl, .inl ⟨rfl, _, SqL.of c6⟩, _, rfl, _, rfl, _, _, rfl, rfl, hb0, fl, _, _, rfl, rfl, c6, hz, ?_⟩
        refine ⟨_, rfl, _, rfl, _, _, rfl, rfl, ⟨hb0, hb1⟩, ?_⟩
        refine ⟨_, _, ds ++ [r % b], _, rfl, ?_, ?_, mem _ (Int.emod_nonneg _ (by lia)) (Int.emod_lt_of_pos _ hb0), hs0', hs1'⟩
        . rw [P4, more]
        . rw [List.length_append, List.length_singleton]; lia
      . refine ⟨_, rfl, _, _, rfl, rfl, _, rfl, ?_⟩
        refine A2 (fun c3 => ?_) (fun c3 => absurd c1 c3)
        refine ⟨_, rfl, .inl ⟨rfl, _, SqL.of c6⟩, _, rfl, _, _, rfl, rfl, ⟨by decide, by decide⟩, _, rfl, _, _, rfl, rfl, hb0, fl, _, _, rfl, rfl, c6, hz, ?_⟩
        refine ⟨_, _, ds ++ [(st * st + 48271 * st + (0 + (i : Int)) + 1) % 2305843009213693951 / 4096 % b], _, rfl, ?_, ?_, mem _ (Int.emod_nonneg _ (by lia)) (Int.emod_lt_of_pos _ hb0), hs0', hs1'⟩
        . rw [P4, more]
        . rw [List.length_append, List.length_singleton]; lia
    . have c1' : ¬ 2 < 0 + (i : Int) := of_decide_eq_false (Bool.eq_false_iff.mpr c1)
      refine D0 ?_
      refine ⟨_, rfl, _, _, rfl, rfl, _, rfl, ?_⟩
      refine A2 (fun c3 => absurd c3 c1) (fun c3 => ?_)
      exact ⟨_, _, ds, _, rfl, rfl, by lia, hd, hs0', hs1'⟩
  . intro σ H' hM_; refine D1 fun G_ hG_ => ?_; obtain ⟨r, st, ds, ks, rfl, rfl, hl, hd, _⟩ := hM_; subst hG_
    exact ⟨_, rfl, q fl _ ds (Same.new hfl _) c6 (by lia) hd⟩
end
end Rim
namespace Rim
open PySem L2
theorem V2 {n : Nat} {k : Int} (h0 : 0 <= k) (h1 : k < (n : Int)) : ixN n k = some k.toNat := by
  unfold ixN
  rw [if_pos h0, if_pos h1]
theorem a6y {α : Type} {xs : List α} {k : Int} (h0 : 0 <= k) (h1 : k < (xs.length : Int)) : ∃ v, v ∈ xs /\ S6 xs k = some v := by
  have hk : k.toNat < xs.length := by lia
  refine ⟨xs[k.toNat], List.getElem_mem hk, ?_⟩
  unfold S6
  rw [V2 h0 h1]
  exact List.getElem?_eq_getElem hk
theorem D2 {ns : List Int} {k : Int} (h0 : 0 <= k) (h1 : k < (ns.length : Int)) : ∃ v, v ∈ ns /\ S6 (ns.map V.int) k = some (.int v) := by
  obtain ⟨v, hv, e⟩ := a6y (xs := ns.map V.int) h0 (by rw [List.length_map]; exact h1)
  obtain ⟨n, hn, rfl⟩ := List.mem_map.mp hv
  exact ⟨n, hn, e⟩
theorem map_set {ns : List Int} {j : Nat} {v : Int} : (ns.map V.int).set j (.int v) = (ns.set j v).map V.int := by rw [List.map_set]
structure HG (far : Int) (kt kg : Nat) (h : h9) : Prop where
  lt : h.1.length = kt
  lg : h.2.length = kg
  t : ∀ x ∈ h.1, 1 <= x /\ x <= far
  g : ∀ x ∈ h.2, 0 <= x /\ x <= far
  p : ∃ x ∈ h.2, 0 < x
section
variable {P : Program} {w : World} {K : W.Frag} {mg : Str -> Option Value} {base : Heap} {f g : Addr} {fd gd : FuncData}
def a3a (K : W.Frag) : Sp := fun vs H Q _ => ∃ (v : V) (p : Addr) (far : Int) (h : h9) (ds : List Int) (kt kg : Nat), vs = [v, .ref p, .int far] /\ HS K H v h /\ HG far kt kg h /\ 1 <= kt /\ kt <= 4 /\ 1 <= kg /\ kg <= 4 /\ 1 <= far ∧
  SqL K H p (ds.map V.int) /\ 10 <= ds.length /\ (∀ d ∈ ds, 0 <= d) /\ ∀ (r : V) (H' : Hp) (h' : h9), Same H H' -> HS K H' r h' -> HG far kt kg h' -> Q r H'
theorem scNear : p6 ["house", "picks", "far", "takes", "gives", "by", "at"] ["house", "picks", "far"] (h7 a4Q) := ⟨rfl, rfl, rfl, by decide +kernel, rfl, by decide +kernel, by decide +kernel⟩
theorem a6T : (["take", "by"] : List Str).Nodup := by decide +kernel
theorem a7i : (["give", "by"] : List Str).Nodup := by decide +kernel
theorem a6V {n : Nat} (F : Fun K "_law_near" "_law_near" a4Q f fd) (T : y6 mg) : x8 P w K mg base K1 (n + 1) f fd ["house", "picks", "far"] (a3a K) := by
  refine F.ok scNear (fun vs H Q E h => ?_) (fun cdv A outer s H vs Q E hr h => ?_)
  . obtain ⟨v, p, far, h, ds, kt, kg, rfl, _⟩ := h
    rfl
  obtain ⟨v, pk, far, h, ds, kt, kg, rfl, ⟨a, t, gv, rfl, h0, h1, h2⟩, hG, kt1, kt4, kg1, kg4, hfar, hP, hd12, hd0, q⟩ := h
  refine ⟨_, h8 (E4 (pv 0) (G6 rfl (t6 (j5 (i := 3) scNear.nd rfl (Or.inl rfl)) (t6 (j5 (i := 4) scNear.nd rfl (Or.inl rfl)) C4))))
    (h8 (r9 (i := 5) scNear.nd rfl (Or.inr rfl) (p7 j4 (w4 (c0 d0 (c0 d0 (c0 d0 (c0 d0 c7))))) (j0 t9 (p7 j4 (pv 1) d0 (fun _ _ => rfl)) d0) (fun _ _ => rfl)))
    (j9 (u9 (j3 P5 (j0 K4 (i7 (R6 rfl) rfl T.max PyProof.Rows.boot_max (c0 (j0 a3y (pv 3) (pv 4)) c7)) (pv 5)) (pv 2) (o3 _)) (g0 (r9 (i := 5) scNear.nd rfl (Or.inr rfl) d0)) r6)
    (h8 (U2 (i := 3) ["take"] [5] scNear.nd rfl rfl rfl (O7 (pv 3)) (fun _ _ _ _ => j5 (i := 0) a6T rfl (Or.inl rfl)) (fun _ _ _ _ => j0 K4 (pv 0) (pv 1)))
    (h8 (U2 (i := 4) ["give"] [5] scNear.nd rfl rfl rfl (O7 (pv 4)) (fun _ _ _ _ => j5 (i := 0) a7i rfl (Or.inl rfl)) (fun _ _ _ _ => j0 K4 (pv 0) (pv 1)))
    (j9 (u9 (j3 G4 (j0 t9 (j0 J3 (p7 j4 (pv 1) d0 (fun _ _ => rfl)) d0) d0) d0 (o3 _))
      (h8 (r9 (i := 6) scNear.nd rfl (Or.inl rfl) (j0 t9 (p7 j4 (pv 1) d0 (fun _ _ => rfl)) (i7 j8 rfl T.len PySem.boot_len (c0 (pv 3) c7))))
        (g0 (E4 (i7 (R5 rfl) rfl T.min PyProof.Rows.boot_min (c0 (pv 2) (c0 (j0 A8 (j0 A8 (p7 j4 (pv 3) (pv 6) (fun _ _ => rfl)) (j0 t9 (j0 J3 (p7 j4 (pv 1) d0 (fun _ _ => rfl)) d0) d0)) d0) c7))) (a2B (pv 3) (pv 6) a0d)))) r6)
    (j9 (u9 (j3 G4 (j0 t9 (j0 J3 (p7 j4 (pv 1) d0 (fun _ _ => rfl)) d0) d0) d0 (o3 _))
      (h8 (r9 (i := 6) scNear.nd rfl (Or.inl rfl) (j0 t9 (p7 j4 (pv 1) d0 (fun _ _ => rfl)) (i7 j8 rfl T.len PySem.boot_len (c0 (pv 4) c7))))
        (g0 (E4 (i7 (R5 rfl) rfl T.min PyProof.Rows.boot_min (c0 (pv 2) (c0 (j0 A8 (p7 j4 (pv 4) (pv 6) (fun _ _ => rfl)) d0) c7))) (a2B (pv 4) (pv 6) a0d)))) r6)
    (g0 (m6 (N6 (c0 (t8 A9 rfl T.tuple PyProof.Rows.boot_tuple (c0 (pv 3) c7)) (c0 (t8 A9 rfl T.tuple PyProof.Rows.boot_tuple (c0 (pv 4) c7)) c7))))))))))), ?_⟩
  obtain ⟨d9, hd9, a9⟩ := D2 (ns := ds) (k := 9) (by decide) (by lia)
  obtain ⟨d8, hd8, a8⟩ := D2 (ns := ds) (k := 8) (by decide) (by lia)
  have p9 := hd0 d9 hd9
  have p8 := hd0 d8 hd8
  refine ⟨_, rfl, a, _, rfl, h0, rfl, _, _, rfl, _, _, rfl, rfl, ?_⟩
  refine ⟨(by show 4 <= sizeLine; decide), fun lp hlp => ?_⟩
  have s1 := Same.new hlp (.lst [V.int 1, V.int 1, V.int 2, V.int 3])
  obtain ⟨bv, hbv, abv⟩ := D2 (ns := [1, 1, 2, 3]) (k := d9 % 4) (by lia) (by show d9 % 4 < 4; lia)
  have hb : 1 <= bv /\ bv <= 3 := by
    simp at hbv
    rcases hbv with rfl | rfl | rfl <;> decide
  refine ⟨_, rfl, pk, _, 9, _, rfl, rfl, s1.seq hP, a9, _, _, rfl, rfl, (by show (0 : Int) < 4; decide), lp, _, _, _, rfl, rfl, SqL.of c6, abv, ?_⟩
  have l1 : (h.1.map V.int).length = kt := by rw [List.length_map]; exact hG.lt
  have l2 : (h.2.map V.int).length = kg := by rw [List.length_map]; exact hG.lg
  have hne : h.1 ++ h.2 ≠ [] := fun z => by
    have := congrArg List.length z
    rw [List.length_append, hG.lt] at this
    simp at this
    lia
  refine ⟨fun σ' H' => ∃ b : Int, σ' = [some (.ref a), some (.ref pk), some (.int far), some (.ref t), some (.ref gv), some (.int b), none] /\ Same H H' /\ (1 <= b /\ b <= 3) /\ ∀ x ∈ h.1 ++ h.2, x * b <= far, ?_, ?_⟩
  . refine ⟨_, rfl, _, rfl, t, gv, _, _, rfl, rfl, s1.tseq h1, s1.tseq h2, ?_, ?_, ?_, ?_⟩
    . intro z; rw [z] at l1; simp at l1; lia
    . rw [l1, l2]; exact Nat.le_of_lt (v4 (by lia))
    . intro z; rw [z] at l2; simp at l2; lia
    . intro _ pc hpc
      have s2 := Same.new hpc (.tup (h.1.map V.int ++ h.2.map V.int))
      refine ⟨pc, h.1 ++ h.2, rfl, .inr (SqT.of (by rw [c6, List.map_append])), hne, fun M hM hMx => ?_⟩
      refine ⟨_, rfl, _, _, rfl, rfl, .inr ⟨by lia, by lia⟩, _, rfl, _, _, rfl, rfl, _, rfl, ?_⟩
      refine A2 (fun c => ?_) (fun c => ?_)
      . refine ⟨1, rfl, s1.trans s2, by decide, fun x hx => ?_⟩
        rcases List.mem_append.mp hx with z | z
        . have := hG.t x z; lia
        . have := hG.g x z; lia
      . have c' : ¬ far < M * bv := of_decide_eq_false (Bool.eq_false_iff.mpr c)
        refine ⟨bv, rfl, s1.trans s2, hb, fun x hx => ?_⟩
        have := Int.mul_le_mul_of_nonneg_right (hMx x hx) (show 0 <= bv by lia)
        lia
  intro σ' H2 hM_; refine D1 fun G_ hG_ => ?_; obtain ⟨b, rfl, e2, hb, hbx⟩ := hM_; subst hG_
  have mulok : CMul = CMul := rfl
  refine ⟨_, rfl, t, rfl, ⟨_, e2.tseq h1⟩, fun tl htl => ?_⟩
  refine N2 (J7 (e2.tseq h1)) htl (by rw [l1]; exact v4 (by lia)) (fun x => .int (vI x * b)) (fun i x H' N hx e hN => ?_) ?_
  . obtain ⟨k, rfl⟩ := G5 hx
    exact ⟨Wk.set (by decide), _, rfl, _, rfl, _, _, rfl, rfl, .inr ⟨by lia, by lia⟩, hN⟩
  have e3 := e2.write (o := .lst ((h.1.map V.int).map fun x => .int (vI x * b))) (e2.free htl)
  refine ⟨_, rfl, gv, rfl, ⟨_, e3.tseq h2⟩, fun gl hgl => ?_⟩
  refine N2 (J7 (e3.tseq h2)) hgl (by rw [l2]; exact v4 (by lia)) (fun x => .int (vI x * b)) (fun i x H' N hx e hN => ?_) ?_
  . obtain ⟨k, rfl⟩ := G5 hx
    exact ⟨Wk.set (by decide), _, rfl, _, rfl, _, _, rfl, rfl, .inr ⟨by lia, by lia⟩, hN⟩
  have eA : (h.1.map V.int).map (fun x => V.int (vI x * b)) = (h.1.map (· * b)).map V.int := by rw [List.map_map, List.map_map]; rfl
  have eB : (h.2.map V.int).map (fun x => V.int (vI x * b)) = (h.2.map (· * b)).map V.int := by rw [List.map_map, List.map_map]; rfl
  have ftl : H tl = none := e2.free htl
  have fgl : H gl = none := e3.free hgl
  have ne1 : tl ≠ gl := fun z => by rw [<- z, c6] at hgl; cases hgl
  rw [eA, eB]
  rw [eA] at e3
  have e4 := e3.write (o := .lst ((h.2.map (· * b)).map V.int)) fgl
  have at4 : upd (upd H2 tl (.lst ((h.1.map (· * b)).map V.int))) gl (.lst ((h.2.map (· * b)).map V.int)) tl = some (.lst ((h.1.map (· * b)).map V.int)) := by rw [j6 ne1, c6]
  have ag4 : upd (upd H2 tl (.lst ((h.1.map (· * b)).map V.int))) gl (.lst ((h.2.map (· * b)).map V.int)) gl = some (.lst ((h.2.map (· * b)).map V.int)) := c6
  generalize upd (upd H2 tl (.lst ((h.1.map (· * b)).map V.int))) gl (.lst ((h.2.map (· * b)).map V.int)) = H4 at e4 at4 ag4 ⊢
  have tA : ∀ x ∈ h.1.map (· * b), 1 <= x /\ x <= far := fun x hx => by
    obtain ⟨y, hy, rfl⟩ := List.mem_map.mp hx
    have y1 := (hG.t y hy).1
    have y2 := hbx y (List.mem_append_left _ hy)
    have y3 := Int.mul_le_mul y1 hb.1 (by decide) (by lia)
    exact ⟨by simpa using y3, y2⟩
  have tB : ∀ x ∈ h.2.map (· * b), 0 <= x /\ x <= far := fun x hx => by
    obtain ⟨y, hy, rfl⟩ := List.mem_map.mp hx
    exact ⟨Int.mul_nonneg (hG.g y hy).1 (by lia), hbx y (List.mem_append_right _ hy)⟩
  have tP : ∃ x ∈ h.2.map (· * b), 0 < x := by
    obtain ⟨y, hy, y0⟩ := hG.p
    exact ⟨y * b, List.mem_map.mpr ⟨y, hy, rfl⟩, Int.mul_pos y0 (by lia)⟩
  have lA : (h.1.map (· * b)).length = kt := by rw [List.length_map]; exact hG.lt
  have lB : (h.2.map (· * b)).length = kg := by rw [List.length_map]; exact hG.lg
  generalize h.1.map (· * b) = A0 at tA lA at4
  generalize h.2.map (· * b) = B0 at tB lB tP ag4
  refine ⟨fun σ' H' => ∃ (A1 : List Int) (ks : Option V), σ' = [some (.ref a), some (.ref pk), some (.int far), some (.ref tl), some (.ref gl), some (.int b), ks] /\ Same H H' /\ H' tl = some (.lst (A1.map V.int)) /\ H' gl = some (.lst (B0.map V.int)) /\ A1.length = kt /\ ∀ x ∈ A1, 1 <= x /\ x <= far, ?_, ?_⟩
  . refine ⟨_, rfl, pk, _, 9, _, rfl, rfl, e4.seq hP, a9, _, _, rfl, rfl, ⟨by decide, by decide⟩, _, _, rfl, rfl, (by show (0 : Int) < 3; decide), rfl, _, rfl, ?_⟩
    refine A2 (fun c => ?_) (fun c => ⟨A0, none, rfl, e4, at4, ag4, lA, tA⟩)
    have lA' : (A0.map V.int).length = kt := by rw [List.length_map]; exact lA
    refine ⟨_, rfl, pk, _, 8, _, rfl, rfl, e4.seq hP, a8, _, rfl, tl, _, rfl, .inl (SqL.of at4), _, _, rfl, rfl, (by show (0 : Int) < ((A0.map V.int).length : Int); rw [lA']; lia), ?_⟩
    have r0 : 0 <= d8 % ((A0.map V.int).length : Int) := Int.emod_nonneg _ (by rw [lA']; lia)
    have r1 : d8 % ((A0.map V.int).length : Int) < ((A0.map V.int).length : Int) := Int.emod_lt_of_pos _ (by rw [lA']; lia)
    obtain ⟨x, hx, ax⟩ := D2 (ns := A0) (k := d8 % ((A0.map V.int).length : Int)) r0 (by rw [List.length_map] at r1 ⊢; exact r1)
    have hx1 := tA x hx
    refine ⟨_, rfl, _, rfl, _, rfl, tl, _, _, _, rfl, rfl, SqL.of at4, ax, _, rfl, pk, _, 9, _, rfl, rfl, e4.seq hP, a9, _, _, rfl, rfl, ⟨by decide, by decide⟩, _, _, rfl, rfl, (by show (0 : Int) < 2; decide), _, _, rfl, rfl, _, _, rfl, rfl, _, _, rfl, ?_⟩
    refine ⟨_, rfl, _, rfl, tl, _, _, _, rfl, rfl, at4, V2 r0 r1, ?_⟩
    refine ⟨A0.set (d8 % ((A0.map V.int).length : Int)).toNat _, _, rfl, e4.write ftl, by rw [c6, map_set], by rw [j6 (Ne.symm ne1)]; exact ag4, by rw [List.length_set]; exact lA, fun y hy => ?_⟩
    rcases List.mem_or_eq_of_mem_set hy with z | z
    . exact tA y z
    . rw [z]
      split <;> lia
  intro σ' H5 hM_; refine D1 fun G_ hG_ => ?_; obtain ⟨A1, ks, rfl, e5, at5, ag5, lA1, tA1⟩ := hM_; subst hG_
  refine ⟨fun σ' H' => ∃ (B1 : List Int) (ks : Option V), σ' = [some (.ref a), some (.ref pk), some (.int far), some (.ref tl), some (.ref gl), some (.int b), ks] /\ Same H H' /\ H' tl = some (.lst (A1.map V.int)) /\ H' gl = some (.lst (B1.map V.int)) /\ B1.length = kg /\ (∀ x ∈ B1, 0 <= x /\ x <= far) /\ ∃ x ∈ B1, 0 < x, ?_, ?_⟩
  . refine ⟨_, rfl, pk, _, 9, _, rfl, rfl, e5.seq hP, a9, _, _, rfl, rfl, ⟨by decide, by decide⟩, _, _, rfl, rfl, (by show (0 : Int) < 3; decide), rfl, _, rfl, ?_⟩
    refine A2 (fun c => ?_) (fun c => ⟨B0, ks, rfl, e5, at5, ag5, lB, tB, tP⟩)
    have lB' : (B0.map V.int).length = kg := by rw [List.length_map]; exact lB
    refine ⟨_, rfl, pk, _, 8, _, rfl, rfl, e5.seq hP, a8, _, rfl, gl, _, rfl, .inl (SqL.of ag5), _, _, rfl, rfl, (by show (0 : Int) < ((B0.map V.int).length : Int); rw [lB']; lia), ?_⟩
    have r0 : 0 <= d8 % ((B0.map V.int).length : Int) := Int.emod_nonneg _ (by rw [lB']; lia)
    have r1 : d8 % ((B0.map V.int).length : Int) < ((B0.map V.int).length : Int) := Int.emod_lt_of_pos _ (by rw [lB']; lia)
    obtain ⟨x, hx, ax⟩ := D2 (ns := B0) (k := d8 % ((B0.map V.int).length : Int)) r0 (by rw [List.length_map] at r1 ⊢; exact r1)
    have hx1 := tB x hx
    refine ⟨_, rfl, _, rfl, _, rfl, gl, _, _, _, rfl, rfl, SqL.of ag5, ax, _, _, rfl, rfl, _, _, rfl, ?_⟩
    refine ⟨_, rfl, _, rfl, gl, _, _, _, rfl, rfl, ag5, V2 r0 r1, ?_⟩
    have rn : (d8 % ((B0.map V.int).length : Int)).toNat < B0.length := by rw [List.length_map] at r1 ⊢; lia
    refine ⟨B0.set (d8 % ((B0.map V.int).length : Int)).toNat _, _, rfl, e5.write fgl, by rw [j6 ne1]; exact at5, by rw [c6, map_set], by rw [List.length_set]; exact lB, fun y hy => ?_, _, List.mem_set rn _, ?_⟩
    . rcases List.mem_or_eq_of_mem_set hy with z | z
      . exact tB y z
      . rw [z]
        split <;> lia
    . split <;> lia
  intro σ' H6 hM_; refine D1 fun G_ hG_ => ?_; obtain ⟨B1, ks, rfl, e6, at6, ag6, lB1, tB1, tP1⟩ := hM_; subst hG_
  refine ⟨_, rfl, tl, _, rfl, .inl ⟨SqL.of at6, fun pt hpt => ?_⟩⟩
  have f1 := Same.new hpt (.tup (A1.map V.int))
  refine ⟨_, rfl, gl, _, rfl, .inl ⟨SqL.of (f1 _ _ ag6), fun pg hpg => ?_⟩⟩
  have f2 := Same.new hpg (.tup (B1.map V.int))
  refine ⟨(by show 2 <= sizeLine; decide), fun pr hpr => ?_⟩
  have f3 := Same.new hpr (.tup [V.ref pt, V.ref pg])
  exact q _ _ (A1, B1) (e6.trans (f1.trans (f2.trans f3))) ⟨pr, pt, pg, rfl, SqT.of c6, SqT.of (f3 _ _ (f2 _ _ c6)), SqT.of (f3 _ _ c6)⟩ ⟨lA1, lB1, tA1, tB1, tP1⟩
end
end Rim
namespace L2
open PySem
def Keep (H H' : Hp) : Prop := ∀ b o, H b = some o -> (∀ xs, o ≠ .lst xs) -> H' b = some o
theorem Keep.upd {H : Hp} {b : Addr} {ys : List V} {o : HO} (h : H b = some (.lst ys)) : Keep H (upd H b o) := fun c u q n => by
  have : c ≠ b := fun z => by rw [z, h] at q; exact n ys (Option.some.inj q).symm
  rw [j6 this]; exact q
theorem Keep.tseq {K : W.Frag} {H H' : Hp} {a : Addr} {xs : List V} (e : Keep H H') (h : SqT K H a xs) : SqT K H' a xs := by
  rcases h with (h | ⟨o, h⟩) | h
  . exact .inl (.inl (e _ _ h (fun _ z => nomatch z)))
  . exact .inl (.inr ⟨o, e _ _ h (fun _ z => nomatch z)⟩)
  . exact .inr h
end L2
namespace Rim
open PySem L2
theorem HS.keep {K : W.Frag} {H H' : Hp} {v : V} {h : h9} (e : Keep H H') (x : HS K H v h) : HS K H' v h := by
  obtain ⟨a, t, g, h0, h1, h2, h3⟩ := x
  exact ⟨a, t, g, h0, e.tseq h1, e.tseq h2, e.tseq h3⟩
theorem Bk.keep {K : W.Frag} {H H' : Hp} {vs : List V} {hs : List h9} (e : Keep H H') (x : Bk K H vs hs) : Bk K H' vs hs := Paired.imp' (fun _ _ r => HS.keep e r) x
def a3J (ns : List Int) : PyData := .tuple (ns.map PyData.int)
def C6 (h : h9) : PyData := .tuple [a3J h.1, a3J h.2]
theorem a0q {K : W.Frag} {H : Hp} : ∀ ns : List Int, Dps K H (ns.map V.int) (ns.map PyData.int)
  | [] => .nil
  | n :: r => .cons (.int n) (a0q r)
theorem HS.dp {K : W.Frag} {H : Hp} {v : V} {h : h9} (x : HS K H v h) : Dp K H v (C6 h) := by
  obtain ⟨a, t, g, rfl, h1, h2, h3⟩ := x
  exact .tup h1 (.cons (.tup h2 (a0q _)) (.cons (.tup h3 (a0q _)) .nil))
theorem Bk.dps {K : W.Frag} {H : Hp} : ∀ {vs : List V} {hs : List h9}, Bk K H vs hs -> Dps K H vs (hs.map C6)
  | _, _, .nil => .nil
  | _, _, .cons x r => .cons x.dp (Bk.dps r)
theorem a0b : ∀ ns : List Int, PyData.canLayAll0 (ns.map PyData.int) = true
  | [] => by rw [List.map_nil, PyData.canLayAll0]
  | n :: r => by rw [List.map_cons, PyData.canLayAll0, a0b r, PyData.canLay0]; rfl
theorem R7 (h : h9) : (C6 h).canLay0 = true := by
  unfold C6 a3J
  rw [PyData.canLay0, PyData.canLayAll0, PyData.canLay0, a0b, PyData.canLayAll0, PyData.canLay0, a0b, PyData.canLayAll0]; rfl
theorem a0g : ∀ hs : List h9, PyData.canLayAll0 (hs.map C6) = true
  | [] => by rw [List.map_nil, PyData.canLayAll0]
  | h :: r => by rw [List.map_cons, PyData.canLayAll0, R7, a0g r]; rfl
section
variable {P : Program} {w : World} {K : W.Frag} {mg : Str -> Option Value} {base : Heap} {f g : Addr} {fd gd : FuncData}
def a3E (K : W.Frag) : Sp := fun vs H Q _ => ∃ (a : Addr) (ns : List Int) (at' most far : Int), vs = [.ref a, .int at', .int most, .int far] /\ SqL K H a (ns.map V.int) /\ 0 <= at' /\ 1 <= most /\ most <= 900 /\ 1 <= far ∧
  ∀ (r : Addr) (H' : Hp) (xs : List V) (hs : List h9) (kt kg : Nat), Same H H' -> H' r = some (.lst xs) -> Bk K H' xs hs -> 1 <= hs.length -> (hs.length : Int) <= most -> 1 <= kt -> kt <= 4 -> 1 <= kg -> kg <= 4 -> (∀ h ∈ hs, HG far kt kg h) -> Q (.ref r) H'
theorem scABook : p6 ["script", "at", "most", "far", "heads", "kinds", "many", "size", "book", "k", "picks", "takes", "some", "gives", "house"] ["script", "at", "most", "far"] (h7 X2) := ⟨rfl, rfl, rfl, by decide +kernel, rfl, by decide +kernel, by decide +kernel⟩
theorem a3i : (["pick", "size"] : List Str).Nodup := by decide +kernel
set_option maxHeartbeats 4000000 in
noncomputable def abT {n : Nat} {fc fw fn : Addr} {dc dw dn : FuncData} {cdv : Value} {A : Around} {outer : List Env} {s : Shared} {H : Hp} {E : XK} (T : y6 mg)
    (Gc : x8 P w K mg base K1 n fc dc ["script", "k"] (a2L K)) (bc : Binds K dc ["script", "k"] []) (kc : W.keepIn K (.ref fc) = true) (mc : mg "_law_cell_at" = some (.ref fc))
    (Gw : x8 P w K mg base K1 n fw dw ["cell", "many", "base"] (Z0 K)) (bw : Binds K dw ["cell", "many", "base"] []) (kw : W.keepIn K (.ref fw) = true) (mw : mg "_law_draws" = some (.ref fw))
    (Gn : x8 P w K mg base K1 n fn dn ["house", "picks", "far"] (a3a K)) (bn : Binds K dn ["house", "picks", "far"] []) (kn : W.keepIn K (.ref fn) = true) (mn : mg "_law_near" = some (.ref fn))
    (hr : Room n (A.deeper (PyProof.Rows.envOfC "_law_a_book" (h7 X2) s.heap.objs.size f cdv))) :
    { t : TS // PSs (M2 K1 P w K mg base ["script", "at", "most", "far", "heads", "kinds", "many", "size", "book", "k", "picks", "takes", "some", "gives", "house"] "_law_a_book" (h7 X2) f cdv A outer s H E).nox (x6 X2) t } :=
  ⟨_, h8 (r9 (i := 4) scABook.nd rfl (Or.inl rfl) (r8 Gw hr rfl mw kw bw .nil x9 (c0 (r8 Gc hr rfl mc kc bc .nil x9 (c0 (pv 0) (c0 (pv 1) c7))) (c0 d0 (c0 d0 c7)))))
    (j9 (r9 (i := 5) scABook.nd rfl (Or.inl rfl) (w4 (c0 (j0 A8 d0 (j0 t9 (p7 j4 (pv 4) d0 (fun _ _ => rfl)) (p7 j4 (w4 (c0 d0 (c0 d0 c7))) (j0 t9 (p7 j4 (pv 4) d0 (fun _ _ => rfl)) d0) (fun _ _ => rfl))))
      (c0 (j0 A8 d0 (j0 t9 (p7 j4 (pv 4) d0 (fun _ _ => rfl)) (p7 j4 (w4 (c0 d0 (c0 d0 c7))) (j0 t9 (p7 j4 (pv 4) d0 (fun _ _ => rfl)) d0) (fun _ _ => rfl)))) c7))))
    (j9 (r9 (i := 6) scABook.nd rfl (Or.inl rfl) (j0 A8 d0 (j0 t9 (p7 j4 (pv 4) d0 (fun _ _ => rfl)) (p7 j4 (w4 (c0 (pv 2) (c0 (i7 (R5 rfl) rfl T.min PyProof.Rows.boot_min (c0 (pv 2) (c0 d0 c7))) c7))) (j0 J3 (j0 t9 (p7 j4 (pv 4) d0 (fun _ _ => rfl)) d0) d0) (fun _ _ => rfl)))))
    (j9 (r9 (i := 7) scABook.nd rfl (Or.inr rfl) (i7 (R5 rfl) rfl T.min PyProof.Rows.boot_min (c0 (pv 3) (c0 (p7 j4 (w4 (c0 d0 (c0 d0 (c0 d0 (c0 d0 (c0 (j0 T9 d0 d0) c7)))))) (j0 t9 (p7 j4 (pv 4) d0 (fun _ _ => rfl)) d0) (fun _ _ => rfl)) c7))))
    (h8 (r9 (i := 8) scABook.nd rfl (Or.inl rfl) (w4 c7))
    (h8 (X1 PassesOwn.never rfl (R3 rfl T.range (c0 (pv 6) c7)) (j5 (i := 9) scABook.nd rfl (Or.inl rfl))
      (j9 (r9 (i := 10) scABook.nd rfl (Or.inl rfl) (r8 Gw hr rfl mw kw bw .nil x9 (c0 (j0 A8 (r8 Gc hr rfl mc kc bc .nil x9 (c0 (pv 0) (c0 (j0 A8 (pv 1) d0) c7))) (j0 K4 (pv 9) (j0 A8 (p7 j4 (pv 4) d0 (fun _ _ => rfl)) d0))) (c0 d0 (c0 (j0 T9 d0 d0) c7)))))
      (j9 (r9 (i := 11) scABook.nd rfl (Or.inl rfl) (t8 A9 rfl T.tuple PyProof.Rows.boot_tuple (c0 (N9 ["pick"] [7] rfl (C0 (A5 M6 (pv 10) E1 (A4 (p7 j4 (pv 5) d0 (fun _ _ => rfl))))) (fun _ _ _ _ => j5 (i := 0) a3i rfl (Or.inl rfl)) (fun _ _ _ _ => j0 A8 d0 (j0 t9 (pv 0) (pv 1)))) c7)))
      (h8 (r9 (i := 12) scABook.nd rfl (Or.inl rfl) (A5 M6 (pv 10) (A4 d0) (A4 (j0 A8 d0 (p7 j4 (pv 5) d0 (fun _ _ => rfl))))))
      (j9 (U2 (i := 13) ["pick"] [7] scABook.nd rfl rfl rfl (C0 (pv 12)) (fun _ _ _ _ => j5 (i := 0) a3i rfl (Or.inl rfl)) (fun _ _ _ _ => j0 K4 (j0 t9 (pv 0) (j0 A8 (pv 1) d0)) (t8 N8 rfl T.int PyProof.Rows.boot_int (c0 (M4 P5 (j0 t9 (pv 0) d0) d0 (o3 _)) c7))))
      (j9 (u9 (j3 G4 (i7 (R6 rfl) rfl T.max PyProof.Rows.boot_max (c0 (pv 13) c7)) d0 (o3 _)) (g0 (E4 (j0 A8 d0 (j0 t9 (p7 j4 (pv 10) d0 (fun _ _ => rfl)) (pv 7))) (a2B (pv 13) (j0 t9 (p7 j4 (pv 10) d0 (fun _ _ => rfl)) (p7 j4 (pv 5) d0 (fun _ _ => rfl))) a0d))) r6)
      (j9 (r9 (i := 14) scABook.nd rfl (Or.inl rfl) (N6 (c0 (pv 11) (c0 (t8 A9 rfl T.tuple PyProof.Rows.boot_tuple (c0 (pv 13) c7)) c7))))
      (j9 (u9 (PW.pt (Q6 (j3 (P7 hr) (pv 8) (w4 c7) (o3 _)) (M7 (j3 G4 (j0 t9 (p7 j4 (pv 10) d0 (fun _ _ => rfl)) d0) d0 (o3 _)))))
        (g0 (r9 (i := 14) scABook.nd rfl (Or.inl rfl) (r8 Gn hr rfl mn kn bn .nil x9 (c0 (p7 j4 (pv 8) (j0 t9 (p7 j4 (pv 10) d0 (fun _ _ => rfl)) (i7 j8 rfl T.len PySem.boot_len (c0 (pv 8) c7))) (fun _ _ => rfl)) (c0 (pv 10) (c0 (pv 3) c7)))))) r6)
      (g0 (V8 (E5 PySem.F.plainAttrs_list PySem.F.slot_list_append PySem.F.type_list_append K7 (pv 8) (c0 (pv 14) c7))))))))))))
    (g0 (m6 (pv 8))))))))⟩
end
end Rim
namespace Rim
open PySem L2
section
variable {P : Program} {w : World} {K : W.Frag} {mg : Str -> Option Value} {base : Heap} {f g : Addr} {fd gd : FuncData}
set_option maxHeartbeats 4000000 in
theorem a4U {n : Nat} {fc fw fn : Addr} {dc dw dn : FuncData} (F : Fun K "_law_a_book" "_law_a_book" X2 f fd) (T : y6 mg)
    (Gc : x8 P w K mg base K1 n fc dc ["script", "k"] (a2L K)) (bc : Binds K dc ["script", "k"] []) (kc : W.keepIn K (.ref fc) = true) (mc : mg "_law_cell_at" = some (.ref fc))
    (Gw : x8 P w K mg base K1 n fw dw ["cell", "many", "base"] (Z0 K)) (bw : Binds K dw ["cell", "many", "base"] []) (kw : W.keepIn K (.ref fw) = true) (mw : mg "_law_draws" = some (.ref fw))
    (Gn : x8 P w K mg base K1 n fn dn ["house", "picks", "far"] (a3a K)) (bn : Binds K dn ["house", "picks", "far"] []) (kn : W.keepIn K (.ref fn) = true) (mn : mg "_law_near" = some (.ref fn)) :
    x8 P w K mg base K1 (n + 1) f fd ["script", "at", "most", "far"] (a3E K) := by
  refine F.ok scABook (fun vs H Q E h => ?_) (fun cdv A outer s H vs Q E hr h => ?_)
  . obtain ⟨a, ns, at', most, far, rfl, _⟩ := h
    rfl
  obtain ⟨a, ns, at', most, far, rfl, hS, hat, hm1, hm2, hfar, q⟩ := h
  refine ⟨_, (abT T Gc bc kc mc Gw bw kw mw Gn bn kn mn hr).2, ?_⟩
  refine ⟨_, rfl, _, rfl, a, ns, at', rfl, hS, hat, fun c => ⟨c, 8, 1000, rfl, by decide, by decide, by decide, fun hl H1 hd e1 hH1 hlen hb => ?_⟩⟩
  have hd' : ∀ k : Int, 0 <= k -> k < 8 -> ∃ v, v ∈ hd /\ S6 (hd.map V.int) k = some (.int v) := fun k k0 k1 => D2 k0 (by lia)
  obtain ⟨x0, m0, a0⟩ := hd' 0 (by decide) (by decide)
  obtain ⟨x1, m1, a1⟩ := hd' 1 (by decide) (by decide)
  obtain ⟨x2, m2, a2⟩ := hd' 2 (by decide) (by decide)
  obtain ⟨x3, m3, a3⟩ := hd' 3 (by decide) (by decide)
  obtain ⟨x4, m4, a4⟩ := hd' 4 (by decide) (by decide)
  obtain ⟨x5, m5, a5⟩ := hd' 5 (by decide) (by decide)
  obtain ⟨x7, m7, a7⟩ := hd' 7 (by decide) (by decide)
  have b0 := hb x0 m0; have b1 := hb x1 m1; have b2 := hb x2 m2; have b3 := hb x3 m3; have b4 := hb x4 m4; have b5 := hb x5 m5; have b7 := hb x7 m7
  -- kinds
  refine ⟨fun σ' H' => ∃ (kl : Addr) (kt kg : Nat), σ' = [some (.ref a), some (.int at'), some (.int most), some (.int far), some (.ref hl), some (.ref kl), none, none, none, none, none, none, none, none, none] /\ Same H1 H' /\ H' kl = some (.lst [.int (kt : Int), .int (kg : Int)]) /\ 1 <= kt /\ kt <= 4 /\ 1 <= kg /\ kg <= 4, ?_, ?_⟩
  . have two : ∀ y : Int, 0 <= y -> ∃ z : Int, (z = 4 \/ z = 2) /\ S6 [V.int 4, V.int 2] (y % 2) = some (.int z) := fun y hy => by
      obtain ⟨z, hz, az⟩ := D2 (ns := [4, 2]) (k := y % 2) (by lia) (by show y % 2 < 2; lia)
      exact ⟨z, by simpa using hz, az⟩
    obtain ⟨z1, hz1, az1⟩ := two x2 b2.1
    refine ⟨_, rfl, hl, _, 0, _, rfl, rfl, SqL.of hH1, a0, (by show 2 <= sizeLine; decide), fun l1 hl1 => ?_⟩
    have s1 := Same.new hl1 (.lst [V.int 4, V.int 2])
    refine ⟨_, rfl, hl, _, 2, _, rfl, rfl, SqL.of (s1 _ _ hH1), a2, _, _, rfl, rfl, (by show (0 : Int) < 2; decide), l1, _, _, _, rfl, rfl, SqL.of c6, az1, _, _, rfl, rfl, (by show (0 : Int) < z1; lia), _, _, rfl, rfl, ?_⟩
    refine ⟨_, rfl, hl, _, 1, _, rfl, rfl, SqL.of (s1 _ _ hH1), a1, (by show 2 <= sizeLine; decide), fun l2 hl2 => ?_⟩
    have s2 := Same.new hl2 (.lst [V.int 4, V.int 2])
    refine ⟨_, rfl, hl, _, 2, _, rfl, rfl, SqL.of (s2 _ _ (s1 _ _ hH1)), a2, _, _, rfl, rfl, (by show (0 : Int) < 2; decide), l2, _, _, _, rfl, rfl, SqL.of c6, az1, _, _, rfl, rfl, (by show (0 : Int) < z1; lia), _, _, rfl, rfl, ?_⟩
    refine ⟨(by show 2 <= sizeLine; decide), fun kl hkl => ?_⟩
    have s3 := Same.new hkl (.lst [V.int (1 + x0 % z1), V.int (1 + x1 % z1)])
    have p0 : 0 <= x0 % z1 /\ x0 % z1 < z1 := ⟨Int.emod_nonneg _ (by lia), Int.emod_lt_of_pos _ (by lia)⟩
    have p1 : 0 <= x1 % z1 /\ x1 % z1 < z1 := ⟨Int.emod_nonneg _ (by lia), Int.emod_lt_of_pos _ (by lia)⟩
    refine ⟨kl, (1 + x0 % z1).toNat, (1 + x1 % z1).toNat, rfl, s1.trans (s2.trans s3), ?_, by lia, by lia, by lia, by lia⟩
    rw [c6, Int.toNat_of_nonneg (by lia), Int.toNat_of_nonneg (by lia)]
  intro σ' H2 hM_; refine D1 fun G_ hG_ => ?_; obtain ⟨kl, kt, kg, rfl, e2, hkl, kt1, kt4, kg1, kg4⟩ := hM_; subst hG_
  have hh2 := e2 _ _ hH1
  -- many
  refine ⟨fun σ' H' => ∃ (many : Nat), σ' = [some (.ref a), some (.int at'), some (.int most), some (.int far), some (.ref hl), some (.ref kl), some (.int (many : Int)), none, none, none, none, none, none, none, none] /\ Same H2 H' /\ 1 <= many /\ (many : Int) <= most, ?_, ?_⟩
  . refine ⟨_, rfl, hl, _, 3, _, rfl, rfl, SqL.of hh2, a3, _, rfl, _, rfl, _, _, rfl, (by show 2 <= sizeLine; decide), fun l1 hl1 => ?_⟩
    have s1 := Same.new hl1 (.lst [V.int most, V.int (if 4 < most then 4 else most)])
    obtain ⟨z, hz, az⟩ := D2 (ns := [most, if 4 < most then 4 else most]) (k := x4 % 3 / 2) (by lia) (by show x4 % 3 / 2 < 2; lia)
    have hz' : 1 <= z /\ z <= most := by
      simp only [List.mem_cons, List.not_mem_nil, or_false] at hz
      rcases hz with rfl | rfl
      . lia
      . split <;> lia
    refine ⟨_, rfl, hl, _, 4, _, rfl, rfl, SqL.of (s1 _ _ hh2), a4, _, _, rfl, rfl, (by show (0 : Int) < 3; decide), _, _, rfl, rfl, ⟨by decide, by decide⟩, l1, _, _, _, rfl, rfl, SqL.of c6, az, _, _, rfl, rfl, (by show (0 : Int) < z; lia), _, _, rfl, rfl, ?_⟩
    have p0 : 0 <= x3 % z /\ x3 % z < z := ⟨Int.emod_nonneg _ (by lia), Int.emod_lt_of_pos _ (by lia)⟩
    refine ⟨(1 + x3 % z).toNat, ?_, s1, by lia, by lia⟩
    rw [Int.toNat_of_nonneg (by lia)]
    rfl
  intro σ' H3 hM_; refine D1 fun G_ hG_ => ?_; obtain ⟨many, rfl, e3, mn1, mn2⟩ := hM_; subst hG_
  have hh3 := e3 _ _ hh2
  have hk3 := e3 _ _ hkl
  -- size
  refine ⟨fun σ' H' => ∃ (size : Int), σ' = [some (.ref a), some (.int at'), some (.int most), some (.int far), some (.ref hl), some (.ref kl), some (.int (many : Int)), some (.int size), none, none, none, none, none, none, none] /\ Same H3 H' /\ 1 <= size /\ size <= far /\ size <= 1000000000, ?_, ?_⟩
  . refine ⟨_, rfl, _, _, rfl, rfl, ⟨by decide, by decide, by decide⟩, (by show 5 <= sizeLine; decide), fun l1 hl1 => ?_⟩
    have s1 := Same.new hl1 (.lst [V.int 4, V.int 9, V.int 50, V.int 1000, V.int (10 ^ (9 : Int).toNat)])
    obtain ⟨z, hz, az⟩ := D2 (ns := [4, 9, 50, 1000, 10 ^ (9 : Int).toNat]) (k := x5 % 5) (by lia) (by show x5 % 5 < 5; lia)
    have hz' : 1 <= z /\ z <= 1000000000 := by
      have e9 : (10 : Int) ^ (9 : Int).toNat = 1000000000 := by decide
      rw [e9] at hz
      simp only [List.mem_cons, List.not_mem_nil, or_false] at hz
      rcases hz with rfl | rfl | rfl | rfl | rfl <;> decide
    refine ⟨_, rfl, hl, _, 5, _, rfl, rfl, SqL.of (s1 _ _ hh3), a5, _, _, rfl, rfl, (by show (0 : Int) < 5; decide), l1, _, _, _, rfl, rfl, SqL.of c6, az, _, _, rfl, ?_⟩
    refine ⟨_, rfl, s1, ?_, ?_, ?_⟩ <;> (split <;> lia)
  intro σ' H4 hM_; refine D1 fun G_ hG_ => ?_; obtain ⟨size, rfl, e4, sz1, szf, sz9⟩ := hM_; subst hG_
  have hh4 := e4 _ _ hh3
  have hk4 := e4 _ _ hk3
  have e14 : Same H H4 := e1.trans (e2.trans (e3.trans e4))
  refine ⟨(by show 0 <= sizeLine; decide), fun bl hbl => ?_⟩
  refine ⟨_, rfl, (many : Int), rfl, by lia, by lia, ?_⟩
  rw [Int.toNat_natCast]
  refine X5 (n := many) (fun i σ H' => ∃ (xs : List V) (hs : List h9) (o9 o10 o11 o12 o13 o14 : Option V), σ = [some (.ref a), some (.int at'), some (.int most), some (.int far), some (.ref hl), some (.ref kl), some (.int (many : Int)), some (.int size), some (.ref bl), o9, o10, o11, o12, o13, o14] ∧
      Same H4 H' /\ H' bl = some (.lst xs) /\ Bk K H' xs hs /\ hs.length = i /\ ∀ h ∈ hs, HG far kt kg h)
    ⟨[], [], _, _, _, _, _, _, rfl, Same.new hbl _, c6, .nil, rfl, fun h hh => (by cases hh)⟩ ?_ ?_
  . rintro i σ H5 hi ⟨xs, hs, o9, o10, o11, o12, o13, o14, rfl, e5, hb5, hB, hlen5, hG⟩
    have hh5 := e5 _ _ hh4
    have hk5 := e5 _ _ hk4
    have xlen : xs.length = hs.length := Paired.length hB
    have ak0 : S6 [V.int (kt : Int), V.int (kg : Int)] 0 = some (.int (kt : Int)) := E2 (j := 0) rfl
    have ak1 : S6 [V.int (kt : Int), V.int (kg : Int)] 1 = some (.int (kg : Int)) := E2 (j := 1) rfl
    -- picks
    refine ⟨fun σ' H' => ∃ (pl : Addr) (ds : List Int), σ' = [some (.ref a), some (.int at'), some (.int most), some (.int far), some (.ref hl), some (.ref kl), some (.int (many : Int)), some (.int size), some (.ref bl), some (.int (0 + (i : Int))), some (.ref pl), o11, o12, o13, o14] /\ Same H5 H' /\ H' pl = some (.lst (ds.map V.int)) /\ ds.length = 12 /\ ∀ d ∈ ds, 0 <= d, ?_, ?_⟩
    . refine ⟨_, rfl, _, rfl, _, _, rfl, rfl, a, ns, at' + 1, rfl, (e14.trans e5).seq hS, by lia, fun c => ?_⟩
      refine ⟨_, rfl, _, rfl, hl, _, 7, _, rfl, rfl, SqL.of hh5, a7, _, _, rfl, rfl, _, _, rfl, rfl, .inl ⟨by lia, by lia⟩, _, _, rfl, rfl, _, _, rfl, rfl, ⟨by decide, by decide, by decide⟩, ?_⟩
      exact ⟨_, 12, _, rfl, by decide, by decide, by decide, fun pl H6 ds e6 hp6 l6 d6 => ⟨pl, ds, rfl, e6, hp6, l6, fun d hd => (d6 d hd).1⟩⟩
    intro σ' H6 hM_; refine D1 fun G_ hG_ => ?_; obtain ⟨pl, ds, rfl, e6, hp6, l6, d6⟩ := hM_; subst hG_
    have hh6 := e6 _ _ hh5
    have hk6 := e6 _ _ hk5
    have hb6 := e6 _ _ hb5
    have pk : ∀ k : Int, 0 <= k -> k < 12 -> ∃ v, v ∈ ds /\ S6 (ds.map V.int) k = some (.int v) := fun k k0 k1 => D2 k0 (by lia)
    obtain ⟨y8, n8, c8⟩ := pk 8 (by decide) (by decide)
    obtain ⟨y9, n9, c9⟩ := pk 9 (by decide) (by decide)
    obtain ⟨y10, n10, c10⟩ := pk 10 (by decide) (by decide)
    obtain ⟨y11, n11, c11⟩ := pk 11 (by decide) (by decide)
    have g8 := d6 _ n8; have g9 := d6 _ n9; have g10 := d6 _ n10; have g11 := d6 _ n11
    have dl : (ds.map V.int).length = 12 := by rw [List.length_map]; exact l6
    -- takes
    refine ⟨fun σ' H' => ∃ (tp : Addr) (At : List Int), σ' = [some (.ref a), some (.int at'), some (.int most), some (.int far), some (.ref hl), some (.ref kl), some (.int (many : Int)), some (.int size), some (.ref bl), some (.int (0 + (i : Int))), some (.ref pl), some (.ref tp), o12, o13, o14] /\ Same H6 H' /\ H' tp = some (.tup (At.map V.int)) /\ At.length = kt /\ ∀ x ∈ At, 1 <= x /\ x <= far, ?_, ?_⟩
    . have ec : O4 (ds.map V.int) none (some (kt : Int)) = (ds.take kt).map V.int := by
        unfold O4
        rw [HT.sIx_none, HT.sIx_nat, dl, List.drop_zero, List.map_take]
        congr 1
        lia
      refine ⟨_, rfl, _, rfl, kl, _, 0, _, rfl, rfl, SqL.of hk6, ak0, _, rfl, pl, _, rfl, SqL.of hp6, fun cp hcp => ?_⟩
      rw [ec]
      have s1 := Same.new hcp (.lst ((ds.take kt).map V.int))
      refine ⟨cp, rfl, ⟨_, SqL.of c6⟩, fun lp hlp => ?_⟩
      refine N2 (B2 (SqL.of c6)) hlp (by rw [List.length_map, List.length_take]; exact v4 (by lia)) (fun x => .int (1 + vI x % size)) (fun j x H' N hx e hN => ?_) ?_
      . obtain ⟨k, rfl⟩ := G5 hx
        exact ⟨Wk.set (by decide), _, rfl, _, rfl, _, _, rfl, rfl, (by show (0 : Int) < size; lia), _, _, rfl, rfl, hN⟩
      . have eA : ((ds.take kt).map V.int).map (fun x => V.int (1 + vI x % size)) = ((ds.take kt).map fun d => 1 + d % size).map V.int := by rw [List.map_map, List.map_map]; rfl
        rw [eA]
        have s2 := Same.new hlp (.lst (((ds.take kt).map fun d => 1 + d % size).map V.int))
        refine ⟨lp, _, rfl, .inl ⟨SqL.of c6, fun tp htp => ?_⟩⟩
        refine ⟨tp, (ds.take kt).map fun d => 1 + d % size, rfl, s1.trans (s2.trans (Same.new htp _)), c6, by rw [List.length_map, List.length_take]; lia, fun x hx => ?_⟩
        obtain ⟨d, _, rfl⟩ := List.mem_map.mp hx
        have p0 : 0 <= d % size /\ d % size < size := ⟨Int.emod_nonneg _ (by lia), Int.emod_lt_of_pos _ (by lia)⟩
        lia
    intro σ' H7 hM_; refine D1 fun G_ hG_ => ?_; obtain ⟨tp, At, rfl, e7, ht7, lAt, tAt⟩ := hM_; subst hG_
    have hp7 := e7 _ _ hp6
    have hk7 := e7 _ _ hk6
    have hb7 := e7 _ _ hb6
    -- some
    have ec : O4 (ds.map V.int) (some 4) (some (4 + (kg : Int))) = ((ds.drop 4).take kg).map V.int := by
      unfold O4
      have z1 : HT.sIx (ds.map V.int).length 0 (some 4) = 4 := by
        have := HT.sIx_nat (ds.map V.int).length 0 4
        rw [dl] at this ⊢
        exact this
      have z2 : HT.sIx (ds.map V.int).length (ds.map V.int).length (some (4 + (kg : Int))) = 4 + kg := by
        have := HT.sIx_nat (ds.map V.int).length (ds.map V.int).length (4 + kg)
        rw [dl] at this ⊢
        rw [show (4 : Int) + (kg : Int) = ((4 + kg : Nat) : Int) by lia, this]
        lia
      rw [z1, z2, List.map_take, List.map_drop]
      congr 1
      lia
    refine ⟨_, rfl, _, rfl, _, rfl, kl, _, 1, _, rfl, rfl, SqL.of hk7, ak1, _, _, rfl, rfl, _, rfl, pl, _, rfl, SqL.of hp7, fun sp hsp => ?_⟩
    rw [ec]
    have s7 := Same.new hsp (.lst (((ds.drop 4).take kg).map V.int))
    -- gives
    refine ⟨fun σ' H' => ∃ (gp : Addr) (Bs : List Int) (o12 : Option V), σ' = [some (.ref a), some (.int at'), some (.int most), some (.int far), some (.ref hl), some (.ref kl), some (.int (many : Int)), some (.int size), some (.ref bl), some (.int (0 + (i : Int))), some (.ref pl), some (.ref tp), o12, some (.ref gp), o14] /\ Same H7 H' /\ H7 gp = none /\ H' gp = some (.lst (Bs.map V.int)) /\ Bs.length = kg /\ ∀ x ∈ Bs, 0 <= x /\ x <= far, ?_, ?_⟩
    . refine ⟨_, rfl, sp, rfl, ⟨_, SqL.of c6⟩, fun gp hgp => ?_⟩
      refine N2 (B2 (SqL.of c6)) hgp (by rw [List.length_map, List.length_take]; exact v4 (by lia)) (fun x => .int (vI x % (size + 1) * (if decide (0 < vI x % 7) = true then 1 else 0))) (fun j x H' N hx e hN => ?_) ?_
      . obtain ⟨k, rfl⟩ := G5 hx
        refine ⟨Wk.set (by decide), _, rfl, _, rfl, _, _, rfl, rfl, _, _, rfl, rfl, (by show (0 : Int) < size + 1; lia), _, rfl, _, _, rfl, rfl, (by show (0 : Int) < 7; decide), _, _, rfl, rfl, .inr ⟨_, rfl, _, _, rfl, rfl, .inr ?_, hN⟩⟩
        constructor <;> (split <;> decide)
      . have eB : (((ds.drop 4).take kg).map V.int).map (fun x => V.int (vI x % (size + 1) * (if decide (0 < vI x % 7) = true then 1 else 0))) = (((ds.drop 4).take kg).map fun d => d % (size + 1) * (if decide (0 < d % 7) = true then 1 else 0)).map V.int := by rw [List.map_map, List.map_map]; rfl
        rw [eB]
        refine ⟨gp, _, _, rfl, s7.trans (Same.new hgp _), s7.free hgp, c6, by rw [List.length_map, List.length_take, List.length_drop]; lia, fun x hx => ?_⟩
        obtain ⟨d, _, rfl⟩ := List.mem_map.mp hx
        have p0 : 0 <= d % (size + 1) /\ d % (size + 1) < size + 1 := ⟨Int.emod_nonneg _ (by lia), Int.emod_lt_of_pos _ (by lia)⟩
        split <;> lia
    intro σ' H8 hM_; refine D1 fun G_ hG_ => ?_; obtain ⟨gp, Bs, o12', rfl, e8, f8, hg8, lBs, tBs⟩ := hM_; subst hG_
    have hp8 := e8 _ _ hp7
    have hk8 := e8 _ _ hk7
    have lB' : (Bs.map V.int).length = kg := by rw [List.length_map]; exact lBs
    -- a give above 0
    refine ⟨fun σ' H' => ∃ (Bs : List Int) (o12 : Option V), σ' = [some (.ref a), some (.int at'), some (.int most), some (.int far), some (.ref hl), some (.ref kl), some (.int (many : Int)), some (.int size), some (.ref bl), some (.int (0 + (i : Int))), some (.ref pl), some (.ref tp), o12, some (.ref gp), o14] /\ Same H7 H' /\ H' gp = some (.lst (Bs.map V.int)) /\ Bs.length = kg /\ (∀ x ∈ Bs, 0 <= x /\ x <= far) /\ ∃ x ∈ Bs, 0 < x, ?_, ?_⟩
    . refine ⟨_, rfl, gp, Bs, rfl, .inl (SqL.of hg8), (fun z => by rw [z] at lBs; simp at lBs; lia), fun M hM hMx => ⟨rfl, _, rfl, ?_⟩⟩
      refine A2 (fun c => ?_) (fun c => ?_)
      . refine ⟨_, rfl, pl, _, 9, _, rfl, rfl, SqL.of hp8, c9, _, rfl, _, _, rfl, rfl, (by show (0 : Int) < size; lia), _, _, rfl, rfl, ?_⟩
        refine ⟨_, rfl, _, rfl, pl, _, 8, _, rfl, rfl, SqL.of hp8, c8, _, rfl, kl, _, 1, _, rfl, rfl, SqL.of hk8, ak1, _, _, rfl, rfl, (by show (0 : Int) < (kg : Int); lia), ?_⟩
        have r0 : 0 <= y8 % (kg : Int) := Int.emod_nonneg _ (by lia)
        have r1 : y8 % (kg : Int) < ((Bs.map V.int).length : Int) := by rw [lB']; exact Int.emod_lt_of_pos _ (by lia)
        have rn : (y8 % (kg : Int)).toNat < Bs.length := by rw [lB'] at r1; lia
        have p0 : 0 <= y9 % size /\ y9 % size < size := ⟨Int.emod_nonneg _ (by lia), Int.emod_lt_of_pos _ (by lia)⟩
        refine ⟨gp, _, _, _, rfl, rfl, hg8, V2 r0 r1, ?_⟩
        refine ⟨Bs.set (y8 % (kg : Int)).toNat _, _, rfl, e8.write f8, by rw [c6, map_set], by rw [List.length_set]; exact lBs, fun x hx => ?_, _, List.mem_set rn _, by lia⟩
        rcases List.mem_or_eq_of_mem_set hx with z | z
        . exact tBs x z
        . lia
      . have c' : ¬ M = 0 := fun z => c (decide_eq_true (by rw [z]))
        have := tBs M hM
        exact ⟨Bs, _, rfl, e8, hg8, lBs, tBs, M, hM, by lia⟩
    intro σ' H9 hM_; refine D1 fun G_ hG_ => ?_; obtain ⟨Bt, o12'', rfl, e9, hg9, lBt, tBt, tPt⟩ := hM_; subst hG_
    -- house
    refine ⟨fun σ' H' => ∃ (v : V) (h : h9) (o12 : Option V), σ' = [some (.ref a), some (.int at'), some (.int most), some (.int far), some (.ref hl), some (.ref kl), some (.int (many : Int)), some (.int size), some (.ref bl), some (.int (0 + (i : Int))), some (.ref pl), some (.ref tp), o12, some (.ref gp), some v] /\ Same H7 H' /\ HS K H' v h /\ HG far kt kg h, ?_, ?_⟩
    . refine ⟨_, rfl, _, rfl, gp, _, rfl, .inl ⟨SqL.of hg9, fun pg hpg => ?_⟩⟩
      have f1 := Same.new hpg (.tup (Bt.map V.int))
      refine ⟨(by show 2 <= sizeLine; decide), fun pr hpr => ?_⟩
      have f2 := Same.new hpr (.tup [V.ref tp, V.ref pg])
      exact ⟨_, (At, Bt), _, rfl, e9.trans (f1.trans f2), ⟨pr, tp, pg, rfl, SqT.of c6, SqT.of (f2 _ _ (f1 _ _ (e9 _ _ ht7))), SqT.of (f2 _ _ c6)⟩, ⟨lAt, lBt, tAt, tBt, tPt⟩⟩
    intro σ' H10 hM_; refine D1 fun G_ hG_ => ?_; obtain ⟨v, h, o12'', rfl, e10, hv, hvG⟩ := hM_; subst hG_
    have e57 : Same H5 H7 := e6.trans e7
    have e510 : Same H5 H10 := e57.trans e10
    -- or one near another one
    refine ⟨fun σ' H' => ∃ (v : V) (h : h9) (o12 : Option V), σ' = [some (.ref a), some (.int at'), some (.int most), some (.int far), some (.ref hl), some (.ref kl), some (.int (many : Int)), some (.int size), some (.ref bl), some (.int (0 + (i : Int))), some (.ref pl), some (.ref tp), o12, some (.ref gp), some v] /\ Same H5 H' /\ HS K H' v h /\ HG far kt kg h, ?_, ?_⟩
    . refine ⟨_, rfl, (by show 0 <= sizeLine; decide), fun ep hep => ?_⟩
      have f1 := Same.new hep (.lst [])
      have e511 := e510.trans f1
      refine ⟨.list (hs.map C6), .list [], .lst (SqL.of (e511 _ _ hb5)) (Bk.dps (Bk.same e511 hB)), .lst (SqL.of c6) .nil, a0g hs, rfl, Nat.le_trans (Nat.min_le_right _ _) (by decide), _, rfl, ?_⟩
      refine A2 (fun c => ?_) (fun c => D0 ⟨v, h, _, rfl, e511, hv.same f1, hvG⟩)
      have hpos : 0 < hs.length := by
        cases hs with
        | nil => exact absurd c (by simp [PyData.eqv, PyData.eqvAll])
        | cons _ _ => simp
      have hp11 : upd H10 ep (.lst []) pl = some (.lst (ds.map V.int)) := f1 _ _ (e10 _ _ hp7)
      have hb11 := e511 _ _ hb5
      refine ⟨_, rfl, pl, _, 10, _, rfl, rfl, SqL.of hp11, c10, _, _, rfl, rfl, (by show (0 : Int) < 4; decide), rfl, _, rfl, ?_⟩
      refine A2 (fun c => ?_) (fun c => ⟨v, h, _, rfl, e511, hv.same f1, hvG⟩)
      have r0 : 0 <= y11 % (xs.length : Int) := Int.emod_nonneg _ (by lia)
      have r1 : y11 % (xs.length : Int) < (xs.length : Int) := Int.emod_lt_of_pos _ (by lia)
      have hk : (y11 % (xs.length : Int)).toNat < xs.length := by lia
      have ax : S6 xs (y11 % (xs.length : Int)) = some xs[(y11 % (xs.length : Int)).toNat] := by
        unfold S6
        rw [V2 r0 r1]
        exact List.getElem?_eq_getElem hk
      obtain ⟨h', hh', hs'⟩ := Paired.at hB (List.getElem?_eq_getElem hk)
      refine ⟨_, rfl, _, rfl, pl, _, 11, _, rfl, rfl, SqL.of hp11, c11, _, rfl, bl, _, rfl, .inl (SqL.of hb11), _, _, rfl, rfl, (by show (0 : Int) < (xs.length : Int); lia), bl, _, _, _, rfl, rfl, SqL.of hb11, ax, _, rfl, _, rfl, ?_⟩
      refine ⟨_, pl, far, h', ds, kt, kg, rfl, hs'.same e511, hG h' (List.mem_of_getElem? hh'), kt1, kt4, kg1, kg4, hfar, SqL.of hp11, (by omega), d6, fun r H12 h'' e12 hs'' hg'' => ⟨r, h'', _, rfl, e511.trans e12, hs'', hg''⟩⟩
    intro σ' H11 hM_; refine D1 fun G_ hG_ => ?_; obtain ⟨v, h, o12'', rfl, e11, hv, hvG⟩ := hM_; subst hG_
    have hb11 := e11 _ _ hb5
    refine ⟨_, rfl, .inl ⟨rfl, _, SqL.of hb11⟩, _, rfl, bl, xs, v, rfl, rfl, hb11, v4 (by lia), ?_⟩
    have kp : Keep H11 (upd H11 bl (.lst (xs ++ [v]))) := Keep.upd hb11
    refine ⟨xs ++ [v], hs ++ [h], _, _, _, _, _, _, rfl, (e5.trans e11).write hbl, c6, Paired.app (Bk.keep kp (Bk.same e11 hB)) (.cons (HS.keep kp hv) .nil), by rw [List.length_append, hlen5]; rfl, fun h' hm => ?_⟩
    rcases List.mem_append.mp hm with z | z
    . exact hG h' z
    . rw [List.mem_singleton.mp z]; exact hvG
  . intro σ H' hM_; refine D1 fun G_ hG_ => ?_; obtain ⟨xs, hs, o9, o10, o11, o12, o13, o14, rfl, e5, hb5, hB, hlen5, hG⟩ := hM_; subst hG_
    exact ⟨_, rfl, q bl H' xs hs kt kg (e14.trans e5) hb5 hB (by lia) (by lia) kt1 kt4 kg1 kg4 hG⟩
end
end Rim
namespace Rim
open PySem L2 Fr
def FrV (K : W.Frag) (H : Hp) (v : V) (f : Q2) : Prop := ∃ a, v = .ref a /\ SqT K H a [.int f.1, .int f.2]
def FrT (H : Hp) (v : V) (f : Q2) : Prop := ∃ a, v = .ref a /\ H a = some (.tup [.int f.1, .int f.2])
section
variable {P : Program} {w : World} {K : W.Frag} {mg : Str -> Option Value} {base : Heap} {f g : Addr} {fd gd : FuncData}
structure Cal (P : Program) (w : World) (K : W.Frag) (mg : Str -> Option Value) (base : Heap) (n : Nat) (x : Str) (ps : List Str) (sp : Sp) (fa : Addr) (d : FuncData) : Prop where
  ok : x8 P w K mg base K1 n fa d ps sp
  b : Binds K d ps []
  k : W.keepIn K (.ref fa) = true
  m : mg x = some (.ref fa)
theorem scCommon : p6 ["one", "other"] ["one", "other"] (h7 a1D) := ⟨rfl, rfl, rfl, by decide +kernel, rfl, by decide +kernel, by decide +kernel⟩
def b1h : St -> Nat := fun σ => match σ with | [_, some (.int y)] => y.toNat | _ => 0
theorem a4s {n : Nat} (F : Fun K "_law_common" "_law_common" a1D f fd) : x8 P w K mg base K1 (n + 1) f fd ["one", "other"] (fun vs H Q _ => ∃ a b : Int, vs = [.int a, .int b] /\ 0 <= a /\ 0 <= b /\ Q (.int (gI a b)) H) := by
  refine F.ok scCommon (fun vs H Q E h => ?_) (fun cdv A outer s H vs Q E hr h => ?_)
  . obtain ⟨a, b, rfl, _⟩ := h
    rfl
  obtain ⟨a, b, rfl, ha, hb, q⟩ := h
  refine ⟨_, h8 (a5l PassesOwn.never (j3 P5 (pv 1) d0 (o3 _)) (g0 (a8q (i := 0) (j := 1) rfl scCommon.nd rfl rfl (by decide) rfl rfl (c0 (pv 1) (c0 (j0 t9 (pv 0) (pv 1)) c7)) rfl)))
    (g0 (m6 (pv 0))), ?_⟩
  refine a4V (fun σ H' => ∃ x y : Int, σ = [some (.int x), some (.int y)] /\ H' = H /\ 0 <= x /\ 0 <= y /\ gI x y = gI a b) (fun σ _ => b1h σ) ⟨a, b, rfl, rfl, ha, hb, rfl⟩ ?_ (fun σ H Q Q' hq ⟨v, h1, i, j, h2, h3, k, h4, q⟩ => ⟨v, h1, i, j, h2, h3, k, h4, hq _ _ q⟩)
  rintro σ H' ⟨x, y, rfl, rfl, hx, hy, hg⟩
  refine ⟨_, rfl, _, _, rfl, rfl, _, rfl, ?_⟩
  refine A2 (fun c => ?_) (fun c => ?_)
  . have hy0 : 0 < y := of_decide_eq_true c
    have hm := Int.emod_nonneg x (show y ≠ 0 by lia)
    have hl := Int.emod_lt_of_pos x hy0
    refine ⟨_, rfl, _, rfl, _, rfl, _, _, rfl, rfl, hy0, _, _, rfl, ⟨y, x % y, rfl, rfl, hy, hm, ?_⟩, ?_⟩
    . rw [a6Z]; exact hg
    . show (x % y).toNat < y.toNat
      lia
  . have hy0 : ¬ 0 < y := of_decide_eq_false (Bool.eq_false_iff.mpr c)
    have : y = 0 := by lia
    subst this
    refine ⟨_, rfl, ?_⟩
    have : x = gI a b := by rw [<- hg, a6K]; lia
    rw [this]; exact q
end
end Rim
namespace Rim
open PySem L2 Fr
section
variable {P : Program} {w : World} {K : W.Frag} {mg : Str -> Option Value} {base : Heap} {f g : Addr} {fd gd : FuncData} {n : Nat}
def a7S : Sp := fun vs H Q _ => ∃ t b : Int, vs = [.int t, .int b] /\ 0 < b /\ b < 2 ^ 8000 /\ ∀ (v : V) (H' : Hp), Same H H' -> FrT H' v (low t b) -> Q v H'
theorem scLlow : p6 ["top", "bottom", "many"] ["top", "bottom"] (h7 a5i) := ⟨rfl, rfl, rfl, by decide +kernel, rfl, by decide +kernel, by decide +kernel⟩
theorem a7f (t : Int) : (if 0 - t > t then 0 - t else t) = (t.natAbs : Int) := by split <;> lia
theorem a7W (t b : Int) : gI (t.natAbs : Int) b = gI t b := by
  rcases Int.natAbs_eq t with h | h
  . rw [<- h]
  . have : (t.natAbs : Int) = -t := by lia
    rw [this, a8z]
def a5v : Sp := fun vs H Q _ => ∃ a b : Int, vs = [.int a, .int b] /\ 0 <= a /\ 0 <= b /\ Q (.int (gI a b)) H
theorem a7C {fa : Addr} {da : FuncData} (F : Fun K "_law_low" "_law_low" a5i f fd) (T : y6 mg) (C : Cal P w K mg base n "_law_common" ["one", "other"] a5v fa da) : x8 P w K mg base K1 (n + 1) f fd ["top", "bottom"] a7S := by
  refine F.ok scLlow (fun vs H Q E h => ?_) (fun cdv A outer s H vs Q E hr h => ?_)
  . obtain ⟨a, b, rfl, _⟩ := h
    rfl
  obtain ⟨t, b, rfl, hb, hb2, q⟩ := h
  refine ⟨_, h8 (u9 (j3 a2h (pv 1) d0 (o3 _)) a4h r6)
    (h8 (r9 (i := 2) scLlow.nd rfl (Or.inl rfl) (r8 C.ok hr rfl C.m C.k C.b .nil x9 (c0 (i7 (a4i rfl) rfl T.max PyProof.Rows.boot_max (c0 (pv 0) (c0 (j0 a1w d0 (pv 0)) c7))) (c0 (pv 1) c7))))
    (g0 (m6 (N6 (c0 (j0 a2p (pv 0) (pv 2)) (c0 (j0 a2p (pv 1) (pv 2)) c7)))))), ?_⟩
  refine ⟨_, rfl, _, _, rfl, rfl, _, rfl, ?_⟩
  refine A2 (fun c => ?_) (fun _ => ?_)
  . have : b < 0 := of_decide_eq_true c; lia
  refine ⟨_, rfl, _, rfl, _, _, rfl, rfl, _, _, rfl, ?_⟩
  rw [a7f]
  refine ⟨_, rfl, (t.natAbs : Int), b, rfl, Int.natCast_nonneg _, Int.le_of_lt hb, ?_⟩
  rw [a7W]
  have hg := a5b (a := t) hb
  have hgl := b0j (a := t) hb
  refine ⟨_, rfl, _, rfl, _, _, rfl, rfl, ⟨hg, Int.lt_of_le_of_lt hgl hb2⟩, _, rfl, _, rfl, _, _, rfl, rfl, ⟨hg, Int.lt_of_le_of_lt hgl hb2⟩, (by show 2 <= sizeLine; decide), fun p hp => ?_⟩
  exact q _ _ (Same.new hp _) ⟨p, rfl, c6⟩
theorem J5 {K : W.Frag} (t : Value) : W.kitOne K t t = some true := by unfold W.kitOne; rw [if_pos (beq_self_eq_true _)]
theorem V5 {K : W.Frag} : W.kitOne K (.type "int") (.type "bool") = some false := by
  unfold W.kitOne
  rw [if_neg (by decide)]
  rfl
def a3p : Sp := fun vs H Q _ => ∃ i : Int, vs = [.int i] /\ Q (.bl true) H
theorem a7r : p6 ["found"] ["found"] (h7 a1d) := ⟨rfl, rfl, rfl, by decide +kernel, rfl, by decide +kernel, by decide +kernel⟩
theorem a6c (F : Fun K "_law_whole" "_law_whole" a1d f fd) (T : y6 mg) : x8 P w K mg base K1 (n + 1) f fd ["found"] a3p := by
  refine F.ok a7r (fun vs H Q E h => ?_) (fun cdv A outer s H vs Q E hr h => ?_)
  . obtain ⟨i, rfl, _⟩ := h
    rfl
  obtain ⟨i, rfl, q⟩ := h
  refine ⟨_, g0 (m6 (a2H (i7 J8 rfl T.isi PyProof.Rows.boot_isinstance (c0 (pv 0) (c0 (J4 (v := .ty "int") rfl T.int PyProof.Rows.boot_int rfl) c7)))
    (a2y (a4v (i7 J8 rfl T.isi PyProof.Rows.boot_isinstance (c0 (pv 0) (c0 (J4 (v := .ty "bool") rfl T.bool PyProof.Rows.boot_bool rfl) c7))))))), ?_⟩
  refine ⟨_, rfl, _, _, "int", true, rfl, .int i, J5 _, _, rfl, C9 ?_⟩
  exact ⟨_, rfl, _, _, "bool", false, rfl, .int i, V5, _, rfl, q⟩
end
end Rim
namespace Rim
open PySem L2 Fr
section
variable {P : Program} {w : World} {K : W.Frag} {mg : Str -> Option Value} {base : Heap} {f g : Addr} {fd gd : FuncData} {n : Nat}
end
end Rim
namespace L2
open PySem PySem.Spec PyProof.Rows
structure a3C (K : W.Frag) (P : Params) (d : Addr) : Prop where
  ex : ∃ es n, K.lookup d = some ⟨.type "dict", none, .dict es n, #[]⟩ /\ W.KeysLit P es.toList
def b1G (K : W.Frag) (P : Params) : R2 := fun x y H Q => ∃ d z t, x = .ref d /\ y = .str z /\ a3C K P d /\ W.nsIn K d z = some (some (.ref t)) /\ Q (.ref t) H
theorem a1t (K : W.Frag) (P : Params) {X : Cx} (hK : X.K = K) (hP : X.w.params = P) : IxR X (b1G K P) := by
  subst hK
  subst hP
  intro value slice pins s σ H x y v u Q I rx ry h hs
  obtain ⟨d, z, t, rfl, rfl, ⟨es, n, hl, hk⟩, e, q⟩ := h
  cases rx
  obtain ⟨tk, rfl⟩ := ry
  obtain ⟨m, hm⟩ := I.fr
  exact W.topItem_K hm I.mod.kin hl hk e ⟨.ref t, H, I.tok _, rfl, q⟩ (by first | exact hs | exact hs _ _)
end L2
namespace L2
open PySem
theorem a5q (K : W.Frag) {X : Cx} {tg l : Expr} {tl : TE} (h : X.K = K) (hl : PE X l tl) : PI X tg l (a8b K tl) := by subst h; exact O7 hl
end L2
namespace Rim
open PySem L2 Fr
def Szw (z : Str) : Prop := z = "any" \/ z = "one" \/ z = "less" \/ z = "more"
def sgn (z : Str) : List Int := if z = "any" then [] else if z = "one" then [1, -1] else if z = "less" then [-1] else [1]
structure Sg (K : W.Frag) (Pm : Params) (mg : Str -> Option Value) (d : Addr) : Prop where
  m : mg "SIZE_SIGNS" = some (.ref d)
  k : a3C K Pm d
  tt : ∀ z, Szw z -> ∃ t, W.nsIn K d z = some (some (.ref t)) /\ ∀ H, SqT K H t ((sgn z).map V.int)
section
variable {P : Program} {w : World} {K : W.Frag} {mg : Str -> Option Value} {base : Heap} {f Pt d : Addr} {fd : FuncData} {n : Nat} {C : Addr}
end
end Rim
namespace Rim
open PySem L2 Fr
section
variable {P : Program} {w : World} {K : W.Frag} {mg : Str -> Option Value} {base : Heap} {f Pt d : Addr} {fd : FuncData} {n : Nat} {C : Addr}
end
end Rim
namespace Rim
open PySem L2 Fr
section
variable {P : Program} {w : World} {K : W.Frag} {mg : Str -> Option Value} {base : Heap} {f Pt d : Addr} {fd : FuncData} {n : Nat} {C : Addr}
end
end Rim
namespace Rim
open PySem L2 Fr
section
variable {P : Program} {w : World} {K : W.Frag} {mg : Str -> Option Value} {base : Heap} {f Pt d : Addr} {fd : FuncData} {n : Nat} {C : Addr}
end
end Rim
namespace Lp
section
variable {m q : Nat} {A : Nat -> Nat -> Int} {b c : Nat -> Int} {S : Bo}
end
end Lp
namespace Rim
open PySem L2 Fr
section
variable {P : Program} {w : World} {K : W.Frag} {mg : Str -> Option Value} {base : Heap} {f Pt d : Addr} {fd : FuncData} {n : Nat} {C : Addr}
end
end Rim
namespace Rim
open PySem L2 Fr
section
variable {P : Program} {w : World} {K : W.Frag} {mg : Str -> Option Value} {base : Heap} {f Pt d : Addr} {fd : FuncData} {n : Nat} {C : Addr}
theorem a3K (xs : List V) (a b : Nat) (h : a <= b) (hb : b <= xs.length) : O4 xs (some (a : Int)) (some (b : Int)) = (xs.drop a).take (b - a) := by
  unfold O4
  rw [HT.sIx_nat, HT.sIx_nat, Nat.min_eq_left hb, Nat.min_eq_left (by lia)]
end
end Rim
namespace Rim
open PySem L2 Fr
section
variable {P : Program} {w : World} {K : W.Frag} {mg : Str -> Option Value} {base : Heap} {f Pt d CN : Addr} {fd : FuncData} {n : Nat} {C : Addr}
structure a7k (P : Program) (w : World) (K : W.Frag) (mg : Str -> Option Value) (base : Heap) (n : Nat) (x : Str) (ps : List Str) (sp : Sp) (fa : Addr) (d : FuncData) : Prop where
  ok : x8 P w K mg base (T6 P w) n fa d ps sp
  b : Binds K d ps []
  k : W.keepIn K (.ref fa) = true
  m : mg x = some (.ref fa)
abbrev mE (hs : List h9) : Nat := hs.length + 1
abbrev qE (z : Str) (h : h9) : Nat := h.1.length + h.2.length + (sgn z).length
structure b1C (K : W.Frag) (H : Hp) (ba : Addr) (xs : List V) (hs : List h9) (far : Int) (kt kg : Nat) : Prop where
  l : SqL K H ba xs
  b : Bk K H xs hs
  g : ∀ h ∈ hs, HG far kt kg h
  far : far <= 2 ^ 60
  few : hs.length <= 16
  t : kt <= 20
  k : kg <= 20
end
end Rim
namespace L2
open PySem
end L2
namespace Fr
theorem a6x {x D : Int} (hD : 0 < D) : (low x D).2 ∣ D := ⟨gI x D, by rw [Int.mul_comm]; exact (X6 (t := x) hD).2⟩
theorem a9i {t b : Int} (hb : 0 < b) : (low t b).2 <= b := Int.le_of_dvd hb (a6x hb)
end Fr
namespace Rim
open PySem L2 Fr
theorem a6o {t b : Int} {n : Nat} (hb : 0 < b) (h : Big n t) : Big n (low t b).1 := by
  obtain ⟨h1, _⟩ := X6 (t := t) hb
  have hg := a5b (a := t) hb
  unfold Big at *
  have e : t.natAbs = (gI t b).natAbs * (low t b).1.natAbs := by rw [<- Int.natAbs_mul, <- h1]
  have : 1 <= (gI t b).natAbs := by lia
  have := Nat.mul_le_mul_right (low t b).1.natAbs this
  lia
section
variable {P : Program} {w : World} {K : W.Frag} {mg : Str -> Option Value} {base : Heap} {f : Addr} {fd : FuncData} {n : Nat}
end
end Rim
namespace Rim
open PySem L2 Fr
section
variable {P : Program} {w : World} {K : W.Frag} {mg : Str -> Option Value} {base : Heap} {f : Addr} {fd : FuncData} {n : Nat}
def a2M (z : Str) (s D : Int) : Prop := ((z = "one" \/ z = "less") -> s <= D) /\ ((z = "one" \/ z = "more") -> D <= s)
end
end Rim
namespace Rim
open PySem L2 Fr
def col (rows : List (List Int)) (i : Nat) : List Int := rows.map fun r => r.getD i 0
section
variable {P : Program} {w : World} {K : W.Frag} {mg : Str -> Option Value} {base : Heap} {f g : Addr} {fd gd : FuncData} {n : Nat}
def b0v (j : Nat) (h : h9) : List Int := if j = 0 then h.1 else h.2
end
end Rim
namespace L2
open PySem PySem.Spec PyProof.Rows
section
variable {xs ys : List V} {K : W.Frag} {l1 l2 : Addr} {σ : St}
end
def b1D (K : W.Frag) (n : Nat) (t : TGs) : TG := fun v σ H Q => ∃ a xs, v = .ref a /\ SqL K H a xs /\ xs.length = n /\ t xs σ H Q
theorem a7X (K : W.Frag) {X : Cx} {es : List Expr} {k : Nat} {t : TGs} {n : Nat} {pos : Pos} (hK : X.K = K) (hc : X.calm = true) (h : PGs X es t)
    (hn : (assignEach es X.env).length = n := by rfl) (hst : (assignEach es X.env).findIdx? (·.1) = none := by rfl) : PG X (.Tuple es k pos) (b1D K n t) := by
  subst hK
  intro pins s σ H v u Q I r hw
  obtain ⟨a, xs, e1, hq, hl, hw⟩ := hw
  subst e1
  cases r
  obtain ⟨its, rv, ht, hz⟩ := I.list hq
  rw [assign_Tuple]
  refine wpAny_bind (wpAny_standAt ?_)
  unfold unpack
  rw [hn, hst]
  have hsz : its.toArray.size = n := by simp [<- hl, rv.length]
  rw [<- hsz]
  refine wpAny_bind (wpAny_holding (W.kun_itemsOf (I.ok.hd hc) ht.isList fun h' hx => ?_))
  have I1 : Inv X pins σ H { s with heap := h' } := I.kept (t' := s.toks) fun b o e => hx b o (Nat.ne_of_lt (Heap.lt_size e)) e
  exact h pins _ σ H xs _ Q I1 (by simpa using rv) hw
end L2
namespace Rim
open PySem L2 Fr
section
variable {P : Program} {w : World} {K : W.Frag} {mg : Str -> Option Value} {base : Heap} {f : Addr} {fd : FuncData} {n : Nat}
def a0z (hs : List h9) (ws : List Int) (j i : Nat) : Int := (List.zipWith (· * ·) (col (hs.map (b0v j)) i) ws).sum
end
end Rim
namespace Rim
open PySem L2 Fr
section
variable {P : Program} {w : World} {K : W.Frag} {mg : Str -> Option Value} {base : Heap} {f : Addr} {fd : FuncData} {n : Nat}
end
end Rim
namespace Rim
open PySem L2 Fr
section
variable {P : Program} {w : World} {K : W.Frag} {mg : Str -> Option Value} {base : Heap} {f : Addr} {fd : FuncData} {n : Nat}
structure PrN (pt pg : List Int) (ps D : Int) (kt kg : Nat) : Prop where
  lt : pt.length = kt
  lg : pg.length = kg
  bt : ∀ x ∈ pt, 0 <= x /\ Big 5000 x
  bg : ∀ x ∈ pg, 0 <= x /\ Big 5000 x
  bs : Big 5000 ps
  d : 0 < D
  d2 : D < 2 ^ 4000
def a2Y (h : h9) (pg : List Int) (ps : Int) : Int := (List.zipWith (· * ·) h.2 pg).sum + ps
def pay (h : h9) (pt : List Int) : Int := (List.zipWith (· * ·) h.1 pt).sum
end
end Rim
namespace Rim
open PySem L2 Fr
section
variable {P : Program} {w : World} {K : W.Frag} {mg : Str -> Option Value} {base : Heap} {f : Addr} {fd : FuncData} {n : Nat}
def a1f (z : Str) (ps : Int) : Prop := ((z = "any" \/ z = "less") -> ps <= 0) /\ ((z = "any" \/ z = "more") -> 0 <= ps)
end
end Rim
namespace Rim
open PySem L2 Fr
mutual
theorem U5 : ∀ d : PyData, d.canLay0 = true -> PyData.eqv d d = true
  | .none, _ => by rw [PyData.eqv]
  | .bool b, _ => by rw [PyData.eqv]; simp
  | .int i, _ => by rw [PyData.eqv]; simp
  | .str x, _ => by rw [PyData.eqv]; simp
  | .list xs, h => by rw [PyData.eqv]; exact R0 xs (by rw [PyData.canLay0] at h; exact h)
  | .tuple xs, h => by rw [PyData.eqv]; exact R0 xs (by rw [PyData.canLay0] at h; exact h)
  | .dict kvs, h => by rw [PyData.canLay0] at h; cases h
theorem R0 : ∀ ds : List PyData, PyData.canLayAll0 ds = true -> PyData.eqvAll ds ds = true
  | [], _ => by rw [PyData.eqvAll]
  | d :: r, h => by
    rw [PyData.canLayAll0, Bool.and_eq_true] at h
    rw [PyData.eqvAll, U5 d h.1, R0 r h.2]; rfl
end
def dF (x : Q2) : PyData := .tuple [.int x.1, .int x.2]
section
variable {P : Program} {w : World} {K : W.Frag} {mg : Str -> Option Value} {base : Heap} {f : Addr} {fd : FuncData} {n : Nat}
end
end Rim
namespace Rim
open PySem L2 Fr
section
variable {P : Program} {w : World} {K : W.Frag} {mg : Str -> Option Value} {base : Heap} {f : Addr} {fd : FuncData} {n : Nat}
end
end Rim
namespace Lp
section
variable {m q : Nat} {A : Nat -> Nat -> Int} {b c : Nat -> Int} {S S' : Bo}
theorem L6 {g h : Nat -> Int} : ∀ {n : Nat}, (∀ k, k < n -> g k <= h k) -> X9 g n <= X9 h n
  | 0, _ => Int.le_refl _
  | n + 1, e => Int.add_le_add (L6 fun k hk => e k (by lia)) (e n (by lia))
end
end Lp
namespace Rim
open PySem L2 Fr
abbrev dot (l x : List Int) : Int := (List.zipWith (· * ·) l x).sum
section
variable {m q : Nat} {rows : List (List Int)} {bnd goal : List Int} {S : Lp.Bo}
end
end Rim
namespace Rim
open PySem L2 Fr
abbrev ptA (h : h9) (xs : List Int) : List Int := xs.take h.1.length
abbrev pgA (h : h9) (xs : List Int) : List Int := (xs.drop h.1.length).take h.2.length
abbrev psA (z : Str) (h : h9) (xs : List Int) : Int := dot (xs.drop (h.1.length + h.2.length)) (sgn z)
section
variable {z : Str} {hs : List h9} {h : h9} {kt kg : Nat} (hk : ∀ g ∈ hs, g.1.length = kt /\ g.2.length = kg)
include hk
end
structure b2x (z : Str) (hs : List h9) (h : h9) (S : Lp.Bo) (kt kg : Nat) (ws : List Int) : Prop where
  lw : ws.length = hs.length
  nn : ∀ x ∈ ws, 0 <= x /\ Big 20000 x
  size : a2M z ws.sum S.d
  takes : ∀ j, j < kt -> a0z hs ws 0 j <= h.1.getD j 0 * S.T (mE hs) (qE z h)
  gives : ∀ j, j < kg -> h.2.getD j 0 * S.d <= a0z hs ws 1 j
  pos : 0 < S.T (mE hs) (qE z h)
  le : h ∈ hs -> S.T (mE hs) (qE z h) <= S.d
  fair : ∀ g ∈ hs, a2Y g (pgA h (D9 (mE hs) (qE z h) S)) (psA z h (D9 (mE hs) (qE z h) S)) <= pay g (ptA h (D9 (mE hs) (qE z h) S))
  pays : pay h (ptA h (D9 (mE hs) (qE z h) S)) = S.d
  earns : a2Y h (pgA h (D9 (mE hs) (qE z h) S)) (psA z h (D9 (mE hs) (qE z h) S)) = S.T (mE hs) (qE z h)
  pr : PrN (ptA h (D9 (mE hs) (qE z h) S)) (pgA h (D9 (mE hs) (qE z h) S)) (psA z h (D9 (mE hs) (qE z h) S)) S.d kt kg
  sign : a1f z (psA z h (D9 (mE hs) (qE z h) S))
end Rim
namespace L2
open PySem PySem.Spec PyProof.Rows
theorem a3Z {P : Program} {w : World} {K : W.Frag} {mg mb : Str -> Option Value} {CX : CXT} {k : Nat} {fa a : Addr} {fd : FuncData} {x : Str} {sp : Sp} {s₁ : Shared} {vs : List Value} {ns : List Int} {Ps : List Addr}
    (KX : K.In s₁.heap) (hns : s₁.heap.Ns mainGlobals mg) (hb : s₁.heap.Ns builtinsNs mb) (hbb : ∀ x : Str, x ≠ "__name__" -> mb x = bootBuiltins x) (hlim : s₁.heap.NoLimit) (hg : s₁.gens = #[])
    (ha : s₁.heap.get? a = some { cls := .type "list", data := .seq vs.toArray }) (hi : IntsAre vs ns) (hl : ns.length <= sizeLine) (hr : Room k callerA)
    (hT : ∀ p ∈ Ps, ∃ c, s₁.heap.TableAt c p #[]) (hKP : ∀ p ∈ Ps, K.lookup p = none) (BM : a1a mg s₁.heap)
    (F : ∀ base : Heap, K.In base -> base.Ns mainGlobals mg -> a1a mg base -> x8 P w K mg base CX k fa fd [x] sp) (hbind : ∀ (s : Shared) (u : Value), BindsTo s fd ⟨[u], []⟩ [(x, u)])
    (hsp : ∀ H : Hp, (∀ p ∈ Ps, H p = some (.tbl #[])) -> SqL K H a (ns.map V.int) -> sp [.ref a] H (fun v _ => v = .bl true) fun _ _ _ => False)
    (hCX : ∀ H e s', CX [] H s₁ (fun _ _ _ => False) e s' -> False) :
    codeAny (model P w) callerA (.call (.ref fa) ⟨[.ref a], []⟩) (fun r s' => r = .ok (.ret (.bool true)) /\ OldK s₁.heap s'.heap /\ s'.os = s₁.os /\ AllBare s'.gens) s₁ := by
  have rv := a0X hi
  have lenV := hi.length
  have tabObj : ∀ p ∈ Ps, s₁.heap.get? p = some { cls := .none, data := .fields #[] } := fun p hp => by
    obtain ⟨c, z⟩ := hT p hp
    exact z.2
  have core : ∀ H : Hp, (∀ b, H b = none \/ (∃ o xs, H b = some (.frz o (.lst xs))) \/ (b ∈ Ps /\ H b = some (.tbl #[]))) -> (∀ p ∈ Ps, H p = some (.tbl #[])) -> SqL K H a (ns.map V.int) -> HOk P w H s₁.heap -> (∀ b, H b ≠ none -> b = a \/ b ∈ Ps) -> (H a ≠ none -> K.lookup a = none) →
      codeAny (model P w) callerA (.call (.ref fa) ⟨[.ref a], []⟩) (fun r s' => r = .ok (.ret (.bool true)) /\ OldK s₁.heap s'.heap /\ s'.os = s₁.os /\ AllBare s'.gens) s₁ := by
    intro H hO hP hS hok hA hK
    have base_of : ∀ {b : Addr} {o : Obj}, s₁.heap.get? b = some o -> H b = none -> (a0w s₁.heap H).get? b = some o := fun e n => a4N e n
    have noA : ∀ {b : Addr} {o : Obj} {es : Array DictEntry} {ep : Nat}, s₁.heap.get? b = some o -> o.data = .dict es ep -> H b = none := fun {b o es ep} e d => by
      cases q : H b with
      | none => rfl
      | some u =>
        rcases hA b (by rw [q]; simp) with e' | e'
        . subst e'
          rw [ha] at e; cases e
          have d' : Data.seq vs.toArray _ = Data.dict es ep := d
          cases d'
        . rw [tabObj b e'] at e; cases e
          have d' : Data.fields #[] = Data.dict es ep := d
          cases d'
    have nsK : ∀ {b : Addr} {m : Str -> Option Value}, s₁.heap.Ns b m -> (a0w s₁.heap H).Ns b m := fun {b m} ⟨o, es, ep, e, d, r⟩ => ⟨o, es, ep, base_of e (noA e d), d, r⟩
    have hKb : K.In (a0w s₁.heap H) := fun b o e => base_of (KX b o e) (by
      cases q : H b with
      | none => rfl
      | some u =>
        rcases hA b (by rw [q]; simp) with e' | e'
        . subst e'
          rw [hK (by rw [q]; simp)] at e; cases e
        . rw [hKP b e'] at e; cases e)
    have hM : Mod K mg (a0w s₁.heap H) := ⟨hKb, nsK hns, ⟨mb, nsK hb, hbb⟩, let ⟨mc, h1, h2⟩ := hlim; ⟨mc, nsK h1, h2⟩⟩
    have BM' : a1a mg (a0w s₁.heap H) := by
      obtain ⟨bm, ob, b1, b2, b3, b4, b5, b6⟩ := BM
      refine ⟨bm, ob, b1, b2, base_of b3 ?_, b4, b5, b6⟩
      cases q : H bm with
      | none => rfl
      | some u =>
        rcases hA bm (by rw [q]; simp) with e' | e'
        . subst e'
          rw [ha] at b3; cases b3; exact absurd b4 (by intro z; injection z with z; exact absurd z (by decide))
        . rw [tabObj bm e'] at b3; cases b3; cases b4
    have e0 : Env0 P w K mg (a0w s₁.heap H) callerA [] s₁ H := ⟨rfl, hM, fun b o e => a7u e, Nat.le_of_eq (a4a _ _), trivial, fun b hb => absurd (show b ∈ ([] : List Addr) from hb) (by simp), hok, .of_eq hg⟩
    refine codeAny_mono ((F _ hKb (nsK hns) BM').run callerA [] s₁ H ⟨[.ref a], []⟩ [.ref a] [.ref a] _ _ hr e0 (hbind s₁ (.ref a)) (.cons rfl .nil) (hsp H hP hS)) fun r s' h => ?_
    cases r with
    | error e => exact (hCX H e s' h).elim
    | ok fl =>
      cases fl with
      | next => exact False.elim h
      | brk => exact False.elim h
      | cont => exact False.elim h
      | ret u =>
        obtain ⟨v, H', os, bare, un, hok', r', q⟩ := h
        have q' : v = .bl true := q
        subst q'
        obtain rfl : u = Value.bool true := r'
        refine ⟨rfl, ⟨fun b o e => ?_, fun b o e => un.there b o e (by simp)⟩, os, bare⟩
        rcases hO b with q | ⟨ob, xs, z⟩ | ⟨hbP, z⟩
        . exact .inl (un.keep b o e q (by intro z; exact absurd (show b ∈ ([] : List Addr) from z) (by simp)) (by simp))
        . have z2 := un.frzs b ob _ z
          obtain ⟨e1, _⟩ := hok b _ z
          obtain ⟨e2, _⟩ := hok' b _ z2
          rw [e] at e1; cases e1
          exact .inl e2
        . obtain ⟨more, z2⟩ := un.tbls b _ z
          have e2 : s'.heap.get? b = some { cls := .none, data := .fields (#[] ++ more) } := hok' b _ z2
          rw [tabObj b hbP] at e; cases e
          obtain ⟨c, ht⟩ := hT b hbP
          exact .inr (.inl ⟨ht.isCodeTable, rfl, #[], more, rfl, e2⟩)
  have aP : a ∉ Ps := fun z => by
    have := tabObj a z
    rw [ha] at this; cases this
  cases hk : K.lookup a with
  | some o =>
    have e := KX a o hk
    rw [ha] at e
    cases e
    refine core (fun b => if b ∈ Ps then some (.tbl #[]) else none) (fun b => ?_) (fun p hp => if_pos hp) (.inr ⟨_, vs.toArray, _, hk, rfl, rfl, rfl, by rw [List.size_toArray, lenV]; exact hl, by simpa using rv⟩) (fun b u z => ?_) (fun b z => ?_) fun z => absurd (if_neg aP) z
    . by_cases hb : b ∈ Ps
      . exact .inr (.inr ⟨hb, if_pos hb⟩)
      . exact .inl (if_neg hb)
    . by_cases hb : b ∈ Ps
      . have z' := (if_pos hb).symm.trans z
        cases z'
        exact tabObj b hb
      . have z' := (if_neg hb).symm.trans z
        cases z'
    . by_cases hb : b ∈ Ps
      . exact .inr hb
      . exact absurd (if_neg hb) z
  | none =>
    refine core (fun b => if b = a then some (.frz { cls := .type "list", data := .seq vs.toArray } (.lst (ns.map V.int))) else if b ∈ Ps then some (.tbl #[]) else none) (fun b => ?_) (fun p hp => ?_) (.inl (.inr ⟨{ cls := .type "list", data := .seq vs.toArray }, if_pos rfl⟩)) (fun b u z => ?_) (fun b z => ?_) fun _ => hk
    . by_cases hb : b = a
      . exact .inr (.inl ⟨_, _, if_pos hb⟩)
      . by_cases hb2 : b ∈ Ps
        . exact .inr (.inr ⟨hb2, (if_neg hb).trans (if_pos hb2)⟩)
        . exact .inl ((if_neg hb).trans (if_neg hb2))
    . have hb : p ≠ a := fun z => aP (z ▸ hp)
      exact (if_neg hb).trans (if_pos hp)
    . by_cases hb : b = a
      . have z' := (if_pos hb).symm.trans z
        cases z'
        subst hb
        exact ⟨ha, by rw [List.length_map]; exact hl, vs, _, rv, ha⟩
      . by_cases hb2 : b ∈ Ps
        . have z' := ((if_neg hb).trans (if_pos hb2)).symm.trans z
          cases z'
          exact tabObj b hb2
        . have z' := ((if_neg hb).trans (if_neg hb2)).symm.trans z
          cases z'
    . by_cases hb : b = a
      . exact .inl hb
      . by_cases hb2 : b ∈ Ps
        . exact .inr hb2
        . exact absurd ((if_neg hb).trans (if_neg hb2)) z
theorem walk_ofT {l : W.OpenLaw} {n k : Nat} {q : Program} {loose : List Str} {XP : (Str -> Option Value) -> Heap -> Prop} {YP : World -> Heap -> Prop} {d : DefRec} {K : Params -> W.Frag} {CX : World -> CXT} {sp : World -> Sp} {x : Str} {Ts : List (Addr × Addr)}
    (hn : l.most = some n) (hn2 : n <= sizeLine) (hdf : d.params.defaults = []) (hr : Room k callerA)
    (hY : ∀ (w : World) (h : Heap), YP w h -> (K w.params).In h /\ ∀ t ∈ Ts, h.get? t.2 = some (W.tabObj #[]))
    (hC : ∀ (w : World), ∀ t ∈ Ts, W.codeHdIn (K w.params) t.1 t.2 = true /\ (K w.params).lookup t.2 = none)
    (F : ∀ (w : World) (mg : Str -> Option Value) (fa : Addr) (h : Heap), (K w.params).In h -> h.Ns mainGlobals mg -> mg d.name = some (.ref fa) →
      ∃ fd : FuncData, (∀ (s : Shared) (u : Value), BindsTo s fd ⟨[u], []⟩ [(x, u)]) ∧
        ∀ base : Heap, (K w.params).In base -> base.Ns mainGlobals mg -> a1a mg base -> (∀ t ∈ Ts, W.CodeHd base t.1 t.2) -> x8 l.prog w (K w.params) mg base (CX w) k fa fd [x] (sp w))
    (hsp : ∀ (w : World) (H : Hp) (a : Addr) (ns : List Int), ns.length <= n -> (∀ t ∈ Ts, H t.2 = some (.tbl #[])) -> SqL (K w.params) H a (ns.map V.int) -> sp w [.ref a] H (fun v _ => v = .bl true) fun _ _ _ => False)
    (hCX : ∀ (w : World) (H : Hp) (s : Shared) (e : Value) (s' : Shared), CX w [] H s (fun _ _ _ => False) e s' -> False) :
    W.WalkO q loose XP YP l.row.toRowW d [] (fun f vs => PySem.call f vs) := by
  refine Att.attach_call hn hdf fun w s₀ s₁ mg mb fa o pm cd doc a vs ns G Y ho hd hcd hmg hobj hints hlen hg => ?_
  obtain ⟨KX, hTb⟩ := hY w _ Y
  obtain ⟨fd, hb, hF⟩ := F w mg fa _ KX G.T.g hmg
  have mem : ∀ p ∈ Ts.map (·.2), ∃ t ∈ Ts, t.2 = p := fun p hp => by
    obtain ⟨t, h1, h2⟩ := List.mem_map.mp hp
    exact ⟨t, h1, h2⟩
  refine a3Z (Ps := Ts.map (·.2)) KX G.T.g G.T.b G.T.builtins G.T.nolimit hg hobj hints (Nat.le_trans hlen hn2) hr (fun p hp => ?_) (fun p hp => ?_) G.T.bmain (fun base kb nb bm => hF base kb nb bm fun t ht => W.codeHd_of_K kb (hC w t ht).1) hb (fun H hP hS => hsp w H a ns hlen (fun t ht => hP _ (List.mem_map_of_mem ht)) hS) fun H e s' => hCX w H s₁ e s'
  . obtain ⟨t, h1, rfl⟩ := mem p hp
    exact ⟨t.1, (W.codeHd_of_K KX (hC w t h1).1).tab (hTb t h1)⟩
  . obtain ⟨t, h1, rfl⟩ := mem p hp
    exact (hC w t h1).2
end L2
namespace L2
open PySem
theorem a8G {X : Cx} {P : Program} {w : World} : R1 (T6 P w) X E0 := fun _ _ _ _ _ _ _ ⟨_, _, _, _, _, _, _, h⟩ => h.elim
end L2
namespace L2
open PySem
end L2
namespace Rim
open PySem L2 Fr
theorem T5 : ∀ ns : List Int, PyData.depthAll (ns.map PyData.int) <= 3
  | [] => by simp [PyData.depthAll]
  | n :: r => by
    rw [List.map_cons, PyData.depthAll]
    exact Nat.max_le.mpr ⟨by simp [PyData.depth], T5 r⟩
theorem a2k (h : h9) : (C6 h).depth <= 8 := by
  unfold C6 a3J
  have h1 := T5 h.1
  have h2 := T5 h.2
  rw [PyData.depth, PyData.depthAll, PyData.depth, PyData.depthAll, PyData.depth, PyData.depthAll]
  lia
theorem a0j : ∀ hs : List h9, PyData.depthAll (hs.map C6) <= 8
  | [] => by simp [PyData.depthAll]
  | h :: r => by
    rw [List.map_cons, PyData.depthAll]
    exact Nat.max_le.mpr ⟨a2k h, a0j r⟩
end Rim
namespace Rim
open PySem L2 Fr
open Tx (S cs ch w8 Asc)
def B9 (ns : List Int) : S := Str.join (ch 44) (ns.map w8)
def A7 (h : h9) : S := B9 h.1 ++ (ch 62 ++ (B9 h.2 ++ Str.empty))
def D7 (hs : List h9) : S := Str.join (ch 10) (hs.map A7)
def a1L (q : Q2) : S := if q.2 = 1 then w8 q.1 else w8 q.1 ++ (ch 47 ++ (w8 q.2 ++ Str.empty))
def Sm (ns : List Int) : Prop := ns.length <= 100 /\ ∀ n ∈ ns, 0 <= n /\ n < 10 ^ 10
theorem a3V {n : Int} (h0 : 0 <= n) (h1 : n < 10 ^ 10) : (w8 n).length <= 10 := by
  obtain ⟨m, rfl⟩ := Int.eq_ofNat_of_zero_le h0
  have := (Tx.num_len (m := m) (by omega)).2
  rw [Tx.len_cs]; exact this
theorem L6 {B : Nat} : ∀ {l : List S}, (∀ x ∈ l, x.length <= B) -> (l.map (·.length)).sum <= l.length * B
  | [], _ => by simp
  | x :: l, h => by
    have h1 := h x List.mem_cons_self
    have h2 := L6 (l := l) fun y hy => h y (List.mem_cons_of_mem _ hy)
    rw [List.map_cons, List.sum_cons, List.length_cons, Nat.add_mul]
    omega
theorem M0 {ns : List Int} (h : Sm ns) : ∀ x ∈ ns.map w8, x.length <= 10 := fun x hx => by
  obtain ⟨n, hn, rfl⟩ := List.mem_map.mp hx
  exact a3V (h.2 n hn).1 (h.2 n hn).2
theorem O0 {ns : List Int} (h : Sm ns) : (B9 ns).length <= 1100 := by
  have h1 := Nat.le_trans (PySem.StrLaws.join_length_le (ch 44) (ns.map w8)) (Nat.add_le_add_right (L6 (M0 h)) _)
  rw [List.length_map] at h1
  have h3 : (ch 44).length = 1 := rfl
  have := h.1
  rw [h3] at h1
  show (Str.join (ch 44) (ns.map w8)).length <= 1100
  omega
theorem a1e {n : Int} (h0 : 0 <= n) (h1 : n < 10 ^ 10) : n.natAbs.log2 < 1920 := by
  have h2 : n.natAbs < 2 ^ 40 := by omega
  by_cases z : n.natAbs = 0
  . rw [z]; decide
  . have := (Nat.log2_lt z).mpr h2
    omega
theorem a1b {ns : List Int} {i : Nat} {x : V} (h : (ns.map V.int)[i]? = some x) : ∃ k, x = .int k /\ k ∈ ns := by
  rw [List.getElem?_map] at h
  obtain ⟨k, hk, rfl⟩ := Option.map_eq_some_iff.mp h
  exact ⟨k, rfl, List.mem_of_getElem? hk⟩
section
variable {P : Program} {w : World} {K : W.Frag} {mg : Str -> Option Value} {base : Heap} {f : Addr} {fd : FuncData} {n : Nat}
def a4J (K : W.Frag) : Sp := fun vs H Q _ => ∃ (b : Bool) (a : Addr) (ns : List Int), vs = [.ref a] /\ SqB b K H a (ns.map V.int) /\ Sm ns /\ ∀ H', Same H H' -> Q (.str (B9 ns)) H'
theorem a8K : p6 ["numbers"] ["numbers"] (h7 L7) := ⟨rfl, rfl, rfl, by decide +kernel, rfl, by decide +kernel, by decide +kernel⟩
theorem a5u : (["number"] : List Str).Nodup := by decide +kernel
set_option maxHeartbeats 4000000 in
theorem a6L (F : Fun K "numbers_text" "numbers_text" L7 f fd) (zs : mg "str" = none) : x8 P w K mg base K1 (n + 1) f fd ["numbers"] (a4J K) := by
  refine F.ok a8K (fun vs H Q E h => ?_) (fun cdv A outer s H vs Q E hr h => ?_)
  . obtain ⟨b, a, ns, rfl, _⟩ := h
    rfl
  obtain ⟨b, a, ns, rfl, hS, hm, q⟩ := h
  cases b
  . have hS' : SqT K H a (ns.map V.int) := hS
    refine ⟨_, g0 (m6 (E5 PySem.F.plainAttrs_str PySem.F.slot_str_join PySem.F.type_str_join P0 t7 (c0 (N9 ["number"] [] rfl (O7 (pv 0)) (fun _ _ _ _ => j5 (i := 0) a5u rfl (Or.inl rfl)) (fun _ _ _ _ => t8 D3 rfl zs PyProof.Rows.boot_str (c0 (pv 0) c7))) c7))), ?_⟩
    refine ⟨rfl, _, rfl, a, rfl, ⟨_, hS'⟩, fun p hp => ?_⟩
    refine N2 (J7 hS') hp (by rw [List.length_map]; exact v4 (by have := hm.1; omega)) (fun x => .str (w8 (vI x))) (fun i x H' N hx e hN => ?_) ?_
    . obtain ⟨k, rfl, hk⟩ := a1b hx
      exact ⟨Wk.set (by decide), _, rfl, k, rfl, a1e (hm.2 k hk).1 (hm.2 k hk).2, hN⟩
    . refine ⟨_, p, ns.map w8, rfl, rfl, SqL.of (by rw [c6, List.map_map, List.map_map]; rfl), ?_, ?_⟩
      . refine Nat.le_trans (Nat.add_le_add_right (L6 (M0 hm)) _) ?_
        have := hm.1
        rw [List.length_map]
        show ns.length * 10 + ns.length * 1 <= _
        omega
      . rw [Tx.join_eq]
        exact q _ (Same.new hp _)
  . have hS' : SqL K H a (ns.map V.int) := hS
    refine ⟨_, g0 (m6 (E5 PySem.F.plainAttrs_str PySem.F.slot_str_join PySem.F.type_str_join P0 t7 (c0 (N9 ["number"] [] rfl (C0 (pv 0)) (fun _ _ _ _ => j5 (i := 0) a5u rfl (Or.inl rfl)) (fun _ _ _ _ => t8 D3 rfl zs PyProof.Rows.boot_str (c0 (pv 0) c7))) c7))), ?_⟩
    refine ⟨rfl, _, rfl, a, rfl, ⟨_, hS'⟩, fun p hp => ?_⟩
    refine N2 (B2 hS') hp (by rw [List.length_map]; exact v4 (by have := hm.1; omega)) (fun x => .str (w8 (vI x))) (fun i x H' N hx e hN => ?_) ?_
    . obtain ⟨k, rfl, hk⟩ := a1b hx
      exact ⟨Wk.set (by decide), _, rfl, k, rfl, a1e (hm.2 k hk).1 (hm.2 k hk).2, hN⟩
    . refine ⟨_, p, ns.map w8, rfl, rfl, SqL.of (by rw [c6, List.map_map, List.map_map]; rfl), ?_, ?_⟩
      . refine Nat.le_trans (Nat.add_le_add_right (L6 (M0 hm)) _) ?_
        have := hm.1
        rw [List.length_map]
        show ns.length * 10 + ns.length * 1 <= _
        omega
      . rw [Tx.join_eq]
        exact q _ (Same.new hp _)
def V9 (K : W.Frag) : Sp := fun vs H Q _ => ∃ (v : V) (h : h9), vs = [v] /\ HS K H v h /\ Sm h.1 /\ Sm h.2 /\ ∀ H', Same H H' -> Q (.str (A7 h)) H'
theorem scHouseT : p6 ["house", "takes", "gives"] ["house"] (h7 O5) := ⟨rfl, rfl, rfl, by decide +kernel, rfl, by decide +kernel, by decide +kernel⟩
theorem a4p {fa : Addr} {da : FuncData} (F : Fun K "house_text" "house_text" O5 f fd) (C : N1 P w K mg base n "numbers_text" ["numbers"] (a4J K) fa da) : x8 P w K mg base K1 (n + 1) f fd ["house"] (V9 K) := by
  refine F.ok scHouseT (fun vs H Q E h => ?_) (fun cdv A outer s H vs Q E hr h => ?_)
  . obtain ⟨v, h, rfl, _⟩ := h
    rfl
  obtain ⟨v, h, rfl, ⟨a, ta, ga, rfl, h0, h1, h2⟩, m1, m2, q⟩ := h
  refine ⟨_, h8 (E4 (pv 0) (G6 rfl (t6 (j5 (i := 1) scHouseT.nd rfl (Or.inl rfl)) (t6 (j5 (i := 2) scHouseT.nd rfl (Or.inl rfl)) C4))))
    (g0 (m6 (a1I (Z3 (r8 C.ok hr rfl C.m C.k C.b .nil x9 (c0 (pv 1) c7)) (a3n (Z3 (r8 C.ok hr rfl C.m C.k C.b .nil x9 (c0 (pv 2) c7)) a3t)))))), ?_⟩
  refine ⟨_, rfl, a, _, rfl, h0, rfl, _, _, rfl, _, _, rfl, rfl, ?_⟩
  refine ⟨_, rfl, false, ta, h.1, rfl, h1, m1, fun H1 e1 => ⟨_, .inr ⟨rfl, by have := O0 m1; omega⟩, _, rfl, false, ga, h.2, rfl, e1.tseq h2, m2, fun H2 e2 => ⟨_, .inr ⟨rfl, by have := O0 m2; omega⟩, ?_⟩⟩⟩
  exact q H2 (e1.trans e2)
def a1g (K : W.Frag) : Sp := fun vs H Q _ => ∃ (a : Addr) (xs : List V) (hs : List h9), vs = [.ref a] /\ SqL K H a xs /\ Bk K H xs hs /\ hs.length <= 100 /\ (∀ h ∈ hs, Sm h.1 /\ Sm h.2) /\ ∀ H', Same H H' -> Q (.str (D7 hs)) H'
theorem a6U : p6 ["book"] ["book"] (h7 P8) := ⟨rfl, rfl, rfl, by decide +kernel, rfl, by decide +kernel, by decide +kernel⟩
theorem a6t : (["house"] : List Str).Nodup := by decide +kernel
theorem a0f {h : h9} (m1 : Sm h.1) (m2 : Sm h.2) : (A7 h).length <= 2300 := by
  have h1 := O0 m1
  have h2 := O0 m2
  unfold A7
  rw [Tx.len_cs, Tx.cs_app, Tx.cs_app, Tx.cs_app, List.length_append, List.length_append, List.length_append]
  rw [Tx.len_cs] at h1 h2
  have h3 : (cs (ch 62)).length = 1 := rfl
  have h4 : (cs Str.empty).length = 0 := rfl
  omega
theorem a4A {fa : Addr} {da : FuncData} (F : Fun K "book_text" "book_text" P8 f fd) (C : N1 P w K mg base n "house_text" ["house"] (V9 K) fa da) : x8 P w K mg base K1 (n + 1) f fd ["book"] (a1g K) := by
  refine F.ok a6U (fun vs H Q E h => ?_) (fun cdv A outer s H vs Q E hr h => ?_)
  . obtain ⟨a, xs, hs, rfl, _⟩ := h
    rfl
  obtain ⟨a, xs, hs, rfl, hS, hB, hl, hm, q⟩ := h
  refine ⟨_, g0 (m6 (E5 PySem.F.plainAttrs_str PySem.F.slot_str_join PySem.F.type_str_join P0 t7 (c0 (N9 ["house"] [] rfl (C0 (pv 0)) (fun _ _ _ _ => j5 (i := 0) a6t rfl (Or.inl rfl)) (fun _ _ _ _ => r8 C.ok hr rfl C.m C.k C.b .nil x9 (c0 (pv 0) c7))) c7))), ?_⟩
  have xl : xs.length = hs.length := Paired.length hB
  refine ⟨rfl, _, rfl, a, rfl, ⟨_, hS⟩, fun p hp => ?_⟩
  refine E9 (B2 hS) hp (v4 (by omega)) (fun i y _ => ∃ h, hs[i]? = some h /\ y = .str (A7 h)) (fun _ _ _ _ r _ => r) (fun i y H2 zs N hy e hp' hN => ?_) (fun zs H2 e hp' len pr => ?_)
  . obtain ⟨h, hh, r⟩ := Paired.at hB hy
    obtain ⟨m1, m2⟩ := hm h (List.mem_of_getElem? hh)
    exact ⟨Wk.set (by decide), _, rfl, y, h, rfl, r.same e, m1, m2, fun H3 e3 => hN _ _ e3 ⟨h, hh, rfl⟩⟩
  . have ez : zs = (hs.map A7).map V.str := by
      refine List.ext_getElem? fun i => ?_
      by_cases hi : i < zs.length
      . obtain ⟨h, hh, e1⟩ := pr i _ (List.getElem?_eq_getElem hi)
        rw [List.getElem?_eq_getElem hi, e1, List.getElem?_map, List.getElem?_map, hh]; rfl
      . rw [List.getElem?_eq_none (by omega), List.getElem?_eq_none (by rw [List.length_map, List.length_map]; omega)]
    rw [ez] at hp'
    refine ⟨_, p, hs.map A7, rfl, rfl, SqL.of hp', ?_, ?_⟩
    . have h1 := L6 (B := 2300) (l := hs.map A7) fun x hx => by
        obtain ⟨h, hh, rfl⟩ := List.mem_map.mp hx
        exact a0f (hm h hh).1 (hm h hh).2
      refine Nat.le_trans (Nat.add_le_add_right h1 _) ?_
      rw [List.length_map]
      show hs.length * 2300 + hs.length * 1 <= _
      omega
    . rw [Tx.join_eq]
      exact q _ e
def a3k (K : W.Frag) : Sp := fun vs H Q _ => ∃ (v : V) (q : Q2), vs = [v] /\ FrV K H v q /\ q.1.natAbs.log2 < 1920 /\ q.2.natAbs.log2 < 1920 /\ Q (.str (a1L q)) H
theorem scFracT : p6 ["one", "top", "bottom"] ["one"] (h7 K2) := ⟨rfl, rfl, rfl, by decide +kernel, rfl, by decide +kernel, by decide +kernel⟩
theorem a5f (F : Fun K "fraction_text" "fraction_text" K2 f fd) : x8 P w K mg base K1 (n + 1) f fd ["one"] (a3k K) := by
  refine F.ok scFracT (fun vs H Q E h => ?_) (fun cdv A outer s H vs Q E hr h => ?_)
  . obtain ⟨v, x, rfl, _⟩ := h
    rfl
  obtain ⟨v, x, rfl, ⟨a, rfl, h0⟩, l1, l2, q⟩ := h
  refine ⟨_, h8 (E4 (pv 0) (G6 rfl (t6 (j5 (i := 1) scFracT.nd rfl (Or.inl rfl)) (t6 (j5 (i := 2) scFracT.nd rfl (Or.inl rfl)) C4))))
    (g0 (m6 (V0 (j3 G4 (pv 2) d0 (o3 _)) (a4R (pv 1)) (a1I (Z3 (pv 1) (a3n (Z3 (pv 2) a3t))))))), ?_⟩
  refine ⟨_, rfl, a, _, rfl, h0, rfl, _, _, rfl, _, _, rfl, rfl, ?_⟩
  refine ⟨_, rfl, rfl, _, rfl, ?_⟩
  unfold a1L at q
  refine A2 (fun c => ?_) (fun c => ?_)
  . have c' : x.2 = 1 := by simpa using c
    rw [if_pos c'] at q
    exact ⟨_, rfl, _, .inl ⟨x.1, rfl, l1, rfl⟩, q⟩
  . have c' : ¬ x.2 = 1 := by simpa using c
    rw [if_neg c'] at q
    exact ⟨_, rfl, _, .inl ⟨x.1, rfl, l1, rfl⟩, _, rfl, _, .inl ⟨x.2, rfl, l2, rfl⟩, q⟩
end
end Rim
namespace Rim
open PySem L2 Fr
open Tx (S cs ch w8 Asc C1 v7)
abbrev FIG : S := Str.ofString "0123456789"
theorem a3h : ∀ c, c < 128 -> (Builtin.Str.occurrences FIG (ch c) 0 FIG.length 1).isEmpty = !(decide (48 <= c) && decide (c <= 57)) := by decide +kernel
def a1s : Option Int -> V
  | none => .non
  | some n => .int n
theorem C7 (x : S) : C1 x = (decide (1 <= (cs x).length) && decide ((cs x).length <= 10) && (cs x).all (fun c => decide (48 <= c) && decide (c <= 57)) && (decide ((cs x).head? ≠ some 48) || decide (cs x = [48]))) := rfl
section
variable {P : Program} {w : World} {K : W.Frag} {mg : Str -> Option Value} {base : Heap} {f : Addr} {fd : FuncData} {n : Nat}
def R8 : Sp := fun vs H Q _ => ∃ z : S, vs = [.str z] /\ Asc z /\ z.length <= 100000 /\ ∀ H', Same H H' -> Q (a1s (v7 z)) H'
theorem a6X : p6 ["text"] ["text"] (h7 N0) := ⟨rfl, rfl, rfl, by decide +kernel, rfl, by decide +kernel, by decide +kernel⟩
theorem a6N : (["sign"] : List Str).Nodup := by decide +kernel
set_option maxHeartbeats 4000000 in
theorem a5n (F : Fun K "read_number" "read_number" N0 f fd) (T : y6 mg) (CM : ∃ t, mg "MOST_FIGURES" = some (.int 10 t)) (CF : ∃ t, mg "FIGURES" = some (.str FIG t)) : x8 P w K mg base K1 (n + 1) f fd ["text"] R8 := by
  refine F.ok a6X (fun vs H Q E h => ?_) (fun cdv A outer s H vs Q E hr h => ?_)
  . obtain ⟨z, rfl, _⟩ := h
    rfl
  obtain ⟨z, rfl, ha, hl, q⟩ := h
  obtain ⟨tm, hM⟩ := CM
  obtain ⟨tf, hF⟩ := CF
  refine ⟨_, h8 (u9 (PW.pt (K0 (G7 (U7 S5 S5 d0 (i7 E8 rfl T.len PySem.boot_len (c0 (pv 0) c7)) (A3 (v := .int 10) rfl hM ⟨_, rfl⟩))) (G9 (M1 (i7 (a1Y rfl) rfl T.any PyProof.Rows.boot_any (c0 (N9 ["sign"] [] rfl (a6d (pv 0)) (fun _ _ _ _ => j5 (i := 0) a6N rfl (Or.inl rfl)) (fun _ _ _ _ => M4 V4 (pv 0) (A3 (v := .str FIG) rfl hF ⟨_, rfl⟩) rfl)) c7)))))) (g0 (m6 B8)) r6)
    (h8 (u9 (PW.pt (Q6 (j3 G4 (p7 a0t (pv 0) d0 (fun _ _ => rfl)) t7 (o3 _)) (M7 (j3 S9 (pv 0) t7 (o3 _))))) (g0 (m6 B8)) r6)
    (g0 (m6 (t8 U1 rfl T.int PyProof.Rows.boot_int (c0 (pv 0) c7))))), ?_⟩
  have lz := Tx.len_cs z
  have hsl : z.length <= sizeLine := by rw [sizeLine_eq]; omega
  have no : C1 z = false -> Q .non H := fun c => by
    have := q H (Same.refl _)
    unfold v7 at this
    rw [if_neg (by rw [c]; exact Bool.false_ne_true)] at this
    exact this
  have no' : C1 z = false -> ∀ H', Same H H' -> Q .non H' := fun c H' e => by
    have := q H' e
    unfold v7 at this
    rw [if_neg (by rw [c]; exact Bool.false_ne_true)] at this
    exact this
  refine ⟨_, rfl, z, rfl, hsl, _, _, rfl, rfl, _, rfl, ?_⟩
  refine A2 (fun c1 => ?_) (fun c1 => ?_)
  rotate_left
  . have c1' : ¬ 1 <= z.length := fun h => c1 (decide_eq_true (by omega))
    refine ⟨_, rfl, C9 (no ?_)⟩
    rw [C7, decide_eq_false (by rw [<- lz]; exact c1')]; rfl
  have c1' : 1 <= z.length := by have := of_decide_eq_true c1; omega
  refine ⟨_, _, rfl, rfl, _, rfl, ?_⟩
  by_cases c2 : z.length <= 10
  rotate_left
  . rw [show decide ((z.length : Int) <= 10) = false from decide_eq_false (by omega)]
    refine C9 (no ?_)
    rw [C7, decide_eq_false (show ¬ (cs z).length <= 10 by rw [<- lz]; exact c2)]; simp
  rw [show decide ((z.length : Int) <= 10) = true from decide_eq_true (by omega)]
  refine D0 ?_
  refine ⟨_, rfl, z, rfl, fun p hp => ?_⟩
  have sl : (G3 z).length = (cs z).length := List.length_map _
  refine E9 a1T hp (v4 (by omega)) (fun i y _ => ∃ c, (cs z)[i]? = some c /\ y = .bl (!(decide (48 <= c) && decide (c <= 57)))) (fun _ _ _ _ r _ => r) (fun i y H2 zs N hy e hp' hN => ?_) (fun zs H2 e hp' len pr => ?_)
  . unfold G3 at hy
    rw [List.getElem?_map] at hy
    obtain ⟨c, hc, rfl⟩ := Option.map_eq_some_iff.mp hy
    refine ⟨Wk.set (by decide), _, rfl, _, _, rfl, rfl, ?_⟩
    rw [a3h c (ha c (List.mem_of_getElem? hc)), Bool.not_not]
    exact hN _ _ (Same.refl _) ⟨c, hc, rfl⟩
  have ez : zs = ((cs z).map fun c => !(decide (48 <= c) && decide (c <= 57))).map V.bl := by
    refine List.ext_getElem? fun i => ?_
    by_cases hi : i < zs.length
    . obtain ⟨h, hh, e1⟩ := pr i _ (List.getElem?_eq_getElem hi)
      rw [List.getElem?_eq_getElem hi, e1, List.getElem?_map, List.getElem?_map, hh]; rfl
    . rw [List.getElem?_eq_none (by omega), List.getElem?_eq_none (by rw [List.length_map, List.length_map]; omega)]
  rw [ez] at hp'
  refine ⟨p, _, rfl, .inl (SqL.of hp'), _, rfl, ?_⟩
  have ean : (((cs z).map fun c => !(decide (48 <= c) && decide (c <= 57))).any id) = !((cs z).all fun c => decide (48 <= c) && decide (c <= 57)) := by
    rw [List.any_map, List.not_all_eq_any_not]; rfl
  rw [ean]
  by_cases c3 : (cs z).all (fun c => decide (48 <= c) && decide (c <= 57)) = true
  rotate_left
  . have c3' : (cs z).all (fun c => decide (48 <= c) && decide (c <= 57)) = false := Bool.eq_false_iff.mpr c3
    rw [c3']
    refine C9 (no' ?_ _ e)
    rw [C7, c3']; simp
  rw [c3]
  refine D0 ?_
  obtain ⟨d, r, hd⟩ : ∃ d r, cs z = d :: r := by
    cases h : cs z with
    | nil => rw [h] at lz; simp at lz; omega
    | cons d r => exact ⟨d, r, rfl⟩
  refine ⟨_, rfl, z, 0, d, rfl, rfl, hsl, ?_, rfl, _, rfl, ?_⟩
  . show S6 (cs z) 0 = some d
    rw [hd]; exact E2 (j := 0) rfl
  have e0 : (V.str (ch d) = V.str (Str.ofString "0")) ↔ d = 48 := by
    constructor
    . intro h
      have h1 : ch d = Str.ofString "0" := V.str.inj h
      have h2 := congrArg cs h1
      have h3 : cs (Str.ofString "0") = [48] := by decide
      rw [h3] at h2
      exact (List.cons.inj h2).1
    . intro h; subst h; exact congrArg V.str (Tx.ext (by decide))
  have e1 : (V.str z = V.str (Str.ofString "0")) ↔ cs z = [48] := by
    constructor
    . intro h; rw [V.str.inj h]; decide
    . intro h; exact congrArg V.str (Tx.ext (by rw [h]; decide))
  have yes : C1 z = true -> Q (.int ((PySem.NumText.digitsVal (cs z) : Nat) : Int)) H2 := fun c => by
    have := q H2 e
    unfold v7 at this
    rw [if_pos c] at this
    exact this
  have dig : PySem.NumText.AllDigits (cs z) := fun c hc => by
    have := List.all_eq_true.mp c3 c hc
    rw [Bool.and_eq_true] at this
    exact ⟨of_decide_eq_true this.1, of_decide_eq_true this.2⟩
  have fin : C1 z = true -> ∃ z' n, [V.str z] = [V.str z'] /\ intText? z' = some n /\ z'.length <= 640 /\ Q (.int n) H2 := fun c =>
    ⟨z, _, rfl, PySem.intText_digits dig (by show cs z ≠ []; rw [hd]; simp) (by omega), by omega, yes c⟩
  have base0 : (decide (1 <= (cs z).length) && decide ((cs z).length <= 10) && (cs z).all (fun c => decide (48 <= c) && decide (c <= 57))) = true := by
    rw [decide_eq_true (by rw [<- lz]; exact c1'), decide_eq_true (by rw [<- lz]; exact c2), c3]; rfl
  refine A2 (fun c4 => ?_) (fun c4 => ?_)
  . have c4' : d = 48 := e0.mp (of_decide_eq_true c4)
    refine ⟨_, rfl, rfl, _, rfl, ?_⟩
    refine A2 (fun c5 => ?_) (fun c5 => ?_)
    . refine no' ?_ _ e
      have : ¬ V.str z = V.str (Str.ofString "0") := by simpa using c5
      rw [C7, base0, hd, c4', decide_eq_false (fun h => h rfl), decide_eq_false (fun h => this (e1.mpr (by rw [hd, c4']; exact h)))]
      rfl
    . have : V.str z = V.str (Str.ofString "0") := by simpa using c5
      refine ⟨_, rfl, fin ?_⟩
      rw [C7, base0, decide_eq_true (e1.mp this)]; simp
  . have c4' : ¬ d = 48 := fun h => c4 (decide_eq_true (e0.mpr h))
    refine ⟨_, rfl, fin ?_⟩
    rw [C7, base0, decide_eq_true (show (cs z).head? ≠ some 48 by rw [hd]; exact fun h => c4' (Option.some.inj h))]; rfl
end
end Rim
namespace Rim
open PySem L2 Fr
section
variable {P : Program} {w : World} {K : W.Frag} {mg : Str -> Option Value} {base : Heap} {f Pt d : Addr} {fd : FuncData} {n : Nat} {C : Addr}
end
end Rim
namespace Rim
open PySem L2 Fr
section
variable {P : Program} {w : World} {K : W.Frag} {mg : Str -> Option Value} {base : Heap} {f Pt d : Addr} {fd : FuncData} {n : Nat} {C : Addr}
end
end Rim
namespace Rim
open PySem L2 Fr
structure b2l (z : Str) (hs : List h9) (h : h9) (S : Lp.Bo) (kt kg : Nat) (ws : List Int) : Prop where
  lw : ws.length = hs.length
  nn : ∀ x ∈ ws, 0 <= x /\ Big 20000 x
  size : a2M z ws.sum (S.T (mE hs) (qE z h))
  takes : ∀ j, j < kt -> a0z hs ws 0 j <= h.1.getD j 0 * S.T (mE hs) (qE z h)
  gives : ∀ j, j < kg -> h.2.getD j 0 * S.d <= a0z hs ws 1 j
  pos : 0 < S.T (mE hs) (qE z h)
  le : S.T (mE hs) (qE z h) <= S.d
  fair : ∀ g ∈ hs, a2Y g (pgA h (D9 (mE hs) (qE z h) S)) (psA z h (D9 (mE hs) (qE z h) S)) <= pay g (ptA h (D9 (mE hs) (qE z h) S))
  pays : pay h (ptA h (D9 (mE hs) (qE z h) S)) - psA z h (D9 (mE hs) (qE z h) S) = S.d
  gvs : dot h.2 (pgA h (D9 (mE hs) (qE z h) S)) = S.T (mE hs) (qE z h)
  pr : PrN (ptA h (D9 (mE hs) (qE z h) S)) (pgA h (D9 (mE hs) (qE z h) S)) (psA z h (D9 (mE hs) (qE z h) S)) (S.T (mE hs) (qE z h)) kt kg
  sign : a1f z (psA z h (D9 (mE hs) (qE z h) S))
end Rim
namespace Rim
open PySem L2 Fr
section
variable {P : Program} {w : World} {K : W.Frag} {mg : Str -> Option Value} {base : Heap} {f Pt d CN : Addr} {fd : FuncData} {n : Nat} {C : Addr}
end
end Rim
namespace Lp
section
variable {m q : Nat} {A : Nat -> Nat -> Int} {b c : Nat -> Int} {S : Bo}
end
end Lp
namespace Rim
open PySem L2 Fr
section
variable {P : Program} {w : World} {K : W.Frag} {mg : Str -> Option Value} {base : Heap} {f Pt d : Addr} {fd : FuncData} {n : Nat} {C : Addr}
end
end Rim
namespace Rim
open PySem L2 Fr
section
variable {P : Program} {w : World} {K : W.Frag} {mg : Str -> Option Value} {base : Heap} {f Pt d : Addr} {fd : FuncData} {n : Nat} {C : Addr}
end
end Rim
namespace Rim
open PySem L2 Fr
structure b2h (z : Str) (hs : List h9) (h : h9) (pt pg : List Int) (ps : Int) : Prop where
  lt : pt.length = h.1.length
  lg : pg.length = h.2.length
  tp : ∀ x ∈ pt, 0 < x
  gp : ∀ x ∈ pg, 0 < x
  sign : a1f z ps
  fair : ∀ g ∈ hs, a2Y g pg ps <= pay g pt
  firm : a2Y h pg ps = pay h pt
section
variable {z : Str} {hs : List h9} {h : h9} {S : Lp.Bo} {kt kg i : Nat}
end
end Rim
namespace L2
open PySem
section
variable {fr : List Nat} {tc : TT} {σ : St} {H1 : Hp} {p : Addr} {D : Hp -> Prop} {P : Addr} {pos : Pos} {qual : Str} {n : Nat}
end
end L2
namespace Rim
open PySem L2 Fr
open Classical in
section
variable {P : Program} {w : World} {K : W.Frag} {mg : Str -> Option Value} {base : Heap} {f Pt d : Addr} {fd : FuncData} {n : Nat} {C : Addr}
end
end Rim
namespace Rim
open PySem L2 Fr
structure Mx (z : Str) (hs : List h9) (ws : List Int) (D : Int) : Prop where
  lw : ws.length = hs.length
  nn : ∀ x ∈ ws, 0 <= x
  d : 0 < D
  size : a2M z ws.sum D
structure Px (z : Str) (hs : List h9) (kt kg : Nat) (pt pg : List Int) (ps : Int) : Prop where
  lt : pt.length = kt
  lg : pg.length = kg
  tn : ∀ x ∈ pt, 0 <= x
  gn : ∀ x ∈ pg, 0 <= x
  sign : a1f z ps
  fair : ∀ g ∈ hs, a2Y g pg ps <= pay g pt
section
variable {z : Str} {hs : List h9} {h : h9} {kt kg : Nat} {ws pt pg : List Int} {D ps : Int}
structure Shr (z : Str) (hs : List h9) (h : h9) (kt kg : Nat) (A B : Int) (ws : List Int) (D : Int) : Prop where
  m : Mx z hs ws D
  t : ∀ j, j < kt -> a0z hs ws 0 j * B <= h.1.getD j 0 * A * D
  g : ∀ j, j < kg -> h.2.getD j 0 * D <= a0z hs ws 1 j
structure Gro (z : Str) (hs : List h9) (h : h9) (kt kg : Nat) (A B : Int) (ws : List Int) (D : Int) : Prop where
  m : Mx z hs ws D
  t : ∀ j, j < kt -> a0z hs ws 0 j <= h.1.getD j 0 * D
  g : ∀ j, j < kg -> h.2.getD j 0 * A * D <= a0z hs ws 1 j * B
def a3w (z : Str) (hs : List h9) (h : h9) (kt kg : Nat) (A B : Int) : Prop := 0 < B /\ (∃ ws D, Shr z hs h kt kg A B ws D) /\ ∃ pt pg ps, Px z hs kt kg pt pg ps /\ 0 < pay h pt /\ a2Y h pg ps * B = A * pay h pt
def a8F (z : Str) (hs : List h9) (h : h9) (kt kg : Nat) (A B : Int) : Prop := 0 < B /\ (∃ ws D, Gro z hs h kt kg A B ws D) /\ ∃ pt pg ps, Px z hs kt kg pt pg ps /\ 0 < dot h.2 pg /\ A * dot h.2 pg = (pay h pt - ps) * B
end
end Rim
namespace Rim
open PySem L2 Fr
section
variable {z : Str} {hs : List h9} {h : h9} {kt kg i : Nat}
end
end Rim
namespace Rim
open PySem L2 Fr
section
variable {z : Str} {hs hs' : List h9} {h : h9} {kt kg : Nat} {far : Int}
end
end Rim
namespace Rim
open PySem L2 Fr
theorem L9 {X : Cx} {l : List Stmt} : PSs X l fun _ _ _ => False := fun _ _ _ _ _ _ h => h.elim
structure ShU (z : Str) (hs : List h9) (h : h9) (kt kg : Nat) (A B : Int) : Prop where
  s : a3w z hs h kt kg A B
  a : Big 20000 A
  p : 0 < A
  b : 0 < B
  c : B < 2 ^ 8000
theorem Paired.app {α β : Type} {F : α -> β -> Prop} : ∀ {l₁ m₁ : List α} {l₂ m₂ : List β}, PySem.Paired F l₁ l₂ -> PySem.Paired F m₁ m₂ -> PySem.Paired F (l₁ ++ m₁) (l₂ ++ m₂)
  | _, _, _, _, .nil, h => h
  | _, _, _, _, .cons r t, h => .cons r (Paired.app t h)
section
variable {P : Program} {w : World} {K : W.Frag} {mg : Str -> Option Value} {base : Heap} {f Pt d CN CB : Addr} {fd : FuncData} {n : Nat} {C : Addr}
end
end Rim
namespace L2
open PySem PySem.Spec PyProof.Rows
section
variable {prog : Program} {w : World} {A : Around} {E : Value -> Shared -> Prop} {s : Shared}
end
section
variable {b : Bool} {xs : List V} {K : W.Frag} {l : Addr} {fr : List Nat} {te : TE} {σ : St} {H1 : Hp} {p : Addr} {D : Hp -> Prop}
end
end L2
set_option maxHeartbeats 1000000
namespace L2
open PySem PySem.Spec PyProof.Rows
section
variable {prog : Program} {w : World} {A : Around} {E : Value -> Shared -> Prop} {s : Shared}
end
section
variable {prog : Program} {w : World} {A : Around} {E : Value -> Shared -> Prop} {s : Shared}
end
end L2
namespace L2
open PySem PySem.Spec PyProof.Rows
section
variable {b1 b2 : Bool} {xs ys : List V} {K : W.Frag} {l1 l2 : Addr} {fr : List Nat} {tc : TT} {σ : St} {H1 : Hp} {p : Addr} {D : Hp -> Prop}
end
end L2
namespace L2
open PySem
end L2
namespace Rim
open PySem L2 Fr
def a1m (l : Int) (ns : List Int) : Prop := ∀ x ∈ ns, l <= x /\ x <= 1000000000
def GoodK (h : h9) (m n : Int) : Prop := ((h.1.length : Int) = m /\ a1m 1 h.1) /\ ((h.2.length : Int) = n /\ a1m 0 h.2) /\ ∃ x ∈ h.2, 0 < x
def a4u (h : h9) : Prop := h.1.length <= 1000 /\ h.2.length <= 1000
theorem GoodK.hg {h : h9} {kt kg : Nat} (g : GoodK h kt kg) : HG (10 ^ 9) kt kg h := ⟨by have := g.1.1; omega, by have := g.2.1.1; omega, fun x hx => ⟨(g.1.2 x hx).1, (g.1.2 x hx).2⟩, fun x hx => ⟨(g.2.1.2 x hx).1, (g.2.1.2 x hx).2⟩, g.2.2⟩
section
variable {P : Program} {w : World} {K : W.Frag} {mg : Str -> Option Value} {base : Heap} {f CN CB CT : Addr} {fd : FuncData} {n : Nat}
theorem O6 {X : Cx} : G1 X (.builtin "isinstance") (fun vs H Q => ∃ a xs n b, vs = [.ref a, .ty n] /\ SqT X.K H a xs /\ W.kitOne X.K (.type "tuple") (.type n) = some b /\ Q (.bl b) H) := by
  intro pins s σ H vs us Q I r h
  obtain ⟨a, xs, n, b, rfl, hs, e, q⟩ := h
  obtain ⟨u, v, rfl, ru, rv⟩ := a0R r
  cases rv
  cases (show u = Value.ref a from ru)
  have hx : ∃ o, s.heap.get? a = some o /\ o.cls = .type "tuple" := by
    rcases hs with hs | ⟨o, its, n, h1, h2, _⟩
    . obtain ⟨_, _, _, p⟩ := (show ObjOk X.prog X.w H s.heap a (.tup xs) from hs.ok I.hok)
      obtain ⟨o, h1, h2, _⟩ := p
      exact ⟨o, h1, h2⟩
    . exact ⟨o, I.kIn a o h1, h2⟩
  exact W.kia_one W.kitx_tuple I.kIn hx e (fun z => nomatch z) fun tk => ⟨.bl b, H, I.tok _, rfl, q⟩
def a5p : Sp := fun vs H Q _ => ∃ i : Int, vs = [.int i] /\ Q (.bl true) H
theorem a8X : p6 ["thing"] ["thing"] (h7 T7) := ⟨rfl, rfl, rfl, by decide +kernel, rfl, by decide +kernel, by decide +kernel⟩
theorem a6k (F : Fun K "is_whole" "is_whole" T7 f fd) (T : y6 mg) : x8 P w K mg base K1 (n + 1) f fd ["thing"] a5p := by
  refine F.ok a8X (fun vs H Q E h => ?_) (fun cdv A outer s H vs Q E hr h => ?_)
  . obtain ⟨i, rfl, _⟩ := h
    rfl
  obtain ⟨i, rfl, q⟩ := h
  refine ⟨_, g0 (m6 (a2H (i7 J8 rfl T.isi PyProof.Rows.boot_isinstance (c0 (pv 0) (c0 (J4 (v := .ty "int") rfl T.int PyProof.Rows.boot_int rfl) c7)))
    (a2y (a4v (i7 J8 rfl T.isi PyProof.Rows.boot_isinstance (c0 (pv 0) (c0 (J4 (v := .ty "bool") rfl T.bool PyProof.Rows.boot_bool rfl) c7))))))), ?_⟩
  refine ⟨_, rfl, _, _, "int", true, rfl, .int i, J5 _, _, rfl, C9 ?_⟩
  exact ⟨_, rfl, _, _, "bool", false, rfl, .int i, V5, _, rfl, q⟩
def a4T (K : W.Frag) : Sp := fun vs H Q _ => ∃ (a : Addr) (ns : List Int) (m l : Int), vs = [.ref a, .int m, .int l] /\ SqT K H a (ns.map V.int) /\ ns.length <= 1000 ∧
  ∀ (b : Bool) (H' : Hp), Same H H' -> (b = true ↔ ((ns.length : Int) = m /\ a1m l ns)) -> Q (.bl b) H'
theorem a8P : p6 ["thing", "many", "least"] ["thing", "many", "least"] (h7 M8) := ⟨rfl, rfl, rfl, by decide +kernel, rfl, by decide +kernel, by decide +kernel⟩
theorem a8Q : (["amount", "least"] : List Str).Nodup := by decide +kernel
theorem a4y {N : VK} {b b' : Bool} {H : Hp} (h : N (.bl b) H) (e : b' = b) : N (.bl b') H := by rw [e]; exact h
theorem a7q {g : Addr} {gd : FuncData} (F : Fun K "are_amounts" "are_amounts" M8 f fd) (T : y6 mg) (C : ∃ t, mg "MOST_AMOUNT" = some (.int 1000000000 t)) (G : Cal P w K mg base n "is_whole" ["thing"] a5p g gd) : x8 P w K mg base K1 (n + 1) f fd ["thing", "many", "least"] (a4T K) := by
  refine F.ok a8P (fun vs H Q E h => ?_) (fun cdv A outer s H vs Q E hr h => ?_)
  . obtain ⟨a, ns, m, l, rfl, _⟩ := h
    rfl
  obtain ⟨a, ns, m, l, rfl, hS, hz, q⟩ := h
  obtain ⟨tm, hma⟩ := C
  refine ⟨_, h8 (u9 (PW.pt (K0 (G7 (M1 (i7 O6 rfl T.isi PyProof.Rows.boot_isinstance (c0 (pv 0) (c0 (J4 (v := .ty "tuple") rfl T.tuple PyProof.Rows.boot_tuple rfl) c7))))) (G9 (j3 S9 (i7 j8 rfl T.len PySem.boot_len (c0 (pv 0) c7)) (pv 1) (o3 _))))) (g0 (m6 a0a)) r6)
    (g0 (m6 (i7 (a2c rfl) rfl T.all PyProof.Rows.boot_all (c0
      (N9 ["amount"] [2] rfl (O7 (pv 0)) (fun _ _ _ _ => j5 (i := 0) a8Q rfl (Or.inl rfl))
        (fun _ _ _ _ => a2H (r8 G.ok hr rfl G.m G.k G.b .nil x9 (c0 (pv 0) c7)) (a2y (a6b S5 S5 (pv 1) (pv 0) (A3 (v := .int 1000000000) rfl hma ⟨_, rfl⟩))))) c7)))), ?_⟩
  have hl : (ns.map V.int).length = ns.length := List.length_map _
  refine ⟨_, rfl, a, _, "tuple", true, rfl, hS, J5 _, _, rfl, D0 ?_⟩
  refine ⟨_, rfl, a, _, rfl, .inr hS, _, rfl, rfl, _, rfl, ?_⟩
  refine A2 (fun c => ?_) (fun c => ?_)
  . refine q _ _ (Same.refl _) ?_
    have c' : ¬ (ns.length : Int) = m := fun h => by simp [h] at c
    simp [c']
  . have c' : (ns.length : Int) = m := by simpa using c
    refine ⟨_, rfl, a, rfl, ⟨_, hS⟩, fun p hp => ?_⟩
    refine N2 (J7 hS) hp (by rw [hl]; exact v4 hz) (fun x => .bl (decide (l <= vI x /\ vI x <= 1000000000))) (fun i x H' N hx e hN => ?_) ?_
    . obtain ⟨k, rfl⟩ := G5 hx
      refine ⟨Wk.set (by decide), _, rfl, k, rfl, _, rfl, C9 ?_⟩
      refine ⟨_, rfl, _, rfl, _, _, rfl, rfl, _, rfl, ?_⟩
      refine A2 (fun c => ?_) (fun c => ?_)
      . have c1 : l <= k := of_decide_eq_true c
        refine ⟨_, _, rfl, rfl, ?_⟩
        exact a4y hN (by simp [vI, c1])
      . have c1 : ¬ l <= k := of_decide_eq_false (Bool.eq_false_iff.mpr c)
        exact a4y hN (by simp [vI, c1])
    . refine ⟨p, ns.map (fun i => decide (l <= i /\ i <= 1000000000)), rfl, .inl (SqL.of (by rw [c6, List.map_map, List.map_map]; rfl)), ?_⟩
      refine q _ _ (Same.new hp _) ?_
      rw [List.all_map, List.all_eq_true]
      constructor
      . intro z
        exact ⟨c', fun x hx => by simpa using z x hx⟩
      . intro z x hx
        simpa using z.2 x hx
def a2V (K : W.Frag) : Sp := fun vs H Q _ => ∃ (v : V) (h : h9) (m n : Int), vs = [v, .int m, .int n] /\ HS K H v h /\ a4u h ∧
  ∀ (b : Bool) (H' : Hp), Same H H' -> (b = true ↔ GoodK h m n) -> Q (.bl b) H'
theorem scIsHK : p6 ["thing", "many_takes", "many_gives", "takes", "gives"] ["thing", "many_takes", "many_gives"] (h7 T2) := ⟨rfl, rfl, rfl, by decide +kernel, rfl, by decide +kernel, by decide +kernel⟩
theorem a8D : (["give"] : List Str).Nodup := by decide +kernel
theorem a6s {g : Addr} {gd : FuncData} (F : Fun K "is_house" "is_house" T2 f fd) (T : y6 mg) (G : Cal P w K mg base n "are_amounts" ["thing", "many", "least"] (a4T K) g gd) :
    x8 P w K mg base K1 (n + 1) f fd ["thing", "many_takes", "many_gives"] (a2V K) := by
  refine F.ok scIsHK (fun vs H Q E h => ?_) (fun cdv A outer s H vs Q E hr h => ?_)
  . obtain ⟨v, h, m, l, rfl, _⟩ := h
    rfl
  obtain ⟨v, h, m, l, rfl, ⟨a, t, gv, rfl, h0, h1, h2⟩, ⟨hz1, hz2⟩, q⟩ := h
  refine ⟨_, h8 (u9 (PW.pt (K0 (G7 (M1 (i7 O6 rfl T.isi PyProof.Rows.boot_isinstance (c0 (pv 0) (c0 (J4 (v := .ty "tuple") rfl T.tuple PyProof.Rows.boot_tuple rfl) c7))))) (G9 (j3 S9 (i7 j8 rfl T.len PySem.boot_len (c0 (pv 0) c7)) d0 (o3 _))))) (g0 (m6 a0a)) r6)
    (h8 (E4 (pv 0) (G6 rfl (t6 (j5 (i := 3) scIsHK.nd rfl (Or.inl rfl)) (t6 (j5 (i := 4) scIsHK.nd rfl (Or.inl rfl)) C4))))
    (h8 (u9 (G7 (PW.pt (Q6 (M1 (r8 G.ok hr rfl G.m G.k G.b .nil x9 (c0 (pv 3) (c0 (pv 1) (c0 d0 c7))))) (M7 (M1 (r8 G.ok hr rfl G.m G.k G.b .nil x9 (c0 (pv 4) (c0 (pv 2) (c0 d0 c7)))))))))
      (g0 (m6 a0a)) r6)
    (g0 (m6 (i7 (a1Y rfl) rfl T.any PyProof.Rows.boot_any (c0 (N9 ["give"] [] rfl (O7 (pv 4)) (fun _ _ _ _ => j5 (i := 0) a8D rfl (Or.inl rfl)) (fun _ _ _ _ => M4 P5 (pv 0) d0 (o3 _))) c7)))))), ?_⟩
  refine ⟨_, rfl, a, _, "tuple", true, rfl, h0, J5 _, _, rfl, D0 ?_⟩
  refine ⟨_, rfl, a, _, rfl, .inr h0, rfl, _, rfl, a9W rfl ?_⟩
  refine ⟨_, rfl, a, _, rfl, h0, rfl, _, _, rfl, _, _, rfl, rfl, ?_⟩
  refine ⟨_, rfl, _, rfl, t, h.1, m, 1, rfl, h1, hz1, fun b1 H1 e1 i1 => ⟨_, rfl, ?_⟩⟩
  refine A2 (fun c1 => ?_) (fun c1 => ?_)
  . refine ⟨_, rfl, _, rfl, gv, h.2, l, 0, rfl, e1.tseq h2, hz2, fun b2 H2 e2 i2 => ⟨_, rfl, ?_⟩⟩
    refine A2 (fun c2 => ?_) (fun c2 => ?_)
    . refine q _ _ (e1.trans e2) ?_
      have : ¬ b2 = true := by simpa using c2
      constructor
      . intro z; cases z
      . intro z; exact absurd (i2.mpr z.2.1) this
    . have c2' : b2 = true := by simpa using c2
      have e12 := e1.trans e2
      have hl : (h.2.map V.int).length = h.2.length := List.length_map _
      refine ⟨_, rfl, gv, rfl, ⟨_, e12.tseq h2⟩, fun p hp => ?_⟩
      refine N2 (J7 (e12.tseq h2)) hp (by rw [hl]; exact v4 hz2) (fun x => .bl (decide (0 < vI x))) (fun i x H' N hx e hN => ?_) ?_
      . obtain ⟨k, rfl⟩ := G5 hx
        exact ⟨Wk.set (by decide), _, rfl, _, _, rfl, rfl, hN⟩
      . refine ⟨p, h.2.map (fun i => decide (0 < i)), rfl, .inl (SqL.of (by rw [c6, List.map_map, List.map_map]; rfl)), ?_⟩
        refine q _ _ (e12.trans (Same.new hp _)) ?_
        rw [List.any_map, List.any_eq_true]
        constructor
        . rintro ⟨x, hx, z⟩
          exact ⟨i1.mp c1, i2.mp c2', x, hx, by simpa using z⟩
        . rintro ⟨_, _, x, hx, z⟩
          exact ⟨x, hx, by simpa using z⟩
  . refine C9 ?_
    refine q _ _ e1 ?_
    constructor
    . intro z; cases z
    . intro z; exact absurd (i1.mpr z.1) c1
end
end Rim
namespace L2
open PySem PySem.Spec PyProof.Rows
section
variable {X : Cx}
def b1l (K : W.Frag) : R2 := fun x y H Q => ∃ (p : Addr) (xs : List V) (ds : List PyData) (d : PyData), y = .ref p /\ SqL K H p xs /\ Dps K H xs ds /\ Dp K H x d /\ PyData.canLayAll0 ds = true /\ d.canLay0 = true /\ d.depth <= 50 /\ Q (.bl (ds.any fun e => PyData.eqv e d)) H
theorem a0Y {k : Nat} (hr : Room k X.A) : P6 X (compareOp .In) (b1l X.K) := by
  intro pins s σ H x y v u Q I rx ry h
  obtain ⟨p, xs, ds, d, rfl, hq, hD, hd, c1, c2, dp, q⟩ := h
  cases ry
  obtain ⟨its, r, pl, hz⟩ := I.list hq
  obtain ⟨as, rs⟩ := hD.reads I r
  obtain ⟨bs, rx'⟩ := hd.reads I rx
  refine SeqAt.in_listAt (fun w => PyData.eqv (SeqAt.readOf s.heap w) d) pl.isList (SeqAt.items_eqAt (xs := ds) (as := as) (by simpa using rs) rx' c1 c2 (by have := hr.units; omega)) ⟨.bl _, H, I, rfl, ?_⟩
  have e1 : its.toArray.any (fun v => PyData.eqv (SeqAt.readOf s.heap v) d) = ds.any fun e => PyData.eqv e d := by
    rw [<- SeqAt.readsAll_map ds its as c1 rs, List.any_map, List.any_toArray]; rfl
  rw [e1]; exact q
end
end L2
namespace Rim
open PySem L2 Fr
open Tx (S cs ch w8 Asc C1 v7)
def O1 {α : Type} : List (Option α) -> Option (List α)
  | [] => some []
  | none :: _ => none
  | some a :: r => (O1 r).map (a :: ·)
theorem B3 {α : Type} : ∀ {l : List (Option α)} {r : List α}, O1 l = some r -> l = r.map some
  | [], r, h => by cases h; rfl
  | none :: _, _, h => by cases h
  | some a :: l, r, h => by
    unfold O1 at h
    obtain ⟨r', hr, rfl⟩ := Option.map_eq_some_iff.mp h
    rw [B3 hr]; rfl
theorem a3s {α : Type} : ∀ (r : List α), O1 (r.map some) = some r
  | [] => rfl
  | a :: r => by show (O1 (r.map some)).map (a :: ·) = _; rw [a3s r]; rfl
theorem a0M {α : Type} : ∀ {l : List (Option α)}, O1 l = none -> none ∈ l
  | [], h => by cases h
  | none :: _, _ => List.mem_cons_self
  | some a :: l, h => by
    unfold O1 at h
    exact List.mem_cons_of_mem _ (a0M (Option.map_eq_none_iff.mp h))
def v6 (z : S) : Option (List Int) := O1 ((Txt.split z (ch 44)).map v7)
theorem E6 {z p : S} {c : Nat} (h : p ∈ Txt.split z (ch c)) : p.length <= z.length := PyProof.Rows.part_short h
theorem C2 {z : S} {c : Nat} : (Txt.split z (ch c)).length <= z.length + 1 := by
  have := PyProof.Rows.split_weight z (ch c) (Nat.le_refl 1)
  omega
theorem Z5 : ∀ l : List (Option Int), inV .non (l.map a1s) = l.any (·.isNone)
  | [] => rfl
  | o :: l => by
    have ih := Z5 l
    unfold inV at ih ⊢
    rw [List.map_cons, List.any_cons, List.any_cons, ih]
    cases o <;> rfl
theorem a2b (l : List (Option Int)) : (l.map a1s).all V3 = true := by
  rw [List.all_eq_true]
  intro y hy
  obtain ⟨o, _, rfl⟩ := List.mem_map.mp hy
  cases o <;> rfl
theorem any_none {α : Type} {l : List (Option α)} : (l.any (·.isNone) = true) ↔ O1 l = none := by
  rw [List.any_eq_true]
  constructor
  . rintro ⟨o, ho, hn⟩
    cases o with
    | some _ => cases hn
    | none =>
      cases e : O1 l with
      | none => rfl
      | some r =>
        rw [B3 e] at ho
        obtain ⟨_, _, h⟩ := List.mem_map.mp ho
        cases h
  . intro h
    exact ⟨none, a0M h, rfl⟩
section
variable {P : Program} {w : World} {K : W.Frag} {mg : Str -> Option Value} {base : Heap} {f : Addr} {fd : FuncData} {n : Nat}
def a3c (K : W.Frag) : Sp := fun vs H Q _ => ∃ z : S, vs = [.str z] /\ Asc z /\ z.length <= 100000 /\ (v6 z = none -> ∀ H', Same H H' -> Q .non H') /\ ∀ ns, v6 z = some ns -> ∀ t H', Same H H' -> H' t = some (.tup (ns.map V.int)) -> Q (.ref t) H'
theorem scReadA : p6 ["text", "amounts"] ["text"] (h7 L5) := ⟨rfl, rfl, rfl, by decide +kernel, rfl, by decide +kernel, by decide +kernel⟩
theorem a7l : (["word"] : List Str).Nodup := by decide +kernel
set_option maxHeartbeats 4000000 in
theorem a4X {fa : Addr} {da : FuncData} (F : Fun K "read_amounts" "read_amounts" L5 f fd) (T : y6 mg) (C : N1 P w K mg base n "read_number" ["text"] R8 fa da) : x8 P w K mg base K1 (n + 1) f fd ["text"] (a3c K) := by
  refine F.ok scReadA (fun vs H Q E h => ?_) (fun cdv A outer s H vs Q E hr h => ?_)
  . obtain ⟨z, rfl, _⟩ := h
    rfl
  obtain ⟨z, rfl, ha, hl, q0, q1⟩ := h
  refine ⟨_, h8 (U2 (i := 1) ["word"] [] scReadA.nd rfl rfl rfl (C0 (E5 PySem.F.plainAttrs_str PySem.F.slot_str_split PySem.F.type_str_split J6 (pv 0) (c0 t7 c7))) (fun _ _ _ _ => j5 (i := 0) a7l rfl (Or.inl rfl)) (fun _ _ _ _ => r8 C.ok hr rfl C.m C.k C.b .nil x9 (c0 (pv 0) c7)))
    (g0 (m6 (V0 (j3 W2 B8 (pv 1) rfl) B8 (t8 A9 rfl T.tuple PyProof.Rows.boot_tuple (c0 (pv 1) c7))))), ?_⟩
  have few := C2 (z := z) (c := 44)
  refine ⟨_, rfl, rfl, z, ch 44, rfl, rfl, by decide, by rw [sizeLine_eq]; omega, fun l hl' => ?_⟩
  have s1 := Same.new hl' (.lst ((Txt.split z (ch 44)).map V.str))
  refine ⟨l, rfl, ⟨_, SqL.of c6⟩, fun p hp => ?_⟩
  refine E9 (B2 (SqL.of c6)) hp (by rw [List.length_map, sizeLine_eq]; omega) (fun i y _ => ∃ x, (Txt.split z (ch 44))[i]? = some x /\ y = a1s (v7 x)) (fun _ _ _ _ r _ => r) (fun i y H2 zs N hy e hp' hN => ?_) (fun zs H2 e hp' len pr => ?_)
  . rw [List.getElem?_map] at hy
    obtain ⟨x, hx, rfl⟩ := Option.map_eq_some_iff.mp hy
    have hxm := List.mem_of_getElem? hx
    exact ⟨Wk.set (by decide), _, rfl, x, rfl, Tx.asc_part ha hxm, Nat.le_trans (E6 hxm) hl, fun H3 e3 => hN _ _ e3 ⟨x, hx, rfl⟩⟩
  have ez : zs = ((Txt.split z (ch 44)).map v7).map a1s := by
    rw [List.length_map] at len
    refine List.ext_getElem? fun i => ?_
    by_cases hi : i < zs.length
    . obtain ⟨h, hh, e1⟩ := pr i _ (List.getElem?_eq_getElem hi)
      rw [List.getElem?_eq_getElem hi, e1, List.getElem?_map, List.getElem?_map, hh]; rfl
    . rw [List.getElem?_eq_none (by omega), List.getElem?_eq_none (by rw [List.length_map, List.length_map]; omega)]
  rw [ez] at hp'
  have e2 := s1.trans e
  refine ⟨_, rfl, p, _, rfl, .inl (SqL.of hp'), rfl, a2b _, _, rfl, ?_⟩
  refine A2 (fun c => ?_) (fun c => ?_)
  . have c' : ((Txt.split z (ch 44)).map v7).any (·.isNone) = true := by rw [<- Z5]; exact c
    exact q0 (any_none.mp c') _ e2
  . have c' : ¬ ((Txt.split z (ch 44)).map v7).any (·.isNone) = true := by rw [<- Z5]; exact c
    cases hr' : v6 z with
    | none => exact absurd (any_none.mpr hr') c'
    | some ns =>
      have en := B3 hr'
      have ev : ((Txt.split z (ch 44)).map v7).map a1s = ns.map V.int := by rw [en, List.map_map]; rfl
      rw [ev] at hp'
      refine ⟨_, rfl, p, _, rfl, .inl ⟨SqL.of hp', fun t ht => ?_⟩⟩
      exact q1 ns hr' t _ (e2.trans (Same.new ht _)) c6
def Q3 (h : h9) : Prop := (1 <= h.1.length /\ h.1.length <= 4) /\ (1 <= h.2.length /\ h.2.length <= 4) /\ GoodK h h.1.length h.2.length
def a2z (K : W.Frag) : Sp := fun vs H Q _ => ∃ (v : V) (h : h9), vs = [v] /\ HS K H v h /\ h.1.length <= 200000 /\ h.2.length <= 200000 /\ ∀ (b : Bool) (H' : Hp), Same H H' -> (b = true ↔ Q3 h) -> Q (.bl b) H'
theorem scAnyH : p6 ["thing", "takes", "gives"] ["thing"] (h7 L8) := ⟨rfl, rfl, rfl, by decide +kernel, rfl, by decide +kernel, by decide +kernel⟩
set_option maxHeartbeats 4000000 in
theorem a7n {fa : Addr} {da : FuncData} (F : Fun K "is_any_house" "is_any_house" L8 f fd) (T : y6 mg) (CM : ∃ t, mg "MOST_KINDS" = some (.int 4 t)) (C : Cal P w K mg base n "is_house" ["thing", "many_takes", "many_gives"] (a2V K) fa da) : x8 P w K mg base K1 (n + 1) f fd ["thing"] (a2z K) := by
  refine F.ok scAnyH (fun vs H Q E h => ?_) (fun cdv A outer s H vs Q E hr h => ?_)
  . obtain ⟨v, h, rfl, _⟩ := h
    rfl
  obtain ⟨v, h, rfl, ⟨a, ta, ga, rfl, h0, h1, h2⟩, l1, l2, q⟩ := h
  obtain ⟨tm, hM⟩ := CM
  refine ⟨_, h8 (E4 (pv 0) (G6 rfl (t6 (j5 (i := 1) scAnyH.nd rfl (Or.inl rfl)) (t6 (j5 (i := 2) scAnyH.nd rfl (Or.inl rfl)) C4))))
    (h8 (u9 (G7 (PW.pt (Q6 (U7 S5 S5 d0 (i7 j8 rfl T.len PySem.boot_len (c0 (pv 1) c7)) (A3 (v := .int 4) rfl hM ⟨_, rfl⟩)) (M7 (U7 S5 S5 d0 (i7 j8 rfl T.len PySem.boot_len (c0 (pv 2) c7)) (A3 (v := .int 4) rfl hM ⟨_, rfl⟩)))))) (g0 (m6 a0a)) r6)
    (g0 (m6 (r8 C.ok hr rfl C.m C.k C.b .nil x9 (c0 (pv 0) (c0 (i7 j8 rfl T.len PySem.boot_len (c0 (pv 1) c7)) (c0 (i7 j8 rfl T.len PySem.boot_len (c0 (pv 2) c7)) c7))))))), ?_⟩
  refine ⟨_, rfl, a, _, rfl, h0, rfl, _, _, rfl, _, _, rfl, rfl, ?_⟩
  have ln : ∀ l : List Int, ((l.map V.int).length : Int) = (l.length : Int) := fun l => by rw [List.length_map]
  have no : ¬ Q3 h -> Q (.bl false) H := fun c => q false H (Same.refl _) ⟨(fun z => nomatch z), fun z => absurd z c⟩
  refine ⟨_, rfl, ta, _, rfl, .inr h1, _, _, rfl, rfl, _, rfl, ?_⟩
  by_cases c1 : 1 <= h.1.length
  rotate_left
  . rw [decide_eq_false (by rw [ln]; omega)]
    refine D0 ⟨_, rfl, D0 (C9 (no fun z => c1 z.1.1))⟩
  rw [decide_eq_true (show (1 : Int) <= ((h.1.map V.int).length : Int) by rw [ln]; omega)]
  refine C9 ⟨_, _, rfl, rfl, _, rfl, ?_⟩
  by_cases c2 : h.1.length <= 4
  rotate_left
  . rw [decide_eq_false (by rw [ln]; omega)]
    exact D0 (C9 (no fun z => c2 z.1.2))
  rw [decide_eq_true (show ((h.1.map V.int).length : Int) <= 4 by rw [ln]; omega)]
  refine C9 ?_
  refine ⟨_, rfl, ga, _, rfl, .inr h2, _, _, rfl, rfl, _, rfl, ?_⟩
  by_cases c3 : 1 <= h.2.length
  rotate_left
  . rw [decide_eq_false (by rw [ln]; omega)]
    refine D0 ⟨_, rfl, C9 (no fun z => c3 z.2.1.1)⟩
  rw [decide_eq_true (show (1 : Int) <= ((h.2.map V.int).length : Int) by rw [ln]; omega)]
  refine C9 ⟨_, _, rfl, rfl, _, rfl, ?_⟩
  by_cases c4 : h.2.length <= 4
  rotate_left
  . rw [decide_eq_false (by rw [ln]; omega)]
    exact C9 (no fun z => c4 z.2.1.2)
  rw [decide_eq_true (show ((h.2.map V.int).length : Int) <= 4 by rw [ln]; omega)]
  refine D0 ?_
  refine ⟨_, rfl, _, rfl, ta, _, rfl, .inr h1, _, rfl, ga, _, rfl, .inr h2, .ref a, h, _, _, rfl, ⟨a, ta, ga, rfl, h0, h1, h2⟩, ⟨by omega, by omega⟩, fun b H' e i => ?_⟩
  refine q b H' e (i.trans ?_)
  rw [ln, ln]
  exact ⟨fun g => ⟨⟨c1, c2⟩, ⟨c3, c4⟩, g⟩, fun g => g.2.2⟩
end
end Rim
namespace Rim
open PySem L2 Fr
open Tx (S cs ch w8 Asc C1 v7)
open Classical in
noncomputable def y4 (z : S) : Option h9 := match (Txt.split z (ch 62)).map v6 with
  | [some a, some b] => if Q3 (a, b) then some (a, b) else none
  | _ => none
def AV (H : Hp) (v : V) : Option (List Int) -> Prop
  | none => v = .non
  | some ns => ∃ t, v = .ref t /\ H t = some (.tup (ns.map V.int))
def dA : Option (List Int) -> PyData
  | none => .none
  | some ns => .tuple (ns.map PyData.int)
theorem a0B {K : W.Frag} {H : Hp} : ∀ ns : List Int, Dps K H (ns.map V.int) (ns.map PyData.int)
  | [] => .nil
  | n :: ns => .cons (.int n) (a0B ns)
theorem AV.dp {K : W.Frag} {H : Hp} {v : V} {o : Option (List Int)} (h : AV H v o) : Dp K H v (dA o) := by
  cases o with
  | none => cases (show v = .non from h); exact .non
  | some ns => obtain ⟨t, rfl, h2⟩ := h; exact .tup (SqT.of h2) (a0B ns)
theorem a0I : ∀ ns : List Int, PyData.canLayAll0 (ns.map PyData.int) = true
  | [] => by rw [List.map_nil, PyData.canLayAll0]
  | n :: ns => by rw [List.map_cons, PyData.canLayAll0, a0I ns]; rfl
theorem a9w (o : Option (List Int)) : (dA o).canLay0 = true := by
  cases o with
  | none => rfl
  | some ns => unfold dA; rw [PyData.canLay0]; exact a0I ns
theorem b0r (o : Option (List Int)) : PyData.eqv (dA o) .none = o.isNone := by
  cases o with
  | none => simp [dA, PyData.eqv]
  | some ns => simp [dA, PyData.eqv]
theorem a4M : ∀ os : List (Option (List Int)), PyData.canLayAll0 (os.map dA) = true
  | [] => by rw [List.map_nil, PyData.canLayAll0]
  | o :: os => by rw [List.map_cons, PyData.canLayAll0, a4M os, a9w]; rfl
theorem a9P {K : W.Frag} {H : Hp} {vs : List V} {os : List (Option (List Int))} (h : PySem.Paired (AV H) vs os) : Dps K H vs (os.map dA) := by
  induction h with
  | nil => exact .nil
  | cons r _ ih => exact .cons r.dp ih
theorem N7 {α β γ : Type} {R : β -> γ -> Prop} {f : α -> γ} : ∀ {ys : List β} {xs : List α}, ys.length = xs.length -> (∀ (i : Nat) y, ys[i]? = some y -> ∃ x, xs[i]? = some x /\ R y (f x)) -> PySem.Paired R ys (xs.map f)
  | [], [], _, _ => .nil
  | y :: ys, x :: xs, hl, h => by
    obtain ⟨x', hx, r⟩ := h 0 y rfl
    cases hx
    exact .cons r (N7 (by simpa using hl) fun i y' h' => h (i + 1) y' (by simpa using h'))
  | [], _ :: _, hl, _ => by simp at hl
  | _ :: _, [], hl, _ => by simp at hl
theorem a0W {z : S} {ns : List Int} (h : v6 z = some ns) : ns.length <= z.length + 1 := by
  have := congrArg List.length (B3 h)
  rw [List.length_map, List.length_map] at this
  have := C2 (z := z) (c := 44)
  omega
section
variable {P : Program} {w : World} {K : W.Frag} {mg : Str -> Option Value} {base : Heap} {f : Addr} {fd : FuncData} {n : Nat}
def U4 (K : W.Frag) : Sp := fun vs H Q _ => ∃ z : S, vs = [.str z] /\ Asc z /\ z.length <= 100000 /\ (y4 z = none -> ∀ H', Same H H' -> Q .non H') /\ ∀ h, y4 z = some h -> ∀ t ta ga H', Same H H' -> H' t = some (.tup [.ref ta, .ref ga]) -> H' ta = some (.tup (h.1.map V.int)) -> H' ga = some (.tup (h.2.map V.int)) -> Q (.ref t) H'
theorem scReadH : p6 ["text", "sides", "house"] ["text"] (h7 O9) := ⟨rfl, rfl, rfl, by decide +kernel, rfl, by decide +kernel, by decide +kernel⟩
theorem a7x : (["side"] : List Str).Nodup := by decide +kernel
set_option maxHeartbeats 4000000 in
theorem a4W {fa fb : Addr} {da db : FuncData} (F : Fun K "read_house" "read_house" O9 f fd) (T : y6 mg) (C : N1 P w K mg base n "read_amounts" ["text"] (a3c K) fa da) (D : N1 P w K mg base n "is_any_house" ["thing"] (a2z K) fb db) : x8 P w K mg base K1 (n + 1) f fd ["text"] (U4 K) := by
  refine F.ok scReadH (fun vs H Q E h => ?_) (fun cdv A outer s H vs Q E hr h => ?_)
  . obtain ⟨z, rfl, _⟩ := h
    rfl
  obtain ⟨z, rfl, ha, hl, q0, q1⟩ := h
  refine ⟨_, h8 (U2 (i := 1) ["side"] [] scReadH.nd rfl rfl rfl (C0 (E5 PySem.F.plainAttrs_str PySem.F.slot_str_split PySem.F.type_str_split J6 (pv 0) (c0 t7 c7))) (fun _ _ _ _ => j5 (i := 0) a7x rfl (Or.inl rfl)) (fun _ _ _ _ => r8 C.ok hr rfl C.m C.k C.b .nil x9 (c0 (pv 0) c7)))
    (h8 (u9 (PW.pt (K0 (j3 S9 (i7 j8 rfl T.len PySem.boot_len (c0 (pv 1) c7)) d0 (o3 _)) (G9 (j3 (a0Y hr) B8 (pv 1) rfl)))) (g0 (m6 B8)) r6)
    (h8 (r9 (i := 2) scReadH.nd rfl (Or.inl rfl) (t8 A9 rfl T.tuple PyProof.Rows.boot_tuple (c0 (pv 1) c7)))
    (g0 (m6 (V0 (M1 (r8 D.ok hr rfl D.m D.k D.b .nil x9 (c0 (pv 2) c7))) (pv 2) B8))))), ?_⟩
  have few := C2 (z := z) (c := 62)
  refine ⟨_, rfl, rfl, z, ch 62, rfl, rfl, by decide, by rw [sizeLine_eq]; omega, fun l hl' => ?_⟩
  have s1 := Same.new hl' (.lst ((Txt.split z (ch 62)).map V.str))
  refine ⟨l, rfl, ⟨_, SqL.of c6⟩, fun p hp => ?_⟩
  refine E9 (B2 (SqL.of c6)) hp (by rw [List.length_map, sizeLine_eq]; omega) (fun i y H' => ∃ x, (Txt.split z (ch 62))[i]? = some x /\ ∀ H'' : Hp, (∀ b o, b ≠ p -> H' b = some o -> H'' b = some o) -> AV H'' y (v6 x)) (fun i y Ha Hb ⟨h, h1, h2⟩ st => ⟨h, h1, fun H'' st2 => h2 H'' fun b o hb hh => st2 b o hb (st b o hb hh)⟩) (fun i y H2 zs N hy e hp' hN => ?_) (fun zs H2 e hp' len pr => ?_)
  . rw [List.getElem?_map] at hy
    obtain ⟨x, hx, rfl⟩ := Option.map_eq_some_iff.mp hy
    have hxm := List.mem_of_getElem? hx
    refine ⟨Wk.set (by decide), _, rfl, x, rfl, Tx.asc_part ha hxm, Nat.le_trans (E6 hxm) hl, fun c H3 e3 => hN _ _ e3 ⟨x, hx, fun H'' _ => by rw [c]; rfl⟩, fun ns c t H3 e3 ht => hN _ _ e3 ⟨x, hx, fun H'' st => by rw [c]; exact ⟨t, rfl, st _ _ (K5 ht (e3 _ _ hp') nofun) ht⟩⟩⟩
  have e2 := s1.trans e
  rw [List.length_map] at len
  have PA : PySem.Paired (AV H2) zs ((Txt.split z (ch 62)).map v6) := N7 len fun i y hy => by
    obtain ⟨x, hx, r⟩ := pr i y hy
    exact ⟨x, hx, r _ fun b o _ h => h⟩
  have no : y4 z = none -> Q .non H2 := fun c => q0 c _ e2
  refine ⟨_, rfl, p, _, rfl, .inl (SqL.of hp'), rfl, _, rfl, ?_⟩
  have nomatch2 : ((Txt.split z (ch 62)).map v6).length ≠ 2 \/ none ∈ (Txt.split z (ch 62)).map v6 -> y4 z = none := fun c => by
    unfold y4
    generalize (Txt.split z (ch 62)).map v6 = os at c
    rcases os with _ | ⟨o, _ | ⟨o', _ | ⟨o'', r⟩⟩⟩
    . rfl
    . cases o <;> rfl
    . cases o <;> cases o' <;> first | rfl | (simp at c)
    . cases o <;> cases o' <;> rfl
  have pl : ((Txt.split z (ch 62)).map v6).length = zs.length := by rw [List.length_map]; exact len.symm
  refine A2 (fun c => ?_) (fun c => ?_)
  . have : ¬ ((zs.length : Int) = 2) := fun h => by simp [h] at c
    refine C9 (no (nomatch2 (.inl ?_)))
    rw [pl]; omega
  . have c2 : zs.length = 2 := by
      have : (zs.length : Int) = 2 := by simpa using c
      omega
    refine ⟨_, rfl, p, zs, _, .none, rfl, SqL.of hp', a9P PA, .non, a4M _, rfl, by decide, _, rfl, ?_⟩
    have ea : ((((Txt.split z (ch 62)).map v6).map dA).any fun e => PyData.eqv e .none) = ((Txt.split z (ch 62)).map v6).any (·.isNone) := by
      rw [List.any_map]
      congr 1
      funext o
      exact b0r o
    rw [ea]
    refine A2 (fun c3 => ?_) (fun c3 => ?_)
    . obtain ⟨o, ho, hn⟩ := List.any_eq_true.mp c3
      have : o = none := by cases o with | none => rfl | some _ => cases hn
      subst this
      exact no (nomatch2 (.inr ho))
    . obtain ⟨a, b, hab⟩ : ∃ a b, (Txt.split z (ch 62)).map v6 = [some a, some b] := by
        rw [<- pl] at c2
        generalize (Txt.split z (ch 62)).map v6 = os at c2 c3
        rcases os with _ | ⟨o, _ | ⟨o', _ | ⟨o'', r⟩⟩⟩
        . simp at c2
        . simp at c2
        . cases o with
          | none => simp at c3
          | some a => cases o' with
            | none => simp at c3
            | some b => exact ⟨a, b, rfl⟩
        . simp at c2
      have eH : ∀ {x : Option h9}, (open Classical in if Q3 (a, b) then some (a, b) else none) = x -> y4 z = x := fun h => by
        unfold y4; rw [hab]; exact h
      rw [hab] at PA
      obtain ⟨x1, x2, hx1, hx2⟩ : ∃ x1 x2, (Txt.split z (ch 62))[0]? = some x1 /\ (Txt.split z (ch 62))[1]? = some x2 := ⟨_, _, List.getElem?_eq_getElem (by omega), List.getElem?_eq_getElem (by omega)⟩
      have r1 : v6 x1 = some a := by
        have := congrArg (fun l => l[0]?) hab
        simp only [List.getElem?_map, hx1] at this
        exact Option.some.inj this
      have r2 : v6 x2 = some b := by
        have := congrArg (fun l => l[1]?) hab
        simp only [List.getElem?_map, hx2] at this
        exact Option.some.inj this
      have n1 := a0W r1
      have n2 := a0W r2
      have m1 := E6 (List.mem_of_getElem? hx1)
      have m2 := E6 (List.mem_of_getElem? hx2)
      cases PA with
      | cons v1 PA => cases PA with
        | cons v2 PA =>
          cases PA
          obtain ⟨ta, rfl, hta⟩ := v1
          obtain ⟨ga, rfl, hga⟩ := v2
          refine ⟨_, rfl, p, _, rfl, .inl ⟨SqL.of hp', fun t ht => ?_⟩⟩
          have t1 := Same.new ht (.tup [V.ref ta, V.ref ga])
          refine ⟨_, rfl, .ref t, (a, b), rfl, ⟨t, ta, ga, rfl, SqT.of c6, SqT.of (t1 _ _ hta), SqT.of (t1 _ _ hga)⟩, by show a.length <= _; omega, by show b.length <= _; omega, fun b' H3 e3 i => ⟨_, rfl, ?_⟩⟩
          have e23 := e2.trans (t1.trans e3)
          refine A2 (fun c4 => ?_) (fun c4 => ?_)
          . refine ⟨_, rfl, q1 (a, b) (eH (if_pos (i.mp c4))) t ta ga H3 e23 (e3 _ _ c6) (e3 _ _ (t1 _ _ hta)) (e3 _ _ (t1 _ _ hga))⟩
          . exact q0 (eH (if_neg fun g => c4 (i.mpr g))) _ e23
end
end Rim
namespace Rim
open PySem L2 Fr
open Tx (S cs ch w8 Asc C1 v7)
def IsB (hs : List h9) : Prop := (1 <= hs.length /\ hs.length <= 16) /\ ∃ h0, hs[0]? = some h0 /\ Q3 h0 /\ ∀ h ∈ hs, GoodK h h0.1.length h0.2.length
open Classical in
noncomputable def B4 (z : S) : Option (List h9) := match O1 ((Txt.split z (ch 10)).map y4) with
  | some hs => if IsB hs then some hs else none
  | none => none
theorem a0P {z : S} {h : h9} (e : y4 z = some h) : Q3 h := by
  unfold y4 at e
  split at e
  . split at e
    . cases e; assumption
    . cases e
  . cases e
section
variable {P : Program} {w : World} {K : W.Frag} {mg : Str -> Option Value} {base : Heap} {f : Addr} {fd : FuncData} {n : Nat}
def a7M (K : W.Frag) : Sp := fun vs H Q _ => ∃ (a : Addr) (xs : List V) (hs : List h9), vs = [.ref a] /\ SqL K H a xs /\ Bk K H xs hs /\ hs.length <= 200000 /\ (∀ h ∈ hs, a4u h) /\ ∀ (b : Bool) (H' : Hp), Same H H' -> (b = true ↔ IsB hs) -> Q (.bl b) H'
theorem scIsB : p6 ["thing", "takes", "gives"] ["thing"] (h7 X3) := ⟨rfl, rfl, rfl, by decide +kernel, rfl, by decide +kernel, by decide +kernel⟩
theorem b0o : (["house", "takes", "gives"] : List Str).Nodup := by decide +kernel
set_option maxHeartbeats 4000000 in
theorem a8E {fa fb : Addr} {da db : FuncData} (F : Fun K "is_book" "is_book" X3 f fd) (T : y6 mg) (CM : ∃ t, mg "MOST_HOUSES" = some (.int 16 t)) (D : N1 P w K mg base n "is_any_house" ["thing"] (a2z K) fb db) (C : Cal P w K mg base n "is_house" ["thing", "many_takes", "many_gives"] (a2V K) fa da) : x8 P w K mg base K1 (n + 1) f fd ["thing"] (a7M K) := by
  refine F.ok scIsB (fun vs H Q E h => ?_) (fun cdv A outer s H vs Q E hr h => ?_)
  . obtain ⟨a, xs, hs, rfl, _⟩ := h
    rfl
  obtain ⟨a, xs, hs, rfl, hS, hB, hl, hm, q⟩ := h
  obtain ⟨tm, hM⟩ := CM
  refine ⟨_, h8 (u9 (PW.pt (K0 (G7 (U7 S5 S5 d0 (i7 j8 rfl T.len PySem.boot_len (c0 (pv 0) c7)) (A3 (v := .int 16) rfl hM ⟨_, rfl⟩))) (G9 (G7 (M1 (r8 D.ok hr rfl D.m D.k D.b .nil x9 (c0 (p7 j4 (pv 0) d0 (fun _ _ => rfl)) c7))))))) (g0 (m6 a0a)) r6)
    (h8 (E4 (p7 j4 (pv 0) d0 (fun _ _ => rfl)) (G6 rfl (t6 (j5 (i := 1) scIsB.nd rfl (Or.inr rfl)) (t6 (j5 (i := 2) scIsB.nd rfl (Or.inr rfl)) C4))))
    (g0 (m6 (i7 (a2c rfl) rfl T.all PyProof.Rows.boot_all (c0 (N9 ["house"] [1, 2] rfl (C0 (pv 0)) (fun _ _ _ _ => j5 (i := 0) b0o rfl (Or.inl rfl)) (fun _ _ _ _ => r8 C.ok hr rfl C.m C.k C.b .nil x9 (c0 (pv 0) (c0 (i7 (a1x K rfl) rfl T.len PySem.boot_len (c0 (pv 1) c7)) (c0 (i7 (a1x K rfl) rfl T.len PySem.boot_len (c0 (pv 2) c7)) c7))))) c7))))), ?_⟩
  have xl : xs.length = hs.length := Paired.length hB
  have no : ¬ IsB hs -> Q (.bl false) H := fun c => q false H (Same.refl _) ⟨(fun z => nomatch z), fun z => absurd z c⟩
  refine ⟨_, rfl, a, _, rfl, .inl hS, _, _, rfl, rfl, _, rfl, ?_⟩
  by_cases c1 : 1 <= hs.length
  rotate_left
  . rw [decide_eq_false (by omega)]
    exact D0 ⟨_, rfl, C9 (no fun z => c1 z.1.1)⟩
  rw [decide_eq_true (show (1 : Int) <= (xs.length : Int) by omega)]
  refine C9 ⟨_, _, rfl, rfl, _, rfl, ?_⟩
  by_cases c2 : hs.length <= 16
  rotate_left
  . rw [decide_eq_false (by omega)]
    exact C9 (no fun z => c2 z.1.2)
  rw [decide_eq_true (show (xs.length : Int) <= 16 by omega)]
  refine D0 ?_
  obtain ⟨h0, hh0⟩ : ∃ h, hs[0]? = some h := ⟨_, List.getElem?_eq_getElem (by omega)⟩
  obtain ⟨x0, hx0⟩ : ∃ x, xs[0]? = some x := ⟨_, List.getElem?_eq_getElem (by omega)⟩
  obtain ⟨h0', hh0', r0⟩ := Paired.at hB hx0
  rw [hh0] at hh0'; cases hh0'
  have m0 := hm h0 (List.mem_of_getElem? hh0)
  refine ⟨_, rfl, a, _, _, _, rfl, rfl, hS, E2 hx0, x0, h0, rfl, r0, by have := m0.1; omega, by have := m0.2; omega, fun b H1 e1 i1 => ⟨_, rfl, ?_⟩⟩
  refine A2 (fun c3 => ?_) (fun c3 => ?_)
  . have c3' : ¬ b = true := by simpa using c3
    exact q false H1 e1 ⟨(fun z => nomatch z), fun z => by
      obtain ⟨_, h0', hh0', g, _⟩ := z
      rw [hh0] at hh0'; cases hh0'
      exact absurd (i1.mpr g) c3'⟩
  have c3' : Q3 h0 := i1.mp (by simpa using c3)
  obtain ⟨b0, tb, gb, rfl, p1, p2, p3⟩ := r0.same e1
  refine ⟨_, rfl, a, _, _, _, rfl, rfl, e1.seq hS, E2 hx0, b0, _, rfl, p1, rfl, _, _, rfl, _, _, rfl, rfl, ?_⟩
  refine ⟨_, rfl, a, rfl, ⟨_, e1.seq hS⟩, fun p hp => ?_⟩
  refine E9 (B2 (e1.seq hS)) hp (v4 (by omega)) (fun i y _ => ∃ h b, hs[i]? = some h /\ y = .bl b /\ (b = true ↔ GoodK h h0.1.length h0.2.length)) (fun _ _ _ _ r _ => r) (fun i y H2 zs N hy e hp' hN => ?_) (fun zs H2 e hp' len pr => ?_)
  . obtain ⟨h, hh, r⟩ := Paired.at hB hy
    have ln : ∀ l : List Int, ((l.map V.int).length : Int) = (l.length : Int) := fun l => by rw [List.length_map]
    refine ⟨Wk.set (by decide), _, rfl, _, rfl, tb, _, rfl, .inr (e.tseq p2), _, rfl, gb, _, rfl, .inr (e.tseq p3), y, h, _, _, rfl, (r.same e1).same e, hm h (List.mem_of_getElem? hh), fun b' H3 e3 i3 => hN _ _ e3 ⟨h, b', hh, rfl, ?_⟩⟩
    rw [ln, ln] at i3
    exact i3
  obtain ⟨bs, hbs, hb⟩ : ∃ bs : List Bool, zs = bs.map V.bl /\ ∀ i b, bs[i]? = some b -> ∃ h, hs[i]? = some h /\ (b = true ↔ GoodK h h0.1.length h0.2.length) := by
    refine ⟨zs.map (fun v => match v with | .bl b => b | _ => false), ?_, fun i b hi => ?_⟩
    . rw [List.map_map]
      refine List.ext_getElem? fun i => ?_
      rw [List.getElem?_map]
      cases hz : zs[i]? with
      | none => rfl
      | some v =>
        obtain ⟨h, b, _, rfl, _⟩ := pr i v hz
        rfl
    . rw [List.getElem?_map] at hi
      cases hz : zs[i]? with
      | none => rw [hz] at hi; cases hi
      | some v =>
        obtain ⟨h, b', hh, rfl, ii⟩ := pr i v hz
        rw [hz] at hi
        cases hi
        exact ⟨h, hh, ii⟩
  rw [hbs] at hp'
  refine ⟨p, bs, rfl, .inl (SqL.of hp'), q _ _ (e1.trans e) ?_⟩
  have bl : bs.length = hs.length := by
    rw [hbs, List.length_map] at len
    omega
  rw [List.all_eq_true]
  constructor
  . intro z
    refine ⟨⟨c1, c2⟩, h0, hh0, c3', fun h hh => ?_⟩
    obtain ⟨i, hi⟩ := List.getElem?_of_mem hh
    have hil := (List.getElem?_eq_some_iff.mp hi).1
    obtain ⟨h', hh', ii⟩ := hb i _ (List.getElem?_eq_getElem (by omega))
    rw [hi] at hh'; cases hh'
    exact ii.mp (z _ (List.getElem_mem _))
  . rintro ⟨_, h0', hh0', _, g⟩ b hb'
    rw [hh0] at hh0'; cases hh0'
    obtain ⟨i, hi⟩ := List.getElem?_of_mem hb'
    obtain ⟨h, hh, ii⟩ := hb i b hi
    exact ii.mpr (g h (List.mem_of_getElem? hh))
variable {CT : Addr}
def HO' (K : W.Frag) (H : Hp) (v : V) : Option h9 -> Prop
  | none => v = .non
  | some h => HS K H v h
def dH' : Option h9 -> PyData
  | none => .none
  | some h => C6 h
def a1v (K : W.Frag) (CT : Addr) : Sp := fun vs H Q E => ∃ z : S, vs = [.str z] /\ Asc z /\ z.length <= 100000 /\ (B4 z = none -> ∀ H', Same H H' -> E (.ref CT) none H') /\ ∀ hs, B4 z = some hs -> ∀ l xs H', Same H H' -> H l = none -> H' l = some (.lst xs) -> Bk K H' xs hs -> Q (.ref l) H'
theorem scReadB : p6 ["text", "book"] ["text"] (h7 P9) := ⟨rfl, rfl, rfl, by decide +kernel, rfl, by decide +kernel, by decide +kernel⟩
theorem a7A : (["row"] : List Str).Nodup := by decide +kernel
theorem a4E (o : Option h9) : PyData.eqv (dH' o) .none = o.isNone := by
  cases o with
  | none => simp [dH', PyData.eqv]
  | some h => simp [dH', C6, PyData.eqv]
set_option maxHeartbeats 4000000 in
theorem a5e {fa fb : Addr} {da db : FuncData} (F : Fun K "read_book" "read_book" P9 f fd) (T : y6 mg) (kT : P1 K CT) (mT : mg "NoText" = some (.ref CT)) (C : N1 P w K mg base n "read_house" ["text"] (U4 K) fa da) (D : N1 P w K mg base n "is_book" ["thing"] (a7M K) fb db) : x8 P w K mg base (T6 P w) (n + 1) f fd ["text"] (a1v K CT) := by
  refine F.ok1 scReadB (fun vs H Q E h => ?_) (fun cdv A outer s H vs Q E hr h => ?_)
  . obtain ⟨z, rfl, _⟩ := h
    rfl
  obtain ⟨z, rfl, ha, hl, q0, q1⟩ := h
  refine ⟨_, h8 (U2 (i := 1) ["row"] [] scReadB.nd rfl rfl rfl (C0 (E5 PySem.F.plainAttrs_str PySem.F.slot_str_split PySem.F.type_str_split J6 (pv 0) (c0 t7 c7))) (fun _ _ _ _ => j5 (i := 0) a7A rfl (Or.inl rfl)) (fun _ _ _ _ => r8 C.ok hr rfl C.m C.k C.b .nil x9 (c0 (pv 0) c7)))
    (h8 (u9 (PW.pt (K0 (j3 (a0Y hr) B8 (pv 1) rfl) (G9 (G7 (M1 (r8 D.ok hr rfl D.m D.k D.b .nil x9 (c0 (pv 1) c7))))))) (g0 (W0 kT rfl mT hr.hd (c0 t7 c7))) r6)
    (g0 (m6 (pv 1)))), ?_⟩
  have few := C2 (z := z) (c := 10)
  refine ⟨_, rfl, rfl, z, ch 10, rfl, rfl, by decide, by rw [sizeLine_eq]; omega, fun l hl' => ?_⟩
  have s1 := Same.new hl' (.lst ((Txt.split z (ch 10)).map V.str))
  refine ⟨l, rfl, ⟨_, SqL.of c6⟩, fun p hp => ?_⟩
  refine E9 (B2 (SqL.of c6)) hp (by rw [List.length_map, sizeLine_eq]; omega) (fun i y H' => ∃ x, (Txt.split z (ch 10))[i]? = some x /\ ∀ H'' : Hp, (∀ b o, b ≠ p -> H' b = some o -> H'' b = some o) -> HO' K H'' y (y4 x)) (fun i y Ha Hb ⟨h, h1, h2⟩ st => ⟨h, h1, fun H'' st2 => h2 H'' fun b o hb hh => st2 b o hb (st b o hb hh)⟩) (fun i y H2 zs N hy e hp' hN => ?_) (fun zs H2 e hp' len pr => ?_)
  . rw [List.getElem?_map] at hy
    obtain ⟨x, hx, rfl⟩ := Option.map_eq_some_iff.mp hy
    have hxm := List.mem_of_getElem? hx
    refine ⟨Wk.set (by decide), _, rfl, x, rfl, Tx.asc_part ha hxm, Nat.le_trans (E6 hxm) hl, fun c H3 e3 => hN _ _ e3 ⟨x, hx, fun H'' _ => by rw [c]; rfl⟩, fun h c t ta ga H3 e3 ht hta hga => hN _ _ e3 ⟨x, hx, fun H'' st => ?_⟩⟩
    rw [c]
    have hp3 := e3 _ _ hp'
    exact ⟨t, ta, ga, rfl, SqT.of (st _ _ (K5 ht hp3 nofun) ht), SqT.of (st _ _ (K5 hta hp3 nofun) hta), SqT.of (st _ _ (K5 hga hp3 nofun) hga)⟩
  have e2 := s1.trans e
  rw [List.length_map] at len
  have PA : PySem.Paired (HO' K H2) zs ((Txt.split z (ch 10)).map y4) := N7 len fun i y hy => by
    obtain ⟨x, hx, r⟩ := pr i y hy
    exact ⟨x, hx, r _ fun b o _ h => h⟩
  have dpH : ∀ {vs : List V} {os : List (Option h9)}, PySem.Paired (HO' K H2) vs os -> Dps K H2 vs (os.map dH') := fun h => by
    induction h with
    | nil => exact .nil
    | @cons v o vs os r _ ih =>
      refine .cons ?_ ih
      cases o with
      | none => cases (show v = .non from r); exact .non
      | some h => exact HS.dp r
  have ly : ∀ os : List (Option h9), PyData.canLayAll0 (os.map dH') = true := fun os => by
    induction os with
    | nil => rw [List.map_nil, PyData.canLayAll0]
    | cons o os ih =>
      rw [List.map_cons, PyData.canLayAll0, ih]
      cases o with
      | none => rfl
      | some h => show ((C6 h).canLay0 && true) = true; rw [R7]; rfl
  refine ⟨_, rfl, p, zs, _, .none, rfl, SqL.of hp', dpH PA, .non, ly _, rfl, by decide, _, rfl, ?_⟩
  have ea : ((((Txt.split z (ch 10)).map y4).map dH').any fun e => PyData.eqv e .none) = ((Txt.split z (ch 10)).map y4).any (·.isNone) := by
    rw [List.any_map]
    congr 1
    funext o
    exact a4E o
  rw [ea]
  refine A2 (fun c => ?_) (fun c => ?_)
  . refine C9 ⟨(by show 1 <= 1000; decide), q0 ?_ _ e2⟩
    unfold B4
    rw [any_none.mp c]
  . cases hr' : O1 ((Txt.split z (ch 10)).map y4) with
    | none => exact absurd (any_none.mpr hr') c
    | some hs =>
      have en := B3 hr'
      rw [en] at PA
      have hB : Bk K H2 zs hs := by
        have gen : ∀ {vs : List V} {hs : List h9}, PySem.Paired (HO' K H2) vs (hs.map some) -> Bk K H2 vs hs := fun {vs hs} h => by
          induction hs generalizing vs with
          | nil => cases h; exact .nil
          | cons g hs ih =>
            cases h with
            | cons r t => exact .cons r (ih t)
        exact gen PA
      have hany : ∀ h ∈ hs, Q3 h := fun h hh => by
        have : some h ∈ (Txt.split z (ch 10)).map y4 := by rw [en]; exact List.mem_map.mpr ⟨h, hh, rfl⟩
        obtain ⟨x, _, hx⟩ := List.mem_map.mp this
        exact a0P hx
      have hlen : hs.length = zs.length := (Paired.length hB).symm
      refine ⟨_, rfl, p, zs, hs, rfl, SqL.of hp', hB, by omega, fun h hh => ⟨by have := (hany h hh).1.2; omega, by have := (hany h hh).2.1.2; omega⟩, fun b H3 e3 i3 => ⟨_, rfl, ?_⟩⟩
      have eB : ∀ {x : Option (List h9)}, (open Classical in if IsB hs then some hs else none) = x -> B4 z = x := fun h => by
        unfold B4; rw [hr']; exact h
      cases b with
      | true => exact D0 ⟨_, rfl, q1 hs (eB (if_pos (i3.mp rfl))) p zs H3 (e2.trans e3) (s1.free hp) (e3 _ _ hp') (Bk.same e3 hB)⟩
      | false => exact C9 ⟨(by show 1 <= 1000; decide), q0 (eB (if_neg fun g => by have := i3.mpr g; cases this)) _ (e2.trans e3)⟩
end
end Rim
namespace L2
open PySem PySem.Spec PyProof.Rows
def EntIs (e : DictEntry) (kv : Str × Addr) : Prop := ∃ t, e.key = .str kv.1 t /\ e.val = .ref kv.2
theorem a2j (z : Str) : ∀ {es : List DictEntry} {kvs : List (Str × Addr)}, PySem.Paired EntIs es kvs -> (es.find? (·.key.isStr z)).map (·.val) = (kvs.lookup z).map Value.ref
  | _, _, .nil => rfl
  | _, _, .cons (a := e) (b := kv) ⟨t, hk, hv⟩ r => by
    rw [List.find?_cons, List.lookup_cons]
    have hs : e.key.isStr z = (z == kv.1) := by
      rw [hk]
      show (kv.1 == z) = (z == kv.1)
      rw [Bool.eq_iff_iff, beq_iff_eq, beq_iff_eq]
      exact ⟨Eq.symm, Eq.symm⟩
    rw [hs]
    cases (z == kv.1) with
    | true => simp [hv]
    | false => exact a2j z r
theorem a3I : ∀ {es : List DictEntry} {kvs : List (Str × Addr)}, PySem.Paired EntIs es kvs -> es.any (·.refKey) = false
  | _, _, .nil => rfl
  | _, _, .cons (a := e) ⟨t, hk, _⟩ r => by
    rw [List.any_cons, a3I r, Bool.or_false]
    unfold DictEntry.refKey
    rw [hk]
structure KTab (K : W.Frag) (Pm : Params) (mg : Str -> Option Value) (name : Str) (d : Addr) (kvs : List (Str × Addr)) : Prop where
  m : mg name = some (.ref d)
  ex : ∃ es n, K.lookup d = some ⟨.type "dict", none, .dict es n, #[]⟩ /\ W.KeysLit Pm es.toList /\ PySem.Paired EntIs es.toList kvs
  sys : (d == sysModules) = false
theorem KTab.ns {K : W.Frag} {Pm : Params} {mg : Str -> Option Value} {name : Str} {d : Addr} {kvs : List (Str × Addr)} (T : KTab K Pm mg name d kvs) (z : Str) : W.nsIn K d z = some ((kvs.lookup z).map Value.ref) := by
  obtain ⟨es, n, hl, _, hp⟩ := T.ex
  unfold W.nsIn
  rw [hl]
  dsimp only
  have h := a2j z hp
  cases e : es.toList.find? (·.key.isStr z) with
  | some x => rw [e] at h; dsimp only; rw [<- h]; rfl
  | none => rw [e] at h; dsimp only; rw [a3I hp, if_neg Bool.false_ne_true, <- h]; rfl
theorem KTab.k {K : W.Frag} {Pm : Params} {mg : Str -> Option Value} {name : Str} {d : Addr} {kvs : List (Str × Addr)} (T : KTab K Pm mg name d kvs) : a3C K Pm d := by
  obtain ⟨es, n, hl, hk, _⟩ := T.ex
  exact ⟨es, n, hl, hk⟩
def a9K (K : W.Frag) (Pm : Params) (neg : Bool) : R2 := fun x y H Q => ∃ d z r, x = .str z /\ y = .ref d /\ a3C K Pm d /\ W.nsIn K d z = some r /\ (d == sysModules) = false /\ Q (.bl (if neg then !r.isSome else r.isSome)) H
theorem a5g (K : W.Frag) (Pm : Params) {X : Cx} (hK : X.K = K) (hP : X.w.params = Pm) : P6 X (compareOp .In) (a9K K Pm false) := by
  subst hK
  subst hP
  intro pins s σ H x y v u Q I rx ry h
  obtain ⟨d, z, r, rfl, rfl, ⟨es, n, hl, hk⟩, e, hs, q⟩ := h
  cases ry
  obtain ⟨tk, rfl⟩ := rx
  obtain ⟨m, hm⟩ := I.fr
  exact W.topIn_K hm I.mod.kin hl hk e hs ⟨.bl r.isSome, H, I.tok _, rfl, q⟩
theorem a4m (K : W.Frag) (Pm : Params) {X : Cx} (hK : X.K = K) (hP : X.w.params = Pm) : P6 X (compareOp .NotIn) (a9K K Pm true) := by
  subst hK
  subst hP
  intro pins s σ H x y v u Q I rx ry h
  obtain ⟨d, z, r, rfl, rfl, ⟨es, n, hl, hk⟩, e, hs, q⟩ := h
  cases ry
  obtain ⟨tk, rfl⟩ := rx
  obtain ⟨m, hm⟩ := I.fr
  refine wpAny_notIn_of (strKind_is X.prog X.w z tk) hs (W.mapOf_K (prog := X.prog) (I.mod.kin.keeps hm.keep) hl hk) ?_
  rw [W.find_K hl e]
  exact ⟨.bl (!r.isSome), H, I.tok _, rfl, q⟩
end L2
namespace L2
open PySem PySem.Spec PyProof.Rows
def b1f (X : Cx) (E : XK) (f : Addr) (sp : Sp) : Prop := ∃ (CX : CXT) (k : Nat) (fd : FuncData) (ps : List Str), x8 X.prog X.w X.K X.mg X.base CX k f fd ps sp /\ Room k X.A /\ W.keepIn X.K (.ref f) = true /\ Binds X.K fd ps [] /\ R1 CX X E
def a8U (F : Addr -> Sp -> Prop) (E : XK) (tv : TE) (t : TA) : TE := fun σ H Q => tv σ H fun v H1 => ∃ f sp, v = .ref f /\ F f sp /\ t σ H1 fun vs H2 => sp vs H2 Q E
theorem a2a {X : Cx} {F : Addr -> Sp -> Prop} {E : XK} {x : Str} {p pos : Pos} {e : Expr} {es : List Expr} {tv : TE} {t : TA} (hF : ∀ f sp, F f sp -> b1f X E f sp) (hv : PE X (.Name x p) tv) (ha : PA X (e :: es) t)
    (he : starEach (e :: es) X.env = (false, eval e X.env) :: starEach es X.env := by rfl) (hpl : (backTo pos (starEach es X.env)).any (·.1) = false := by rfl) :
    PE X (.Call (.Name x p) (e :: es) [] pos) (a8U F E tv t) := by
  intro pins s σ H Q I h
  refine wpAny_Call_Name_kw ?_
  refine A6 (hv pins s σ H _ I h) fun u s1 ⟨v, H1, I1, rv, f, sp, ev, hf, q⟩ => ?_
  subst ev
  cases rv
  obtain ⟨CX, k, fd, ps, ok, hr, hk, hb, hx⟩ := hF f sp hf
  refine W.callWith_K (h₀ := X.base) I1.ok.mod.kin hk (A6 (ha pos pins s1 σ H1 _ I1 q) fun us s2 ⟨vs, H2, I2, r, q2⟩ => ⟨I2.kIn, ?_⟩) he hpl
  exact a1j (dvs := []) ok hr hb .nil hx I2 r (by rw [List.append_nil]; exact q2)
end L2
namespace Rim
open PySem L2 Fr
open Tx (S cs ch w8 Asc C1 v7)
inductive Th where
  | k (n : Int)
  | h (x : h9)
  | w (z : S)
open Classical in
noncomputable def D6 (form : Str) (z : S) : Option Th :=
  if form = "K" then (v7 z).map Th.k else if form = "HOUSE" then (y4 z).map Th.h else if Szw z then some (.w z) else none
def ThV (K : W.Frag) (H : Hp) (v : V) : Th -> Prop
  | .k n => v = .int n
  | .h x => ∃ t ta ga, v = .ref t /\ H t = some (.tup [.ref ta, .ref ga]) /\ H ta = some (.tup (x.1.map V.int)) /\ H ga = some (.tup (x.2.map V.int))
  | .w z => v = .str z
def ThO (K : W.Frag) (H : Hp) (v : V) : Option Th -> Prop
  | none => v = .non
  | some t => ThV K H v t
structure a4D (K : W.Frag) (mg : Str -> Option Value) (o : Addr) : Prop where
  m : mg "SIZES" = some (.ref o)
  s : ∀ H, SqT K H o [.str "any", .str "one", .str "less", .str "more"]
section
variable {P : Program} {w : World} {K : W.Frag} {mg : Str -> Option Value} {base : Heap} {f oZ : Addr} {fd : FuncData} {n : Nat}
def a1n (K : W.Frag) : Sp := fun vs H Q _ => ∃ (form : Str) (z : S), vs = [.str form, .str z] /\ Asc z /\ z.length <= 100000 /\ ∀ v H', Same H H' -> ThO K H' v (D6 form z) -> Q v H'
theorem a6m : p6 ["form", "text"] ["form", "text"] (h7 O8) := ⟨rfl, rfl, rfl, by decide +kernel, rfl, by decide +kernel, by decide +kernel⟩
set_option maxHeartbeats 4000000 in
theorem a5F {fa fb : Addr} {da db : FuncData} (F : Fun K "read_thing" "read_thing" O8 f fd) (Z : a4D K mg oZ) (C : N1 P w K mg base n "read_number" ["text"] R8 fa da) (D : N1 P w K mg base n "read_house" ["text"] (U4 K) fb db) : x8 P w K mg base K1 (n + 1) f fd ["form", "text"] (a1n K) := by
  refine F.ok a6m (fun vs H Q E h => ?_) (fun cdv A outer s H vs Q E hr h => ?_)
  . obtain ⟨form, z, rfl, _⟩ := h
    rfl
  obtain ⟨form, z, rfl, ha, hl, q⟩ := h
  refine ⟨_, h8 (u9 (j3 G4 (pv 0) t7 (o3 _)) (g0 (m6 (r8 C.ok hr rfl C.m C.k C.b .nil x9 (c0 (pv 1) c7)))) r6)
    (h8 (u9 (j3 G4 (pv 0) t7 (o3 _)) (g0 (m6 (r8 D.ok hr rfl D.m D.k D.b .nil x9 (c0 (pv 1) c7)))) r6)
    (g0 (m6 (V0 (j3 W2 (pv 1) (A3 (v := .ref oZ) rfl Z.m rfl) rfl) (pv 1) B8)))), ?_⟩
  refine ⟨_, rfl, rfl, _, rfl, ?_⟩
  refine A2 (fun c => ?_) (fun c => ?_)
  . have c' : form = "K" := V.str.inj (of_decide_eq_true c)
    refine ⟨_, rfl, z, rfl, ha, hl, fun H1 e1 => q _ H1 e1 ?_⟩
    unfold D6
    rw [if_pos c']
    cases v7 z <;> rfl
  have c1 : ¬ form = "K" := fun h => c (decide_eq_true (congrArg V.str h))
  refine ⟨_, rfl, rfl, _, rfl, ?_⟩
  refine A2 (fun c => ?_) (fun c => ?_)
  . have c' : form = "HOUSE" := V.str.inj (of_decide_eq_true c)
    have er : D6 form z = (y4 z).map Th.h := by unfold D6; rw [if_neg c1, if_pos c']
    refine ⟨_, rfl, z, rfl, ha, hl, fun e H1 e1 => q _ H1 e1 ?_, fun h e t ta ga H1 e1 h1 h2 h3 => q _ H1 e1 ?_⟩
    . rw [er, e]; rfl
    . rw [er, e]; exact ⟨t, ta, ga, rfl, h1, h2, h3⟩
  have c2 : ¬ form = "HOUSE" := fun h => c (decide_eq_true (congrArg V.str h))
  have ev : ∀ a : Str, eqV (V.str a) (V.str z) = decide (z = a) := fun a => by
    show (a == z) = decide (z = a)
    rw [Bool.eq_iff_iff, beq_iff_eq, decide_eq_true_iff]
    exact ⟨Eq.symm, Eq.symm⟩
  have ei : (inV (V.str z) [.str "any", .str "one", .str "less", .str "more"] = true) ↔ Szw z := by
    unfold inV Szw
    simp only [List.any_cons, List.any_nil, ev, Bool.or_false, Bool.or_eq_true, decide_eq_true_iff]
  refine ⟨_, rfl, oZ, _, rfl, .inr (Z.s _), rfl, rfl, _, rfl, ?_⟩
  refine A2 (fun c => ?_) (fun c => ?_)
  . refine ⟨_, rfl, q _ H (Same.refl _) ?_⟩
    unfold D6
    rw [if_neg c1, if_neg c2, if_pos (ei.mp c)]
    rfl
  . refine q _ H (Same.refl _) ?_
    unfold D6
    rw [if_neg c1, if_neg c2, if_neg fun h => c (ei.mpr h)]
    rfl
end
end Rim
namespace Rim
open PySem L2 Fr
open Tx (S cs ch w8 Asc C1 v7)
def FORML : List (Str × List Str) := [("house", ["HOUSE"]), ("drop", ["K"]), ("alter", ["K", "HOUSE"]), ("sizes", ["WORD"]), ("back", []), ("share", ["K"]), ("grow", ["K"]), ("others", ["K"]), ("alone", ["K"]), ("scale", ["K"]), ("rim", []), ("levels", []), ("order", []), ("book", [])]
structure a2P (K : W.Frag) (Pm : Params) (mg : Str -> Option Value) (d : Addr) (kvs : List (Str × Addr)) : Prop where
  t : KTab K Pm mg "FORMS" d kvs
  p : PySem.Paired (fun (kv : Str × Addr) (fl : Str × List Str) => kv.1 = fl.1 /\ ∀ H, SqT K H kv.2 (fl.2.map V.str)) kvs FORML
theorem a7D {K : W.Frag} (z : Str) : ∀ {kvs : List (Str × Addr)} {fl : List (Str × List Str)}, PySem.Paired (fun (kv : Str × Addr) (fl : Str × List Str) => kv.1 = fl.1 /\ ∀ H, SqT K H kv.2 (fl.2.map V.str)) kvs fl -> (kvs.lookup z = none /\ fl.lookup z = none) \/ ∃ a fs, kvs.lookup z = some a /\ fl.lookup z = some fs /\ ∀ H, SqT K H a (fs.map V.str)
  | _, _, .nil => .inl ⟨rfl, rfl⟩
  | _, _, .cons (a := kv) (b := fl) ⟨e, h⟩ r => by
    obtain ⟨k, a⟩ := kv
    obtain ⟨k', fs⟩ := fl
    have e' : k = k' := e
    subst e'
    rw [List.lookup_cons, List.lookup_cons]
    cases (z == k) with
    | true => exact .inr ⟨a, fs, rfl, rfl, h⟩
    | false => exact a7D z r
noncomputable def S4 (z : S) : Option (Str × List Th) := match Txt.split z (ch 32) with
  | [] => none
  | w :: r => match FORML.lookup w with
    | none => none
    | some fs => if r.length = fs.length then (O1 (List.zipWith D6 fs r)).map (fun ts => (w, ts)) else none
def dT : Th -> PyData
  | .k n => .int n
  | .h x => C6 x
  | .w z => .str z
def dTO : Option Th -> PyData
  | none => .none
  | some t => dT t
def a6w : Option Th -> Prop
  | some (.w z) => Szw z
  | _ => True
theorem a5N (form : Str) (z : S) : a6w (D6 form z) := by
  unfold D6
  split
  . cases v7 z <;> exact trivial
  . split
    . cases y4 z <;> exact trivial
    . split
      . assumption
      . exact trivial
theorem b0n {o : Option Th} (h : a6w o) : (dTO o).canLay0 = true := by
  match o, h with
  | none, _ => rfl
  | some (.k n), _ => rfl
  | some (.h x), _ => exact R7 x
  | some (.w z), h => rcases (show Szw z from h) with rfl | rfl | rfl | rfl <;> (show (PyData.str _).canLay0 = true; rw [PyData.canLay0]; decide +kernel)
theorem b0u (o : Option Th) : PyData.eqv (dTO o) .none = o.isNone := by
  match o with
  | none => simp [dTO, PyData.eqv]
  | some (.k n) => simp [dTO, dT, PyData.eqv]
  | some (.h x) => simp [dTO, dT, C6, PyData.eqv]
  | some (.w z) => simp [dTO, dT, PyData.eqv]
theorem ThO.dp {K : W.Frag} {H : Hp} {v : V} {o : Option Th} (h : ThO K H v o) : Dp K H v (dTO o) := by
  match o, h with
  | none, h => cases (show v = .non from h); exact .non
  | some (.k n), h => cases (show v = .int n from h); exact .int n
  | some (.h x), h =>
    obtain ⟨t, ta, ga, rfl, h1, h2, h3⟩ := h
    exact HS.dp ⟨t, ta, ga, rfl, SqT.of h1, SqT.of h2, SqT.of h3⟩
  | some (.w z), h => cases (show v = .str z from h); exact .str z
section
variable {P : Program} {w : World} {K : W.Frag} {mg : Str -> Option Value} {base : Heap} {f dF CR : Addr} {fd : FuncData} {n : Nat} {kvs : List (Str × Addr)}
def a1o (K : W.Frag) (CR : Addr) : Sp := fun vs H Q E => ∃ z : S, vs = [.str z] /\ Asc z /\ z.length <= 100000 /\ (S4 z = none -> ∀ H', Same H H' -> E (.ref CR) none H') /\ ∀ wd ts, S4 z = some (wd, ts) -> ∀ t l us H', Same H H' -> H' t = some (.tup [.str wd, .ref l]) -> H' l = some (.lst us) -> PySem.Paired (ThV K H') us ts -> Q (.ref t) H'
theorem scReadR : p6 ["row", "words", "word", "things"] ["row"] (h7 G8) := ⟨rfl, rfl, rfl, by decide +kernel, rfl, by decide +kernel, by decide +kernel⟩
theorem a3l : (["form", "text"] : List Str).Nodup := by decide +kernel
set_option maxHeartbeats 8000000 in
noncomputable def rrT {cdv : Value} {A : Around} {outer : List Env} {s : Shared} {H : Hp} {E : XK} {fa : Addr} {da : FuncData} (T : y6 mg) (FT : a2P K w.params mg dF kvs) (kR : P1 K CR) (mR : mg "NoRow" = some (.ref CR)) (C : N1 P w K mg base n "read_thing" ["form", "text"] (a1n K) fa da)
    (hr : Room n (A.deeper (PyProof.Rows.envOfC "read_row" (h7 G8) s.heap.objs.size f cdv))) (hA : A.handled = none) :
    { t : TS // PSs (M2 (T6 P w) P w K mg base ["row", "words", "word", "things"] "read_row" (h7 G8) f cdv A outer s H E) (x6 G8) t } :=
  ⟨_, h8 (r9 (i := 1) scReadR.nd rfl (Or.inl rfl) (E5 PySem.F.plainAttrs_str PySem.F.slot_str_split PySem.F.type_str_split J6 (pv 0) (c0 t7 c7)))
    (h8 (r9 (i := 2) scReadR.nd rfl (Or.inl rfl) (p7 j4 (pv 1) d0 (fun _ _ => rfl)))
    (h8 (u9 (PW.pt (K0 (j3 (a4m K w.params rfl rfl) (pv 2) (A3 (v := .ref dF) rfl FT.t.m rfl) rfl) (G9 (j3 S9 (j0 a1w (i7 j8 rfl T.len PySem.boot_len (c0 (pv 1) c7)) d0) (i7 j8 rfl T.len PySem.boot_len (c0 (p7 (a1t K w.params rfl rfl) (A3 (v := .ref dF) rfl FT.t.m rfl) (pv 2) (fun _ _ => rfl)) c7)) (o3 _))))) (g0 (W0 kR rfl mR hA (c0 t7 c7))) r6)
    (h8 (U2 (i := 3) ["form", "text"] [] scReadR.nd rfl rfl rfl (a9v false true K rfl rfl T.zip (c0 (p7 (a1t K w.params rfl rfl) (A3 (v := .ref dF) rfl FT.t.m rfl) (pv 2) (fun _ _ => rfl)) (c0 (A5 M6 (pv 1) (A4 d0) E1) c7))) (fun _ _ _ _ => a5Z K (n := 2) rfl rfl (t6 (j5 (i := 0) a3l rfl (Or.inl rfl)) (t6 (j5 (i := 1) a3l rfl (Or.inl rfl)) C4))) (fun _ _ _ _ => r8 C.ok hr rfl C.m C.k C.b .nil x9 (c0 (pv 0) (c0 (pv 1) c7))))
    (h8 (u9 (j3 (a0Y hr) B8 (pv 3) rfl) (g0 (W0 kR rfl mR hA (c0 t7 c7))) r6)
    (g0 (m6 (N6 (c0 (pv 2) (c0 (pv 3) c7)))))))))⟩
set_option maxHeartbeats 8000000 in
theorem a5k {fa : Addr} {da : FuncData} (F : Fun K "read_row" "read_row" G8 f fd) (T : y6 mg) (FT : a2P K w.params mg dF kvs) (kR : P1 K CR) (mR : mg "NoRow" = some (.ref CR)) (C : N1 P w K mg base n "read_thing" ["form", "text"] (a1n K) fa da) : x8 P w K mg base (T6 P w) (n + 1) f fd ["row"] (a1o K CR) := by
  refine F.ok1 scReadR (fun vs H Q E h => ?_) (fun cdv A outer s H vs Q E hr h => ?_)
  . obtain ⟨z, rfl, _⟩ := h
    rfl
  obtain ⟨z, rfl, ha, hl, q0, q1⟩ := h
  refine ⟨_, (rrT T FT kR mR C hr hr.hd).2, ?_⟩
  have few := C2 (z := z) (c := 32)
  refine ⟨_, rfl, rfl, z, ch 32, rfl, rfl, by decide, by rw [sizeLine_eq]; omega, fun l hl' => ?_⟩
  have s1 := Same.new hl' (.lst ((Txt.split z (ch 32)).map V.str))
  obtain ⟨wd, r, hw⟩ : ∃ wd r, Txt.split z (ch 32) = wd :: r := by
    cases h : Txt.split z (ch 32) with
    | nil => exact absurd h (Tx.split_ne z 32)
    | cons a b => exact ⟨a, b, rfl⟩
  have hH1 : (upd H l (.lst ((Txt.split z (ch 32)).map V.str))) l = some (.lst ((wd :: r).map V.str)) := by rw [c6, hw]
  generalize upd H l (.lst ((Txt.split z (ch 32)).map V.str)) = H1 at *
  rw [hw] at few
  refine ⟨_, rfl, l, _, _, _, rfl, rfl, SqL.of hH1, E2 (j := 0) rfl, ?_⟩
  have wl : ((wd :: r).map V.str).length = r.length + 1 := by rw [List.length_map]; rfl
  refine ⟨_, rfl, dF, wd, _, rfl, rfl, FT.t.k, FT.t.ns wd, FT.t.sys, _, rfl, ?_⟩
  rcases a7D wd FT.p with ⟨l1, l2⟩ | ⟨fa', fs, l1, l2, hq⟩
  . rw [l1]
    refine C9 (C9 ⟨(by show 1 <= 1000; decide), q0 ?_ _ s1⟩)
    unfold S4
    rw [hw]
    dsimp only
    rw [l2]
  rw [l1]
  refine D0 ?_
  have fsl : ((fs.map V.str).length : Int) = (fs.length : Int) := by rw [List.length_map]
  refine ⟨_, rfl, l, _, rfl, .inl (SqL.of hH1), _, _, rfl, rfl, _, rfl, dF, wd, fa', rfl, rfl, FT.t.k, by rw [FT.t.ns wd, l1]; rfl, fa', _, rfl, .inr (hq _), rfl, _, rfl, ?_⟩
  have eR : ∀ {x}, (if r.length = fs.length then (O1 (List.zipWith D6 fs r)).map (fun ts => (wd, ts)) else none) = x -> S4 z = x := fun h => by
    unfold S4
    rw [hw]
    dsimp only
    rw [l2]
    exact h
  have key : (V.int ((((wd :: r).map V.str).length : Int) - 1) = V.int (((fs.map V.str).length : Nat) : Int)) ↔ r.length = fs.length := by
    rw [wl, fsl]
    constructor
    . intro h
      have := V.int.inj h
      omega
    . intro h
      congr 1
      omega
  refine A2 (fun c => ?_) (fun c => ?_)
  . have c' : ¬ r.length = fs.length := fun h => by
      rw [decide_eq_true (key.mpr h)] at c
      cases c
    exact ⟨(by show 1 <= 1000; decide), q0 (eR (if_neg c')) _ s1⟩
  have c' : r.length = fs.length := key.mp (by simpa using c)
  -- the things
  refine ⟨_, rfl, dF, wd, fa', rfl, rfl, FT.t.k, by rw [FT.t.ns wd, l1]; rfl, _, rfl, _, rfl, l, _, rfl, SqL.of hH1, fun l3 hl3 => ?_⟩
  have ec : O4 ((wd :: r).map V.str) (some 1) none = r.map V.str := by
    have := a2m ((wd :: r).map V.str) 1 (by rw [wl]; omega)
    exact this
  rw [ec]
  have rl : r.length <= z.length := by rw [List.length_cons] at few; omega
  have s3 := Same.new hl3 (.lst (r.map V.str))
  have e13 := s1.trans s3
  have asc : ∀ x ∈ r, Asc x /\ x.length <= 100000 := fun x hx => by
    have hm : x ∈ Txt.split z (ch 32) := by rw [hw]; exact List.mem_cons_of_mem _ hx
    exact ⟨Tx.asc_part ha hm, Nat.le_trans (E6 hm) hl⟩
  refine ⟨fa', l3, rfl, ⟨_, hq _⟩, ⟨_, SqL.of c6⟩, fun p hp => ?_⟩
  refine a8a (b1 := false) (b2 := true) (xs := fs.map V.str) (ys := r.map V.str) (hq _) (SqL.of c6) hp (by rw [List.length_map, sizeLine_eq]; omega) (fun i y H' => ∃ fm x, fs[i]? = some fm /\ r[i]? = some x /\ ∀ H'' : Hp, (∀ b o, b ≠ p -> H' b = some o -> H'' b = some o) -> ThO K H'' y (D6 fm x)) (fun i y Ha Hb ⟨h, h0, h1, h1', h2⟩ st => ⟨h, h0, h1, h1', fun H'' st2 => h2 H'' fun b o hb hh => st2 b o hb (st b o hb hh)⟩) (fun i x y H2 zs N hx hy e hp' hN => ?_) (fun zs H2 e hp' len pr => ?_)
  . rw [List.getElem?_map] at hx hy
    obtain ⟨fm, hfm, rfl⟩ := Option.map_eq_some_iff.mp hx
    obtain ⟨tx, htx, rfl⟩ := Option.map_eq_some_iff.mp hy
    obtain ⟨a1, a2⟩ := asc tx (List.mem_of_getElem? htx)
    refine ⟨_, rfl, _, rfl, fm, tx, rfl, a1, a2, fun v H3 e3 ho => hN _ _ e3 ⟨fm, tx, hfm, htx, fun H'' st => ?_⟩⟩
    have hp3 := e3 _ _ hp'
    revert ho
    generalize D6 fm tx = o
    intro ho
    match o, ho with
    | none, ho => exact ho
    | some (.k n), ho => exact ho
    | some (.w z), ho => exact ho
    | some (.h x), ⟨t, ta, ga, e0, h1, h2, h3⟩ => exact ⟨t, ta, ga, e0, st _ _ (K5 h1 hp3 nofun) h1, st _ _ (K5 h2 hp3 nofun) h2, st _ _ (K5 h3 hp3 nofun) h3⟩
  have e2 := e13.trans e
  have zl : zs.length = (List.zipWith D6 fs r).length := by
    rw [len, List.length_map, List.length_map, List.length_zipWith]
  have PA : PySem.Paired (ThO K H2) zs (List.zipWith D6 fs r) := by
    have := N7 (R := ThO K H2) (f := fun o : Option Th => o) (ys := zs) (xs := List.zipWith D6 fs r) zl fun i y hy => by
      obtain ⟨fm, tx, hfm, htx, rr⟩ := pr i y hy
      exact ⟨_, by rw [List.getElem?_zipWith, hfm, htx], rr _ fun b o _ h => h⟩
    rw [List.map_id'] at this
    exact this
  have okT : ∀ o ∈ List.zipWith D6 fs r, a6w o := fun o ho => by
    obtain ⟨i, hi⟩ := List.getElem?_of_mem ho
    rw [List.getElem?_zipWith] at hi
    split at hi
    . cases hi; exact a5N _ _
    . cases hi
  have dpT : ∀ {vs : List V} {os : List (Option Th)}, PySem.Paired (ThO K H2) vs os -> Dps K H2 vs (os.map dTO) := fun h => by
    induction h with
    | nil => exact .nil
    | cons r _ ih => exact .cons r.dp ih
  have ly : ∀ os : List (Option Th), (∀ o ∈ os, a6w o) -> PyData.canLayAll0 (os.map dTO) = true := fun os => by
    induction os with
    | nil => intro _; rw [List.map_nil, PyData.canLayAll0]
    | cons o os ih =>
      intro h
      rw [List.map_cons, PyData.canLayAll0, ih fun x hx => h x (List.mem_cons_of_mem _ hx), b0n (h o List.mem_cons_self)]; rfl
  refine ⟨_, rfl, p, zs, _, .none, rfl, SqL.of hp', dpT PA, .non, ly _ okT, rfl, by decide, _, rfl, ?_⟩
  have ea : (((List.zipWith D6 fs r).map dTO).any fun e => PyData.eqv e .none) = (List.zipWith D6 fs r).any (·.isNone) := by
    rw [List.any_map]
    congr 1
    funext o
    exact b0u o
  rw [ea]
  refine A2 (fun c => ?_) (fun c => ?_)
  . refine ⟨(by show 1 <= 1000; decide), q0 (eR ?_) _ e2⟩
    rw [if_pos c', any_none.mp c]; rfl
  . cases hr' : O1 (List.zipWith D6 fs r) with
    | none => exact absurd (any_none.mpr hr') c
    | some ts =>
      have en := B3 hr'
      rw [en] at PA
      refine ⟨_, rfl, _, rfl, (by show 2 <= sizeLine; decide), fun t ht => ?_⟩
      have t1 := Same.new ht (.tup [V.str wd, V.ref p])
      refine q1 wd ts (eR (by rw [if_pos c', hr']; rfl)) t p zs _ (e2.trans t1) c6 (t1 _ _ hp') ?_
      have gen : ∀ {vs : List V} {us : List Th}, PySem.Paired (ThO K H2) vs (us.map some) -> PySem.Paired (ThV K (upd H2 t (.tup [V.str wd, V.ref p]))) vs us := fun {vs us} h => by
        induction us generalizing vs with
        | nil => cases h; exact .nil
        | cons g us ih =>
          cases h with
          | cons r' t' =>
            refine .cons ?_ (ih t')
            match g, r' with
            | .k n, r' => exact r'
            | .w z, r' => exact r'
            | .h x, ⟨t2, ta, ga, e0, h1, h2, h3⟩ => exact ⟨t2, ta, ga, e0, t1 _ _ h1, t1 _ _ h2, t1 _ _ h3⟩
      exact gen PA
end
end Rim
namespace L2
open PySem PySem.Spec PyProof.Rows
def b1B (K : W.Frag) (ta : TE) (f : Str) : TG := fun v σ H Q => ta σ H fun x H2 => ∃ a C dx fs, x = .ref a /\ H2 a = some (.ins C dx fs) /\ Cls K C /\ NoAttr K C f /\ fs.length < 1000 /\ Q σ (upd H2 a (.ins C dx (N4 f v fs)))
theorem V1 {M : Model} {A : Around} {E : Value -> Shared -> Prop} {s : Shared} {env : Env} {o : Expr} {attr : Str} {pos' : Pos} {v : Value} {Q : Unit -> Shared -> Prop}
    (h : wpAny M A (eval o env) (fun ov s₂ => wpAny M A (setAttr ov attr v) Q E s₂) E s) : wpAny M A (assign (.Attribute o attr pos') env v) Q E s := fun Γ p hΓ => by
  simp only [assign_Attribute, Sem.wp_bind', Sem.wp_holding, Sem.wp_cmd_standAt, Sem.wp_release, Sem.wp_pure']
  exact Sem.wp_mono M Γ _ (fun ov _ s₂ h₂ => h₂ Γ _ hΓ) (fun _ _ _ h' => h') _ _ (h Γ _ hΓ)
theorem a1A {X : Cx} {o : Expr} {f : Str} {pos : Pos} {ta : TE} (ha : PE X o ta) : PG X (.Attribute o f pos) (b1B X.K ta f) := by
  intro pins s σ H v u Q I r h
  refine V1 (A6 (ha pins s σ H _ I h) fun ov s2 ⟨x, H2, I2, rx, a, C, dx, fs, ex, ea, c, n, l, q2⟩ => ?_)
  subst ex
  obtain rfl : ov = Value.ref a := rx
  exact a0r I2 ea c n l r fun s3 I3 => ⟨σ, _, I3, q2⟩
end L2
namespace Rim
open PySem L2 Fr
end Rim
namespace L2
open PySem
def a6e (o : Option HO) : Prop := ∀ u, o = some u -> (∀ zs, u ≠ .tup zs) /\ ∀ a b, u ≠ .frz a b
structure Fr0 (X : Addr -> Prop) (H H' : Hp) : Prop where
  k : ∀ b o, ¬ X b -> H b = some o -> H' b = some o
  m : ∀ x, X x -> a6e (H x)
section
variable {X : Addr -> Prop} {H H' : Hp} {K : W.Frag} {a : Addr} {xs : List V}
theorem Fr0.tup (e : Fr0 X H H') (h : H a = some (.tup xs)) : H' a = some (.tup xs) := e.k a _ (fun x => (e.m a x _ h).1 xs rfl) h
theorem Fr0.seqT (e : Fr0 X H H') (h : SqT K H a xs) : SqT K H' a xs := by
  rcases h with (h | ⟨o, h⟩) | h
  . exact .inl (.inl (e.tup h))
  . exact .inl (.inr ⟨o, e.k a _ (fun x => (e.m a x _ h).2 _ _ rfl) h⟩)
  . exact .inr h
theorem a0F {o : Option HO} {xs : List V} (h : o = some (.lst xs)) : a6e o := fun u e => by
  rw [h] at e
  obtain rfl := Option.some.inj e
  exact ⟨fun zs z => HO.noConfusion z, fun a b z => HO.noConfusion z⟩
theorem X4 {o : Option HO} {C dx : Addr} {fs : List (Str × V)} (h : o = some (.ins C dx fs)) : a6e o := fun u e => by
  rw [h] at e
  obtain rfl := Option.some.inj e
  exact ⟨fun zs z => HO.noConfusion z, fun a b z => HO.noConfusion z⟩
end
end L2
namespace Rim
open PySem L2 Fr
theorem HS.fr0 {X : Addr -> Prop} {K : W.Frag} {H H' : Hp} {v : V} {h : h9} (e : Fr0 X H H') (x : HS K H v h) : HS K H' v h := by
  obtain ⟨a, t, g, h0, h1, h2, h3⟩ := x
  exact ⟨a, t, g, h0, e.seqT h1, e.seqT h2, e.seqT h3⟩
theorem Bk.fr0 {X : Addr -> Prop} {K : W.Frag} {H H' : Hp} {vs : List V} {hs : List h9} (e : Fr0 X H H') (x : Bk K H vs hs) : Bk K H' vs hs := Paired.imp' (fun _ _ r => HS.fr0 e r) x
abbrev KFs (kt kg : Nat) (z : Str) (ta wa pa : Addr) : List (Str × V) := [("many_takes", .int (kt : Int)), ("many_gives", .int (kg : Int)), ("sizes", .str z), ("there", .ref ta), ("worth", .ref wa), ("past", .ref pa)]
structure TK (K : W.Frag) (C : Addr) : Prop where
  cl : Cls K C
  nT : NoAttr K C "many_takes"
  nG : NoAttr K C "many_gives"
  nS : NoAttr K C "sizes"
  nH : NoAttr K C "there"
  nW : NoAttr K C "worth"
  nP : NoAttr K C "past"
abbrev Lev := List h9 × List Q2
def a7G (K : W.Frag) (H : Hp) (lo : List Addr) (ta wa : Addr) (L : Lev) : Prop := ta ∈ lo /\ wa ∈ lo /\ (∃ xs, H ta = some (.lst xs) /\ Bk K H xs L.1) /\ ∃ ys, H wa = some (.lst ys) /\ PySem.Paired (FrT H) ys L.2
def a8W (K : W.Frag) (H : Hp) (lo : List Addr) : List V -> List Lev -> Prop := PySem.Paired fun v L => ∃ t ta wa, v = .ref t /\ H t = some (.tup [.ref ta, .ref wa]) /\ a7G K H lo ta wa L
structure b2s (K : W.Frag) (C : Addr) (H : Hp) (p : Addr) (kt kg : Nat) (z : Str) (L : Lev) (past : List Lev) (pa : Addr) (lo : List Addr) : Prop where
  no : pa ∉ lo
  ls : ∀ b ∈ lo, ∃ xs, H b = some (.lst xs)
  ex : ∃ dx ta wa pv, H p = some (.ins C dx (KFs kt kg z ta wa pa)) /\ a7G K H lo ta wa L /\ H pa = some (.lst pv) /\ a8W K H lo pv past
section
variable {P : Program} {w : World} {K : W.Frag} {mg : Str -> Option Value} {base : Heap} {f C CN CB CT CL Pt : Addr} {fd : FuncData} {n : Nat}
structure Fit (z : Str) (kt kg : Nat) : Prop where
  z : Szw z
  t1 : 1 <= kt
  t4 : kt <= 4
  g4 : kg <= 4
end
end Rim
namespace Rim
open PySem L2 Fr
open Tx (S cs ch w8 Asc C1 v7)
abbrev DS := List h9 × Str
abbrev DFs (ba : Addr) (z : Str) (pa : Addr) : List (Str × V) := [("book", .ref ba), ("sizes", .str z), ("past", .ref pa)]
structure TD (K : W.Frag) (C : Addr) : Prop where
  cl : Cls K C
  nB : NoAttr K C "book"
  nS : NoAttr K C "sizes"
  nP : NoAttr K C "past"
def BkL (K : W.Frag) (H : Hp) (b : Addr) (hs : List h9) : Prop := ∃ xs, H b = some (.lst xs) /\ Bk K H xs hs
def DPast (K : W.Frag) (H : Hp) (lo : List Addr) : List V -> List DS -> Prop := PySem.Paired fun v L => ∃ t b, v = .ref t /\ H t = some (.tup [.ref b, .str L.2]) /\ b ∈ lo /\ BkL K H b L.1
structure DkAt (K : W.Frag) (C : Addr) (H : Hp) (p : Addr) (L : DS) (past : List DS) (pa : Addr) (lo : List Addr) : Prop where
  no : pa ∉ lo
  ls : ∀ b ∈ lo, ∃ xs, H b = some (.lst xs)
  ex : ∃ dx ba pv, H p = some (.ins C dx (DFs ba L.2 pa)) /\ ba ∈ lo /\ BkL K H ba L.1 /\ H pa = some (.lst pv) /\ DPast K H lo pv past
theorem BkL.fr0 {X : Addr -> Prop} {K : W.Frag} {H H' : Hp} {b : Addr} {hs : List h9} (e : Fr0 X H H') (n : ¬ X b) (h : BkL K H b hs) : BkL K H' b hs := by
  obtain ⟨xs, h1, h2⟩ := h
  exact ⟨xs, e.k _ _ n h1, h2.fr0 e⟩
theorem DPast.fr0 {X : Addr -> Prop} {K : W.Frag} {H H' : Hp} {lo lo' : List Addr} {pv : List V} {past : List DS} (e : Fr0 X H H') (n : ∀ b ∈ lo, ¬ X b) (s : ∀ b ∈ lo, b ∈ lo') (h : DPast K H lo pv past) : DPast K H' lo' pv past :=
  Paired.imp' (fun _ _ ⟨t, b, h1, h2, h3, h4⟩ => ⟨t, b, h1, e.tup h2, s _ h3, h4.fr0 e (n _ h3)⟩) h
theorem DkAt.fr0 {X : Addr -> Prop} {K : W.Frag} {C : Addr} {H H' : Hp} {p : Addr} {L : DS} {past : List DS} {pa : Addr} {lo : List Addr} (e : Fr0 X H H') (n : ∀ b ∈ lo, ¬ X b) (np : ¬ X p) (na : ¬ X pa) (h : DkAt K C H p L past pa lo) : DkAt K C H' p L past pa lo := by
  obtain ⟨dx, ba, pv, h1, h2, h3, h4, h5⟩ := h.ex
  exact ⟨h.no, fun b hb => by obtain ⟨xs, q⟩ := h.ls b hb; exact ⟨xs, e.k _ _ (n b hb) q⟩, dx, ba, pv, e.k _ _ np h1, h2, h3.fr0 e (n _ h2), e.k _ _ na h4, h5.fr0 e n fun _ h => h⟩
theorem DkAt.same {K : W.Frag} {C : Addr} {H H' : Hp} {p : Addr} {L : DS} {past : List DS} {pa : Addr} {lo : List Addr} (e : Same H H') (h : DkAt K C H p L past pa lo) : DkAt K C H' p L past pa lo :=
  h.fr0 (X := fun _ => False) ⟨fun b o _ q => e b o q, fun _ x => x.elim⟩ (fun _ _ x => x) (fun x => x) fun x => x
def a7L (p pa : Addr) (H H' : Hp) : Prop := ∀ b o, b ≠ p -> b ≠ pa -> H b = some o -> H' b = some o
section
variable {P : Program} {w : World} {K : W.Frag} {mg : Str -> Option Value} {base : Heap} {f C CT CL CR : Addr} {fd : FuncData} {n : Nat}
def a3A (K : W.Frag) (C CT : Addr) : Sp := fun vs H Q E => ∃ (p dx : Addr) (z : S), vs = [.ref p, .str z] /\ H p = some (.ins C dx []) /\ Asc z /\ z.length <= 100000 /\ (B4 z = none -> ∀ H', Same H H' -> E (.ref CT) none H') ∧
  ∀ hs, B4 z = some hs -> ∀ (H' : Hp) (pa : Addr) (lo : List Addr), DkAt K C H' p (hs, "any") [] pa lo -> (∀ b o, b ≠ p -> H b = some o -> H' b = some o) -> H pa = none -> (∀ b ∈ lo, H b = none) -> Q .non H'
theorem a6W : p6 ["self", "text"] ["self", "text"] (h7 K3) := ⟨rfl, rfl, rfl, by decide +kernel, rfl, by decide +kernel, by decide +kernel⟩
set_option maxHeartbeats 2000000 in
theorem a5r {fa : Addr} {da : FuncData} (F : Fun K "__init__" "Desk.__init__" K3 f fd) (T : TD K C) (Cb : a7k P w K mg base n "read_book" ["text"] (a1v K CT) fa da) : x8 P w K mg base (T6 P w) (n + 1) f fd ["self", "text"] (a3A K C CT) := by
  refine F.ok1 a6W (fun vs H Q E h => ?_) (fun cdv A outer s H vs Q E hr h => ?_)
  . obtain ⟨p, dx, z, rfl, _⟩ := h
    rfl
  obtain ⟨p, dx, z, rfl, hp, ha, hl, q0, q1⟩ := h
  refine ⟨_, h8 (a2Z (pv 0) (r8 Cb.ok hr rfl Cb.m Cb.k Cb.b .nil a1K (c0 (pv 1) c7)) rfl) (PSs.nox (h8 (a2Z (pv 0) t7 rfl) (g0 (a2Z (pv 0) (w4 c7) rfl)))), ?_⟩
  refine ⟨_, rfl, z, rfl, ha, hl, q0, fun hs er l xs H1 e1 hl0 hlx hB => ?_⟩
  have hp1 := e1 _ _ hp
  have npl : p ≠ l := K5 hp1 hlx nofun
  refine ⟨_, rfl, p, C, dx, _, rfl, hp1, T.cl, T.nB, (by show 0 < 1000; decide), ?_⟩
  refine ⟨_, rfl, p, C, dx, _, rfl, c6, T.cl, T.nS, (by show 1 < 1000; decide), ?_⟩
  rw [P4]
  refine ⟨(by show 0 <= sizeLine; decide), fun pa hpa => ?_⟩
  have n1 : p ≠ pa := j7 c6 hpa
  refine ⟨_, rfl, p, C, dx, _, rfl, by rw [j6 n1]; exact c6, T.cl, T.nP, (by show 2 < 1000; decide), ?_⟩
  have hpa1 : H1 pa = none := by rw [j6 n1.symm] at hpa; exact hpa
  have nla : l ≠ pa := fun z0 => by rw [z0, hpa1] at hlx; cases hlx
  have hpa0 : H pa = none := e1.free hpa1
  have kp : ∀ b o, b ≠ p -> b ≠ pa -> H1 b = some o -> upd (upd (upd H1 p (.ins C dx (N4 "sizes" (.str "any") (N4 "book" (.ref l) [])))) pa (.lst [])) p (.ins C dx (DFs l "any" pa)) b = some o := fun b o h1 h2 h => by
    rw [j6 h1, j6 h2, j6 h1]; exact h
  have fr : Fr0 (fun b => b = p \/ b = pa) H1 (upd (upd (upd H1 p (.ins C dx (N4 "sizes" (.str "any") (N4 "book" (.ref l) [])))) pa (.lst [])) p (.ins C dx (DFs l "any" pa))) := ⟨fun b o h1 h2 => kp b o (fun z0 => h1 (.inl z0)) (fun z0 => h1 (.inr z0)) h2, fun x hx => by
    rcases hx with rfl | rfl
    . exact X4 hp1
    . intro u hu; rw [hpa1] at hu; cases hu⟩
  refine q1 hs er _ pa [l] ⟨fun h => nla (List.mem_singleton.mp h).symm, fun b hb => ?_, dx, l, [], c6, .head _, ⟨xs, kp _ _ npl.symm nla hlx, hB.fr0 fr⟩, ?_, .nil⟩ (fun b o hb h => ?_) hpa0 fun b hb => ?_
  . rw [List.mem_singleton.mp hb]
    exact ⟨xs, kp _ _ npl.symm nla hlx⟩
  . rw [j6 n1.symm, c6]
  . exact kp _ _ hb (j7 h hpa0) (e1 _ _ h)
  . rw [List.mem_singleton.mp hb]; exact hl0
theorem a1U {α : Type} {l : List α} {k : Nat} (h : l.length = k + 1) : ∃ l' x, l = l' ++ [x] /\ l'.length = k := by
  rcases List.eq_nil_or_concat l with e | ⟨l', x, e⟩
  . subst e; simp at h
  . rw [List.concat_eq_append] at e
    subst e
    exact ⟨l', x, rfl, by simpa using h⟩
theorem U6 {α β : Type} {F : α -> β -> Prop} : ∀ {l : List α} {m : List β} {x : α} {y : β}, PySem.Paired F (l ++ [x]) (m ++ [y]) -> PySem.Paired F l m /\ F x y
  | [], [], _, _, .cons r _ => ⟨.nil, r⟩
  | a :: l, b :: m, _, _, .cons r t => by
    obtain ⟨h1, h2⟩ := U6 t
    exact ⟨.cons r h1, h2⟩
  | [], b :: m, _, _, h => by
    have := Paired.length h
    simp at this
  | a :: l, [], _, _, h => by
    have := Paired.length h
    simp at this
def Y6 (K : W.Frag) (C CL : Addr) : Sp := fun vs H Q E => ∃ (p pa : Addr) (L : DS) (past : List DS) (lo : List Addr), vs = [.ref p] /\ DkAt K C H p L past pa lo /\ (past = [] -> ∀ H', Same H H' -> E (.ref CL) none H') ∧
  ∀ past0 L0, past = past0 ++ [L0] -> ∀ H', DkAt K C H' p L0 past0 pa lo -> a7L p pa H H' -> Q (.str "ok") H'
theorem a6D : p6 ["self"] ["self"] (h7 J2) := ⟨rfl, rfl, rfl, by decide +kernel, rfl, by decide +kernel, by decide +kernel⟩
set_option maxHeartbeats 2000000 in
theorem a4z (F : Fun K "take_back" "Desk.take_back" J2 f fd) (T : TD K C) (kL : P1 K CL) (mL : mg "NothingLeft" = some (.ref CL)) : x8 P w K mg base (T6 P w) (n + 1) f fd ["self"] (Y6 K C CL) := by
  refine F.ok1 a6D (fun vs H Q E h => ?_) (fun cdv A outer s H vs Q E hr h => ?_)
  . obtain ⟨p, pa, L, past, lo, rfl, _⟩ := h
    rfl
  obtain ⟨p, pa, L, past, lo, rfl, DK, q0, q1⟩ := h
  refine ⟨_, h8 (u9 (G7 (a2l (O3 (pv 0) rfl) (fun _ => rfl))) (g0 (W0 kL rfl mL hr.hd (c0 t7 c7))) r6)
    (PSs.nox (h8 (E4 (a8p PySem.F.plainAttrs_list PySem.F.slot_list_pop PySem.F.type_list_pop a8g (O3 (pv 0) rfl)) (G6 rfl (t6 (a1A (pv 0)) (t6 (a1A (pv 0)) C4))))
    (g0 (m6 t7)))), ?_⟩
  obtain ⟨dx, ba, pv0, hp, hba, hbk, hpa, hps⟩ := DK.ex
  have lpv : pv0.length = past.length := Paired.length hps
  refine ⟨_, rfl, p, C, dx, _, _, rfl, hp, T.cl, T.nP, rfl, _, .inl ⟨_, SqL.of hpa, rfl⟩, ?_⟩
  rcases List.eq_nil_or_concat past with e | ⟨past0, L0, e⟩
  . subst e
    have : pv0 = [] := List.eq_nil_of_length_eq_zero (by simpa using lpv)
    subst this
    refine C9 ?_
    exact ⟨(by show 1 <= 1000; decide), q0 rfl H (Same.refl _)⟩
  . rw [List.concat_eq_append] at e
    subst e
    obtain ⟨pv1, v, rfl, l1⟩ := a1U (l := pv0) (k := past0.length) (by rw [lpv]; simp)
    obtain ⟨hps1, t, b0, rfl, ht, hb0, hk0⟩ := U6 hps
    have ne0 : (!(pv1 ++ [V.ref t]).isEmpty) = true := by simp
    rw [ne0]
    refine D0 ?_
    have gl : (pv1 ++ [V.ref t])[(pv1 ++ [V.ref t]).length - 1]? = some (V.ref t) := by simp
    refine ⟨_, rfl, p, C, dx, _, _, rfl, hp, T.cl, T.nP, rfl, .inl ⟨rfl, _, SqL.of hpa⟩, pa, _, _, rfl, rfl, hpa, gl, ?_⟩
    have npp : p ≠ pa := K5 hp hpa nofun
    have nta : t ≠ pa := K5 ht hpa nofun
    refine ⟨t, _, rfl, SqT.of (by rw [j6 nta]; exact ht), rfl, _, _, rfl, ⟨_, rfl, p, C, dx, _, rfl, by rw [j6 npp]; exact hp, T.cl, T.nB, (by show 3 < 1000; decide), _, _, rfl, ⟨_, rfl, p, C, dx, _, rfl, c6, T.cl, T.nS, (by show 3 < 1000; decide), rfl, ?_⟩⟩⟩
    rw [P4]
    have ed : (pv1 ++ [V.ref t]).dropLast = pv1 := by simp
    rw [ed]
    have fr : Fr0 (fun b => b = p \/ b = pa) H (upd (upd H pa (.lst pv1)) p (.ins C dx (DFs b0 L0.2 pa))) := ⟨fun b o h1 h2 => by
      rw [j6 (fun z0 => h1 (.inl z0)), j6 (fun z0 => h1 (.inr z0))]; exact h2, fun x hx => by
      rcases hx with rfl | rfl
      . exact X4 hp
      . exact a0F hpa⟩
    have nlo : ∀ b ∈ lo, ¬ (b = p \/ b = pa) := fun b hb z0 => by
      obtain ⟨xs, hx⟩ := DK.ls b hb
      rcases z0 with rfl | rfl
      . rw [hp] at hx; cases hx
      . exact DK.no hb
    refine q1 past0 L0 rfl _ ⟨DK.no, fun b hb => ?_, dx, b0, pv1, c6, hb0, hk0.fr0 fr (nlo _ hb0), by rw [j6 npp.symm, c6], DPast.fr0 fr nlo (fun _ h => h) hps1⟩ fun b o h1 h2 h => ?_
    . obtain ⟨xs, hx⟩ := DK.ls b hb
      exact ⟨xs, fr.k _ _ (nlo b hb) hx⟩
    . exact fr.k _ _ (fun z0 => z0.elim h1 h2) h
end
end Rim
namespace Rim
open PySem L2 Fr
open Tx (S cs ch w8 Asc C1 v7)
structure a4B (P : Program) (w : World) (K : W.Frag) (mg : Str -> Option Value) (base : Heap) (CX : CXT) (n : Nat) (C : Addr) (m : Str) (ps : List Str) (sp : Sp) (f : Addr) (fd : FuncData) : Prop where
  ok : x8 P w K mg base CX n f fd ps sp
  bd : Binds K fd ps []
  me : a5c K C m f
section
variable {P : Program} {w : World} {K : W.Frag} {mg : Str -> Option Value} {base : Heap} {f C CL CR dA dD : Addr} {fd : FuncData} {n : Nat} {kA kD : List (Str × Addr)}
def Fn1 (P : Program) (w : World) (K : W.Frag) (mg : Str -> Option Value) (base : Heap) (n : Nat) (g : Addr) (sp : Sp) : Prop := ∃ gd, x8 P w K mg base (T6 P w) n g gd ["book", "sizes", "things"] sp /\ Binds K gd ["book", "sizes", "things"] [] /\ W.keepIn K (.ref g) = true
def a5V (K : W.Frag) (C CL CR : Addr) (kA kD : List (Str × Addr)) (FA : Addr -> Sp -> Prop) : Sp := fun vs H Q E => ∃ (p pa : Addr) (z : S) (L : DS) (past : List DS) (lo : List Addr), vs = [.ref p, .str z] /\ DkAt K C H p L past pa lo /\ past.length <= 1000 /\ Asc z /\ z.length <= 100000 ∧
  (S4 z = none -> ∀ H', Same H H' -> E (.ref CR) none H') ∧
  ∀ wd ts, S4 z = some (wd, ts) -> ∀ l us ba H1, Same H H1 -> H1 l = some (.lst us) -> PySem.Paired (ThV K H1) us ts -> ba ∈ lo -> BkL K H1 ba L.1 →
    (∀ g, kA.lookup wd = some g -> ∃ sp, FA g sp /\ sp [.ref ba, .str L.2, .ref l] H1 Q E) ∧
    (kA.lookup wd = none -> ∀ g, kD.lookup wd = some g -> ∃ sp, FA g sp /\ ∀ Q' : VK, (∀ v H2, (∃ t an b' z' hs', v = .ref t /\ H2 t = some (.tup [.str an, .ref b', .str z']) /\ Same H1 H2 /\ BkL K H2 b' hs' /\ b' ≠ pa /\ ∀ H' lo', DkAt K C H' p (hs', z') (past ++ [L]) pa lo' -> (∀ b ∈ lo', b = b' \/ b ∈ lo) -> a7L p pa H2 H' -> Q (.str an) H') -> Q' v H2) -> sp [.ref ba, .str L.2, .ref l] H1 Q' E) ∧
    (kA.lookup wd = none -> kD.lookup wd = none -> Y6 K C CL [.ref p] H1 Q E)
theorem scSay : p6 ["self", "row", "word", "things", "ask", "deed", "answer", "book", "sizes"] ["self", "row"] (h7 J1) := ⟨rfl, rfl, rfl, by decide +kernel, rfl, by decide +kernel, by decide +kernel⟩
set_option maxHeartbeats 8000000 in
noncomputable def b1P {cdv : Value} {A : Around} {outer : List Env} {s : Shared} {H : Hp} {E : XK} {f1 f2 : Addr} {d1 d2 : FuncData} {FA : Addr -> Sp -> Prop} (T : TD K C) (TA : KTab K w.params mg "ASKS" dA kA) (TDd : KTab K w.params mg "DEEDS" dD kD) (Cr : a7k P w K mg base n "read_row" ["row"] (a1o K CR) f1 d1) (Ct : a4B P w K mg base (T6 P w) n C "take_back" ["self"] (Y6 K C CL) f2 d2) (hFA : ∀ g sp, FA g sp -> Fn1 P w K mg base n g sp)
    (hr : Room n (A.deeper (PyProof.Rows.envOfC "Desk.say" (h7 J1) s.heap.objs.size f cdv))) :
    { t : TS // PSs (M2 (T6 P w) P w K mg base ["self", "row", "word", "things", "ask", "deed", "answer", "book", "sizes"] "Desk.say" (h7 J1) f cdv A outer s H E) (x6 J1) t } :=
  ⟨_, h8 (E4 (r8 Cr.ok hr rfl Cr.m Cr.k Cr.b .nil a1K (c0 (pv 1) c7)) (G6 rfl (t6 (j5 (i := 2) scSay.nd rfl (Or.inl rfl)) (t6 (j5 (i := 3) scSay.nd rfl (Or.inl rfl)) C4))))
    (h8 (u9 (j3 (a5g K w.params rfl rfl) (pv 2) (A3 (v := .ref dA) rfl TA.m rfl) rfl)
      (h8 (r9 (i := 4) scSay.nd rfl (Or.inl rfl) (p7 (a1t K w.params rfl rfl) (A3 (v := .ref dA) rfl TA.m rfl) (pv 2) (fun _ _ => rfl)))
      (g0 (m6 (a2a (F := FA) (E := E) (fun g sp h => let ⟨gd, h1, h2, h3⟩ := hFA g sp h; ⟨T6 P w, n, gd, _, h1, hr, h3, h2, a1K⟩) (pv 4) (c0 (O3 (pv 0) rfl) (c0 (O3 (pv 0) rfl) (c0 (pv 3) c7))))))) r6)
    (h8 (u9 (j3 (a5g K w.params rfl rfl) (pv 2) (A3 (v := .ref dD) rfl TDd.m rfl) rfl)
      (h8 (r9 (i := 5) scSay.nd rfl (Or.inl rfl) (p7 (a1t K w.params rfl rfl) (A3 (v := .ref dD) rfl TDd.m rfl) (pv 2) (fun _ _ => rfl)))
      (h8 (E4 (a2a (F := FA) (E := E) (fun g sp h => let ⟨gd, h1, h2, h3⟩ := hFA g sp h; ⟨T6 P w, n, gd, _, h1, hr, h3, h2, a1K⟩) (pv 5) (c0 (O3 (pv 0) rfl) (c0 (O3 (pv 0) rfl) (c0 (pv 3) c7)))) (G6 rfl (t6 (j5 (i := 6) scSay.nd rfl (Or.inl rfl)) (t6 (j5 (i := 7) scSay.nd rfl (Or.inl rfl)) (t6 (j5 (i := 8) scSay.nd rfl (Or.inl rfl)) C4)))))
      (PSs.nox (h8 (V8 (E5 PySem.F.plainAttrs_list PySem.F.slot_list_append PySem.F.type_list_append K7 (O3 (pv 0) rfl) (c0 (N6 (c0 (O3 (pv 0) rfl) (c0 (O3 (pv 0) rfl) c7))) c7)))
      (h8 (E4 (N6 (c0 (pv 7) (c0 (pv 8) c7))) (G6 rfl (t6 (a1A (pv 0)) (t6 (a1A (pv 0)) C4))))
      (g0 (m6 (pv 6)))))))) r6)
    (g0 (m6 (a6a (pv 0) T.cl Ct.me Ct.ok hr Ct.bd .nil a1K)))))⟩
set_option maxHeartbeats 8000000 in
theorem a8T {f1 f2 : Addr} {d1 d2 : FuncData} {FA : Addr -> Sp -> Prop} (F : Fun K "say" "Desk.say" J1 f fd) (T : TD K C) (TA : KTab K w.params mg "ASKS" dA kA) (TDd : KTab K w.params mg "DEEDS" dD kD) (Cr : a7k P w K mg base n "read_row" ["row"] (a1o K CR) f1 d1) (Ct : a4B P w K mg base (T6 P w) n C "take_back" ["self"] (Y6 K C CL) f2 d2) (hFA : ∀ g sp, FA g sp -> Fn1 P w K mg base n g sp) :
    x8 P w K mg base (T6 P w) (n + 1) f fd ["self", "row"] (a5V K C CL CR kA kD FA) := by
  refine F.ok1 scSay (fun vs H Q E h => ?_) (fun cdv A outer s H vs Q E hr h => ?_)
  . obtain ⟨p, pa, z, L, past, lo, rfl, _⟩ := h
    rfl
  obtain ⟨p, pa, z, L, past, lo, rfl, DK, hpl, ha, hl, q0, q1⟩ := h
  refine ⟨_, (b1P T TA TDd Cr Ct hFA hr).2, ?_⟩
  refine ⟨_, rfl, z, rfl, ha, hl, q0, fun wd ts er t l us H1 e1 ht hlu hth => ?_⟩
  have DK1 := DK.same e1
  obtain ⟨dx, ba, pv0, hp, hba, hbk, hpa, hps⟩ := DK1.ex
  obtain ⟨qa, qd, qb⟩ := q1 wd ts er l us ba H1 e1 hlu hth hba hbk
  refine ⟨t, _, rfl, SqT.of ht, rfl, _, _, rfl, _, _, rfl, rfl, ?_⟩
  refine ⟨_, rfl, dA, wd, _, rfl, rfl, TA.k, TA.ns wd, TA.sys, _, rfl, ?_⟩
  cases hA : kA.lookup wd with
  | some g =>
    obtain ⟨sp, hg, hsp⟩ := qa g hA
    refine C9 ?_
    refine ⟨_, rfl, dA, wd, g, rfl, rfl, TA.k, by rw [TA.ns wd, hA]; rfl, ?_⟩
    exact ⟨_, rfl, g, sp, rfl, hg, _, rfl, p, C, dx, _, _, rfl, hp, T.cl, T.nB, rfl, _, rfl, p, C, dx, _, _, rfl, hp, T.cl, T.nS, rfl, _, rfl, hsp⟩
  | none =>
    refine D0 ?_
    refine ⟨_, rfl, dD, wd, _, rfl, rfl, TDd.k, TDd.ns wd, TDd.sys, _, rfl, ?_⟩
    cases hD : kD.lookup wd with
    | none =>
      refine D0 ?_
      exact ⟨_, rfl, p, dx, _, rfl, hp, rfl, qb hA hD⟩
    | some g =>
      obtain ⟨sp, hg, hsp⟩ := qd hA g hD
      refine C9 ?_
      refine ⟨_, rfl, dD, wd, g, rfl, rfl, TDd.k, by rw [TDd.ns wd, hD]; rfl, ?_⟩
      refine ⟨_, rfl, g, sp, rfl, hg, _, rfl, p, C, dx, _, _, rfl, hp, T.cl, T.nB, rfl, _, rfl, p, C, dx, _, _, rfl, hp, T.cl, T.nS, rfl, _, rfl, ?_⟩
      refine hsp _ ?_
      rintro v H2 ⟨t2, an, b', z', hs', rfl, ht2, e2, hbk', nb, qq⟩
      have hp2 := e2 _ _ hp
      have hpa2 := e2 _ _ hpa
      have npp : p ≠ pa := K5 hp2 hpa2 nofun
      have pl : pv0.length = past.length := Paired.length hps
      refine ⟨t2, _, rfl, SqT.of ht2, rfl, _, _, rfl, _, _, rfl, _, _, rfl, rfl, ?_⟩
      refine ⟨_, rfl, p, C, dx, _, _, rfl, hp2, T.cl, T.nP, rfl, .inl ⟨rfl, _, SqL.of hpa2⟩, _, rfl, p, C, dx, _, _, rfl, hp2, T.cl, T.nB, rfl, _, rfl, p, C, dx, _, _, rfl, hp2, T.cl, T.nS, rfl, (by show 2 <= sizeLine; decide), fun tt htt => ?_⟩
      have s3 := Same.new htt (.tup [V.ref ba, V.str L.2])
      have hpa3 := s3 _ _ hpa2
      have hp3 := s3 _ _ hp2
      refine ⟨pa, pv0, _, rfl, rfl, hpa3, by rw [sizeLine_eq]; omega, ?_⟩
      have htt3 : (upd H2 tt (.tup [V.ref ba, V.str L.2])) tt = some (.tup [V.ref ba, V.str L.2]) := c6
      generalize upd H2 tt (.tup [V.ref ba, V.str L.2]) = H3 at *
      have ntp : tt ≠ pa := K5 htt3 hpa3 nofun
      have nttp : tt ≠ p := K5 htt3 hp3 nofun
      refine ⟨_, rfl, _, rfl, (by show 2 <= sizeLine; decide), fun t5 ht5 => ?_⟩
      have hp4 : (upd H3 pa (.lst (pv0 ++ [V.ref tt]))) p = some (.ins C dx (DFs ba L.2 pa)) := by rw [j6 npp]; exact hp3
      have n5 : p ≠ t5 := j7 hp4 ht5
      have n5a : pa ≠ t5 := j7 c6 ht5
      refine ⟨t5, _, rfl, SqT.of c6, rfl, _, _, rfl, ⟨_, rfl, p, C, dx, _, rfl, by rw [j6 n5]; exact hp4, T.cl, T.nB, (by show 3 < 1000; decide), _, _, rfl, ⟨_, rfl, p, C, dx, _, rfl, c6, T.cl, T.nS, (by show 3 < 1000; decide), rfl, ?_⟩⟩⟩
      rw [P4]
      have h5 : H3 t5 = none := by rw [j6 n5a.symm] at ht5; exact ht5
      have fr : Fr0 (fun b => b = p \/ b = pa) H3 (upd (upd (upd H3 pa (.lst (pv0 ++ [V.ref tt]))) t5 (.tup [V.ref b', V.str z'])) p (.ins C dx (DFs b' z' pa))) := ⟨fun b o h1 h2 => by
        rw [j6 (fun z0 => h1 (.inl z0)), j6 (j7 h2 h5), j6 (fun z0 => h1 (.inr z0))]; exact h2, fun x hx => by
        rcases hx with rfl | rfl
        . exact X4 hp3
        . exact a0F hpa3⟩
      have e13 := e2.trans s3
      have DK3 := DK1.same e13
      have nlo : ∀ b ∈ lo, ¬ (b = p \/ b = pa) := fun b hb z0 => by
        obtain ⟨xs, hx⟩ := DK3.ls b hb
        rcases z0 with rfl | rfl
        . rw [hp3] at hx; cases hx
        . exact DK3.no hb
      obtain ⟨xs', hx', hB'⟩ := hbk'
      have hx3 := s3 _ _ hx'
      have nb' : ¬ (b' = p \/ b' = pa) := fun z0 => by
        rcases z0 with rfl | z0
        . rw [hp3] at hx3; cases hx3
        . exact nb z0
      have hps3 : DPast K H3 lo pv0 past := Paired.imp' (fun _ _ ⟨t, b, h1, h2, h3, h4⟩ => ⟨t, b, h1, e13 _ _ h2, h3, h4.fr0 (X := fun _ => False) ⟨fun b o _ q => e13 b o q, fun _ x => x.elim⟩ fun x => x⟩) hps
      have hbk3 : BkL K H3 ba L.1 := hbk.fr0 (X := fun _ => False) ⟨fun b o _ q => e13 b o q, fun _ x => x.elim⟩ fun x => x
      refine ⟨_, rfl, qq _ (b' :: lo) ⟨fun h => ?_, fun b hb => ?_, dx, b', pv0 ++ [V.ref tt], c6, .head _, ⟨xs', fr.k _ _ nb' hx3, (Bk.same s3 hB').fr0 fr⟩, by rw [j6 npp.symm, j6 n5a, c6], ?_⟩ (fun b hb => List.mem_cons.mp hb) fun b o h1 h2 h => fr.k _ _ (fun z0 => z0.elim h1 h2) (s3 _ _ h)⟩
      . rcases List.mem_cons.mp h with h | h
        . exact nb h.symm
        . exact DK3.no h
      . rcases List.mem_cons.mp hb with rfl | hb
        . exact ⟨xs', fr.k _ _ nb' hx3⟩
        . obtain ⟨xs, hx⟩ := DK3.ls b hb
          exact ⟨xs, fr.k _ _ (nlo b hb) hx⟩
      . refine Paired.app (DPast.fr0 fr nlo (fun _ h => List.mem_cons_of_mem _ h) hps3) (.cons ⟨tt, ba, rfl, fr.tup htt3, List.mem_cons_of_mem _ hba, hbk3.fr0 fr (nlo _ hba)⟩ .nil)
end
end Rim
namespace Rim
open PySem L2 Fr
structure GrU (z : Str) (hs : List h9) (h : h9) (kt kg : Nat) (A B : Int) : Prop where
  s : a8F z hs h kt kg A B
  a : Big 20000 A
  p : 0 < A
  b : 0 < B
  c : B < 2 ^ 8000
section
variable {P : Program} {w : World} {K : W.Frag} {mg : Str -> Option Value} {base : Heap} {f Pt d CN CB : Addr} {fd : FuncData} {n : Nat} {C : Addr}
end
end Rim
namespace Rim
open PySem L2 Fr
structure b2n (z : Str) (hs : List h9) (h : h9) (kt kg : Nat) (ws : List Int) (v : Int) : Prop where
  m : Mx z hs ws v
  t : ∀ j, j < kt -> a0z hs ws 0 j <= h.1.getD j 0 * v
  g : ∀ j, j < kg -> h.2.getD j 0 * v <= a0z hs ws 1 j
  s : h.2.sum * v - h.1.sum * v < dot (hs.map fun g => g.2.sum - g.1.sum) ws
section
variable {z : Str} {hs : List h9} {h : h9} {kt kg i : Nat} {S : Lp.Bo} {far : Int}
end
end Rim
namespace Rim
open PySem L2 Fr
section
variable {z : Str} {hs : List h9} {h : h9} {kt kg i : Nat} {far : Int}
end
end Rim
namespace Rim
open PySem L2 Fr
section
variable {z : Str} {hs R : List h9} {h : h9} {kt kg : Nat} {far A B : Int}
end
end Rim
namespace Rim
open PySem L2 Fr
section
variable {z : Str} {O hs : List h9} {h : h9} {kt kg : Nat} {far A B k : Int}
end
end Rim
namespace Rim
open PySem L2 Fr
structure FrB (n : Nat) (x : Q2) : Prop where
  p1 : 0 < x.1
  b1 : x.1 < 2 ^ n
  p2 : 0 < x.2
  b2 : x.2 < 2 ^ n
section
variable {P : Program} {w : World} {K : W.Frag} {mg : Str -> Option Value} {base : Heap} {f Pt CN : Addr} {fd : FuncData} {n : Nat}
structure ShB (z : Str) (hs : List h9) (h : h9) (kt kg : Nat) (x : Q2) : Prop where
  s : ∃ A B, a3w z hs h kt kg A B /\ 0 < A /\ x = low A B
  b : FrB 1200 x
end
end Rim
namespace Rim
open PySem L2 Fr
open Tx (S cs ch w8 Asc C1 v7)
theorem a7I {far : Int} {kt kg : Nat} {h : h9} (g : HG far kt kg h) (hf : far <= 10 ^ 9) (h1 : kt <= 4) (h2 : kg <= 4) : Sm h.1 /\ Sm h.2 :=
  ⟨⟨by rw [g.lt]; omega, fun x hx => by have := g.t x hx; omega⟩, ⟨by rw [g.lg]; omega, fun x hx => by have := g.g x hx; omega⟩⟩
section
variable {P : Program} {w : World} {K : W.Frag} {mg : Str -> Option Value} {base : Heap} {f CN CB CT Pt : Addr} {fd : FuncData} {n : Nat}
abbrev a8L : List Str := ["book", "sizes", "things"]
def Y7 (K : W.Frag) : Sp := fun vs H Q _ => ∃ (ba : Addr) (v1 v2 : V) (xs : List V) (hs : List h9), vs = [.ref ba, v1, v2] /\ SqL K H ba xs /\ Bk K H xs hs /\ hs.length <= 100 /\ (∀ h ∈ hs, Sm h.1 /\ Sm h.2) /\ ∀ H', Same H H' -> Q (.str (D7 hs)) H'
theorem a6v : p6 a8L a8L (h7 Q7) := ⟨rfl, rfl, rfl, by decide +kernel, rfl, by decide +kernel, by decide +kernel⟩
theorem a4Z {f1 : Addr} {d1 : FuncData} (F : Fun K "tell_book" "tell_book" Q7 f fd) (Cb : N1 P w K mg base n "book_text" ["book"] (a1g K) f1 d1) : x8 P w K mg base (T6 P w) (n + 1) f fd a8L (Y7 K) := by
  refine F.ok1 a6v (fun vs H Q E h => ?_) (fun cdv A outer s H vs Q E hr h => ?_)
  . obtain ⟨ba, v1, v2, xs, hs, rfl, _⟩ := h
    rfl
  obtain ⟨ba, v1, v2, xs, hs, rfl, hS, hB, hl, hm, q⟩ := h
  refine ⟨_, g0 (m6 (r8 Cb.ok hr rfl Cb.m Cb.k Cb.b .nil x9 (c0 (pv 0) c7))), ?_⟩
  exact ⟨_, rfl, ba, xs, hs, rfl, hS, hB, hl, hm, fun H' e => q H' e⟩
end
end Rim
namespace Rim
open PySem L2 Fr
open Tx (S cs ch w8 Asc C1 v7 cs_app cs_ch ext T1)
theorem a1P (c : Nat) (p q : S) (r : List S) : cs (Str.join (ch c) (p :: q :: r)) = cs p ++ c :: cs (Str.join (ch c) (q :: r)) := by
  show cs (p ++ ch c ++ Str.join (ch c) (q :: r)) = _
  rw [cs_app, cs_app, cs_ch, List.append_assoc]; rfl
theorem a1l {c d : Nat} : ∀ {ps : List S}, d ∈ cs (Str.join (ch c) ps) -> d = c \/ ∃ p ∈ ps, d ∈ cs p
  | [], h => by cases h
  | [p], h => .inr ⟨p, .head _, h⟩
  | p :: q :: r, h => by
    rw [a1P] at h
    rcases List.mem_append.mp h with h | h
    . exact .inr ⟨p, .head _, h⟩
    . rcases List.mem_cons.mp h with h | h
      . exact .inl h
      . rcases a1l h with h | ⟨x, hx, h⟩
        . exact .inl h
        . exact .inr ⟨x, .tail _ hx, h⟩
theorem a9d {n : Int} (h : 0 <= n) {d : Nat} (hd : d ∈ cs (w8 n)) : 48 <= d /\ d <= 57 := by
  obtain ⟨m, rfl⟩ := Int.eq_ofNat_of_zero_le h
  have := Tx.num_digits m d hd
  omega
theorem a3r {ns : List Int} (h : ∀ n ∈ ns, 0 <= n) {d : Nat} (hd : d ∈ cs (B9 ns)) : d = 44 \/ (48 <= d /\ d <= 57) := by
  rcases a1l hd with e | ⟨p, hp, hd⟩
  . exact .inl e
  . obtain ⟨n, hn, rfl⟩ := List.mem_map.mp hp
    exact .inr (a9d (h n hn) hd)
theorem X0 (h : h9) : A7 h = Str.join (ch 62) [B9 h.1, B9 h.2] := by
  refine ext ?_
  rw [a1P]
  unfold A7
  rw [cs_app, cs_app, cs_app]
  show cs (B9 h.1) ++ ([62] ++ (cs (B9 h.2) ++ [])) = _
  rw [List.append_nil]; rfl
def Pos (h : h9) : Prop := (∀ n ∈ h.1, 0 <= n) /\ ∀ n ∈ h.2, 0 <= n
theorem a5K {h : h9} (p : Pos h) {d : Nat} (hd : d ∈ cs (A7 h)) : d = 44 \/ d = 62 \/ (48 <= d /\ d <= 57) := by
  rw [X0] at hd
  rcases a1l hd with e | ⟨x, hx, hd⟩
  . exact .inr (.inl e)
  . rcases List.mem_cons.mp hx with rfl | hx
    . exact (a3r p.1 hd).imp id .inr
    . rw [List.mem_singleton.mp hx] at hd
      exact (a3r p.2 hd).imp id .inr
theorem IsB.any {hs : List h9} (b : IsB hs) : ∀ h ∈ hs, Q3 h := fun h hh => by
  obtain ⟨_, h0, e0, a0, g⟩ := b
  have gh := g h hh
  have l1 : h.1.length = h0.1.length := by have := gh.1.1; omega
  have l2 : h.2.length = h0.2.length := by have := gh.2.1.1; omega
  refine ⟨by rw [l1]; exact a0.1, by rw [l2]; exact a0.2.1, ?_⟩
  rw [l1, l2]; exact gh
theorem a5w {w : S} {fs : List Str} {r : List S} {ts : List Th} (hw : 32 ∉ cs w) (hr : ∀ p ∈ r, 32 ∉ cs p) (hf : FORML.lookup w = some fs) (hl : r.length = fs.length) (ht : List.zipWith D6 fs r = ts.map some) : S4 (Str.join (ch 32) (w :: r)) = some (w, ts) := by
  unfold S4
  rw [T1 (by simp) (fun p hp => by
    rcases List.mem_cons.mp hp with rfl | hp
    . exact hw
    . exact hr p hp)]
  show (match FORML.lookup w with
    | none => none
    | some fs => if r.length = fs.length then (O1 (List.zipWith D6 fs r)).map (fun ts => (w, ts)) else none) = _
  rw [hf]
  show (if r.length = fs.length then (O1 (List.zipWith D6 fs r)).map (fun ts => (w, ts)) else none) = _
  rw [if_pos hl, ht, a3s]; rfl
theorem a5H : S4 ("book" : Str) = some (("book" : Str), []) := a5w (w := "book") (r := []) (by decide +kernel) (fun _ h => by cases h) (fs := []) rfl rfl rfl
end Rim
namespace Rim
open PySem L2 Fr
open Tx (S cs ch w8 Asc C1 v7 cs_app cs_ch ext T1)
theorem a4H {x : S} {n : Int} (h : v7 x = some n) : w8 n = x := by
  unfold v7 at h
  split at h
  case isFalse => cases h
  case isTrue c =>
    cases h
    rw [C7, Bool.and_eq_true, Bool.and_eq_true, Bool.and_eq_true, Bool.or_eq_true] at c
    obtain ⟨⟨⟨c1, c2⟩, c3⟩, c4⟩ := c
    have dig : PySem.NumText.AllDigits (cs x) := fun c hc => by
      have := List.all_eq_true.mp c3 c hc
      rw [Bool.and_eq_true] at this
      exact ⟨of_decide_eq_true this.1, of_decide_eq_true this.2⟩
    have l1 : 1 <= (cs x).length := of_decide_eq_true c1
    have e := PySem.NumText.toDigits_digitsVal ((cs x).length - 1) (cs x) (by omega) dig (by
      rcases c4 with c4 | c4
      . right
        cases hx : cs x with
        | nil => rw [hx] at l1; simp at l1
        | cons d r =>
          refine ⟨d, r, rfl, ?_⟩
          have h1 := dig d (by rw [hx]; exact List.mem_cons_self)
          have h2 : (cs x).head? ≠ some 48 := of_decide_eq_true c4
          rw [hx] at h2
          have : d ≠ 48 := fun z => h2 (by rw [z]; rfl)
          have := h1.1
          omega
      . left
        rw [of_decide_eq_true c4]; rfl)
    refine ext ?_
    rw [Tx.num_nat, e, List.map_map]
    conv => rhs; rw [<- List.map_id (cs x)]
    refine List.map_congr_left fun c hc => ?_
    have := dig c hc
    show (Char.ofNat c).toNat = c
    have hv : c.isValidChar := .inl (by have := this.2; omega)
    rw [Char.ofNat, dif_pos hv]
    rfl
theorem a0c {f : S -> Option α} {t : α -> S} (hf : ∀ x a, f x = some a -> t a = x) {xs : List S} {as : List α} (h : O1 (xs.map f) = some as) : as.map t = xs := by
  have e := B3 h
  refine List.ext_getElem? fun i => ?_
  have ei := congrArg (fun l => l[i]?) e
  simp only [List.getElem?_map] at ei ⊢
  cases hx : xs[i]? with
  | none => rw [hx] at ei; cases ha : as[i]? with
    | none => rfl
    | some a => rw [ha] at ei; simp at ei
  | some x => rw [hx] at ei; cases ha : as[i]? with
    | none => rw [ha] at ei; simp at ei
    | some a => rw [ha] at ei; simp at ei; simp [hf x a ei]
theorem a0Q {x : S} {ns : List Int} (h : v6 x = some ns) : B9 ns = x := by
  unfold v6 at h
  unfold B9
  rw [a0c (t := w8) (fun _ _ => a4H) h]
  exact StrLaws.join_split _ _
theorem a2A {x : S} {h : h9} (e : y4 x = some h) : A7 h = x := by
  unfold y4 at e
  split at e
  case h_2 => cases e
  case h_1 a b hab =>
    split at e
    case isFalse => cases e
    case isTrue =>
      cases e
      rw [X0]
      obtain ⟨p, q, hpq⟩ : ∃ p q, Txt.split x (ch 62) = [p, q] := by
        have hl := congrArg List.length hab
        rw [List.length_map] at hl
        match hs : Txt.split x (ch 62), hl with
        | [p, q], _ => exact ⟨p, q, rfl⟩
      rw [hpq] at hab
      simp only [List.map_cons, List.map_nil, List.cons.injEq, and_true] at hab
      rw [a0Q hab.1, a0Q hab.2, <- hpq]
      exact StrLaws.join_split _ _
theorem a3L {x : S} {hs : List h9} (e : B4 x = some hs) : D7 hs = x := by
  unfold B4 at e
  split at e
  case h_2 => cases e
  case h_1 hs' hh =>
    split at e
    case isFalse => cases e
    case isTrue =>
      cases e
      unfold D7
      rw [a0c (t := A7) (fun _ _ => a2A) hh]
      exact StrLaws.join_split _ _
theorem a2q {x : S} {hs : List h9} (e : B4 x = some hs) : IsB hs := by
  unfold B4 at e
  split at e
  case h_2 => cases e
  case h_1 hs' hh =>
    split at e
    case isFalse => cases e
    case isTrue c => cases e; exact c
end Rim
namespace L2
open PySem PySem.W
theorem T0 {K : Frag} {C : Addr} {B : List Value} {nid : String} (q : excIn K C B nid = true) : ∃ nm qn N bs bm hdct sn sub ab col dd k0 k1 k2 k3 k5, K.lookup C = some (excClassObj nm qn C N bs bm hdct sn sub ab col dd k0 k1 k2 k3 k5 nid) /\ nsOkIn K N = true /\ nsIn K N "__init__" = some none /\ tailIn K B bm = true := by
  unfold excIn at q
  split at q
  . rename_i e1 e2 e3 lk
    split at q
    . rename_i C' bm w0 w1 w2 w3 nn w5 em es
      simp only [Bool.and_eq_true, beq_iff_eq, Bool.not_eq_true'] at q
      obtain ⟨⟨⟨⟨⟨u1, u2⟩, u3⟩, u4⟩, u5⟩, u6⟩ := q
      cases u1
      cases u2
      obtain ⟨n1, n2, n3, n4, n5, n6, n7, n8, n9, n10, n11⟩ := e2
      obtain ⟨ls⟩ := e3
      replace em : n3 = _ := em
      replace u3 : n11 = false := u3
      replace es : ls = _ := es
      subst em u3 es
      exact ⟨n1, n5, n4, n2, bm, n6, n7, n8, n9, n10, e1, w0, w1, w2, w3, w5, lk, u5, u6, u4⟩
    . cases q
  . cases q
def FunI (K : Frag) (x qual : Str) (st : Stmt) (f : Addr) (cd : Value) : Prop := ∃ oc od kV dc pm an ct sl, K.lookup f = some ⟨oc, od, .func (fnOf x qual (E3 st) (x6 st) (h7 st) .none kV dc pm an cd ct), sl⟩ /\ codeIn K cd qual = true /\ keepIn K (.ref f) = true
theorem fun_in {K : Frag} {x qual : Str} {st : Stmt} {f : Addr} {cd oc kV dc pm ct : Value} {od an : Option Addr} {sl : Array (Option Value)} (l : K.lookup f = some ⟨oc, od, .func (fnOf x qual (E3 st) (x6 st) (h7 st) .none kV dc pm an cd ct), sl⟩) (c : codeIn K cd qual = true) (k : keepIn K (.ref f) = true) : FunI K x qual st f cd := ⟨_, _, _, _, _, _, _, _, l, c, k⟩
theorem FunI.fn {K : Frag} {x qual : Str} {st : Stmt} {f : Addr} {cd : Value} (h : FunI K x qual st f cd) : ∃ fd, Fun K x qual st f fd /\ fd.code = cd /\ keepIn K (.ref f) = true := by
  obtain ⟨_, _, _, _, _, _, _, _, l, c, k⟩ := h
  exact ⟨_, a4K l c k, rfl, k⟩
theorem Fun.b1 {K : Frag} {x qual : Str} {st : Stmt} {f : Addr} {fd : FuncData} {p0 : Str} (F : Fun K x qual st f fd) (h : ∀ (kV doc pm : Value) (an : Option Addr) (cdv ct v0 : Value), bindArgs (fnOf x qual (E3 st) (x6 st) (h7 st) .none kV doc pm an cdv ct) ⟨[v0], []⟩ = pure [(p0, v0)]) : Binds K fd [p0] [] :=
  F.binds fun a b c d e g us hl => match us, hl with | [v0], _ => h a b c d e g v0
theorem Fun.b2 {K : Frag} {x qual : Str} {st : Stmt} {f : Addr} {fd : FuncData} {p0 p1 : Str} (F : Fun K x qual st f fd) (h : ∀ (kV doc pm : Value) (an : Option Addr) (cdv ct v0 v1 : Value), bindArgs (fnOf x qual (E3 st) (x6 st) (h7 st) .none kV doc pm an cdv ct) ⟨[v0, v1], []⟩ = pure [(p0, v0), (p1, v1)]) : Binds K fd [p0, p1] [] :=
  F.binds fun a b c d e g us hl => match us, hl with | [v0, v1], _ => h a b c d e g v0 v1
theorem Fun.b3 {K : Frag} {x qual : Str} {st : Stmt} {f : Addr} {fd : FuncData} {p0 p1 p2 : Str} (F : Fun K x qual st f fd) (h : ∀ (kV doc pm : Value) (an : Option Addr) (cdv ct v0 v1 v2 : Value), bindArgs (fnOf x qual (E3 st) (x6 st) (h7 st) .none kV doc pm an cdv ct) ⟨[v0, v1, v2], []⟩ = pure [(p0, v0), (p1, v1), (p2, v2)]) : Binds K fd [p0, p1, p2] [] :=
  F.binds fun a b c d e g us hl => match us, hl with | [v0, v1, v2], _ => h a b c d e g v0 v1 v2
theorem Fun.b4 {K : Frag} {x qual : Str} {st : Stmt} {f : Addr} {fd : FuncData} {p0 p1 p2 p3 : Str} (F : Fun K x qual st f fd) (h : ∀ (kV doc pm : Value) (an : Option Addr) (cdv ct v0 v1 v2 v3 : Value), bindArgs (fnOf x qual (E3 st) (x6 st) (h7 st) .none kV doc pm an cdv ct) ⟨[v0, v1, v2, v3], []⟩ = pure [(p0, v0), (p1, v1), (p2, v2), (p3, v3)]) : Binds K fd [p0, p1, p2, p3] [] :=
  F.binds fun a b c d e g us hl => match us, hl with | [v0, v1, v2, v3], _ => h a b c d e g v0 v1 v2 v3
end L2
namespace Rim
open PySem L2 Fr
structure a9f (K : W.Frag) (mg : Str -> Option Value) (cE cB cH cR cT cM cL : Addr) : Prop where
  mE : mg "RimError" = some (.ref cE)
  mB : mg "NoBook" = some (.ref cB)
  mH : mg "NoHouse" = some (.ref cH)
  mR : mg "NoRow" = some (.ref cR)
  mT : mg "NoText" = some (.ref cT)
  mM : mg "TooMany" = some (.ref cM)
  mL : mg "NothingLeft" = some (.ref cL)
  kE : P1 K cE
structure a4L (K : W.Frag) (c cE cB cH cR cT cM cL : Addr) (b1 b2 b3 b4 b5 b6 : Bool) : Prop where
  k : P1 K c
  sub : W.mroIn K c (.ref cE) = some true
  i1 : W.kitOne K (.ref c) (.ref cB) = some b1
  i2 : W.kitOne K (.ref c) (.ref cH) = some b2
  i3 : W.kitOne K (.ref c) (.ref cR) = some b3
  i4 : W.kitOne K (.ref c) (.ref cT) = some b4
  i5 : W.kitOne K (.ref c) (.ref cM) = some b5
  i6 : W.kitOne K (.ref c) (.ref cL) = some b6
  v : W.kitOne K (.ref c) (.type "ValueError") = some true
abbrev a6q (b1 b2 b3 b4 b5 b6 : Bool) : List V := [.bl b1, .bl b2, .bl b3, .bl b4, .bl b5, .bl b6, .bl true]
section
variable {P : Program} {w : World} {K : W.Frag} {mg : Str -> Option Value} {base : Heap} {f g : Addr} {fd gd : FuncData} {n : Nat}
def a5C (K : W.Frag) (cE cB cH cR cT cM cL : Addr) : Sp := fun vs H Q _ => ∃ (ea c : Addr) (b1 b2 b3 b4 b5 b6 : Bool), vs = [.ref ea] /\ H ea = some (a4o ea c) /\ a4L K c cE cB cH cR cT cM cL b1 b2 b3 b4 b5 b6 /\ ∀ (r : Addr) (H' : Hp), Same H H' -> H' r = some (.lst (a6q b1 b2 b3 b4 b5 b6)) -> Q (.ref r) H'
theorem scKin : p6 ["e", "kin"] ["e"] (h7 P2) := ⟨rfl, rfl, rfl, by decide +kernel, rfl, by decide +kernel, by decide +kernel⟩
theorem a7o : bootBuiltins "ValueError" = some (.type "ValueError") := by decide +kernel
set_option maxHeartbeats 4000000 in
theorem a7e {cE cB cH cR cT cM cL : Addr} (F : Fun K "_law_a_kin" "_law_a_kin" P2 f fd) (T : y6 mg) (R : a9f K mg cE cB cH cR cT cM cL) : FnU P w K mg base (n + 1) f fd ["e"] (a5C K cE cB cH cR cT cM cL) := by
  refine F.okU scKin (fun vs H Q E h => ?_) (fun cdv A outer s H vs Q E hr h => ?_)
  . obtain ⟨ea, c, b1, b2, b3, b4, b5, b6, rfl, _⟩ := h
    rfl
  obtain ⟨ea, c, b1, b2, b3, b4, b5, b6, rfl, he, M, q⟩ := h
  refine ⟨_, h8 (r9 (i := 1) scKin.nd rfl (Or.inl rfl) (w4 (c0 (i7 C5 rfl T.isi PyProof.Rows.boot_isinstance (c0 (pv 0) (c0 (A3 (v := .ref cB) rfl R.mB rfl) c7)))
      (c0 (i7 C5 rfl T.isi PyProof.Rows.boot_isinstance (c0 (pv 0) (c0 (A3 (v := .ref cH) rfl R.mH rfl) c7)))
      (c0 (i7 C5 rfl T.isi PyProof.Rows.boot_isinstance (c0 (pv 0) (c0 (A3 (v := .ref cR) rfl R.mR rfl) c7)))
      (c0 (i7 C5 rfl T.isi PyProof.Rows.boot_isinstance (c0 (pv 0) (c0 (A3 (v := .ref cT) rfl R.mT rfl) c7))) c7))))))
    (g0 (m6 (j0 U0 (pv 1) (w4 (c0 (i7 C5 rfl T.isi PyProof.Rows.boot_isinstance (c0 (pv 0) (c0 (A3 (v := .ref cM) rfl R.mM rfl) c7)))
      (c0 (i7 C5 rfl T.isi PyProof.Rows.boot_isinstance (c0 (pv 0) (c0 (A3 (v := .ref cL) rfl R.mL rfl) c7)))
      (c0 (i7 C5 rfl T.isi PyProof.Rows.boot_isinstance (c0 (pv 0) (c0 (J4 (v := .ty "ValueError") rfl T.ve a7o rfl) c7))) c7))))))), ?_⟩
  refine ⟨_, rfl, ea, c, _, b1, rfl, he, M.k, fun u ru => by cases ru; exact M.i1, _, rfl, ea, c, _, b2, rfl, he, M.k, fun u ru => by cases ru; exact M.i2, _, rfl, ea, c, _, b3, rfl, he, M.k, fun u ru => by cases ru; exact M.i3,
    _, rfl, ea, c, _, b4, rfl, he, M.k, fun u ru => by cases ru; exact M.i4, (by show 4 <= sizeLine; decide), fun l1 hl1 => ?_⟩
  have s1 := Same.new hl1 (.lst [V.bl b1, V.bl b2, V.bl b3, V.bl b4])
  have he1 := s1 _ _ he
  refine ⟨_, rfl, _, rfl, ea, c, _, b5, rfl, he1, M.k, fun u ru => by cases ru; exact M.i5, _, rfl, ea, c, _, b6, rfl, he1, M.k, fun u ru => by cases ru; exact M.i6, _, rfl, ea, c, _, true, rfl, he1, M.k, fun u ru => by cases ru; exact M.v, (by show 3 <= sizeLine; decide), fun l2 hl2 => ?_⟩
  have s2 := Same.new hl2 (.lst [V.bl b5, V.bl b6, V.bl true])
  refine ⟨l1, l2, _, _, rfl, rfl, s2 _ _ c6, c6, (by show 7 <= sizeLine; decide), fun l3 hl3 => ?_⟩
  exact q l3 _ (s1.trans (s2.trans (Same.new hl3 _))) c6
abbrev a9U (x : Str) : List V := a6q (decide (V.str "NoBook" = V.str x)) (decide (V.str "NoHouse" = V.str x)) (decide (V.str "NoRow" = V.str x)) (decide (V.str "NoText" = V.str x)) (decide (V.str "TooMany" = V.str x)) (decide (V.str "NothingLeft" = V.str x))
def a5B : Sp := fun vs H Q _ => ∃ x : Str, vs = [.str x] /\ ∀ (r : Addr) (H' : Hp), Same H H' -> H' r = some (.lst (a9U x)) -> Q (.ref r) H'
theorem scDue : p6 ["name", "names"] ["name"] (h7 K9) := ⟨rfl, rfl, rfl, by decide +kernel, rfl, by decide +kernel, by decide +kernel⟩
theorem b0c : (["one", "name"] : List Str).Nodup := by decide +kernel
theorem a6I (F : Fun K "_law_due_kin" "_law_due_kin" K9 f fd) (T : y6 mg) : x8 P w K mg base K1 (n + 1) f fd ["name"] a5B := by
  refine F.ok scDue (fun vs H Q E h => ?_) (fun cdv A outer s H vs Q E hr h => ?_)
  . obtain ⟨x, rfl, _⟩ := h
    rfl
  obtain ⟨nm, rfl, q⟩ := h
  refine ⟨_, h8 (r9 (i := 1) scDue.nd rfl (Or.inl rfl) (w4 (c0 t7 (c0 t7 (c0 t7 (c0 t7 (c0 t7 (c0 t7 c7))))))))
    (g0 (m6 (j0 U0 (N9 ["one"] [0] rfl (C0 (pv 1)) (fun _ _ _ _ => j5 (i := 0) b0c rfl (Or.inl rfl)) (fun _ _ _ _ => M4 G4 (pv 0) (pv 1) (o3 _))) (w4 (c0 a0a c7))))), ?_⟩
  refine ⟨(by show 6 <= sizeLine; decide), fun l1 hl1 => ?_⟩
  have s1 := Same.new hl1 (.lst [.str "NoBook", .str "NoHouse", .str "NoRow", .str "NoText", .str "TooMany", .str "NothingLeft"])
  refine ⟨_, rfl, l1, rfl, ⟨_, SqL.of c6⟩, fun p hp => ?_⟩
  refine N2 (B2 (SqL.of c6)) hp (by decide) (fun x => .bl (decide (x = .str nm))) (fun i x H' N hx e hN => ?_) ?_
  . have hy : ∃ y, x = .str y := by
      have := List.mem_of_getElem? hx
      simp only [List.mem_cons, List.not_mem_nil, or_false] at this
      rcases this with rfl | rfl | rfl | rfl | rfl | rfl <;> exact ⟨_, rfl⟩
    obtain ⟨y, rfl⟩ := hy
    exact ⟨Wk.set (by decide), _, rfl, _, rfl, rfl, hN⟩
  . have s2 := Same.new hp (.lst (List.map (fun x => V.bl (decide (x = V.str nm))) [.str "NoBook", .str "NoHouse", .str "NoRow", .str "NoText", .str "TooMany", .str "NothingLeft"]))
    refine ⟨(by show 1 <= sizeLine; decide), fun l2 hl2 => ?_⟩
    have s3 := Same.new hl2 (.lst [V.bl true])
    refine ⟨p, l2, _, _, rfl, rfl, s3 _ _ c6, c6, (by show 7 <= sizeLine; decide), fun l3 hl3 => ?_⟩
    exact q l3 _ (s1.trans (s2.trans (s3.trans (Same.new hl3 _)))) (by rw [c6]; congr 2)
structure b1X (P : Program) (w : World) (K : W.Frag) (mg : Str -> Option Value) (base : Heap) (n : Nat) (x : Str) (ps : List Str) (sp : Sp) (fa : Addr) (d : FuncData) : Prop where
  ok : FnU P w K mg base n fa d ps sp
  b : Binds K d ps []
  k : W.keepIn K (.ref fa) = true
  m : mg x = some (.ref fa)
def a7V (b1 b2 b3 b4 b5 b6 : Bool) : PyData := .list [.bool b1, .bool b2, .bool b3, .bool b4, .bool b5, .bool b6, .bool true]
theorem V7 {K : W.Frag} {H : Hp} {a : Addr} {b1 b2 b3 b4 b5 b6 : Bool} (h : H a = some (.lst (a6q b1 b2 b3 b4 b5 b6))) : Dp K H (.ref a) (a7V b1 b2 b3 b4 b5 b6) :=
  .lst (SqL.of h) (.cons (.bl _) (.cons (.bl _) (.cons (.bl _) (.cons (.bl _) (.cons (.bl _) (.cons (.bl _) (.cons (.bl _) .nil)))))))
end
end Rim
namespace L2
open PySem PySem.Spec PyProof.Rows
section
variable {X : Cx} {CX : CXT} {k : Nat} {f C : Addr} {fd : FuncData} {ps : List Str} {sp : Sp} {EX : St -> XK} {m : Str} {pos apos : Pos} {o e : Expr} {es : List Expr} {ta : TE} {t : TA}
end
end L2
namespace L2
open PySem PySem.Spec PyProof.Rows
def a8y (C : Addr) (sp : Sp) (EX : St -> XK) (t : TA) : TE := fun σ H Q => t σ H fun vs H1 => ∀ x dx, H1 x = none -> H1 dx = none -> dx ≠ x →
  sp (.ref x :: vs) (upd (upd H1 dx (.own x)) x (.ins C dx [])) (fun v H2 => v = .non /\ Q (.ref x) H2) (EX σ)
section
variable {X : Cx} {CX : CXT} {k : Nat} {f C : Addr} {fd : FuncData} {ps : List Str} {sp : Sp} {EX : St -> XK} {x : Str} {p pos : PySem.Pos} {e : Expr} {es : List Expr} {t : TA}
theorem a4b {pins : List (Addr × Obj)} {σ : St} {H : Hp} {s : Shared} {Q : VK} {us : List Value} {vs : List V} (M : Mk X.K C f) (F : x8 X.prog X.w X.K X.mg X.base CX k f fd ps sp) (hr : Room (k + 1) X.A) (hb : Binds X.K fd ps [])
    (hx : U8 CX X EX) (I : Inv X pins σ H s) (r : Vals vs us)
    (h : ∀ x dx, H x = none -> H dx = none -> dx ≠ x -> sp (.ref x :: vs) (upd (upd H dx (.own x)) x (.ins C dx [])) (fun v H2 => v = .non /\ Q (.ref x) H2) (EX σ)) :
    wpAny (model X.prog X.w) X.A (call (.ref C) us) (EP X pins σ Q) X.xe s := by
  have hq := h (s.heap.objs.size + 1) s.heap.objs.size (I.hok.fresh (Nat.le_succ _)) (I.hok.fresh (Nat.le_refl _)) (Nat.ne_of_lt (Nat.lt_succ_self _))
  have I2 := Inv.made (C := C) I
  have r2 : Vals (V.ref (s.heap.objs.size + 1) :: vs) (Value.ref (s.heap.objs.size + 1) :: us) := .cons rfl r
  have hl : (Value.ref (s.heap.objs.size + 1) :: us ++ []).length = ps.length := by
    have e := r2.length
    rw [F.len _ _ _ _ hq] at e
    rw [List.append_nil]
    exact e.symm
  have hb' := hb _ (Value.ref (s.heap.objs.size + 1) :: us) I2.kIn hl
  rw [List.append_nil] at hb'
  refine wpAny_call (a5T (f := f) I.kIn M.makes M.init (beq_iff_eq.mp M.fn) (codeAny_mono (F.run _ X.stack _ _ ⟨Value.ref (s.heap.objs.size + 1) :: us, []⟩ (Value.ref (s.heap.objs.size + 1) :: us) _ _ (EX σ) (hr.make C us [])
    (I2.env0.make C us []) hb' r2 hq) fun r s' hq' => ?_))
  cases r with
  | error e => exact hx pins σ _ _ e s' I2 hq'
  | ok fl =>
    cases fl with
    | ret u =>
      obtain ⟨v, H', I3, rv, ev, q3⟩ := I2.after hq'
      subst ev
      exact ⟨rv, ⟨V.ref (s.heap.objs.size + 1), H', I3, rfl, q3⟩⟩
    | next => exact False.elim hq'
    | brk => exact False.elim hq'
    | cont => exact False.elim hq'
theorem a5X (M : Mk X.K C f) (F : x8 X.prog X.w X.K X.mg X.base CX k f fd ps sp) (hr : Room (k + 1) X.A) (hg : Gl X x) (hm : X.mg x = some (.ref C)) (hb : Binds X.K fd ps []) (hx : U8 CX X EX)
    (ha : PA X (e :: es) t) (hdb : (x == ("__debug__" : Str)) = false := by decide) (he : starEach (e :: es) X.env = (false, eval e X.env) :: starEach es X.env := by rfl) (hpl : (backTo pos (starEach es X.env)).any (·.1) = false := by rfl) :
    PE X (.Call (.Name x p) (e :: es) [] pos) (a8y C sp EX t) := by
  intro pins s σ H Q I h
  refine wpAny_Call_Name_kw (P3 I hg hm ?_ hdb)
  refine W.callWith_K (h₀ := X.base) I.ok.mod.kin M.kp (A6 (ha pos pins s σ H _ I h) fun us s1 ⟨vs, H1, I1, r, q⟩ => ⟨I1.kIn, ?_⟩) he hpl
  exact a4b M F hr hb hx I1 r q
end
end L2
namespace L2
open PySem PySem.Spec PyProof.Rows
section
variable {X : Cx}
def b1M : V -> Option Int -> Option Int -> Hp -> VK -> Prop := fun x lo hi H Q => ∃ z : PySem.Str, x = .str z /\ z.length <= sizeLine /\ Q (.str (Txt.slice z lo hi)) H
theorem a3U (z : PySem.Str) (lo hi : Option Int) : ∀ c ∈ (Txt.slice z lo hi).cps.toList, c ∈ z.cps.toList := fun c hc => by
  unfold Txt.slice at hc
  split at hc
  . exact hc
  . obtain ⟨i, _, hi⟩ := List.mem_filterMap.mp (by simpa using hc)
    obtain ⟨h1, h2⟩ := Array.getElem?_eq_some_iff.mp hi
    rw [<- h2]
    exact Array.getElem_mem_toList h1
theorem Q8 : SlR X b1M := by
  intro pins s σ H x v vl vu lo hi sl Q I rx hs pl pu h
  obtain ⟨z, rfl, hz, q⟩ := h
  obtain ⟨t, rfl⟩ := rx
  refine ⟨"str", _, slot_str_getitem.lookup, typeIs_str s z t, ?_⟩
  obtain ⟨l, e1, e2⟩ : ∃ l : Option (Int × Tok), vl = partValue l /\ l.map (·.1) = lo := by
    cases pl
    . exact ⟨none, rfl, rfl⟩
    . exact ⟨some (_, _), rfl, rfl⟩
  obtain ⟨u, e3, e4⟩ : ∃ l : Option (Int × Tok), vu = partValue l /\ l.map (·.1) = hi := by
    cases pu
    . exact ⟨none, rfl, rfl⟩
    . exact ⟨some (_, _), rfl, rfl⟩
  subst e1 e2 e3 e4
  refine wpAny_getItem_str_slice (l := l) (u := u) (st := none) hs rfl ?_
  unfold sliceMade
  have e : Txt.slice z (l.map (·.1)) (u.map (·.1)) = if ((Option.map (fun x : Int × Tok => x.fst) none).getD (1 : Int) == 1 && (slicePicked z l u none).length == z.length) = true then z else { cps := (List.filterMap (fun x_1 => z.cps[x_1]?) (slicePicked z l u none)).toArray } := rfl
  have hle := Txt.slice_le z (l.map (·.1)) (u.map (·.1))
  rw [e] at q hle
  by_cases c : ((Option.map (fun x : Int × Tok => x.fst) none).getD (1 : Int) == 1 && (slicePicked z l u none).length == z.length) = true
  . rw [if_pos c] at q ⊢
    exact ⟨.str z, H, I, ⟨_, rfl⟩, q⟩
  . rw [if_neg c] at q hle ⊢
    exact ⟨Nat.le_trans hle hz, .str _, H, I.tok _, ⟨_, rfl⟩, q⟩
end
end L2
namespace L2
open PySem PySem.Spec PyProof.Rows
theorem bmK (K : W.Frag) {X : Cx} {T id : String} {name : Str} {r : V -> List V -> Hp -> VK -> Prop} {o e : Expr} {es : List Expr} {to : TE} {t : TA} {apos cpos : PySem.Pos} (hK : X.K = K) (pa : PlainAttrs T) (slot : Slot T name id) (hty : typeOf (.builtin id) = pure (.type "method_descriptor")) (hm : MtR X id r) (ho : PE X o to) (ha : PA X (e :: es) t)
    (hbase : attributeBase o name X.env (eval o X.env) = eval o X.env := by rfl)
    (hfew : ((backTo cpos (starEach (e :: es) X.env)).all (fun x => !x.1) && (backToKw cpos (keywordEach [] X.env)).all (fun x => x.1.isSome)
      && decide ((e :: es).length + ([] : List Keyword).length + (if ([] : List Keyword).isEmpty then 0 else 1) < 30)) = true := by rfl)
    (hline : (apos.endLine == cpos.line) = true := by rfl) (hs : starEach (e :: es) X.env = (false, eval e X.env) :: starEach es X.env := by rfl) (hplain : (backTo cpos (starEach es X.env)).any (·.1) = false := by rfl) :
    PE X (.Call (.Attribute o name apos) (e :: es) [] cpos) (tBM K T r to t) := by
  subst hK
  exact E5 pa slot hty hm ho ha hbase hfew hline hs hplain
end L2
namespace Rim
open PySem L2 Fr
open Tx (S cs ch w8 Asc C1 v7)
theorem a3o {z : S} (h : Asc z) : (PyData.str z).canLay0 = true := by
  rw [PyData.canLay0]
  unfold PyData.strOk
  rw [<- Array.all_toList, List.all_eq_true]
  intro c hc
  have := h c hc
  exact decide_eq_true (by omega)
theorem a3d {K : W.Frag} {H : Hp} : ∀ {l : List V}, (∀ v ∈ l, ∃ y : S, v = .str y /\ Asc y) -> ∃ ds : List PyData, Dps K H l ds /\ PyData.canLayAll0 ds = true /\ PyData.depthAll ds <= 10 /\ ds.isEmpty = l.isEmpty
  | [], _ => ⟨[], .nil, rfl, by simp [PyData.depthAll], rfl⟩
  | v :: l, h => by
    obtain ⟨y, rfl, hy⟩ := h v (.head _)
    obtain ⟨ds, h1, h2, h3, _⟩ := a3d (l := l) fun u hu => h u (.tail _ hu)
    refine ⟨.str y :: ds, .cons (.str y) h1, ?_, ?_, rfl⟩
    . rw [PyData.canLayAll0, a3o hy, h2]; rfl
    . rw [PyData.depthAll]
      have : (PyData.str y).depth <= 10 := by simp [PyData.depth]
      omega
theorem Z2 {ds : List PyData} : PyData.eqv (.list ds) (.list []) = ds.isEmpty := by
  rw [PyData.eqv]
  cases ds with
  | nil => rw [PyData.eqvAll]; rfl
  | cons a r => rw [PyData.eqvAll] <;> first | rfl | simp
def L3 : V -> Bool
  | .str y => (Builtin.Str.occurrences FIG y 0 FIG.length 1).isEmpty
  | _ => false
theorem a0E {c : Nat} (h : c < 128) : L3 (.str (ch c)) = !(decide (48 <= c) && decide (c <= 57)) := a3h c h
section
variable {P : Program} {w : World} {K : W.Frag} {mg : Str -> Option Value} {base : Heap} {f : Addr} {fd : FuncData} {n : Nat}
theorem a7Z : p6 ["word"] ["word"] (h7 M9) := ⟨rfl, rfl, rfl, by decide +kernel, rfl, by decide +kernel, by decide +kernel⟩
theorem a9c : (["sign"] : List Str).Nodup := by decide +kernel
set_option maxHeartbeats 4000000 in
theorem a6u (F : Fun K "_law_number" "_law_number" M9 f fd) (T : y6 mg) : x8 P w K mg base K1 (n + 1) f fd ["word"] R8 := by
  refine F.ok a7Z (fun vs H Q E h => ?_) (fun cdv A outer s H vs Q E hr h => ?_)
  . obtain ⟨z, rfl, _⟩ := h
    rfl
  obtain ⟨z, rfl, ha, hl, q⟩ := h
  refine ⟨_, j9 (u9 (PW.pt (K0 (j3 a2h (i7 E8 rfl T.len PySem.boot_len (c0 (pv 0) c7)) d0 (o3 _)) (K0 (j3 P5 (i7 E8 rfl T.len PySem.boot_len (c0 (pv 0) c7)) d0 (o3 _)) (G9 (PW.pt (Q6 (j3 G4 (p7 a0t (pv 0) d0 (fun _ _ => rfl)) t7 (o3 _)) (M7 (j3 S9 (pv 0) t7 (o3 _)))))))))
      (g0 (m6 B8)) r6)
    (j9 (u9 (j3 (P7 hr) (a5d ["sign"] [] rfl (a6d (pv 0)) (fun _ _ _ _ => j5 (i := 0) a9c rfl (Or.inl rfl)) (fun _ _ _ _ => j3 V4 (pv 0) t7 rfl) (fun _ _ _ _ => pv 0)) (w4 c7) (o3 _)) (g0 (m6 B8)) r6)
    (g0 (m6 (t8 U1 rfl T.int PyProof.Rows.boot_int (c0 (pv 0) c7))))), ?_⟩
  have lz := Tx.len_cs z
  have hsl : z.length <= sizeLine := by rw [sizeLine_eq]; omega
  have no' : C1 z = false -> ∀ H', Same H H' -> Q .non H' := fun c H' e => by
    have := q H' e
    unfold v7 at this
    rw [if_neg (by rw [c]; exact Bool.false_ne_true)] at this
    exact this
  have e1 : (V.str z = V.str (Str.ofString "0")) ↔ cs z = [48] := by
    constructor
    . intro h; rw [V.str.inj h]; decide
    . intro h; exact congrArg V.str (Tx.ext (by rw [h]; decide))
  refine ⟨fun σ' H' => σ' = [some (.str z)] /\ H = H' /\ 1 <= z.length /\ z.length <= 10 /\ ((cs z).head? ≠ some 48 \/ cs z = [48]), ?_, ?_⟩
  . refine ⟨_, rfl, z, rfl, hsl, _, _, rfl, rfl, _, rfl, ?_⟩
    refine A2 (fun c1 => ?_) (fun c1 => ?_)
    . have c1' : ¬ 1 <= z.length := by have := of_decide_eq_true c1; omega
      refine C9 (no' ?_ _ (Same.refl _))
      rw [C7, decide_eq_false (by rw [<- lz]; exact c1')]; rfl
    have c1' : 1 <= z.length := by have := of_decide_eq_false (Bool.eq_false_iff.mpr c1); omega
    refine ⟨_, rfl, z, rfl, hsl, _, _, rfl, rfl, _, rfl, ?_⟩
    refine A2 (fun c2 => ?_) (fun c2 => ?_)
    . have c2' : ¬ z.length <= 10 := by have := of_decide_eq_true c2; omega
      refine C9 (no' ?_ _ (Same.refl _))
      rw [C7, decide_eq_false (show ¬ (cs z).length <= 10 by rw [<- lz]; exact c2')]; simp
    have c2' : z.length <= 10 := by have := of_decide_eq_false (Bool.eq_false_iff.mpr c2); omega
    obtain ⟨d, r, hd⟩ : ∃ d r, cs z = d :: r := by
      cases h : cs z with
      | nil => rw [h] at lz; simp at lz; omega
      | cons d r => exact ⟨d, r, rfl⟩
    have e0 : (V.str (ch d) = V.str (Str.ofString "0")) ↔ d = 48 := by
      constructor
      . intro h
        have h1 : ch d = Str.ofString "0" := V.str.inj h
        have h2 := congrArg cs h1
        have h3 : cs (Str.ofString "0") = [48] := by decide
        rw [h3] at h2
        exact (List.cons.inj h2).1
      . intro h; subst h; exact congrArg V.str (Tx.ext (by decide))
    refine ⟨_, rfl, z, 0, d, rfl, rfl, hsl, ?_, rfl, _, rfl, ?_⟩
    . show S6 (cs z) 0 = some d
      rw [hd]; exact E2 (j := 0) rfl
    refine A2 (fun c4 => ?_) (fun c4 => ?_)
    . have c4' : d = 48 := e0.mp (of_decide_eq_true c4)
      refine ⟨_, rfl, rfl, _, rfl, ?_⟩
      refine A2 (fun c5 => ?_) (fun c5 => ?_)
      . refine no' ?_ _ (Same.refl _)
        have : ¬ V.str z = V.str (Str.ofString "0") := by simpa using c5
        have n1 : ¬ (cs z).head? ≠ some 48 := fun h => h (by rw [hd, c4']; rfl)
        have n2 : ¬ cs z = [48] := fun h => this (e1.mpr h)
        rw [C7, decide_eq_false n1, decide_eq_false n2]; simp
      . have : V.str z = V.str (Str.ofString "0") := by simpa using c5
        exact ⟨rfl, rfl, c1', c2', .inr (e1.mp this)⟩
    . refine D0 ⟨rfl, rfl, c1', c2', .inl fun h => ?_⟩
      rw [hd] at h
      exact c4 (decide_eq_true (e0.mpr (Option.some.inj h)))
  rintro _ _ ⟨rfl, rfl, l1, l10, hz⟩
  have isn : (cs z).all (fun c => decide (48 <= c) && decide (c <= 57)) = true -> C1 z = true := fun c3 => by
    rw [C7, decide_eq_true (by rw [<- lz]; exact l1), decide_eq_true (show (cs z).length <= 10 by rw [<- lz]; exact l10), c3]
    rcases hz with h | h
    . rw [decide_eq_true h]; rfl
    . rw [decide_eq_true h]; simp
  refine ⟨fun σ' H' => σ' = [some (.str z)] /\ Same H H' /\ (cs z).all (fun c => decide (48 <= c) && decide (c <= 57)) = true, ?_, ?_⟩
  . refine ⟨_, rfl, z, rfl, fun p hp => ?_⟩
    have sl : (G3 z).length = (cs z).length := List.length_map _
    refine a1h a1T hp (v4 (by omega)) L3 (fun i x H' N hx e hN => ?_) ?_
    . unfold G3 at hx
      rw [List.getElem?_map] at hx
      obtain ⟨c, hc, rfl⟩ := Option.map_eq_some_iff.mp hx
      refine ⟨_, rfl, _, _, rfl, rfl, _, rfl, ?_⟩
      rw [Bool.not_not]
      exact hN
    . have s1 := Same.new hp (.lst ((G3 z).filter L3))
      refine ⟨(by show 0 <= sizeLine; decide), fun el hel => ?_⟩
      have s2 := Same.new hel (.lst [])
      obtain ⟨ds, d1, d2, d3, d4⟩ := a3d (K := K) (H := upd (upd H p (.lst ((G3 z).filter L3))) el (.lst [])) (l := (G3 z).filter L3) (fun v hv => by
        obtain ⟨hv, _⟩ := List.mem_filter.mp hv
        unfold G3 at hv
        obtain ⟨c, hc, rfl⟩ := List.mem_map.mp hv
        exact ⟨ch c, rfl, fun d hd => by rw [Tx.cs_ch] at hd; rw [List.mem_singleton.mp hd]; exact ha c hc⟩)
      refine ⟨.list ds, .list [], .lst (SqL.of (s2 _ _ c6)) d1, .lst (SqL.of c6) .nil, by rw [PyData.canLay0]; exact d2, rfl, Nat.le_trans (Nat.min_le_left _ _) (by rw [PyData.depth]; omega), _, rfl, ?_⟩
      rw [Z2, d4]
      have e3 := s1.trans s2
      by_cases c3 : (cs z).all (fun c => decide (48 <= c) && decide (c <= 57)) = true
      . have : (G3 z).filter L3 = [] := by
          rw [List.filter_eq_nil_iff]
          intro v hv
          unfold G3 at hv
          obtain ⟨c, hc, rfl⟩ := List.mem_map.mp hv
          have h1 := a0E (ha c hc)
          have h2 := List.all_eq_true.mp c3 c hc
          rw [show L3 (V.str ⟨#[c]⟩) = L3 (.str (ch c)) from rfl, h1, h2]
          decide
        rw [show ((G3 z).filter L3).isEmpty = true from by rw [this]; rfl]
        exact D0 ⟨rfl, e3, c3⟩
      . have : ((G3 z).filter L3).isEmpty = false := by
          cases e : (G3 z).filter L3 with
          | cons _ _ => rfl
          | nil =>
            refine absurd (List.all_eq_true.mpr fun c hc => ?_) c3
            have h0 := List.filter_eq_nil_iff.mp e (.str (ch c)) (by unfold G3; exact List.mem_map.mpr ⟨c, hc, rfl⟩)
            rw [a0E (ha c hc)] at h0
            simpa using h0
        rw [this]
        refine C9 (no' ?_ _ e3)
        rw [C7, Bool.eq_false_iff.mpr c3]; simp
  rintro _ H2 ⟨rfl, e, c3⟩
  have dig : PySem.NumText.AllDigits (cs z) := fun c hc => by
    have := List.all_eq_true.mp c3 c hc
    rw [Bool.and_eq_true] at this
    exact ⟨of_decide_eq_true this.1, of_decide_eq_true this.2⟩
  have q2 := q H2 e
  unfold v7 at q2
  rw [if_pos (isn c3)] at q2
  exact ⟨_, rfl, z, _, rfl, PySem.intText_digits dig (fun h => by rw [show cs z = [] from h] at lz; simp at lz; omega) (by omega), by omega, q2⟩
end
end Rim
namespace Rim
open PySem L2 Fr
open Tx (S cs ch w8 Asc C1 v7)
abbrev K8 (x : S) : List V := ((Txt.split x (ch 44)).map v7).map a1s
theorem Z8 {x : S} {ns : List Int} (h : v6 x = some ns) : K8 x = ns.map V.int := by
  unfold K8
  rw [B3 h, List.map_map]; rfl
theorem a2g {x : S} {ns : List Int} (h : v6 x = some ns) : ns ≠ [] := fun z => by
  subst z
  have := B3 h
  exact Tx.split_ne x 44 (List.map_eq_nil_iff.mp (by rw [this]; rfl))
theorem a5D {x : S} {ns : List Int} (h : v6 x = some ns) : ∀ n ∈ ns, 0 <= n := fun n hn => by
  have := B3 h
  have hm : some n ∈ (Txt.split x (ch 44)).map v7 := by rw [this]; exact List.mem_map.mpr ⟨n, hn, rfl⟩
  obtain ⟨y, _, e⟩ := List.mem_map.mp hm
  exact Tx.readN_nn e
section
variable {P : Program} {w : World} {K : W.Frag} {mg : Str -> Option Value} {base : Heap} {f : Addr} {fd : FuncData} {n : Nat}
abbrev a9A : List Str := ["word", "sides", "side", "takes", "gives"]
theorem scLhi : p6 a9A ["word"] (h7 B5) := ⟨rfl, rfl, rfl, by decide +kernel, rfl, by decide +kernel, by decide +kernel⟩
theorem b0p : (["part"] : List Str).Nodup := by decide +kernel
set_option maxHeartbeats 8000000 in
noncomputable def b1Y {cdv : Value} {A : Around} {outer : List Env} {s : Shared} {H : Hp} {E : XK} {fa : Addr} {da : FuncData} (T : y6 mg) (C : N1 P w K mg base n "_law_number" ["word"] R8 fa da)
    (hr : Room n (A.deeper (PyProof.Rows.envOfC "_law_house_in" (h7 B5) s.heap.objs.size f cdv))) :
    { t : TS // PSs (M2 K1 P w K mg base a9A "_law_house_in" (h7 B5) f cdv A outer s H E).nox (x6 B5) t } :=
  ⟨_, h8 (r9 (i := 1) scLhi.nd rfl (Or.inl rfl) (w4 c7))
    (j9 (X1 PassesOwn.never rfl (C0 (E5 PySem.F.plainAttrs_str PySem.F.slot_str_split PySem.F.type_str_split J6 (pv 0) (c0 t7 c7))) (j5 (i := 2) scLhi.nd rfl (Or.inl rfl))
      (g0 (V8 (E5 PySem.F.plainAttrs_list PySem.F.slot_list_append PySem.F.type_list_append K7 (pv 1) (c0 (N9 ["part"] [] rfl (C0 (E5 PySem.F.plainAttrs_str PySem.F.slot_str_split PySem.F.type_str_split J6 (pv 2) (c0 t7 c7))) (fun _ _ _ _ => j5 (i := 0) b0p rfl (Or.inl rfl)) (fun _ _ _ _ => r8 C.ok hr rfl C.m C.k C.b .nil x9 (c0 (pv 0) c7))) c7)))))
    (j9 (u9 (PW.pt (K0 (j3 S9 (i7 j8 rfl T.len PySem.boot_len (c0 (pv 1) c7)) d0 (o3 _)) (G9 (j3 W2 B8 (j0 U0 (p7 j4 (pv 1) d0 (fun _ _ => rfl)) (p7 j4 (pv 1) d0 (fun _ _ => rfl))) rfl)))) (g0 (m6 B8)) r6)
    (j9 (E4 (pv 1) (a7X K (n := 2) rfl rfl (t6 (j5 (i := 3) scLhi.nd rfl (Or.inl rfl)) (t6 (j5 (i := 4) scLhi.nd rfl (Or.inl rfl)) C4))))
    (j9 (u9 (PW.pt (K0 (j3 P5 (i7 j8 rfl T.len PySem.boot_len (c0 (pv 3) c7)) d0 (o3 _)) (K0 (j3 P5 (i7 j8 rfl T.len PySem.boot_len (c0 (pv 4) c7)) d0 (o3 _)) (K0 (j3 a2h (i7 (a4r rfl) rfl T.min PyProof.Rows.boot_min (c0 (pv 3) c7)) d0 (o3 _)) (G9 (j3 a2h (i7 (R6 rfl) rfl T.max PyProof.Rows.boot_max (c0 (pv 4) c7)) d0 (o3 _))))))) (g0 (m6 B8)) r6)
    (j9 (u9 (j3 P5 (i7 (R6 rfl) rfl T.max PyProof.Rows.boot_max (c0 (j0 U0 (pv 3) (pv 4)) c7)) (j0 T9 d0 d0) (o3 _)) (g0 (m6 B8)) r6)
    (g0 (m6 (N6 (c0 (t8 A9 rfl T.tuple PyProof.Rows.boot_tuple (c0 (pv 3) c7)) (c0 (t8 A9 rfl T.tuple PyProof.Rows.boot_tuple (c0 (pv 4) c7)) c7))))))))))⟩
abbrev a7T (H : Hp) (sl : Addr) : V -> S -> Prop := fun v x => ∃ a, v = .ref a /\ H a = some (.lst (K8 x)) /\ a ≠ sl
set_option maxHeartbeats 8000000 in
theorem a8R {fa : Addr} {da : FuncData} (F : Fun K "_law_house_in" "_law_house_in" B5 f fd) (T : y6 mg) (C : N1 P w K mg base n "_law_number" ["word"] R8 fa da) : x8 P w K mg base K1 (n + 1) f fd ["word"] (U4 K) := by
  refine F.ok scLhi (fun vs H Q E h => ?_) (fun cdv A outer s H vs Q E hr h => ?_)
  . obtain ⟨z, rfl, _⟩ := h
    rfl
  obtain ⟨z, rfl, ha, hl, q0, q1⟩ := h
  refine ⟨_, (b1Y T C hr).2, ?_⟩
  refine ⟨(by show 0 <= sizeLine; decide), fun sl hsl => ?_⟩
  have s0 := Same.new hsl (.lst [])
  have few := C2 (z := z) (c := 62)
  generalize hps : Txt.split z (ch 62) = ps at *
  have hsl0 : (upd H sl (.lst [])) sl = some (.lst []) := c6
  generalize upd H sl (.lst []) = H0 at *
  have pa : ∀ x ∈ ps, Asc x /\ x.length <= 100000 := fun x hx => by
    rw [<- hps] at hx
    exact ⟨Tx.asc_part ha hx, Nat.le_trans (E6 hx) hl⟩
  refine ⟨fun σ' H' => ∃ o vs, σ' = [some (.str z), some (.ref sl), o, none, none] /\ Same H H' /\ H' sl = some (.lst vs) /\ PySem.Paired (a7T H' sl) vs ps, ?_, ?_⟩
  . refine ⟨_, rfl, rfl, z, ch 62, rfl, rfl, by decide, by rw [sizeLine_eq]; omega, fun l hl' => ?_⟩
    rw [hps]
    have s1 := Same.new hl' (.lst (ps.map V.str))
    have hl1 : (upd H0 l (.lst (ps.map V.str))) l = some (.lst (ps.map V.str)) := c6
    have nls : l ≠ sl := (j7 hsl0 hl').symm
    have hsl1 := s1 _ _ hsl0
    generalize upd H0 l (.lst (ps.map V.str)) = H1 at *
    refine ⟨l, rfl, ⟨_, SqL.of hl1⟩, ?_⟩
    refine a0o (xs := ps.map V.str) (fun i σ H' => ∃ o vs, σ = [some (.str z), some (.ref sl), o, none, none] /\ (∀ b o, b ≠ sl -> H1 b = some o -> H' b = some o) /\ H' sl = some (.lst vs) /\ vs.length = i /\ PySem.Paired (a7T H' sl) vs (ps.take i))
      ⟨_, [], rfl, fun _ _ _ h => h, hsl1, rfl, .nil⟩ (fun i σ H' _ ⟨_, _, _, k, _⟩ => SqL.of (k _ _ nls hl1)) ?_ ?_
    rotate_left
    . rintro σ H2 ⟨o, vs, rfl, k, h1, lv, hp⟩
      rw [List.length_map, List.take_length] at hp
      exact ⟨o, vs, rfl, fun b o h => k b o (j7 h hsl) (s1 _ _ (s0 _ _ h)), h1, hp⟩
    rintro i xv σ H2 hxv ⟨o, vs, rfl, k, h1, lv, hp⟩
    rw [List.getElem?_map] at hxv
    obtain ⟨x, hx, rfl⟩ := Option.map_eq_some_iff.mp hxv
    have hxm := List.mem_of_getElem? hx
    obtain ⟨ax, lx⟩ := pa x hxm
    have few2 := C2 (z := x) (c := 44)
    have ilt : i < ps.length := (List.getElem?_eq_some_iff.mp hx).1
    refine ⟨_, rfl, .inl ⟨rfl, _, SqL.of h1⟩, ?_⟩
    refine ⟨_, rfl, rfl, x, ch 44, rfl, rfl, by decide, by rw [sizeLine_eq]; omega, fun l2 hl2 => ?_⟩
    have s2 := Same.new hl2 (.lst ((Txt.split x (ch 44)).map V.str))
    refine ⟨l2, rfl, ⟨_, SqL.of c6⟩, fun p hp2 => ?_⟩
    refine E9 (B2 (SqL.of c6)) hp2 (by rw [List.length_map, sizeLine_eq]; omega) (fun j y _ => ∃ u, (Txt.split x (ch 44))[j]? = some u /\ y = a1s (v7 u)) (fun _ _ _ _ r _ => r) (fun j y H3 zs N hy e hp' hN => ?_) (fun zs H3 e hp' len pr => ?_)
    . rw [List.getElem?_map] at hy
      obtain ⟨u, hu, rfl⟩ := Option.map_eq_some_iff.mp hy
      have hum := List.mem_of_getElem? hu
      exact ⟨Wk.set (by decide), _, rfl, u, rfl, Tx.asc_part ax hum, Nat.le_trans (E6 hum) lx, fun H4 e4 => hN _ _ e4 ⟨u, hu, rfl⟩⟩
    have ez : zs = K8 x := by
      rw [List.length_map] at len
      refine List.ext_getElem? fun j => ?_
      by_cases hj : j < zs.length
      . obtain ⟨h, hh, e1⟩ := pr j _ (List.getElem?_eq_getElem hj)
        rw [List.getElem?_eq_getElem hj, e1, List.getElem?_map, List.getElem?_map, hh]; rfl
      . rw [List.getElem?_eq_none (by omega), List.getElem?_eq_none (by rw [List.length_map, List.length_map]; omega)]
    rw [ez] at hp'
    have e3 := s2.trans e
    have h3 := e3 _ _ h1
    have nps : p ≠ sl := (j7 (s2 _ _ h1) hp2).symm
    refine ⟨sl, vs, _, rfl, rfl, h3, by rw [sizeLine_eq]; omega, ?_⟩
    refine ⟨_, vs ++ [.ref p], rfl, fun b o hb h => by rw [j6 hb]; exact e3 _ _ (k b o hb h), c6, by rw [List.length_append, lv]; rfl, ?_⟩
    rw [List.take_succ, hx]
    refine Paired.app (Paired.imp' (fun v y ⟨a, e1, e2, e4⟩ => ⟨a, e1, by rw [j6 e4]; exact e3 _ _ e2, e4⟩) hp) (.cons ⟨p, rfl, by rw [j6 nps]; exact hp', nps⟩ .nil)
  intro σ1 H1 hM_; refine D1 fun G_ hG_ => ?_; obtain ⟨o, vs, rfl, e1, h1, hp⟩ := hM_; subst hG_
  have lv : vs.length = ps.length := Paired.length hp
  have no : y4 z = none -> ∀ H', Same H1 H' -> Q .non H' := fun c H' e => q0 c _ (e1.trans e)
  -- two sides, no None
  refine ⟨fun σ' H' => ∃ x y a b, ps = [x, y] /\ v6 x = some a /\ v6 y = some b /\ σ' = [some (.str z), some (.ref sl), o, none, none] /\ Same H1 H', ?_, ?_⟩
  . refine ⟨_, rfl, sl, vs, rfl, .inl (SqL.of h1), rfl, _, rfl, ?_⟩
    have two : ps.length ≠ 2 -> y4 z = none := fun c => by
      unfold y4
      rw [hps]
      rcases ps with _ | ⟨x, _ | ⟨y, _ | ⟨u, r⟩⟩⟩
      . rfl
      . show (match [v6 x] with | [some a, some b] => _ | _ => none) = none
        cases v6 x <;> rfl
      . simp at c
      . show (match v6 x :: v6 y :: v6 u :: r.map v6 with | [some a, some b] => _ | _ => none) = none
        cases v6 x <;> cases v6 y <;> rfl
    refine A2 (fun c => ?_) (fun c => ?_)
    . refine C9 (no (two ?_) _ (Same.refl _))
      have : ¬ ((vs.length : Int) = 2) := fun h => by simp [h] at c
      omega
    . have c2 : vs.length = 2 := by
        have : (vs.length : Int) = 2 := by simpa using c
        omega
      obtain ⟨x, y, rfl⟩ : ∃ x y, ps = [x, y] := by
        rw [lv] at c2
        match ps, c2 with
        | [x, y], _ => exact ⟨x, y, rfl⟩
      cases hp with
      | cons r1 hp =>
      cases hp with
      | cons r2 hp =>
      cases hp
      obtain ⟨a1, rfl, ha1, n1⟩ := r1
      obtain ⟨a2, rfl, ha2, n2⟩ := r2
      have l1 := C2 (z := x) (c := 44)
      have l2 := C2 (z := y) (c := 44)
      have p1 := (pa x (.head _)).2
      have p2 := (pa y (.tail _ (.head _))).2
      refine ⟨_, rfl, sl, _, _, _, rfl, rfl, SqL.of h1, rfl, _, rfl, sl, _, _, _, rfl, rfl, SqL.of h1, rfl, a1, a2, _, _, rfl, rfl, ha1, ha2, ?_, fun cl hcl => ?_⟩
      . unfold K8
        rw [List.length_map, List.length_map, List.length_map, List.length_map, sizeLine_eq]; omega
      have s2 := Same.new hcl (.lst (K8 x ++ K8 y))
      have ec : K8 x ++ K8 y = ((Txt.split x (ch 44)).map v7 ++ (Txt.split y (ch 44)).map v7).map a1s := by rw [List.map_append]
      have hcl1 : (upd H1 cl (.lst (K8 x ++ K8 y))) cl = some (.lst (K8 x ++ K8 y)) := c6
      generalize upd H1 cl (.lst (K8 x ++ K8 y)) = H1c at *
      refine ⟨cl, _, rfl, .inl (SqL.of hcl1), rfl, by rw [ec]; exact a2b _, _, rfl, ?_⟩
      rw [ec, Z5, List.any_append]
      have nn : v6 x = none \/ v6 y = none -> y4 z = none := fun c => by
        unfold y4
        rw [hps]
        show (match [v6 x, v6 y] with | [some a, some b] => _ | _ => none) = none
        rcases c with c | c
        . rw [c]
        . rw [c]; cases v6 x <;> rfl
      cases hx : v6 x with
      | none =>
        rw [any_none.mpr hx]
        exact no (nn (.inl hx)) _ s2
      | some a =>
        cases hy : v6 y with
        | none =>
          rw [any_none.mpr hy, Bool.or_true]
          exact no (nn (.inr hy)) _ s2
        | some b =>
          have b1 : ((Txt.split x (ch 44)).map v7).any (·.isNone) = false := Bool.eq_false_iff.mpr fun h => by rw [show v6 x = none from any_none.mp h] at hx; cases hx
          have b2 : ((Txt.split y (ch 44)).map v7).any (·.isNone) = false := Bool.eq_false_iff.mpr fun h => by rw [show v6 y = none from any_none.mp h] at hy; cases hy
          rw [b1, b2]
          exact D0 ⟨x, y, a, b, rfl, hx, hy, rfl, s2⟩
  intro σ2 H2 hM_; refine D1 fun G_ hG_ => ?_; obtain ⟨x, y, a, b, rfl, hx, hy, rfl, e2⟩ := hM_; subst hG_
  cases hp with
  | cons r1 hp =>
  cases hp with
  | cons r2 hp =>
  cases hp
  obtain ⟨a1, rfl, ha1, n1⟩ := r1
  obtain ⟨a2, rfl, ha2, n2⟩ := r2
  rw [Z8 hx] at ha1
  rw [Z8 hy] at ha2
  have eh : (Q3 (a, b) -> y4 z = some (a, b)) /\ (¬ Q3 (a, b) -> y4 z = none) := by
    unfold y4
    rw [hps]
    show (_ -> (match [v6 x, v6 y] with | [some a, some b] => _ | _ => none) = _) /\ (_ -> (match [v6 x, v6 y] with | [some a, some b] => _ | _ => none) = _)
    rw [hx, hy]
    exact ⟨fun c => if_pos c, fun c => if_neg c⟩
  have na := a2g hx
  have nb := a2g hy
  have l1a : 1 <= a.length := by cases a with | nil => exact absurd rfl na | cons _ _ => simp
  have l1b : 1 <= b.length := by cases b with | nil => exact absurd rfl nb | cons _ _ => simp
  have no2 : ¬ Q3 (a, b) -> ∀ H', Same H2 H' -> Q .non H' := fun c H' e => no (eh.2 c) _ (e2.trans e)
  refine ⟨fun σ' H' => σ' = [some (.str z), some (.ref sl), o, some (.ref a1), some (.ref a2)] /\ H2 = H', ?_, ?_⟩
  . exact ⟨_, rfl, sl, _, rfl, SqL.of (e2 _ _ h1), rfl, _, _, rfl, _, _, rfl, rfl, rfl, rfl⟩
  rintro _ _ ⟨rfl, rfl⟩
  have g1 := e2 _ _ ha1
  have g2 := e2 _ _ ha2
  have la : (a.map V.int).length = a.length := List.length_map _
  have lb : (b.map V.int).length = b.length := List.length_map _
  -- few, and not too small
  refine ⟨fun σ' H' => σ' = [some (.str z), some (.ref sl), o, some (.ref a1), some (.ref a2)] /\ H2 = H' /\ a.length <= 4 /\ b.length <= 4 /\ (∀ t ∈ a, 1 <= t) /\ ∃ g ∈ b, 1 <= g, ?_, ?_⟩
  . refine ⟨_, rfl, a1, _, rfl, .inl (SqL.of g1), _, _, rfl, rfl, _, rfl, ?_⟩
    rw [la]
    refine A2 (fun c => ?_) (fun c => ?_)
    . exact C9 (no2 (fun h => by have := h.1.2; have := of_decide_eq_true c; simp only at *; omega) _ (Same.refl _))
    have c1 : a.length <= 4 := by have := of_decide_eq_false (Bool.eq_false_iff.mpr c); omega
    refine ⟨_, rfl, a2, _, rfl, .inl (SqL.of g2), _, _, rfl, rfl, _, rfl, ?_⟩
    rw [lb]
    refine A2 (fun c => ?_) (fun c => ?_)
    . exact C9 (no2 (fun h => by have := h.2.1.2; have := of_decide_eq_true c; simp only at *; omega) _ (Same.refl _))
    have c2 : b.length <= 4 := by have := of_decide_eq_false (Bool.eq_false_iff.mpr c); omega
    refine ⟨_, rfl, a1, a, rfl, .inl (SqL.of g1), na, fun m hm hle => ⟨_, _, rfl, rfl, _, rfl, ?_⟩⟩
    refine A2 (fun c => ?_) (fun c => ?_)
    . exact C9 (no2 (fun h => by have := (h.2.2.1.2 m hm).1; have := of_decide_eq_true c; omega) _ (Same.refl _))
    have c3 : 1 <= m := by have := of_decide_eq_false (Bool.eq_false_iff.mpr c); omega
    refine ⟨_, rfl, a2, b, rfl, .inl (SqL.of g2), nb, fun m2 hm2 hle2 => ⟨_, _, rfl, rfl, _, rfl, ?_⟩⟩
    refine A2 (fun c => ?_) (fun c => ?_)
    . refine no2 (fun h => ?_) _ (Same.refl _)
      obtain ⟨g, hg, h0⟩ := h.2.2.2.2
      have := hle2 g hg
      have := of_decide_eq_true c
      omega
    have c4 : 1 <= m2 := by have := of_decide_eq_false (Bool.eq_false_iff.mpr c); omega
    exact ⟨rfl, rfl, c1, c2, fun t ht => by have := hle t ht; omega, m2, hm2, c4⟩
  rintro _ _ ⟨rfl, rfl, c1, c2, c3, gm, hgm, c4⟩
  -- none too great
  refine ⟨fun σ' H' => σ' = [some (.str z), some (.ref sl), o, some (.ref a1), some (.ref a2)] /\ Same H2 H' /\ ∀ t ∈ a ++ b, t <= 10 ^ 9, ?_, ?_⟩
  . refine ⟨_, rfl, _, rfl, a1, a2, _, _, rfl, rfl, g1, g2, by rw [la, lb, sizeLine_eq]; omega, fun cl hcl => ?_⟩
    have s2 := Same.new hcl (.lst (a.map V.int ++ b.map V.int))
    refine ⟨cl, a ++ b, rfl, .inl (SqL.of (by rw [c6, List.map_append])), by simp [na], fun m hm hle => ⟨_, _, rfl, rfl, ⟨by decide, by decide, by decide⟩, _, _, rfl, rfl, _, rfl, ?_⟩⟩
    refine A2 (fun c => ?_) (fun c => ?_)
    . refine no2 (fun h => ?_) _ s2
      have c' : (10 : Int) ^ 9 < m := of_decide_eq_true c
      rcases List.mem_append.mp hm with hm | hm
      . have := (h.2.2.1.2 m hm).2; omega
      . have := (h.2.2.2.1.2 m hm).2; omega
    . have c' : ¬ (10 : Int) ^ 9 < m := of_decide_eq_false (Bool.eq_false_iff.mpr c)
      exact ⟨rfl, s2, fun t ht => by have := hle t ht; omega⟩
  rintro _ H3 ⟨rfl, e3, c5⟩
  have yes : Q3 (a, b) := ⟨⟨l1a, c1⟩, ⟨l1b, c2⟩, ⟨rfl, fun t ht => ⟨c3 t ht, c5 t (List.mem_append_left _ ht)⟩⟩, ⟨rfl, fun t ht => ⟨a5D hy t ht, c5 t (List.mem_append_right _ ht)⟩⟩, gm, hgm, by omega⟩
  have er : y4 z = some (a, b) := eh.1 yes
  refine ⟨_, rfl, a1, _, rfl, .inl ⟨SqL.of (e3 _ _ g1), fun ta hta => ?_⟩⟩
  have s4 := Same.new hta (.tup (a.map V.int))
  refine ⟨_, rfl, a2, _, rfl, .inl ⟨SqL.of (s4 _ _ (e3 _ _ g2)), fun ga hga => ?_⟩⟩
  have s5 := Same.new hga (.tup (b.map V.int))
  refine ⟨(by show 2 <= sizeLine; decide), fun t ht => ?_⟩
  have s6 := Same.new ht (.tup [V.ref ta, V.ref ga])
  have e6 := e3.trans (s4.trans (s5.trans s6))
  exact q1 (a, b) er t ta ga _ (e1.trans (e2.trans e6)) c6 (s6 _ _ (s5 _ _ c6)) (s6 _ _ c6)
end
end Rim
namespace L2
open PySem PySem.Spec PyProof.Rows
section
variable {b : Bool} {xs : List V} {K : W.Frag} {l : Addr} {fr : List Nat} {tc : TT} {te : TE} {σ : St} {H1 : Hp} {p : Addr} {D : Hp -> Prop}
end
end L2
namespace L2
open PySem
end L2
namespace Rim
open PySem L2 Fr
section
variable {P : Program} {w : World} {K : W.Frag} {mg : Str -> Option Value} {base : Heap} {f : Addr} {fd : FuncData} {n : Nat}
theorem a6F {n : Nat} {fr : List Nat} {σ : St} {i j : Nat} {v u : V} (hi : i < n) (hj : j < n) : Wk (blkσ n fr σ) (((blkσ n fr σ).set i (some v)).set j (some u)) := by
  refine ⟨by simp, fun k w e => ?_⟩
  have : ¬ k < n := fun hk => by
    unfold blkσ at e
    rw [List.getElem?_append_left (by simpa using hk), List.getElem?_replicate] at e
    split at e <;> cases e
  rw [List.getElem?_set_ne (by omega), List.getElem?_set_ne (by omega)]; exact e
structure b2A (pt pg : List Int) (ps D L : Int) : Prop where
  l : 0 < L
  d : L ∣ D
  t : ∀ x ∈ pt, (low x D).2 ∣ L
  g : ∀ x ∈ pg, (low x D).2 ∣ L
  s : (low ps D).2 ∣ L
end
end Rim
namespace Rim
open PySem L2 Fr
open Tx (S cs ch w8 Asc C1 v7)
def T4 (h : h9) : PyData := .tuple [.int (h.1.length : Int), .int (h.2.length : Int)]
def LenV (H : Hp) (v : V) (h : h9) : Prop := ∃ t, v = .ref t /\ H t = some (.tup [.int (h.1.length : Int), .int (h.2.length : Int)])
theorem LenV.dp {K : W.Frag} {H : Hp} {v : V} {h : h9} (l : LenV H v h) : Dp K H v (T4 h) := by
  obtain ⟨t, rfl, ht⟩ := l
  exact .tup (SqT.of ht) (.cons (.int _) (.cons (.int _) .nil))
theorem a3q {K : W.Frag} {H : Hp} {vs : List V} {hs : List h9} (h : PySem.Paired (LenV H) vs hs) : Dps K H vs (hs.map T4) := by
  induction h with
  | nil => exact .nil
  | cons r _ ih => exact .cons r.dp ih
theorem a0s : ∀ hs : List h9, PyData.canLayAll0 (hs.map T4) = true
  | [] => by rw [List.map_nil, PyData.canLayAll0]
  | h :: hs => by rw [List.map_cons, PyData.canLayAll0, a0s hs]; rfl
theorem a1X : ∀ hs : List h9, PyData.depthAll (hs.map T4) <= 10
  | [] => by rw [List.map_nil]; simp [PyData.depthAll]
  | h :: hs => by
    have := a1X hs
    rw [List.map_cons, PyData.depthAll]
    have : (T4 h).depth <= 10 := by unfold T4; simp [PyData.depth, PyData.depthAll]
    omega
theorem a7y (h g : h9) : PyData.eqv (T4 h) (T4 g) = (decide (h.1.length = g.1.length) && decide (h.2.length = g.2.length)) := by
  unfold T4
  simp [PyData.eqv, PyData.eqvAll]
  rw [Bool.eq_iff_iff]
  simp
  omega
theorem a3F (g : h9) : ∀ hs : List h9, PyData.eqvAll (hs.map T4) ((List.replicate hs.length g).map T4) = hs.all fun h => decide (h.1.length = g.1.length) && decide (h.2.length = g.2.length)
  | [] => by simp [PyData.eqvAll]
  | h :: hs => by rw [List.length_cons, List.replicate_succ, List.map_cons, List.map_cons, PyData.eqvAll, a7y, a3F g hs, List.all_cons]
theorem a5Y {hs : List h9} {g : h9} (h0 : hs[0]? = some g) (l16 : hs.length <= 16) (an : ∀ h ∈ hs, Q3 h) : IsB hs ↔ (hs.all fun h => decide (h.1.length = g.1.length) && decide (h.2.length = g.2.length)) = true := by
  have l1 : 1 <= hs.length := (List.getElem?_eq_some_iff.mp h0).1
  rw [List.all_eq_true]
  constructor
  . rintro ⟨_, g', e, _, hg⟩ h hh
    rw [h0] at e; cases e
    have := hg h hh
    have := this.1.1
    have := (hg h hh).2.1.1
    rw [decide_eq_true (by omega), decide_eq_true (by omega)]; rfl
  . intro hall
    refine ⟨⟨l1, l16⟩, g, h0, an g (List.mem_of_getElem? h0), fun h hh => ?_⟩
    have := hall h hh
    rw [Bool.and_eq_true] at this
    have e1 := of_decide_eq_true this.1
    have e2 := of_decide_eq_true this.2
    have a := (an h hh).2.2
    rw [<- e1, <- e2]; exact a
section
variable {P : Program} {w : World} {K : W.Frag} {mg : Str -> Option Value} {base : Heap} {f : Addr} {fd : FuncData} {n : Nat}
def a3D (K : W.Frag) : Sp := fun vs H Q _ => ∃ z : S, vs = [.str z] /\ Asc z /\ z.length <= 100000 /\ (B4 z = none -> ∀ H', Same H H' -> Q .non H') /\ ∀ hs, B4 z = some hs -> ∀ l xs H', Same H H' -> H l = none -> H' l = some (.lst xs) -> Bk K H' xs hs -> Q (.ref l) H'
theorem scLrd : p6 ["text", "book", "sizes"] ["text"] (h7 Q4) := ⟨rfl, rfl, rfl, by decide +kernel, rfl, by decide +kernel, by decide +kernel⟩
theorem b0B : (["row"] : List Str).Nodup := by decide +kernel
theorem a4O : (["takes", "gives"] : List Str).Nodup := by decide +kernel
set_option maxHeartbeats 8000000 in
theorem a5x {fa : Addr} {da : FuncData} (F : Fun K "_law_read" "_law_read" Q4 f fd) (T : y6 mg) (C : N1 P w K mg base n "_law_house_in" ["word"] (U4 K) fa da) : x8 P w K mg base K1 (n + 1) f fd ["text"] (a3D K) := by
  refine F.ok scLrd (fun vs H Q E h => ?_) (fun cdv A outer s H vs Q E hr h => ?_)
  . obtain ⟨z, rfl, _⟩ := h
    rfl
  obtain ⟨z, rfl, ha, hl, q0, q1⟩ := h
  refine ⟨_, h8 (U2 (i := 1) ["row"] [] scLrd.nd rfl rfl rfl (C0 (E5 PySem.F.plainAttrs_str PySem.F.slot_str_split PySem.F.type_str_split J6 (pv 0) (c0 t7 c7))) (fun _ _ _ _ => j5 (i := 0) b0B rfl (Or.inl rfl)) (fun _ _ _ _ => r8 C.ok hr rfl C.m C.k C.b .nil x9 (c0 (pv 0) c7)))
    (j9 (u9 (PW.pt (K0 (j3 (a0Y hr) B8 (pv 1) rfl) (G9 (j3 P5 (i7 j8 rfl T.len PySem.boot_len (c0 (pv 1) c7)) d0 (o3 _))))) (g0 (m6 B8)) r6)
    (j9 (U2 (i := 2) ["takes", "gives"] [] scLrd.nd rfl rfl rfl (C0 (pv 1)) (fun _ _ _ _ => a5Z K (n := 2) rfl rfl (t6 (j5 (i := 0) a4O rfl (Or.inl rfl)) (t6 (j5 (i := 1) a4O rfl (Or.inl rfl)) C4))) (fun _ _ _ _ => N6 (c0 (i7 (a1x K rfl) rfl T.len PySem.boot_len (c0 (pv 0) c7)) (c0 (i7 (a1x K rfl) rfl T.len PySem.boot_len (c0 (pv 1) c7)) c7))))
    (g0 (m6 (p7 j4 (w4 (c0 B8 (c0 (pv 1) c7))) (t8 N8 rfl T.int PyProof.Rows.boot_int (c0 (M4 (a5M hr) (pv 2) (j0 a2x (w4 (c0 (p7 j4 (pv 2) d0 (fun _ _ => rfl)) c7)) (i7 j8 rfl T.len PySem.boot_len (c0 (pv 2) c7))) (o3 _)) c7)) (fun _ _ => rfl)))))), ?_⟩
  have few := C2 (z := z) (c := 10)
  refine ⟨_, rfl, rfl, z, ch 10, rfl, rfl, by decide, by rw [sizeLine_eq]; omega, fun l hl' => ?_⟩
  have s1 := Same.new hl' (.lst ((Txt.split z (ch 10)).map V.str))
  refine ⟨l, rfl, ⟨_, SqL.of c6⟩, fun p hp => ?_⟩
  refine E9 (B2 (SqL.of c6)) hp (by rw [List.length_map, sizeLine_eq]; omega) (fun i y H' => ∃ x, (Txt.split z (ch 10))[i]? = some x /\ ∀ H'' : Hp, (∀ b o, b ≠ p -> H' b = some o -> H'' b = some o) -> HO' K H'' y (y4 x)) (fun i y Ha Hb ⟨h, h1, h2⟩ st => ⟨h, h1, fun H'' st2 => h2 H'' fun b o hb hh => st2 b o hb (st b o hb hh)⟩) (fun i y H2 zs N hy e hp' hN => ?_) (fun zs H2 e hp' len pr => ?_)
  . rw [List.getElem?_map] at hy
    obtain ⟨x, hx, rfl⟩ := Option.map_eq_some_iff.mp hy
    have hxm := List.mem_of_getElem? hx
    refine ⟨Wk.set (by decide), _, rfl, x, rfl, Tx.asc_part ha hxm, Nat.le_trans (E6 hxm) hl, fun c H3 e3 => hN _ _ e3 ⟨x, hx, fun H'' _ => by rw [c]; rfl⟩, fun h c t ta ga H3 e3 ht hta hga => hN _ _ e3 ⟨x, hx, fun H'' st => ?_⟩⟩
    rw [c]
    have hp3 := e3 _ _ hp'
    exact ⟨t, ta, ga, rfl, SqT.of (st _ _ (K5 ht hp3 nofun) ht), SqT.of (st _ _ (K5 hta hp3 nofun) hta), SqT.of (st _ _ (K5 hga hp3 nofun) hga)⟩
  have e2 := s1.trans e
  have hp0 : H p = none := s1.free hp
  rw [List.length_map] at len
  have PA : PySem.Paired (HO' K H2) zs ((Txt.split z (ch 10)).map y4) := N7 len fun i y hy => by
    obtain ⟨x, hx, r⟩ := pr i y hy
    exact ⟨x, hx, r _ fun b o _ h => h⟩
  have dpH : ∀ {vs : List V} {os : List (Option h9)}, PySem.Paired (HO' K H2) vs os -> Dps K H2 vs (os.map dH') := fun h => by
    induction h with
    | nil => exact .nil
    | @cons v o vs os r _ ih =>
      refine .cons ?_ ih
      cases o with
      | none => cases (show v = .non from r); exact .non
      | some h => exact HS.dp r
  have ly : ∀ os : List (Option h9), PyData.canLayAll0 (os.map dH') = true := fun os => by
    induction os with
    | nil => rw [List.map_nil, PyData.canLayAll0]
    | cons o os ih =>
      rw [List.map_cons, PyData.canLayAll0, ih]
      cases o with
      | none => rfl
      | some h => show ((C6 h).canLay0 && true) = true; rw [R7]; rfl
  refine ⟨fun σ' H' => ∃ hs, σ' = [some (.str z), some (.ref p), none] /\ H2 = H' /\ O1 ((Txt.split z (ch 10)).map y4) = some hs /\ hs.length <= 16 /\ Bk K H2 zs hs, ?_, ?_⟩
  . refine ⟨_, rfl, p, zs, _, .none, rfl, SqL.of hp', dpH PA, .non, ly _, rfl, by decide, _, rfl, ?_⟩
    have ea : ((((Txt.split z (ch 10)).map y4).map dH').any fun e => PyData.eqv e .none) = ((Txt.split z (ch 10)).map y4).any (·.isNone) := by
      rw [List.any_map]
      congr 1
      funext o
      exact a4E o
    rw [ea]
    refine A2 (fun c => ?_) (fun c => ?_)
    . refine C9 (q0 ?_ _ e2)
      unfold B4
      rw [any_none.mp c]
    . cases hr' : O1 ((Txt.split z (ch 10)).map y4) with
      | none => exact absurd (any_none.mpr hr') c
      | some hs =>
        have en := B3 hr'
        rw [en] at PA
        have hB : Bk K H2 zs hs := by
          have gen : ∀ {vs : List V} {hs : List h9}, PySem.Paired (HO' K H2) vs (hs.map some) -> Bk K H2 vs hs := fun {vs hs} h => by
            induction hs generalizing vs with
            | nil => cases h; exact .nil
            | cons g hs ih =>
              cases h with
              | cons r t => exact .cons r (ih t)
          exact gen PA
        have zl : zs.length = hs.length := Paired.length hB
        refine ⟨_, rfl, p, zs, rfl, .inl (SqL.of hp'), _, _, rfl, rfl, _, rfl, ?_⟩
        refine A2 (fun c => ?_) (fun c => ?_)
        . refine q0 ?_ _ e2
          unfold B4
          rw [hr']
          exact if_neg fun h => by have := h.1.2; have := of_decide_eq_true c; omega
        . exact ⟨hs, rfl, rfl, rfl, by have := of_decide_eq_false (Bool.eq_false_iff.mpr c); omega, hB⟩
  intro σ3 H3 hM_; refine D1 fun G_ hG_ => ?_; obtain ⟨hs, rfl, rfl, hr', l16, hB⟩ := hM_; subst hG_
  have zl : zs.length = hs.length := Paired.length hB
  have an : ∀ h ∈ hs, Q3 h := fun h hh => by
    have hm : some h ∈ (Txt.split z (ch 10)).map y4 := by rw [B3 hr']; exact List.mem_map.mpr ⟨h, hh, rfl⟩
    obtain ⟨y, _, ey⟩ := List.mem_map.mp hm
    exact a0P ey
  have l1 : 1 <= hs.length := by
    have := Tx.split_ne z 10
    cases hs with
    | nil => exact absurd (List.map_eq_nil_iff.mp (B3 hr')) this
    | cons _ _ => simp
  obtain ⟨g, hg⟩ : ∃ g, hs[0]? = some g := ⟨_, List.getElem?_eq_getElem (by omega)⟩
  have rb : (IsB hs -> B4 z = some hs) /\ (¬ IsB hs -> B4 z = none) := by
    unfold B4
    rw [hr']
    exact ⟨fun c => if_pos c, fun c => if_neg c⟩
  -- sizes
  refine ⟨fun σ' H' => ∃ sa vs, σ' = [some (.str z), some (.ref p), some (.ref sa)] /\ Same H2 H' /\ H' sa = some (.lst vs) /\ PySem.Paired (LenV H') vs hs, ?_, ?_⟩
  . refine ⟨_, rfl, p, rfl, ⟨_, SqL.of hp'⟩, fun sa hsa => ?_⟩
    refine E9 (B2 (SqL.of hp')) hsa (v4 (by omega)) (fun i y H' => ∃ h, hs[i]? = some h /\ ∃ t, y = .ref t /\ t ≠ sa /\ H' t = some (.tup [.int (h.1.length : Int), .int (h.2.length : Int)])) (fun i y Ha Hb ⟨h, h1, t, h2, h3, h4⟩ st => ⟨h, h1, t, h2, h3, st _ _ h3 h4⟩) (fun i y H4 zs' N hy e4 hsa' hN => ?_) (fun zs' H4 e4 hsa' len' pr' => ?_)
    . obtain ⟨h, hh, ⟨b, ta, ga, rfl, p1, p2, p3⟩⟩ := Paired.at hB hy
      refine ⟨b, _, rfl, e4.tseq p1, rfl, _, _, rfl, _, _, rfl, rfl, a6F (by decide) (by decide), ?_⟩
      refine ⟨_, rfl, ta, _, rfl, .inr (e4.tseq p2), _, rfl, ga, _, rfl, .inr (e4.tseq p3), (by show 2 <= sizeLine; decide), fun t ht => ?_⟩
      rw [List.length_map, List.length_map]
      exact hN _ _ (Same.new ht _) ⟨h, hh, t, rfl, (j7 hsa' ht).symm, c6⟩
    . refine ⟨sa, zs', rfl, e4, hsa', (List.map_id hs) ▸ N7 (f := id) (by omega) fun i y hy => ?_⟩
      obtain ⟨h, hh, t, e5, _, e6⟩ := pr' i y hy
      exact ⟨h, hh, t, e5, e6⟩
  intro σ4 H4 hM_; refine D1 fun G_ hG_ => ?_; obtain ⟨sa, vs, rfl, e4, hsa, hL⟩ := hM_; subst hG_
  have vl : vs.length = hs.length := Paired.length hL
  refine ⟨_, rfl, (by show 2 <= sizeLine; decide), fun rl hrl => ?_⟩
  have s5 := Same.new hrl (.lst [V.non, V.ref p])
  obtain ⟨v0, hv0⟩ : ∃ v, vs[0]? = some v := ⟨_, List.getElem?_eq_getElem (by omega)⟩
  refine ⟨_, rfl, _, rfl, sa, _, _, _, rfl, rfl, SqL.of (s5 _ _ hsa), E2 (j := 0) hv0, (by show 1 <= sizeLine; decide), fun ol hol => ?_⟩
  have s6 := Same.new hol (.lst [v0])
  refine ⟨_, rfl, sa, vs, rfl, .inl (SqL.of (s6 _ _ (s5 _ _ hsa))), ol, (vs.length : Int), [v0], rfl, rfl, c6, by omega, by omega, by rw [sizeLine_eq]; show 1 * _ <= _; omega, fun pl hpl => ?_⟩
  have fl : (List.replicate (vs.length : Int).toNat [v0]).flatten = List.replicate vs.length v0 := by
    rw [Int.toNat_natCast]
    generalize vs.length = k
    induction k with
    | zero => rfl
    | succ k ih => rw [List.replicate_succ, List.flatten_cons, ih, List.replicate_succ]; rfl
  rw [fl, vl]
  rw [fl, vl] at *
  have s7 := Same.new hpl (.lst (List.replicate hs.length v0))
  have e47 := s5.trans (s6.trans s7)
  have hpl7 : (upd (upd (upd H4 rl (.lst [V.non, V.ref p])) ol (.lst [v0])) pl (.lst (List.replicate hs.length v0))) pl = some (.lst (List.replicate hs.length v0)) := c6
  have hrl7 : (upd (upd (upd H4 rl (.lst [V.non, V.ref p])) ol (.lst [v0])) pl (.lst (List.replicate hs.length v0))) rl = some (.lst [V.non, V.ref p]) := s7 _ _ (s6 _ _ c6)
  generalize upd (upd (upd H4 rl (.lst [V.non, V.ref p])) ol (.lst [v0])) pl (.lst (List.replicate hs.length v0)) = H7 at *
  have hL7 : PySem.Paired (LenV H7) vs hs := Paired.imp' (fun _ _ ⟨t, e1, e2⟩ => ⟨t, e1, e47 _ _ e2⟩) hL
  have hR7 : PySem.Paired (LenV H7) (List.replicate hs.length v0) (List.replicate hs.length g) := by
    obtain ⟨g', hg', r⟩ := Paired.at hL7 hv0
    rw [hg] at hg'; cases hg'
    generalize hs.length = k
    induction k with
    | zero => exact .nil
    | succ k ih => rw [List.replicate_succ, List.replicate_succ]; exact .cons r ih
  refine ⟨.list (hs.map T4), .list ((List.replicate hs.length g).map T4), .lst (SqL.of (e47 _ _ hsa)) (a3q hL7), .lst (SqL.of hpl7) (a3q hR7), by rw [PyData.canLay0]; exact a0s _, by rw [PyData.canLay0]; exact a0s _, Nat.le_trans (Nat.min_le_left _ _) (by rw [PyData.depth]; have := a1X hs; omega), ?_⟩
  rw [show PyData.eqv (.list (hs.map T4)) (.list ((List.replicate hs.length g).map T4)) = (hs.all fun h => decide (h.1.length = g.1.length) && decide (h.2.length = g.2.length)) from by rw [PyData.eqv, a3F]]
  have iff := a5Y hg l16 an
  have e07 := e2.trans (e4.trans e47)
  cases hb : (hs.all fun h => decide (h.1.length = g.1.length) && decide (h.2.length = g.2.length)) with
  | true =>
    refine .inr ⟨_, rfl, rl, _, _, _, rfl, rfl, SqL.of hrl7, rfl, ?_⟩
    exact q1 hs (rb.1 (iff.mpr hb)) p zs H7 e07 hp0 (e47 _ _ (e4 _ _ hp')) (Bk.same (e4.trans e47) hB)
  | false =>
    refine .inr ⟨_, rfl, rl, _, _, _, rfl, rfl, SqL.of hrl7, rfl, ?_⟩
    exact q0 (rb.2 fun h => by rw [iff.mp h] at hb; cases hb) H7 e07
end
end Rim
namespace Rim
open PySem L2 Fr
open Tx (S cs ch w8 Asc C1 v7)
theorem a3v {K : W.Frag} {H : Hp} : ∀ ms : List Int, Dps K H (ms.map V.int) (ms.map PyData.int)
  | [] => .nil
  | m :: r => .cons (.int _) (a3v r)
theorem a1Q : ∀ ms : List Int, PyData.canLayAll0 (ms.map PyData.int) = true
  | [] => by rw [List.map_nil, PyData.canLayAll0]
  | m :: r => by rw [List.map_cons, PyData.canLayAll0, a1Q r]; rfl
theorem a2o : ∀ ms : List Int, PyData.depthAll (ms.map PyData.int) <= 10
  | [] => by simp [PyData.depthAll]
  | m :: r => by
    have := a2o r
    rw [List.map_cons, PyData.depthAll]
    have : (PyData.int m).depth <= 10 := by simp [PyData.depth]
    omega
theorem a4w {l : List V} {m : Int} (h : 1 <= l.length) : ∃ v, v ∈ l /\ S6 l (m % (l.length : Int)) = some v := by
  have h1 := Int.emod_nonneg m (show (l.length : Int) ≠ 0 by omega)
  have h2 := Int.emod_lt_of_pos m (show (0 : Int) < (l.length : Int) by omega)
  obtain ⟨k, hk⟩ := Int.eq_ofNat_of_zero_le h1
  have hl : k < l.length := by omega
  refine ⟨l[k], List.getElem_mem hl, ?_⟩
  rw [hk]
  exact E2 (List.getElem?_eq_getElem hl)
theorem a3x {z : S} {m : Int} {k : Nat} (hk : 0 < k) (h : k <= (cs z).length) : ∃ c, c ∈ cs z /\ S6 z.cps.toList (m % (k : Int)) = some c := by
  have h1 := Int.emod_nonneg m (show (k : Int) ≠ 0 by omega)
  have h2 := Int.emod_lt_of_pos m (show (0 : Int) < (k : Int) by omega)
  obtain ⟨j, hj⟩ := Int.eq_ofNat_of_zero_le h1
  have hl : j < (cs z).length := by omega
  refine ⟨(cs z)[j], List.getElem_mem hl, ?_⟩
  rw [hj]
  exact E2 (List.getElem?_eq_getElem hl)
theorem W6 {z : S} {lo hi : Option Int} (h : Asc z) : Asc (Txt.slice z lo hi) := fun c hc => h c (a3U z lo hi c hc)
theorem W7 (z : S) (lo hi : Option Int) : (Txt.slice z lo hi).length <= z.length := Txt.slice_le z lo hi
theorem B7 (x y : S) : (x ++ y).length = x.length + y.length := by rw [Tx.len_cs, Tx.cs_app, List.length_append, <- Tx.len_cs, <- Tx.len_cs]
theorem a1Z {z : S} (h : (cs z).all (fun c => decide (c < 128)) = true) : Asc z := fun c hc => of_decide_eq_true (List.all_eq_true.mp h c hc)
theorem Z7 (a b : List Nat) : (a ++ b).sum = a.sum + b.sum := List.sum_append
theorem a3Q {ws : List S} {i : Nat} {c : Nat} {r : Nat} (hi : i < ws.length) (hr : r <= 2) (B : Nat) (hB : (ws.map (·.length)).sum + ws.length <= B + 1) : ((ws.take i ++ (List.replicate r [ws[i]]).flatten ++ ws.drop (i + 1)).map (·.length)).sum + (ws.take i ++ (List.replicate r [ws[i]]).flatten ++ ws.drop (i + 1)).length <= 2 * B + 3 := by
  have e : ws = ws.take i ++ [ws[i]] ++ ws.drop (i + 1) := by simp
  have e1 : (ws.map (·.length)).sum = ((ws.take i).map (·.length)).sum + ws[i].length + ((ws.drop (i + 1)).map (·.length)).sum := by
    conv => lhs; rw [e]
    rw [List.map_append, List.map_append, Z7, Z7]; simp
  have e2 : ws.length = (ws.take i).length + 1 + (ws.drop (i + 1)).length := by
    conv => lhs; rw [e]
    rw [List.length_append, List.length_append]; rfl
  have f1 : (((List.replicate r [ws[i]]).flatten).map (·.length)).sum <= 2 * ws[i].length /\ ((List.replicate r [ws[i]]).flatten).length <= 2 := by
    match r, hr with
    | 0, _ => simp
    | 1, _ => simp; omega
    | 2, _ => simp; omega
  rw [List.map_append, List.map_append, Z7, Z7, List.length_append, List.length_append]
  omega
section
variable {P : Program} {w : World} {K : W.Frag} {mg : Str -> Option Value} {base : Heap} {f : Addr} {fd : FuncData} {n : Nat}
def a1W (K : W.Frag) : Sp := fun vs H Q _ => ∃ (z : S) (pk ml : Addr) (ds : List Int) (ws : List S), vs = [.str z, .ref pk, .ref ml] /\ SqL K H pk (ds.map V.int) /\ ds.length = 4 /\ (∀ d ∈ ds, 0 <= d /\ d < 10 ^ 9) /\ SqL K H ml (ws.map V.str) /\ 1 <= ws.length /\ (∀ x ∈ ws, Asc x /\ x.length <= 20) /\ Asc z /\ z.length <= 20000 ∧
  ∀ (z' : S) (H' : Hp), Same H H' -> Asc z' -> z'.length <= 2 * z.length + 40 -> Q (.str z') H'
abbrev a9N : List Str := ["text", "picks", "words_more", "some", "sign", "at", "marks", "form", "mark", "words", "k", "often"]
theorem scSpo : p6 a9N ["text", "picks", "words_more"] (h7 C8) := ⟨rfl, rfl, rfl, by decide +kernel, rfl, by decide +kernel, by decide +kernel⟩
theorem b0h : (["k", "text"] : List Str).Nodup := by decide +kernel
variable {cdv : Value} {A : Around} {outer : List Env} {s : Shared} {H : Hp} {E : XK}
abbrev b1Z (P : Program) (w : World) (K : W.Frag) (mg : Str -> Option Value) (base : Heap) (f : Addr) (cdv : Value) (A : Around) (outer : List Env) (s : Shared) (H : Hp) (E : XK) : Cx := (M2 K1 P w K mg base a9N "_law_spoilt" (h7 C8) f cdv A outer s H E).nox
set_option maxHeartbeats 8000000 in
noncomputable def b2a (T : y6 mg) (hr : Room n (A.deeper (PyProof.Rows.envOfC "_law_spoilt" (h7 C8) s.heap.objs.size f cdv))) :
    { t : TS // PSs (b1Z P w K mg base f cdv A outer s H E) (x6 C8) t } :=
  ⟨_, h8 (r9 (i := 3) scSpo.nd rfl (Or.inl rfl) t7)
    (j9 (r9 (i := 4) scSpo.nd rfl (Or.inl rfl) (p7 j4 (w4 (c0 (p7 a0t (pv 3) (j0 t9 (p7 j4 (pv 1) d0 (fun _ _ => rfl)) d0) (fun _ _ => rfl)) (c0 (p7 a0t t7 (j0 t9 (p7 j4 (pv 1) d0 (fun _ _ => rfl)) d0) (fun _ _ => rfl)) c7))) (j0 t9 (p7 j4 (pv 1) d0 (fun _ _ => rfl)) d0) (fun _ _ => rfl)))
    (j9 (r9 (i := 5) scSpo.nd rfl (Or.inl rfl) (j0 t9 (p7 j4 (pv 1) d0 (fun _ _ => rfl)) (j0 A8 (i7 E8 rfl T.len PySem.boot_len (c0 (pv 0) c7)) d0)))
    (j9 (a9a (i := 6) ["k"] [0] scSpo.nd rfl rfl rfl (R3 rfl T.range (c0 (i7 E8 rfl T.len PySem.boot_len (c0 (pv 0) c7)) c7)) (fun _ _ _ _ => j5 (i := 0) b0h rfl (Or.inl rfl)) (fun _ _ _ _ => j3 a4n (p7 a0t (pv 1) (pv 0) (fun _ _ => rfl)) t7 rfl) (fun _ _ _ _ => pv 0))
    (j9 (u9 (PW.pt (Q6 (j3 G4 (j0 t9 (p7 j4 (pv 1) d0 (fun _ _ => rfl)) d0) d0 (o3 _)) (M7 (j3 (P7 hr) (pv 6) (w4 c7) (o3 _)))))
      (g0 (r9 (i := 5) scSpo.nd rfl (Or.inl rfl) (j0 A8 (p7 j4 (pv 6) (j0 t9 (p7 j4 (pv 1) d0 (fun _ _ => rfl)) (i7 j8 rfl T.len PySem.boot_len (c0 (pv 6) c7))) (fun _ _ => rfl)) (j0 t9 (j0 J3 (p7 j4 (pv 1) d0 (fun _ _ => rfl)) d0) d0)))) r6)
    (j9 (r9 (i := 7) scSpo.nd rfl (Or.inl rfl) (j0 t9 (j0 J3 (p7 j4 (pv 1) d0 (fun _ _ => rfl)) d0) d0))
    (j9 (u9 (j3 G4 (pv 7) d0 (o3 _)) (g0 (m6 (j0 C3 (A5 Q8 (pv 0) E1 (A4 (pv 5))) (A5 Q8 (pv 0) (A4 (j0 A8 (pv 5) d0)) E1)))) r6)
    (j9 (u9 (j3 G4 (pv 7) d0 (o3 _)) (g0 (m6 (j0 C3 (j0 C3 (A5 Q8 (pv 0) E1 (A4 (pv 5))) (pv 4)) (A5 Q8 (pv 0) (A4 (j0 A8 (pv 5) d0)) E1)))) r6)
    (j9 (u9 (j3 G4 (pv 7) d0 (o3 _)) (g0 (m6 (j0 C3 (j0 C3 (A5 Q8 (pv 0) E1 (A4 (pv 5))) (pv 4)) (A5 Q8 (pv 0) (A4 (pv 5)) E1)))) r6)
    (j9 (u9 (j3 G4 (pv 7) d0 (o3 _)) (g0 (m6 (j0 C3 (j0 C3 (A5 Q8 (pv 0) E1 (A4 (pv 5))) (p7 j4 (pv 2) (j0 t9 (p7 j4 (pv 1) d0 (fun _ _ => rfl)) (i7 j8 rfl T.len PySem.boot_len (c0 (pv 2) c7))) (fun _ _ => rfl))) (A5 Q8 (pv 0) (A4 (pv 5)) E1)))) r6)
    (j9 (r9 (i := 8) scSpo.nd rfl (Or.inl rfl) (p7 j4 (w4 (c0 t7 (c0 t7 (c0 t7 c7)))) (j0 t9 (j0 J3 (p7 j4 (pv 1) d0 (fun _ _ => rfl)) d0) d0) (fun _ _ => rfl)))
    (h8 (r9 (i := 9) scSpo.nd rfl (Or.inl rfl) (E5 PySem.F.plainAttrs_str PySem.F.slot_str_split PySem.F.type_str_split J6 (pv 0) (c0 (pv 8) c7)))
    (j9 (r9 (i := 10) scSpo.nd rfl (Or.inl rfl) (j0 t9 (p7 j4 (pv 1) d0 (fun _ _ => rfl)) (i7 j8 rfl T.len PySem.boot_len (c0 (pv 9) c7))))
    (j9 (r9 (i := 11) scSpo.nd rfl (Or.inl rfl) (j0 a2x (A5 M6 (pv 9) (A4 (pv 10)) (A4 (j0 A8 (pv 10) d0))) (j0 K4 d0 (j0 a1w (pv 7) d0))))
    (g0 (m6 (E5 PySem.F.plainAttrs_str PySem.F.slot_str_join PySem.F.type_str_join P0 (pv 8) (c0 (j0 U0 (j0 U0 (A5 M6 (pv 9) E1 (A4 (pv 10))) (pv 11)) (A5 M6 (pv 9) (A4 (j0 A8 (pv 10) d0)) E1)) c7)))))))))))))))))⟩
theorem a8o {i : Int} (h0 : 0 <= i) (h3 : i < 3) : ∃ c : Nat, c < 128 /\ S6 [V.str (ch 10), V.str (ch 44), V.str (ch 32)] i = some (.str (ch c)) := by
  have : i = 0 \/ i = 1 \/ i = 2 := by omega
  rcases this with rfl | rfl | rfl
  . exact ⟨10, by decide, rfl⟩
  . exact ⟨44, by decide, rfl⟩
  . exact ⟨32, by decide, rfl⟩
def a1y (z : S) : V -> Bool
  | .int i => match S6 z.cps.toList i with
    | some c => !(Builtin.Str.occurrences (Str.ofString " ,>\n") (ch c) 0 (Str.ofString " ,>\n").length 1).isEmpty
    | none => false
  | _ => false
set_option maxHeartbeats 8000000 in
theorem a4c (F : Fun K "_law_spoilt" "_law_spoilt" C8 f fd) (T : y6 mg) : x8 P w K mg base K1 (n + 1) f fd ["text", "picks", "words_more"] (a1W K) := by
  refine F.ok scSpo (fun vs H Q E h => ?_) (fun cdv A outer s H vs Q E hr h => ?_)
  . obtain ⟨z, pk, ml, ds, ws, rfl, _⟩ := h
    rfl
  obtain ⟨z, pk, ml, ds, ws, rfl, hS, l4, bd, hW, lw, aw, ha, hl, q⟩ := h
  refine ⟨_, (b2a T hr).2, ?_⟩
  have at4 : ∀ k : Nat, k < 4 -> ∃ v, v ∈ ds /\ S6 (ds.map V.int) (k : Int) = some (.int v) := fun k hk => D2 (by omega) (by omega)
  obtain ⟨v0, m0, i0⟩ := at4 0 (by decide)
  obtain ⟨v1, m1, i1⟩ := at4 1 (by decide)
  obtain ⟨v2, m2, i2⟩ := at4 2 (by decide)
  obtain ⟨v3, m3, i3⟩ := at4 3 (by decide)
  have b0 := bd v0 m0
  have b1 := bd v1 m1
  have b2 := bd v2 m2
  have b3 := bd v3 m3
  have hsl : z.length <= sizeLine := by rw [sizeLine_eq]; omega
  -- sign
  refine ⟨fun σ' H' => ∃ (u : V) (c : Nat), σ' = [some (.str z), some (.ref pk), some (.ref ml), some u, some (.str (ch c)), none, none, none, none, none, none, none] /\ Same H H' /\ c < 128, ?_, ?_⟩
  . obtain ⟨c1, hc1, e1⟩ := a3x (z := Str.ofString " !\"#$&'()*+,-./0123456789:;<=>?@ABCDEFGHIJKLMNOPQRSTUVWXYZ[\\]^_`{|}~\n\tabcdefghijklmnopqrstuvwxyz") (m := v1) (k := 96) (by decide) (by decide +kernel)
    obtain ⟨c2, hc2, e2⟩ := a3x (z := Str.ofString " 0,>\n9-1") (m := v1) (k := 8) (by decide) (by decide +kernel)
    have a1 : c1 < 128 := a1Z (z := Str.ofString " !\"#$&'()*+,-./0123456789:;<=>?@ABCDEFGHIJKLMNOPQRSTUVWXYZ[\\]^_`{|}~\n\tabcdefghijklmnopqrstuvwxyz") (by decide +kernel) c1 hc1
    have a2 : c2 < 128 := a1Z (z := Str.ofString " 0,>\n9-1") (by decide +kernel) c2 hc2
    refine ⟨_, rfl, _, rfl, pk, _, _, _, rfl, rfl, hS, i1, _, _, rfl, rfl, (by show (0 : Int) < 96; decide), _, _, c1, rfl, rfl, (by decide +kernel), e1, ?_⟩
    refine ⟨_, rfl, pk, _, _, _, rfl, rfl, hS, i1, _, _, rfl, rfl, (by show (0 : Int) < 8; decide), _, _, c2, rfl, rfl, (by decide +kernel), e2, (by show 2 <= sizeLine; decide), fun l hl' => ?_⟩
    have s1 := Same.new hl' (.lst [V.str ⟨#[c1]⟩, V.str ⟨#[c2]⟩])
    refine ⟨_, rfl, pk, _, _, _, rfl, rfl, s1.seq hS, i2, _, _, rfl, rfl, (by show (0 : Int) < 2; decide), ?_⟩
    have : v2 % 2 = 0 \/ v2 % 2 = 1 := by omega
    rcases this with e | e
    . exact ⟨l, _, v2 % 2, _, rfl, rfl, SqL.of c6, by rw [e]; rfl, _, c1, rfl, s1, a1⟩
    . exact ⟨l, _, v2 % 2, _, rfl, rfl, SqL.of c6, by rw [e]; rfl, _, c2, rfl, s1, a2⟩
  intro σ1 H1 hM_; refine D1 fun G_ hG_ => ?_; obtain ⟨u, c, rfl, e1, hc⟩ := hM_; subst hG_
  have hS1 := e1.seq hS
  have asg : Asc (ch c) := fun d hd => by rw [Tx.cs_ch] at hd; rw [List.mem_singleton.mp hd]; exact hc
  have lsg : (ch c).length = 1 := rfl
  -- at
  refine ⟨fun σ' H' => ∃ at0 : Int, σ' = [some (.str z), some (.ref pk), some (.ref ml), some u, some (.str (ch c)), some (.int at0), none, none, none, none, none, none] /\ H1 = H', ?_, ?_⟩
  . exact ⟨_, rfl, pk, _, _, _, rfl, rfl, hS1, i0, _, rfl, z, rfl, hsl, _, _, rfl, rfl, _, _, rfl, rfl, (by show (0 : Int) < (z.length : Int) + 1; omega), _, rfl, rfl⟩
  intro σ2 H2 hM_; refine D1 fun G_ hG_ => ?_; obtain ⟨at0, rfl, rfl⟩ := hM_; subst hG_
  -- marks
  refine ⟨fun σ' H' => ∃ (mk : Addr) (ms : List Int), σ' = [some (.str z), some (.ref pk), some (.ref ml), some u, some (.str (ch c)), some (.int at0), some (.ref mk), none, none, none, none, none] /\ Same H1 H' /\ H' mk = some (.lst (ms.map V.int)) /\ ms.length <= 20000, ?_, ?_⟩
  . refine ⟨_, rfl, z, rfl, hsl, z.length, rfl, by omega, by omega, fun p hp => ?_⟩
    rw [Int.toNat_natCast]
    refine a1h a2O hp (by rw [List.length_map, List.length_range, sizeLine_eq]; omega) (a1y z) (fun i x H' N hx e hN => ?_) ?_
    . have ilt : i < z.length := by have := (List.getElem?_eq_some_iff.mp hx).1; simpa using this
      rw [List.getElem?_map, List.getElem?_range ilt] at hx
      have ex : V.int (0 + (i : Int)) = x := Option.some.inj hx
      subst ex
      rw [Int.zero_add] at hN ⊢
      have hi : i < (cs z).length := by rw [<- Tx.len_cs]; exact ilt
      have ea : S6 z.cps.toList (i : Int) = some (cs z)[i] := E2 (List.getElem?_eq_getElem hi)
      refine ⟨_, rfl, _, rfl, z, _, _, rfl, rfl, hsl, ea, _, _, rfl, rfl, _, rfl, ?_⟩
      have hm : a1y z (.int (i : Int)) = !(Builtin.Str.occurrences (Str.ofString " ,>\n") (ch (cs z)[i]) 0 (Str.ofString " ,>\n").length 1).isEmpty := by
        show (match S6 z.cps.toList (i : Int) with
          | some c => !(Builtin.Str.occurrences (Str.ofString " ,>\n") (ch c) 0 (Str.ofString " ,>\n").length 1).isEmpty
          | none => false) = _
        rw [ea]
      rw [hm] at hN
      exact hN
    . have gen : ∀ l : List V, (∀ v ∈ l, ∃ k : Int, v = .int k) -> ∃ ms : List Int, l = ms.map V.int := fun l hl => by
        induction l with
        | nil => exact ⟨[], rfl⟩
        | cons v l ih =>
          obtain ⟨k, rfl⟩ := hl v (.head _)
          obtain ⟨ms, rfl⟩ := ih fun u hu => hl u (.tail _ hu)
          exact ⟨k :: ms, rfl⟩
      obtain ⟨ms, hms⟩ := gen (((List.range z.length).map fun (i : Nat) => V.int (0 + (i : Int))).filter (a1y z)) fun v hv => by
        obtain ⟨hv, _⟩ := List.mem_filter.mp hv
        obtain ⟨k, _, rfl⟩ := List.mem_map.mp hv
        exact ⟨_, rfl⟩
      have lms : ms.length <= z.length := by
        have h1 := List.length_filter_le (a1y z) ((List.range z.length).map fun (i : Nat) => V.int (0 + (i : Int)))
        rw [hms, List.length_map, List.length_map, List.length_range] at h1
        exact h1
      exact ⟨p, ms, rfl, Same.new hp _, by rw [c6, hms], by omega⟩
  intro σ3 H3 hM_; refine D1 fun G_ hG_ => ?_; obtain ⟨mk, ms, rfl, e3, hmk, lms⟩ := hM_; subst hG_
  have hS3 := e3.seq hS1
  -- at, of a mark
  refine ⟨fun σ' H' => ∃ at1 : Int, σ' = [some (.str z), some (.ref pk), some (.ref ml), some u, some (.str (ch c)), some (.int at1), some (.ref mk), none, none, none, none, none] /\ Same H3 H', ?_, ?_⟩
  . refine ⟨_, rfl, pk, _, _, _, rfl, rfl, hS3, i3, _, _, rfl, rfl, (by show (0 : Int) < 2; decide), rfl, _, rfl, ?_⟩
    refine A2 (fun d => ?_) (fun d => D0 ⟨at0, rfl, Same.refl _⟩)
    refine ⟨_, rfl, (by show 0 <= sizeLine; decide), fun el hel => ?_⟩
    have s1 := Same.new hel (.lst [])
    refine ⟨.list (ms.map PyData.int), .list [], .lst (SqL.of (s1 _ _ hmk)) (a3v ms), .lst (SqL.of c6) .nil, by rw [PyData.canLay0]; exact a1Q ms, rfl, Nat.le_trans (Nat.min_le_left _ _) (by rw [PyData.depth]; have := a2o ms; omega), _, rfl, ?_⟩
    rw [Z2]
    refine A2 (fun d => ?_) (fun d => ⟨at0, rfl, s1⟩)
    have ml1 : 1 <= (ms.map V.int).length := by
      cases ms with
      | nil => simp at d
      | cons _ _ => simp
    obtain ⟨v, hv, ev⟩ := a4w (l := ms.map V.int) (m := v0) ml1
    obtain ⟨mv, _, rfl⟩ := List.mem_map.mp hv
    refine ⟨_, rfl, _, rfl, pk, _, _, _, rfl, rfl, s1.seq hS3, i0, _, rfl, mk, _, rfl, .inl (SqL.of (s1 _ _ hmk)), _, _, rfl, rfl, (by show (0 : Int) < ((ms.map V.int).length : Int); omega), mk, _, _, _, rfl, rfl, SqL.of (s1 _ _ hmk), ev, ?_⟩
    exact ⟨_, rfl, pk, _, _, _, rfl, rfl, s1.seq hS3, i1, _, _, rfl, rfl, (by show (0 : Int) < 96 /\ (96 : Int) < 1073741824; decide), _, _, rfl, rfl, (by show (0 : Int) < 2; decide), _, _, rfl, rfl, _, rfl, s1⟩
  intro σ4 H4 hM_; refine D1 fun G_ hG_ => ?_; obtain ⟨at1, rfl, e4⟩ := hM_; subst hG_
  have e04 := e1.trans (e3.trans e4)
  have hS4 := e04.seq hS
  have hW4 := e04.seq hW
  -- form
  refine ⟨fun σ' H' => ∃ fm : Int, σ' = [some (.str z), some (.ref pk), some (.ref ml), some u, some (.str (ch c)), some (.int at1), some (.ref mk), some (.int fm), none, none, none, none] /\ H4 = H' /\ 0 <= fm /\ fm < 6, ?_, ?_⟩
  . exact ⟨_, rfl, pk, _, _, _, rfl, rfl, hS4, i2, _, _, rfl, rfl, (by show (0 : Int) < 2 /\ (2 : Int) < 1073741824; decide), _, _, rfl, rfl, (by show (0 : Int) < 6; decide), _, rfl, rfl, by omega, by omega⟩
  intro σ5 H5 hM_; refine D1 fun G_ hG_ => ?_; obtain ⟨fm, rfl, rfl, f0, f6⟩ := hM_; subst hG_
  have la := W7 z none (some at1)
  have lb := W7 z (some at1) none
  have lc := W7 z (some (at1 + 1)) none
  have aa := W6 (lo := none) (hi := some at1) ha
  have ab := W6 (lo := some at1) (hi := none) ha
  have ac := W6 (lo := some (at1 + 1)) (hi := none) ha
  -- a sign left out
  refine ⟨fun σ' H' => σ' = [some (.str z), some (.ref pk), some (.ref ml), some u, some (.str (ch c)), some (.int at1), some (.ref mk), some (.int fm), none, none, none, none] /\ H4 = H' /\ fm ≠ 0, ?_, ?_⟩
  . refine ⟨_, rfl, rfl, _, rfl, ?_⟩
    refine A2 (fun d => ?_) (fun d => ⟨rfl, rfl, fun h => d (by rw [h]; rfl)⟩)
    exact ⟨_, rfl, _, rfl, at1, rfl, z, rfl, hsl, _, rfl, _, rfl, _, _, rfl, rfl, at1 + 1, rfl, z, rfl, hsl, _, _, rfl, rfl, by rw [sizeLine_eq]; omega, q _ _ e04 (Tx.asc_app aa ac) (by rw [B7]; omega)⟩
  rintro _ _ ⟨rfl, rfl, n0⟩
  -- another sign
  refine ⟨fun σ' H' => σ' = [some (.str z), some (.ref pk), some (.ref ml), some u, some (.str (ch c)), some (.int at1), some (.ref mk), some (.int fm), none, none, none, none] /\ H4 = H' /\ fm ≠ 1, ?_, ?_⟩
  . refine ⟨_, rfl, rfl, _, rfl, ?_⟩
    refine A2 (fun d => ?_) (fun d => ⟨rfl, rfl, fun h => d (by rw [h]; rfl)⟩)
    exact ⟨_, rfl, _, rfl, at1, rfl, z, rfl, hsl, _, rfl, _, _, rfl, rfl, by rw [lsg, sizeLine_eq]; omega, _, rfl, _, rfl, _, _, rfl, rfl, at1 + 1, rfl, z, rfl, hsl, _, _, rfl, rfl, by rw [B7, lsg, sizeLine_eq]; omega, q _ _ e04 (Tx.asc_app (Tx.asc_app aa asg) ac) (by rw [B7, B7, lsg]; omega)⟩
  rintro _ _ ⟨rfl, rfl, n1⟩
  -- a sign more
  refine ⟨fun σ' H' => σ' = [some (.str z), some (.ref pk), some (.ref ml), some u, some (.str (ch c)), some (.int at1), some (.ref mk), some (.int fm), none, none, none, none] /\ H4 = H' /\ fm ≠ 2, ?_, ?_⟩
  . refine ⟨_, rfl, rfl, _, rfl, ?_⟩
    refine A2 (fun d => ?_) (fun d => ⟨rfl, rfl, fun h => d (by rw [h]; rfl)⟩)
    exact ⟨_, rfl, _, rfl, at1, rfl, z, rfl, hsl, _, rfl, _, _, rfl, rfl, by rw [lsg, sizeLine_eq]; omega, _, rfl, _, rfl, at1, rfl, z, rfl, hsl, _, _, rfl, rfl, by rw [B7, lsg, sizeLine_eq]; omega, q _ _ e04 (Tx.asc_app (Tx.asc_app aa asg) ab) (by rw [B7, B7, lsg]; omega)⟩
  rintro _ _ ⟨rfl, rfl, n2⟩
  -- a word more
  refine ⟨fun σ' H' => σ' = [some (.str z), some (.ref pk), some (.ref ml), some u, some (.str (ch c)), some (.int at1), some (.ref mk), some (.int fm), none, none, none, none] /\ H4 = H' /\ fm ≠ 3, ?_, ?_⟩
  . refine ⟨_, rfl, rfl, _, rfl, ?_⟩
    refine A2 (fun d => ?_) (fun d => ⟨rfl, rfl, fun h => d (by rw [h]; rfl)⟩)
    obtain ⟨v, hv, ev⟩ := a4w (l := ws.map V.str) (m := v1) (by rw [List.length_map]; exact lw)
    obtain ⟨x, hx, rfl⟩ := List.mem_map.mp hv
    obtain ⟨ax, lx⟩ := aw x hx
    refine ⟨_, rfl, _, rfl, at1, rfl, z, rfl, hsl, _, rfl, _, rfl, pk, _, _, _, rfl, rfl, hS4, i1, _, rfl, ml, _, rfl, .inl hW4, _, _, rfl, rfl, (by show (0 : Int) < ((ws.map V.str).length : Int); rw [List.length_map]; omega), ml, _, _, _, rfl, rfl, hW4, ev, _, x, rfl, rfl, by rw [sizeLine_eq]; omega, ?_⟩
    exact ⟨_, rfl, _, rfl, at1, rfl, z, rfl, hsl, _, _, rfl, rfl, by rw [B7, sizeLine_eq]; omega, q _ _ e04 (Tx.asc_app (Tx.asc_app aa ax) ab) (by rw [B7, B7]; omega)⟩
  rintro _ _ ⟨rfl, rfl, n3⟩
  -- mark
  refine ⟨fun σ' H' => ∃ d : Nat, σ' = [some (.str z), some (.ref pk), some (.ref ml), some u, some (.str (ch c)), some (.int at1), some (.ref mk), some (.int fm), some (.str (ch d)), none, none, none] /\ Same H4 H' /\ d < 128, ?_, ?_⟩
  . obtain ⟨d, hd, ed⟩ := a8o (i := v3 / 2 % 3) (by omega) (by omega)
    refine ⟨(by show 3 <= sizeLine; decide), fun l hl' => ?_⟩
    have s1 := Same.new hl' (.lst [V.str (ch 10), V.str (ch 44), V.str (ch 32)])
    exact ⟨_, rfl, pk, _, _, _, rfl, rfl, s1.seq hS4, i3, _, _, rfl, rfl, (by show (0 : Int) < 2 /\ (2 : Int) < 1073741824; decide), _, _, rfl, rfl, (by show (0 : Int) < 3; decide), l, _, _, _, rfl, rfl, SqL.of c6, ed, d, rfl, s1, hd⟩
  intro σ6 H6 hM_; refine D1 fun G_ hG_ => ?_; obtain ⟨d, rfl, e6, hd⟩ := hM_; subst hG_
  have few := C2 (z := z) (c := d)
  have wt := PyProof.Rows.split_weight z (ch d) (Nat.le_refl 1)
  have nes := Tx.split_ne z d
  -- words
  refine ⟨_, rfl, rfl, _, rfl, z, ch d, rfl, rfl, rfl, by rw [sizeLine_eq]; omega, fun wl hwl => ?_⟩
  have s7 := Same.new hwl (.lst ((Txt.split z (ch d)).map V.str))
  have hwl7 : (upd H6 wl (.lst ((Txt.split z (ch d)).map V.str))) wl = some (.lst ((Txt.split z (ch d)).map V.str)) := c6
  have awd : ∀ x ∈ Txt.split z (ch d), Asc x := fun x hx => Tx.asc_part ha hx
  generalize upd H6 wl (.lst ((Txt.split z (ch d)).map V.str)) = H7 at *
  generalize Txt.split z (ch d) = wd at *
  have lwd : 1 <= wd.length := by cases wd with | nil => exact absurd rfl nes | cons _ _ => simp
  have lmw : (wd.map V.str).length = wd.length := List.length_map _
  have e07 := e04.trans (e6.trans s7)
  -- k
  refine ⟨fun σ' H' => ∃ k : Nat, σ' = [some (.str z), some (.ref pk), some (.ref ml), some u, some (.str (ch c)), some (.int at1), some (.ref mk), some (.int fm), some (.str (ch d)), some (.ref wl), some (.int (k : Int)), none] /\ H7 = H' /\ k < wd.length, ?_, ?_⟩
  . refine ⟨_, rfl, pk, _, _, _, rfl, rfl, e07.seq hS, i0, _, rfl, wl, _, rfl, .inl (SqL.of hwl7), _, _, rfl, rfl, (by show (0 : Int) < ((wd.map V.str).length : Int); omega), ?_⟩
    have a1 := Int.emod_nonneg v0 (show ((wd.map V.str).length : Int) ≠ 0 by omega)
    have a2 := Int.emod_lt_of_pos v0 (show (0 : Int) < ((wd.map V.str).length : Int) by omega)
    refine ⟨(v0 % ((wd.map V.str).length : Int)).toNat, ?_, rfl, by omega⟩
    rw [show (((v0 % ((wd.map V.str).length : Int)).toNat : Nat) : Int) = v0 % ((wd.map V.str).length : Int) by omega]; rfl
  intro σ8 H8 hM_; refine D1 fun G_ hG_ => ?_; obtain ⟨k, rfl, rfl, hk⟩ := hM_; subst hG_
  -- often
  obtain ⟨r, hr2, er⟩ : ∃ r : Nat, r <= 2 /\ 2 * (fm - 4) = (r : Int) := ⟨(2 * (fm - 4)).toNat, by omega, by omega⟩
  refine ⟨fun σ' H' => ∃ ol : Addr, σ' = [some (.str z), some (.ref pk), some (.ref ml), some u, some (.str (ch c)), some (.int at1), some (.ref mk), some (.int fm), some (.str (ch d)), some (.ref wl), some (.int (k : Int)), some (.ref ol)] /\ Same H7 H' /\ H' ol = some (.lst (((List.replicate r [wd[k]]).flatten).map V.str)), ?_, ?_⟩
  . refine ⟨_, rfl, _, rfl, (k : Int), rfl, _, rfl, _, _, rfl, rfl, (k : Int) + 1, rfl, wl, _, rfl, SqL.of hwl7, fun sl hsl' => ?_⟩
    have ecut : O4 (wd.map V.str) (some (k : Int)) (some ((k : Int) + 1)) = [V.str wd[k]] := by
      rw [show ((k : Int) + 1) = ((k + 1 : Nat) : Int) by omega, a3K _ _ _ (by omega) (by omega), Nat.add_sub_cancel_left, List.drop_eq_getElem_cons (by omega)]
      simp
    rw [ecut]
    have s8 := Same.new hsl' (.lst [V.str wd[k]])
    refine ⟨_, rfl, _, _, rfl, rfl, _, _, rfl, rfl, .inr ⟨by omega, by omega⟩, ?_⟩
    have ern : (2 * (fm - 4)).toNat = r := by omega
    refine ⟨sl, 2 * (fm - 4), [V.str wd[k]], rfl, rfl, c6, by omega, by omega, by rw [sizeLine_eq, ern]; show 1 * r <= _; omega, fun ol hol => ?_⟩
    have s9 := Same.new hol (.lst (List.replicate (2 * (fm - 4)).toNat [V.str wd[k]]).flatten)
    refine ⟨ol, rfl, s8.trans s9, ?_⟩
    rw [c6, ern]
    have : ∀ r : Nat, (List.replicate r [V.str wd[k]]).flatten = ((List.replicate r [wd[k]]).flatten).map V.str := fun r => by
      induction r with
      | zero => rfl
      | succ r ih => rw [List.replicate_succ, List.replicate_succ, List.flatten_cons, List.flatten_cons, List.map_append, ih]; rfl
    rw [this]
  intro σ9 H9 hM_; refine D1 fun G_ hG_ => ?_; obtain ⟨ol, rfl, e9, hol⟩ := hM_; subst hG_
  have bnd := a3Q (ws := wd) (i := k) (c := d) hk hr2 z.length wt
  have lfl : ((List.replicate r [wd[k]]).flatten).length <= 2 := by
    match r, hr2 with
    | 0, _ => simp
    | 1, _ => simp
    | 2, _ => simp
  have hwl9 := e9 _ _ hwl7
  refine ⟨_, rfl, rfl, _, rfl, _, rfl, (k : Int), rfl, wl, _, rfl, SqL.of hwl9, fun b1 hb1 => ?_⟩
  rw [a8O _ _ (by omega), <- List.map_take]
  have s1 := Same.new hb1 (.lst ((wd.take k).map V.str))
  refine ⟨_, rfl, b1, ol, _, _, rfl, rfl, c6, s1 _ _ hol, by rw [List.length_map, List.length_map, List.length_take, sizeLine_eq]; omega, fun b2 hb2 => ?_⟩
  have s2 := Same.new hb2 (.lst ((wd.take k).map V.str ++ ((List.replicate r [wd[k]]).flatten).map V.str))
  refine ⟨_, rfl, _, rfl, _, _, rfl, rfl, (k : Int) + 1, rfl, wl, _, rfl, SqL.of (s2 _ _ (s1 _ _ hwl9)), fun b3 hb3 => ?_⟩
  rw [show ((k : Int) + 1) = ((k + 1 : Nat) : Int) by omega, a2m _ _ (by omega), <- List.map_drop]
  have s3 := Same.new hb3 (.lst ((wd.drop (k + 1)).map V.str))
  refine ⟨b2, b3, _, _, rfl, rfl, s3 _ _ c6, c6, by rw [List.length_append, List.length_map, List.length_map, List.length_map, List.length_take, List.length_drop, sizeLine_eq]; omega, fun b4 hb4 => ?_⟩
  have s4 := Same.new hb4 (.lst (((wd.take k).map V.str ++ ((List.replicate r [wd[k]]).flatten).map V.str) ++ (wd.drop (k + 1)).map V.str))
  have eall : ((wd.take k).map V.str ++ ((List.replicate r [wd[k]]).flatten).map V.str) ++ (wd.drop (k + 1)).map V.str = (wd.take k ++ (List.replicate r [wd[k]]).flatten ++ wd.drop (k + 1)).map V.str := by rw [List.map_append, List.map_append]
  have hb4' := c6 (H := upd (upd (upd H9 b1 (.lst ((wd.take k).map V.str))) b2 (.lst ((wd.take k).map V.str ++ ((List.replicate r [wd[k]]).flatten).map V.str))) b3 (.lst ((wd.drop (k + 1)).map V.str))) (a := b4) (o := .lst (((wd.take k).map V.str ++ ((List.replicate r [wd[k]]).flatten).map V.str) ++ (wd.drop (k + 1)).map V.str))
  have e10 := e07.trans (e9.trans (s1.trans (s2.trans (s3.trans s4))))
  generalize upd (upd (upd (upd H9 b1 (.lst ((wd.take k).map V.str))) b2 (.lst ((wd.take k).map V.str ++ ((List.replicate r [wd[k]]).flatten).map V.str))) b3 (.lst ((wd.drop (k + 1)).map V.str))) b4 (.lst (((wd.take k).map V.str ++ ((List.replicate r [wd[k]]).flatten).map V.str) ++ (wd.drop (k + 1)).map V.str)) = H10 at *
  rw [eall] at hb4'
  have lch : (ch d).length = 1 := rfl
  refine ⟨ch d, b4, wd.take k ++ (List.replicate r [wd[k]]).flatten ++ wd.drop (k + 1), rfl, rfl, SqL.of hb4', (by rw [lch, Nat.mul_one]; exact Nat.le_trans bnd (by omega)), ?_⟩
  rw [Tx.join_eq]
  refine q _ _ e10 (Tx.join_asc hd fun x hx => ?_) ?_
  . rcases List.mem_append.mp hx with hx | hx
    . rcases List.mem_append.mp hx with hx | hx
      . exact awd x (List.mem_of_mem_take hx)
      . obtain ⟨y, hy, hxy⟩ := List.mem_flatten.mp hx
        rw [(List.mem_replicate.mp hy).2] at hxy
        rw [List.mem_singleton.mp hxy]; exact awd _ (List.getElem_mem hk)
    . exact awd x (List.mem_of_mem_drop hx)
  . have := PySem.StrLaws.join_length_le (ch d) (wd.take k ++ (List.replicate r [wd[k]]).flatten ++ wd.drop (k + 1))
    rw [lch, Nat.mul_one] at this
    exact Nat.le_trans this (Nat.le_trans bnd (by omega))
end
end Rim
namespace Rim
open PySem L2 Fr
open Tx (S cs ch w8 Asc C1 v7)
structure Way (k : List (Str × Addr)) (FA : Addr -> Sp -> Prop) (x : Str) (sp : Sp) : Prop where
  w : ∃ g, k.lookup x = some g /\ FA g sp
def a9C (P : Program) (w : World) (K : W.Frag) (mg : Str -> Option Value) (base : Heap) (N : Nat) : Addr -> Sp -> Prop := fun g sp => ∀ n : Nat, Fn1 P w K mg base (n + N) g sp
theorem a8Y {h : h9} (a : Q3 h) : Sm h.1 /\ Sm h.2 := a7I a.2.2.hg (Int.le_refl _) a.1.2 a.2.1.2
section
variable {P : Program} {w : World} {K : W.Frag} {mg : Str -> Option Value} {base : Heap} {f C CL CR : Addr} {fd : FuncData} {n : Nat} {kA kD : List (Str × Addr)} {FA : Addr -> Sp -> Prop} {cE cB cH cR cT cM cL : Addr}
theorem a4x {H : Hp} {p pa : Addr} {lo : List Addr} {hs : List h9} {z : Str} {past : List DS} {Q : VK} {E : XK} (D : DkAt K C H p (hs, z) past pa lo) (hl : past.length <= 1000) (b : IsB hs) (W : Way kA FA "book" (Y7 K)) (q : ∀ H', Same H H' -> Q (.str (D7 hs)) H') :
    a5V K C CL CR kA kD FA [.ref p, .str "book"] H Q E := by
  have er := a5H
  refine ⟨p, pa, _, (hs, z), past, lo, rfl, D, hl, fun c hc => of_decide_eq_true (List.all_eq_true.mp (show (cs (Str.ofString "book")).all (fun c => decide (c < 128)) = true by decide +kernel) c hc), by decide +kernel, fun e => (by rw [er] at e; cases e), fun wd ts e l us ba H1 e1 hlu hth hba hbk => ?_⟩
  rw [er] at e; cases e
  obtain ⟨g, hg, hF⟩ := W.w
  refine ⟨fun g' h' => ?_, fun h' => (by rw [hg] at h'; cases h'), fun h' => (by rw [hg] at h'; cases h')⟩
  rw [hg] at h'; cases h'
  refine ⟨_, hF, ?_⟩
  obtain ⟨xs, hx, hB⟩ := hbk
  exact ⟨ba, _, _, xs, hs, rfl, SqL.of hx, hB, by have := b.1.2; omega, fun h hh => a8Y (b.any h hh), fun H2 e2 => q _ (e1.trans e2)⟩
structure a8w (P : Program) (w : World) (K : W.Frag) (mg : Str -> Option Value) (base : Heap) (n : Nat) (C cT fi : Addr) (di : FuncData) : Prop where
  mak : Mk K C fi
  ok : x8 P w K mg base (T6 P w) n fi di ["self", "text"] (a3A K C cT)
  bd : Binds K di ["self", "text"] []
  m : mg "Desk" = some (.ref C)
abbrev kNT : List V := a6q false false false true false false
def a2n (K : W.Frag) : Sp := fun vs H Q _ => ∃ (z : S) (door : Int), vs = [.str z, .int door] /\ (door = 0 \/ door = 1) /\ Asc z /\ z.length <= 100000 ∧
  (B4 z = none -> ∀ (H' : Hp) (r kl : Addr), Same H H' -> H' r = some (.tup [.non, .ref kl]) -> H' kl = some (.lst kNT) -> Q (.ref r) H') ∧
  (∀ hs, B4 z = some hs -> door = 0 -> ∀ (H' : Hp) (r kl l : Addr) (xs : List V), Same H H' -> H' r = some (.tup [.ref l, .ref kl]) -> H' kl = some (.lst []) -> H' l = some (.lst xs) -> Bk K H' xs hs -> Q (.ref r) H') ∧
  (∀ hs, B4 z = some hs -> door = 1 -> ∀ (H' : Hp) (r kl : Addr), Same H H' -> H' r = some (.tup [.str (D7 hs), .ref kl]) -> H' kl = some (.lst []) -> Q (.ref r) H')
theorem scTold13 : p6 ["text", "door", "found", "kin", "e"] ["text", "door"] (h7 Q1) := ⟨rfl, rfl, rfl, by decide +kernel, rfl, by decide +kernel, by decide +kernel⟩
set_option maxHeartbeats 8000000 in
theorem a4f {f1 f2 fi fc : Addr} {d1 d2 di dc : FuncData} (F : Fun K "_law_told" "_law_told" Q1 f fd) (T : TD K C) (R : a9f K mg cE cB cH cR cT cM cL) (MT : a4L K cT cE cB cH cR cT cM cL false false false true false false) (W : Way kA FA "book" (Y7 K))
    (M : a8w P w K mg base n C cT fi di) (Cb : a7k P w K mg base (n + 1) "read_book" ["text"] (a1v K cT) f1 d1) (Cs : a4B P w K mg base (T6 P w) (n + 1) C "say" ["self", "row"] (a5V K C CL CR kA kD FA) f2 d2) (Ck : b1X P w K mg base (n + 1) "_law_a_kin" ["e"] (a5C K cE cB cH cR cT cM cL) fc dc) :
    x8 P w K mg base K1 (n + 2) f fd ["text", "door"] (a2n K) := by
  refine F.ok scTold13 (fun vs H Q E h => ?_) (fun cdv A outer s H vs Q E hr h => ?_)
  . obtain ⟨z, door, rfl, _⟩ := h
    rfl
  obtain ⟨z, door, rfl, hd, ha, hl, q0, q1, q2⟩ := h
  refine ⟨_, h8 (r9 (i := 2) scTold13.nd rfl (Or.inl rfl) B8)
    (h8 (r9 (i := 3) scTold13.nd rfl (Or.inl rfl) (w4 c7))
    (j9 (a8v (i := 4) R.kE scTold13.nd rfl rfl rfl rfl R.mE
      (fun EX pn WE hx => g0 (u9 (j3 G4 (pv 1) d0 (o3 _)) (g0 (r9 (i := 2) scTold13.nd rfl (Or.inl rfl) (a5y Cb.ok hr rfl Cb.m Cb.k Cb.b hx (c0 (pv 0) c7)))) (g0 (r9 (i := 2) scTold13.nd rfl (Or.inl rfl) (a5X M.mak M.ok hr rfl M.m M.bd hx (c0 (pv 0) c7))))))
      (fun ea => g0 (r9 (i := 3) scTold13.nd rfl (Or.inl rfl) (a5L Ck.ok (hr.u _) rfl Ck.m Ck.k Ck.b (c0 (pv 4) c7)))))
    (j9 (u9 (PW.pt (Q6 (j3 G4 (pv 1) d0 (o3 _)) (M7 (j3 (a5M hr) (pv 3) (w4 c7) (o3 _))))) (g0 (r9 (i := 2) scTold13.nd rfl (Or.inl rfl) (a7v (pv 2) T.cl Cs.me Cs.ok hr Cs.bd .nil a8G (c0 t7 c7)))) r6)
    (g0 (m6 (N6 (c0 (pv 2) (c0 (pv 3) c7)))))))), ?_⟩
  refine ⟨(by show 0 <= sizeLine; decide), fun kl hkl => ?_⟩
  have s1 := Same.new hkl (.lst [])
  have hkl1 : (upd H kl (.lst [])) kl = some (.lst []) := c6
  generalize upd H kl (.lst []) = H1 at *
  refine ⟨fun σ' H' => ∃ fv kl, σ' = [some (.str z), some (.int door), some fv, some (.ref kl), none] /\ Same H H' /\ ((B4 z = none /\ fv = .non /\ H' kl = some (.lst kNT)) \/ ∃ hs, B4 z = some hs /\ H' kl = some (.lst []) /\ ((door = 0 /\ ∃ l xs, fv = .ref l /\ H' l = some (.lst xs) /\ Bk K H' xs hs) \/ (door = 1 /\ ∃ p pa lo, fv = .ref p /\ DkAt K C H' p (hs, "any") [] pa lo))), ?_, ?_⟩
  . refine ⟨fun σ' c _ H' => σ' = [some (.str z), some (.int door), some .non, some (.ref kl), none] /\ c = .ref cT /\ B4 z = none /\ Same H H', ?_, ?_⟩
    . refine ⟨_, rfl, rfl, _, rfl, ?_⟩
      rcases hd with rfl | rfl
      . refine C9 ?_
        refine ⟨_, rfl, z, rfl, ha, hl, fun e H2 e2 => ⟨rfl, rfl, e, s1.trans e2⟩, fun hs e l xs H2 e2 _ hl2 hB => ?_⟩
        exact ⟨.ref l, kl, rfl, s1.trans e2, .inr ⟨hs, e, e2 _ _ hkl1, .inl ⟨rfl, l, xs, rfl, hl2, hB⟩⟩⟩
      . refine D0 ?_
        refine ⟨_, rfl, fun x dx hx hdx nd => ?_⟩
        have sx : ∀ b o, H1 b = some o -> (upd (upd H1 dx (.own x)) x (.ins C dx [])) b = some o := fun b o q0 => by rw [j6 (j7 q0 hx), j6 (j7 q0 hdx)]; exact q0
        refine ⟨x, dx, z, rfl, c6, ha, hl, fun e H2 e2 => ⟨rfl, rfl, e, s1.trans (fun b o h => e2 _ _ (sx b o h))⟩, fun hs e H2 pa lo DK k f1 f2 => ?_⟩
        have e2 : Same H1 H2 := fun b o q0 => k b o (j7 q0 hx) (sx b o q0)
        exact ⟨rfl, .ref x, kl, rfl, s1.trans e2, .inr ⟨hs, e, e2 _ _ hkl1, .inr ⟨rfl, x, pa, lo, rfl, DK⟩⟩⟩
    . rintro σ' H' c ea d' ⟨rfl, hc, hn, e2⟩ hea Da hC
      cases hC
      cases hc
      refine ⟨MT.k, MT.sub, ?_⟩
      refine ⟨_, rfl, ea, _, _, _, _, _, _, _, rfl, c6, MT, fun r2 H3 e3 hr2 => ?_⟩
      exact ⟨.non, r2, rfl, e2.trans ((Same.new hea _).trans e3), .inl ⟨hn, rfl, hr2⟩⟩
  intro σ2 H2 hM_; refine D1 fun G_ hG_ => ?_; obtain ⟨fv, kl2, rfl, e2, hc⟩ := hM_; subst hG_
  refine ⟨fun σ' H' => ∃ fv, σ' = [some (.str z), some (.int door), some fv, some (.ref kl2), none] /\ Same H2 H' /\ ((B4 z = none /\ fv = .non /\ H' kl2 = some (.lst kNT)) \/ ∃ hs, B4 z = some hs /\ H' kl2 = some (.lst []) /\ ((door = 0 /\ ∃ l xs, fv = .ref l /\ H' l = some (.lst xs) /\ Bk K H' xs hs) \/ (door = 1 /\ fv = .str (D7 hs)))), ?_, ?_⟩
  . refine ⟨_, rfl, rfl, _, rfl, ?_⟩
    rcases hd with rfl | rfl
    . refine D0 (D0 ⟨fv, rfl, Same.refl _, ?_⟩)
      rcases hc with h | ⟨hs, h1, h2, h3 | h3⟩
      . exact .inl h
      . exact .inr ⟨hs, h1, h2, .inl h3⟩
      . exact absurd h3.1 (by decide)
    . refine C9 ?_
      refine ⟨_, rfl, (by show 0 <= sizeLine; decide), fun el hel => ?_⟩
      have s3 := Same.new hel (.lst [])
      have hel3 : (upd H2 el (.lst [])) el = some (.lst []) := c6
      generalize upd H2 el (.lst []) = H3 at *
      rcases hc with ⟨h1, h2, h3⟩ | ⟨hs, h1, h2, h3 | ⟨_, p, pa, lo, rfl, DK⟩⟩
      . refine ⟨_, .list [], V7 (s3 _ _ h3), .lst (SqL.of hel3) .nil, rfl, rfl, by decide, _, rfl, ?_⟩
        refine D0 ⟨fv, rfl, s3, .inl ⟨h1, h2, s3 _ _ h3⟩⟩
      . exact absurd h3.1 (by decide)
      . refine ⟨.list [], .list [], .lst (SqL.of (s3 _ _ h2)) .nil, .lst (SqL.of hel3) .nil, rfl, rfl, by decide, _, rfl, ?_⟩
        refine C9 ?_
        have DK3 := DK.same s3
        obtain ⟨dx, ba, pv0, hp, _⟩ := DK3.ex
        refine ⟨_, rfl, p, dx, _, rfl, hp, rfl, ?_⟩
        dsimp only [X7, a1R, tC, List.nil_append, List.cons_append]
        refine a4x DK3 (by decide) (a2q h1) W fun H4 e4 => ?_
        exact ⟨_, rfl, s3.trans e4, .inr ⟨hs, h1, e4 _ _ (s3 _ _ h2), .inr ⟨rfl, rfl⟩⟩⟩
  intro σ3 H3 hM_; refine D1 fun G_ hG_ => ?_; obtain ⟨fv, rfl, e3, hc⟩ := hM_; subst hG_
  refine ⟨_, rfl, _, rfl, (by show 2 <= sizeLine; decide), fun r hr0 => ?_⟩
  have s4 := Same.new hr0 (.tup [fv, V.ref kl2])
  have e04 := e2.trans (e3.trans s4)
  rcases hc with ⟨h1, rfl, h3⟩ | ⟨hs, h1, h2, ⟨h3, l, xs, rfl, h4, h5⟩ | ⟨h3, rfl⟩⟩
  . exact q0 h1 _ r kl2 e04 c6 (s4 _ _ h3)
  . exact q1 hs h1 h3 _ r kl2 l xs e04 c6 (s4 _ _ h2) (s4 _ _ h4) (Bk.same s4 h5)
  . exact q2 hs h1 h3 _ r kl2 e04 c6 (s4 _ _ h2)
end
end Rim
namespace Rim
open PySem L2 Fr
open Tx (S cs ch w8 Asc C1 v7)
section
variable {P : Program} {w : World} {K : W.Frag} {mg : Str -> Option Value} {base : Heap} {f : Addr} {fd : FuncData} {n : Nat}
theorem a5z {K : W.Frag} : W.kitOne K (.type "list") (.type "list") = some true := J5 _
def a5J (K : W.Frag) : Sp := fun vs H Q _ => ∃ (l : Addr) (xs : List V) (hs : List h9), vs = [.ref l] /\ H l = some (.lst xs) /\ Bk K H xs hs /\ hs.length <= 1000 /\ (∀ h ∈ hs, Q3 h) /\ ∀ H', Same H H' -> Q (.bl true) H'
theorem scWr : p6 ["book", "takes", "gives"] ["book"] (h7 D8) := ⟨rfl, rfl, rfl, by decide +kernel, rfl, by decide +kernel, by decide +kernel⟩
theorem b1j : (["one"] : List Str).Nodup := by decide +kernel
set_option maxHeartbeats 8000000 in
theorem a6P {fa : Addr} {da : FuncData} (F : Fun K "_law_wholes_right" "_law_wholes_right" D8 f fd) (T : y6 mg) (Cw : Cal P w K mg base n "_law_whole" ["found"] a3p fa da) : x8 P w K mg base K1 (n + 1) f fd ["book"] (a5J K) := by
  refine F.ok scWr (fun vs H Q E h => ?_) (fun cdv A outer s H vs Q E hr h => ?_)
  . obtain ⟨l, xs, hs, rfl, _⟩ := h
    rfl
  obtain ⟨l, xs, hs, rfl, hl, hB, hk, an, q⟩ := h
  refine ⟨_, j9 (X1 PassesOwn.never rfl (C0 (pv 0)) (G6 rfl (t6 (j5 (i := 1) scWr.nd rfl (Or.inl rfl)) (t6 (j5 (i := 2) scWr.nd rfl (Or.inl rfl)) C4)))
      (h8 (u9 (PW.pt (K0 (G7 (M1 (i7 O6 rfl T.isi PyProof.Rows.boot_isinstance (c0 (pv 1) (c0 (J4 (v := .ty "tuple") rfl T.tuple PyProof.Rows.boot_tuple rfl) c7))))) (G9 (G7 (M1 (i7 O6 rfl T.isi PyProof.Rows.boot_isinstance (c0 (pv 2) (c0 (J4 (v := .ty "tuple") rfl T.tuple PyProof.Rows.boot_tuple rfl) c7)))))))) L9 r6)
      (g0 (u9 (j3 (P7 hr) (a5d ["one"] [] rfl (O7 (j0 a3y (pv 1) (pv 2))) (fun _ _ _ _ => j5 (i := 0) b1j rfl (Or.inl rfl)) (fun _ _ _ _ => G7 (M1 (r8 Cw.ok hr rfl Cw.m Cw.k Cw.b .nil x9 (c0 (pv 0) c7)))) (fun _ _ _ _ => pv 0)) (w4 c7) (o3 _)) L9 r6))))
    (g0 (m6 (i7 J8 rfl T.isi PyProof.Rows.boot_isinstance (c0 (pv 0) (c0 (J4 (v := .ty "list") rfl T.list PyProof.Rows.boot_list rfl) c7))))), ?_⟩
  have xl : xs.length = hs.length := Paired.length hB
  refine ⟨fun σ' H' => ∃ o1 o2, σ' = [some (.ref l), o1, o2] /\ Same H H', ?_, ?_⟩
  . refine ⟨_, rfl, l, rfl, ⟨_, SqL.of hl⟩, ?_⟩
    refine a0o (xs := xs) (fun i σ H' => ∃ o1 o2, σ = [some (.ref l), o1, o2] /\ Same H H') ⟨_, _, rfl, Same.refl _⟩ (fun i σ H' _ ⟨_, _, _, e⟩ => SqL.of (e _ _ hl)) ?_ ?_
    rotate_left
    . rintro σ H2 ⟨o1, o2, rfl, e⟩
      exact ⟨o1, o2, rfl, e⟩
    rintro i x σ H2 hx ⟨o1, o2, rfl, e⟩
    obtain ⟨h, hh, ⟨b, ta, ga, rfl, p1, p2, p3⟩⟩ := Paired.at (Bk.same e hB) hx
    have a := an h (List.mem_of_getElem? hh)
    refine ⟨b, _, rfl, p1, rfl, _, _, rfl, _, _, rfl, rfl, ?_⟩
    refine ⟨_, rfl, ta, _, "tuple", true, rfl, p2, J5 _, _, rfl, D0 ?_⟩
    refine ⟨_, rfl, ga, _, "tuple", true, rfl, p3, J5 _, _, rfl, D0 ?_⟩
    have n1 : h.1.map V.int ≠ [] := fun z => by
      have h1 := a.1.1
      rw [List.map_eq_nil_iff.mp z] at h1
      exact absurd h1 (by decide)
    have n2 : h.2.map V.int ≠ [] := fun z => by
      have h1 := a.2.1.1
      rw [List.map_eq_nil_iff.mp z] at h1
      exact absurd h1 (by decide)
    have l1 := a.1.2
    have l2 := a.2.1.2
    refine ⟨_, rfl, _, rfl, ta, ga, _, _, rfl, rfl, p2, p3, n1, by rw [List.length_map, List.length_map, sizeLine_eq]; omega, fun z => absurd z n2, fun _ t ht => ?_⟩
    have s1 := Same.new ht (.tup (h.1.map V.int ++ h.2.map V.int))
    have ht1 : (upd H2 t (.tup (h.1.map V.int ++ h.2.map V.int))) t = some (.tup (h.1.map V.int ++ h.2.map V.int)) := c6
    generalize upd H2 t (.tup (h.1.map V.int ++ h.2.map V.int)) = H3 at *
    refine ⟨t, rfl, ⟨_, SqT.of ht1⟩, fun p hp => ?_⟩
    refine a1h (J7 (SqT.of ht1)) hp (by rw [List.length_append, List.length_map, List.length_map, sizeLine_eq]; omega) (fun _ => false) (fun j y H4 N hy e4 hN => ?_) ?_
    . rw [<- List.map_append, List.getElem?_map] at hy
      obtain ⟨k, _, rfl⟩ := Option.map_eq_some_iff.mp hy
      exact ⟨_, rfl, k, rfl, _, rfl, hN⟩
    . have s2 := Same.new hp (.lst ((h.1.map V.int ++ h.2.map V.int).filter fun _ => false))
      have hp2 : (upd H3 p (.lst ((h.1.map V.int ++ h.2.map V.int).filter fun _ => false))) p = some (.lst []) := by rw [c6]; simp
      generalize upd H3 p (.lst ((h.1.map V.int ++ h.2.map V.int).filter fun _ => false)) = H4 at *
      refine ⟨(by show 0 <= sizeLine; decide), fun el hel => ?_⟩
      have s3 := Same.new hel (.lst [])
      refine ⟨.list [], .list [], .lst (SqL.of (s3 _ _ hp2)) .nil, .lst (SqL.of c6) .nil, rfl, rfl, by decide, _, rfl, ?_⟩
      rw [Z2]
      exact D0 ⟨_, _, rfl, e.trans (s1.trans (s2.trans s3))⟩
  intro σ2 H2 hM_; refine D1 fun G_ hG_ => ?_; obtain ⟨o1, o2, rfl, e⟩ := hM_; subst hG_
  exact ⟨_, rfl, _, _, "list", true, rfl, .lst (e _ _ hl), a5z, q _ e⟩
end
end Rim
namespace L2
open PySem PySem.Spec PyProof.Rows
section
variable {X : Cx}
theorem a7d {x : Str} {j : Nat} {p : Pos} {r : List Expr} {u : TA} (hr : PA X r u) : PA X (.Constant (.str x) j p :: r) (X7 (tC (.str x)) u) := c0 t7 hr rfl
end
end L2
namespace Rim
open PySem L2 Fr
theorem a3B {X : Cx} : ∀ {es : List Expr} {xs : List Str}, PySem.Paired (fun e x => ∃ j p, e = Expr.Constant (.str x) j p) es xs -> PA X es (xs.foldr (fun x t => X7 (tC (.str x)) t) a1R)
  | _, _, .nil => c7
  | _, _, .cons ⟨j, p, e⟩ r => by
    subst e
    exact a7d (a3B r)
theorem a6G {X : Cx} {e : Expr} {es : List Expr} {xs : List Str} {p : PySem.Pos} (he : e = .List es p) (h : PySem.Paired (fun e x => ∃ j p, e = Expr.Constant (.str x) j p) es xs) : PE X e (a6A (xs.foldr (fun x t => X7 (tC (.str x)) t) a1R)) := by
  rw [he]
  exact w4 (a3B h)
theorem a2d {σ : St} {H : Hp} : ∀ {xs : List Str} {Q : List V -> Hp -> Prop}, Q (xs.map V.str) H -> (xs.foldr (fun x t => X7 (tC (.str x)) t) a1R : TA) σ H Q
  | [], _, h => h
  | x :: xs, _, h => a2d (xs := xs) h
theorem a5E {σ : St} {H : Hp} {xs : List Str} {Q : VK} (hl : xs.length <= sizeLine) (q : ∀ l, H l = none -> Q (.ref l) (upd H l (.lst (xs.map V.str)))) : (a6A (xs.foldr (fun x t => X7 (tC (.str x)) t) a1R)) σ H Q :=
  a2d ⟨by rw [List.length_map]; exact hl, q⟩
@[irreducible] def moreE : Expr := .List [.Constant (.str "1000000000") 0 ⟨489, 12, 489, 24⟩, .Constant (.str "1000000001") 0 ⟨489, 26, 489, 38⟩, .Constant (.str "10000000000") 0 ⟨489, 40, 489, 53⟩, .Constant (.str "0") 0 ⟨489, 55, 489, 58⟩, .Constant (.str ",") 0 ⟨489, 60, 489, 63⟩, .Constant (.str ">") 0 ⟨489, 65, 489, 68⟩, .Constant (.str "00") 0 ⟨489, 70, 489, 74⟩, .Constant (.str "\n1>1") 0 ⟨489, 76, 489, 83⟩, .Constant (.str ",0") 0 ⟨489, 85, 489, 89⟩, .Constant (.str "9999999999") 0 ⟨489, 91, 489, 103⟩] ⟨489, 11, 489, 104⟩
@[irreducible] def MORE : List Str := ["1000000000", "1000000001", "10000000000", "0", ",", ">", "00", "\n1>1", ",0", "9999999999"]
abbrev a4l : TE := a6A (MORE.foldr (fun x t => X7 (tC (.str x)) t) a1R)
theorem a5U {X : Cx} : PE X moreE a4l := by
  unfold a4l MORE
  exact a6G (by unfold moreE; rfl) (.cons ⟨_, _, rfl⟩ (.cons ⟨_, _, rfl⟩ (.cons ⟨_, _, rfl⟩ (.cons ⟨_, _, rfl⟩ (.cons ⟨_, _, rfl⟩ (.cons ⟨_, _, rfl⟩ (.cons ⟨_, _, rfl⟩ (.cons ⟨_, _, rfl⟩ (.cons ⟨_, _, rfl⟩ (.cons ⟨_, _, rfl⟩ (.nil)))))))))))
theorem a7g : 1 <= MORE.length /\ MORE.length <= 100 /\ ∀ x ∈ MORE, Tx.Asc x /\ x.length <= 20 := by
  unfold MORE
  refine ⟨by decide, by decide, fun x hx => ?_⟩
  have : ∀ x ∈ (["1000000000", "1000000001", "10000000000", "0", ",", ">", "00", "\n1>1", ",0", "9999999999"] : List Str), (Tx.cs x).all (fun c => decide (c < 128)) = true /\ x.length <= 20 := by decide +kernel
  obtain ⟨h1, h2⟩ := this x hx
  exact ⟨fun c hc => of_decide_eq_true (List.all_eq_true.mp h1 c hc), h2⟩
abbrev nth (i : Nat) : Stmt := (x6 S2).getD i (.Pass ⟨0, 0, 0, 0⟩)
theorem b1k : nth 3 = .Assign [.Name "more" ⟨489, 4, 489, 8⟩] moreE ⟨489, 4, 489, 104⟩ := by kernel_rfl
theorem a4F : x6 S2 = [nth 0, nth 1, nth 2, nth 3, nth 4, nth 5] := by kernel_rfl
end Rim
namespace Rim
open PySem L2 Fr
open Tx (S cs ch w8 Asc C1 v7)
section
variable {P : Program} {w : World} {K : W.Frag} {mg : Str -> Option Value} {base : Heap} {f : Addr} {fd : FuncData} {n : Nat}
abbrev a9M : List Str := ["script", "book", "text", "more", "cell", "picks", "some", "k", "due", "found", "kin", "one"]
theorem scLaw : p6 a9M ["script"] (h7 S2) := ⟨rfl, rfl, rfl, by decide +kernel, rfl, by decide +kernel, by decide +kernel⟩
theorem a9O : (["house"] : List Str).Nodup := by decide +kernel
structure Calls (P : Program) (w : World) (K : W.Frag) (mg : Str -> Option Value) (base : Heap) (n : Nat) (a1 a2 a3 a4 a5 a6 a7 a8 a9 a10 a11 : Addr) (d1 d2 d3 d4 d5 d6 d7 d8 d9 d10 d11 : FuncData) : Prop where
  ab : Cal P w K mg base n "_law_a_book" ["script", "at", "most", "far"] (a3E K) a1 d1
  ht : N1 P w K mg base n "_law_house_text" ["house"] (V9 K) a2 d2
  bt : N1 P w K mg base n "book_text" ["book"] (a1g K) a3 d3
  dw : Cal P w K mg base n "_law_draws" ["cell", "many", "base"] (Z0 K) a4 d4
  sp : N1 P w K mg base n "_law_spoilt" ["text", "picks", "words_more"] (a1W K) a5 d5
  rd : N1 P w K mg base n "_law_read" ["text"] (a3D K) a6 d6
  tl : Cal P w K mg base n "_law_told" ["text", "door"] (a2n K) a7 d7
  du : Cal P w K mg base n "_law_due_kin" ["name"] a5B a8 d8
  wr : Cal P w K mg base n "_law_wholes_right" ["book"] (a5J K) a9 d9
  lo : Cal P w K mg base n "_law_low" ["top", "bottom"] a7S a10 d10
  ft : N1 P w K mg base n "fraction_text" ["one"] (a3k K) a11 d11
abbrev a1r (P : Program) (w : World) (K : W.Frag) (mg : Str -> Option Value) (base : Heap) (f : Addr) (cdv : Value) (A : Around) (outer : List Env) (s : Shared) (H : Hp) (E : XK) : Cx := (M2 K1 P w K mg base a9M "law" (h7 S2) f cdv A outer s H E).nox
variable {cdv : Value} {A : Around} {outer : List Env} {s : Shared} {H : Hp} {E : XK} {a1 a2 a3 a4 a5 a6 a7 a8 a9 a10 a11 : Addr} {d1 d2 d3 d4 d5 d6 d7 d8 d9 d10 d11 : FuncData}
abbrev LR (P : Program) (w : World) (K : W.Frag) (mg : Str -> Option Value) (base : Heap) (n : Nat) (f : Addr) (cdv : Value) (A : Around) (s : Shared) : Prop := Room n (A.deeper (PyProof.Rows.envOfC "law" (h7 S2) s.heap.objs.size f cdv))
theorem sw3 : swapsWith moreE (some (.Name "more" ⟨489, 4, 489, 8⟩)) 489 (a1r P w K mg base f cdv A outer s H E).env = pure false := by
  unfold moreE
  rfl
theorem t3 : PS (a1r P w K mg base f cdv A outer s H E) (.Assign [.Name "more" ⟨489, 4, 489, 8⟩] moreE ⟨489, 4, 489, 104⟩) (a0A a4l (S8 3)) := by
  exact r9 (i := 3) scLaw.nd rfl (Or.inl rfl) a5U sw3
set_option maxHeartbeats 4000000 in
noncomputable def t0 (T : y6 mg) (zs : mg "str" = none) (Cs : Calls P w K mg base n a1 a2 a3 a4 a5 a6 a7 a8 a9 a10 a11 d1 d2 d3 d4 d5 d6 d7 d8 d9 d10 d11) (hr : LR P w K mg base n f cdv A s) : { t : TS // PS (a1r P w K mg base f cdv A outer s H E) (nth 0) t } :=
  ⟨_, r9 (i := 1) scLaw.nd rfl (Or.inl rfl) (r8 Cs.ab.ok hr rfl Cs.ab.m Cs.ab.k Cs.ab.b .nil x9 (c0 (pv 0) (c0 d0 (c0 d0 (c0 (j0 T9 d0 d0) c7)))))⟩
set_option maxHeartbeats 4000000 in
noncomputable def t1 (T : y6 mg) (zs : mg "str" = none) (Cs : Calls P w K mg base n a1 a2 a3 a4 a5 a6 a7 a8 a9 a10 a11 d1 d2 d3 d4 d5 d6 d7 d8 d9 d10 d11) (hr : LR P w K mg base n f cdv A s) : { t : TS // PS (a1r P w K mg base f cdv A outer s H E) (nth 1) t } :=
  ⟨_, r9 (i := 2) scLaw.nd rfl (Or.inl rfl) (E5 PySem.F.plainAttrs_str PySem.F.slot_str_join PySem.F.type_str_join P0 t7 (c0 (N9 ["house"] [] rfl (C0 (pv 1)) (fun _ _ _ _ => j5 (i := 0) a9O rfl (Or.inl rfl)) (fun _ _ _ _ => r8 Cs.ht.ok hr rfl Cs.ht.m Cs.ht.k Cs.ht.b .nil x9 (c0 (pv 0) c7))) c7))⟩
set_option maxHeartbeats 4000000 in
noncomputable def t2 (T : y6 mg) (zs : mg "str" = none) (Cs : Calls P w K mg base n a1 a2 a3 a4 a5 a6 a7 a8 a9 a10 a11 d1 d2 d3 d4 d5 d6 d7 d8 d9 d10 d11) (hr : LR P w K mg base n f cdv A s) : { t : TS // PS (a1r P w K mg base f cdv A outer s H E) (nth 2) t } :=
  ⟨_, u9 (j3 S9 (r8 Cs.bt.ok hr rfl Cs.bt.m Cs.bt.k Cs.bt.b .nil x9 (c0 (t8 a1C rfl T.list PyProof.Rows.boot_list (c0 (pv 1) c7)) c7)) (pv 2) (o3 _)) L9 r6⟩
set_option maxHeartbeats 8000000 in
noncomputable def t4 (T : y6 mg) (zs : mg "str" = none) (Cs : Calls P w K mg base n a1 a2 a3 a4 a5 a6 a7 a8 a9 a10 a11 d1 d2 d3 d4 d5 d6 d7 d8 d9 d10 d11) (hr : LR P w K mg base n f cdv A s) : { t : TS // PS (a1r P w K mg base f cdv A outer s H E) (nth 4) t } :=
  ⟨_, X1 PassesOwn.never rfl (C0 (j0 U0 (w4 (c0 d0 c7)) (A5 M6 (pv 0) (A4 d0) (A4 d0)))) (j5 (i := 4) scLaw.nd rfl (Or.inl rfl))
    (j9 (r9 (i := 5) scLaw.nd rfl (Or.inl rfl) (r8 Cs.dw.ok hr rfl Cs.dw.m Cs.dw.k Cs.dw.b .nil x9 (c0 (pv 4) (c0 d0 (c0 (j0 T9 d0 d0) c7)))))
    (h8 (r9 (i := 6) scLaw.nd rfl (Or.inl rfl) (pv 2))
    (j9 (X1 PassesOwn.never rfl (R3 rfl T.range (c0 (j0 K4 (p7 j4 (w4 (c0 d0 (c0 d0 (c0 d0 (c0 d0 c7))))) (j0 t9 (p7 j4 (pv 5) d0 (fun _ _ => rfl)) d0) (fun _ _ => rfl)) (t8 N8 rfl T.int PyProof.Rows.boot_int (c0 (M4 S9 (pv 4) d0 (o3 _)) c7))) c7)) (j5 (i := 7) scLaw.nd rfl (Or.inl rfl))
      (g0 (r9 (i := 6) scLaw.nd rfl (Or.inl rfl) (r8 Cs.sp.ok hr rfl Cs.sp.m Cs.sp.k Cs.sp.b .nil x9 (c0 (pv 6) (c0 (A5 M6 (pv 5) (A4 (j0 K4 d0 (pv 7))) (A4 (j0 A8 (j0 K4 d0 (pv 7)) d0))) (c0 (pv 3) c7)))))))
    (j9 (r9 (i := 8) scLaw.nd rfl (Or.inl rfl) (r8 Cs.rd.ok hr rfl Cs.rd.m Cs.rd.k Cs.rd.b .nil x9 (c0 (pv 6) c7)))
    (j9 (E4 (r8 Cs.tl.ok hr rfl Cs.tl.m Cs.tl.k Cs.tl.b .nil x9 (c0 (pv 6) (c0 d0 c7))) (G6 rfl (t6 (j5 (i := 9) scLaw.nd rfl (Or.inl rfl)) (t6 (j5 (i := 10) scLaw.nd rfl (Or.inl rfl)) C4))))
    (j9 (u9 (j3 a8f (pv 8) B8 (o3 _))
      (g0 (u9 (j3 (P7 hr) (w4 (c0 (pv 10) (c0 (p7 a0i (r8 Cs.tl.ok hr rfl Cs.tl.m Cs.tl.k Cs.tl.b .nil x9 (c0 (pv 6) (c0 d0 c7))) d0 (fun _ _ => rfl)) c7))) (j0 a2x (w4 (c0 (r8 Cs.du.ok hr rfl Cs.du.m Cs.du.k Cs.du.b .nil x9 (c0 t7 c7)) c7)) d0) (o3 _)) L9 r6))
      (g0 (u9 (PW.pt (K0 (j3 (P7 hr) (pv 10) (w4 c7) (o3 _)) (K0 (j3 (P7 hr) (pv 9) (pv 8) (o3 _)) (G9 (G7 (a2l (r8 Cs.wr.ok hr rfl Cs.wr.m Cs.wr.k Cs.wr.b .nil x9 (c0 (pv 9) c7)) (fun _ => rfl))))))) L9
        (g0 (u9 (j3 (P7 hr) (r8 Cs.tl.ok hr rfl Cs.tl.m Cs.tl.k Cs.tl.b .nil x9 (c0 (pv 6) (c0 d0 c7))) (N6 (c0 (pv 6) (c0 (w4 c7) c7))) (o3 _)) L9 r6)))))
    (j9 (r9 (i := 11) scLaw.nd rfl (Or.inl rfl) (r8 Cs.lo.ok hr rfl Cs.lo.m Cs.lo.k Cs.lo.b .nil x9 (c0 (j0 a1w (p7 j4 (pv 5) d0 (fun _ _ => rfl)) d0) (c0 (p7 j4 (w4 (c0 d0 (c0 d0 (c0 (j0 T9 d0 d0) c7)))) (j0 t9 (j0 J3 (p7 j4 (pv 5) d0 (fun _ _ => rfl)) d0) d0) (fun _ _ => rfl)) c7))))
    (j9 (r9 (i := 8) scLaw.nd rfl (Or.inl rfl) (p7 j4 (w4 (c0 (j0 C3 (j0 C3 (t8 D3 rfl zs PyProof.Rows.boot_str (c0 (p7 a0i (pv 11) d0 (fun _ _ => rfl)) c7)) t7) (t8 D3 rfl zs PyProof.Rows.boot_str (c0 (p7 a0i (pv 11) d0 (fun _ _ => rfl)) c7))) (c0 (t8 D3 rfl zs PyProof.Rows.boot_str (c0 (p7 a0i (pv 11) d0 (fun _ _ => rfl)) c7)) c7))) (t8 N8 rfl T.int PyProof.Rows.boot_int (c0 (M4 G4 (p7 a0i (pv 11) d0 (fun _ _ => rfl)) d0 (o3 _)) c7)) (fun _ _ => rfl)))
    (g0 (u9 (j3 S9 (r8 Cs.ft.ok hr rfl Cs.ft.m Cs.ft.k Cs.ft.b .nil x9 (c0 (pv 11) c7)) (pv 8) (o3 _)) L9 r6))))))))))⟩
set_option maxHeartbeats 4000000 in
noncomputable def t5 (T : y6 mg) (zs : mg "str" = none) (Cs : Calls P w K mg base n a1 a2 a3 a4 a5 a6 a7 a8 a9 a10 a11 d1 d2 d3 d4 d5 d6 d7 d8 d9 d10 d11) (hr : LR P w K mg base n f cdv A s) : { t : TS // PS (a1r P w K mg base f cdv A outer s H E) (nth 5) t } :=
  ⟨_, m6 a0a⟩
theorem b1v {X : Cx} {b0 b1 b2 b3 b4 b5 : Stmt} {l : List Stmt} {u0 u1 u2 u3 u4 u5 : TS} (e : l = [b0, b1, b2, b3, b4, b5]) (h0 : PS X b0 u0) (h1 : PS X b1 u1) (h2 : PS X b2 u2) (h3 : PS X b3 u3) (h4 : PS X b4 u4) (h5 : PS X b5 u5) : PSs X l (a7B u0 (W8 u1 (W8 u2 (W8 u3 (W8 u4 u5))))) := by
  subst e
  exact h8 h0 (j9 h1 (j9 h2 (j9 h3 (j9 h4 (g0 h5)))))
@[irreducible] def lawB : List Stmt := x6 S2
theorem a3z : lawB = x6 S2 := by unfold lawB; rfl
theorem a6Y : lawB = [nth 0, nth 1, nth 2, .Assign [.Name "more" ⟨489, 4, 489, 8⟩] moreE ⟨489, 4, 489, 104⟩, nth 4, nth 5] := by
  rw [a3z, <- b1k]
  exact a4F
set_option maxHeartbeats 400000 in
theorem a6J (T : y6 mg) (zs : mg "str" = none) (Cs : Calls P w K mg base n a1 a2 a3 a4 a5 a6 a7 a8 a9 a10 a11 d1 d2 d3 d4 d5 d6 d7 d8 d9 d10 d11) (hr : LR P w K mg base n f cdv A s) : PSs (a1r P w K mg base f cdv A outer s H E) lawB
    (a7B (t0 (outer := outer) (H := H) (E := E) T zs Cs hr).1 (W8 (t1 (outer := outer) (H := H) (E := E) T zs Cs hr).1 (W8 (t2 (outer := outer) (H := H) (E := E) T zs Cs hr).1 (W8 (a0A a4l (S8 3)) (W8 (t4 (outer := outer) (H := H) (E := E) T zs Cs hr).1 (t5 (outer := outer) (H := H) (E := E) T zs Cs hr).1))))) :=
  b1v a6Y (t0 (outer := outer) (H := H) (E := E) T zs Cs hr).2 (t1 (outer := outer) (H := H) (E := E) T zs Cs hr).2 (t2 (outer := outer) (H := H) (E := E) T zs Cs hr).2 t3 (t4 (outer := outer) (H := H) (E := E) T zs Cs hr).2 (t5 (outer := outer) (H := H) (E := E) T zs Cs hr).2
noncomputable def b2c (T : y6 mg) (zs : mg "str" = none) (Cs : Calls P w K mg base n a1 a2 a3 a4 a5 a6 a7 a8 a9 a10 a11 d1 d2 d3 d4 d5 d6 d7 d8 d9 d10 d11) (hr : LR P w K mg base n f cdv A s) : { t : TS // PSs (a1r P w K mg base f cdv A outer s H E) (x6 S2) t } :=
  ⟨a7B (t0 (outer := outer) (H := H) (E := E) T zs Cs hr).1 (W8 (t1 (outer := outer) (H := H) (E := E) T zs Cs hr).1 (W8 (t2 (outer := outer) (H := H) (E := E) T zs Cs hr).1 (W8 (a0A a4l (S8 3)) (W8 (t4 (outer := outer) (H := H) (E := E) T zs Cs hr).1 (t5 (outer := outer) (H := H) (E := E) T zs Cs hr).1)))), by
    have h := a6J (s := s) (E := E) (H := H) (outer := outer) T zs Cs hr
    rw [a3z] at h
    assumption⟩
end
end Rim
namespace Rim
open PySem L2 Fr
open Tx (S cs ch w8 Asc C1 v7)
def a3f (K : W.Frag) : Sp := fun vs H Q _ => ∃ (a : Addr) (ns : List Int), vs = [.ref a] /\ SqL K H a (ns.map V.int) /\ ns.length <= 63 /\ ∀ H', Q (.bl true) H'
theorem a0T {ns : List Int} (h : Sm ns) (h4 : ns.length <= 4) : (B9 ns).length <= 44 := by
  have h1 := Nat.le_trans (PySem.StrLaws.join_length_le (ch 44) (ns.map w8)) (Nat.add_le_add_right (L6 (M0 h)) _)
  rw [List.length_map] at h1
  have h3 : (ch 44).length = 1 := rfl
  rw [h3] at h1
  show (Str.join (ch 44) (ns.map w8)).length <= 44
  omega
theorem a2G {h : h9} (m1 : Sm h.1) (m2 : Sm h.2) (h1 : h.1.length <= 4) (h2 : h.2.length <= 4) : (A7 h).length <= 89 := by
  have a1 := a0T m1 h1
  have a2 := a0T m2 h2
  unfold A7
  rw [B7, B7, B7]
  have h3 : (ch 62).length = 1 := rfl
  have h4 : (Str.empty : S).length = 0 := rfl
  omega
theorem a5j {hs : List h9} (h : ∀ g ∈ hs, (A7 g).length <= 89) (l : hs.length <= 16) : (D7 hs).length <= 1440 := by
  have h1 := PySem.StrLaws.join_length_le (ch 10) (hs.map A7)
  have h2 := L6 (B := 89) (l := hs.map A7) fun x hx => by
    obtain ⟨g, hg, rfl⟩ := List.mem_map.mp hx
    exact h g hg
  rw [List.length_map] at h1 h2
  have h3 : (ch 10).length = 1 := rfl
  rw [h3] at h1
  exact Nat.le_trans (Nat.le_trans h1 (Nat.add_le_add_right h2 _)) (by omega)
theorem a3N {h : h9} (p : Pos h) : Asc (A7 h) := fun d hd => by have := a5K p hd; omega
theorem a6r {xs : List V} {lo hi : Option Int} {v : V} (h : v ∈ O4 xs lo hi) : v ∈ xs := List.mem_of_mem_drop (List.mem_of_mem_take h)
theorem b1o {i : Int} (h0 : 0 <= i) (h4 : i < 4) : ∃ y : Nat, y <= 2 /\ S6 [V.int 1, V.int 1, V.int 2, V.int 0] i = some (.int (y : Int)) := by
  have : i = 0 \/ i = 1 \/ i = 2 \/ i = 3 := by omega
  rcases this with rfl | rfl | rfl | rfl
  . exact ⟨1, by decide, rfl⟩
  . exact ⟨1, by decide, rfl⟩
  . exact ⟨2, by decide, rfl⟩
  . exact ⟨0, by decide, rfl⟩
theorem b1w {i : Int} (h0 : 0 <= i) (h3 : i < 3) : ∃ b : Int, 0 < b /\ b <= 10 ^ 40 /\ S6 [V.int 1, V.int 7, V.int (10 ^ (40 : Int).toNat)] i = some (.int b) := by
  have : i = 0 \/ i = 1 \/ i = 2 := by omega
  rcases this with rfl | rfl | rfl
  . exact ⟨1, by decide, by decide, rfl⟩
  . exact ⟨7, by decide, by decide, rfl⟩
  . exact ⟨10 ^ 40, by decide, by decide, rfl⟩
theorem a1J : ∀ {i : Int} {k : Nat}, 0 < k -> i.natAbs < 10 ^ k -> (w8 i).length <= k + 1
  | .ofNat m, k, hk, h => by
    rw [Tx.len_cs, show w8 (Int.ofNat m) = w8 (m : Int) from rfl, Tx.num_nat, List.length_map]
    exact Nat.le_succ_of_le ((Nat.length_toDigits_le_iff (by decide) hk).mpr h)
  | .negSucc m, k, hk, h => by
    rw [Tx.len_cs, show cs (w8 (Int.negSucc m)) = 45 :: cs (w8 ((m + 1 : Nat) : Int)) from rfl, List.length_cons, Tx.num_nat, List.length_map]
    exact Nat.succ_le_succ ((Nat.length_toDigits_le_iff (by decide) hk).mpr h)
theorem a3m {i : Int} {n : Nat} (h : Big n i) (hn : n <= 1900) : i.natAbs.log2 < 1920 := by
  by_cases z : i.natAbs = 0
  . rw [z]; decide
  . have := (Nat.log2_lt z).mpr h
    omega
theorem a5s {t b : Int} (hb : 0 < b) : 0 < (low t b).2 := by
  have h := (X6 (t := t) hb).2
  rcases Int.lt_trichotomy (low t b).2 0 with c | c | c
  . exfalso
    have h0 : 0 <= gI t b := Int.natCast_nonneg _
    have h1 : (low t b).2 * gI t b <= 0 := Int.mul_nonpos_of_nonpos_of_nonneg (Int.le_of_lt c) h0
    rw [Int.mul_comm] at h1
    omega
  . exfalso
    rw [c, Int.mul_zero] at h
    omega
  . exact c
theorem a8u : a9U "NoText" = kNT := by decide
theorem a7t (q : Q2) : a1L q = if q.2 = 1 then w8 q.1 else (w8 q.1 ++ (Str.ofString "/")) ++ w8 q.2 := by
  unfold a1L
  split
  . rfl
  . refine Tx.ext ?_
    rw [Tx.cs_app, Tx.cs_app, Tx.cs_app, Tx.cs_app, Tx.cs_app, List.append_assoc]
    show _ ++ ([47] ++ (cs (w8 q.2) ++ [])) = _ ++ ([47] ++ _)
    rw [List.append_nil]
def tdD (an : S) : PyData := .tuple [.str an, .list []]
theorem a2Q {an : S} (h : Asc an) : (tdD an).canLay0 = true := by
  unfold tdD
  rw [PyData.canLay0, PyData.canLayAll0, PyData.canLayAll0, PyData.canLayAll0, a3o h]
  rfl
theorem a7Y (an : S) : (tdD an).depth <= 60 := by
  unfold tdD
  simp [PyData.depth, PyData.depthAll]
theorem a7N {K : W.Frag} {H : Hp} {r kl : Addr} {an : S} (h1 : H r = some (.tup [.str an, .ref kl])) (h2 : H kl = some (.lst [])) : Dp K H (.ref r) (tdD an) :=
  .tup (SqT.of h1) (.cons (.str an) (.cons (.lst (SqL.of h2) .nil) .nil))
abbrev dNT : PyData := a7V false false false true false false
section
variable {P : Program} {w : World} {K : W.Frag} {mg : Str -> Option Value} {base : Heap} {f : Addr} {fd : FuncData} {n : Nat}
set_option maxHeartbeats 8000000 in
theorem a8H {a1 a2 a3 a4 a5 a6 a7 a8 a9 a10 a11 : Addr} {d1 d2 d3 d4 d5 d6 d7 d8 d9 d10 d11 : FuncData} (F : Fun K "law" "law" S2 f fd) (T : y6 mg) (zs : mg "str" = none) (Cs : Calls P w K mg base n a1 a2 a3 a4 a5 a6 a7 a8 a9 a10 a11 d1 d2 d3 d4 d5 d6 d7 d8 d9 d10 d11) :
    x8 P w K mg base K1 (n + 1) f fd ["script"] (a3f K) := by
  refine F.ok scLaw (fun vs H Q E h => ?_) (fun cdv A outer s H vs Q E hr h => ?_)
  . obtain ⟨a, ns, rfl, _⟩ := h
    rfl
  obtain ⟨a, ns, rfl, hS, h63, q⟩ := h
  refine ⟨_, (b2c T zs Cs hr).2, ?_⟩
  refine ⟨_, rfl, _, _, rfl, rfl, ⟨by decide, by decide, by decide⟩, a, ns, 0, 16, _, rfl, hS, by decide, by decide, by decide, by decide, fun bl H1 xs hs kt kg e1 hbl hB hn1 hn16 kt1 kt4 kg1 kg4 hG => ?_⟩
  have xlen : xs.length = hs.length := Paired.length hB
  have l16 : hs.length <= 16 := by omega
  have hG' : ∀ h ∈ hs, HG (10 ^ 9) kt kg h := hG
  have sm : ∀ h ∈ hs, Sm h.1 /\ Sm h.2 := fun h hh => a7I (hG' h hh) (Int.le_refl _) kt4 kg4
  have lt : (D7 hs).length <= 1440 := a5j (fun h hh => a2G (sm h hh).1 (sm h hh).2 (by rw [(hG' h hh).lt]; exact kt4) (by rw [(hG' h hh).lg]; exact kg4)) l16
  have at0 : Asc (D7 hs) := Tx.join_asc (by decide) fun x hx => by
    obtain ⟨g, hg, rfl⟩ := List.mem_map.mp hx
    exact a3N ⟨fun n hn => by have := ((sm g hg).1.2 n hn).1; exact this, fun n hn => ((sm g hg).2.2 n hn).1⟩
  -- text
  refine ⟨fun σ' H' => σ' = [some (.ref a), some (.ref bl), some (.str (D7 hs)), none, none, none, none, none, none, none, none, none] /\ Same H1 H', ?_, ?_⟩
  . refine ⟨rfl, _, rfl, bl, rfl, ⟨_, SqL.of hbl⟩, fun p hp => ?_⟩
    refine E9 (B2 (SqL.of hbl)) hp (v4 (by omega)) (fun i y _ => ∃ h, hs[i]? = some h /\ y = .str (A7 h)) (fun _ _ _ _ r _ => r) (fun i y H2 zs N hy e hp' hN => ?_) (fun zs H2 e hp' len pr => ?_)
    . obtain ⟨h, hh, r⟩ := Paired.at hB hy
      obtain ⟨m1, m2⟩ := sm h (List.mem_of_getElem? hh)
      exact ⟨Wk.set (by decide), _, rfl, y, h, rfl, r.same e, m1, m2, fun H3 e3 => hN _ _ e3 ⟨h, hh, rfl⟩⟩
    . have ez : zs = (hs.map A7).map V.str := by
        refine List.ext_getElem? fun i => ?_
        by_cases hi : i < zs.length
        . obtain ⟨h, hh, e1⟩ := pr i _ (List.getElem?_eq_getElem hi)
          rw [List.getElem?_eq_getElem hi, e1, List.getElem?_map, List.getElem?_map, hh]; rfl
        . rw [List.getElem?_eq_none (by omega), List.getElem?_eq_none (by rw [List.length_map, List.length_map]; omega)]
      rw [ez] at hp'
      refine ⟨_, p, hs.map A7, rfl, rfl, SqL.of hp', ?_, ?_⟩
      . have h1 := L6 (B := 2300) (l := hs.map A7) fun x hx => by
          obtain ⟨h, hh, rfl⟩ := List.mem_map.mp hx
          exact a0f (sm h hh).1 (sm h hh).2
        refine Nat.le_trans (Nat.add_le_add_right h1 _) ?_
        rw [List.length_map]
        show hs.length * 2300 + hs.length * 1 <= _
        omega
      . rw [Tx.join_eq]
        exact ⟨rfl, e⟩
  rintro _ H2 ⟨rfl, e2⟩
  -- book_text
  refine ⟨fun σ' H' => σ' = [some (.ref a), some (.ref bl), some (.str (D7 hs)), none, none, none, none, none, none, none, none, none] /\ Same H1 H', ?_, ?_⟩
  . refine ⟨_, rfl, bl, _, rfl, .inl (SqL.of (e2 _ _ hbl)), fun l hl => ?_⟩
    have s1 := Same.new hl (.lst xs)
    refine ⟨l, xs, hs, rfl, SqL.of c6, Bk.same (e2.trans s1) hB, by omega, sm, fun H3 e3 => ⟨_, rfl, rfl, _, rfl, ?_⟩⟩
    refine A2 (fun c => absurd c (by simp)) (fun _ => ⟨rfl, e2.trans (s1.trans e3)⟩)
  rintro _ H3 ⟨rfl, e3⟩
  -- more
  obtain ⟨mo1, mo2, mo3⟩ := a7g
  refine ⟨fun σ' H' => ∃ ml, σ' = [some (.ref a), some (.ref bl), some (.str (D7 hs)), some (.ref ml), none, none, none, none, none, none, none, none] /\ Same H1 H' /\ H' ml = some (.lst (MORE.map V.str)), ?_, ?_⟩
  . unfold a0A a4l
    refine a5E (xs := MORE) (by rw [sizeLine_eq]; omega) fun ml hml => ?_
    exact ⟨ml, rfl, e3.trans (Same.new hml _), c6⟩
  intro σ4 H4 hM_; refine D1 fun G_ hG_ => ?_; obtain ⟨ml, rfl, e4, hml⟩ := hM_; subst hG_
  have hS4 := e4.seq (e1.seq hS)
  -- the cells
  refine ⟨fun σ' H' => True, ?_, fun σ' H' _ => q _⟩
  refine ⟨(by show 1 <= sizeLine; decide), fun l0 hl0 => ?_⟩
  have f0 := Same.new hl0 (.lst [V.int 0])
  refine ⟨_, rfl, _, rfl, _, rfl, a, _, rfl, f0.seq hS4, fun l1 hl1 => ?_⟩
  have lc := X8 (ns.map V.int) (some 2) (some 18)
  rw [List.length_map] at lc
  have mc : ∀ v ∈ O4 (ns.map V.int) (some 2) (some 18), ∃ c, v = .int c := fun v hv => by
    obtain ⟨c, _, rfl⟩ := List.mem_map.mp (a6r hv)
    exact ⟨c, rfl⟩
  generalize O4 (ns.map V.int) (some 2) (some 18) = cs0 at *
  have f1 := Same.new hl1 (.lst cs0)
  refine ⟨l0, l1, _, _, rfl, rfl, f1 _ _ c6, c6, by rw [sizeLine_eq]; show 1 + cs0.length <= _; omega, fun l2 hl2 => ?_⟩
  have f2 := Same.new hl2 (.lst ([V.int 0] ++ cs0))
  have itn : ∀ (i : Nat) (x : V), ([V.int 0] ++ cs0)[i]? = some x -> ∃ c, x = .int c := fun i x hx => by
    rcases List.mem_append.mp (List.mem_of_getElem? hx) with z | z
    . exact ⟨0, List.mem_singleton.mp z⟩
    . exact mc x z
  have e5 := f0.trans (f1.trans f2)
  have hl2' := c6 (H := upd (upd H4 l0 (.lst [V.int 0])) l1 (.lst cs0)) (a := l2) (o := .lst ([V.int 0] ++ cs0))
  generalize upd (upd (upd H4 l0 (.lst [V.int 0])) l1 (.lst cs0)) l2 (.lst ([V.int 0] ++ cs0)) = H5 at *
  generalize [V.int 0] ++ cs0 = cl at *
  have hml5 := e5 _ _ hml
  refine ⟨l2, rfl, ⟨_, SqL.of hl2'⟩, ?_⟩
  refine a0o (xs := cl) (fun i σ H' => ∃ o4 o5 o6 o7 o8 o9 o10 o11, σ = [some (.ref a), some (.ref bl), some (.str (D7 hs)), some (.ref ml), o4, o5, o6, o7, o8, o9, o10, o11] /\ Same H5 H')
    ⟨_, _, _, _, _, _, _, _, rfl, Same.refl _⟩ (fun i σ H' _ ⟨_, _, _, _, _, _, _, _, _, e⟩ => SqL.of (e _ _ hl2')) ?_ (fun _ _ _ => trivial)
  rintro i x σ H6 hx ⟨o4, o5, o6, o7, o8, o9, o10, o11, rfl, e6⟩
  obtain ⟨cell, rfl⟩ := itn i x hx
  -- picks
  refine ⟨fun σ' H' => ∃ (pk : Addr) (ds : List Int), σ' = [some (.ref a), some (.ref bl), some (.str (D7 hs)), some (.ref ml), some (.int cell), some (.ref pk), o6, o7, o8, o9, o10, o11] /\ Same H5 H' /\ H' pk = some (.lst (ds.map V.int)) /\ ds.length = 10 /\ ∀ d ∈ ds, 0 <= d /\ d < 1000000, ?_, ?_⟩
  . refine ⟨_, rfl, _, _, rfl, rfl, ⟨by decide, by decide, by decide⟩, _, 10, 1000000, rfl, by decide, by decide, by decide, fun pk H7 ds e7 hpk ld bd => ?_⟩
    exact ⟨pk, ds, rfl, e6.trans e7, hpk, ld, bd⟩
  intro σ7 H7 hM_; refine D1 fun G_ hG_ => ?_; obtain ⟨pk, ds, rfl, e7, hpk, ld, bd⟩ := hM_; subst hG_
  obtain ⟨v8, m8, i8⟩ : ∃ v, v ∈ ds /\ S6 (ds.map V.int) ((8 : Nat) : Int) = some (.int v) := D2 (by omega) (by omega)
  obtain ⟨v9, m9, i9⟩ : ∃ v, v ∈ ds /\ S6 (ds.map V.int) ((9 : Nat) : Int) = some (.int v) := D2 (by omega) (by omega)
  have b8 := bd v8 m8
  have b9 := bd v9 m9
  -- spoilt
  refine ⟨_, rfl, ?_⟩
  refine ⟨fun σ' H' => ∃ z o7, σ' = [some (.ref a), some (.ref bl), some (.str (D7 hs)), some (.ref ml), some (.int cell), some (.ref pk), some (.str z), o7, o8, o9, o10, o11] /\ Same H7 H' /\ Asc z /\ z.length <= 20000, ?_, ?_⟩
  . refine ⟨(by show 4 <= sizeLine; decide), fun ol hol => ?_⟩
    have s1 := Same.new hol (.lst [V.int 1, V.int 1, V.int 2, V.int 0])
    obtain ⟨y, hy, ey⟩ := b1o (i := v8 % 4) (by omega) (by omega)
    refine ⟨_, rfl, pk, _, _, _, rfl, rfl, SqL.of (s1 _ _ hpk), i8, _, _, rfl, rfl, (by show (0 : Int) < 4; decide), ol, _, _, _, rfl, rfl, SqL.of c6, ey, _, rfl, rfl, .inr ⟨_, rfl, ?_⟩⟩
    obtain ⟨m, hm, em⟩ : ∃ m : Nat, m <= 2 /\ (y : Int) * (if (!decide (V.int cell = V.int 0)) = true then 1 else 0) = (m : Int) := by
      by_cases c : (!decide (V.int cell = V.int 0)) = true
      . rw [if_pos c]; exact ⟨y, hy, by omega⟩
      . rw [if_neg c]; exact ⟨0, by omega, by omega⟩
    refine ⟨_, _, rfl, rfl, .inl ⟨by omega, by omega⟩, ?_⟩
    refine ⟨(y : Int) * (if (!decide (V.int cell = V.int 0)) = true then 1 else 0), rfl, by rw [em]; omega, by rw [em]; omega, ?_⟩
    rw [em, Int.toNat_natCast]
    refine X5 (n := m) (fun k σ H' => ∃ z o7, σ = [some (.ref a), some (.ref bl), some (.str (D7 hs)), some (.ref ml), some (.int cell), some (.ref pk), some (.str z), o7, o8, o9, o10, o11] /\ Same H7 H' /\ Asc z /\ z.length <= 3 ^ k * 1500)
      ⟨_, _, rfl, s1, at0, by omega⟩ ?_ ?_
    rotate_left
    . rintro σ H8 ⟨z, o7, rfl, e8, az, lz⟩
      refine ⟨z, o7, rfl, e8, az, ?_⟩
      match m, hm with
      | 0, _ => omega
      | 1, _ => omega
      | 2, _ => omega
    rintro k σ H8 hk ⟨z, o7, rfl, e8, az, lz⟩
    rw [Int.zero_add]
    have k2 : k < 2 := by omega
    have lz2 : z.length <= 4500 := by
      match k, k2 with
      | 0, _ => omega
      | 1, _ => omega
    refine ⟨_, rfl, _, rfl, _, rfl, _, _, rfl, rfl, .inl ⟨by omega, by omega⟩, 4 * (k : Int), rfl, _, rfl, _, _, rfl, rfl, .inl ⟨by omega, by omega⟩, _, _, rfl, rfl, 4 * (k : Int) + 4, rfl, pk, _, rfl, SqL.of (e8 _ _ hpk), fun sl hsl => ?_⟩
    rw [show (4 * (k : Int) + 4) = ((4 * k + 4 : Nat) : Int) by omega, show (4 * (k : Int)) = ((4 * k : Nat) : Int) by omega, a3K _ _ _ (by omega) (by rw [List.length_map]; omega), Nat.add_sub_cancel_left, <- List.map_drop, <- List.map_take]
    have s2 := Same.new hsl (.lst (((ds.drop (4 * k)).take 4).map V.int))
    have e9 := e8.trans s2
    refine ⟨_, rfl, z, sl, ml, (ds.drop (4 * k)).take 4, MORE, rfl, SqL.of c6, by rw [List.length_take, List.length_drop]; omega, fun d hd => ?_, SqL.of (e9 _ _ (e7 _ _ hml5)), mo1, mo3, az, by omega, fun z' H' e' az' lz' => ?_⟩
    . have := bd d (List.mem_of_mem_drop (List.mem_of_mem_take hd))
      omega
    . refine ⟨z', _, rfl, e9.trans e', az', ?_⟩
      match k, k2 with
      | 0, _ => omega
      | 1, _ => omega
  intro σ8 H8 hM_; refine D1 fun G_ hG_ => ?_; obtain ⟨z, o7', rfl, e8, az, lz⟩ := hM_; subst hG_
  have hpk8 := e8 _ _ hpk
  have e58 := e7.trans e8
  -- due
  refine ⟨fun σ' H' => ∃ dv, σ' = [some (.ref a), some (.ref bl), some (.str (D7 hs)), some (.ref ml), some (.int cell), some (.ref pk), some (.str z), o7', some dv, o9, o10, o11] /\ Same H8 H' /\ ((B4 z = none /\ dv = .non) \/ ∃ gs l ys, B4 z = some gs /\ dv = .ref l /\ H' l = some (.lst ys) /\ Bk K H' ys gs), ?_, ?_⟩
  . refine ⟨_, rfl, z, rfl, az, by omega, fun e H' e' => ⟨_, rfl, e', .inl ⟨e, rfl⟩⟩, fun gs e l ys H' e' _ hl hB' => ⟨_, rfl, e', .inr ⟨gs, l, ys, e, rfl, hl, hB'⟩⟩⟩
  intro σ9 H9 hM_; refine D1 fun G_ hG_ => ?_; obtain ⟨dv, rfl, e9, hdue⟩ := hM_; subst hG_
  -- found, kin
  refine ⟨fun σ' H' => ∃ fv kl, σ' = [some (.ref a), some (.ref bl), some (.str (D7 hs)), some (.ref ml), some (.int cell), some (.ref pk), some (.str z), o7', some dv, some fv, some (.ref kl), o11] /\ Same H9 H' /\ ((B4 z = none /\ dv = .non /\ H' kl = some (.lst kNT)) \/ ∃ gs l ys l2 ys2, B4 z = some gs /\ dv = .ref l /\ H' l = some (.lst ys) /\ Bk K H' ys gs /\ H' kl = some (.lst []) /\ fv = .ref l2 /\ H' l2 = some (.lst ys2) /\ Bk K H' ys2 gs), ?_, ?_⟩
  . refine ⟨_, rfl, z, 0, rfl, .inl rfl, az, by omega, fun e H' r kl e' hr' hkl => ?_, fun gs e _ H' r kl l2 ys2 e' hr' hkl hl2 hB2 => ?_, fun _ _ c => absurd c (by decide)⟩
    . refine ⟨r, _, rfl, SqT.of hr', rfl, _, _, rfl, _, _, rfl, rfl, ?_⟩
      rcases hdue with ⟨_, h2⟩ | ⟨gs, l, ys, h1, _⟩
      . exact ⟨_, kl, rfl, e', .inl ⟨e, h2, hkl⟩⟩
      . rw [e] at h1; cases h1
    . refine ⟨r, _, rfl, SqT.of hr', rfl, _, _, rfl, _, _, rfl, rfl, ?_⟩
      rcases hdue with ⟨h1, _⟩ | ⟨gs', l, ys, h1, h2, h3, h4⟩
      . rw [e] at h1; cases h1
      . rw [e] at h1; cases h1
        exact ⟨_, kl, rfl, e', .inr ⟨gs, l, ys, l2, ys2, e, h2, e' _ _ h3, Bk.same e' h4, hkl, rfl, hl2, hB2⟩⟩
  intro σ10 H10 hM_; refine D1 fun G_ hG_ => ?_; obtain ⟨fv, kl, rfl, e10, hc⟩ := hM_; subst hG_
  -- compared
  refine ⟨fun σ' H' => σ' = [some (.ref a), some (.ref bl), some (.str (D7 hs)), some (.ref ml), some (.int cell), some (.ref pk), some (.str z), o7', some dv, some fv, some (.ref kl), o11] /\ Same H10 H', ?_, ?_⟩
  . refine ⟨_, rfl, rfl, _, rfl, ?_⟩
    rcases hc with ⟨en, rfl, hkl⟩ | ⟨gs, l, ys, l2, ys2, en, rfl, hl, hB1, hkl, rfl, hl2, hB2⟩
    . refine C9 ?_
      refine ⟨_, rfl, _, rfl, z, 1, rfl, .inr rfl, az, by omega, fun _ H' r kl2 e' hr' hkl2 => ?_, fun _ e => (by rw [en] at e; cases e), fun _ e => (by rw [en] at e; cases e)⟩
      refine ⟨r, _, 1, _, rfl, rfl, SqT.of hr', rfl, (by show 2 <= sizeLine; decide), fun dl hdl => ?_⟩
      have s1 := Same.new hdl (.lst [V.ref kl, V.ref kl2])
      refine ⟨"NoText", rfl, fun nl H'' e'' hnl => ⟨(by show 1 <= sizeLine; decide), fun ol hol => ?_⟩⟩
      rw [a8u] at hnl
      have s2 := Same.new hol (.lst [V.ref nl])
      refine ⟨ol, 2, [V.ref nl], rfl, rfl, c6, by omega, by omega, (by show 1 * 2 <= sizeLine; decide), fun pl hpl => ?_⟩
      have s3 := Same.new hpl (.lst (List.replicate (2 : Int).toNat [V.ref nl]).flatten)
      have e3' := e''.trans (s2.trans s3)
      have hpl' : (upd (upd H'' ol (.lst [V.ref nl])) pl (.lst (List.replicate (2 : Int).toNat [V.ref nl]).flatten)) pl = some (.lst [V.ref nl, V.ref nl]) := c6
      have g1 := e3' _ _ (s1 _ _ (e' _ _ hkl))
      have g2 := e3' _ _ (s1 _ _ hkl2)
      have g3 := (s2.trans s3) _ _ hnl
      have g4 := e3' _ _ (c6 (H := H') (a := dl) (o := .lst [V.ref kl, V.ref kl2]))
      have eall := e'.trans (s1.trans e3')
      generalize upd (upd H'' ol (.lst [V.ref nl])) pl (.lst (List.replicate (2 : Int).toNat [V.ref nl]).flatten) = H11 at *
      refine ⟨.list [dNT, dNT], .list [dNT, dNT], .lst (SqL.of g4) (.cons (V7 g1) (.cons (V7 g2) .nil)), .lst (SqL.of hpl') (.cons (V7 g3) (.cons (V7 g3) .nil)), rfl, rfl, by decide, _, rfl, ?_⟩
      rw [U5 _ (by rfl)]
      exact D0 ⟨rfl, eall⟩
    . refine D0 ?_
      refine ⟨_, rfl, (by show 0 <= sizeLine; decide), fun el hel => ?_⟩
      have s1 := Same.new hel (.lst [])
      refine ⟨.list [], .list [], .lst (SqL.of (s1 _ _ hkl)) .nil, .lst (SqL.of c6) .nil, rfl, rfl, by decide, _, rfl, ?_⟩
      rw [Z2]
      refine D0 ?_
      have layb : PyData.canLay0 (.list (gs.map C6)) = true := by rw [PyData.canLay0]; exact a0g _
      have depb : (PyData.list (gs.map C6)).depth <= 60 := by
        have := a0j gs
        rw [PyData.depth]
        lia
      refine ⟨_, rfl, _, rfl, .list (gs.map C6), .list (gs.map C6), .lst (SqL.of (s1 _ _ hl2)) (Bk.dps (Bk.same s1 hB2)), .lst (SqL.of (s1 _ _ hl)) (Bk.dps (Bk.same s1 hB1)), layb, layb, Nat.le_trans (Nat.min_le_left _ _) depb, _, rfl, ?_⟩
      rw [U5 _ layb]
      refine D0 ?_
      have isb := a2q en
      refine ⟨_, rfl, l2, ys2, gs, rfl, s1 _ _ hl2, Bk.same s1 hB2, by have := isb.1.2; omega, isb.any, fun H11 e11 => ⟨_, rfl, D0 ?_⟩⟩
      refine ⟨_, rfl, z, 1, rfl, .inr rfl, az, by omega, fun e => (by rw [en] at e; cases e), fun _ _ c => absurd c (by decide), fun gs' e _ H12 r kl2 e12 hr' hkl2 => ?_⟩
      rw [a3L e] at hr'
      refine ⟨_, rfl, (by show 0 <= sizeLine; decide), fun el2 hel2 => ⟨(by show 2 <= sizeLine; decide), fun t ht => ?_⟩⟩
      have s2 := Same.new hel2 (.lst [])
      have s3 := Same.new ht (.tup [V.str z, V.ref el2])
      have e13 := s2.trans s3
      refine ⟨tdD z, tdD z, a7N (e13 _ _ hr') (e13 _ _ hkl2), a7N c6 (s3 _ _ c6), a2Q az, a2Q az, Nat.le_trans (Nat.min_le_left _ _) (a7Y _), _, rfl, ?_⟩
      rw [U5 _ (a2Q az)]
      exact D0 ⟨rfl, s1.trans (e11.trans (e12.trans e13))⟩
  rintro _ H11 ⟨rfl, e11⟩
  have e8_11 := e9.trans (e10.trans e11)
  have hpk11 := e8_11 _ _ hpk8
  -- one
  refine ⟨fun σ' H' => ∃ (ov : V) (x : Q2), σ' = [some (.ref a), some (.ref bl), some (.str (D7 hs)), some (.ref ml), some (.int cell), some (.ref pk), some (.str z), o7', some dv, some fv, some (.ref kl), some ov] /\ Same H11 H' /\ FrT H' ov x /\ x.1.natAbs < 10 ^ 50 /\ x.2.natAbs < 10 ^ 50, ?_, ?_⟩
  . obtain ⟨b, hb0, hb1, eb⟩ := b1w (i := v8 / 4 % 3) (by omega) (by omega)
    refine ⟨_, rfl, pk, _, _, _, rfl, rfl, SqL.of hpk11, i9, _, _, rfl, rfl, ?_⟩
    refine ⟨_, _, rfl, rfl, ⟨by decide, by decide, by decide⟩, (by show 3 <= sizeLine; decide), fun tl htl => ?_⟩
    have s1 := Same.new htl (.lst [V.int 1, V.int 7, V.int (10 ^ (40 : Int).toNat)])
    refine ⟨_, rfl, pk, _, _, _, rfl, rfl, SqL.of (s1 _ _ hpk11), i8, _, _, rfl, rfl, (by show (0 : Int) < 4 /\ (4 : Int) < 1073741824; decide), _, _, rfl, rfl, (by show (0 : Int) < 3; decide), tl, _, _, _, rfl, rfl, SqL.of c6, eb, ?_⟩
    refine ⟨v9 - 500000, b, rfl, hb0, Int.lt_of_le_of_lt hb1 (by decide), fun ov H12 e12 hv => ?_⟩
    have big1 : Big 64 (v9 - 500000) := by unfold Big; omega
    have g1 := a6o hb0 big1
    have g2 := a9i (t := v9 - 500000) hb0
    have g3 := a5s (t := v9 - 500000) hb0
    refine ⟨ov, low (v9 - 500000) b, rfl, s1.trans e12, hv, Nat.lt_trans g1 (by decide), ?_⟩
    have : (low (v9 - 500000) b).2.natAbs <= 10 ^ 40 := by omega
    exact Nat.lt_of_le_of_lt this (by decide)
  intro σ12 H12 hM_; refine D1 fun G_ hG_ => ?_; obtain ⟨ov, x, rfl, e12, hv, lx1, lx2⟩ := hM_; subst hG_
  obtain ⟨oa, rfl, hoa⟩ := id hv
  have n1 : (w8 x.1).length <= 51 := a1J (by decide) lx1
  have n2 : (w8 x.2).length <= 51 := a1J (by decide) lx2
  replace lx1 : x.1.natAbs.log2 < 1920 := a3m (n := 170) (Nat.lt_trans lx1 (by decide)) (by decide)
  replace lx2 : x.2.natAbs.log2 < 1920 := a3m (n := 170) (Nat.lt_trans lx2 (by decide)) (by decide)
  have l1 : (Str.ofString "/").length = 1 := by decide +kernel
  -- due, written
  refine ⟨fun σ' H' => σ' = [some (.ref a), some (.ref bl), some (.str (D7 hs)), some (.ref ml), some (.int cell), some (.ref pk), some (.str z), o7', some (.str (a1L x)), some fv, some (.ref kl), some (.ref oa)] /\ Same H12 H', ?_, ?_⟩
  . refine ⟨_, rfl, oa, _, 0, _, rfl, rfl, SqT.of hoa, rfl, x.1, rfl, lx1, w8 x.1, _, rfl, rfl, by rw [l1, sizeLine_eq]; omega, _, rfl, oa, _, 1, _, rfl, rfl, SqT.of hoa, rfl, x.2, rfl, lx2, _, w8 x.2, rfl, rfl, by rw [B7, l1, sizeLine_eq]; omega, ?_⟩
    refine ⟨_, rfl, oa, _, 0, _, rfl, rfl, SqT.of hoa, rfl, x.1, rfl, lx1, (by show 2 <= sizeLine; decide), fun tl htl => ?_⟩
    have s1 := Same.new htl (.lst [V.str ((w8 x.1 ++ Str.ofString "/") ++ w8 x.2), V.str (w8 x.1)])
    refine ⟨_, rfl, oa, _, 1, _, rfl, rfl, SqT.of (s1 _ _ hoa), rfl, rfl, .inr ⟨_, rfl, ?_⟩⟩
    have ef := a7t x
    by_cases c : x.2 = 1
    . rw [if_pos c] at ef
      refine ⟨tl, [V.str ((w8 x.1 ++ Str.ofString "/") ++ w8 x.2), V.str (w8 x.1)], _, _, rfl, rfl, SqL.of c6, by rw [if_pos (decide_eq_true (congrArg V.int c))]; rfl, ?_⟩
      rw [ef]; exact ⟨rfl, s1⟩
    . rw [if_neg c] at ef
      refine ⟨tl, [V.str ((w8 x.1 ++ Str.ofString "/") ++ w8 x.2), V.str (w8 x.1)], _, _, rfl, rfl, SqL.of c6, by rw [if_neg (fun h => c (V.int.inj (of_decide_eq_true h)))]; rfl, ?_⟩
      rw [ef]; exact ⟨rfl, s1⟩
  rintro _ H13 ⟨rfl, e13⟩
  refine ⟨_, rfl, .ref oa, x, rfl, ⟨oa, rfl, SqT.of (e13 _ _ hoa)⟩, lx1, lx2, _, rfl, rfl, _, rfl, ?_⟩
  refine A2 (fun c => absurd c (by simp)) (fun _ => ⟨_, _, _, _, _, _, _, _, rfl, ?_⟩)
  exact e58.trans (e8_11.trans (e12.trans e13))
end
end Rim
namespace Rim
open PySem L2 Fr
open Tx (S cs ch w8 Asc)
section
variable {P : Program} {w : World} {K : W.Frag} {mg : Str -> Option Value} {base : Heap} {f : Addr} {fd : FuncData} {n : Nat}
theorem b0z : p6 ["house"] ["house"] (h7 E7) := ⟨rfl, rfl, rfl, by decide +kernel, rfl, by decide +kernel, by decide +kernel⟩
theorem a9j : (["side"] : List Str).Nodup := by decide +kernel
theorem a8N : (["one"] : List Str).Nodup := by decide +kernel
set_option maxHeartbeats 4000000 in
theorem a9k (F : Fun K "_law_house_text" "_law_house_text" E7 f fd) (zs : mg "str" = none) : x8 P w K mg base K1 (n + 1) f fd ["house"] (V9 K) := by
  refine F.ok b0z (fun vs H Q E h => ?_) (fun cdv A outer s H vs Q E hr h => ?_)
  . obtain ⟨v, h, rfl, _⟩ := h
    rfl
  obtain ⟨v, h, rfl, ⟨a, ta, ga, rfl, h0, h1, h2⟩, m1, m2, q⟩ := h
  refine ⟨_, g0 (m6 (E5 PySem.F.plainAttrs_str PySem.F.slot_str_join PySem.F.type_str_join P0 t7 (c0 (N9 ["side"] [] rfl (O7 (pv 0)) (fun _ _ _ _ => j5 (i := 0) a9j rfl (Or.inl rfl)) (fun _ _ _ _ => bmK K rfl PySem.F.plainAttrs_str PySem.F.slot_str_join PySem.F.type_str_join (a7w K rfl) t7 (c0 (N9 ["one"] [] rfl (a5q K rfl (pv 0)) (fun _ _ _ _ => j5 (i := 0) a8N rfl (Or.inl rfl)) (fun _ _ _ _ => t8 D3 rfl zs PyProof.Rows.boot_str (c0 (pv 0) c7))) c7))) c7))), ?_⟩
  refine ⟨rfl, _, rfl, a, rfl, ⟨_, h0⟩, fun p hp => ?_⟩
  refine E9 (J7 h0) hp (by show 2 < sizeLine; decide) (fun i y _ => ∃ x, [B9 h.1, B9 h.2][i]? = some x /\ y = .str x) (fun _ _ _ _ r _ => r) (fun i y H2 zs N hy e hp' hN => ?_) (fun zs H2 e hp' len pr => ?_)
  . have side : ∀ (c : Addr) (ns : List Int), SqT K H2 c (ns.map V.int) -> Sm ns -> [B9 h.1, B9 h.2][i]? = some (B9 ns) -> y = .ref c -> True := fun _ _ _ _ _ _ => trivial
    have : ∃ c ns, y = .ref c /\ SqT K H c (ns.map V.int) /\ Sm ns /\ [B9 h.1, B9 h.2][i]? = some (B9 ns) := by
      match i, hy with
      | 0, hy => cases hy; exact ⟨ta, h.1, rfl, h1, m1, rfl⟩
      | 1, hy => cases hy; exact ⟨ga, h.2, rfl, h2, m2, rfl⟩
    obtain ⟨c, ns, rfl, hc, hm, hi⟩ := this
    have hc2 := e.tseq hc
    refine ⟨Wk.set (by decide), rfl, _, rfl, c, rfl, ⟨_, hc2⟩, fun p2 hp2 => ?_⟩
    refine N2 (J7 hc2) hp2 (by rw [List.length_map]; exact v4 (by have := hm.1; omega)) (fun x => .str (w8 (vI x))) (fun i x H' N hx e hN => ?_) ?_
    . obtain ⟨k, rfl, hk⟩ := a1b hx
      exact ⟨Wk.set (by decide), _, rfl, k, rfl, a1e (hm.2 k hk).1 (hm.2 k hk).2, hN⟩
    . refine ⟨_, p2, ns.map w8, rfl, rfl, SqL.of (by rw [c6, List.map_map, List.map_map]; rfl), ?_, ?_⟩
      . refine Nat.le_trans (Nat.add_le_add_right (L6 (M0 hm)) _) ?_
        have := hm.1
        rw [List.length_map]
        show ns.length * 10 + ns.length * 1 <= _
        omega
      . rw [Tx.join_eq]
        exact hN _ _ (Same.new hp2 _) ⟨_, hi, rfl⟩
  . have l2 : zs.length = 2 := len
    have ez : zs = [B9 h.1, B9 h.2].map V.str := by
      match zs, l2 with
      | [u, v], _ =>
        obtain ⟨x, hx, e1⟩ := pr 0 u rfl
        obtain ⟨y, hy, e2⟩ := pr 1 v rfl
        cases hx; cases hy
        rw [e1, e2]; rfl
    rw [ez] at hp'
    refine ⟨_, p, [B9 h.1, B9 h.2], rfl, rfl, SqL.of hp', ?_, ?_⟩
    . have a1 := O0 m1
      have a2 := O0 m2
      show ((B9 h.1).length + ((B9 h.2).length + 0)) + 2 * 1 <= _
      omega
    . rw [Tx.join_eq, show Str.join (Str.ofString ">") [B9 h.1, B9 h.2] = A7 h from (X0 h).symm]
      exact q _ e
end
end Rim
namespace Rim
open PySem L2 Fr
set_option maxHeartbeats 16000000 in
theorem all_mk {l : W.OpenLaw} {w : World} {K : W.Frag} {h : Heap} {mg : Str -> Option Value} {fa : Addr} (X : K.In h) (G : h.Ns mainGlobals mg) (hfa : mg "law" = some (.ref fa))
    {f1 f2 f3 f4 f5 f6 f7 f8 f9 f10 f11 f12 f13 f14 f15 f16 f17 f18 f19 f20 f21 f22 f23 f24 f25 f26 f27 f28 f29 f30 f31 f32 f33 f34 f35 f36 cE_NoHouse cE_NoBook cE_RimError cE_NoRow cE_NoText cE_TooMany cE_NothingLeft : Addr} {cd1 cd2 cd3 cd4 cd5 cd6 cd7 cd8 cd9 cd10 cd11 cd12 cd13 cd14 cd15 cd16 cd17 cd18 cd19 cd20 cd21 cd22 cd23 cd24 cd25 cd26 cd27 cd28 cd29 cd30 cd31 cd32 cd33 cd34 cd35 ocL kVL dcL pmL cdL ctL : Value} {odL anL : Option Addr} {slL : Array (Option Value)} {tkC_MOST_AMOUNT : Tok} {tkC_MOST_HOUSES : Tok} {tkC_MOST_FIGURES : Tok} {tkC_MOST_KINDS : Tok} {CD dT_ASKS dT_DEEDS dT_FORMS oZ : Addr} {eT_ASKS eT_DEEDS eT_FORMS : Array DictEntry} {nT_ASKS nT_DEEDS nT_FORMS nZ : Nat} {odZ : Option Addr} {slZ : Array (Option Value)} {tkZ0 tkZ1 tkZ2 tkZ3 tkFIG : Tok} {gT_share gT_grow gT_others gT_alone gT_scale gT_rim gT_levels gT_order : Addr} {gT_house gT_drop gT_alter gT_sizes : Addr} {tF_house tF_drop tF_alter tF_sizes tF_back tF_share tF_grow tF_others tF_alone tF_scale tF_rim tF_levels tF_order tF_book : Addr} {odF_house odF_drop odF_alter odF_sizes odF_back odF_share odF_grow odF_others odF_alone odF_scale odF_rim odF_levels odF_order odF_book : Option Addr} {slF_house slF_drop slF_alter slF_sizes slF_back slF_share slF_grow slF_others slF_alone slF_scale slF_rim slF_levels slF_order slF_book : Array (Option Value)} {nF_house nF_drop nF_alter nF_sizes nF_back nF_share nF_grow nF_others nF_alone nF_scale nF_rim nF_levels nF_order nF_book : Nat} {tkF_house0 tkF_drop0 tkF_alter0 tkF_alter1 tkF_sizes0 tkF_share0 tkF_grow0 tkF_others0 tkF_alone0 tkF_scale0 : Tok}
    (aD : W.nsIn K mainGlobals "Desk" = some (some (.ref CD)))
    (a1 : W.nsIn K mainGlobals "_law_cell_at" = some (some (.ref f1)))
    (l1 : FunI K "_law_cell_at" "_law_cell_at" a4I f1 cd1)
    (a2 : W.nsIn K mainGlobals "_law_draws" = some (some (.ref f2)))
    (l2 : FunI K "_law_draws" "_law_draws" a3b f2 cd2)
    (a3 : W.nsIn K mainGlobals "_law_near" = some (some (.ref f3)))
    (l3 : FunI K "_law_near" "_law_near" a4Q f3 cd3)
    (a4 : W.nsIn K mainGlobals "_law_a_book" = some (some (.ref f4)))
    (l4 : FunI K "_law_a_book" "_law_a_book" X2 f4 cd4)
    (a5 : W.nsIn K mainGlobals "_law_house_text" = some (some (.ref f5)))
    (l5 : FunI K "_law_house_text" "_law_house_text" E7 f5 cd5)
    (a6 : W.nsIn K mainGlobals "numbers_text" = some (some (.ref f6)))
    (l6 : FunI K "numbers_text" "numbers_text" L7 f6 cd6)
    (a7 : W.nsIn K mainGlobals "house_text" = some (some (.ref f7)))
    (l7 : FunI K "house_text" "house_text" O5 f7 cd7)
    (a8 : W.nsIn K mainGlobals "book_text" = some (some (.ref f8)))
    (l8 : FunI K "book_text" "book_text" P8 f8 cd8)
    (a9 : W.nsIn K mainGlobals "_law_spoilt" = some (some (.ref f9)))
    (l9 : FunI K "_law_spoilt" "_law_spoilt" C8 f9 cd9)
    (a10 : W.nsIn K mainGlobals "_law_number" = some (some (.ref f10)))
    (l10 : FunI K "_law_number" "_law_number" M9 f10 cd10)
    (a11 : W.nsIn K mainGlobals "_law_house_in" = some (some (.ref f11)))
    (l11 : FunI K "_law_house_in" "_law_house_in" B5 f11 cd11)
    (a12 : W.nsIn K mainGlobals "_law_read" = some (some (.ref f12)))
    (l12 : FunI K "_law_read" "_law_read" Q4 f12 cd12)
    (a13 : W.nsIn K mainGlobals "read_number" = some (some (.ref f13)))
    (l13 : FunI K "read_number" "read_number" N0 f13 cd13)
    (a14 : W.nsIn K mainGlobals "read_amounts" = some (some (.ref f14)))
    (l14 : FunI K "read_amounts" "read_amounts" L5 f14 cd14)
    (a15 : W.nsIn K mainGlobals "is_whole" = some (some (.ref f15)))
    (l15 : FunI K "is_whole" "is_whole" T7 f15 cd15)
    (a16 : W.nsIn K mainGlobals "are_amounts" = some (some (.ref f16)))
    (l16 : FunI K "are_amounts" "are_amounts" M8 f16 cd16)
    (a17 : W.nsIn K mainGlobals "is_house" = some (some (.ref f17)))
    (l17 : FunI K "is_house" "is_house" T2 f17 cd17)
    (a18 : W.nsIn K mainGlobals "is_any_house" = some (some (.ref f18)))
    (l18 : FunI K "is_any_house" "is_any_house" L8 f18 cd18)
    (a19 : W.nsIn K mainGlobals "read_house" = some (some (.ref f19)))
    (l19 : FunI K "read_house" "read_house" O9 f19 cd19)
    (a20 : W.nsIn K mainGlobals "is_book" = some (some (.ref f20)))
    (l20 : FunI K "is_book" "is_book" X3 f20 cd20)
    (a21 : W.nsIn K mainGlobals "read_book" = some (some (.ref f21)))
    (l21 : FunI K "read_book" "read_book" P9 f21 cd21)
    (a22 : W.findIn K (.ref CD) "__init__" = some (some (.ref f22)))
    (l22 : FunI K "__init__" "Desk.__init__" K3 f22 cd22)
    (n22 : W.isFn K (.ref f22) = true)
    (a23 : W.nsIn K mainGlobals "read_thing" = some (some (.ref f23)))
    (l23 : FunI K "read_thing" "read_thing" O8 f23 cd23)
    (a24 : W.nsIn K mainGlobals "read_row" = some (some (.ref f24)))
    (l24 : FunI K "read_row" "read_row" G8 f24 cd24)
    (a25 : W.findIn K (.ref CD) "take_back" = some (some (.ref f25)))
    (l25 : FunI K "take_back" "Desk.take_back" J2 f25 cd25)
    (n25 : W.isFn K (.ref f25) = true)
    (a26 : W.nsIn K mainGlobals "tell_book" = some (some (.ref f26)))
    (l26 : FunI K "tell_book" "tell_book" Q7 f26 cd26)
    (a27 : W.findIn K (.ref CD) "say" = some (some (.ref f27)))
    (l27 : FunI K "say" "Desk.say" J1 f27 cd27)
    (n27 : W.isFn K (.ref f27) = true)
    (a28 : W.nsIn K mainGlobals "_law_a_kin" = some (some (.ref f28)))
    (l28 : FunI K "_law_a_kin" "_law_a_kin" P2 f28 cd28)
    (a29 : W.nsIn K mainGlobals "_law_told" = some (some (.ref f29)))
    (l29 : FunI K "_law_told" "_law_told" Q1 f29 cd29)
    (a30 : W.nsIn K mainGlobals "_law_due_kin" = some (some (.ref f30)))
    (l30 : FunI K "_law_due_kin" "_law_due_kin" K9 f30 cd30)
    (a31 : W.nsIn K mainGlobals "_law_whole" = some (some (.ref f31)))
    (l31 : FunI K "_law_whole" "_law_whole" a1d f31 cd31)
    (a32 : W.nsIn K mainGlobals "_law_wholes_right" = some (some (.ref f32)))
    (l32 : FunI K "_law_wholes_right" "_law_wholes_right" D8 f32 cd32)
    (a33 : W.nsIn K mainGlobals "_law_common" = some (some (.ref f33)))
    (l33 : FunI K "_law_common" "_law_common" a1D f33 cd33)
    (a34 : W.nsIn K mainGlobals "_law_low" = some (some (.ref f34)))
    (l34 : FunI K "_law_low" "_law_low" a5i f34 cd34)
    (a35 : W.nsIn K mainGlobals "fraction_text" = some (some (.ref f35)))
    (l35 : FunI K "fraction_text" "fraction_text" K2 f35 cd35)
    (a36 : W.nsIn K mainGlobals "law" = some (some (.ref f36)))
    (l36 : K.lookup f36 = some ⟨ocL, odL, .func (W.fnOf "law" "law" (E3 S2) (x6 S2) (h7 S2) .none kVL dcL pmL anL cdL ctL), slL⟩)
    (c36 : W.codeIn K cdL "law" = true)
    (k36 : W.keepIn K (.ref f36) = true)
    (z1 : W.nsIn K mainGlobals "len" = some none)
    (z2 : W.nsIn K mainGlobals "all" = some none)
    (z3 : W.nsIn K mainGlobals "any" = some none)
    (z4 : W.nsIn K mainGlobals "max" = some none)
    (z5 : W.nsIn K mainGlobals "min" = some none)
    (z6 : W.nsIn K mainGlobals "sum" = some none)
    (z7 : W.nsIn K mainGlobals "tuple" = some none)
    (z8 : W.nsIn K mainGlobals "list" = some none)
    (z9 : W.nsIn K mainGlobals "int" = some none)
    (z10 : W.nsIn K mainGlobals "bool" = some none)
    (z11 : W.nsIn K mainGlobals "range" = some none)
    (z12 : W.nsIn K mainGlobals "isinstance" = some none)
    (z13 : W.nsIn K mainGlobals "abs" = some none)
    (z14 : W.nsIn K mainGlobals "zip" = some none)
    (z15 : W.nsIn K mainGlobals "enumerate" = some none)
    (z16 : W.nsIn K mainGlobals "ValueError" = some none)
    (z17 : W.nsIn K mainGlobals "sorted" = some none)
    (ddp : W.plainGet K CD Str.empty = true)
    (ddh : W.hasDictIn K CD = true)
    (ddo : W.plainOver K CD = true)
    (dds : W.findIn K (.ref CD) "__setattr__" = some (some (.builtin "object.__setattr__")))
    (dd_book : W.findIn K (.ref CD) "book" = some none)
    (dd_sizes : W.findIn K (.ref CD) "sizes" = some none)
    (dd_past : W.findIn K (.ref CD) "past" = some none)
    (ddm : W.makesIn K CD = true)
    (ddk : W.keepIn K (.ref CD) = true)
    (dmASKS : W.nsIn K mainGlobals "ASKS" = some (some (.ref dT_ASKS)))
    (dlASKS : K.lookup dT_ASKS = some ⟨.type "dict", none, .dict eT_ASKS nT_ASKS, #[]⟩)
    (dkASKS : W.KeysLit w.params eT_ASKS.toList)
    (dpASKS : PySem.Paired L2.EntIs eT_ASKS.toList [("share", gT_share), ("grow", gT_grow), ("others", gT_others), ("alone", gT_alone), ("scale", gT_scale), ("rim", gT_rim), ("levels", gT_levels), ("order", gT_order), ("book", f26)])
    (dyASKS : (dT_ASKS == sysModules) = false)
    (dmDEEDS : W.nsIn K mainGlobals "DEEDS" = some (some (.ref dT_DEEDS)))
    (dlDEEDS : K.lookup dT_DEEDS = some ⟨.type "dict", none, .dict eT_DEEDS nT_DEEDS, #[]⟩)
    (dkDEEDS : W.KeysLit w.params eT_DEEDS.toList)
    (dpDEEDS : PySem.Paired L2.EntIs eT_DEEDS.toList [("house", gT_house), ("drop", gT_drop), ("alter", gT_alter), ("sizes", gT_sizes)])
    (dyDEEDS : (dT_DEEDS == sysModules) = false)
    (dmFORMS : W.nsIn K mainGlobals "FORMS" = some (some (.ref dT_FORMS)))
    (dlFORMS : K.lookup dT_FORMS = some ⟨.type "dict", none, .dict eT_FORMS nT_FORMS, #[]⟩)
    (dkFORMS : W.KeysLit w.params eT_FORMS.toList)
    (dpFORMS : PySem.Paired L2.EntIs eT_FORMS.toList [("house", tF_house), ("drop", tF_drop), ("alter", tF_alter), ("sizes", tF_sizes), ("back", tF_back), ("share", tF_share), ("grow", tF_grow), ("others", tF_others), ("alone", tF_alone), ("scale", tF_scale), ("rim", tF_rim), ("levels", tF_levels), ("order", tF_order), ("book", tF_book)])
    (dyFORMS : (dT_FORMS == sysModules) = false)
    (fl_house : K.lookup tF_house = some ⟨.type "tuple", odF_house, .seq #[.str "HOUSE" tkF_house0] nF_house, slF_house⟩)
    (fl_drop : K.lookup tF_drop = some ⟨.type "tuple", odF_drop, .seq #[.str "K" tkF_drop0] nF_drop, slF_drop⟩)
    (fl_alter : K.lookup tF_alter = some ⟨.type "tuple", odF_alter, .seq #[.str "K" tkF_alter0, .str "HOUSE" tkF_alter1] nF_alter, slF_alter⟩)
    (fl_sizes : K.lookup tF_sizes = some ⟨.type "tuple", odF_sizes, .seq #[.str "WORD" tkF_sizes0] nF_sizes, slF_sizes⟩)
    (fl_back : K.lookup tF_back = some ⟨.type "tuple", odF_back, .seq #[] nF_back, slF_back⟩)
    (fl_share : K.lookup tF_share = some ⟨.type "tuple", odF_share, .seq #[.str "K" tkF_share0] nF_share, slF_share⟩)
    (fl_grow : K.lookup tF_grow = some ⟨.type "tuple", odF_grow, .seq #[.str "K" tkF_grow0] nF_grow, slF_grow⟩)
    (fl_others : K.lookup tF_others = some ⟨.type "tuple", odF_others, .seq #[.str "K" tkF_others0] nF_others, slF_others⟩)
    (fl_alone : K.lookup tF_alone = some ⟨.type "tuple", odF_alone, .seq #[.str "K" tkF_alone0] nF_alone, slF_alone⟩)
    (fl_scale : K.lookup tF_scale = some ⟨.type "tuple", odF_scale, .seq #[.str "K" tkF_scale0] nF_scale, slF_scale⟩)
    (fl_rim : K.lookup tF_rim = some ⟨.type "tuple", odF_rim, .seq #[] nF_rim, slF_rim⟩)
    (fl_levels : K.lookup tF_levels = some ⟨.type "tuple", odF_levels, .seq #[] nF_levels, slF_levels⟩)
    (fl_order : K.lookup tF_order = some ⟨.type "tuple", odF_order, .seq #[] nF_order, slF_order⟩)
    (fl_book : K.lookup tF_book = some ⟨.type "tuple", odF_book, .seq #[] nF_book, slF_book⟩)
    (zm : W.nsIn K mainGlobals "SIZES" = some (some (.ref oZ)))
    (zl : K.lookup oZ = some ⟨.type "tuple", odZ, .seq #[.str "any" tkZ0, .str "one" tkZ1, .str "less" tkZ2, .str "more" tkZ3] nZ, slZ⟩)
    (zf : W.nsIn K mainGlobals "FIGURES" = some (some (.str "0123456789" tkFIG)))
    (zstr : W.nsIn K mainGlobals "str" = some none)
    (xmNoHouse : W.nsIn K mainGlobals "NoHouse" = some (some (.ref cE_NoHouse)))
    (xoNoHouse : W.excIn K cE_NoHouse [.type "ValueError", .type "Exception", .type "BaseException", .type "object"] "ValueError.__new__" = true)
    (xgaNoHouse : W.findIn K (.ref cE_NoHouse) "__getattribute__" = some (some (.builtin "BaseException.__getattribute__")))
    (xgnNoHouse : W.findIn K (.ref cE_NoHouse) "__getattr__" = some none)
    (xcaNoHouse : W.findIn K (.ref cE_NoHouse) "__class__" = some (some (.builtin "object.__class__")))
    (xmoNoHouse : W.mroIn K cE_NoHouse (.type "object") = some true)
    (xmbNoHouse : W.mroIn K cE_NoHouse (.type "BaseException") = some true)
    (xmNoBook : W.nsIn K mainGlobals "NoBook" = some (some (.ref cE_NoBook)))
    (xoNoBook : W.excIn K cE_NoBook [.type "ValueError", .type "Exception", .type "BaseException", .type "object"] "ValueError.__new__" = true)
    (xgaNoBook : W.findIn K (.ref cE_NoBook) "__getattribute__" = some (some (.builtin "BaseException.__getattribute__")))
    (xgnNoBook : W.findIn K (.ref cE_NoBook) "__getattr__" = some none)
    (xcaNoBook : W.findIn K (.ref cE_NoBook) "__class__" = some (some (.builtin "object.__class__")))
    (xmoNoBook : W.mroIn K cE_NoBook (.type "object") = some true)
    (xmbNoBook : W.mroIn K cE_NoBook (.type "BaseException") = some true)
    (xmRimError : W.nsIn K mainGlobals "RimError" = some (some (.ref cE_RimError)))
    (xoRimError : W.excIn K cE_RimError [.type "ValueError", .type "Exception", .type "BaseException", .type "object"] "ValueError.__new__" = true)
    (xgaRimError : W.findIn K (.ref cE_RimError) "__getattribute__" = some (some (.builtin "BaseException.__getattribute__")))
    (xgnRimError : W.findIn K (.ref cE_RimError) "__getattr__" = some none)
    (xcaRimError : W.findIn K (.ref cE_RimError) "__class__" = some (some (.builtin "object.__class__")))
    (xmoRimError : W.mroIn K cE_RimError (.type "object") = some true)
    (xmbRimError : W.mroIn K cE_RimError (.type "BaseException") = some true)
    (xmNoRow : W.nsIn K mainGlobals "NoRow" = some (some (.ref cE_NoRow)))
    (xoNoRow : W.excIn K cE_NoRow [.type "ValueError", .type "Exception", .type "BaseException", .type "object"] "ValueError.__new__" = true)
    (xgaNoRow : W.findIn K (.ref cE_NoRow) "__getattribute__" = some (some (.builtin "BaseException.__getattribute__")))
    (xgnNoRow : W.findIn K (.ref cE_NoRow) "__getattr__" = some none)
    (xcaNoRow : W.findIn K (.ref cE_NoRow) "__class__" = some (some (.builtin "object.__class__")))
    (xmoNoRow : W.mroIn K cE_NoRow (.type "object") = some true)
    (xmbNoRow : W.mroIn K cE_NoRow (.type "BaseException") = some true)
    (xmNoText : W.nsIn K mainGlobals "NoText" = some (some (.ref cE_NoText)))
    (xoNoText : W.excIn K cE_NoText [.type "ValueError", .type "Exception", .type "BaseException", .type "object"] "ValueError.__new__" = true)
    (xgaNoText : W.findIn K (.ref cE_NoText) "__getattribute__" = some (some (.builtin "BaseException.__getattribute__")))
    (xgnNoText : W.findIn K (.ref cE_NoText) "__getattr__" = some none)
    (xcaNoText : W.findIn K (.ref cE_NoText) "__class__" = some (some (.builtin "object.__class__")))
    (xmoNoText : W.mroIn K cE_NoText (.type "object") = some true)
    (xmbNoText : W.mroIn K cE_NoText (.type "BaseException") = some true)
    (xmTooMany : W.nsIn K mainGlobals "TooMany" = some (some (.ref cE_TooMany)))
    (xoTooMany : W.excIn K cE_TooMany [.type "ValueError", .type "Exception", .type "BaseException", .type "object"] "ValueError.__new__" = true)
    (xgaTooMany : W.findIn K (.ref cE_TooMany) "__getattribute__" = some (some (.builtin "BaseException.__getattribute__")))
    (xgnTooMany : W.findIn K (.ref cE_TooMany) "__getattr__" = some none)
    (xcaTooMany : W.findIn K (.ref cE_TooMany) "__class__" = some (some (.builtin "object.__class__")))
    (xmoTooMany : W.mroIn K cE_TooMany (.type "object") = some true)
    (xmbTooMany : W.mroIn K cE_TooMany (.type "BaseException") = some true)
    (xmNothingLeft : W.nsIn K mainGlobals "NothingLeft" = some (some (.ref cE_NothingLeft)))
    (xoNothingLeft : W.excIn K cE_NothingLeft [.type "ValueError", .type "Exception", .type "BaseException", .type "object"] "ValueError.__new__" = true)
    (xgaNothingLeft : W.findIn K (.ref cE_NothingLeft) "__getattribute__" = some (some (.builtin "BaseException.__getattribute__")))
    (xgnNothingLeft : W.findIn K (.ref cE_NothingLeft) "__getattr__" = some none)
    (xcaNothingLeft : W.findIn K (.ref cE_NothingLeft) "__class__" = some (some (.builtin "object.__class__")))
    (xmoNothingLeft : W.mroIn K cE_NothingLeft (.type "object") = some true)
    (xmbNothingLeft : W.mroIn K cE_NothingLeft (.type "BaseException") = some true)
    (cmMOST_AMOUNT : W.nsIn K mainGlobals "MOST_AMOUNT" = some (some (.int 1000000000 tkC_MOST_AMOUNT)))
    (cmMOST_HOUSES : W.nsIn K mainGlobals "MOST_HOUSES" = some (some (.int 16 tkC_MOST_HOUSES)))
    (cmMOST_FIGURES : W.nsIn K mainGlobals "MOST_FIGURES" = some (some (.int 10 tkC_MOST_FIGURES)))
    (cmMOST_KINDS : W.nsIn K mainGlobals "MOST_KINDS" = some (some (.int 4 tkC_MOST_KINDS)))
    (eSub_NoText : W.mroIn K cE_NoText (.ref cE_RimError) = some true)
    (eI_NoText_NoBook : W.kitOne K (.ref cE_NoText) (.ref cE_NoBook) = some false)
    (eI_NoText_NoHouse : W.kitOne K (.ref cE_NoText) (.ref cE_NoHouse) = some false)
    (eI_NoText_NoRow : W.kitOne K (.ref cE_NoText) (.ref cE_NoRow) = some false)
    (eI_NoText_TooMany : W.kitOne K (.ref cE_NoText) (.ref cE_TooMany) = some false)
    (eI_NoText_NothingLeft : W.kitOne K (.ref cE_NoText) (.ref cE_NothingLeft) = some false)
    (eIV_NoText : W.kitOne K (.ref cE_NoText) (.type "ValueError") = some true)
    : ∃ fd : FuncData, (∀ (s : Shared) (v : Value), BindsTo s fd ⟨[v], []⟩ [("script", v)]) /\ ∀ base : Heap, K.In base -> base.Ns mainGlobals mg -> x8 l.prog w K mg base K1 10 fa fd ["script"] (a3f K) := by
  have e := hfa.symm.trans (W.mg_of X G a36)
  cases e
  obtain ⟨_, F1, hc1, k1⟩ := l1.fn
  obtain ⟨_, F2, hc2, k2⟩ := l2.fn
  obtain ⟨_, F3, hc3, k3⟩ := l3.fn
  obtain ⟨_, F4, hc4, k4⟩ := l4.fn
  obtain ⟨_, F5, hc5, k5⟩ := l5.fn
  obtain ⟨_, F6, hc6, k6⟩ := l6.fn
  obtain ⟨_, F7, hc7, k7⟩ := l7.fn
  obtain ⟨_, F8, hc8, k8⟩ := l8.fn
  obtain ⟨_, F9, hc9, k9⟩ := l9.fn
  obtain ⟨_, F10, hc10, k10⟩ := l10.fn
  obtain ⟨_, F11, hc11, k11⟩ := l11.fn
  obtain ⟨_, F12, hc12, k12⟩ := l12.fn
  obtain ⟨_, F13, hc13, k13⟩ := l13.fn
  obtain ⟨_, F14, hc14, k14⟩ := l14.fn
  obtain ⟨_, F15, hc15, k15⟩ := l15.fn
  obtain ⟨_, F16, hc16, k16⟩ := l16.fn
  obtain ⟨_, F17, hc17, k17⟩ := l17.fn
  obtain ⟨_, F18, hc18, k18⟩ := l18.fn
  obtain ⟨_, F19, hc19, k19⟩ := l19.fn
  obtain ⟨_, F20, hc20, k20⟩ := l20.fn
  obtain ⟨_, F21, hc21, k21⟩ := l21.fn
  obtain ⟨_, F22, hc22, k22⟩ := l22.fn
  obtain ⟨_, F23, hc23, k23⟩ := l23.fn
  obtain ⟨_, F24, hc24, k24⟩ := l24.fn
  obtain ⟨_, F25, hc25, k25⟩ := l25.fn
  obtain ⟨_, F26, hc26, k26⟩ := l26.fn
  obtain ⟨_, F27, hc27, k27⟩ := l27.fn
  obtain ⟨_, F28, hc28, k28⟩ := l28.fn
  obtain ⟨_, F29, hc29, k29⟩ := l29.fn
  obtain ⟨_, F30, hc30, k30⟩ := l30.fn
  obtain ⟨_, F31, hc31, k31⟩ := l31.fn
  obtain ⟨_, F32, hc32, k32⟩ := l32.fn
  obtain ⟨_, F33, hc33, k33⟩ := l33.fn
  obtain ⟨_, F34, hc34, k34⟩ := l34.fn
  obtain ⟨_, F35, hc35, k35⟩ := l35.fn
  have F36 := a4K (st := S2) l36 c36 k36
  have b1 : Binds K _ ["script", "k"] [] := F1.b2 fun _ _ _ _ _ _ _ _ => rfl
  have b2 : Binds K _ ["cell", "many", "base"] [] := F2.b3 fun _ _ _ _ _ _ _ _ _ => rfl
  have b3 : Binds K _ ["house", "picks", "far"] [] := F3.b3 fun _ _ _ _ _ _ _ _ _ => rfl
  have b4 : Binds K _ ["script", "at", "most", "far"] [] := F4.b4 fun _ _ _ _ _ _ _ _ _ _ => rfl
  have b5 : Binds K _ ["house"] [] := F5.b1 fun _ _ _ _ _ _ _ => rfl
  have b6 : Binds K _ ["numbers"] [] := F6.b1 fun _ _ _ _ _ _ _ => rfl
  have b7 : Binds K _ ["house"] [] := F7.b1 fun _ _ _ _ _ _ _ => rfl
  have b8 : Binds K _ ["book"] [] := F8.b1 fun _ _ _ _ _ _ _ => rfl
  have b9 : Binds K _ ["text", "picks", "words_more"] [] := F9.b3 fun _ _ _ _ _ _ _ _ _ => rfl
  have b10 : Binds K _ ["word"] [] := F10.b1 fun _ _ _ _ _ _ _ => rfl
  have b11 : Binds K _ ["word"] [] := F11.b1 fun _ _ _ _ _ _ _ => rfl
  have b12 : Binds K _ ["text"] [] := F12.b1 fun _ _ _ _ _ _ _ => rfl
  have b13 : Binds K _ ["text"] [] := F13.b1 fun _ _ _ _ _ _ _ => rfl
  have b14 : Binds K _ ["text"] [] := F14.b1 fun _ _ _ _ _ _ _ => rfl
  have b15 : Binds K _ ["thing"] [] := F15.b1 fun _ _ _ _ _ _ _ => rfl
  have b16 : Binds K _ ["thing", "many", "least"] [] := F16.b3 fun _ _ _ _ _ _ _ _ _ => rfl
  have b17 : Binds K _ ["thing", "many_takes", "many_gives"] [] := F17.b3 fun _ _ _ _ _ _ _ _ _ => rfl
  have b18 : Binds K _ ["thing"] [] := F18.b1 fun _ _ _ _ _ _ _ => rfl
  have b19 : Binds K _ ["text"] [] := F19.b1 fun _ _ _ _ _ _ _ => rfl
  have b20 : Binds K _ ["thing"] [] := F20.b1 fun _ _ _ _ _ _ _ => rfl
  have b21 : Binds K _ ["text"] [] := F21.b1 fun _ _ _ _ _ _ _ => rfl
  have b22 : Binds K _ ["self", "text"] [] := F22.b2 fun _ _ _ _ _ _ _ _ => rfl
  have b23 : Binds K _ ["form", "text"] [] := F23.b2 fun _ _ _ _ _ _ _ _ => rfl
  have b24 : Binds K _ ["row"] [] := F24.b1 fun _ _ _ _ _ _ _ => rfl
  have b25 : Binds K _ ["self"] [] := F25.b1 fun _ _ _ _ _ _ _ => rfl
  have b26 : Binds K _ ["book", "sizes", "things"] [] := F26.b3 fun _ _ _ _ _ _ _ _ _ => rfl
  have b27 : Binds K _ ["self", "row"] [] := F27.b2 fun _ _ _ _ _ _ _ _ => rfl
  have b28 : Binds K _ ["e"] [] := F28.b1 fun _ _ _ _ _ _ _ => rfl
  have b29 : Binds K _ ["text", "door"] [] := F29.b2 fun _ _ _ _ _ _ _ _ => rfl
  have b30 : Binds K _ ["name"] [] := F30.b1 fun _ _ _ _ _ _ _ => rfl
  have b31 : Binds K _ ["found"] [] := F31.b1 fun _ _ _ _ _ _ _ => rfl
  have b32 : Binds K _ ["book"] [] := F32.b1 fun _ _ _ _ _ _ _ => rfl
  have b33 : Binds K _ ["one", "other"] [] := F33.b2 fun _ _ _ _ _ _ _ _ => rfl
  have b34 : Binds K _ ["top", "bottom"] [] := F34.b2 fun _ _ _ _ _ _ _ _ => rfl
  have b35 : Binds K _ ["one"] [] := F35.b1 fun _ _ _ _ _ _ _ => rfl
  have T : y6 mg := ⟨W.mg_none_of X G z1, W.mg_none_of X G z2, W.mg_none_of X G z3, W.mg_none_of X G z4, W.mg_none_of X G z5, W.mg_none_of X G z6, W.mg_none_of X G z7, W.mg_none_of X G z8, W.mg_none_of X G z9, W.mg_none_of X G z10, W.mg_none_of X G z11, W.mg_none_of X G z12, W.mg_none_of X G z13, W.mg_none_of X G z14, W.mg_none_of X G z15, W.mg_none_of X G z16, W.mg_none_of X G z17⟩
  have zs := W.mg_none_of X G zstr
  have TDd : TD K CD := ⟨⟨ddp, ddh, ddo, dds⟩, dd_book, dd_sizes, dd_past⟩
  have T_ASKS : KTab K w.params mg "ASKS" dT_ASKS [("share", gT_share), ("grow", gT_grow), ("others", gT_others), ("alone", gT_alone), ("scale", gT_scale), ("rim", gT_rim), ("levels", gT_levels), ("order", gT_order), ("book", f26)] := ⟨W.mg_of X G dmASKS, ⟨_, _, dlASKS, dkASKS, dpASKS⟩, dyASKS⟩
  have T_DEEDS : KTab K w.params mg "DEEDS" dT_DEEDS [("house", gT_house), ("drop", gT_drop), ("alter", gT_alter), ("sizes", gT_sizes)] := ⟨W.mg_of X G dmDEEDS, ⟨_, _, dlDEEDS, dkDEEDS, dpDEEDS⟩, dyDEEDS⟩
  have T_FORMS : KTab K w.params mg "FORMS" dT_FORMS [("house", tF_house), ("drop", tF_drop), ("alter", tF_alter), ("sizes", tF_sizes), ("back", tF_back), ("share", tF_share), ("grow", tF_grow), ("others", tF_others), ("alone", tF_alone), ("scale", tF_scale), ("rim", tF_rim), ("levels", tF_levels), ("order", tF_order), ("book", tF_book)] := ⟨W.mg_of X G dmFORMS, ⟨_, _, dlFORMS, dkFORMS, dpFORMS⟩, dyFORMS⟩
  have FT : a2P K w.params mg dT_FORMS [("house", tF_house), ("drop", tF_drop), ("alter", tF_alter), ("sizes", tF_sizes), ("back", tF_back), ("share", tF_share), ("grow", tF_grow), ("others", tF_others), ("alone", tF_alone), ("scale", tF_scale), ("rim", tF_rim), ("levels", tF_levels), ("order", tF_order), ("book", tF_book)] := ⟨T_FORMS, .cons ⟨rfl, fun H => .inr ⟨_, _, _, fl_house, rfl, rfl, (by show 1 <= sizeLine; decide), .cons ⟨_, rfl⟩ (.nil)⟩⟩ (.cons ⟨rfl, fun H => .inr ⟨_, _, _, fl_drop, rfl, rfl, (by show 1 <= sizeLine; decide), .cons ⟨_, rfl⟩ (.nil)⟩⟩ (.cons ⟨rfl, fun H => .inr ⟨_, _, _, fl_alter, rfl, rfl, (by show 2 <= sizeLine; decide), .cons ⟨_, rfl⟩ (.cons ⟨_, rfl⟩ (.nil))⟩⟩ (.cons ⟨rfl, fun H => .inr ⟨_, _, _, fl_sizes, rfl, rfl, (by show 1 <= sizeLine; decide), .cons ⟨_, rfl⟩ (.nil)⟩⟩ (.cons ⟨rfl, fun H => .inr ⟨_, _, _, fl_back, rfl, rfl, (by show 0 <= sizeLine; decide), .nil⟩⟩ (.cons ⟨rfl, fun H => .inr ⟨_, _, _, fl_share, rfl, rfl, (by show 1 <= sizeLine; decide), .cons ⟨_, rfl⟩ (.nil)⟩⟩ (.cons ⟨rfl, fun H => .inr ⟨_, _, _, fl_grow, rfl, rfl, (by show 1 <= sizeLine; decide), .cons ⟨_, rfl⟩ (.nil)⟩⟩ (.cons ⟨rfl, fun H => .inr ⟨_, _, _, fl_others, rfl, rfl, (by show 1 <= sizeLine; decide), .cons ⟨_, rfl⟩ (.nil)⟩⟩ (.cons ⟨rfl, fun H => .inr ⟨_, _, _, fl_alone, rfl, rfl, (by show 1 <= sizeLine; decide), .cons ⟨_, rfl⟩ (.nil)⟩⟩ (.cons ⟨rfl, fun H => .inr ⟨_, _, _, fl_scale, rfl, rfl, (by show 1 <= sizeLine; decide), .cons ⟨_, rfl⟩ (.nil)⟩⟩ (.cons ⟨rfl, fun H => .inr ⟨_, _, _, fl_rim, rfl, rfl, (by show 0 <= sizeLine; decide), .nil⟩⟩ (.cons ⟨rfl, fun H => .inr ⟨_, _, _, fl_levels, rfl, rfl, (by show 0 <= sizeLine; decide), .nil⟩⟩ (.cons ⟨rfl, fun H => .inr ⟨_, _, _, fl_order, rfl, rfl, (by show 0 <= sizeLine; decide), .nil⟩⟩ (.cons ⟨rfl, fun H => .inr ⟨_, _, _, fl_book, rfl, rfl, (by show 0 <= sizeLine; decide), .nil⟩⟩ (.nil))))))))))))))⟩
  have ZT : a4D K mg oZ := ⟨W.mg_of X G zm, fun H => .inr ⟨_, _, _, zl, rfl, rfl, (by show 4 <= sizeLine; decide), .cons ⟨_, rfl⟩ (.cons ⟨_, rfl⟩ (.cons ⟨_, rfl⟩ (.cons ⟨_, rfl⟩ .nil)))⟩⟩
  have CF : ∃ t, mg "FIGURES" = some (.str FIG t) := ⟨_, W.mg_of X G zf⟩
  have C_MOST_AMOUNT : ∃ t, mg "MOST_AMOUNT" = some (.int 1000000000 t) := ⟨_, W.mg_of X G cmMOST_AMOUNT⟩
  have C_MOST_HOUSES : ∃ t, mg "MOST_HOUSES" = some (.int 16 t) := ⟨_, W.mg_of X G cmMOST_HOUSES⟩
  have C_MOST_FIGURES : ∃ t, mg "MOST_FIGURES" = some (.int 10 t) := ⟨_, W.mg_of X G cmMOST_FIGURES⟩
  have C_MOST_KINDS : ∃ t, mg "MOST_KINDS" = some (.int 4 t) := ⟨_, W.mg_of X G cmMOST_KINDS⟩
  have k_NoHouse : P1 K cE_NoHouse := ⟨T0 xoNoHouse, xgaNoHouse, xgnNoHouse, xcaNoHouse, xmoNoHouse, xmbNoHouse⟩
  have m_NoHouse := W.mg_of X G xmNoHouse
  have k_NoBook : P1 K cE_NoBook := ⟨T0 xoNoBook, xgaNoBook, xgnNoBook, xcaNoBook, xmoNoBook, xmbNoBook⟩
  have m_NoBook := W.mg_of X G xmNoBook
  have k_RimError : P1 K cE_RimError := ⟨T0 xoRimError, xgaRimError, xgnRimError, xcaRimError, xmoRimError, xmbRimError⟩
  have m_RimError := W.mg_of X G xmRimError
  have k_NoRow : P1 K cE_NoRow := ⟨T0 xoNoRow, xgaNoRow, xgnNoRow, xcaNoRow, xmoNoRow, xmbNoRow⟩
  have m_NoRow := W.mg_of X G xmNoRow
  have k_NoText : P1 K cE_NoText := ⟨T0 xoNoText, xgaNoText, xgnNoText, xcaNoText, xmoNoText, xmbNoText⟩
  have m_NoText := W.mg_of X G xmNoText
  have k_TooMany : P1 K cE_TooMany := ⟨T0 xoTooMany, xgaTooMany, xgnTooMany, xcaTooMany, xmoTooMany, xmbTooMany⟩
  have m_TooMany := W.mg_of X G xmTooMany
  have k_NothingLeft : P1 K cE_NothingLeft := ⟨T0 xoNothingLeft, xgaNothingLeft, xgnNothingLeft, xcaNothingLeft, xmoNothingLeft, xmbNothingLeft⟩
  have m_NothingLeft := W.mg_of X G xmNothingLeft
  have R : a9f K mg cE_RimError cE_NoBook cE_NoHouse cE_NoRow cE_NoText cE_TooMany cE_NothingLeft := ⟨m_RimError, m_NoBook, m_NoHouse, m_NoRow, m_NoText, m_TooMany, m_NothingLeft, k_RimError⟩
  have M_NoText : a4L K cE_NoText cE_RimError cE_NoBook cE_NoHouse cE_NoRow cE_NoText cE_TooMany cE_NothingLeft false false false true false false := ⟨k_NoText, eSub_NoText, eI_NoText_NoBook, eI_NoText_NoHouse, eI_NoText_NoRow, J5 _, eI_NoText_TooMany, eI_NoText_NothingLeft, eIV_NoText⟩
  refine ⟨W.fnOf "law" "law" (E3 S2) (x6 S2) (h7 S2) .none kVL dcL pmL anL cdL ctL, fun s v => .of_eq rfl, fun base _ _ => ?_⟩
  have g1 := fun n : Nat => a6B (mg := mg) (P := l.prog) (w := w) (base := base) (n := n) F1 T
  have g2 := fun n : Nat => a4G (mg := mg) (P := l.prog) (w := w) (base := base) (n := n) F2 T
  have g3 := fun n : Nat => a6V (mg := mg) (P := l.prog) (w := w) (base := base) (n := n) F3 T
  have g4 := fun n : Nat => a4U (mg := mg) (P := l.prog) (w := w) (base := base) F4 T (g1 (n + 0)) b1 k1 (W.mg_of X G a1) (g2 (n + 0)) b2 k2 (W.mg_of X G a2) (g3 (n + 0)) b3 k3 (W.mg_of X G a3)
  have g5 := fun n : Nat => a9k (mg := mg) (P := l.prog) (w := w) (base := base) (n := n) F5 zs
  have g6 := fun n : Nat => a6L (mg := mg) (P := l.prog) (w := w) (base := base) (n := n) F6 zs
  have g7 := fun n : Nat => a4p (mg := mg) (P := l.prog) (w := w) (base := base) F7 ⟨g6 (n + 0), b6, k6, (W.mg_of X G a6)⟩
  have g8 := fun n : Nat => a4A (mg := mg) (P := l.prog) (w := w) (base := base) F8 ⟨g7 (n + 0), b7, k7, (W.mg_of X G a7)⟩
  have g9 := fun n : Nat => a4c (mg := mg) (P := l.prog) (w := w) (base := base) (n := n) F9 T
  have g10 := fun n : Nat => a6u (mg := mg) (P := l.prog) (w := w) (base := base) (n := n) F10 T
  have g11 := fun n : Nat => a8R (mg := mg) (P := l.prog) (w := w) (base := base) F11 T ⟨g10 (n + 0), b10, k10, (W.mg_of X G a10)⟩
  have g12 := fun n : Nat => a5x (mg := mg) (P := l.prog) (w := w) (base := base) F12 T ⟨g11 (n + 0), b11, k11, (W.mg_of X G a11)⟩
  have g13 := fun n : Nat => a5n (mg := mg) (P := l.prog) (w := w) (base := base) (n := n) F13 T C_MOST_FIGURES CF
  have g14 := fun n : Nat => a4X (mg := mg) (P := l.prog) (w := w) (base := base) F14 T ⟨g13 (n + 0), b13, k13, (W.mg_of X G a13)⟩
  have g15 := fun n : Nat => a6k (mg := mg) (P := l.prog) (w := w) (base := base) (n := n) F15 T
  have g16 := fun n : Nat => a7q (mg := mg) (P := l.prog) (w := w) (base := base) F16 T C_MOST_AMOUNT ⟨g15 (n + 0), b15, k15, (W.mg_of X G a15)⟩
  have g17 := fun n : Nat => a6s (mg := mg) (P := l.prog) (w := w) (base := base) F17 T ⟨g16 (n + 0), b16, k16, (W.mg_of X G a16)⟩
  have g18 := fun n : Nat => a7n (mg := mg) (P := l.prog) (w := w) (base := base) F18 T C_MOST_KINDS ⟨g17 (n + 0), b17, k17, (W.mg_of X G a17)⟩
  have g19 := fun n : Nat => a4W (mg := mg) (P := l.prog) (w := w) (base := base) F19 T ⟨g14 (n + 2), b14, k14, (W.mg_of X G a14)⟩ ⟨g18 (n + 0), b18, k18, (W.mg_of X G a18)⟩
  have g20 := fun n : Nat => a8E (mg := mg) (P := l.prog) (w := w) (base := base) F20 T C_MOST_HOUSES ⟨g18 (n + 0), b18, k18, (W.mg_of X G a18)⟩ ⟨g17 (n + 1), b17, k17, (W.mg_of X G a17)⟩
  have g21 := fun n : Nat => a5e (mg := mg) (P := l.prog) (w := w) (base := base) F21 T k_NoText m_NoText ⟨g19 (n + 0), b19, k19, (W.mg_of X G a19)⟩ ⟨g20 (n + 0), b20, k20, (W.mg_of X G a20)⟩
  have g22 := fun n : Nat => a5r (mg := mg) (P := l.prog) (w := w) (base := base) F22 TDd ⟨g21 (n + 0), b21, k21, (W.mg_of X G a21)⟩
  have g23 := fun n : Nat => a5F (mg := mg) (P := l.prog) (w := w) (base := base) F23 ZT ⟨g13 (n + 4), b13, k13, (W.mg_of X G a13)⟩ ⟨g19 (n + 0), b19, k19, (W.mg_of X G a19)⟩
  have g24 := fun n : Nat => a5k (mg := mg) (P := l.prog) (w := w) (base := base) F24 T FT k_NoRow m_NoRow ⟨g23 (n + 0), b23, k23, (W.mg_of X G a23)⟩
  have g25 := fun n : Nat => a4z (mg := mg) (P := l.prog) (w := w) (base := base) (n := n) F25 TDd k_NothingLeft m_NothingLeft
  have g26 := fun n : Nat => a4Z (mg := mg) (P := l.prog) (w := w) (base := base) F26 ⟨g8 (n + 0), b8, k8, (W.mg_of X G a8)⟩
  have g27 := fun n : Nat => a8T (FA := a9C l.prog w K mg base 7) (mg := mg) (P := l.prog) (w := w) (base := base) F27 TDd T_ASKS T_DEEDS ⟨g24 (n + 0), b24, k24, (W.mg_of X G a24)⟩ ⟨g25 (n + 6), b25, ⟨a25, n25, k25⟩⟩ (fun g sp h => h n)
  have DWd : Way [("share", gT_share), ("grow", gT_grow), ("others", gT_others), ("alone", gT_alone), ("scale", gT_scale), ("rim", gT_rim), ("levels", gT_levels), ("order", gT_order), ("book", f26)] (a9C l.prog w K mg base 7) "book" (Y7 K) := ⟨⟨_, rfl, fun n => ⟨_, g26 (n + 3), b26, k26⟩⟩⟩
  have g28 := fun n : Nat => a7e (mg := mg) (P := l.prog) (w := w) (base := base) (n := n) F28 T R
  have g29 := fun n : Nat => a4f (mg := mg) (P := l.prog) (w := w) (base := base) F29 TDd R M_NoText DWd ⟨⟨ddm, a22, n22, ddk⟩, g22 (n + 0), b22, W.mg_of X G aD⟩ ⟨g21 (n + 2), b21, k21, (W.mg_of X G a21)⟩ ⟨g27 (n + 0), b27, ⟨a27, n27, k27⟩⟩ ⟨g28 (n + 7), b28, k28, (W.mg_of X G a28)⟩
  have g30 := fun n : Nat => a6I (mg := mg) (P := l.prog) (w := w) (base := base) (n := n) F30 T
  have g31 := fun n : Nat => a6c (mg := mg) (P := l.prog) (w := w) (base := base) (n := n) F31 T
  have g32 := fun n : Nat => a6P (mg := mg) (P := l.prog) (w := w) (base := base) F32 T ⟨g31 (n + 0), b31, k31, (W.mg_of X G a31)⟩
  have g33 := fun n : Nat => a4s (mg := mg) (P := l.prog) (w := w) (base := base) (n := n) F33
  have g34 := fun n : Nat => a7C (mg := mg) (P := l.prog) (w := w) (base := base) F34 T ⟨g33 (n + 0), b33, k33, (W.mg_of X G a33)⟩
  have g35 := fun n : Nat => a5f (mg := mg) (P := l.prog) (w := w) (base := base) (n := n) F35
  exact a8H F36 T zs ⟨⟨g4 7, b4, k4, (W.mg_of X G a4)⟩, ⟨g5 8, b5, k5, (W.mg_of X G a5)⟩, ⟨g8 6, b8, k8, (W.mg_of X G a8)⟩, ⟨g2 8, b2, k2, (W.mg_of X G a2)⟩, ⟨g9 8, b9, k9, (W.mg_of X G a9)⟩, ⟨g12 6, b12, k12, (W.mg_of X G a12)⟩, ⟨g29 0, b29, k29, (W.mg_of X G a29)⟩, ⟨g30 8, b30, k30, (W.mg_of X G a30)⟩, ⟨g32 7, b32, k32, (W.mg_of X G a32)⟩, ⟨g34 7, b34, k34, (W.mg_of X G a34)⟩, ⟨g35 8, b35, k35, (W.mg_of X G a35)⟩⟩
end Rim
def PySem.W.Fast.tw7080546405541841921 : Nat := 0
def PySem.W.Fast.tw860702754815493298 : Nat := 0
def PySem.W.Fast.tw3656648017963211269 : Nat := 0
def PySem.W.Fast.tw2120504218887042576 : Nat := 0
def PySem.W.Fast.tw16423255672199898719 : Nat := 0
def PySem.W.Fast.tw17158234429908129174 : Nat := 0
def PySem.W.Fast.tw9237929711111114236 : Nat := 0
def PySem.W.Fast.tw1732348560356200194 : Nat := 0
def PySem.W.Fast.tw12096787855640289422 : Nat := 0
def PySem.W.Fast.tw12981717335463446332 : Nat := 0
def PySem.W.Fast.tw16618440243397577915 : Nat := 0
def PySem.W.Fast.tw11142372454340453873 : Nat := 0
def PySem.W.Fast.tw9778741861160019258 : Nat := 0
def PySem.W.Fast.tw17146973354205838247 : Nat := 0
def PySem.W.Fast.tw10399156398258268709 : Nat := 0
def PySem.W.Fast.tw14168054965598384615 : Nat := 0
def PySem.W.Fast.tw2190242008142783998 : Nat := 0
def PySem.W.Fast.tw8447862102732542953 : Nat := 0
def PySem.W.Fast.tw18368729358879889449 : Nat := 0
def PySem.W.Fast.tw13896739495561653944 : Nat := 0
def PySem.W.Fast.tw1258904545477063698 : Nat := 0
def PySem.W.Fast.tw14713913245130559505 : Nat := 0
def PySem.W.Fast.tw7642791786901326670 : Nat := 0
def PySem.W.Fast.tw8674994006805895340 : Nat := 0
def PySem.W.Fast.tw4558451284510648066 : Nat := 0
def PySem.W.Fast.tw9654426719471503827 : Nat := 0
def PySem.W.Fast.tw14174725281224700839 : Nat := 0
def PySem.W.Fast.tw4151382713761444034 : Nat := 0
def PySem.W.Fast.tw11664744224826831021 : Nat := 0
def PySem.W.Fast.tw13997856185653298913 : Nat := 0
def PySem.W.Fast.tw7016923235823707713 : Nat := 0
def PySem.W.Fast.tw1430246575624238496 : Nat := 0
def PySem.W.Fast.tw3799278787180046028 : Nat := 0
def PySem.W.Fast.tw3875670374419544823 : Nat := 0
def PySem.W.Fast.tw8153681646667309403 : Nat := 0
def PySem.W.Fast.tw656162834648374814 : Nat := 0
def PySem.W.Fast.tw8316470481415852103 : Nat := 0
def PySem.W.Fast.tw415908979311263911 : Nat := 0
def PySem.W.Fast.tw10672745135837764710 : Nat := 0
def PySem.W.Fast.tw18346208295700490398 : Nat := 0
def PySem.W.Fast.tw2373792897519433441 : Nat := 0
def PySem.W.Fast.tw18039372920817903196 : Nat := 0
def PySem.W.Fast.tw5369830218738037841 : Nat := 0
def PySem.W.Fast.tw10616218245040364206 : Nat := 0
def PySem.W.Fast.tw4014638630448653558 : Nat := 0
def PySem.W.Fast.tw8312337371267851401 : Nat := 0
def PySem.W.Fast.tw17907971430085627207 : Nat := 0
def PySem.W.Fast.tw2875706109559929072 : Nat := 0
def PySem.W.Fast.tw5747018836475041791 : Nat := 0
def PySem.W.Fast.tw8909905553930425441 : Nat := 0
def PySem.W.Fast.tw8388011160822424015 : Nat := 0
def PySem.W.Fast.tw8579906053898159862 : Nat := 0
def PySem.W.Fast.tw5248672144786309879 : Nat := 0
def PySem.W.Fast.tw18363216638001618842 : Nat := 0
def PySem.W.Fast.tw1225128212663543196 : Nat := 0
def PySem.W.Fast.tw5382128803851593007 : Nat := 0
def PySem.W.Fast.tw15047917925172441161 : Nat := 0
def PySem.W.Fast.tw8223811074755008170 : Nat := 0
def PySem.W.Fast.tw11049047999995512361 : Nat := 0
def PySem.W.Fast.tw16434141143523779961 : Nat := 0
def PySem.W.Fast.tw6574420881169523036 : Nat := 0
def PySem.W.Fast.tw5042134403021347769 : Nat := 0
def PySem.W.Fast.tw15133228976939849881 : Nat := 0
def PySem.W.Fast.tw14413603226404412495 : Nat := 0
def PySem.W.Fast.tw16674890542595194449 : Nat := 0
def PySem.W.Fast.tw12200470704766874475 : Nat := 0
def PySem.W.Fast.tw904162824171337584 : Nat := 0
def PySem.W.Fast.tw11800241580286351670 : Nat := 0
def PySem.W.Fast.tw14800376382716429423 : Nat := 0
def PySem.W.Fast.tw4907788571369840696 : Nat := 0
def PySem.W.Fast.tw2328195694329850977 : Nat := 0
def PySem.W.Fast.tw14420275040234800128 : Nat := 0
def PySem.W.Fast.tw14473406772887093821 : Nat := 0
def PySem.W.Fast.tw3727841641281364460 : Nat := 0
def PySem.W.Fast.tw15573335153868162131 : Nat := 0
def PySem.W.Fast.tw16123954626461093101 : Nat := 0
def PySem.W.Fast.tw11037972361375131424 : Nat := 0
def PySem.W.Fast.tw3600318972510151734 : Nat := 0
def PySem.W.Fast.tw16704862005658434146 : Nat := 0
def PySem.W.Fast.tw12225936452299919734 : Nat := 0
def PySem.W.Fast.tw5874572932706605669 : Nat := 0
def PySem.W.Fast.tw12644384367829249825 : Nat := 0
def PySem.W.Fast.tw17458350227954147317 : Nat := 0
def PySem.W.Fast.tw15443686778955796405 : Nat := 0
def PySem.W.Fast.tw2409626003321911258 : Nat := 0
def PySem.W.Fast.tw11516721061122084503 : Nat := 0
def PySem.W.Fast.tw12212159182896931266 : Nat := 0
def PySem.W.Fast.tw7601642855131641932 : Nat := 0
def PySem.W.Fast.tw16543338120117040198 : Nat := 0
def PySem.W.Fast.tw6378460553944323702 : Nat := 0
def PySem.W.Fast.tw8680109462279055780 : Nat := 0
def PySem.W.Fast.tw9496862477912951349 : Nat := 0
def PySem.W.Fast.tw18138268440589118602 : Nat := 0
def PySem.W.Fast.tw11503235836049007055 : Nat := 0
def PySem.W.Fast.tw8631965363546459710 : Nat := 0
def PySem.W.Fast.tw1091453495244156347 : Nat := 0
def PySem.W.Fast.tw13904150746512893411 : Nat := 0
def PySem.W.Fast.tw4564777633559019619 : Nat := 0
def PySem.W.Fast.tw9821569729237267495 : Nat := 0
def PySem.W.Fast.tw5318358874584767869 : Nat := 0
def PySem.W.Fast.tw9749822828024492400 : Nat := 0
def PySem.W.Fast.tw5485286182035635165 : Nat := 0
def PySem.W.Fast.tw5964449683593335896 : Nat := 0
def PySem.W.Fast.tw10172297571104449250 : Nat := 0
def PySem.W.Fast.tw13320044747879920496 : Nat := 0
def PySem.W.Fast.tw7970338540797008687 : Nat := 0
def PySem.W.Fast.tw9542274818407018059 : Nat := 0
def PySem.W.Fast.tw17575852961315378866 : Nat := 0
def PySem.W.Fast.tw3491762551898130210 : Nat := 0
def PySem.W.Fast.tw1283755179497256501 : Nat := 0
def PySem.W.Fast.tw317760851895558508 : Nat := 0
def PySem.W.Fast.tw8483101320760285911 : Nat := 0
def PySem.W.Fast.tw4776059474044310075 : Nat := 0
def PySem.W.Fast.tw6237209519850554204 : Nat := 0
def PySem.W.Fast.tw3818778101840606720 : Nat := 0
def PySem.W.Fast.tw2201479870366012240 : Nat := 0
def PySem.W.Fast.tw7096526380402397447 : Nat := 0
def PySem.W.Fast.tw6063176800451554961 : Nat := 0
def PySem.W.Fast.tw8974747129040571835 : Nat := 0
def PySem.W.Fast.tw4954135385409080202 : Nat := 0
def PySem.W.Fast.tw12794660484977927225 : Nat := 0
def PySem.W.Fast.tw2628805623984870142 : Nat := 0
def PySem.W.Fast.tw12544291299660337309 : Nat := 0
def PySem.W.Fast.tw14959344275680065645 : Nat := 0
def PySem.W.Fast.tw2090043669963904487 : Nat := 0
def PySem.W.Fast.tw1889382058596290299 : Nat := 0
def PySem.W.Fast.tw9145779630460806326 : Nat := 0
def PySem.W.Fast.tw11117178487644830604 : Nat := 0
def PySem.W.Fast.tw2066933139998577580 : Nat := 0
def PySem.W.Fast.tw7575170119623804442 : Nat := 0
def PySem.W.Fast.tw16151460214084989283 : Nat := 0
def PySem.W.Fast.tw16804031852282557950 : Nat := 0
def PySem.W.Fast.tw12580026562616607325 : Nat := 0
def PySem.W.Fast.tw14022996906896380635 : Nat := 0
def PySem.W.Fast.tw7919728943689363588 : Nat := 0
def PySem.W.Fast.tw278051843334350032 : Nat := 0
def PySem.W.Fast.tw2156524652229779164 : Nat := 0
def PySem.W.Fast.tw2116294718252276156 : Nat := 0
def PySem.W.Fast.tw10020497899879291004 : Nat := 0
def PySem.W.Fast.tw501979830956383874 : Nat := 0
def PySem.W.Fast.tw11332758018917700220 : Nat := 0
def PySem.W.Fast.tw12064563816345660754 : Nat := 0
def PySem.W.Fast.tw1169853159140760688 : Nat := 0
def PySem.W.Fast.tw9676373750887027798 : Nat := 0
def PySem.W.Fast.tw11834825751742787797 : Nat := 0
def PySem.W.Fast.tw7011252148832781921 : Nat := 0
def PySem.W.Fast.tw16562070053346640612 : Nat := 0
def PySem.W.Fast.tw10201551955577861353 : Nat := 0
def PySem.W.Fast.tw15165032191663412866 : Nat := 0
def PySem.W.Fast.tw528468209370396567 : Nat := 0
def PySem.W.Fast.tw10286530956258499597 : Nat := 0
def PySem.W.Fast.tw13989406613568955176 : Nat := 0
def PySem.W.Fast.tw13828425035069083733 : Nat := 0
def PySem.W.Fast.tw4305945059338992281 : Nat := 0
def PySem.W.Fast.tw17150502464502556293 : Nat := 0
def PySem.W.Fast.tw14843500216336344604 : Nat := 0
def PySem.W.Fast.tw5872332593847270832 : Nat := 0
def PySem.W.Fast.tw9863396966521728364 : Nat := 0
def PySem.W.Fast.tw11015856942100947954 : Nat := 0
def PySem.W.Fast.tw9194564461173210735 : Nat := 0
def PySem.W.Fast.tw7817052048135072964 : Nat := 0
def PySem.W.Fast.tw7518494348391889152 : Nat := 0
def PySem.W.Fast.tw2255158357056551332 : Nat := 0
def PySem.W.Fast.tw11437769144662426447 : Nat := 0
def PySem.W.Fast.tw4555205759520865517 : Nat := 0
def PySem.W.Fast.tw17082902467090001100 : Nat := 0
def PySem.W.Fast.tw9929449021963026043 : Nat := 0
def PySem.W.Fast.tw2302232490356233853 : Nat := 0
def PySem.W.Fast.tw2229525554225773870 : Nat := 0
def PySem.W.Fast.tw12358874676079601324 : Nat := 0
def PySem.W.Fast.tw6048252545004853411 : Nat := 0
def PySem.W.Fast.tw4113423667668003060 : Nat := 0
def PySem.W.Fast.tw16072497676019611992 : Nat := 0
def PySem.W.Fast.tw1164878733476493684 : Nat := 0
def PySem.W.Fast.tw6860849365576655508 : Nat := 0
def PySem.W.Fast.tw16553698675702731040 : Nat := 0
def PySem.W.Fast.tw14927346976066015828 : Nat := 0
def PySem.W.Fast.tw16621877811543130324 : Nat := 0
def PySem.W.Fast.tw11029569432756950402 : Nat := 0
def PySem.W.Fast.tw13877047924044217612 : Nat := 0
def PySem.W.Fast.tw17903562520168949470 : Nat := 0
def PySem.W.Fast.tw17184662843534307628 : Nat := 0
def PySem.W.Fast.tw5445680625515210310 : Nat := 0
def PySem.W.Fast.tw5416558161782309973 : Nat := 0
def PySem.W.Fast.tw10965463800430090187 : Nat := 0
def PySem.W.Fast.tw11083113314742316780 : Nat := 0
def PySem.W.Fast.tw5692067547096727972 : Nat := 0
def PySem.W.Fast.tw16548725833010646849 : Nat := 0
def PySem.W.Fast.tw1097616020372200727 : Nat := 0
def PySem.W.Fast.tw7597028296342135291 : Nat := 0
def PySem.W.Fast.tw5943108929655779630 : Nat := 0
def PySem.W.Fast.tw16379505925348746372 : Nat := 0
def PySem.W.Fast.tw5858297388251073411 : Nat := 0
def PySem.W.Fast.tw14508244938033507819 : Nat := 0
def PySem.W.Fast.tw15162239836218845013 : Nat := 0
def PySem.W.Fast.tw16332591252036736754 : Nat := 0
def PySem.W.Fast.tw17786258451226363091 : Nat := 0
def PySem.W.Fast.tw4772847822589919278 : Nat := 0
def PySem.W.Fast.tw15720669777000752427 : Nat := 0
def PySem.W.Fast.tw9758886001971124138 : Nat := 0
def PySem.W.Fast.tw10711850335886859870 : Nat := 0
def PySem.W.Fast.tw13997743877045311899 : Nat := 0
def PySem.W.Fast.tw1428230145477072866 : Nat := 0
def PySem.W.Fast.tw16081315742744394311 : Nat := 0
def PySem.W.Fast.tw3494235055063566726 : Nat := 0
def PySem.W.Fast.tw6487909089288532765 : Nat := 0
def PySem.W.Fast.tw10694821294896563717 : Nat := 0
def PySem.W.Fast.tw13419201936934672465 : Nat := 0
def PySem.W.Fast.tw11788241532148073910 : Nat := 0
def PySem.W.Fast.tw11359392588103953034 : Nat := 0
def PySem.W.Fast.tw5340678053223918676 : Nat := 0
def PySem.W.Fast.tw4512838408362596237 : Nat := 0
def PySem.W.Fast.tw5539645298935907180 : Nat := 0
def PySem.W.Fast.tw7188881895827837239 : Nat := 0
def PySem.W.Fast.tw1451347097512920534 : Nat := 0
def PySem.W.Fast.tw10794056662946320358 : Nat := 0
def PySem.W.Fast.tw8427834712624228897 : Nat := 0
def PySem.W.Fast.tw18418330439586345247 : Nat := 0
def PySem.W.Fast.tw8465609909001322420 : Nat := 0
def PySem.W.Fast.tw18431848870982840784 : Nat := 0
def PySem.W.Fast.tw13157431024757893196 : Nat := 0
def PySem.W.Fast.tw14077987300334001948 : Nat := 0
def PySem.W.Fast.tw9463693283510993853 : Nat := 0
def PySem.W.Fast.tw4999135837408913303 : Nat := 0
def PySem.W.Fast.tw6487351480961736651 : Nat := 0
def PySem.W.Fast.tw4061561999104031969 : Nat := 0
def PySem.W.Fast.tw11185221367922916831 : Nat := 0
def PySem.W.Fast.tw15587842996312697383 : Nat := 0
def PySem.W.Fast.tw4086338875907653453 : Nat := 0
def PySem.W.Fast.tw8185812573694742333 : Nat := 0
def PySem.W.Fast.tw12435089702644078599 : Nat := 0
def PySem.W.Fast.tw6768215747297947742 : Nat := 0
def PySem.W.Fast.tw4537900794729053642 : Nat := 0
def PySem.W.Fast.tw14006868833313530444 : Nat := 0
def PySem.W.Fast.tw15293281337766243722 : Nat := 0
def PySem.W.Fast.tw14962589095816154094 : Nat := 0
def PySem.W.Fast.tw5385809223984103302 : Nat := 0
def PySem.W.Fast.tw13186965994736014187 : Nat := 0
def PySem.W.Fast.tw10745783923225725413 : Nat := 0
def PySem.W.Fast.tw10069899777271180705 : Nat := 0
def PySem.W.Fast.tw4787187046398137354 : Nat := 0
def PySem.W.Fast.tw7131277644038360115 : Nat := 0
def PySem.W.Fast.tw9371995108492891050 : Nat := 0
def PySem.W.Fast.tw14556210271673988135 : Nat := 0
def PySem.W.Fast.tw6577828413701758838 : Nat := 0
def PySem.W.Fast.tw11142469037181236124 : Nat := 0
def PySem.W.Fast.tw2667710230292317448 : Nat := 0
def PySem.W.Fast.tw9871262807128984893 : Nat := 0
def PySem.W.Fast.tw17168299550137014681 : Nat := 0
def PySem.W.Fast.tw8565208054710319321 : Nat := 0
def PySem.W.Fast.tw11827510887822653365 : Nat := 0
def PySem.W.Fast.tw8777580792409489153 : Nat := 0
def PySem.W.Fast.tw11136600645211251303 : Nat := 0
def PySem.W.Fast.tw17350271968047830221 : Nat := 0
def PySem.W.Fast.tw16631963076224217777 : Nat := 0
def PySem.W.Fast.tw16426199339822106753 : Nat := 0
def PySem.W.Fast.tw9996101194228700638 : Nat := 0
def PySem.W.Fast.tw15248884401463626391 : Nat := 0
def PySem.W.Fast.tw16643990463908895814 : Nat := 0
def PySem.W.Fast.tw13009487064163787749 : Nat := 0
def PySem.W.Fast.tw5049516817303187071 : Nat := 0
def PySem.W.Fast.tw12507288652363910951 : Nat := 0
def PySem.W.Fast.tw12774415162541371863 : Nat := 0
def PySem.W.Fast.tw7206790962779900451 : Nat := 0
def PySem.W.Fast.tw7743343076751411218 : Nat := 0
def PySem.W.Fast.tw2651066599084496937 : Nat := 0
def PySem.W.Fast.tw3110709265915684910 : Nat := 0
def PySem.W.Fast.tw15463063123447327845 : Nat := 0
def PySem.W.Fast.tw5642355273737354898 : Nat := 0
def PySem.W.Fast.tw6626259082935626117 : Nat := 0
def PySem.W.Fast.tw18138058390894673467 : Nat := 0
def PySem.W.Fast.tw4621672307710949413 : Nat := 0
def PySem.W.Fast.tw17535898056711018624 : Nat := 0
def PySem.W.Fast.tw17237093072930361864 : Nat := 0
def PySem.W.Fast.tw7345415285637443129 : Nat := 0
def PySem.W.Fast.tw12200614105393802525 : Nat := 0
def PySem.W.Fast.tw855234965515980731 : Nat := 0
def PySem.W.Fast.tw13163971368498159588 : Nat := 0
def PySem.W.Fast.tw2767767889874662362 : Nat := 0
def PySem.W.Fast.tw7600935933552412507 : Nat := 0
def PySem.W.Fast.tw12906044241844501573 : Nat := 0
def PySem.W.Fast.tw2373721703487178274 : Nat := 0
def PySem.W.Fast.tw15600670282127951530 : Nat := 0
def PySem.W.Fast.tw3459350166703005329 : Nat := 0
def PySem.W.Fast.tw16139823789069183186 : Nat := 0
def PySem.W.Fast.tw10290249243745940857 : Nat := 0
def PySem.W.Fast.tw15954414433864928207 : Nat := 0
def PySem.W.Fast.tw15999388705758058910 : Nat := 0
def PySem.W.Fast.tw6093224632631426736 : Nat := 0
def PySem.W.Fast.tw9354220823706937004 : Nat := 0
def PySem.W.Fast.tw5386468152524858724 : Nat := 0
def PySem.W.Fast.tw17934977905918863038 : Nat := 0
def PySem.W.Fast.tw15274172696018732664 : Nat := 0
def PySem.W.Fast.tw1734773356345798567 : Nat := 0
def PySem.W.Fast.tw6365675001010748952 : Nat := 0
def PySem.W.Fast.tw9385552112338402229 : Nat := 0
def PySem.W.Fast.tw8443989983347012734 : Nat := 0
def PySem.W.Fast.tw12911469561069654503 : Nat := 0
def PySem.W.Fast.tw15925015546152363960 : Nat := 0
def PySem.W.Fast.tw8424435862714533118 : Nat := 0
def PySem.W.Fast.tw10522083612165103364 : Nat := 0
def PySem.W.Fast.tw8344268800051122875 : Nat := 0
def PySem.W.Fast.tw10211842187945678742 : Nat := 0
def PySem.W.Fast.tw862752601087059792 : Nat := 0
def PySem.W.Fast.tw1252182554658054993 : Nat := 0
def PySem.W.Fast.tw858895304685058239 : Nat := 0
def PySem.W.Fast.tw14464902390389092584 : Nat := 0
def PySem.W.Fast.tw1539626813354210871 : Nat := 0
def PySem.W.Fast.tw18426142520628559602 : Nat := 0
def PySem.W.Fast.tw13918625387939235398 : Nat := 0
def PySem.W.Fast.tw9818922046379046927 : Nat := 0
def PySem.W.Fast.tw2800905848022958883 : Nat := 0
def PySem.W.Fast.tw9407368576208123919 : Nat := 0
def PySem.W.Fast.tw7782786675555432510 : Nat := 0
def PySem.W.Fast.tw17810196257215695509 : Nat := 0
def PySem.W.Fast.tw3169884638959262716 : Nat := 0
def PySem.W.Fast.tw12896062541015448163 : Nat := 0
def PySem.W.Fast.tw8206482438407268421 : Nat := 0
def PySem.W.Fast.tw17536338677663399572 : Nat := 0
def PySem.W.Fast.tw12935894914612242232 : Nat := 0
def PySem.W.Fast.tw9948558512317680040 : Nat := 0
def PySem.W.Fast.tw6170674825720627181 : Nat := 0
def PySem.W.Fast.tw10438228226060864146 : Nat := 0
def PySem.W.Fast.tw15509163700869018169 : Nat := 0
def PySem.W.Fast.tw10123121599637363027 : Nat := 0
def PySem.W.Fast.tw8887536653573824222 : Nat := 0
def PySem.W.Fast.tw2664095759841709201 : Nat := 0
def PySem.W.Fast.tw1062501444124387591 : Nat := 0
def PySem.W.Fast.tw3172647935538380769 : Nat := 0
def PySem.W.Fast.tw6542132864127042930 : Nat := 0
def PySem.W.Fast.tw5724802398635237826 : Nat := 0
def PySem.W.Fast.tw2970531042233227582 : Nat := 0
def PySem.W.Fast.tw11342806275286750658 : Nat := 0
def PySem.W.Fast.tw18306587475195390749 : Nat := 0
def PySem.W.Fast.tw3041641386810017186 : Nat := 0
def PySem.W.Fast.tw12183403460763536630 : Nat := 0
def PySem.W.Fast.tw2358075423628457824 : Nat := 0
def PySem.W.Fast.tw5555752300375258264 : Nat := 0
def PySem.W.Fast.tw8458227648726954936 : Nat := 0
def PySem.W.Fast.tw13353899158868662011 : Nat := 0
def PySem.W.Fast.tw14150979952455064462 : Nat := 0
def PySem.W.Fast.tw17478423152509157789 : Nat := 0
def PySem.W.Fast.tw8518035520946371630 : Nat := 0
def PySem.W.Fast.tw9263834640561918809 : Nat := 0
def PySem.W.Fast.tw16195243906135916351 : Nat := 0
def PySem.W.Fast.tw1685467238811123315 : Nat := 0
def PySem.W.Fast.tw8598563857557166261 : Nat := 0
def PySem.W.Fast.tw9600413069911270322 : Nat := 0
def PySem.W.Fast.tw16559497034534062243 : Nat := 0
def PySem.W.Fast.tw2422409069519576936 : Nat := 0
def PySem.W.Fast.tw3560705036608751815 : Nat := 0
def PySem.W.Fast.tw10726658667766769283 : Nat := 0
def PySem.W.Fast.tw16053104544436779324 : Nat := 0
def PySem.W.Fast.tw7844980422258346744 : Nat := 0
def PySem.W.Fast.tw607493355058504366 : Nat := 0
def PySem.W.Fast.tw2621721830854647270 : Nat := 0
def PySem.W.Fast.tw7950499171438349487 : Nat := 0
def PySem.W.Fast.tw94060853031077446 : Nat := 0
def PySem.W.Fast.tw11899458549328179570 : Nat := 0
def PySem.W.Fast.tw17287722303883805332 : Nat := 0
def PySem.W.Fast.tw12754036772019147211 : Nat := 0
def PySem.W.Fast.tw3894012608284138277 : Nat := 0
namespace Rim
open PySem L2 Fr
theorem walk {l : W.OpenLaw} {q : Program} {loose : List Str} {XP : (Str -> Option Value) -> Heap -> Prop} {YP : World -> Heap -> Prop} {d : DefRec} {K : Params -> W.Frag} (hn : l.most = some 63) (hdf : d.params.defaults = [])
    (hY : ∀ (w : World) (h : Heap), YP w h -> (K w.params).In h)
    (F : ∀ (w : World) (mg : Str -> Option Value) (fa : Addr) (h : Heap), (K w.params).In h -> h.Ns mainGlobals mg -> mg d.name = some (.ref fa) →
      ∃ fd : FuncData, (∀ (s : Shared) (u : Value), BindsTo s fd ⟨[u], []⟩ [("script", u)]) /\ ∀ base : Heap, (K w.params).In base -> base.Ns mainGlobals mg -> x8 l.prog w (K w.params) mg base K1 10 fa fd ["script"] (a3f (K w.params))) :
    W.WalkO q loose XP YP l.row.toRowW d [] (fun f vs => PySem.call f vs) :=
  L2.walk_ofT (n := 63) (k := 10) (x := "script") (Ts := []) (CX := fun _ => K1) (sp := fun w => a3f (K w.params)) hn (by decide) hdf ⟨rfl, by decide, by decide⟩ (fun w h Y => ⟨hY w h Y, fun _ ht => by cases ht⟩) (fun _ _ ht => by cases ht) (fun w mg fa h X G hm => by
    obtain ⟨fd, h1, h2⟩ := F w mg fa h X G hm
    exact ⟨fd, h1, fun base b1 b2 _ _ => h2 base b1 b2⟩) (fun _ _ a ns hl _ hS => ⟨a, ns, rfl, hS, hl, fun _ => rfl⟩) fun _ _ _ _ _ z => z
end Rim
open PySem PySem.W PyProof.Rows
set_option maxRecDepth 100000 in
set_option maxHeartbeats 0 in
theorem PySem.Challenge.cw_rimhouse_k13_books_as_texts_holds : PySem.Challenge.rw_rimhouse_k13_books_as_texts.Holds := by
  w_on; o_law; km_head; (case hw => w_witness2)
  k_fill
  refine' Rim.walk (l := PySem.Challenge.rw_rimhouse_k13_books_as_texts) rfl rfl ?Y ?F
  case Y => exact fun w h Y => W.km_in_of Y
  case F =>
    intro w mg fa h KX G hmg
    refine' Rim.all_mk KX G hmg ?aD ?a1 ?l1 ?a2 ?l2 ?a3 ?l3 ?a4 ?l4 ?a5 ?l5 ?a6 ?l6 ?a7 ?l7 ?a8 ?l8 ?a9 ?l9 ?a10 ?l10 ?a11 ?l11 ?a12 ?l12 ?a13 ?l13 ?a14 ?l14 ?a15 ?l15 ?a16 ?l16 ?a17 ?l17 ?a18 ?l18 ?a19 ?l19 ?a20 ?l20 ?a21 ?l21 ?a22 ?l22 ?n22 ?a23 ?l23 ?a24 ?l24 ?a25 ?l25 ?n25 ?a26 ?l26 ?a27 ?l27 ?n27 ?a28 ?l28 ?a29 ?l29 ?a30 ?l30 ?a31 ?l31 ?a32 ?l32 ?a33 ?l33 ?a34 ?l34 ?a35 ?l35 ?a36 ?l36 ?c36 ?k36 ?z1 ?z2 ?z3 ?z4 ?z5 ?z6 ?z7 ?z8 ?z9 ?z10 ?z11 ?z12 ?z13 ?z14 ?z15 ?z16 ?z17 ?ddp ?ddh ?ddo ?dds ?dd_book ?dd_sizes ?dd_past ?ddm ?ddk ?dmASKS ?dlASKS ?dkASKS ?dpASKS ?dyASKS ?dmDEEDS ?dlDEEDS ?dkDEEDS ?dpDEEDS ?dyDEEDS ?dmFORMS ?dlFORMS ?dkFORMS ?dpFORMS ?dyFORMS ?fl_house ?fl_drop ?fl_alter ?fl_sizes ?fl_back ?fl_share ?fl_grow ?fl_others ?fl_alone ?fl_scale ?fl_rim ?fl_levels ?fl_order ?fl_book ?zm ?zl ?zf ?zstr ?xmNoHouse ?xoNoHouse ?xgaNoHouse ?xgnNoHouse ?xcaNoHouse ?xmoNoHouse ?xmbNoHouse ?xmNoBook ?xoNoBook ?xgaNoBook ?xgnNoBook ?xcaNoBook ?xmoNoBook ?xmbNoBook ?xmRimError ?xoRimError ?xgaRimError ?xgnRimError ?xcaRimError ?xmoRimError ?xmbRimError ?xmNoRow ?xoNoRow ?xgaNoRow ?xgnNoRow ?xcaNoRow ?xmoNoRow ?xmbNoRow ?xmNoText ?xoNoText ?xgaNoText ?xgnNoText ?xcaNoText ?xmoNoText ?xmbNoText ?xmTooMany ?xoTooMany ?xgaTooMany ?xgnTooMany ?xcaTooMany ?xmoTooMany ?xmbTooMany ?xmNothingLeft ?xoNothingLeft ?xgaNothingLeft ?xgnNothingLeft ?xcaNothingLeft ?xmoNothingLeft ?xmbNothingLeft ?cmMOST_AMOUNT ?cmMOST_HOUSES ?cmMOST_FIGURES ?cmMOST_KINDS ?eSub_NoText ?eI_NoText_NoBook ?eI_NoText_NoHouse ?eI_NoText_NoRow ?eI_NoText_TooMany ?eI_NoText_NothingLeft ?eIV_NoText
    (case aD => k_is)
    (case a1 => k_is)
    (case l1 => (refine' L2.fun_in ?l ?c ?k; (case l => k_is); (case c => k_is); (case k => k_is)))
    (case a2 => k_is)
    (case l2 => (refine' L2.fun_in ?l ?c ?k; (case l => k_is); (case c => k_is); (case k => k_is)))
    (case a3 => k_is)
    (case l3 => (refine' L2.fun_in ?l ?c ?k; (case l => k_is); (case c => k_is); (case k => k_is)))
    (case a4 => k_is)
    (case l4 => (refine' L2.fun_in ?l ?c ?k; (case l => k_is); (case c => k_is); (case k => k_is)))
    (case a5 => k_is)
    (case l5 => (refine' L2.fun_in ?l ?c ?k; (case l => k_is); (case c => k_is); (case k => k_is)))
    (case a6 => k_is)
    (case l6 => (refine' L2.fun_in ?l ?c ?k; (case l => k_is); (case c => k_is); (case k => k_is)))
    (case a7 => k_is)
    (case l7 => (refine' L2.fun_in ?l ?c ?k; (case l => k_is); (case c => k_is); (case k => k_is)))
    (case a8 => k_is)
    (case l8 => (refine' L2.fun_in ?l ?c ?k; (case l => k_is); (case c => k_is); (case k => k_is)))
    (case a9 => k_is)
    (case l9 => (refine' L2.fun_in ?l ?c ?k; (case l => k_is); (case c => k_is); (case k => k_is)))
    (case a10 => k_is)
    (case l10 => (refine' L2.fun_in ?l ?c ?k; (case l => k_is); (case c => k_is); (case k => k_is)))
    (case a11 => k_is)
    (case l11 => (refine' L2.fun_in ?l ?c ?k; (case l => k_is); (case c => k_is); (case k => k_is)))
    (case a12 => k_is)
    (case l12 => (refine' L2.fun_in ?l ?c ?k; (case l => k_is); (case c => k_is); (case k => k_is)))
    (case a13 => k_is)
    (case l13 => (refine' L2.fun_in ?l ?c ?k; (case l => k_is); (case c => k_is); (case k => k_is)))
    (case a14 => k_is)
    (case l14 => (refine' L2.fun_in ?l ?c ?k; (case l => k_is); (case c => k_is); (case k => k_is)))
    (case a15 => k_is)
    (case l15 => (refine' L2.fun_in ?l ?c ?k; (case l => k_is); (case c => k_is); (case k => k_is)))
    (case a16 => k_is)
    (case l16 => (refine' L2.fun_in ?l ?c ?k; (case l => k_is); (case c => k_is); (case k => k_is)))
    (case a17 => k_is)
    (case l17 => (refine' L2.fun_in ?l ?c ?k; (case l => k_is); (case c => k_is); (case k => k_is)))
    (case a18 => k_is)
    (case l18 => (refine' L2.fun_in ?l ?c ?k; (case l => k_is); (case c => k_is); (case k => k_is)))
    (case a19 => k_is)
    (case l19 => (refine' L2.fun_in ?l ?c ?k; (case l => k_is); (case c => k_is); (case k => k_is)))
    (case a20 => k_is)
    (case l20 => (refine' L2.fun_in ?l ?c ?k; (case l => k_is); (case c => k_is); (case k => k_is)))
    (case a21 => k_is)
    (case l21 => (refine' L2.fun_in ?l ?c ?k; (case l => k_is); (case c => k_is); (case k => k_is)))
    (case a22 => k_is)
    (case l22 => (refine' L2.fun_in ?l ?c ?k; (case l => k_is); (case c => k_is); (case k => k_is)))
    (case n22 => k_is)
    (case a23 => k_is)
    (case l23 => (refine' L2.fun_in ?l ?c ?k; (case l => k_is); (case c => k_is); (case k => k_is)))
    (case a24 => k_is)
    (case l24 => (refine' L2.fun_in ?l ?c ?k; (case l => k_is); (case c => k_is); (case k => k_is)))
    (case a25 => k_is)
    (case l25 => (refine' L2.fun_in ?l ?c ?k; (case l => k_is); (case c => k_is); (case k => k_is)))
    (case n25 => k_is)
    (case a26 => k_is)
    (case l26 => (refine' L2.fun_in ?l ?c ?k; (case l => k_is); (case c => k_is); (case k => k_is)))
    (case a27 => k_is)
    (case l27 => (refine' L2.fun_in ?l ?c ?k; (case l => k_is); (case c => k_is); (case k => k_is)))
    (case n27 => k_is)
    (case a28 => k_is)
    (case l28 => (refine' L2.fun_in ?l ?c ?k; (case l => k_is); (case c => k_is); (case k => k_is)))
    (case a29 => k_is)
    (case l29 => (refine' L2.fun_in ?l ?c ?k; (case l => k_is); (case c => k_is); (case k => k_is)))
    (case a30 => k_is)
    (case l30 => (refine' L2.fun_in ?l ?c ?k; (case l => k_is); (case c => k_is); (case k => k_is)))
    (case a31 => k_is)
    (case l31 => (refine' L2.fun_in ?l ?c ?k; (case l => k_is); (case c => k_is); (case k => k_is)))
    (case a32 => k_is)
    (case l32 => (refine' L2.fun_in ?l ?c ?k; (case l => k_is); (case c => k_is); (case k => k_is)))
    (case a33 => k_is)
    (case l33 => (refine' L2.fun_in ?l ?c ?k; (case l => k_is); (case c => k_is); (case k => k_is)))
    (case a34 => k_is)
    (case l34 => (refine' L2.fun_in ?l ?c ?k; (case l => k_is); (case c => k_is); (case k => k_is)))
    (case a35 => k_is)
    (case l35 => (refine' L2.fun_in ?l ?c ?k; (case l => k_is); (case c => k_is); (case k => k_is)))
    (case a36 => k_is)
    (case l36 => k_is)
    (case c36 => k_is)
    (case k36 => k_is)
    (case z1 => k_is)
    (case z2 => k_is)
    (case z3 => k_is)
    (case z4 => k_is)
    (case z5 => k_is)
    (case z6 => k_is)
    (case z7 => k_is)
    (case z8 => k_is)
    (case z9 => k_is)
    (case z10 => k_is)
    (case z11 => k_is)
    (case z12 => k_is)
    (case z13 => k_is)
    (case z14 => k_is)
    (case z15 => k_is)
    (case z16 => k_is)
    (case z17 => k_is)
    (case ddp => k_is)
    (case ddh => k_is)
    (case ddo => k_is)
    (case dds => k_is)
    (case dd_book => k_is)
    (case dd_sizes => k_is)
    (case dd_past => k_is)
    (case ddm => k_is)
    (case ddk => k_is)
    (case dmASKS => k_is)
    (case dlASKS => k_is)
    (case dkASKS => k_keys)
    (case dpASKS => exact .cons ⟨_, rfl, rfl⟩ (.cons ⟨_, rfl, rfl⟩ (.cons ⟨_, rfl, rfl⟩ (.cons ⟨_, rfl, rfl⟩ (.cons ⟨_, rfl, rfl⟩ (.cons ⟨_, rfl, rfl⟩ (.cons ⟨_, rfl, rfl⟩ (.cons ⟨_, rfl, rfl⟩ (.cons ⟨_, rfl, rfl⟩ (.nil))))))))))
    (case dyASKS => rfl)
    (case dmDEEDS => k_is)
    (case dlDEEDS => k_is)
    (case dkDEEDS => k_keys)
    (case dpDEEDS => exact .cons ⟨_, rfl, rfl⟩ (.cons ⟨_, rfl, rfl⟩ (.cons ⟨_, rfl, rfl⟩ (.cons ⟨_, rfl, rfl⟩ (.nil)))))
    (case dyDEEDS => rfl)
    (case dmFORMS => k_is)
    (case dlFORMS => k_is)
    (case dkFORMS => k_keys)
    (case dpFORMS => exact .cons ⟨_, rfl, rfl⟩ (.cons ⟨_, rfl, rfl⟩ (.cons ⟨_, rfl, rfl⟩ (.cons ⟨_, rfl, rfl⟩ (.cons ⟨_, rfl, rfl⟩ (.cons ⟨_, rfl, rfl⟩ (.cons ⟨_, rfl, rfl⟩ (.cons ⟨_, rfl, rfl⟩ (.cons ⟨_, rfl, rfl⟩ (.cons ⟨_, rfl, rfl⟩ (.cons ⟨_, rfl, rfl⟩ (.cons ⟨_, rfl, rfl⟩ (.cons ⟨_, rfl, rfl⟩ (.cons ⟨_, rfl, rfl⟩ (.nil)))))))))))))))
    (case dyFORMS => rfl)
    (case fl_house => k_is)
    (case fl_drop => k_is)
    (case fl_alter => k_is)
    (case fl_sizes => k_is)
    (case fl_back => k_is)
    (case fl_share => k_is)
    (case fl_grow => k_is)
    (case fl_others => k_is)
    (case fl_alone => k_is)
    (case fl_scale => k_is)
    (case fl_rim => k_is)
    (case fl_levels => k_is)
    (case fl_order => k_is)
    (case fl_book => k_is)
    (case zm => k_is)
    (case zl => k_is)
    (case zf => k_is)
    (case zstr => k_is)
    (case xmNoHouse => k_is)
    (case xoNoHouse => k_exc)
    (case xgaNoHouse => k_is)
    (case xgnNoHouse => k_is)
    (case xcaNoHouse => k_is)
    (case xmoNoHouse => k_is)
    (case xmbNoHouse => k_is)
    (case xmNoBook => k_is)
    (case xoNoBook => k_exc)
    (case xgaNoBook => k_is)
    (case xgnNoBook => k_is)
    (case xcaNoBook => k_is)
    (case xmoNoBook => k_is)
    (case xmbNoBook => k_is)
    (case xmRimError => k_is)
    (case xoRimError => k_exc)
    (case xgaRimError => k_is)
    (case xgnRimError => k_is)
    (case xcaRimError => k_is)
    (case xmoRimError => k_is)
    (case xmbRimError => k_is)
    (case xmNoRow => k_is)
    (case xoNoRow => k_exc)
    (case xgaNoRow => k_is)
    (case xgnNoRow => k_is)
    (case xcaNoRow => k_is)
    (case xmoNoRow => k_is)
    (case xmbNoRow => k_is)
    (case xmNoText => k_is)
    (case xoNoText => k_exc)
    (case xgaNoText => k_is)
    (case xgnNoText => k_is)
    (case xcaNoText => k_is)
    (case xmoNoText => k_is)
    (case xmbNoText => k_is)
    (case xmTooMany => k_is)
    (case xoTooMany => k_exc)
    (case xgaTooMany => k_is)
    (case xgnTooMany => k_is)
    (case xcaTooMany => k_is)
    (case xmoTooMany => k_is)
    (case xmbTooMany => k_is)
    (case xmNothingLeft => k_is)
    (case xoNothingLeft => k_exc)
    (case xgaNothingLeft => k_is)
    (case xgnNothingLeft => k_is)
    (case xcaNothingLeft => k_is)
    (case xmoNothingLeft => k_is)
    (case xmbNothingLeft => k_is)
    (case cmMOST_AMOUNT => k_is)
    (case cmMOST_HOUSES => k_is)
    (case cmMOST_FIGURES => k_is)
    (case cmMOST_KINDS => k_is)
    (case eSub_NoText => k_is)
    (case eI_NoText_NoBook => kit_is)
    (case eI_NoText_NoHouse => kit_is)
    (case eI_NoText_NoRow => kit_is)
    (case eI_NoText_TooMany => kit_is)
    (case eI_NoText_NothingLeft => kit_is)
    (case eIV_NoText => kit_is)
