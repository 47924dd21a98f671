import PyProof.Rows.All
import Wide.All
import OpenK.AllK
import Wide.FinOn
import Lean
import PyProof.EqAt
import PyProof.EqKinds
import PyProof.TupleCall
import PyProof.NeData
import PyProof.ZipIter
import PyProof.EnumMake
import PyProof.EnumFor
import KE.KMinKey
import KE.KUnpack
import KE.KNestM
import KE.KLam
import PySem.Challenge.RW_rimhouse_k20_houses_at_prices
set_option Elab.async false
set_option linter.all false
set_option maxRecDepth 100000
namespace L2
open PySem PySem.Spec PyProof.Rows
abbrev Key := Sum Int Str
def keyIs : Key -> Value -> Bool
  | .inl k, v => Value.isInt k v
  | .inr x, v => Value.isStrOf x v
def keyH (w : World) : Key -> Int
  | .inl k => hashInt k
  | .inr x => hashStr w x
theorem keyIs_shape : ∀ {k : Key} {v : Value}, keyIs k v = true -> (∃ i t, k = Sum.inl i /\ v = Value.int i t) \/ (∃ x t, k = Sum.inr x /\ v = Value.str x t)
  | .inl i, v, h => by
    obtain ⟨t, e⟩ := Value.isInt_shape (k := i) (v := v) h
    exact .inl ⟨i, t, rfl, e⟩
  | .inr x, v, h => by
    obtain ⟨t, e⟩ := Value.isStrOf_shape (x := x) (v := v) h
    exact .inr ⟨x, t, rfl, e⟩
theorem key_ll (a b : Int) : decide ((Sum.inl a : Key) = Sum.inl b) = (a == b) := by
  by_cases e : a = b
  . subst e; simp
  . have h : ¬ (Sum.inl a : Key) = Sum.inl b := fun q => e (Sum.inl.inj q)
    rw [decide_eq_false h]
    exact (beq_eq_false_iff_ne.mpr e).symm
theorem key_rr (a b : Str) : decide ((Sum.inr a : Key) = Sum.inr b) = decide (a = b) := by
  by_cases e : a = b
  . subst e; simp
  . have h : ¬ (Sum.inr a : Key) = Sum.inr b := fun q => e (Sum.inr.inj q)
    rw [decide_eq_false h, decide_eq_false e]
theorem key_lr (a : Int) (b : Str) : decide ((Sum.inl a : Key) = Sum.inr b) = false := decide_eq_false (fun q => nomatch q)
theorem key_rl (a : Str) (b : Int) : decide ((Sum.inr a : Key) = Sum.inl b) = false := decide_eq_false (fun q => nomatch q)
def mixKind (prog : Program) (w : World) : PySem.KeyKind prog w Key where
  is := keyIs
  hash := keyH w
  inj := fun v a b ha hb => by
    rcases keyIs_shape ha with ⟨i, t, rfl, rfl⟩ | ⟨x, t, rfl, rfl⟩
    . rcases keyIs_shape hb with ⟨j, u, rfl, e⟩ | ⟨y, u, rfl, e⟩
      . injection e with e1 _; rw [e1]
      . exact nomatch e
    . rcases keyIs_shape hb with ⟨j, u, rfl, e⟩ | ⟨y, u, rfl, e⟩
      . exact nomatch e
      . injection e with e1 _; rw [e1]
  byValue := fun k v h => by
    rcases keyIs_shape h with ⟨i, t, rfl, rfl⟩ | ⟨x, t, rfl, rfl⟩ <;> rfl
  pyHash := fun hv h => by
    rcases keyIs_shape hv with ⟨i, t, rfl, rfl⟩ | ⟨x, t, rfl, rfl⟩
    . exact wpAny_pyHash_int h
    . exact wpAny_pyHash_str h
  eqBool := fun hu hv h => by
    rcases keyIs_shape hu with ⟨i, t, rfl, rfl⟩ | ⟨x, t, rfl, rfl⟩
    . rcases keyIs_shape hv with ⟨j, u, rfl, rfl⟩ | ⟨y, u, rfl, rfl⟩
      . rw [key_ll] at h; exact wpAny_eqBool_int h
      . rw [key_lr] at h; exact SeqAt.EqAt.int_str i t y u _ _ _ _ h
    . rcases keyIs_shape hv with ⟨j, u, rfl, rfl⟩ | ⟨y, u, rfl, rfl⟩
      . rw [key_rl] at h; exact SeqAt.EqAt.str_int x t j u _ _ _ _ h
      . rw [key_rr] at h; exact wpAny_eqBool_str h
  «strs» := fun k x t v h => by
    rcases keyIs_shape h with ⟨i, u, rfl, e⟩ | ⟨y, u, rfl, e⟩
    . exact nomatch e
    . injection e with e1 _
      subst e1
      cases v <;> rfl
end L2
namespace L2
open PySem PySem.Spec PyProof.Rows
inductive V where
  | non | bl (b : Bool) | int (i : Int) | str (x : Str) | byt (b : Array UInt8) | flt (b : UInt64) | ref (a : Addr) | ty (n : String)
  deriving DecidableEq
def RelV : V -> Value -> Prop
  | .non, u => u = Value.none
  | .bl b, u => u = Value.bool b
  | .int i, u => ∃ t, u = Value.int i t
  | .str x, u => ∃ t, u = Value.str x t
  | .byt b, u => ∃ t, u = Value.bytes b t
  | .flt b, u => ∃ t, u = Value.float b t
  | .ref a, u => u = Value.ref a
  | .ty n, u => u = Value.type n
abbrev Vals : List V -> List Value -> Prop := Paired RelV
theorem Vals.length {xs : List V} {us : List Value} (r : Vals xs us) : xs.length = us.length := Paired.length r
theorem Vals.get : ∀ {xs : List V} {us : List Value} {i : Nat} {x : V}, Vals xs us -> xs[i]? = some x -> ∃ u, us[i]? = some u /\ RelV x u
  | _, _, _, _, .nil, e => by simp at e
  | _, _, 0, _, .cons r _, e => by simp at e; subst e; exact ⟨_, rfl, r⟩
  | _, _, i + 1, x, .cons _ t, e => by
    obtain ⟨u, h1, h2⟩ := Vals.get (i := i) (x := x) t (by simpa using e)
    exact ⟨u, by simpa using h1, h2⟩
theorem Vals.set {x : V} {u : Value} (r : RelV x u) : ∀ {xs : List V} {us : List Value} (i : Nat), Vals xs us -> Vals (xs.set i x) (us.set i u)
  | _, _, _, .nil => .nil
  | _, _, 0, .cons _ t => .cons r t
  | _, _, i + 1, .cons q t => .cons q (Vals.set r i t)
theorem Vals.append : ∀ {xs ys : List V} {us ws : List Value}, Vals xs us -> Vals ys ws -> Vals (xs ++ ys) (us ++ ws)
  | _, _, _, _, .nil, s => s
  | _, _, _, _, .cons r t, s => .cons r (Vals.append t s)
theorem Vals.take : ∀ {xs : List V} {us : List Value} (n : Nat), Vals xs us -> Vals (xs.take n) (us.take n)
  | _, _, 0, _ => .nil
  | _, _, _ + 1, .nil => .nil
  | _, _, n + 1, .cons r t => .cons r (Vals.take n t)
theorem Vals.drop : ∀ {xs : List V} {us : List Value} (n : Nat), Vals xs us -> Vals (xs.drop n) (us.drop n)
  | _, _, 0, r => r
  | _, _, _ + 1, .nil => .nil
  | _, _, n + 1, .cons _ t => Vals.drop n t
theorem Vals.none_of : ∀ {xs : List V} {us : List Value} {i : Nat}, Vals xs us -> xs[i]? = none -> us[i]? = none := fun {xs us i} r e => by
  have h1 := r.length
  have h2 : xs.length <= i := List.getElem?_eq_none_iff.mp e
  exact List.getElem?_eq_none_iff.mpr (by omega)
def RelO : Option V -> Option Value -> Prop
  | some v, some u => RelV v u
  | none, none => True
  | _, _ => False
def KV {κ : Type} : List (κ × V) -> List (κ × Value) -> Prop := Paired fun (p : κ × V) (q : κ × Value) => p.1 = q.1 /\ RelV p.2 q.2
def kV : Key -> V
  | .inl i => .int i
  | .inr x => .str x
inductive HO where
  /-- a list -/
  | lst (xs : List V)
  /-- a tuple (never changes) -/
  | tup (xs : List V)
  /-- a dict whose keys are ints and texts; one whose keys are tuples of ints and texts (the empty one is both) -/
  | dK (kvs : List (Key × V)) | dT (kvs : List (List Key × V))
  /-- a set of ints: its members, its size -/
  | set (S : Int -> Bool) (n : Nat)
  /-- an instance of the class at C, its dict at dx, its attributes -/
  | ins (C dx : Addr) (fs : List (Str × V))
  /-- the dict of the instance at x -/
  | own (x : Addr)
  /-- the dict of an exception -/
  | xd (fs : List (Str × V))
  /-- a bound method, f of x -/
  | met (f x : Addr)
  /-- a range object lo, lo + 1, .. below hi -/
  | rng (lo hi : Int)
  /-- a thing that is known to the object (the script; a dict while a loop walks it): read, never written while it is so -/
  | frz (o : Obj) (u : HO)
  /-- a code object's table -/
  | tbl (ps : Array Value)
  /-- any other thing, by what is true of its one object (a def of one's own: SetO a S n := HO.ext fun h => ..) -/
  | ext (φ : Heap -> Prop)
abbrev Hp := Addr -> Option HO
def upd (H : Hp) (a : Addr) (o : HO) : Hp := fun b => if b = a then some o else H b
theorem upd_same {H : Hp} {a : Addr} {o : HO} : upd H a o a = some o := by unfold upd; rw [if_pos rfl]
theorem upd_ne {H : Hp} {a b : Addr} {o : HO} (h : b ≠ a) : upd H a o b = H b := by unfold upd; rw [if_neg h]
theorem upd_upd {H : Hp} {a : Addr} {o u : HO} : upd (upd H a o) a u = upd H a u := by
  funext b; unfold upd; split <;> rfl
theorem ne_of {H : Hp} {a b : Addr} {o u : HO} (h : H a = some o) (h' : H b = some u) (d : o ≠ u) : a ≠ b := by
  intro e; subst e; rw [h] at h'; exact d (Option.some.inj h')
theorem ne_of_none {H : Hp} {a b : Addr} {o : HO} (h : H a = some o) (h' : H b = none) : a ≠ b := by
  intro e; subst e; rw [h] at h'; cases h'
section
variable (P : Program) (w : World)
def ObjOk (H : Hp) (h : Heap) (a : Addr) : HO -> Prop
  | .lst xs => xs.length <= sizeLine /\ ∃ (its : List Value) (n : Nat), Vals xs its /\ h.get? a = some { cls := .type "list", data := .seq its.toArray n }
  | .tup xs => xs.length <= sizeLine /\ ∃ its : List Value, Vals xs its /\ IsTup h a its.toArray
  | .dK kvs => kvs.length <= sizeLine /\ (a == sysModules) = false /\ ∃ vs, KV kvs vs /\ h.DictOf (mixKind P w) a vs
  | .dT kvs => kvs.length <= sizeLine /\ (a == sysModules) = false /\ ∃ xs : List (List Key × Addr × Value),
      Paired (fun (p : List Key × V) (q : List Key × Addr × Value) => p.1 = q.1 /\ H q.2.1 = some (.tup (p.1.map kV)) /\ RelV p.2 q.2.2) kvs xs ∧
      ∃ o es ep, h.get? a = some o /\ o.ExactDict /\ o.data = .dict es ep /\ es.toList = xs.map (entryOfKey (tupleKind (mixKind P w))) /\ (xs.map (·.1)).Nodup
  | .set S n => h.SetOf (intKind P w) a S n
  | .ins C dx fs => H dx = some (.own a) /\ fs.length <= 1000 /\ dx ≠ a /\ h.get? a = some (W.instObj C dx) ∧
      ∃ mA, h.Ns1 dx mA /\ (∀ f, RelO (fs.lookup f) (mA f)) /\ PySem.Within mA (fs.map (·.1))
  | .own _ => ∃ o, h.get? a = some o
  | .xd fs => ∃ mA, h.Ns1 a mA /\ ∀ f, RelO (fs.lookup f) (mA f)
  | .rng lo hi => ∃ t u v, h.get? a = some { cls := .type "range", data := .fields #[.int lo t, .int hi u, .int 1 v] }
  | .frz o u => h.get? a = some o /\ ObjOk H h a u
  | .tbl ps => h.get? a = some { cls := .none, data := .fields ps }
  | .met f x => h.get? a = some (W.methodObj (.ref f) (.ref x))
  | .ext φ => φ h /\ (∃ o, h.get? a = some o) /\ ∀ h1 h2 : Heap, φ h1 -> (∀ o, h1.get? a = some o -> h2.get? a = some o) -> φ h2
def HOk (H : Hp) (h : Heap) : Prop := ∀ a o, H a = some o -> ObjOk P w H h a o
end
section
variable {P : Program} {w : World} {H H' : Hp} {h h' : Heap} {a : Addr} {o : HO}
theorem ObjOk.lt (x : ObjOk P w H h a o) : a < h.objs.size := by
  cases o with
  | lst xs => obtain ⟨_, _, _, _, e⟩ := x; exact Heap.lt_size e
  | tup xs => obtain ⟨_, _, _, p⟩ := x; exact p.lt
  | dK kvs => obtain ⟨_, _, _, _, o, _, _, e, _⟩ := x; exact Heap.lt_size e
  | dT kvs => obtain ⟨_, _, _, _, o, _, _, e, _⟩ := x; exact Heap.lt_size e
  | set S n => obtain ⟨o, _, _, _, e, _⟩ := x; exact Heap.lt_size e
  | ins C dx fs => obtain ⟨_, _, _, e, _⟩ := x; exact Heap.lt_size e
  | own y => obtain ⟨_, e⟩ := x; exact Heap.lt_size e
  | xd fs => obtain ⟨_, ⟨_, _, _, e, _⟩, _⟩ := x; exact Heap.lt_size e
  | rng lo hi => obtain ⟨_, _, _, e⟩ := x; exact Heap.lt_size e
  | frz ob u => obtain ⟨e, _⟩ := x; exact Heap.lt_size e
  | tbl ps => exact Heap.lt_size (show h.get? a = some _ from x)
  | met f y => exact Heap.lt_size (show h.get? a = some _ from x)
  | ext φ => obtain ⟨_, ⟨_, e⟩, _⟩ := x; exact Heap.lt_size e
theorem Paired.mapP {α β : Type} {F G : α -> β -> Prop} : ∀ {l₁ : List α} {l₂ : List β}, Paired F l₁ l₂ -> (∀ a b, F a b -> G a b) -> Paired G l₁ l₂
  | _, _, .nil, _ => .nil
  | _, _, .cons r t, f => .cons (f _ _ r) (Paired.mapP t f)
theorem Paired.imp' {α β : Type} {F G : α -> β -> Prop} (f : ∀ a b, F a b -> G a b) {l₁ : List α} {l₂ : List β} (r : Paired F l₁ l₂) : Paired G l₁ l₂ := Paired.mapP r f
theorem ObjOk.stay (x : ObjOk P w H h a o) (k : ∀ b u, (b = a \/ H b = some (.own a)) -> h.get? b = some u -> h'.get? b = some u)
    (ho : ∀ b, H b = some (.own a) -> H' b = some (.own a)) (ht : ∀ b xs, H b = some (.tup xs) -> H' b = some (.tup xs)) : ObjOk P w H' h' a o := by
  induction o with
  | lst xs => obtain ⟨z, its, n, r, e⟩ := x; exact ⟨z, its, n, r, k _ _ (.inl rfl) e⟩
  | tup xs => obtain ⟨z, its, r, ob, e, c⟩ := x; exact ⟨z, its, r, ob, k _ _ (.inl rfl) e, c⟩
  | dK kvs => obtain ⟨z, y, vs, r, ob, es, ep, e, c⟩ := x; exact ⟨z, y, vs, r, ob, es, ep, k _ _ (.inl rfl) e, c⟩
  | dT kvs =>
    obtain ⟨z, y, xs, r, ob, es, ep, e, c⟩ := x
    exact ⟨z, y, xs, Paired.mapP r fun p q z => ⟨z.1, ht _ _ z.2.1, z.2.2⟩, ob, es, ep, k _ _ (.inl rfl) e, c⟩
  | set S n => obtain ⟨ob, es, ep, t, e, c⟩ := x; exact ⟨ob, es, ep, t, k _ _ (.inl rfl) e, c⟩
  | ins C dx fs =>
    obtain ⟨d, z, ne, e, mA, ⟨od, es, ep, e2, c⟩, r⟩ := x
    exact ⟨ho _ d, z, ne, k _ _ (.inl rfl) e, mA, ⟨od, es, ep, k _ _ (.inr d) e2, c⟩, r⟩
  | own y => obtain ⟨ob, e⟩ := x; exact ⟨ob, k _ _ (.inl rfl) e⟩
  | xd fs => obtain ⟨mA, ⟨od, es, ep, e, c⟩, r⟩ := x; exact ⟨mA, ⟨od, es, ep, k _ _ (.inl rfl) e, c⟩, r⟩
  | rng lo hi => obtain ⟨t, u, v, e⟩ := x; exact ⟨t, u, v, k _ _ (.inl rfl) e⟩
  | frz ob u ih => obtain ⟨e, q⟩ := x; exact ⟨k _ _ (.inl rfl) e, ih q⟩
  | tbl ps =>
    have e : h.get? a = some { cls := .none, data := .fields ps } := x
    show h'.get? a = some { cls := .none, data := .fields ps }
    exact k a _ (.inl rfl) e
  | met f y =>
    have e : h.get? a = some (W.methodObj (.ref f) (.ref y)) := x
    show h'.get? a = some (W.methodObj (.ref f) (.ref y))
    exact k a _ (.inl rfl) e
  | ext φ => obtain ⟨p, ⟨o, e⟩, st⟩ := x; exact ⟨st _ _ p fun o q => k _ _ (.inl rfl) q, ⟨o, k _ _ (.inl rfl) e⟩, st⟩
theorem HOk.lt (x : HOk P w H h) (e : H a = some o) : a < h.objs.size := (x a o e).lt
theorem HOk.fresh (x : HOk P w H h) (e : h.objs.size <= a) : H a = none := by
  cases q : H a with
  | none => rfl
  | some u => exact absurd (Nat.lt_of_lt_of_le (x.lt q) e) (Nat.lt_irrefl _)
theorem HOk.kept (x : HOk P w H h) (k : ∀ b u, h.get? b = some u -> h'.get? b = some u) : HOk P w H h' := fun a o e =>
  (x a o e).stay (fun b u _ q => k b u q) (fun _ q => q) fun _ _ q => q
theorem HOk.laid (x : HOk P w H h) (k : ∀ b u, h.get? b = some u -> h'.get? b = some u) (hp : h.objs.size <= a) (new : ObjOk P w (upd H a o) h' a o) : HOk P w (upd H a o) h' := fun b u e => by
  have hn := x.fresh hp
  by_cases hb : b = a
  . subst hb; rw [upd_same] at e; cases e; exact new
  . rw [upd_ne hb] at e
    exact (x b u e).stay (fun c v _ q => k c v q) (fun c q => by rw [upd_ne (ne_of_none q hn)]; exact q) fun c xs q => by rw [upd_ne (ne_of_none q hn)]; exact q
end
def Rd (H : Hp) (a : Addr) (u : HO) : Prop := H a = some u \/ ∃ o, H a = some (.frz o u)
theorem Rd.ok {P : Program} {w : World} {H : Hp} {h : Heap} {a : Addr} {u : HO} (r : Rd H a u) (x : HOk P w H h) : ObjOk P w H h a u := by
  rcases r with r | ⟨o, r⟩
  . exact x a u r
  . obtain ⟨_, q⟩ := x a _ r
    exact q
def Mut : Option HO -> Prop
  | some (.lst _) => True
  | some (.dK _) => True
  | some (.dT _) => True
  | some (.set _ _) => True
  | some (.ins _ _ _) => True
  | some (.ext _) => True
  | _ => False
section
variable {P : Program} {w : World} {H : Hp} {h h' : Heap} {x e : Addr} {o' : HO}
theorem HOk.write (ok : HOk P w H h) (mu : Mut (H x)) (he : e = x \/ H e = some (.own x)) (k : ∀ b u, b ≠ e -> h.get? b = some u -> h'.get? b = some u) (heo : ∃ u, h'.get? e = some u)
    (new : ObjOk P w (upd H x o') h' x o') : HOk P w (upd H x o') h' := fun b u q => by
  have nown : ∀ c y, H c = some (.own y) -> c ≠ x := fun c y r z => by subst z; rw [r] at mu; exact mu
  have ntup : ∀ c xs, H c = some (.tup xs) -> c ≠ x := fun c xs r z => by subst z; rw [r] at mu; exact mu
  by_cases hb : b = x
  . subst hb; rw [upd_same] at q; cases q; exact new
  . rw [upd_ne hb] at q
    by_cases hbe : b = e
    . have q' : H b = some (.own x) := by
        rcases he with z | z
        . exact absurd (hbe.trans z) hb
        . rw [hbe]; exact z
      rw [q] at q'; cases q'
      obtain ⟨v, hv⟩ := heo
      exact ⟨v, by rw [hbe]; exact hv⟩
    . refine (ok b u q).stay (fun c v hc r => k c v ?_ r) (fun c r => by rw [upd_ne (nown c b r)]; exact r) fun c xs r => by rw [upd_ne (ntup c xs r)]; exact r
      rcases hc with rfl | hc
      . exact hbe
      . rintro rfl
        rcases he with z | z
        . exact nown c b hc z
        . rw [hc] at z; cases z; exact hb rfl
end
structure Un (fs ex : List Addr) (H H' : Hp) (h h' : Heap) : Prop where
  keep : ∀ b o, h.get? b = some o -> H b = none -> b ∉ fs -> b ∉ ex -> h'.get? b = some o
  slot : ∀ b o, h.get? b = some o -> H b = none -> b ∈ fs -> b ∉ ex -> ∃ sl, h'.get? b = some { o with slots := sl }
  free : ∀ b o, h.get? b = some o -> H b = none -> b ∉ ex -> H' b = none
  there : ∀ b o, h.get? b = some o -> b ∉ ex -> ∃ o', h'.get? b = some o'
  tups : ∀ b xs, H b = some (.tup xs) -> H' b = some (.tup xs)
  frzs : ∀ b o u, H b = some (.frz o u) -> H' b = some (.frz o u)
  tbls : ∀ b ps, H b = some (.tbl ps) -> ∃ more, H' b = some (.tbl (ps ++ more))
section
variable {fs fs' ex ex' : List Addr} {H H1 H2 : Hp} {h h1 h2 h' : Heap} {a x e : Addr} {o : HO}
theorem Un.any (u : Un fs ex H H1 h h1) {b : Addr} {ob : Obj} (q : h.get? b = some ob) (n : H b = none) (hx : b ∉ ex) : ∃ sl, h1.get? b = some { ob with slots := sl } := by
  by_cases hb : b ∈ fs
  . exact u.slot b ob q n hb hx
  . exact ⟨ob.slots, u.keep b ob q n hb hx⟩
theorem Un.kept (k : ∀ b u, h.get? b = some u -> h'.get? b = some u) : Un fs ex H H h h' :=
  ⟨fun b ob q _ _ _ => k b ob q, fun b ob q _ _ _ => ⟨ob.slots, k b ob q⟩, fun _ _ _ n _ => n, fun b ob q _ => ⟨ob, k b ob q⟩, fun _ _ q => q, fun _ _ _ q => q, fun _ ps q => ⟨#[], by rw [q]; simp⟩⟩
theorem Un.refl : Un fs ex H H h h := Un.kept fun _ _ q => q
theorem Un.laid (k : ∀ b u, h.get? b = some u -> h'.get? b = some u) (hp : h.objs.size <= a) (hn : H a = none) : Un fs ex H (upd H a o) h h' where
  keep := fun b u q _ _ _ => k b u q
  slot := fun b u q _ _ _ => ⟨u.slots, k b u q⟩
  free := fun b u q n _ => by rw [upd_ne (Nat.ne_of_lt (Nat.lt_of_lt_of_le (Heap.lt_size q) hp))]; exact n
  there := fun b u q _ => ⟨u, k b u q⟩
  tups := fun b xs q => by rw [upd_ne (ne_of_none q hn)]; exact q
  frzs := fun b u xs q => by rw [upd_ne (ne_of_none q hn)]; exact q
  tbls := fun b ps q => ⟨#[], by rw [upd_ne (ne_of_none q hn), q]; simp⟩
theorem Un.write (mu : Mut (H x)) (he : e = x \/ H e = some (.own x)) (k : ∀ b u, b ≠ e -> h.get? b = some u -> h'.get? b = some u) (heo : ∃ u, h'.get? e = some u) : Un fs ex H (upd H x o) h h' := by
  have hx : ∀ b, H b = none -> b ≠ x := fun b n z => by subst z; rw [n] at mu; exact mu
  have hb : ∀ b, H b = none -> b ≠ e := fun b n z => by
    subst z
    rcases he with r | r
    . exact hx b n r
    . rw [n] at r; cases r
  have hm : ∀ b u, H b = some u -> ¬ Mut (some u) -> b ≠ x := fun b u q nm z => by subst z; rw [q] at mu; exact nm mu
  refine ⟨fun b u q n _ _ => k b u (hb b n) q, fun b u q n _ _ => ⟨u.slots, k b u (hb b n) q⟩, fun b u q n _ => by rw [upd_ne (hx b n)]; exact n, fun b u q _ => ?_,
    fun b xs q => by rw [upd_ne (hm b _ q fun z => z)]; exact q, fun b u xs q => by rw [upd_ne (hm b _ q fun z => z)]; exact q, fun b ps q => ⟨#[], by rw [upd_ne (hm b _ q fun z => z), q]; simp⟩⟩
  by_cases hbe : b = e
  . subst hbe; exact heo
  . exact ⟨u, k b u hbe q⟩
end
def trk (h : Heap) (H : Hp) : List Addr := (List.range h.objs.size).filter fun a => (H a).isSome
def hidT (h : Heap) (H : Hp) : Heap := W.hideAll h (trk h H)
theorem hidT_size (h : Heap) (H : Hp) : (hidT h H).objs.size = h.objs.size := W.hideAll_size _ _
theorem hidT_get {h : Heap} {H : Hp} {b : Addr} {o : Obj} (e : h.get? b = some o) (n : H b = none) : (hidT h H).get? b = some o :=
  W.hideAll_get _ e fun hm => by
    have q : (H b).isSome = true := (List.mem_filter.mp hm).2
    rw [n] at q; simp at q
theorem of_hidT {h : Heap} {H : Hp} {b : Addr} {o : Obj} (e : (hidT h H).get? b = some o) : h.get? b = some o /\ H b = none := by
  have e' : h.get? b = some o := W.of_hideAll (trk h H) e
  refine ⟨e', ?_⟩
  cases q : H b with
  | none => rfl
  | some x =>
    have hm : b ∈ trk h H := List.mem_filter.mpr ⟨List.mem_range.mpr (Heap.lt_size e'), by simp [q]⟩
    have z : (hidT h H).get? b = none := W.hideAll_none (trk h H) hm
    rw [z] at e; cases e
def allNews (g h : Heap) (L : Addr) : List (Addr × Obj) := (List.range h.objs.size).filterMap fun a => if a = L \/ (g.get? a).isSome = true then none else (h.get? a).map fun o => (a, o)
def rest (g h : Heap) (L d : Addr) : List (Addr × Obj) := (allNews g h L).filter fun p => decide (p.1 ≠ d)
end L2
namespace L2
open PySem PySem.Spec PyProof.Rows
structure Mod (K : W.Frag) (mg : Str -> Option Value) (base : Heap) : Prop where
  kin : K.In base
  glob : base.Ns mainGlobals mg
  blt : ∃ mb, base.Ns builtinsNs mb /\ ∀ x : Str, x ≠ "__name__" -> mb x = bootBuiltins x
  nolimit : base.NoLimit
structure Cx where
  prog : Program
  w : World
  K : W.Frag
  mg : Str -> Option Value
  base : Heap
  A : Around
  N : List Str
  s₀ : Shared
  H₀ : Hp
  env : Env
  outer : List Env
  stack : List Env
  ex : List Addr
  fn : Str -> Bool
  calm : Bool
  pn : List (Addr × Obj)
  xe : Value -> Shared -> Prop
def frs (l : List Env) : List Addr := l.filterMap (·.frame)
abbrev Cx.fs (X : Cx) : List Addr := frs X.outer
def Vis (sc : Scope) (x : Str) : Prop := sc.names.lookup x = some .local \/ sc.names.lookup x = some .cell \/ sc.names.lookup x = some .free
def Loc (sc : Scope) (x : Str) : Prop := sc.names.lookup x = some .local \/ sc.names.lookup x = some .cell
def Look (env : Env) (h : Heap) (m : Str -> Option Value) (x : Str) (u : Value) : Prop :=
  (env.kindOf x = some .local /\ m x = some u) \/ ((env.kindOf x = some .cell \/ env.kindOf x = some .free) /\ ∃ c, env.cells.lookup x = some c /\ h.IsCell c (some u))
structure Cx.Ok (X : Cx) : Prop where
  mod : Mod X.K X.mg X.base
  kind : X.env.scope.kind = .function
  glob : X.env.globals = mainGlobals
  blt : X.env.builtins = builtinsNs
  above : X.s₀.heap.objs.size <= X.env.locals
  inj : ∀ x y c, X.env.cells.lookup x = some c -> X.env.cells.lookup y = some c -> x = y
  has : ∀ x, (X.env.kindOf x = some .cell \/ X.env.kindOf x = some .free) -> ∃ c, X.env.cells.lookup x = some c
  cab : ∀ x c, X.fn x = true -> X.env.cells.lookup x = some c -> X.s₀.heap.objs.size <= c
  hd : X.calm = true -> X.A.handled = none
  frames : X.A.frames = some X.stack
  stk : X.stack = X.outer \/ (X.stack = X.env :: X.outer /\ X.env.frame = some X.env.locals)
  exf : ∀ b ∈ X.ex, b ≠ X.env.locals /\ ∀ x c, X.env.cells.lookup x = some c -> c ≠ b
  bs : ∀ b o, X.base.get? b = some o -> X.s₀.heap.get? b = some o /\ X.H₀ b = none
  bsz : X.base.objs.size <= X.s₀.heap.objs.size
  noex : ∀ b o, X.base.get? b = some o -> b ∉ X.ex
  exfs : ∀ b ∈ X.ex, b ∉ X.fs
  funs : X.s₀.heap.FunFrames X.base X.outer
  frf : ∀ b ∈ X.fs, X.H₀ b = none
structure Inv (X : Cx) (pins : List (Addr × Obj)) (σ : List (Option V)) (H : Hp) (s : Shared) : Prop where
  ok : X.Ok
  os : s.os = X.s₀.os
  bare : AllBare s.gens
  base : Un X.fs X.ex X.H₀ H X.s₀.heap s.heap
  loc : ∃ m, s.heap.Ns X.env.locals m /\ ∀ (i : Nat) (x : Str) (v : V), X.N[i]? = some x -> σ[i]? = some (some v) -> Vis X.env.scope x -> ∃ u, RelV v u /\ Look X.env s.heap m x u
  cell : ∀ x c, X.env.cells.lookup x = some c -> ∃ v, s.heap.IsCell c v
  free : H X.env.locals = none
  freeC : ∀ x c, X.env.cells.lookup x = some c -> H c = none
  pin : ∀ p ∈ X.pn ++ pins, s.heap.get? p.1 = some p.2 /\ H p.1 = none /\ p.1 ≠ X.env.locals /\ p.1 ∉ X.fs /\ ∀ v, p.2.data ≠ .cell v
  hok : HOk X.prog X.w H s.heap
  len : σ.length = X.N.length
section
variable {X : Cx} {pins : List (Addr × Obj)} {σ : List (Option V)} {H H' : Hp} {s : Shared} {h' : Heap}
theorem Cx.Ok.nofr (ok : X.Ok) {b : Addr} {o : Obj} (e : X.base.get? b = some o) : b ∉ X.fs := fun hb => by
  have := (ok.funs.mem hb).1
  rw [e] at this; cases this
theorem Inv.bs (I : Inv X pins σ H s) : ∀ b o, X.base.get? b = some o -> s.heap.get? b = some o /\ H b = none := fun b o e =>
  ⟨I.base.keep b o (I.ok.bs b o e).1 (I.ok.bs b o e).2 (I.ok.nofr e) (I.ok.noex b o e), I.base.free b o (I.ok.bs b o e).1 (I.ok.bs b o e).2 (I.ok.noex b o e)⟩
theorem Inv.bk (I : Inv X pins σ H s) : ∀ b o, X.base.get? b = some o -> s.heap.get? b = some o := fun b o e => (I.bs b o e).1
theorem Inv.mod (I : Inv X pins σ H s) : Mod X.K X.mg X.base := I.ok.mod
theorem Inv.kIn (I : Inv X pins σ H s) : X.K.In s.heap := I.ok.mod.kin.keeps I.bk
theorem Inv.lt (I : Inv X pins σ H s) : X.env.locals < s.heap.objs.size := let ⟨_, hn, _⟩ := I.loc; hn.lt
theorem Inv.sz (I : Inv X pins σ H s) : X.s₀.heap.objs.size <= s.heap.objs.size := Nat.le_trans I.ok.above (Nat.le_of_lt I.lt)
theorem Inv.nofs (I : Inv X pins σ H s) {a : Addr} (h : s.heap.objs.size <= a) : a ∉ X.fs := fun hb => by
  obtain ⟨_, o, ho, _⟩ := I.ok.funs.mem hb
  exact absurd (Nat.lt_of_lt_of_le (Heap.lt_size ho) (Nat.le_trans I.sz h)) (Nat.lt_irrefl _)
theorem Inv.cne (I : Inv X pins σ H s) : ∀ x c, X.env.cells.lookup x = some c -> c ≠ X.env.locals := fun x c e z => by
  obtain ⟨v, o, ho, hd⟩ := I.cell x c e
  obtain ⟨m, ⟨o', es, ep, ho', hd', _⟩, _⟩ := I.loc
  rw [z, ho'] at ho; cases ho; rw [hd'] at hd; cases hd
theorem Inv.funs (I : Inv X pins σ H s) : s.heap.FunFrames X.base X.outer := by
  have all : ∀ (l : List Env), (∀ b ∈ frs l, b ∈ X.fs) -> X.s₀.heap.FunFrames X.base l -> s.heap.FunFrames X.base l := by
    intro l
    induction l with
    | nil => intro _ _; trivial
    | cons env r ih =>
      intro hs hl
      obtain ⟨hk, ⟨L, o, hf, hn, ho, hd⟩, hr⟩ := hl
      have hL : L ∈ X.fs := hs L (by unfold frs; rw [List.filterMap_cons, hf]; exact List.mem_cons_self)
      obtain ⟨sl, e⟩ := I.base.slot L o ho (I.ok.frf L hL) hL fun z => I.ok.exfs L z hL
      exact ⟨hk, ⟨L, _, hf, hn, e, hd⟩, ih (fun b hb => hs b (by unfold frs; rw [List.filterMap_cons, hf]; exact List.mem_cons_of_mem _ hb)) hr⟩
  exact all X.outer (fun _ hb => hb) I.ok.funs
theorem Inv.stack (I : Inv X pins σ H s) : s.heap.FunFrames X.base X.stack := by
  rcases I.ok.stk with e | ⟨e, hf⟩
  . rw [e]; exact I.funs
  . rw [e]
    obtain ⟨m, hn, _⟩ := I.loc
    refine .cons (by rw [I.ok.kind]; decide) hf hn ?_ I.funs
    exact Heap.get?_none_of_le (Nat.le_trans I.ok.bsz I.ok.above)
theorem Inv.stkSub (I : Inv X pins σ H s) : ∀ b ∈ frs X.stack, b ∈ X.env.locals :: X.fs := fun b hb => by
  rcases I.ok.stk with e | ⟨e, hf⟩
  . rw [e] at hb; exact List.mem_cons_of_mem _ hb
  . rw [e] at hb
    unfold frs at hb
    rw [List.filterMap_cons, hf] at hb
    exact hb
theorem Inv.stkFree (I : Inv X pins σ H s) : ∀ b ∈ frs X.stack, H b = none := fun b hb => by
  rcases List.mem_cons.mp (I.stkSub b hb) with e | hb
  . rw [e]; exact I.free
  . obtain ⟨_, o, ho, _⟩ := I.ok.funs.mem hb
    exact I.base.free b o ho (I.ok.frf b hb) fun z => I.ok.exfs b z hb
theorem Inv.step {g' : Array GenState} {t' : Nat} {d' : Drawn} {ch : List Addr} (I : Inv X pins σ H s)
    (hch : ∀ b ∈ ch, (b ∈ X.ex \/ X.s₀.heap.objs.size <= b) /\ b ≠ X.env.locals /\ (∀ x c, X.env.cells.lookup x = some c -> c ≠ b) /\ ∀ p ∈ X.pn ++ pins, p.1 ≠ b)
    (keep : ∀ b o, b ≠ X.env.locals -> b ∉ X.fs -> b ∉ ch -> s.heap.get? b = some o -> H b = none -> h'.get? b = some o)
    (slot : ∀ b o, b ≠ X.env.locals -> b ∈ X.fs -> b ∉ ch -> s.heap.get? b = some o -> H b = none -> ∃ sl, h'.get? b = some { o with slots := sl }) (free : ∀ b o, b ∉ ch -> s.heap.get? b = some o -> H b = none -> H' b = none)
    (there : ∀ b o, b ∉ ch -> s.heap.get? b = some o -> ∃ o', h'.get? b = some o')
    (tups : ∀ b xs, H b = some (.tup xs) -> H' b = some (.tup xs)) (frzs : ∀ b o u, H b = some (.frz o u) -> H' b = some (.frz o u)) (tbls : ∀ b ps, H b = some (.tbl ps) -> ∃ more, H' b = some (.tbl (ps ++ more)))
    (ns : ∀ m, s.heap.Ns X.env.locals m -> h'.Ns X.env.locals m) (hok : HOk X.prog X.w H' h') (hg : AllBare g') :
    Inv X pins σ H' { s with heap := h', gens := g', drawn := d', toks := t' } := by
  have neL : ∀ b o, X.s₀.heap.get? b = some o -> b ≠ X.env.locals := fun b o e => Nat.ne_of_lt (Nat.lt_of_lt_of_le (Heap.lt_size e) I.ok.above)
  have neC : ∀ b o, X.s₀.heap.get? b = some o -> b ∉ X.ex -> b ∉ ch := fun b o e hx hb => by
    rcases (hch b hb).1 with z | z
    . exact hx z
    . exact absurd (Nat.lt_of_lt_of_le (Heap.lt_size e) z) (Nat.lt_irrefl _)
  have cellK : ∀ x c, X.env.cells.lookup x = some c -> ∀ v, s.heap.IsCell c v -> h'.IsCell c v := fun x c e v ⟨o, ho, hd⟩ => by
    have nch : c ∉ ch := fun z => (hch c z).2.2.1 x c e rfl
    by_cases hc : c ∈ X.fs
    . obtain ⟨sl, q⟩ := slot c o (I.cne x c e) hc nch ho (I.freeC x c e)
      exact ⟨_, q, hd⟩
    . exact ⟨o, keep c o (I.cne x c e) hc nch ho (I.freeC x c e), hd⟩
  refine ⟨I.ok, I.os, hg, ⟨fun b o e n hb hx => ?_, fun b o e n hb hx => ?_, fun b o e n hx => ?_, fun b o e hx => ?_, fun b xs e => tups b xs (I.base.tups b xs e), fun b o xs e => frzs b o xs (I.base.frzs b o xs e), fun b ps e => ?_⟩, ?_, fun x c e => ?_, ?_, fun x c e => ?_, fun p hp => ?_, hok, I.len⟩
  . exact keep b o (neL b o e) hb (neC b o e hx) (I.base.keep b o e n hb hx) (I.base.free b o e n hx)
  . obtain ⟨sl, e1⟩ := I.base.slot b o e n hb hx
    obtain ⟨sl', e2⟩ := slot b _ (neL b o e) hb (neC b o e hx) e1 (I.base.free b o e n hx)
    exact ⟨sl', e2⟩
  . obtain ⟨o', e1⟩ := I.base.there b o e hx
    exact free b o' (neC b o e hx) e1 (I.base.free b o e n hx)
  . obtain ⟨o', e1⟩ := I.base.there b o e hx
    exact there b o' (neC b o e hx) e1
  . obtain ⟨m1, e1⟩ := I.base.tbls b ps e
    obtain ⟨m2, e2⟩ := tbls b _ e1
    exact ⟨m1 ++ m2, by rw [e2, Array.append_assoc]⟩
  . obtain ⟨m, hn, hl⟩ := I.loc
    refine ⟨m, ns m hn, fun i x v e1 e2 e3 => ?_⟩
    obtain ⟨u, r, l⟩ := hl i x v e1 e2 e3
    refine ⟨u, r, ?_⟩
    rcases l with l | ⟨k, c, e, z⟩
    . exact .inl l
    . exact .inr ⟨k, c, e, cellK x c e _ z⟩
  . obtain ⟨v, z⟩ := I.cell x c e
    exact ⟨v, cellK x c e v z⟩
  . obtain ⟨m, ⟨o, _, _, ho, _⟩, _⟩ := I.loc
    exact free _ o (fun z => (hch _ z).2.1 rfl) ho I.free
  . obtain ⟨v, o, ho, hd⟩ := I.cell x c e
    exact free c o (fun z => (hch c z).2.2.1 x c e rfl) ho (I.freeC x c e)
  . obtain ⟨e, n, ne, nf, d⟩ := I.pin p hp
    have nch : p.1 ∉ ch := fun z => (hch p.1 z).2.2.2 p hp rfl
    exact ⟨keep p.1 p.2 ne nf nch e n, free p.1 p.2 nch e n, ne, nf, d⟩
theorem Inv.un {t' : Nat} (I : Inv X pins σ H s) (u : Un X.fs [] H H' s.heap h') (hok : HOk X.prog X.w H' h') : Inv X pins σ H' { s with heap := h', toks := t' } := by
  obtain ⟨m, ⟨o, es, ep, ho, r⟩, _⟩ := id I.loc
  obtain ⟨sl, hL⟩ := u.any ho I.free (by simp)
  exact I.step (g' := s.gens) (d' := s.drawn) (ch := []) (fun _ z => nomatch z) (fun b o _ hb _ e n => u.keep b o e n hb (by simp)) (fun b o _ hb _ e n => u.slot b o e n hb (by simp)) (fun b o _ e n => u.free b o e n (by simp)) (fun b o _ e => u.there b o e (by simp)) u.tups u.frzs u.tbls (fun m' hm => by
    obtain ⟨o', es', ep', ho', r'⟩ := hm
    rw [ho] at ho'; cases ho'
    exact ⟨_, es', ep', hL, r'⟩) hok I.bare
theorem Inv.call {g' : Array GenState} {t' : Nat} {d' : Drawn} {ch : List Addr} (I : Inv X pins σ H s) (u : Un (frs X.stack) ch H H' s.heap h') (hok : HOk X.prog X.w H' h') (hg : AllBare g')
    (hch : ∀ b ∈ ch, (b ∈ X.ex \/ X.s₀.heap.objs.size <= b) /\ b ≠ X.env.locals /\ (∀ x c, X.env.cells.lookup x = some c -> c ≠ b) /\ ∀ p ∈ X.pn ++ pins, p.1 ≠ b) :
    Inv X pins σ H' { s with heap := h', gens := g', drawn := d', toks := t' } := by
  obtain ⟨m, ⟨o, es, ep, ho, r⟩, _⟩ := id I.loc
  obtain ⟨sl, hL⟩ := u.any ho I.free fun z => (hch _ z).2.1 rfl
  exact I.step (ch := ch) hch (fun b o hL hb hc e n => u.keep b o e n (fun z => (List.mem_cons.mp (I.stkSub b z)).elim hL hb) hc) (fun b o _ _ hc e n => u.any e n hc) (fun b o hc e n => u.free b o e n hc) (fun b o hc e => u.there b o e hc) u.tups u.frzs u.tbls (fun m' hm => by
    obtain ⟨o', es', ep', ho', r'⟩ := hm
    rw [ho] at ho'; cases ho'
    exact ⟨_, es', ep', hL, r'⟩) hok hg
theorem Inv.turned {t' : Nat} {it : Addr} (I : Inv X pins σ H s) (k : ∀ b o, b ≠ it -> s.heap.get? b = some o -> h'.get? b = some o) (hn : H it = none) (hL : it ≠ X.env.locals)
    (h1 : it ∈ X.ex \/ X.s₀.heap.objs.size <= it) (h2 : ∀ x c, X.env.cells.lookup x = some c -> c ≠ it) (h3 : ∀ p ∈ X.pn ++ pins, p.1 ≠ it) : Inv X pins σ H { s with heap := h', toks := t' } := by
  have nit : ∀ b u, H b = some u -> b ≠ it := fun b u e z => by rw [z, hn] at e; cases e
  refine I.step (g' := s.gens) (d' := s.drawn) (ch := [it]) (fun b hb => ?_) (fun b o _ _ hc e _ => k b o (fun z => hc (by simp [z])) e) (fun b o _ _ hc e _ => ⟨o.slots, k b o (fun z => hc (by simp [z])) e⟩) (fun _ _ _ _ n => n)
    (fun b o hc e => ⟨o, k b o (fun z => hc (by simp [z])) e⟩) (fun _ _ e => e) (fun _ _ _ e => e) (fun b ps e => ⟨#[], by rw [e]; simp⟩) (fun m hm => ?_) (fun b u e => ?_) I.bare
  . have e : b = it := by simpa using hb
    subst e
    exact ⟨h1, hL, h2, h3⟩
  . obtain ⟨o, es, ep, ho, r⟩ := hm
    exact ⟨o, es, ep, k _ o (Ne.symm hL) ho, r⟩
  . refine (I.hok b u e).stay (fun c v hc q => k c v ?_ q) (fun _ q => q) fun _ _ q => q
    rcases hc with z | z
    . rw [z]; exact nit b u e
    . exact nit c _ z
theorem Inv.tok (I : Inv X pins σ H s) (t : Nat) : Inv X pins σ H { s with toks := t } := I.un (h' := s.heap) (t' := t) Un.refl I.hok
theorem Inv.kept {t' : Nat} (I : Inv X pins σ H s) (k : ∀ b u, s.heap.get? b = some u -> h'.get? b = some u) : Inv X pins σ H { s with heap := h', toks := t' } := I.un (Un.kept k) (I.hok.kept k)
theorem Inv.laid {a : Addr} {o : HO} {t' : Nat} (I : Inv X pins σ H s) (k : ∀ b u, s.heap.get? b = some u -> h'.get? b = some u) (hp : s.heap.objs.size <= a) (new : ObjOk X.prog X.w (upd H a o) h' a o) :
    Inv X pins σ (upd H a o) { s with heap := h', toks := t' } := I.un (Un.laid k hp (I.hok.fresh hp)) (I.hok.laid k hp new)
theorem Inv.write {x e : Addr} {o : HO} {t' : Nat} (I : Inv X pins σ H s) (mu : Mut (H x)) (he : e = x \/ H e = some (.own x)) (k : ∀ b u, b ≠ e -> s.heap.get? b = some u -> h'.get? b = some u) (heo : ∃ u, h'.get? e = some u)
    (new : ObjOk X.prog X.w (upd H x o) h' x o) : Inv X pins σ (upd H x o) { s with heap := h', toks := t' } := I.un (Un.write mu he k heo) (I.hok.write mu he k heo new)
theorem Inv.weak {σ' : List (Option V)} (I : Inv X pins σ H s) (hl : σ'.length = σ.length) (w : ∀ (i : Nat) v, σ'[i]? = some (some v) -> σ[i]? = some (some v)) : Inv X pins σ' H s :=
  ⟨I.ok, I.os, I.bare, I.base, let ⟨m, hn, hl'⟩ := I.loc; ⟨m, hn, fun i x v e1 e2 e3 => hl' i x v e1 (w i v e2) e3⟩, I.cell, I.free, I.freeC, I.pin, I.hok, hl.trans I.len⟩
theorem Inv.pins_of {pins' : List (Addr × Obj)} (I : Inv X pins σ H s) (h : ∀ p ∈ pins', s.heap.get? p.1 = some p.2 /\ H p.1 = none /\ p.1 ≠ X.env.locals /\ p.1 ∉ X.fs /\ ∀ v, p.2.data ≠ .cell v) : Inv X pins' σ H s :=
  ⟨I.ok, I.os, I.bare, I.base, I.loc, I.cell, I.free, I.freeC, fun p hp => (List.mem_append.mp hp).elim (fun z => I.pin p (List.mem_append_left _ z)) (h p), I.hok, I.len⟩
theorem nodup_ix {N : List Str} (hN : N.Nodup) {i j : Nat} {x : Str} (a : N[i]? = some x) (b : N[j]? = some x) : i = j := by
  obtain ⟨h1, e1⟩ := List.getElem?_eq_some_iff.mp a
  obtain ⟨h2, e2⟩ := List.getElem?_eq_some_iff.mp b
  exact (List.getElem_inj hN).mp (e1.trans e2.symm)
theorem store_ok2 {M : Model} {A : Around} {E : Value -> Shared -> Prop} {i : Nat} {x : Str} {v : V} {u : Value} {Q : Unit -> Shared -> Prop} (I : Inv X pins σ H s) (hN : X.N.Nodup) (hi : X.N[i]? = some x) (hx : Loc X.env.scope x) (r : RelV v u)
    (h : ∀ s', Inv X pins (σ.set i (some v)) H s' -> (∃ a, Heap.SameBut a s.heap s'.heap /\ (a = X.env.locals \/ X.env.cells.lookup x = some a)) -> Q () s') (hf : X.fn x = true \/ X.env.scope.names.lookup x = some .local := by first | exact .inl rfl | exact .inr rfl | assumption) : wpAny M A (storeName X.env x u) Q E s := by
  obtain ⟨m, hn, hl⟩ := id I.loc
  have hcls : (X.env.scope.kind == .class || (X.env.scope.kind == .module && X.env.locals != X.env.globals)) = false := by rw [I.ok.kind]; rfl
  have hiσ : i < σ.length := by rw [I.len]; exact (List.getElem?_eq_some_iff.mp hi).1
  have cne := I.cne
  have tracked : ∀ {a : Addr} {h' : Heap}, (∃ o, s.heap.get? a = some o /\ H a = none) -> Heap.SameBut a s.heap h' -> HOk X.prog X.w H h' := fun {a h'} ha hs b ob e => by
    obtain ⟨_, _, hfree⟩ := ha
    refine (I.hok b ob e).stay (fun c w' hc q => (hs.2 c ?_).trans q) (fun _ q => q) fun _ _ q => q
    rintro rfl
    rcases hc with rfl | hc
    . rw [hfree] at e; cases e
    . rw [hfree] at hc; cases hc
  rcases hx with hk | hk
  . refine wpAny_storeName_local hk hn (fun h' hn' hs => ?_) hcls
    obtain ⟨oL, _, _, hoL, _⟩ := id hn
    refine h _ ⟨I.ok, I.os, I.bare, ⟨fun b o e n hb hx => ?_, fun b o e n hb hx => ?_, I.base.free, fun b o e hx => ?_, I.base.tups, I.base.frzs, I.base.tbls⟩, ⟨_, hn', fun j y v' e1 e2 e3 => ?_⟩, fun y c e => ?_, I.free, I.freeC, fun p hp => ?_, tracked ⟨oL, hoL, I.free⟩ hs, by simpa using I.len⟩ ⟨_, hs, .inl rfl⟩
    . exact (hs.2 b (Nat.ne_of_lt (Nat.lt_of_lt_of_le (Heap.lt_size e) I.ok.above))).trans (I.base.keep b o e n hb hx)
    . obtain ⟨sl, e1⟩ := I.base.slot b o e n hb hx
      exact ⟨sl, (hs.2 b (Nat.ne_of_lt (Nat.lt_of_lt_of_le (Heap.lt_size e) I.ok.above))).trans e1⟩
    . obtain ⟨o', e1⟩ := I.base.there b o e hx
      exact ⟨o', (hs.2 b (Nat.ne_of_lt (Nat.lt_of_lt_of_le (Heap.lt_size e) I.ok.above))).trans e1⟩
    . by_cases hj : j = i
      . subst hj
        rw [hi] at e1; cases e1
        rw [List.getElem?_set_self hiσ] at e2
        cases e2
        exact ⟨u, r, .inl ⟨hk, by simp⟩⟩
      . rw [List.getElem?_set_ne (Ne.symm hj)] at e2
        obtain ⟨u', r', q⟩ := hl j y v' e1 e2 e3
        refine ⟨u', r', ?_⟩
        rcases q with ⟨k, e⟩ | ⟨k, c, e, z⟩
        . refine .inl ⟨k, ?_⟩
          have : y ≠ x := fun e => hj (nodup_ix hN e1 (e ▸ hi))
          simp [this, e]
        . exact .inr ⟨k, c, e, z.sameBut hs (cne y c e)⟩
    . obtain ⟨w', z⟩ := I.cell y c e
      exact ⟨w', z.sameBut hs (cne y c e)⟩
    . obtain ⟨e, n, ne, nf, d⟩ := I.pin p hp
      exact ⟨(hs.2 p.1 ne).trans e, n, ne, nf, d⟩
  . have hfn : X.fn x = true := by
      rcases hf with z | z
      . exact z
      . rw [z] at hk; cases hk
    obtain ⟨c, hc⟩ := I.ok.has x (.inl hk)
    obtain ⟨w', z⟩ := I.cell x c hc
    refine wpAny_storeName_cell I.ok.kind hk hc z (fun h' hc' hs => ?_)
    obtain ⟨oc, hoc, hocd⟩ := id z
    refine h { s with heap := h' } ⟨I.ok, I.os, I.bare, ⟨fun b o e n hb hx => ?_, fun b o e n hb hx => ?_, I.base.free, fun b o e hx => ?_, I.base.tups, I.base.frzs, I.base.tbls⟩, ⟨m, hn.sameBut hs (Ne.symm (cne x c hc)), fun j y v' e1 e2 e3 => ?_⟩, fun y c' e => ?_, I.free, I.freeC, fun p hp => ?_, tracked ⟨oc, hoc, I.freeC x c hc⟩ hs, by simpa using I.len⟩ ⟨c, hs, .inr hc⟩
    . exact (hs.2 b (Nat.ne_of_lt (Nat.lt_of_lt_of_le (Heap.lt_size e) (I.ok.cab x c hfn hc)))).trans (I.base.keep b o e n hb hx)
    . obtain ⟨sl, e1⟩ := I.base.slot b o e n hb hx
      exact ⟨sl, (hs.2 b (Nat.ne_of_lt (Nat.lt_of_lt_of_le (Heap.lt_size e) (I.ok.cab x c hfn hc)))).trans e1⟩
    . obtain ⟨o', e1⟩ := I.base.there b o e hx
      exact ⟨o', (hs.2 b (Nat.ne_of_lt (Nat.lt_of_lt_of_le (Heap.lt_size e) (I.ok.cab x c hfn hc)))).trans e1⟩
    . by_cases hj : j = i
      . subst hj
        rw [hi] at e1; cases e1
        rw [List.getElem?_set_self hiσ] at e2
        cases e2
        exact ⟨u, r, .inr ⟨.inl hk, c, hc, hc'⟩⟩
      . rw [List.getElem?_set_ne (Ne.symm hj)] at e2
        obtain ⟨u', r', q⟩ := hl j y v' e1 e2 e3
        refine ⟨u', r', ?_⟩
        rcases q with q | ⟨k, c', e, z'⟩
        . exact .inl q
        . refine .inr ⟨k, c', e, z'.sameBut hs ?_⟩
          rintro rfl
          exact hj (nodup_ix hN e1 (I.ok.inj _ _ _ e hc ▸ hi))
    . by_cases hcc : c' = c
      . subst hcc; exact ⟨_, hc'⟩
      . obtain ⟨w2, z2⟩ := I.cell y c' e
        exact ⟨w2, z2.sameBut hs hcc⟩
    . obtain ⟨e, n, ne, nf, d⟩ := I.pin p hp
      refine ⟨(hs.2 p.1 ?_).trans e, n, ne, nf, d⟩
      intro q
      rw [q, hoc] at e
      have q' : oc = p.2 := Option.some.inj e
      exact d w' (by rw [<- q']; exact hocd)
theorem store_ok {M : Model} {A : Around} {E : Value -> Shared -> Prop} {i : Nat} {x : Str} {v : V} {u : Value} {Q : Unit -> Shared -> Prop} (I : Inv X pins σ H s) (hN : X.N.Nodup) (hi : X.N[i]? = some x) (hx : Loc X.env.scope x) (r : RelV v u)
    (h : ∀ s', Inv X pins (σ.set i (some v)) H s' -> Q () s') (hf : X.fn x = true \/ X.env.scope.names.lookup x = some .local := by first | exact .inl rfl | exact .inr rfl | assumption) : wpAny M A (storeName X.env x u) Q E s :=
  store_ok2 I hN hi hx r (fun s' I' _ => h s' I') hf
theorem Inv.call' {s' : Shared} {ch : List Addr} (I : Inv X pins σ H s) (ho : s'.os = s.os) (u : Un (frs X.stack) ch H H' s.heap s'.heap) (hok : HOk X.prog X.w H' s'.heap) (hg : AllBare s'.gens)
    (hch : ∀ b ∈ ch, (b ∈ X.ex \/ X.s₀.heap.objs.size <= b) /\ b ≠ X.env.locals /\ (∀ x c, X.env.cells.lookup x = some c -> c ≠ b) /\ ∀ p ∈ X.pn ++ pins, p.1 ≠ b) : Inv X pins σ H' s' := by
  obtain ⟨h', g', d', t', o'⟩ := s'
  have e : o' = s.os := ho
  subst e
  exact I.call (g' := g') (t' := t') (d' := d') u hok hg hch
end
abbrev XK := Value -> Option Addr -> Hp -> Prop
abbrev St := List (Option V)
abbrev VK := V -> Hp -> Prop
abbrev TE := St -> Hp -> VK -> Prop
abbrev TT := St -> Hp -> (Bool -> Hp -> Prop) -> Prop
abbrev TA := St -> Hp -> (List V -> Hp -> Prop) -> Prop
structure Ends where
  nx : St -> Hp -> Prop
  rt : VK
  bk : St -> Hp -> Prop := fun _ _ => False
  ct : St -> Hp -> Prop := fun _ _ => False
abbrev TS := Ends -> St -> Hp -> Prop
def EP (X : Cx) (pins : List (Addr × Obj)) (σ : St) (Q : VK) (u : Value) (s' : Shared) : Prop := ∃ v H', Inv X pins σ H' s' /\ RelV v u /\ Q v H'
def TP (X : Cx) (pins : List (Addr × Obj)) (σ : St) (Q : Bool -> Hp -> Prop) (b : Bool) (s' : Shared) : Prop := ∃ H', Inv X pins σ H' s' /\ Q b H'
def AP (X : Cx) (pins : List (Addr × Obj)) (σ : St) (Q : List V -> Hp -> Prop) (us : List Value) (s' : Shared) : Prop := ∃ vs H', Inv X pins σ H' s' /\ Vals vs us /\ Q vs H'
def SP (X : Cx) (pins : List (Addr × Obj)) (D : Ends) (f : Flow) (s' : Shared) : Prop :=
  match f with
  | .next => ∃ σ' H', Inv X pins σ' H' s' /\ D.nx σ' H'
  | .brk => ∃ σ' H', Inv X pins σ' H' s' /\ D.bk σ' H'
  | .cont => ∃ σ' H', Inv X pins σ' H' s' /\ D.ct σ' H'
  | .ret u => ∃ v σ' H', Inv X pins σ' H' s' /\ RelV v u /\ D.rt v H'
def PE (X : Cx) (e : Expr) (t : TE) : Prop :=
  ∀ (pins : List (Addr × Obj)) (s : Shared) (σ : St) (H : Hp) (Q : VK), Inv X pins σ H s -> t σ H Q -> wpAny (model X.prog X.w) X.A (eval e X.env) (EP X pins σ Q) X.xe s
def PT (X : Cx) (e : Expr) (t : TT) : Prop :=
  ∀ (pins : List (Addr × Obj)) (s : Shared) (σ : St) (H : Hp) (Q : Bool -> Hp -> Prop), Inv X pins σ H s -> t σ H Q -> wpAny (model X.prog X.w) X.A (isTrue e X.env (eval e X.env)) (TP X pins σ Q) X.xe s
def PW (X : Cx) (e : Expr) (t : TT) : Prop :=
  ∀ (whole : Sem Value) (pins : List (Addr × Obj)) (s : Shared) (σ : St) (H : Hp) (Q : Bool -> Hp -> Prop), Inv X pins σ H s -> t σ H Q -> wpAny (model X.prog X.w) X.A (isTrue e X.env whole) (TP X pins σ Q) X.xe s
theorem PW.pt {X : Cx} {e : Expr} {t : TT} (h : PW X e t) : PT X e t := h _
def PA (X : Cx) (es : List Expr) (t : TA) : Prop :=
  ∀ (pos : Pos) (pins : List (Addr × Obj)) (s : Shared) (σ : St) (H : Hp) (Q : List V -> Hp -> Prop), Inv X pins σ H s -> t σ H Q -> wpAny (model X.prog X.w) X.A (spliced (backTo pos (starEach es X.env))) (AP X pins σ Q) X.xe s
def PS (X : Cx) (st : Stmt) (t : TS) : Prop :=
  ∀ (pins : List (Addr × Obj)) (s : Shared) (σ : St) (H : Hp) (D : Ends), Inv X pins σ H s -> t D σ H -> wpAny (model X.prog X.w) X.A (exec st X.env) (SP X pins D) X.xe s
def PSs (X : Cx) (st : List Stmt) (t : TS) : Prop :=
  ∀ (pins : List (Addr × Obj)) (s : Shared) (σ : St) (H : Hp) (D : Ends), Inv X pins σ H s -> t D σ H -> wpAny (model X.prog X.w) X.A (execs st X.env) (SP X pins D) X.xe s
theorem thn {α : Type} {t : Sem α} {Q Q' : α -> Shared -> Prop} {M : Model} {A : Around} {E : Value -> Shared -> Prop} {s : Shared} (h : wpAny M A t Q E s) (hQ : ∀ a s, Q a s -> Q' a s) : wpAny M A t Q' E s := wpAny_mono h hQ fun _ _ x => x
end L2
namespace L2
open PySem PySem.Spec PyProof.Rows
section
variable {X : Cx}
def tVar (i : Nat) : TE := fun σ H Q => ∃ v, σ[i]? = some (some v) /\ Q v H
def tC (v : V) : TE := fun _ H Q => Q v H
theorem pe_var {i : Nat} {x : Str} {pos : Pos} (hN : X.N[i]? = some x) (hv : Vis X.env.scope x) (hd : (x == ("__debug__" : Str)) = false := by decide) (hcd : (x == ("__classdict__" : Str)) = false := by decide) : PE X (.Name x pos) (tVar i) := by
  intro pins s σ H Q I h
  obtain ⟨v, e, h⟩ := h
  obtain ⟨m, hn, hl⟩ := I.loc
  obtain ⟨u, r, l⟩ := hl i x v hN e hv
  have fin : EP X pins σ Q u s := ⟨v, H, I, r, h⟩
  rcases l with ⟨hk, hm⟩ | ⟨hk, c, hc, hcell⟩
  . exact wpAny_Name (wpAny_loadName_local I.ok.kind hk hn hm fin) hd
  . rcases hk with hk | hk
    . exact wpAny_Name (wpAny_loadName_cell I.ok.kind hk hc hcell fin) hd
    . exact wpAny_Name (wpAny_loadName_free I.ok.kind hk hc hcell fin hcd) hd
theorem pe_int {i j pos} : PE X (.Constant (.int i) j pos) (tC (.int i)) := fun _ _ _ H _ I h => wpAny_Constant_int ⟨.int i, H, I.tok _, ⟨_, rfl⟩, h⟩
theorem pe_bl {b j pos} : PE X (.Constant (.bool b) j pos) (tC (.bl b)) := fun _ _ _ H _ I h => Constant_bool ⟨.bl b, H, I, rfl, h⟩
theorem pe_non {j pos} : PE X (.Constant .none j pos) (tC .non) := fun _ _ _ H _ I h => Constant_none ⟨.non, H, I, rfl, h⟩
def Gl (X : Cx) (x : Str) : Prop := X.env.kindOf x = some .globalImplicit
theorem ld_glob {E : Value -> Shared -> Prop} {pins : List (Addr × Obj)} {s : Shared} {σ : St} {H : Hp} {x : Str} {u : Value} {pos : Pos} {Q : Value -> Shared -> Prop} (I : Inv X pins σ H s) (hg : Gl X x) (hm : X.mg x = some u) (h : Q u s)
    (hd : (x == ("__debug__" : Str)) = false := by decide) : wpAny (model X.prog X.w) X.A (eval (.Name x pos) X.env) Q E s :=
  Calls.Name_function_global I.ok.kind hg (Calls.loadGlobal_global (by rw [I.ok.glob]; exact I.mod.glob.keeps I.bk) hm h) hd
theorem ld_blt {E : Value -> Shared -> Prop} {pins : List (Addr × Obj)} {s : Shared} {σ : St} {H : Hp} {x : Str} {u : Value} {pos : Pos} {Q : Value -> Shared -> Prop} (I : Inv X pins σ H s) (hg : Gl X x) (hm : X.mg x = none) (hv : bootBuiltins x = some u) (h : Q u s)
    (hn : x ≠ "__name__" := by decide) (hd : (x == ("__debug__" : Str)) = false := by decide) : wpAny (model X.prog X.w) X.A (eval (.Name x pos) X.env) Q E s := by
  obtain ⟨mb, h1, h2⟩ := I.mod.blt
  exact Calls.Name_function_global I.ok.kind hg (Calls.loadGlobal_builtin (by rw [I.ok.glob]; exact I.mod.glob.keeps I.bk) hm (by rw [I.ok.blt]; exact h1.keeps I.bk) ((h2 x hn).trans hv) h) hd
theorem pe_bltn {x : Str} {v : V} {u : Value} {pos : Pos} (hg : Gl X x) (hm : X.mg x = none) (hv : bootBuiltins x = some u) (r : RelV v u) (hn : x ≠ "__name__" := by decide) (hd : (x == ("__debug__" : Str)) = false := by decide) : PE X (.Name x pos) (tC v) :=
  fun _ _ _ H _ I h => ld_blt I hg hm hv ⟨v, H, I, r, h⟩ hn hd
variable {a b : Expr} {ta tb : TE} {pos : Pos}
def tB (t : TE) : TT := fun σ H Q => t σ H fun x H1 => ∃ c, x = .bl c /\ Q c H1
theorem pt_val {e : Expr} {t : TE} (h : PE X e t) (he : ∀ whole, isTrue e X.env whole = (do let v <- whole; standAt e.pos; holding [v] (truthy v)) := by intro _; rfl) : PT X e (tB t) := by
  intro pins s σ H Q I hw
  refine isTrue_plain (thn (h pins s σ H _ I hw) fun v s1 ⟨x, H1, I1, r1, q1⟩ => ?_) (he _)
  obtain ⟨d, rfl, q⟩ := q1
  cases r1
  exact wpAny_truthy_bool ⟨H1, I1, q⟩
variable {tA tB' : TT} {rest : List Expr}
def tAnd (t u : TT) : TT := fun σ H Q => t σ H fun c H1 => if c = true then u σ H1 Q else Q false H1
def tOr (t u : TT) : TT := fun σ H Q => t σ H fun c H1 => if c = true then Q true H1 else u σ H1 Q
def tNot (t : TT) : TT := fun σ H Q => t σ H fun c H1 => Q (!c) H1
theorem pw_and1 (ha : PT X a tA) : PW X (.BoolOp .And [a] pos) tA := by
  intro wh pins s σ H Q I h
  refine isTrue_and (thn (ha pins s σ H Q I h) fun c s1 e => ?_)
  cases c with
  | true => exact isTrue_and_nil e
  | false => exact e
theorem pw_or1 (ha : PT X a tA) : PW X (.BoolOp .Or [a] pos) tA := by
  intro wh pins s σ H Q I h
  refine isTrue_or (thn (ha pins s σ H Q I h) fun c s1 e => ?_)
  cases c with
  | false => exact isTrue_or_nil e
  | true => exact e
theorem pw_and (ha : PT X a tA) (hb : PW X (.BoolOp .And (b :: rest) pos) tB') : PW X (.BoolOp .And (a :: b :: rest) pos) (tAnd tA tB') := by
  intro wh pins s σ H Q I h
  refine isTrue_and (thn (ha pins s σ H _ I h) fun c s1 ⟨H1, I1, q1⟩ => ?_)
  cases c with
  | true => exact hb wh pins s1 σ H1 Q I1 q1
  | false => exact ⟨H1, I1, q1⟩
theorem pw_or (ha : PT X a tA) (hb : PW X (.BoolOp .Or (b :: rest) pos) tB') : PW X (.BoolOp .Or (a :: b :: rest) pos) (tOr tA tB') := by
  intro wh pins s σ H Q I h
  refine isTrue_or (thn (ha pins s σ H _ I h) fun c s1 ⟨H1, I1, q1⟩ => ?_)
  cases c with
  | true => exact ⟨H1, I1, q1⟩
  | false => exact hb wh pins s1 σ H1 Q I1 q1
theorem pt_not (ha : PT X a tA) : PT X (.UnaryOp .Not a pos) (tNot tA) := by
  intro pins s σ H Q I h
  exact isTrue_not (ha pins s σ H (fun c H1 => Q (!c) H1) I h)
def tAndV (ta tb : TE) : TE := fun σ H Q => ta σ H fun x H1 => ∃ c, x = .bl c /\ if c = true then tb σ H1 Q else Q (.bl false) H1
def tNotV (ta : TE) : TE := fun σ H Q => ta σ H fun x H1 => ∃ c, x = .bl c /\ Q (.bl (!c)) H1
theorem pe_one {op} {t : TE} (h : PE X a t) : PE X (.BoolOp op [a] pos) t := fun pins s σ H Q I hw => BoolOp_one (h pins s σ H Q I hw)
theorem pe_and (ha : PE X a ta) (hb : PE X (.BoolOp .And (b :: rest) pos) tb) : PE X (.BoolOp .And (a :: b :: rest) pos) (tAndV ta tb) := by
  intro pins s σ H Q I h
  refine BoolOp_and (thn (ha pins s σ H _ I h) fun v s1 ⟨x, H1, I1, r1, q1⟩ => ?_)
  obtain ⟨c, rfl, q1⟩ := q1
  cases r1
  refine wpAny_truthy_bool ?_
  cases c with
  | true => exact hb pins s1 σ H1 Q I1 q1
  | false => exact ⟨.bl false, H1, I1, rfl, q1⟩
theorem pe_not (ha : PE X a ta) : PE X (.UnaryOp .Not a pos) (tNotV ta) := by
  intro pins s σ H Q I h
  refine UnaryOp_ (thn (ha pins s σ H _ I h) fun v s1 ⟨x, H1, I1, r1, q1⟩ => ?_)
  obtain ⟨c, rfl, q1⟩ := q1
  cases r1
  exact not_of (wpAny_truthy_bool ⟨.bl (!c), H1, I1, rfl, q1⟩)
def tIf (t : TT) (ta tb : TE) : TE := fun σ H Q => t σ H fun c H1 => if c = true then ta σ H1 Q else tb σ H1 Q
theorem pe_ifExp {c : Expr} (hc : PT X c tA) (ha : PE X a ta) (hb : PE X b tb) : PE X (.IfExp c a b pos) (tIf tA ta tb) := by
  intro pins s σ H Q I h
  refine wpAny_IfExp (thn (hc pins s σ H _ I h) fun d s1 ⟨H1, I1, q1⟩ => ?_)
  cases d with
  | true => exact ha pins s1 σ H1 Q I1 q1
  | false => exact hb pins s1 σ H1 Q I1 q1
end
end L2
namespace L2
open PySem PySem.Spec PyProof.Rows
def SqL (K : W.Frag) (H : Hp) (a : Addr) (xs : List V) : Prop :=
  Rd H a (.lst xs) ∨
    ∃ (o : Obj) (its : Array Value) (n : Nat), K.lookup a = some o /\ o.cls = .type "list" /\ o.dict = none /\ o.data = .seq its n /\ its.size <= sizeLine /\ Vals xs its.toList
def SqT (K : W.Frag) (H : Hp) (a : Addr) (xs : List V) : Prop :=
  Rd H a (.tup xs) ∨
    ∃ (o : Obj) (its : Array Value) (n : Nat), K.lookup a = some o /\ o.cls = .type "tuple" /\ o.data = .seq its n /\ its.size <= sizeLine /\ Vals xs its.toList
def absV : Value -> Option V
  | .none => some .non
  | .bool b => some (.bl b)
  | .int i _ => some (.int i)
  | .str x _ => some (.str x)
  | .bytes b _ => some (.byt b)
  | .float b _ => some (.flt b)
  | .ref a => some (.ref a)
  | .type n => some (.ty n)
  | _ => none
theorem RelV.abs {x : V} {u : Value} (r : RelV x u) : absV u = some x := by
  cases x with
  | non => cases r; rfl
  | bl _ => cases r; rfl
  | int _ => obtain ⟨t, rfl⟩ := r; rfl
  | str _ => obtain ⟨t, rfl⟩ := r; rfl
  | byt _ => obtain ⟨t, rfl⟩ := r; rfl
  | flt _ => obtain ⟨t, rfl⟩ := r; rfl
  | ref _ => cases r; rfl
  | ty _ => cases r; rfl
theorem RelV.inj {x y : V} {u : Value} (r : RelV x u) (q : RelV y u) : x = y := Option.some.inj (r.abs.symm.trans q.abs)
theorem Vals.inj : ∀ {xs ys : List V} {us : List Value}, Vals xs us -> Vals ys us -> xs = ys
  | _, _, _, .nil, .nil => rfl
  | _, _, _, .cons r t, .cons r' t' => by rw [r.inj r', Vals.inj t t']
section
variable {X : Cx} {pins : List (Addr × Obj)} {σ : St} {H : Hp} {s : Shared} {a : Addr} {xs ys : List V}
theorem SqL.of {K : W.Frag} (h : H a = some (.lst xs)) : SqL K H a xs := .inl (.inl h)
theorem SqT.of {K : W.Frag} (h : H a = some (.tup xs)) : SqT K H a xs := .inl (.inl h)
theorem Inv.list (I : Inv X pins σ H s) (h : SqL X.K H a xs) : ∃ its : List Value, Vals xs its /\ PlainL s.heap a its.toArray /\ xs.length <= sizeLine := by
  rcases h with h | ⟨o, its, n, hk, hc, hd, hs, hz, r⟩
  . obtain ⟨z, its, n, r, e⟩ := h.ok I.hok
    exact ⟨its, r, ⟨_, n, e, rfl, rfl, rfl⟩, z⟩
  . refine ⟨its.toList, r, ⟨o, n, I.kIn a o hk, hc, hd, by simpa using hs⟩, ?_⟩
    have e := r.length
    simp only [Array.length_toList] at e
    omega
theorem Inv.tuple (I : Inv X pins σ H s) (h : SqT X.K H a xs) : ∃ its : List Value, Vals xs its /\ IsTup s.heap a its.toArray /\ xs.length <= sizeLine := by
  rcases h with h | ⟨o, its, n, hk, hc, hs, hz, r⟩
  . obtain ⟨z, its, r, p⟩ := h.ok I.hok
    exact ⟨its, r, p, z⟩
  . refine ⟨its.toList, r, ⟨o, I.kIn a o hk, hc, n, by simpa using hs⟩, ?_⟩
    have e := r.length
    simp only [Array.length_toList] at e
    omega
theorem Inv.list_inj (I : Inv X pins σ H s) (h : SqL X.K H a xs) (h' : SqL X.K H a ys) : xs = ys := by
  obtain ⟨its, r, ⟨o, n, e, _, _, d⟩, _⟩ := I.list h
  obtain ⟨its', r', ⟨o', n', e', _, _, d'⟩, _⟩ := I.list h'
  rw [e] at e'; cases e'
  rw [d] at d'
  injection d' with d1 _
  have : its = its' := by simpa using congrArg Array.toList d1
  subst this
  exact r.inj r'
theorem Inv.tuple_inj (I : Inv X pins σ H s) (h : SqT X.K H a xs) (h' : SqT X.K H a ys) : xs = ys := by
  obtain ⟨its, r, ⟨o, e, _, n, d⟩, _⟩ := I.tuple h
  obtain ⟨its', r', ⟨o', e', _, n', d'⟩, _⟩ := I.tuple h'
  rw [e] at e'; cases e'
  rw [d] at d'
  injection d' with d1 _
  have : its = its' := by simpa using congrArg Array.toList d1
  subst this
  exact r.inj r'
end
abbrev Cx.wish (X : Cx) (E : Value -> Shared -> Prop) : Cx := { X with xe := E }
abbrev Cx.nox (X : Cx) : Cx := X.wish fun _ _ => False
theorem Cx.Ok.wish {X : Cx} (ok : X.Ok) (E : Value -> Shared -> Prop) : (X.wish E).Ok :=
  ⟨ok.mod, ok.kind, ok.glob, ok.blt, ok.above, ok.inj, ok.has, ok.cab, ok.hd, ok.frames, ok.stk, ok.exf, ok.bs, ok.bsz, ok.noex, ok.exfs, ok.funs, ok.frf⟩
theorem Cx.Ok.unwish {X : Cx} {E : Value -> Shared -> Prop} (ok : (X.wish E).Ok) : X.Ok :=
  ⟨ok.mod, ok.kind, ok.glob, ok.blt, ok.above, ok.inj, ok.has, ok.cab, ok.hd, ok.frames, ok.stk, ok.exf, ok.bs, ok.bsz, ok.noex, ok.exfs, ok.funs, ok.frf⟩
section
variable {X : Cx} {pins : List (Addr × Obj)} {σ : St} {H : Hp} {s : Shared} {E : Value -> Shared -> Prop}
theorem Inv.wish (I : Inv X pins σ H s) (E : Value -> Shared -> Prop) : Inv (X.wish E) pins σ H s := ⟨I.ok.wish E, I.os, I.bare, I.base, I.loc, I.cell, I.free, I.freeC, I.pin, I.hok, I.len⟩
theorem Inv.unwish (I : Inv (X.wish E) pins σ H s) : Inv X pins σ H s := ⟨I.ok.unwish, I.os, I.bare, I.base, I.loc, I.cell, I.free, I.freeC, I.pin, I.hok, I.len⟩
theorem SP.unwish {D : Ends} {f : Flow} {s' : Shared} (h : SP (X.wish E) pins D f s') : SP X pins D f s' := by
  cases f with
  | next => obtain ⟨σ', H', I, q⟩ := h; exact ⟨σ', H', I.unwish, q⟩
  | brk => obtain ⟨σ', H', I, q⟩ := h; exact ⟨σ', H', I.unwish, q⟩
  | cont => obtain ⟨σ', H', I, q⟩ := h; exact ⟨σ', H', I.unwish, q⟩
  | ret u => obtain ⟨v, σ', H', I, r, q⟩ := h; exact ⟨v, σ', H', I.unwish, r, q⟩
theorem PSs.nox {st : List Stmt} {t : TS} (h : PSs X.nox st t) : PSs X st t := fun pins s σ H D I hw =>
  wpAny_mono (h pins s σ H D (I.wish _) hw) (fun _ _ q => q.unwish) fun _ _ z => False.elim z
end
section
variable {X : Cx} {st : Stmt} {rest : List Stmt} {t u : TS} {e : Expr} {te : TE} {pos : Pos}
def tNext : TS := fun D σ H => D.nx σ H
def tSeq (t u : TS) : TS := fun D σ H => t { D with nx := u D } σ H
theorem pss_nil : PSs X [] tNext := fun _ _ σ H _ I h => wpAny_execs_nil ⟨σ, H, I, h⟩
theorem pss_cons (h1 : PS X st t) (h2 : PSs X rest u) : PSs X (st :: rest) (tSeq t u) := by
  intro pins s σ H D I h
  refine wpAny_execs_cons (thn (h1 pins s σ H { D with nx := u D } I h) fun f s1 q => ?_)
  cases f with
  | next =>
    obtain ⟨σ', H', I', q⟩ := q
    exact h2 pins s1 σ' H' D I' q
  | ret v => exact q
  | brk => exact q
  | cont => exact q
theorem pss_one (h1 : PS X st t) : PSs X [st] t := by
  intro pins s σ H D I h
  refine wpAny_execs_cons (thn (h1 pins s σ H D I h) fun f s1 q => ?_)
  cases f with
  | next => exact wpAny_execs_nil q
  | ret v => exact q
  | brk => exact q
  | cont => exact q
theorem Inv.quiet {pins : List (Addr × Obj)} {σ : St} {H : Hp} {s : Shared} (I : Inv X pins σ H s) : interactive X.env = false := by simp [interactive, I.ok.kind]
def tDrop (te : TE) : TS := fun D σ H => te σ H fun _ H1 => D.nx σ H1
theorem ps_expr (he : PE X e te) (hs : swapsWith e none pos.line X.env = pure false := by rfl) : PS X (.Expr e pos) (tDrop te) := by
  intro pins s σ H D I h
  exact wpAny_Expr_any (thn (he pins s σ H _ I h) fun v s1 ⟨x, H1, I1, r1, q1⟩ => ⟨σ, H1, I1, q1⟩) I.quiet hs
def tRet (te : TE) : TS := fun D σ H => te σ H D.rt
theorem ps_ret (he : PE X e te) : PS X (.Return (some e) pos) (tRet te) := by
  intro pins s σ H D I h
  exact wpAny_Return_some (thn (he pins s σ H _ I h) fun v s1 ⟨x, H1, I1, r1, q1⟩ => ⟨x, σ, H1, I1, r1, q1⟩)
def tIfS (c : TT) (t u : TS) : TS := fun D σ H => c σ H fun b H1 => if b = true then t D σ H1 else u D σ H1
theorem ps_if {c : Expr} {a b : List Stmt} {tc : TT} (hc : PT X c tc) (ha : PSs X a t) (hb : PSs X b u) : PS X (.If c a b pos) (tIfS tc t u) := by
  intro pins s σ H D I h
  refine wpAny_If (thn (hc pins s σ H _ I h) fun d s1 ⟨H1, I1, q1⟩ => ?_)
  cases d with
  | true => exact ha pins s1 σ H1 D I1 q1
  | false => exact hb pins s1 σ H1 D I1 q1
def tNever : TS := fun _ _ _ => False
theorem pss_never {sts : List Stmt} : PSs X sts tNever := fun _ _ _ _ _ _ h => h.elim
end
abbrev TG := V -> St -> Hp -> (St -> Hp -> Prop) -> Prop
abbrev TGs := List V -> St -> Hp -> (St -> Hp -> Prop) -> Prop
def PG (X : Cx) (target : Expr) (t : TG) : Prop :=
  ∀ (pins : List (Addr × Obj)) (s : Shared) (σ : St) (H : Hp) (v : V) (u : Value) (Q : St -> Hp -> Prop), Inv X pins σ H s -> RelV v u -> t v σ H Q →
    wpAny (model X.prog X.w) X.A (assign target X.env u) (fun _ s' => ∃ σ' H', Inv X pins σ' H' s' /\ Q σ' H') X.xe s
def PGs (X : Cx) (ts : List Expr) (t : TGs) : Prop :=
  ∀ (pins : List (Addr × Obj)) (s : Shared) (σ : St) (H : Hp) (vs : List V) (us : List Value) (Q : St -> Hp -> Prop), Inv X pins σ H s -> Vals vs us -> t vs σ H Q →
    wpAny (model X.prog X.w) X.A (assignInOrder ((assignEach ts X.env).map (·.2)) us) (fun _ s' => ∃ σ' H', Inv X pins σ' H' s' /\ Q σ' H') X.xe s
abbrev TSet := V -> V -> V -> Hp -> (Hp -> Prop) -> Prop
def PSet (X : Cx) (t : TSet) : Prop :=
  ∀ (pins : List (Addr × Obj)) (s : Shared) (σ : St) (H : Hp) (o i v : V) (ov iv u : Value) (Q : Hp -> Prop), Inv X pins σ H s -> RelV o ov -> RelV i iv -> RelV v u -> t o i v H Q →
    wpAny (model X.prog X.w) X.A (setItem ov iv u) (fun _ s' => ∃ H', Inv X pins σ H' s' /\ Q H') X.xe s
section
variable {X : Cx} {pos : Pos}
def gName (i : Nat) : TG := fun v σ H Q => Q (σ.set i (some v)) H
theorem pg_name {i : Nat} {x : Str} (hN : X.N.Nodup) (hi : X.N[i]? = some x) (hx : Loc X.env.scope x) (hf : X.fn x = true \/ X.env.scope.names.lookup x = some .local := by first | exact .inl rfl | exact .inr rfl | assumption) : PG X (.Name x pos) (gName i) := by
  intro pins s σ H v u Q I r h
  exact wpAny_assign_Name (store_ok I hN hi hx r (fun s' I' => ⟨_, H, I', h⟩) hf)
def gNil : TGs := fun vs σ H Q => vs = [] /\ Q σ H
def gCons (t : TG) (u : TGs) : TGs := fun vs σ H Q => ∃ v r, vs = v :: r /\ t v σ H fun σ' H' => u r σ' H' Q
theorem pgs_nil : PGs X [] gNil := by
  intro pins s σ H vs us Q I r h
  obtain ⟨e, h⟩ := h
  subst e
  cases r
  exact assignInOrder_nil ⟨σ, H, I, h⟩
theorem pgs_cons {e : Expr} {es : List Expr} {t : TG} {u : TGs} (h1 : PG X e t) (h2 : PGs X es u)
    (hs : (assignEach (e :: es) X.env).map (·.2) = assign e X.env :: (assignEach es X.env).map (·.2) := by rfl) : PGs X (e :: es) (gCons t u) := by
  intro pins s σ H vs us Q I r h
  obtain ⟨v, vr, e1, h⟩ := h
  subst e1
  cases r with
  | cons r rr =>
    rw [hs]
    refine assignInOrder_cons (thn (h1 pins s σ H _ _ _ I r h) fun _ s1 ⟨σ1, H1, I1, q1⟩ => ?_)
    exact h2 pins s1 σ1 H1 _ _ Q I1 rr q1
def gTup (K : W.Frag) (n : Nat) (t : TGs) : TG := fun v σ H Q => ∃ a xs, v = .ref a /\ SqT K H a xs /\ xs.length = n /\ t xs σ H Q
theorem pg_tup {es : List Expr} {k : Nat} {t : TGs} {n : Nat} (hc : X.calm = true) (h : PGs X es t)
    (hn : (assignEach es X.env).length = n := by rfl) (hst : (assignEach es X.env).findIdx? (·.1) = none := by rfl) : PG X (.Tuple es k pos) (gTup X.K n t) := by
  intro pins s σ H v u Q I r hw
  obtain ⟨a, xs, e1, hq, hl, hw⟩ := hw
  subst e1
  cases r
  obtain ⟨its, rv, ht, hz⟩ := I.tuple hq
  refine assign_Tuple_tuple (I.ok.hd hc) ht (by simp [hn, <- hl, rv.length]) hst fun h' hx => ?_
  have I1 : Inv X pins σ H { s with heap := h' } := I.kept (t' := s.toks) fun b o e => hx b o (Nat.ne_of_lt (Heap.lt_size e)) e
  exact h pins _ σ H xs _ Q I1 (by simpa using rv) hw
def gSub (to ti : TE) (t : TSet) : TG := fun v σ H Q => to σ H fun o H1 => ti σ H1 fun i H2 => t o i v H2 fun H3 => Q σ H3
theorem pg_sub {o i : Expr} {to ti : TE} {t : TSet} (ho : PE X o to) (hi : PE X i ti) (hs : PSet X t)
    (ha : ∀ v, assign (.Subscript o i pos) X.env v = (do
      let ov <- holding [v] (eval o X.env)
      let iv <- holding [v, ov] (eval i X.env)
      standAt pos
      holding [v, ov, iv] (setItem ov iv v)
      release [v, ov, iv] []) := by intro _; rfl) : PG X (.Subscript o i pos) (gSub to ti t) := by
  intro pins s σ H v u Q I r h
  rw [ha]
  refine wpAny_bind (wpAny_holding (thn (ho pins s σ H _ I h) fun ov s1 ⟨x, H1, I1, r1, q1⟩ => ?_))
  refine wpAny_bind (wpAny_holding (thn (hi pins s1 σ H1 _ I1 q1) fun iv s2 ⟨y, H2, I2, r2, q2⟩ => ?_))
  refine wpAny_bind (wpAny_standAt (wpAny_bind (wpAny_holding (thn (hs pins s2 σ H2 x y v ov iv u _ I2 r1 r2 r q2) fun _ s3 ⟨H3, I3, q3⟩ => ?_))))
  exact wpAny_release ⟨σ, H3, I3, q3⟩
def tAsg (te : TE) (g : TG) : TS := fun D σ H => te σ H fun x H1 => g x σ H1 D.nx
theorem ps_asg {tg e : Expr} {te : TE} {g : TG} (he : PE X e te) (hg : PG X tg g) (hs : swapsWithSole [tg] e pos.line X.env = pure false := by rfl) (hw : swappedStores [tg] e X.env = pure none := by rfl)
    (h1 : (assignEach [tg] X.env).map (·.2) = [assign tg X.env] := by rfl) : PS X (.Assign [tg] e pos) (tAsg te g) := by
  intro pins s σ H D I h
  refine wpAny_Assign_stores (thn (he pins s σ H _ I h) fun v s1 ⟨x, H1, I1, r1, q1⟩ => ?_) hs hw
  rw [h1]
  exact thn (hg pins s1 σ H1 x v _ I1 r1 q1) fun _ s2 q => q
theorem ps_set {i : Nat} {x : Str} {e : Expr} {te : TE} {pos' : Pos} (hN : X.N.Nodup) (hi : X.N[i]? = some x) (hx : Loc X.env.scope x) (he : PE X e te) (hs : swapsWith e (some (.Name x pos')) pos.line X.env = pure false := by rfl) (hf : X.fn x = true \/ X.env.scope.names.lookup x = some .local := by first | exact .inl rfl | exact .inr rfl | assumption) :
    PS X (.Assign [.Name x pos'] e pos) (tAsg te (gName i)) := by
  intro pins s σ H D I h
  refine wpAny_Assign_Name (thn (he pins s σ H _ I h) fun v s1 ⟨y, H1, I1, r1, q1⟩ => ?_) hs
  exact store_ok I1 hN hi hx r1 (fun s2 I2 => ⟨_, H1, I2, q1⟩) hf
def tPar (i j : Nat) (ta : TA) : TS := fun D σ H => ta σ H fun vs H1 => ∃ v w, vs = [v, w] /\ D.nx ((σ.set i (some v)).set j (some w)) H1
theorem ps_par {i j : Nat} {x y : Str} {a b : Expr} {ta : TA} {px py pt : Pos} {kt k2 pt2} (hc : X.calm = true) (hN : X.N.Nodup) (hi : X.N[i]? = some x) (hj : X.N[j]? = some y) (hij : i ≠ j)
    (hx : X.env.scope.names.lookup x = some .local) (hy : X.env.scope.names.lookup y = some .local) (ha : PA X [a, b] ta)
    (hw : swappedStores [.Tuple [.Name x px, .Name y py] kt pt] (.Tuple [a, b] k2 pt2) X.env = pure (some [x, y]))
    (hs : swapsWithSole [.Tuple [.Name x px, .Name y py] kt pt] (.Tuple [a, b] k2 pt2) pos.line X.env = pure false := by rfl) :
    PS X (.Assign [.Tuple [.Name x px, .Name y py] kt pt] (.Tuple [a, b] k2 pt2) pos) (tPar i j ta) := by
  intro pins s σ H D I h
  rw [exec_Assign_arm]
  refine wpAny_bind (wpAny_standAt ?_)
  rw [hs]
  refine wpAny_bind (wpAny_pure ?_)
  rw [if_neg (by decide)]
  refine wpAny_bind (Tuple_ (thn (ha _ pins s σ H _ I h) fun us s1 ⟨vs, H1, I1, r1, q1⟩ => ?_))
  obtain ⟨v, w, e1, q1⟩ := q1
  subst e1
  obtain ⟨u1, u2, rfl, rv, rw'⟩ : ∃ u1 u2, us = [u1, u2] /\ RelV v u1 /\ RelV w u2 := by
    cases r1 with
    | cons p q =>
      cases q with
      | cons p' q' =>
        cases q'
        exact ⟨_, _, rfl, p, p'⟩
  refine wpAny_newObj_type ?_ (by show 2 <= sizeLine; decide)
  have I2 : Inv X pins σ H1 { s1 with heap := s1.heap.push { cls := .type "tuple", data := .seq [u1, u2].toArray } } := I1.kept (t' := s1.toks) fun b o e => Heap.get?_push_of_some _ e
  rw [hw]
  refine wpAny_bind (wpAny_pure ?_)
  show wpAny (model X.prog X.w) X.A (do rule "assign.swapped-stores"; let items <- unpackItems (.ref s1.heap.objs.size) 2 none; assignInOrder [fun v => bindName X.env y v, fun v => bindName X.env x v] items.reverse; pure Flow.next) _ _ _
  refine wpAny_bind (wpAny_rule (wpAny_bind (unpackItems_tuple (items := #[u1, u2]) (I.ok.hd hc) (IsTup.new s1.heap _) fun h' hx' => ?_)))
  have I3 := I2.kept (h' := h') (t' := s1.toks) fun b o e => hx' b o (Nat.ne_of_lt (Heap.lt_size e)) e
  show wpAny _ _ (assignInOrder [fun v => bindName X.env y v, fun v => bindName X.env x v] [u2, u1] >>= fun _ => pure Flow.next) _ _ _
  refine wpAny_bind (assignInOrder_cons (wpAny_bindName (store_ok I3 hN hj (.inl hy) rw' (fun s2 I4 => ?_) (.inr hy))))
  refine assignInOrder_cons (wpAny_bindName (store_ok I4 hN hi (.inl hx) rv (fun s3 I5 => assignInOrder_nil (wpAny_pure ?_)) (.inr hx)))
  rw [List.set_comm _ _ (Ne.symm hij)] at I5
  exact ⟨_, H1, I5, q1⟩
end
section
variable {X : Cx} {pos : Pos}
def tWhile (c : TT) (tb : TS) : TS := fun D σ H => ∃ W : Nat -> St -> Hp -> Prop, (∃ m, W m σ H) /\ ∀ m σ H, W m σ H →
  c σ H fun b H1 => if b = true then ∃ N : St -> Hp -> Prop, (∀ σ' H', N σ' H' -> ∃ m', m' < m /\ W m' σ' H') /\ tb { D with nx := N, ct := N, bk := D.nx } σ H1 else D.nx σ H1
theorem ps_while {c : Expr} {body : List Stmt} {tc : TT} {tb : TS} (hp : PassesOwn (model X.prog X.w) X.A X.env X.xe) (hc : PT X c tc) (hb : PSs X body tb) : PS X (.While c body [] pos) (tWhile tc tb) := by
  intro pins s σ H D I h
  obtain ⟨W, ⟨m0, w0⟩, turn⟩ := h
  refine wpAny_While (codeAny_whileLoop (fun n s' => ∃ σ' H', Inv X pins σ' H' s' /\ W n σ' H') ?_ m0 ⟨σ, H, I, w0⟩)
  rintro n s1 ⟨σ1, H1, I1, w1⟩
  refine wpAny_passesOwn hp (thn (hc pins s1 σ1 H1 _ I1 (turn n σ1 H1 w1)) fun b s2 ⟨H2, I2, q2⟩ => ?_)
  cases b with
  | true =>
    obtain ⟨N, hN, q2⟩ := q2
    rw [if_pos rfl]
    refine wpAny_passesOwn hp (thn (hb pins s2 σ1 H2 _ I2 q2) fun f s3 q3 => ?_)
    cases f with
    | next =>
      obtain ⟨σ3, H3, I3, n3⟩ := q3
      obtain ⟨m', hm, w3⟩ := hN σ3 H3 n3
      exact ⟨m', hm, σ3, H3, I3, w3⟩
    | cont =>
      obtain ⟨σ3, H3, I3, n3⟩ := q3
      obtain ⟨m', hm, w3⟩ := hN σ3 H3 n3
      exact ⟨m', hm, σ3, H3, I3, w3⟩
    | brk => exact q3
    | ret v => exact q3
  | false =>
    rw [if_neg Bool.false_ne_true]
    exact wpAny_execs_nil ⟨σ1, H2, I2, q2⟩
end
structure It where
  go : Nat -> Hp -> Prop
  yld : Nat -> Hp -> V -> Hp -> Prop
  stop : Nat -> Hp -> Prop
def FpOk (X : Cx) (pins : List (Addr × Obj)) (H : Hp) (b : Addr) : Prop :=
  H b = none /\ b ≠ X.env.locals /\ b ∉ X.fs /\ (b ∈ X.ex \/ X.s₀.heap.objs.size <= b) /\ (∀ x c, X.env.cells.lookup x = some c -> c ≠ b) /\ ∀ p ∈ X.pn ++ pins, p.1 ≠ b
theorem Inv.fpOk {X : Cx} {pins : List (Addr × Obj)} {σ : St} {H H' : Hp} {s : Shared} {b : Addr} (I : Inv X pins σ H s) (hb : s.heap.objs.size <= b) (hn : H' b = none) : FpOk X pins H' b := by
  refine ⟨hn, Nat.ne_of_gt (Nat.lt_of_lt_of_le I.lt hb), I.nofs hb, .inr (Nat.le_trans I.sz hb), fun x c e z => ?_, fun p hp z => ?_⟩
  . obtain ⟨v, q⟩ := I.cell x c e
    exact absurd (Nat.lt_of_lt_of_le q.lt (by rw [z]; exact hb)) (Nat.lt_irrefl _)
  . exact absurd (Nat.lt_of_lt_of_le (Heap.lt_size (I.pin p hp).1) (by rw [z]; exact hb)) (Nat.lt_irrefl _)
structure Turn (P : Program) (w : World) (K : W.Frag) (tg : Expr) (J : It) (fp : List Addr) (it : Addr) (tn : Nat -> Heap -> Prop) : Prop where
  mem : it ∈ fp
  obj : ∀ i h, tn i h -> ∀ b ∈ fp, ∃ o, h.get? b = some o /\ ∀ v, o.data ≠ .cell v
  keep : ∀ i h h', tn i h -> (∀ b ∈ fp, ∀ o, h.get? b = some o -> h'.get? b = some o) -> tn i h'
  item : ∀ (X : Cx), X.prog = P -> X.w = w -> X.K = K -> X.calm = true -> ∀ (i : Nat) (pins : List (Addr × Obj)) (s : Shared) (σ : St) (H : Hp) (E : Value -> Shared -> Prop), Inv X pins σ H s -> (∀ b ∈ fp, FpOk X pins H b) -> tn i s.heap -> J.go i H →
    wpAny (model P w) X.A (pyNext (.ref it)) (fun r s1 => ∃ u, r = some u ∧
      wpAny (model P w) X.A (letOwnedTupleGo tg (.ref it) u) (fun _ s2 => ∃ x H', Inv X pins σ H' s2 /\ RelV x u /\ J.yld i H x H' /\ tn (i + 1) s2.heap /\ ∀ b ∈ fp, H' b = none) E s1) E s
  done : ∀ (X : Cx), X.prog = P -> X.w = w -> X.K = K -> X.calm = true -> ∀ (i : Nat) (pins : List (Addr × Obj)) (s : Shared) (σ : St) (H : Hp) (E : Value -> Shared -> Prop), Inv X pins σ H s -> (∀ b ∈ fp, FpOk X pins H b) -> tn i s.heap -> J.stop i H →
    wpAny (model P w) X.A (pyNext (.ref it)) (fun r s1 => r = none /\ Inv X pins σ H s1) E s
  self : ∀ (A : Around) (i : Nat) (s : Shared) (Q : Value -> Shared -> Prop) (E : Value -> Shared -> Prop), tn i s.heap -> Q (.ref it) s -> wpAny (model P w) A (pyIter (.ref it)) Q E s
abbrev TI := St -> Hp -> (It -> Hp -> Prop) -> Prop
def PIE (X : Cx) (pins : List (Addr × Obj)) (σ : St) (tg : Expr) (R : It -> Hp -> Prop) (itv : Value) (s2 : Shared) : Prop :=
  ∃ (it : Addr) (fp : List Addr) (tn : Nat -> Heap -> Prop) (J : It) (H' : Hp), itv = .ref it /\ Inv X pins σ H' s2 /\ Turn X.prog X.w X.K tg J fp it tn /\ tn 0 s2.heap /\ (∀ b ∈ fp, FpOk X pins H' b) /\ R J H'
def PI (X : Cx) (tg iter : Expr) (wi : TI) : Prop :=
  ∀ (pins : List (Addr × Obj)) (s : Shared) (σ : St) (H : Hp) (R : It -> Hp -> Prop), Inv X pins σ H s -> wi σ H R →
    wpAny (model X.prog X.w) X.A (eval iter X.env) (fun v s1 => wpAny (model X.prog X.w) X.A (pyIter v) (PIE X pins σ tg R) X.xe s1) X.xe s
theorem go_of {M : Model} {A : Around} {E : Value -> Shared -> Prop} {s : Shared} {tg : Expr} {it : Addr} {u : Value} {o : Obj} {n : String} {vs : Array Value} {Q : Unit -> Shared -> Prop} (ho : s.heap.get? it = some o) (hc : o.cls = .type n) (hd : o.data = .fields vs)
    (hn : ["enumerate", "zip", "dict_itemiterator", "dict_reverseitemiterator", "odict_iterator", "itertools.zip_longest", "itertools.pairwise"].contains n = false) (hQ : Q () s) : wpAny M A (letOwnedTupleGo tg (.ref it) u) Q E s := by
  unfold letOwnedTupleGo
  cases tg <;> first
    | exact wpAny_pure hQ
    | (cases u <;> first
        | exact wpAny_pure hQ
        | (refine wpAny_bind (wpAny_load ho ?_)
           rw [hc, hd]
           show wpAny M A (if (["enumerate", "zip", "dict_itemiterator", "dict_reverseitemiterator", "odict_iterator", "itertools.zip_longest", "itertools.pairwise"].contains n && vs[0]? == some (rawInt _)) = true then _ else _) Q E s
           rw [if_neg (by intro h; rw [hn, Bool.false_and] at h; cases h)]
           exact wpAny_pure hQ))
def Itl (K : W.Frag) (a : Addr) : It :=
  ⟨fun i H => ∃ xs x, SqL K H a xs /\ xs[i]? = some x, fun i H x H' => H' = H /\ ∀ xs, SqL K H a xs -> xs[i]? = some x, fun i H => ∃ xs, SqL K H a xs /\ xs.length <= i⟩
def Itt (K : W.Frag) (a : Addr) : It :=
  ⟨fun i H => ∃ xs x, SqT K H a xs /\ xs[i]? = some x, fun i H x H' => H' = H /\ ∀ xs, SqT K H a xs -> xs[i]? = some x, fun i H => ∃ xs, SqT K H a xs /\ xs.length <= i⟩
def Itr (lo : Int) (n : Nat) : It := ⟨fun i _ => i < n, fun i H x H' => H' = H /\ x = .int (lo + i), fun i _ => n <= i⟩
theorem turn_list {P : Program} {w : World} {K : W.Frag} {tg : Expr} (a it : Addr) : Turn P w K tg (Itl K a) [it] it (fun i h => h.IsListIter it a i) where
  mem := by simp
  obj := fun i h st b hb => by
    have e : b = it := by simpa using hb
    subst e
    obtain ⟨o, e, c, d⟩ := st
    exact ⟨o, e, fun v z => by rw [d] at z; cases z⟩
  keep := fun i h h' st k => st.at fun o e => k it (by simp) o e
  item := by
    intro X hP hw hK hc i pins s σ H E I hf st hg
    subst hP hw hK
    obtain ⟨xs, x, hq, hx⟩ := hg
    obtain ⟨its, rv, p, hz⟩ := I.list hq
    obtain ⟨u, hu, ru⟩ := rv.get hx
    obtain ⟨f0, f1, f2, f3, f4, f5⟩ := hf it (by simp)
    refine wpAny_pyNext_list_item st p.isList (x := u) (by simpa using hu) fun h' st' sb => ?_
    have I1 : Inv X pins σ H { s with heap := h' } := I.turned (t' := s.toks) (fun b o hb e => (sb.2 b hb).trans e) f0 f1 f3 f4 f5
    obtain ⟨o, e, c, d⟩ := id st'
    exact ⟨u, rfl, go_of (s := { s with heap := h' }) e c d (by decide) ⟨x, H, I1, ru, ⟨rfl, fun ys hy => by rw [I.list_inj hy hq]; exact hx⟩, st', fun b hb => (hf b hb).1⟩⟩
  done := by
    intro X hP hw hK hc i pins s σ H E I hf st hg
    subst hP hw hK
    obtain ⟨xs, hq, hx⟩ := hg
    obtain ⟨its, rv, p, hz⟩ := I.list hq
    obtain ⟨f0, f1, f2, f3, f4, f5⟩ := hf it (by simp)
    have hl := rv.length
    exact wpAny_pyNext_list_end (I.ok.hd hc) st p.isList (by simp; omega) fun h' eb => ⟨rfl, I.turned (t' := s.toks) (fun b o hb e => eb b o hb e) f0 f1 f3 f4 f5⟩
  self := fun _ _ _ _ _ st h => wpAny_pyIter_listiter st h
theorem turn_tuple {P : Program} {w : World} {K : W.Frag} {tg : Expr} (a it : Addr) : Turn P w K tg (Itt K a) [it] it (fun i h => h.IsTupleIter it a i) where
  mem := by simp
  obj := fun i h st b hb => by
    have e : b = it := by simpa using hb
    subst e
    obtain ⟨o, e, c, d⟩ := st
    exact ⟨o, e, fun v z => by rw [d] at z; cases z⟩
  keep := fun i h h' st k => st.at fun o e => k it (by simp) o e
  item := by
    intro X hP hw hK hc i pins s σ H E I hf st hg
    subst hP hw hK
    obtain ⟨xs, x, hq, hx⟩ := hg
    obtain ⟨its, rv, p, hz⟩ := I.tuple hq
    obtain ⟨u, hu, ru⟩ := rv.get hx
    obtain ⟨f0, f1, f2, f3, f4, f5⟩ := hf it (by simp)
    refine wpAny_pyNext_tuple_item st (show s.heap.IsTuple a its.toArray from p) (x := u) (by simpa using hu) fun h' st' sb => ?_
    have I1 : Inv X pins σ H { s with heap := h' } := I.turned (t' := s.toks) (fun b o hb e => (sb.2 b hb).trans e) f0 f1 f3 f4 f5
    obtain ⟨o, e, c, d⟩ := id st'
    exact ⟨u, rfl, go_of (s := { s with heap := h' }) e c d (by decide) ⟨x, H, I1, ru, ⟨rfl, fun ys hy => by rw [I.tuple_inj hy hq]; exact hx⟩, st', fun b hb => (hf b hb).1⟩⟩
  done := by
    intro X hP hw hK hc i pins s σ H E I hf st hg
    subst hP hw hK
    obtain ⟨xs, hq, hx⟩ := hg
    obtain ⟨its, rv, p, hz⟩ := I.tuple hq
    obtain ⟨f0, f1, f2, f3, f4, f5⟩ := hf it (by simp)
    have hl := rv.length
    exact wpAny_pyNext_tuple_end (I.ok.hd hc) st (show s.heap.IsTuple a its.toArray from p) (by simp; omega) fun h' eb => ⟨rfl, I.turned (t' := s.toks) (fun b o hb e => eb b o hb e) f0 f1 f3 f4 f5⟩
  self := fun _ _ _ _ _ st h => wpAny_pyIter_tupleiter st h
theorem turn_range {P : Program} {w : World} {K : W.Frag} {tg : Expr} (it : Addr) (lo : Int) (n : Nat) : Turn P w K tg (Itr lo n) [it] it (fun i h => IsRangeIter h it (lo + (i : Nat) * 1) ((n : Int) - (i : Nat)) 1) where
  mem := by simp
  obj := fun i h st b hb => by
    have e : b = it := by simpa using hb
    subst e
    exact ⟨_, st, fun v z => by
      have z' : Data.fields _ = Data.cell v := z
      cases z'⟩
  keep := fun i h h' st k => k it (by simp) _ st
  item := by
    intro X hP hw hK hc i pins s σ H E I hf st hg
    subst hP hw hK
    obtain ⟨f0, f1, f2, f3, f4, f5⟩ := hf it (by simp)
    have W := Walks.range (prog := X.prog) (w := X.w) (I.ok.hd hc) it lo 1 n
    refine W.item i s _ _ hg st fun v h' tk hv st' kk => ?_
    obtain ⟨t, rfl⟩ := hv
    have I1 : Inv X pins σ H { s with heap := h', toks := tk } := I.turned (fun b o hb e => kk b o (by simpa using hb) e) f0 f1 f3 f4 f5
    refine ⟨_, rfl, go_of (s := { s with heap := h', toks := tk }) (n := "range_iterator") st' rfl rfl (by decide) ⟨.int (lo + i), H, I1, ⟨t, ?_⟩, ⟨rfl, rfl⟩, st', fun b hb => (hf b hb).1⟩⟩
    rw [Int.mul_one]
  done := by
    intro X hP hw hK hc i pins s σ H E I hf st hg
    subst hP hw hK
    obtain ⟨f0, f1, f2, f3, f4, f5⟩ := hf it (by simp)
    exact wpAny_pyNext_range_end (I.ok.hd hc) st (by have : n <= i := hg; omega) fun h' eb => ⟨rfl, I.turned (t' := s.toks) (fun b o hb e => eb b o hb e) f0 f1 f3 f4 f5⟩
  self := fun _ _ _ _ _ st h => wpAny_pyIter_rangeiter st h
end L2
namespace L2
open PySem PySem.Spec PyProof.Rows
section
variable {X : Cx} {tg : Expr}
def iList (K : W.Frag) (tl : TE) : TI := fun σ H R => tl σ H fun x H1 => ∃ a, x = .ref a /\ (∃ xs, SqL K H1 a xs) /\ R (Itl K a) H1
def iTup (K : W.Frag) (tl : TE) : TI := fun σ H R => tl σ H fun x H1 => ∃ a, x = .ref a /\ (∃ xs, SqT K H1 a xs) /\ R (Itt K a) H1
theorem pi_list {l : Expr} {tl : TE} (hl : PE X l tl) : PI X tg l (iList X.K tl) := by
  intro pins s σ H R I h
  refine thn (hl pins s σ H _ I h) fun v s1 ⟨x, H1, I1, r1, q1⟩ => ?_
  obtain ⟨a, e, ⟨xs, hq⟩, q⟩ := q1
  subst e
  cases r1
  obtain ⟨its, rv, p, hz⟩ := I1.list hq
  refine wpAny_pyIter_list p.isList ?_
  refine ⟨s1.heap.objs.size, [s1.heap.objs.size], _, _, H1, rfl, I1.kept (t' := s1.toks) fun b o e => Heap.get?_push_of_some _ e, turn_list a _, ⟨_, Heap.get?_push_size _ rfl, rfl, rfl⟩, fun b hb => ?_, q⟩
  have e : b = s1.heap.objs.size := by simpa using hb
  subst e
  exact I1.fpOk (Nat.le_refl _) (I1.hok.fresh (Nat.le_refl _))
theorem pi_tup {l : Expr} {tl : TE} (hl : PE X l tl) : PI X tg l (iTup X.K tl) := by
  intro pins s σ H R I h
  refine thn (hl pins s σ H _ I h) fun v s1 ⟨x, H1, I1, r1, q1⟩ => ?_
  obtain ⟨a, e, ⟨xs, hq⟩, q⟩ := q1
  subst e
  cases r1
  obtain ⟨its, rv, p, hz⟩ := I1.tuple hq
  refine wpAny_pyIter_tuple (show s1.heap.IsTuple a its.toArray from p) ?_
  refine ⟨s1.heap.objs.size, [s1.heap.objs.size], _, _, H1, rfl, I1.kept (t' := s1.toks) fun b o e => Heap.get?_push_of_some _ e, turn_tuple a _, ⟨_, Heap.get?_push_size _ rfl, rfl, rfl⟩, fun b hb => ?_, q⟩
  have e : b = s1.heap.objs.size := by simpa using hb
  subst e
  exact I1.fpOk (Nat.le_refl _) (I1.hok.fresh (Nat.le_refl _))
theorem range_it {pins : List (Addr × Obj)} {σ : St} {H : Hp} {s : Shared} {R : It -> Hp -> Prop} {E : Value -> Shared -> Prop} {lo hi : Int} {t u v : Tok} {tk : Nat} (I : Inv X pins σ H s) (h1 : -(2 ^ 62) <= lo) (h2 : lo < 2 ^ 62) (h3 : -(2 ^ 62) <= hi) (h4 : hi < 2 ^ 62)
    (q : R (Itr lo (hi - lo).toNat) H) : wpAny (model X.prog X.w) X.A (pyIter (.ref s.heap.objs.size)) (PIE X pins σ tg R) E { s with heap := s.heap.push { cls := .type "range", data := .fields #[.int lo t, .int hi u, .int 1 v] }, toks := tk } := by
  refine wpAny_pyIter_range (IsRange.new ..) (small_one h1 h2 h3 h4) ?_
  have I1 : Inv X pins σ H { s with heap := s.heap.push { cls := .type "range", data := .fields #[.int lo t, .int hi u, .int 1 v] }, toks := tk } := I.kept fun b o e => Heap.get?_push_of_some _ e
  refine ⟨(s.heap.push { cls := .type "range", data := .fields #[.int lo t, .int hi u, .int 1 v] }).objs.size, [(s.heap.push { cls := .type "range", data := .fields #[.int lo t, .int hi u, .int 1 v] }).objs.size], _, _, H, rfl,
    I1.kept (t' := tk) fun b o e => Heap.get?_push_of_some _ e, turn_range _ lo (hi - lo).toNat, ?_, fun b hb => ?_, q⟩
  . have e1 : lo + ((0 : Nat) : Int) * 1 = lo := by simp
    have e2 : (((hi - lo).toNat : Nat) : Int) - ((0 : Nat) : Int) = Builtin.Range.rangeSize lo hi 1 := by rw [rangeSize_one]; split <;> omega
    show IsRangeIter _ _ (lo + ((0 : Nat) : Int) * 1) ((((hi - lo).toNat : Nat) : Int) - ((0 : Nat) : Int)) 1
    rw [e1, e2]
    exact Heap.get?_push_size _ rfl
  . have e : b = (s.heap.push { cls := .type "range", data := .fields #[.int lo t, .int hi u, .int 1 v] }).objs.size := by simpa using hb
    subst e
    exact I1.fpOk (Nat.le_refl _) (I1.hok.fresh (Nat.le_refl _))
def iRng1 (ta : TA) : TI := fun σ H R => ta σ H fun vs H1 => ∃ j : Int, vs = [.int j] /\ -(2 ^ 62) <= j /\ j < 2 ^ 62 /\ R (Itr 0 j.toNat) H1
theorem pi_range1 {a : Expr} {ta : TA} {p pos : Pos} (hg : Gl X "range") (hm : X.mg "range" = none) (ha : PA X [a] ta) (hs : starEach [a] X.env = [(false, eval a X.env)] := by rfl) : PI X tg (.Call (.Name "range" p) [a] [] pos) (iRng1 ta) := by
  intro pins s σ H R I h
  refine Call_ (ld_blt I hg hm boot_range (PyProof.Rows.callWith_type1 (thn (ha pos pins s σ H _ I h) fun us s1 ⟨vs, H1, I1, r1, q1⟩ => ?_) hs rfl))
  obtain ⟨j, e, q1, q2, q⟩ := q1
  subst e
  cases r1 with
  | cons r rr =>
    cases rr
    obtain ⟨t, rfl⟩ := r
    exact call_range_1 (range_it I1 (by omega) (by omega) q1 q2 (by simpa using q))
def tFor (wi : TI) (g : TG) (tb : TS) : TS := fun D σ H => wi σ H fun J H1 => ∃ W : Nat -> Nat -> St -> Hp -> Prop, (∃ m, W 0 m σ H1) /\ ∀ i m σ H, W i m σ H →
  (J.stop i H /\ D.nx σ H) \/ (J.go i H /\ ∃ N : St -> Hp -> Prop, (∀ σ' H', N σ' H' -> ∃ m', m' < m /\ W (i + 1) m' σ' H') /\ ∀ x H', J.yld i H x H' -> g x σ H' fun σ2 H2 => tb { D with nx := N, ct := N, bk := D.nx } σ2 H2)
def pinsAt (fp : List Addr) (h : Heap) : List (Addr × Obj) := fp.filterMap fun b => (h.get? b).map fun o => (b, o)
theorem mem_pinsAt {fp : List Addr} {h : Heap} {b : Addr} {o : Obj} (hb : b ∈ fp) (e : h.get? b = some o) : (b, o) ∈ pinsAt fp h := List.mem_filterMap.mpr ⟨b, hb, by rw [e]; rfl⟩
theorem of_pinsAt {fp : List Addr} {h : Heap} {p : Addr × Obj} (hp : p ∈ pinsAt fp h) : p.1 ∈ fp /\ h.get? p.1 = some p.2 := by
  obtain ⟨b, hb, e⟩ := List.mem_filterMap.mp hp
  cases q : h.get? b with
  | none => rw [q] at e; cases e
  | some o =>
    rw [q] at e
    have e' : (b, o) = p := Option.some.inj e
    subst e'
    exact ⟨hb, q⟩
theorem Inv.pinned {pins : List (Addr × Obj)} {σ : St} {H : Hp} {s : Shared} {fp : List Addr} (I : Inv X pins σ H s) (hf : ∀ b ∈ fp, FpOk X pins H b) (ho : ∀ b ∈ fp, ∃ o, s.heap.get? b = some o /\ ∀ v, o.data ≠ .cell v) : Inv X (pins ++ pinsAt fp s.heap) σ H s :=
  I.pins_of fun p hp => (List.mem_append.mp hp).elim (fun z => I.pin p (List.mem_append_right _ z)) fun z => by
    obtain ⟨hb, e⟩ := of_pinsAt z
    obtain ⟨f0, f1, f2, _⟩ := hf p.1 hb
    obtain ⟨o, e', d⟩ := ho p.1 hb
    rw [e] at e'; cases e'
    exact ⟨e, f0, f1, f2, d⟩
theorem Inv.unpinned {pins pl : List (Addr × Obj)} {σ : St} {H : Hp} {s : Shared} (I : Inv X (pins ++ pl) σ H s) : Inv X pins σ H s := I.pins_of fun p hp => I.pin p (List.mem_append_right _ (List.mem_append_left _ hp))
theorem ps_for {iter : Expr} {body : List Stmt} {wi : TI} {g : TG} {tb : TS} {pos : Pos} (hp : PassesOwn (model X.prog X.w) X.A X.env X.xe) (hc : X.calm = true) (hi : PI X tg iter wi) (hg : PG X tg g) (hb : PSs X body tb)
    (hs : ∀ x, foldedSetIterable iter X.env x = pure x := by intro _; rfl) : PS X (.For tg iter body [] pos) (tFor wi g tb) := by
  intro pins s σ H D I h
  refine wpAny_For (thn (hi pins s σ H _ I h) fun v s1 h1 => thn h1 fun itv s2 h2 => ?_) hs
  obtain ⟨it, fp, tn, J, H2, e, I2, T, st2, f2, W, ⟨m0, w0⟩, turn⟩ := h2
  subst e
  -- what stays true of the iterator's objects through the loop
  have stat : ∀ {H' : Hp}, (∀ b ∈ fp, H' b = none) -> ∀ b ∈ fp, FpOk X pins H' b := fun hn b hb => ⟨hn b hb, (f2 b hb).2⟩
  refine codeAny_forLoop_any (fun n s' => ∃ i σ' H', Inv X pins σ' H' s' /\ tn i s'.heap /\ (∀ b ∈ fp, H' b = none) /\ W i n σ' H') ?_ m0 ⟨0, σ, H2, I2, st2, fun b hb => (f2 b hb).1, w0⟩
  rintro n s3 ⟨i, σ3, H3, I3, st3, fr3, w3⟩
  rcases turn i n σ3 H3 w3 with ⟨stop, qn⟩ | ⟨go, N, hN, step⟩
  . refine wpAny_passesOwn hp (thn (T.done X rfl rfl rfl hc i pins s3 σ3 H3 X.xe I3 (stat fr3) st3 stop) fun r s4 ⟨hr, I4⟩ => ?_)
    subst hr
    exact wpAny_execs_nil ⟨σ3, H3, I4, qn⟩
  . refine wpAny_passesOwn hp (thn (T.item X rfl rfl rfl hc i pins s3 σ3 H3 X.xe I3 (stat fr3) st3 go) fun r s4 ⟨u, hr, h4⟩ => ?_)
    subst hr
    refine wpAny_passesOwn hp (thn h4 fun _ s5 ⟨x, H5, I5, r5, y5, st5, fr5⟩ => ?_)
    have I5' := I5.pinned (stat fr5) (T.obj _ _ st5)
    refine wpAny_passesOwn hp (thn (hg _ s5 σ3 H5 x u _ I5' r5 (step x H5 y5)) fun _ s6 ⟨σ6, H6, I6, q6⟩ => ?_)
    refine wpAny_passesOwn hp (thn (hb _ s6 σ6 H6 _ I6 q6) fun f s7 q7 => ?_)
    have again : ∀ {σ7 : St} {H7 : Hp}, Inv X (pins ++ pinsAt fp s5.heap) σ7 H7 s7 -> N σ7 H7 -> ∃ m, m < n /\ ∃ i σ' H', Inv X pins σ' H' s7 /\ tn i s7.heap /\ (∀ b ∈ fp, H' b = none) /\ W i m σ' H' := fun {σ7 H7} I7 n7 => by
      obtain ⟨m', hm, w7⟩ := hN σ7 H7 n7
      refine ⟨m', hm, i + 1, σ7, H7, I7.unpinned, T.keep _ _ _ st5 fun b hb o e => (I7.pin (b, o) (List.mem_append_right _ (List.mem_append_right _ (mem_pinsAt hb e)))).1, fun b hb => ?_, w7⟩
      obtain ⟨o, e, d⟩ := T.obj _ _ st5 b hb
      exact (I7.pin (b, o) (List.mem_append_right _ (List.mem_append_right _ (mem_pinsAt hb e)))).2.1
    cases f with
    | next => obtain ⟨σ7, H7, I7, n7⟩ := q7; exact again I7 n7
    | cont => obtain ⟨σ7, H7, I7, n7⟩ := q7; exact again I7 n7
    | brk => obtain ⟨σ7, H7, I7, q7⟩ := q7; exact ⟨σ7, H7, I7.unpinned, q7⟩
    | ret v => obtain ⟨x7, σ7, H7, I7, r7, q7⟩ := q7; exact ⟨x7, σ7, H7, I7.unpinned, r7, q7⟩
end
theorem for_list {K : W.Frag} {a : Addr} {xs : List V} {g : TG} {tb : TS} {D : Ends} {σ : St} {H : Hp} (Pv : Nat -> St -> Hp -> Prop) (h0 : Pv 0 σ H) (hl : ∀ i σ H, i <= xs.length -> Pv i σ H -> SqL K H a xs)
    (hs : ∀ i x σ H, xs[i]? = some x -> Pv i σ H -> g x σ H fun σ2 H2 => tb { D with nx := Pv (i + 1), ct := Pv (i + 1), bk := D.nx } σ2 H2) (hd : ∀ σ H, Pv xs.length σ H -> D.nx σ H) :
    ∃ W : Nat -> Nat -> St -> Hp -> Prop, (∃ m, W 0 m σ H) /\ ∀ i m σ H, W i m σ H →
      ((Itl K a).stop i H /\ D.nx σ H) \/ ((Itl K a).go i H /\ ∃ N : St -> Hp -> Prop, (∀ σ' H', N σ' H' -> ∃ m', m' < m /\ W (i + 1) m' σ' H') /\ ∀ x H', (Itl K a).yld i H x H' -> g x σ H' fun σ2 H2 => tb { D with nx := N, ct := N, bk := D.nx } σ2 H2) := by
  refine ⟨fun i m σ H => m = xs.length - i /\ i <= xs.length /\ Pv i σ H, ⟨xs.length, by simp, Nat.zero_le _, h0⟩, ?_⟩
  rintro i m σ H ⟨rfl, hi, p⟩
  have q := hl i σ H hi p
  by_cases hlt : i < xs.length
  . refine .inr ⟨⟨xs, xs[i], q, by simp [hlt]⟩, Pv (i + 1), fun σ' H' p' => ⟨xs.length - (i + 1), by omega, rfl, hlt, p'⟩, fun x H' y => ?_⟩
    obtain ⟨e, y⟩ := y
    subst e
    exact hs i x σ _ (y xs q) p
  . have e : i = xs.length := by omega
    subst e
    exact .inl ⟨⟨xs, q, Nat.le_refl _⟩, hd σ H p⟩
theorem for_range {lo : Int} {n : Nat} {g : TG} {tb : TS} {D : Ends} {σ : St} {H : Hp} (Pv : Nat -> St -> Hp -> Prop) (h0 : Pv 0 σ H)
    (hs : ∀ i σ H, i < n -> Pv i σ H -> g (.int (lo + i)) σ H fun σ2 H2 => tb { D with nx := Pv (i + 1), ct := Pv (i + 1), bk := D.nx } σ2 H2) (hd : ∀ σ H, Pv n σ H -> D.nx σ H) :
    ∃ W : Nat -> Nat -> St -> Hp -> Prop, (∃ m, W 0 m σ H) /\ ∀ i m σ H, W i m σ H →
      ((Itr lo n).stop i H /\ D.nx σ H) \/ ((Itr lo n).go i H /\ ∃ N : St -> Hp -> Prop, (∀ σ' H', N σ' H' -> ∃ m', m' < m /\ W (i + 1) m' σ' H') /\ ∀ x H', (Itr lo n).yld i H x H' -> g x σ H' fun σ2 H2 => tb { D with nx := N, ct := N, bk := D.nx } σ2 H2) := by
  refine ⟨fun i m σ H => m = n - i /\ i <= n /\ Pv i σ H, ⟨n, by simp, Nat.zero_le _, h0⟩, ?_⟩
  rintro i m σ H ⟨rfl, hi, p⟩
  by_cases hlt : i < n
  . refine .inr ⟨hlt, Pv (i + 1), fun σ' H' p' => ⟨n - (i + 1), by omega, rfl, hlt, p'⟩, fun x H' y => ?_⟩
    obtain ⟨e, y⟩ := y
    subst e y
    exact hs i σ _ hlt p
  . have e : i = n := by omega
    subst e
    exact .inl ⟨Nat.le_refl _, hd σ H p⟩
theorem while_by {c : TT} {tb : TS} {D : Ends} {σ : St} {H : Hp} (Pv : St -> Hp -> Prop) (μ : St -> Hp -> Nat) (h0 : Pv σ H)
    (hs : ∀ σ H, Pv σ H -> c σ H fun b H1 => if b = true then tb { D with nx := fun σ' H' => Pv σ' H' /\ μ σ' H' < μ σ H, ct := fun σ' H' => Pv σ' H' /\ μ σ' H' < μ σ H, bk := D.nx } σ H1 else D.nx σ H1)
    (mono : ∀ σ H Q Q', (∀ b H1, Q b H1 -> Q' b H1) -> c σ H Q -> c σ H Q') : tWhile c tb D σ H := by
  refine ⟨fun m σ H => m = μ σ H /\ Pv σ H, ⟨_, rfl, h0⟩, ?_⟩
  rintro m σ H ⟨rfl, p⟩
  refine mono σ H _ _ (fun b H1 q => ?_) (hs σ H p)
  cases b with
  | true => exact ⟨_, fun σ' H' ⟨p', l⟩ => ⟨_, l, rfl, p'⟩, q⟩
  | false => exact q
end L2
namespace L2
open PySem PySem.Spec PyProof.Rows
abbrev R2 := V -> V -> Hp -> VK -> Prop
def OpR (X : Cx) (f : Value -> Value -> Sem Value) (r : R2) : Prop :=
  ∀ (pins : List (Addr × Obj)) (s : Shared) (σ : St) (H : Hp) (x y : V) (v u : Value) (Q : VK), Inv X pins σ H s -> RelV x v -> RelV y u -> r x y H Q →
    wpAny (model X.prog X.w) X.A (f v u) (EP X pins σ Q) X.xe s
def UnR (X : Cx) (f : Value -> Sem Value) (r : V -> Hp -> VK -> Prop) : Prop :=
  ∀ (pins : List (Addr × Obj)) (s : Shared) (σ : St) (H : Hp) (x : V) (v : Value) (Q : VK), Inv X pins σ H s -> RelV x v -> r x H Q →
    wpAny (model X.prog X.w) X.A (f v) (EP X pins σ Q) X.xe s
def CallR (X : Cx) (f : Value) (r : List V -> Hp -> VK -> Prop) : Prop :=
  ∀ (pins : List (Addr × Obj)) (s : Shared) (σ : St) (H : Hp) (xs : List V) (us : List Value) (Q : VK), Inv X pins σ H s -> Vals xs us -> r xs H Q →
    wpAny (model X.prog X.w) X.A (call f us) (EP X pins σ Q) X.xe s
def tOp (r : R2) (ta tb : TE) : TE := fun σ H Q => ta σ H fun x H1 => tb σ H1 fun y H2 => r x y H2 Q
def tUn (r : V -> Hp -> VK -> Prop) (ta : TE) : TE := fun σ H Q => ta σ H fun x H1 => r x H1 Q
def rI (C : Int -> Int -> Prop) (g : Int -> Int -> V) : R2 := fun x y H Q => ∃ i j, x = .int i /\ y = .int j /\ C i j /\ Q (g i j) H
def rI0 (g : Int -> Int -> V) : R2 := fun x y H Q => ∃ i j, x = .int i /\ y = .int j /\ Q (g i j) H
def rU (g : Int -> V) : V -> Hp -> VK -> Prop := fun x H Q => ∃ i, x = .int i /\ Q (g i) H
section
variable {X : Cx} {a b c : Expr} {ta tb tc : TE} {pos : Pos}
theorem binT (ha : PE X a ta) (hb : PE X b tb) {pins : List (Addr × Obj)} {s : Shared} {σ : St} {H : Hp} {R : V -> V -> Hp -> Prop} (I : Inv X pins σ H s)
    (h : ta σ H fun x H1 => tb σ H1 fun y H2 => R x y H2) {Q : Value -> Shared -> Prop} {f : Value -> Value -> Sem Value}
    (hf : ∀ v u s2 x y H2, Inv X pins σ H2 s2 -> RelV x v -> RelV y u -> R x y H2 -> wpAny (model X.prog X.w) X.A (f v u) Q X.xe s2) :
    wpAny (model X.prog X.w) X.A (eval a X.env) (fun v s₁ => wpAny (model X.prog X.w) X.A (eval b X.env) (fun u s₂ => wpAny (model X.prog X.w) X.A (f v u) Q X.xe s₂) X.xe s₁) X.xe s := by
  refine thn (ha pins s σ H _ I h) fun v s1 ⟨x, H1, I1, r1, q1⟩ => ?_
  refine thn (hb pins s1 σ H1 _ I1 q1) fun u s2 ⟨y, H2, I2, r2, q2⟩ => ?_
  exact hf v u s2 x y H2 I2 r1 r2 q2
theorem pe_op {op : Operator} {r : R2} (ho : OpR X (binaryOp op) r) (ha : PE X a ta) (hb : PE X b tb) : PE X (.BinOp a op b pos) (tOp r ta tb) := by
  intro pins s σ H Q I h
  exact wpAny_BinOp (binT ha hb I h fun v u s2 x y H2 I2 rx ry q => ho pins s2 σ H2 x y v u Q I2 rx ry q)
theorem pe_un {op : UnaryOp} {r : V -> Hp -> VK -> Prop} (ho : UnR X (unaryOp op) r) (ha : PE X a ta) : PE X (.UnaryOp op a pos) (tUn r ta) := by
  intro pins s σ H Q I h
  exact UnaryOp_ (thn (ha pins s σ H _ I h) fun v s1 ⟨x, H1, I1, r1, q1⟩ => ho pins s1 σ H1 x v Q I1 r1 q1)
theorem opI {f : Value -> Value -> Sem Value} {C : Int -> Int -> Prop} {g : Int -> Int -> Int}
    (rule : ∀ (i j : Int) (t u : Tok) (s : Shared) (Q : Value -> Shared -> Prop) (E : Value -> Shared -> Prop), C i j -> Q (.int (g i j) s.toks) { s with toks := s.toks + 1 } -> wpAny (model X.prog X.w) X.A (f (.int i t) (.int j u)) Q E s) :
    OpR X f (rI C fun i j => .int (g i j)) := by
  intro pins s σ H x y v u Q I rx ry h
  obtain ⟨i, j, rfl, rfl, hc, q⟩ := h
  obtain ⟨t, rfl⟩ := rx
  obtain ⟨t', rfl⟩ := ry
  exact rule i j t t' s _ _ hc ⟨.int (g i j), H, I.tok _, ⟨_, rfl⟩, q⟩
theorem opI0 {f : Value -> Value -> Sem Value} {g : Int -> Int -> Int}
    (rule : ∀ (i j : Int) (t u : Tok) (s : Shared) (Q : Value -> Shared -> Prop) (E : Value -> Shared -> Prop), Q (.int (g i j) s.toks) { s with toks := s.toks + 1 } -> wpAny (model X.prog X.w) X.A (f (.int i t) (.int j u)) Q E s) :
    OpR X f (rI0 fun i j => .int (g i j)) := by
  intro pins s σ H x y v u Q I rx ry h
  obtain ⟨i, j, rfl, rfl, q⟩ := h
  obtain ⟨t, rfl⟩ := rx
  obtain ⟨t', rfl⟩ := ry
  exact rule i j t t' s _ _ ⟨.int (g i j), H, I.tok _, ⟨_, rfl⟩, q⟩
theorem opB0 {f : Value -> Value -> Sem Value} {g : Int -> Int -> Bool}
    (rule : ∀ (i j : Int) (t u : Tok) (s : Shared) (Q : Value -> Shared -> Prop) (E : Value -> Shared -> Prop), Q (.bool (g i j)) s -> wpAny (model X.prog X.w) X.A (f (.int i t) (.int j u)) Q E s) :
    OpR X f (rI0 fun i j => .bl (g i j)) := by
  intro pins s σ H x y v u Q I rx ry h
  obtain ⟨i, j, rfl, rfl, q⟩ := h
  obtain ⟨t, rfl⟩ := rx
  obtain ⟨t', rfl⟩ := ry
  exact rule i j t t' s _ _ ⟨.bl (g i j), H, I, rfl, q⟩
def CDiv (i j : Int) : Prop := 0 < j /\ j < 1073741824
def CPow (i j : Int) : Prop := 0 <= j /\ j <= 1000000 /\ i.natAbs < 2 ^ 64
def CMul (i j : Int) : Prop := (-(2 ^ 64) < i /\ i < 2 ^ 64) \/ (-(2 ^ 64) < j /\ j < 2 ^ 64)
theorem CMul.ok {i j : Int} (h : CMul i j) : IntMulOk i j := by
  rcases h with ⟨h1, h2⟩ | ⟨h1, h2⟩
  . exact .of_left (intBits_le_64 h1 h2)
  . exact .of_right (intBits_le_64 h1 h2)
theorem op_add : OpR X (binaryOp .Add) (rI0 fun i j => .int (i + j)) := opI0 fun _ _ _ _ _ _ _ q => add_int q
theorem op_sub : OpR X (binaryOp .Sub) (rI0 fun i j => .int (i - j)) := opI0 fun _ _ _ _ _ _ _ q => sub_int q
theorem op_mul : OpR X (binaryOp .Mult) (rI CMul fun i j => .int (i * j)) := opI fun _ _ _ _ _ _ _ hc q => mul_int q hc.ok
theorem op_fdiv : OpR X (binaryOp .FloorDiv) (rI CDiv fun i j => .int (i / j)) := opI fun i j _ _ _ _ _ hc q => by
  have h1 : (0 : Int) < j := hc.1
  have h2 : j < 1073741824 := hc.2
  exact floordiv_int (by omega) (by rw [Int.fdiv_eq_ediv_of_nonneg i (by omega)]; exact q) (.inl (PyProof.noPylong_small (by omega)))
theorem op_mod : OpR X (binaryOp .Mod) (rI (fun _ j => 0 < j) fun i j => .int (i % j)) := opI fun i j _ _ _ _ _ hc q => by
  have h1 : (0 : Int) < j := hc
  exact mod_int' (by omega) (by rw [Int.fmod_eq_emod_of_nonneg i (by omega)]; exact q)
theorem op_pow : OpR X (binaryOp .Pow) (rI CPow fun i j => .int (i ^ j.toNat)) := opI fun _ _ _ _ _ _ _ hc q => pow_int_small hc.1 hc.2.1 hc.2.2 q
theorem unI {f : Value -> Sem Value} {g : Int -> Int}
    (rule : ∀ (i : Int) (t : Tok) (s : Shared) (Q : Value -> Shared -> Prop) (E : Value -> Shared -> Prop), Q (.int (g i) s.toks) { s with toks := s.toks + 1 } -> wpAny (model X.prog X.w) X.A (f (.int i t)) Q E s) :
    UnR X f (rU fun i => .int (g i)) := by
  intro pins s σ H x v Q I rx h
  obtain ⟨i, rfl, q⟩ := h
  obtain ⟨t, rfl⟩ := rx
  exact rule i t s _ _ ⟨.int (g i), H, I.tok _, ⟨_, rfl⟩, q⟩
theorem un_neg : UnR X (unaryOp .USub) (rU fun i => .int (-i)) := unI fun _ _ _ _ _ q => neg_int q
end
def scal : V -> V -> Bool
  | .non, .non => true | .non, .int _ => true | .int _, .non => true | .non, .bl _ => true | .bl _, .non => true | .non, .str _ => true | .str _, .non => true
  | .int _, .int _ => true | .bl _, .bl _ => true | .str _, .str _ => true | .byt _, .byt _ => true
  | .int _, .str _ => true | .str _, .int _ => true | .bl _, .str _ => true | .str _, .bl _ => true
  | _, _ => false
def rEq : R2 := fun x y H Q => scal x y = true /\ Q (.bl (decide (x = y))) H
def rNe : R2 := fun x y H Q => scal x y = true /\ Q (.bl (!decide (x = y))) H
theorem dec_int {i j : Int} : decide (V.int i = V.int j) = (i == j) := by
  rw [Bool.eq_iff_iff]
  simp
theorem dec_bl {i j : Bool} : decide (V.bl i = V.bl j) = (i == j) := by
  rw [Bool.eq_iff_iff]
  simp
theorem dec_str {i j : Str} : decide (V.str i = V.str j) = (i == j) := by
  rw [Bool.eq_iff_iff]
  simp
theorem dec_byt {i j : Array UInt8} : decide (V.byt i = V.byt j) = (i.toList == j.toList) := by
  rw [Bool.eq_iff_iff]
  cases i
  cases j
  simp
section
variable {X : Cx} {a b c : Expr} {ta tb tc : TE} {pos : Pos}
theorem fin_bl {pins : List (Addr × Obj)} {σ : St} {H : Hp} {s : Shared} {Q : VK} {k k' : Bool} (I : Inv X pins σ H s) (q : Q (.bl k) H) (e : k = k') : EP X pins σ Q (.bool k') s := by
  subst e
  exact ⟨.bl k, H, I, rfl, q⟩
theorem op_eq : OpR X (compareOp .Eq) rEq := by
  intro pins s σ H x y v u Q I rx ry h
  obtain ⟨hs, q⟩ := h
  cases x with
  | non =>
    cases rx
    cases y with
    | non => cases ry; exact PySem.EqNone.eq_none_none (fin_bl I q (by simp))
    | bl j => cases ry; exact PySem.EqNone.eq_none_bool (fin_bl I q (by simp))
    | int j => obtain ⟨t', rfl⟩ := ry; exact PySem.EqNone.eq_none_int (fin_bl I q (by simp))
    | str j => obtain ⟨t', rfl⟩ := ry; exact PySem.EqNone.eq_none_str (fin_bl I q (by simp))
    | _ => exact absurd (show false = true from hs) Bool.false_ne_true
  | bl i =>
    cases rx
    cases y with
    | non => cases ry; exact PySem.EqNone.eq_bool_none (fin_bl I q (by simp))
    | bl j => cases ry; exact eq_bool (fin_bl I q dec_bl)
    | str j => obtain ⟨t', rfl⟩ := ry; exact PySem.EqMixed.eq_bool_str (fin_bl I q (by simp))
    | _ => exact absurd (show false = true from hs) Bool.false_ne_true
  | int i =>
    obtain ⟨t, rfl⟩ := rx
    cases y with
    | non => cases ry; exact PySem.EqNone.eq_int_none (fin_bl I q (by simp))
    | int j => obtain ⟨t', rfl⟩ := ry; exact eq_int (fin_bl I q dec_int)
    | str j => obtain ⟨t', rfl⟩ := ry; exact PySem.EqMixed.eq_int_str (fin_bl I q (by simp))
    | _ => exact absurd (show false = true from hs) Bool.false_ne_true
  | str i =>
    obtain ⟨t, rfl⟩ := rx
    cases y with
    | non => cases ry; exact PySem.EqNone.eq_str_none (fin_bl I q (by simp))
    | bl j => cases ry; exact PySem.EqMixed.eq_str_bool (fin_bl I q (by simp))
    | int j => obtain ⟨t', rfl⟩ := ry; exact PySem.EqMixed.eq_str_int (fin_bl I q (by simp))
    | str j => obtain ⟨t', rfl⟩ := ry; exact eq_str (fin_bl I q dec_str)
    | _ => exact absurd (show false = true from hs) Bool.false_ne_true
  | byt i =>
    obtain ⟨t, rfl⟩ := rx
    cases y with
    | byt j => obtain ⟨t', rfl⟩ := ry; exact W.eq_bytes (fin_bl I q dec_byt)
    | _ => exact absurd (show false = true from hs) Bool.false_ne_true
  | _ => cases y <;> exact absurd (show false = true from hs) Bool.false_ne_true
theorem op_ne : OpR X (compareOp .NotEq) rNe := by
  intro pins s σ H x y v u Q I rx ry h
  obtain ⟨hs, q⟩ := h
  cases x with
  | non =>
    cases rx
    cases y with
    | non => cases ry; exact PySem.EqNone.ne_none_none (fin_bl I q (by simp))
    | bl j => cases ry; exact PySem.EqNone.ne_none_bool (fin_bl I q (by simp))
    | int j => obtain ⟨t', rfl⟩ := ry; exact PySem.EqNone.ne_none_int (fin_bl I q (by simp))
    | str j => obtain ⟨t', rfl⟩ := ry; exact PySem.EqNone.ne_none_str (fin_bl I q (by simp))
    | _ => exact absurd (show false = true from hs) Bool.false_ne_true
  | bl i =>
    cases rx
    cases y with
    | non => cases ry; exact PySem.EqNone.ne_bool_none (fin_bl I q (by simp))
    | bl j => cases ry; exact ne_bool (fin_bl I q (congrArg not dec_bl))
    | str j => obtain ⟨t', rfl⟩ := ry; exact PySem.EqMixed.ne_bool_str (fin_bl I q (by simp))
    | _ => exact absurd (show false = true from hs) Bool.false_ne_true
  | int i =>
    obtain ⟨t, rfl⟩ := rx
    cases y with
    | non => cases ry; exact PySem.EqNone.ne_int_none (fin_bl I q (by simp))
    | int j => obtain ⟨t', rfl⟩ := ry; exact ne_int (fin_bl I q (congrArg not dec_int))
    | str j => obtain ⟨t', rfl⟩ := ry; exact PySem.EqMixed.ne_int_str (fin_bl I q (by simp))
    | _ => exact absurd (show false = true from hs) Bool.false_ne_true
  | str i =>
    obtain ⟨t, rfl⟩ := rx
    cases y with
    | non => cases ry; exact PySem.EqNone.ne_str_none (fin_bl I q (by simp))
    | bl j => cases ry; exact PySem.EqMixed.ne_str_bool (fin_bl I q (by simp))
    | int j => obtain ⟨t', rfl⟩ := ry; exact PySem.EqMixed.ne_str_int (fin_bl I q (by simp))
    | str j => obtain ⟨t', rfl⟩ := ry; exact ne_str (fin_bl I q (congrArg not dec_str))
    | _ => exact absurd (show false = true from hs) Bool.false_ne_true
  | byt i =>
    obtain ⟨t, rfl⟩ := rx
    cases y with
    | byt j => obtain ⟨t', rfl⟩ := ry; exact W.ne_bytes (fin_bl I q (congrArg not dec_byt))
    | _ => exact absurd (show false = true from hs) Bool.false_ne_true
  | _ => cases y <;> exact absurd (show false = true from hs) Bool.false_ne_true
theorem op_lt : OpR X (compareOp .Lt) (rI0 fun i j => .bl (decide (i < j))) := opB0 fun _ _ _ _ _ _ _ q => lt_int q
theorem op_gt : OpR X (compareOp .Gt) (rI0 fun i j => .bl (decide (j < i))) := opB0 fun _ _ _ _ _ _ _ q => gt_int q
theorem op_ge : OpR X (compareOp .GtE) (rI0 fun i j => .bl (decide (j <= i))) := opB0 fun _ _ _ _ _ _ _ q => ge_int q
theorem op_isN : OpR X (compareOp .Is) (fun x y H Q => y = .non /\ Q (.bl (decide (x = .non))) H) := by
  intro pins s σ H x y v u Q I rx ry h
  obtain ⟨rfl, q⟩ := h
  cases ry
  refine is_none_gen (fin_bl I q ?_)
  cases x <;> first
    | (cases rx; rfl)
    | (obtain ⟨t, rfl⟩ := rx; rfl)
theorem op_notN : OpR X (compareOp .IsNot) (fun x y H Q => y = .non /\ Q (.bl (!decide (x = .non))) H) := by
  intro pins s σ H x y v u Q I rx ry h
  obtain ⟨rfl, q⟩ := h
  cases ry
  refine isnot_none_gen (fin_bl I q ?_)
  cases x <;> first
    | (cases rx; rfl)
    | (obtain ⟨t, rfl⟩ := rx; rfl)
theorem nomark (b : Expr) {op : CmpOp} (h : op ≠ .In := by decide) (h2 : op ≠ .NotIn := by decide) : behindInMarks op b = false := by
  have e1 : (op == CmpOp.In) = false := by cases op <;> first | rfl | exact absurd rfl h
  have e2 : (op == CmpOp.NotIn) = false := by cases op <;> first | rfl | exact absurd rfl h2
  cases b <;> simp [behindInMarks, e1, e2]
theorem pe_cmpR {op : CmpOp} {r : R2} (ho : OpR X (compareOp op) r) (ha : PE X a ta) (hb : PE X b tb) (hm : behindInMarks op b = false) : PE X (.Compare a [op] [b] pos) (tOp r ta tb) := by
  intro pins s σ H Q I h
  exact wpAny_Compare1 (binT ha hb I h fun v u s2 x y H2 I2 rx ry q => ho pins s2 σ H2 x y v u Q I2 rx ry q) hm
def tTest (t : TE) : TT := fun σ H Q => t σ H fun x H' => ∃ k, x = .bl k /\ Q k H'
theorem pt_cmpR {op : CmpOp} {r : R2} (ho : OpR X (compareOp op) r) (ha : PE X a ta) (hb : PE X b tb) (hm : behindInMarks op b = false) : PT X (.Compare a [op] [b] pos) (tTest (tOp r ta tb)) := by
  intro pins s σ H Q I h
  refine wpAny_isTrue_Compare1 (thn (ha pins s σ H _ I h) fun v s1 ⟨x, H1, I1, r1, q1⟩ => thn (hb pins s1 σ H1 _ I1 q1) fun u s2 ⟨y, H2, I2, r2, q2⟩ =>
    thn (ho pins s2 σ H2 x y v u _ I2 r1 r2 q2) fun c s3 ⟨z, H3, I3, r3, k, e, q3⟩ => ?_) hm
  subst e
  cases r3
  exact wpAny_truthy_bool ⟨H3, I3, q3⟩
theorem line63 : (sizeLine : Nat) < 2 ^ 63 := by rw [sizeLine_eq]; decide
theorem vals1 {x : V} {us : List Value} (r : Vals [x] us) : ∃ u, us = [u] /\ RelV x u := by
  cases r with
  | cons r1 r2 => cases r2; exact ⟨_, rfl, r1⟩
theorem vals2 {x y : V} {us : List Value} (r : Vals [x, y] us) : ∃ u w', us = [u, w'] /\ RelV x u /\ RelV y w' := by
  cases r with
  | cons r1 r2 =>
    cases r2 with
    | cons r3 r4 => cases r4; exact ⟨_, _, rfl, r1, r3⟩
theorem call_abs : CallR X (.builtin "abs") (fun xs H Q => ∃ i, xs = [.int i] /\ Q (.int (if i < 0 then -i else i)) H) := by
  intro pins s σ H xs us Q I r h
  obtain ⟨i, rfl, q⟩ := h
  obtain ⟨u, rfl, t, rfl⟩ := vals1 r
  exact call_abs_int fun u tk => ⟨.int (if i < 0 then -i else i), H, I.tok _, ⟨_, rfl⟩, q⟩
theorem call_max2 (hc : X.calm = true) : CallR X (.builtin "max") (fun xs H Q => ∃ i j, xs = [.int i, .int j] /\ Q (.int (if j > i then j else i)) H) := by
  intro pins s σ H xs us Q I r h
  obtain ⟨i, j, rfl, q⟩ := h
  obtain ⟨u, w', rfl, ⟨t, rfl⟩, ⟨t', rfl⟩⟩ := vals2 r
  refine max_two_ints (I.ok.hd hc) fun h' tk k => ⟨_, H, I.kept k, ?_, q⟩
  by_cases hj : j > i
  . rw [if_pos hj, if_pos hj]; exact ⟨_, rfl⟩
  . rw [if_neg hj, if_neg hj]; exact ⟨_, rfl⟩
theorem call_min2 (hc : X.calm = true) : CallR X (.builtin "min") (fun xs H Q => ∃ i j, xs = [.int i, .int j] /\ Q (.int (if j < i then j else i)) H) := by
  intro pins s σ H xs us Q I r h
  obtain ⟨i, j, rfl, q⟩ := h
  obtain ⟨u, w', rfl, ⟨t, rfl⟩, ⟨t', rfl⟩⟩ := vals2 r
  refine min_two_ints (I.ok.hd hc) fun h' tk k => ⟨_, H, I.kept k, ?_, q⟩
  by_cases hj : j < i
  . rw [if_pos hj, if_pos hj]; exact ⟨_, rfl⟩
  . rw [if_neg hj, if_neg hj]; exact ⟨_, rfl⟩
theorem call_int1 : CallR X (.type "int") (fun xs H Q => (∃ i, xs = [.int i] /\ Q (.int i) H) \/ ∃ k, xs = [.bl k] /\ Q (.int (if k then 1 else 0)) H) := by
  intro pins s σ H xs us Q I r h
  rcases h with ⟨i, rfl, q⟩ | ⟨k, rfl, q⟩
  . obtain ⟨u, rfl, t, rfl⟩ := vals1 r
    exact call_int_int ⟨.int i, H, I, ⟨_, rfl⟩, q⟩
  . obtain ⟨u, rfl, r1⟩ := vals1 r
    cases r1
    exact call_int_bool ⟨.int (if k then 1 else 0), H, I.tok _, ⟨_, rfl⟩, q⟩
end
end L2
namespace L2
open PySem PySem.Spec PyProof.Rows
structure ObjM (h : Heap) (x dx C : Addr) (mA : Str -> Option Value) : Prop where
  obj : h.get? x = some (W.instObj C dx)
  ns : h.Ns1 dx mA
  ne : dx ≠ x
theorem lookIn_ns {h : Heap} {dx : Addr} {mA : Str -> Option Value} (n : h.Ns1 dx mA) : ∃ od, h.get? dx = some od /\ ∀ name, W.lookIn name od = some (mA name) := by
  obtain ⟨o, es, ep, ho, hd, hk, _, hm⟩ := n
  refine ⟨o, ho, fun name => ?_⟩
  have e := hm name
  unfold nsFind findBy at e
  rw [<- Array.find?_toList] at e
  unfold W.lookIn
  rw [hd]
  dsimp only
  split
  . rename_i y q
    rw [q] at e
    exact congrArg some e
  . rename_i q
    rw [q] at e
    have a : es.toList.any (·.refKey) = false := by
      rw [List.any_eq_false]
      intro y hy
      obtain ⟨z, t, hkey⟩ := hk y (Array.mem_toList_iff.mp hy)
      simp [DictEntry.refKey, hkey]
    have a' : ¬ es.toList.any (·.refKey) = true := by rw [a]; exact Bool.false_ne_true
    rw [if_neg a']
    exact congrArg some e
theorem ObjM.look {h : Heap} {x dx C : Addr} {mA : Str -> Option Value} (I : ObjM h x dx C mA) : ∃ od, W.InstAt h x (W.instObj C dx) C (some od) /\ ∀ name, W.lookIn name od = some (mA name) :=
  let ⟨od, ho, hl⟩ := lookIn_ns I.ns
  ⟨od, ⟨I.obj, rfl, rfl, ho⟩, hl⟩
section
variable {prog : Program} {w : World} {A : Around} {E : Value -> Shared -> Prop} {s : Shared} {K : W.Frag} {x dx C f : Addr} {mA : Str -> Option Value} {name : Str} {v : Value}
end
section
variable {P : Program} {w : World} {H H' : Hp} {h h' : Heap} {a C dx : Addr} {fs fs' : List (Str × V)}
theorem ins_get (hok : HOk P w H h) (e : H a = some (.ins C dx fs)) : ∃ mA, ObjM h a dx C mA /\ (∀ f, RelO (fs.lookup f) (mA f)) /\ PySem.Within mA (fs.map (·.1)) /\ fs.length <= 1000 /\ H dx = some (.own a) := by
  obtain ⟨d, z, ne, ob, mA, n, r, q⟩ := (show ObjOk P w H h a (.ins C dx fs) from hok a _ e)
  exact ⟨mA, ⟨ob, n, ne⟩, r, q, z, d⟩
end
structure Cls (K : W.Frag) (C : Addr) : Prop where
  pg : W.plainGet K C Str.empty = true
  hd : W.hasDictIn K C = true
  po : W.plainOver K C = true
  sa : W.findIn K (.ref C) "__setattr__" = some (some (.builtin "object.__setattr__"))
theorem Cls.get {K : W.Frag} {C : Addr} (c : Cls K C) (f : Str) : W.plainGet K C f = true := c.pg
def NoAttr (K : W.Frag) (C : Addr) (f : Str) : Prop := W.findIn K (.ref C) f = some none
structure Con (K : W.Frag) (C : Addr) (f : Str) (v : V) (u : Value) : Prop where
  at_ : W.findIn K (.ref C) f = some (some u)
  rel : RelV v u
  get : W.specialIn K u "__get__" = some none
  cp : W.copiedNames.contains f = false
structure Meth (K : W.Frag) (C : Addr) (m : Str) (f : Addr) : Prop where
  at_ : W.findIn K (.ref C) m = some (some (.ref f))
  fn : W.isFn K (.ref f) = true
  kp : W.keepIn K (.ref f) = true
section
variable {X : Cx} {pins : List (Addr × Obj)} {σ : St} {H : Hp} {s : Shared} {a C dx : Addr} {fs : List (Str × V)} {f : Str} {v : V} {A : Around} {E : Value -> Shared -> Prop}
end
section
variable {X : Cx} {o e value : Expr} {f : Str} {pos pos' tpos : Pos} {ta tv : TE}
end
section
variable {X : Cx} {pins : List (Addr × Obj)} {σ : St} {H : Hp} {s : Shared} {A : Around} {E : Value -> Shared -> Prop} {Q : Value -> Shared -> Prop} {c : Value} {b : Bool}
inductive TyOf (K : W.Frag) (H : Hp) : V -> Value -> Prop where
  | non : TyOf K H .non (.type "NoneType")
  | bl (x : Bool) : TyOf K H (.bl x) (.type "bool")
  | int (i : Int) : TyOf K H (.int i) (.type "int")
  | str (x : Str) : TyOf K H (.str x) (.type "str")
  | flt (x : UInt64) : TyOf K H (.flt x) (.type "float")
  | lst {a : Addr} {xs : List V} (e : H a = some (.lst xs)) : TyOf K H (.ref a) (.type "list")
  | frz {a : Addr} {o : Obj} {xs : List V} (e : H a = some (.frz o (.lst xs))) : TyOf K H (.ref a) (.type "list")
  | tup {a : Addr} {xs : List V} (e : H a = some (.tup xs)) : TyOf K H (.ref a) (.type "tuple")
  | dK {a : Addr} {kvs : List (Key × V)} (e : H a = some (.dK kvs)) : TyOf K H (.ref a) (.type "dict")
  | dT {a : Addr} {kvs : List (List Key × V)} (e : H a = some (.dT kvs)) : TyOf K H (.ref a) (.type "dict")
  | ins {a C dx : Addr} {fs : List (Str × V)} (e : H a = some (.ins C dx fs)) (cl : Cls K C) (ha : W.findIn K (.ref C) "__class__" = some (some (.builtin "object.__class__")))
      (hn : W.specialIn K (.builtin "object.__class__") "__get__" = some (some (.builtin "getset_descriptor.__get__"))) (htk : W.takesIn K (.builtin "object.__class__") = some true)
      (hm : W.mroIn K C (.type "object") = some true) : TyOf K H (.ref a) (.ref C)
theorem isinst_ok {x : V} {u t : Value} (I : Inv X pins σ H s) (rx : RelV x u) (ty : TyOf X.K H x t) (e : W.kitOne X.K t c = some b) (h : ∀ tk, Q (.bool b) { s with toks := tk }) :
    wpAny (model X.prog X.w) A (call (.builtin "isinstance") [u, c]) Q E s := by
  cases ty with
  | non => cases (show u = Value.none from rx); exact W.kia_one W.kitx_none I.kIn True.intro e (fun z => nomatch z) h
  | bl y => cases (show u = Value.bool y from rx); exact W.kia_one W.kitx_bool I.kIn True.intro e (fun z => nomatch z) h
  | int i => obtain ⟨t, q⟩ := (show ∃ t, u = Value.int i t from rx); cases q; exact W.kia_one W.kitx_int I.kIn True.intro e (fun z => nomatch z) h
  | str y => obtain ⟨t, q⟩ := (show ∃ t, u = Value.str y t from rx); cases q; exact W.kia_one W.kitx_str I.kIn True.intro e (fun z => nomatch z) h
  | flt y => obtain ⟨t, q⟩ := (show ∃ t, u = Value.float y t from rx); cases q; exact W.kia_one W.kitx_float I.kIn True.intro e (fun z => nomatch z) h
  | @lst a xs ea =>
    cases (show u = Value.ref a from rx)
    obtain ⟨_, _, n, _, h1⟩ := (show ObjOk X.prog X.w H s.heap a (.lst xs) from I.hok a _ ea)
    exact W.kia_one W.kitx_list I.kIn ⟨_, h1, rfl⟩ e (fun z => nomatch z) h
  | @frz a ob xs ea =>
    cases (show u = Value.ref a from rx)
    obtain ⟨_, _, _, n, _, h1⟩ := (show ObjOk X.prog X.w H s.heap a (.frz ob (.lst xs)) from I.hok a _ ea)
    exact W.kia_one W.kitx_list I.kIn ⟨_, h1, rfl⟩ e (fun z => nomatch z) h
  | @tup a xs ea =>
    cases (show u = Value.ref a from rx)
    obtain ⟨_, _, _, p⟩ := (show ObjOk X.prog X.w H s.heap a (.tup xs) from I.hok a _ ea)
    obtain ⟨o, h1, h2, _⟩ := p
    exact W.kia_one W.kitx_tuple I.kIn ⟨o, h1, h2⟩ e (fun z => nomatch z) h
  | @dK a kvs ea =>
    cases (show u = Value.ref a from rx)
    obtain ⟨_, _, vs, _, p⟩ := (show ObjOk X.prog X.w H s.heap a (.dK kvs) from I.hok a _ ea)
    obtain ⟨o, es, ep, h1, h2, _⟩ := p
    exact W.kia_one W.kitx_dict I.kIn ⟨o, h1, h2.1⟩ e (fun z => nomatch z) h
  | @dT a kvs ea =>
    cases (show u = Value.ref a from rx)
    obtain ⟨_, _, xs, _, o, es, ep, h1, h2, _⟩ := (show ObjOk X.prog X.w H s.heap a (.dT kvs) from I.hok a _ ea)
    exact W.kia_one W.kitx_dict I.kIn ⟨o, h1, h2.1⟩ e (fun z => nomatch z) h
  | @ins a C dx fs ea cl ha hn htk hm =>
    cases (show u = Value.ref a from rx)
    obtain ⟨mA, O, _⟩ := ins_get I.hok ea
    obtain ⟨od, J, _⟩ := O.look
    exact W.kia_one (W.kitx_own (cl.get _) cl.hd ha hn htk hm) I.kIn J e (fun z => nomatch z) h
end
end L2
namespace L2
open PySem PySem.Spec PyProof.Rows
structure Room (k : Nat) (A : Around) : Prop where
  hd : A.handled = none
  dp : A.depth + 3 * k + 5 < recursionLimit
  un : A.units + 16 * k + 200 < cLine
theorem Room.deeper {k : Nat} {A : Around} (r : Room (k + 1) A) (env : Env) : Room k (A.deeper env) :=
  ⟨r.hd, by have := r.dp; show A.depth + 1 + 3 * k + 5 < _; omega, by have := r.un; show A.units + 3 + 16 * k + 200 < _; omega⟩
theorem Room.depth {k : Nat} {A : Around} (r : Room k A) : A.depth < recursionLimit := by have := r.dp; omega
theorem Room.units {k : Nat} {A : Around} (r : Room k A) : A.units + 64 < cLine := by have := r.un; omega
def tNil : TA := fun _ H Q => Q [] H
def tCons (ta : TE) (tr : TA) : TA := fun σ H Q => ta σ H fun x H1 => tr σ H1 fun xs H2 => Q (x :: xs) H2
section
variable {X : Cx} {e : Expr} {es : List Expr} {te : TE} {t : TA} {pos : Pos}
theorem pa_nil : PA X [] tNil := fun _ _ _ _ H Q I h => Calls.spliced_nil ⟨[], H, I, .nil, h⟩
theorem pa_cons (ha : PE X e te) (hr : PA X es t) (hs : starEach (e :: es) X.env = (false, eval e X.env) :: starEach es X.env := by rfl) : PA X (e :: es) (tCons te t) := by
  intro pos pins s σ H Q I h
  rw [hs]
  show wpAny _ _ (spliced ((false, eval e X.env) :: backTo pos (starEach es X.env))) _ _ s
  refine Calls.spliced_cons (thn (ha pins s σ H _ I h) fun u s1 ⟨x, H1, I1, r1, q1⟩ => ?_)
  exact thn (hr pos pins s1 σ H1 _ I1 q1) fun us s2 ⟨xs, H2, I2, r2, q2⟩ => ⟨x :: xs, H2, I2, .cons r1 r2, q2⟩
def tTup (t : TA) : TE := fun σ H Q => t σ H fun xs H1 => xs.length <= sizeLine /\ ∀ p, H1 p = none -> Q (.ref p) (upd H1 p (.tup xs))
def tLst (t : TA) : TE := fun σ H Q => t σ H fun xs H1 => xs.length <= sizeLine /\ ∀ p, H1 p = none -> Q (.ref p) (upd H1 p (.lst xs))
theorem pe_tup {x1} (h : PA X es t) : PE X (.Tuple es x1 pos) (tTup t) := by
  intro pins s σ H Q I hq
  refine wpAny_Tuple_spliced (thn (h pos pins s σ H _ I hq) fun us s1 ⟨xs, H1, I1, r, z, q⟩ => ⟨by rw [<- r.length]; exact z, ?_⟩)
  have hf : H1 s1.heap.objs.size = none := I1.hok.fresh (Nat.le_refl _)
  refine ⟨.ref s1.heap.objs.size, upd H1 s1.heap.objs.size (.tup xs), I1.laid (t' := s1.toks) (fun b u e => Heap.get?_push_of_some _ e) (Nat.le_refl _) ?_, rfl, q _ hf⟩
  exact ⟨z, us, r, ⟨_, Heap.get?_push_size _ rfl, rfl, _, rfl⟩⟩
theorem pe_lst (h : PA X es t) : PE X (.List es pos) (tLst t) := by
  intro pins s σ H Q I hq
  refine wpAny_List_spliced (thn (h pos pins s σ H _ I hq) fun us s1 ⟨xs, H1, I1, r, z, q⟩ => ⟨by rw [<- r.length]; exact z, ?_⟩)
  have hf : H1 s1.heap.objs.size = none := I1.hok.fresh (Nat.le_refl _)
  refine ⟨.ref s1.heap.objs.size, upd H1 s1.heap.objs.size (.lst xs), I1.laid (t' := s1.toks) (fun b u e => Heap.get?_push_of_some _ e) (Nat.le_refl _) ?_, rfl, q _ hf⟩
  exact ⟨z, us, 0, r, Heap.get?_push_size _ rfl⟩
end
abbrev Sp := List V -> Hp -> VK -> XK -> Prop
abbrev CXT := List Env -> Hp -> Shared -> XK -> Value -> Shared -> Prop
structure Env0 (P : Program) (w : World) (K : W.Frag) (mg : Str -> Option Value) (base : Heap) (A : Around) (outer : List Env) (s : Shared) (H : Hp) : Prop where
  frames : A.frames = some outer
  mod : Mod K mg base
  bs : ∀ b o, base.get? b = some o -> s.heap.get? b = some o /\ H b = none
  bsz : base.objs.size <= s.heap.objs.size
  funs : s.heap.FunFrames base outer
  frf : ∀ b ∈ frs outer, H b = none
  hok : HOk P w H s.heap
  bare : AllBare s.gens
def CE (outer : List Env) (P : Program) (w : World) (H : Hp) (s : Shared) (Q : VK) (u : Value) (s' : Shared) : Prop :=
  ∃ v H', s'.os = s.os /\ AllBare s'.gens /\ Un (frs outer) [] H H' s.heap s'.heap /\ HOk P w H' s'.heap /\ RelV v u /\ Q v H'
def CR (CX : CXT) (outer : List Env) (P : Program) (w : World) (H : Hp) (s : Shared) (Q : VK) (E : XK) (r : Result) (s' : Shared) : Prop :=
  match r with
  | .ok (.ret u) => CE outer P w H s Q u s'
  | .ok _ => False
  | .error e => CX outer H s E e s'
structure FnOk (P : Program) (w : World) (K : W.Frag) (mg : Str -> Option Value) (base : Heap) (CX : CXT) (k : Nat) (f : Addr) (fd : FuncData) (ps : List Str) (sp : Sp) : Prop where
  len : ∀ vs H Q E, sp vs H Q E -> vs.length = ps.length
  run : ∀ (A : Around) (outer : List Env) (s : Shared) (H : Hp) (args : Args) (us : List Value) (vs : List V) (Q : VK) (E : XK), Room k A -> Env0 P w K mg base A outer s H -> BindsTo s fd args (ps.zip us) -> Vals vs us -> sp vs H Q E →
    codeAny (model P w) A (.call (.ref f) args) (CR CX outer P w H s Q E) s
section
variable {X : Cx} {pins : List (Addr × Obj)} {σ : St} {H : Hp} {s s' : Shared}
theorem Inv.env0 (I : Inv X pins σ H s) : Env0 X.prog X.w X.K X.mg X.base X.A X.stack s H :=
  ⟨I.ok.frames, I.ok.mod, I.bs, Nat.le_trans I.ok.bsz I.sz, I.stack, I.stkFree, I.hok, I.bare⟩
theorem Inv.after {Q : VK} {u : Value} (I : Inv X pins σ H s) (h : CE X.stack X.prog X.w H s Q u s') : EP X pins σ Q u s' := by
  obtain ⟨v, H', os, bare, un, hok, r, q⟩ := h
  obtain ⟨hh, g, d, t, os'⟩ := s'
  obtain rfl : os' = s.os := os
  exact ⟨v, H', I.call (h' := hh) (g' := g) (d' := d) (t' := t) (ch := []) un hok bare (fun b z => absurd z (by simp)), r, q⟩
end
def tCall (sp : Sp) (dvs : List V) (E : XK) (t : TA) : TE := fun σ H Q => t σ H fun vs H1 => sp (vs ++ dvs) H1 Q E
def Binds (K : W.Frag) (fd : FuncData) (ps : List Str) (ds : List Value) : Prop :=
  ∀ (s : Shared) (us : List Value), K.In s.heap -> (us ++ ds).length = ps.length -> BindsTo s fd ⟨us, []⟩ (ps.zip (us ++ ds))
theorem Binds.all {K : W.Frag} {fd : FuncData} {ps : List Str} (h : ∀ us : List Value, us.length = ps.length -> bindArgs fd ⟨us, []⟩ = pure (ps.zip us)) : Binds K fd ps [] := fun s us _ hl => by
  rw [List.append_nil] at hl ⊢
  exact .of_eq (h us hl)
def Passes (CX : CXT) (X : Cx) (E : XK) : Prop := ∀ (pins : List (Addr × Obj)) (σ : St) (H : Hp) (s : Shared) (e : Value) (s' : Shared), Inv X pins σ H s -> CX X.stack H s E e s' -> X.xe e s'
section
variable {X : Cx} {CX : CXT} {k : Nat} {f C : Addr} {fd : FuncData} {ps : List Str} {sp : Sp} {dvs : List V} {ds : List Value} {E : XK} {x m : Str} {p pos apos : Pos} {e o : Expr} {es : List Expr} {ta : TE} {t : TA}
theorem run_fn {pins : List (Addr × Obj)} {σ : St} {H : Hp} {s : Shared} {Q : VK} {us : List Value} {vs : List V} (F : FnOk X.prog X.w X.K X.mg X.base CX k f fd ps sp) (hr : Room k X.A) (hb : Binds X.K fd ps ds) (hd : Vals dvs ds) (hx : Passes CX X E)
    (I : Inv X pins σ H s) (r : Vals vs us) (h : sp (vs ++ dvs) H Q E) : wpAny (model X.prog X.w) X.A (call (.ref f) us) (EP X pins σ Q) X.xe s := by
  have r2 : Vals (vs ++ dvs) (us ++ ds) := r.append hd
  have hl : (us ++ ds).length = ps.length := by rw [<- r2.length]; exact F.len _ _ _ _ h
  refine wpAny_call (codeAny_mono (F.run X.A X.stack s H ⟨us, []⟩ (us ++ ds) (vs ++ dvs) Q E hr I.env0 (hb s us I.kIn hl) r2 h) fun r s' hq => ?_)
  cases r with
  | error e => exact hx pins σ H s e s' I hq
  | ok fl =>
    cases fl with
    | ret u => exact I.after hq
    | next => exact False.elim hq
    | brk => exact False.elim hq
    | cont => exact False.elim hq
theorem pe_call (F : FnOk X.prog X.w X.K X.mg X.base CX k f fd ps sp) (hr : Room k X.A) (hg : Gl X x) (hm : X.mg x = some (.ref f)) (hk : W.keepIn X.K (.ref f) = true) (hb : Binds X.K fd ps ds) (hd : Vals dvs ds) (hx : Passes CX X E)
    (ha : PA X (e :: es) t) (hdb : (x == ("__debug__" : Str)) = false := by decide) (he : starEach (e :: es) X.env = (false, eval e X.env) :: starEach es X.env := by rfl) (hpl : (backTo pos (starEach es X.env)).any (·.1) = false := by rfl) :
    PE X (.Call (.Name x p) (e :: es) [] pos) (tCall sp dvs E t) := by
  intro pins s σ H Q I h
  refine wpAny_Call_Name_kw (ld_glob I hg hm ?_ hdb)
  refine W.callWith_K (h₀ := X.base) I.ok.mod.kin hk (thn (ha pos pins s σ H _ I h) fun us s1 ⟨vs, H1, I1, r, q⟩ => ⟨I1.kIn, ?_⟩) he hpl
  exact run_fn F hr hb hd hx I1 r q
structure Mk (K : W.Frag) (C f : Addr) : Prop where
  makes : W.makesIn K C = true
  init : W.findIn K (.ref C) "__init__" = some (some (.ref f))
  fn : W.isFn K (.ref f) = true
  kp : W.keepIn K (.ref C) = true
end
section
variable {X : Cx} {CX : CXT} {k : Nat} {f C : Addr} {fd : FuncData} {ps ks : List Str} {sp : Sp} {E : XK} {x m : Str} {p pos apos kpos : Pos} {e o : Expr} {es : List Expr} {kws : List Keyword} {te ta : TE} {t tk : TA} {nm : Option Str}
structure KBinds (K : W.Frag) (fd : FuncData) (ps ks : List Str) (g : List Value -> List Value -> List Value) (gV : List V -> List V -> List V) : Prop where
  to : ∀ (s : Shared) (us ws : List Value), K.In s.heap -> (g us ws).length = ps.length -> BindsTo s fd ⟨us, ks.zip ws⟩ (ps.zip (g us ws))
  rel : ∀ {vs : List V} {us : List Value} {zs : List V} {ws : List Value}, Vals vs us -> Vals zs ws -> Vals (gV vs zs) (g us ws)
variable {g : List Value -> List Value -> List Value} {gV : List V -> List V -> List V}
end
structure FnScope (N P : List Str) (sc : Scope) : Prop where
  kind : sc.kind = .function
  co : sc.isCoroutine = false
  gen : sc.isGenerator = false
  nd : N.Nodup
  pre : N.take P.length = P
  par : ∀ x ∈ P, sc.names.lookup x = some .local \/ sc.names.lookup x = some .cell
  nofree : ∀ y ∈ sc.names, y.2 ≠ .free
theorem bindL_out {kindOf : Str -> Option NameKind} {x : Str} : ∀ {binds : List (Str × Value)} {m : Str -> Option Value}, (∀ v, (x, v) ∉ binds) -> bindL kindOf binds m x = m x
  | [], _, _ => rfl
  | (n, v) :: r, m, h => by
    unfold bindL
    rw [bindL_out fun w hw => h w (List.mem_cons_of_mem _ hw)]
    split
    . have : x ≠ n := by rintro rfl; exact h v List.mem_cons_self
      simp [this]
    . rfl
theorem bindC_out {kindOf : Str -> Option NameKind} {x : Str} : ∀ {binds : List (Str × Value)} {m : Str -> Option Value}, (∀ v, (x, v) ∉ binds) -> bindC kindOf binds m x = m x
  | [], _, _ => rfl
  | (n, v) :: r, m, h => by
    unfold bindC
    rw [bindC_out fun w hw => h w (List.mem_cons_of_mem _ hw)]
    split
    . rfl
    . have : x ≠ n := by rintro rfl; exact h v List.mem_cons_self
      simp [this]
theorem bindL_get {kindOf : Str -> Option NameKind} {x : Str} {v : Value} : ∀ {P : List Str} {vs : List Value} {i : Nat} {m : Str -> Option Value}, P.Nodup -> P[i]? = some x -> vs[i]? = some v -> kindOf x = some .local →
    bindL kindOf (P.zip vs) m x = some v
  | [], _, _, _, _, h, _, _ => by simp at h
  | _ :: _, [], _, _, _, _, h, _ => by simp at h
  | p :: P, w :: vs, 0, m, nd, h1, h2, hk => by
    simp at h1 h2; subst h1; subst h2
    show bindL kindOf ((p, w) :: P.zip vs) m p = _
    unfold bindL
    rw [bindL_out fun v hv => (List.nodup_cons.mp nd).1 (List.of_mem_zip hv).1, if_pos hk]
    simp
  | p :: P, w :: vs, i + 1, m, nd, h1, h2, hk => by
    show bindL kindOf ((p, w) :: P.zip vs) m x = _
    unfold bindL
    exact bindL_get (i := i) (List.nodup_cons.mp nd).2 (by simpa using h1) (by simpa using h2) hk
theorem bindC_get {kindOf : Str -> Option NameKind} {x : Str} {v : Value} : ∀ {P : List Str} {vs : List Value} {i : Nat} {m : Str -> Option Value}, P.Nodup -> P[i]? = some x -> vs[i]? = some v -> kindOf x ≠ some .local →
    bindC kindOf (P.zip vs) m x = some v
  | [], _, _, _, _, h, _, _ => by simp at h
  | _ :: _, [], _, _, _, _, h, _ => by simp at h
  | p :: P, w :: vs, 0, m, nd, h1, h2, hk => by
    simp at h1 h2; subst h1; subst h2
    show bindC kindOf ((p, w) :: P.zip vs) m p = _
    unfold bindC
    rw [bindC_out fun v hv => (List.nodup_cons.mp nd).1 (List.of_mem_zip hv).1, if_neg hk]
    simp
  | p :: P, w :: vs, i + 1, m, nd, h1, h2, hk => by
    show bindC kindOf ((p, w) :: P.zip vs) m x = _
    unfold bindC
    exact bindC_get (i := i) (List.nodup_cons.mp nd).2 (by simpa using h1) (by simpa using h2) hk
def start (N : List Str) (vs : List V) : St := vs.map some ++ List.replicate (N.length - vs.length) none
def cxOf (CX : CXT) (P : Program) (w : World) (K : W.Frag) (mg : Str -> Option Value) (base : Heap) (N : List Str) (qual : Str) (scope : Scope) (f : Addr) (cd : Value) (A : Around) (outer : List Env) (s : Shared) (H : Hp) (E : XK) : Cx where
  prog := P
  w := w
  K := K
  mg := mg
  base := base
  A := A.deeper (envOfC qual scope s.heap.objs.size f cd)
  N := N
  s₀ := s
  H₀ := H
  env := envOfC qual scope s.heap.objs.size f cd
  outer := outer
  stack := envOfC qual scope s.heap.objs.size f cd :: outer
  ex := []
  calm := true
  fn := fun _ => true
  pn := []
  xe := fun e s' => wpAny (model P w) (A.deeper (envOfC qual scope s.heap.objs.size f cd)) (leaving (envOfC qual scope s.heap.objs.size f cd) e) (fun _ s'' => CX outer H s E e s'') (fun e' s'' => CX outer H s E e' s'') s'
theorem cell_has {sc : Scope} {n : Nat} {x : Str} (h : sc.names.lookup x = some .cell) : ∃ c, (cellsFrom n sc.names []).lookup x = some c := by
  have q := W.cellsFrom_some sc.names n [] (.inl h)
  exact Option.isSome_iff_exists.mp q
theorem inv_start {CX : CXT} {P : Program} {w : World} {K : W.Frag} {mg : Str -> Option Value} {base : Heap} {N ps : List Str} {qual : Str} {scope : Scope} {f : Addr} {cd : Value} {A : Around} {outer : List Env} {s s1 : Shared} {H : Hp} {E : XK} {us : List Value} {vs : List V}
    (S : FnScope N ps scope) (hd : A.handled = none) (e0 : Env0 P w K mg base A outer s H) (hl : vs.length = ps.length) (r : Vals vs us)
    (x : InCallC s s.heap.objs.size (bindL (envOfC qual scope s.heap.objs.size f cd).kindOf (ps.zip us) fun _ => none) (cellsFrom (s.heap.objs.size + 1) scope.names []) (bindC (envOfC qual scope s.heap.objs.size f cd).kindOf (ps.zip us) fun _ => none) s1) :
    Inv (cxOf CX P w K mg base N qual scope f cd A outer s H E) [] (start N vs) H s1 := by
  have hpl : ps.length <= N.length := by have := congrArg List.length S.pre; rw [List.length_take] at this; omega
  obtain ⟨h1, tk, rfl, hk⟩ := x.done
  have noA : ∀ b : Addr, b ∉ (cxOf CX P w K mg base N qual scope f cd A outer s H E).ex := fun b z => absurd (show b ∈ ([] : List Addr) from z) (by simp)
  refine ⟨⟨e0.mod, S.kind, rfl, rfl, Nat.le_refl _, fun y z c h1 h2 => ?_, fun y hy => ?_, fun y c _ h => ?_, fun _ => hd, Around.frames_deeper e0.frames, .inr ⟨rfl, rfl⟩, fun b z => absurd z (noA b), e0.bs, e0.bsz, fun b _ _ => noA b, fun b z => absurd z (noA b), e0.funs, e0.frf⟩,
    rfl, e0.bare, Un.kept hk, ⟨_, x.toInCall.ns, fun i y v h1 h2 h3 => ?_⟩, fun y c h => ⟨_, x.cell y c h⟩, e0.hok.fresh (Nat.le_refl _), fun y c h => ?_, fun p hp => absurd (show p ∈ ([] : List (Addr × Obj)) from hp) (by simp), e0.hok.kept hk, ?_⟩
  . exact name_of_addr x.apart (PySem.mem_of_lookup h1) (PySem.mem_of_lookup h2)
  . have hy : scope.names.lookup y = some .cell \/ scope.names.lookup y = some .free := hy
    rcases hy with hy | hy
    . exact cell_has hy
    . exact absurd rfl (S.nofree _ (PySem.mem_of_lookup hy))
  . exact Nat.le_of_lt (x.above y c (PySem.mem_of_lookup h))
  . have hi : i < vs.length := by
      unfold start at h2
      by_cases hi : i < vs.length
      . exact hi
      . rw [List.getElem?_append_right (by simpa using hi)] at h2
        rw [List.getElem?_replicate] at h2
        split at h2 <;> cases h2
    have ha : vs[i]? = some v := by
      unfold start at h2
      rw [List.getElem?_append_left (by simpa using hi), List.getElem?_map] at h2
      cases e : vs[i]? with
      | none => rw [e] at h2; cases h2
      | some a => rw [e] at h2; cases h2; rfl
    obtain ⟨u, hu, rv⟩ := r.get ha
    have hp : ps[i]? = some y := by
      rw [<- S.pre, List.getElem?_take_of_lt (by omega)]; exact h1
    have ndP : ps.Nodup := by rw [<- S.pre]; exact S.nd.sublist (List.take_sublist _ _)
    refine ⟨u, rv, ?_⟩
    rcases S.par y (List.mem_of_getElem? hp) with k | k
    . exact .inl ⟨k, bindL_get ndP hp hu k⟩
    . obtain ⟨c, e⟩ := cell_has (n := s.heap.objs.size + 1) k
      refine .inr ⟨.inl k, c, e, ?_⟩
      have q := x.cell y c e
      rw [bindC_get ndP hp hu (by show scope.names.lookup y ≠ _; rw [k]; decide)] at q
      exact q
  . exact e0.hok.fresh (Nat.le_of_lt (x.above y c (PySem.mem_of_lookup h)))
  . unfold start
    show _ = N.length
    rw [List.length_append, List.length_map, List.length_replicate]
    omega
theorem fn_of {CX : CXT} {P : Program} {w : World} {K : W.Frag} {mg : Str -> Option Value} {base : Heap} {k : Nat} {f : Addr} {name qual : Str} {params : Arguments} {body : List Stmt} {scope : Scope} {dV kV doc pm cdv ct oc : Value} {an od : Option Addr}
    {osl : Array (Option Value)} {N ps : List Str} {sp : Sp} (lk : K.lookup f = some ⟨oc, od, .func (W.fnOf name qual params body scope dV kV doc pm an cdv ct), osl⟩) (hcd : W.codeIn K cdv qual = true) (S : FnScope N ps scope)
    (len : ∀ vs H Q E, sp vs H Q E -> vs.length = ps.length)
    (hbody : ∀ (A : Around) (outer : List Env) (s : Shared) (H : Hp) (vs : List V) (Q : VK) (E : XK), Room k (A.deeper (envOfC qual scope s.heap.objs.size f cdv)) -> sp vs H Q E →
      ∃ t, PSs (cxOf CX P w K mg base N qual scope f cdv A outer s H E) body t /\ t { nx := fun _ H' => Q .non H', rt := Q } (start N vs) H) :
    FnOk P w K mg base CX (k + 1) f (W.fnOf name qual params body scope dV kV doc pm an cdv ct) ps sp := by
  refine ⟨len, fun A outer s H args us vs Q E hr e0 hb r hsp => ?_⟩
  have hl := len _ _ _ _ hsp
  have KX : K.In s.heap := e0.mod.kin.keeps fun b o e => (e0.bs b o e).1
  have lim : s.heap.NoLimit := e0.mod.nolimit.keeps fun b o e => (e0.bs b o e).1
  have hkind : ∀ y ∈ ps.zip us, scope.names.lookup y.1 = some .local \/ (scope.names.lookup y.1 = some .cell /\ ((cellsFrom (s.heap.objs.size + 1) scope.names []).lookup y.1).isSome = true) := fun ⟨n, v⟩ hy => by
    rcases S.par n (List.of_mem_zip hy).1 with q | q
    . exact .inl q
    . exact .inr ⟨q, W.cellsFrom_some _ _ _ (.inl q)⟩
  refine codeAny_call_function hr.depth (KX _ _ lk) rfl S.co S.gen rfl (W.codeRec_of KX hcd) (hb _ _ _ _ ?_)
  refine wpAny_newFunctionEnv_cells S.kind hkind fun env he s1 x => ?_
  subst he
  refine ⟨lim.keeps x.toInCall.keep, codeAny_func ?_⟩
  obtain ⟨t, ht, hq⟩ := hbody A outer s H vs Q E (hr.deeper _) hsp
  have I : Inv (cxOf CX P w K mg base N qual scope f cdv A outer s H E) [] (start N vs) H s1 := inv_start S hr.hd e0 hl r x
  refine wpAny_mono (ht [] s1 (start N vs) H _ I hq) (fun fl s' hs => ?_) fun e s' hs => hs
  have fin : ∀ {σ' : St} {H' : Hp} {v : V} {u : Value}, Inv (cxOf CX P w K mg base N qual scope f cdv A outer s H E) [] σ' H' s' -> RelV v u -> Q v H' -> CE outer P w H s Q u s' :=
    fun {σ' H' v u} J rv q => ⟨v, H', J.os, J.bare, J.base, J.hok, rv, q⟩
  cases fl with
  | ret u =>
    obtain ⟨v, σ', H', J, rv, q⟩ := hs
    exact fin J rv q
  | next =>
    obtain ⟨σ', H', J, q⟩ := hs
    exact fin (v := V.non) (u := Value.none) J rfl q
  | brk =>
    obtain ⟨_, _, _, q⟩ := hs
    exact False.elim q
  | cont =>
    obtain ⟨_, _, _, q⟩ := hs
    exact False.elim q
end L2
namespace L2
open PySem PySem.Spec PyProof.Rows
section
variable {X : Cx} {x : Str} {p pos : Pos} {e : Expr} {es : List Expr} {t : TA} {id T : String} {r : List V -> Hp -> VK -> Prop}
def tCB (r : List V -> Hp -> VK -> Prop) (t : TA) : TE := fun σ H Q => t σ H fun vs H1 => r vs H1 Q
theorem pe_callB (hc : CallR X (.builtin id) r) (hg : Gl X x) (hm : X.mg x = none) (hv : bootBuiltins x = some (.builtin id)) (ha : PA X (e :: es) t) (hn : x ≠ "__name__" := by decide) (hdb : (x == ("__debug__" : Str)) = false := by decide)
    (he : starEach (e :: es) X.env = (false, eval e X.env) :: starEach es X.env := by rfl) (hpl : (backTo pos (starEach es X.env)).any (·.1) = false := by rfl) : PE X (.Call (.Name x p) (e :: es) [] pos) (tCB r t) := by
  intro pins s σ H Q I h
  refine wpAny_Call_Name_kw (ld_blt I hg hm hv ?_ hn hdb)
  exact PyProof.Rows.callWith_builtin1 (thn (ha pos pins s σ H _ I h) fun us s1 ⟨vs, H1, I1, r1, q1⟩ => hc pins s1 σ H1 vs us Q I1 r1 q1) he hpl
theorem pe_callTy (hc : CallR X (.type T) r) (hg : Gl X x) (hm : X.mg x = none) (hv : bootBuiltins x = some (.type T)) (ha : PA X (e :: es) t) (hn : x ≠ "__name__" := by decide) (hdb : (x == ("__debug__" : Str)) = false := by decide)
    (he : starEach (e :: es) X.env = (false, eval e X.env) :: starEach es X.env := by rfl) (hpl : (backTo pos (starEach es X.env)).any (·.1) = false := by rfl) : PE X (.Call (.Name x p) (e :: es) [] pos) (tCB r t) := by
  intro pins s σ H Q I h
  refine wpAny_Call_Name_kw (ld_blt I hg hm hv ?_ hn hdb)
  exact PyProof.Rows.callWith_type1 (thn (ha pos pins s σ H _ I h) fun us s1 ⟨vs, H1, I1, r1, q1⟩ => hc pins s1 σ H1 vs us Q I1 r1 q1) he hpl
end
end L2
namespace HT
open PySem PyProof.Rows
section
open PySem.SeqAt
open PySem.AutoSeq1 (wpAny_loadPart')
open PySem.MeetsSeq PySem.MeetsSeq2 PySem.MeetsSeq3
end
section
variable {prog : Program} {w : World} {A : Around} {E : Value -> Shared -> Prop} {s : Shared}
theorem cat_tup {t b : Addr} {vs ws : List Value} {Q : Value -> Shared -> Prop} (ht : IsTup s.heap t vs.toArray) (hb : IsTup s.heap b ws.toArray) (hv : vs ≠ [])
    (h1 : ws = [] -> Q (.ref t) s) (h2 : ws ≠ [] -> Q (.ref s.heap.objs.size) { s with heap := s.heap.push { cls := .type "tuple", data := .seq (vs ++ ws).toArray } })
    (hsz : vs.length + ws.length <= sizeLine) : wpAny (model prog w) A (binaryOp .Add (.ref t) (.ref b)) Q E s := by
  obtain ⟨⟨cls, dd, data, sl⟩, ho, hc, n, hd⟩ := id ht
  obtain ⟨⟨cls2, dd2, data2, sl2⟩, ho2, hc2, n2, hd2⟩ := id hb
  simp only at hc hd hc2 hd2
  subst hc hd hc2 hd2
  have e : vs.toArray ++ ws.toArray = (vs ++ ws).toArray := by simp
  by_cases hw : ws = []
  . exact concat_meets ⟨_, ho, rfl⟩ ⟨_, ho2, rfl⟩ noFill_tuple_add seq_tuple_add PySem.F.slot_tuple_add PySem.F.entry_tuple_add (PySem.F.args_tuple_add_2 _ _)
      (tuple_addW1 t b vs.toArray ws.toArray n n2 dd dd2 sl sl2 (by simpa using hv) (by simp [hw])) ⟨ho, ho2, h1 hw⟩
  . refine concat_meets ⟨_, ho, rfl⟩ ⟨_, ho2, rfl⟩ noFill_tuple_add seq_tuple_add PySem.F.slot_tuple_add PySem.F.entry_tuple_add (PySem.F.args_tuple_add_2 _ _)
      (tuple_addW2 t b vs.toArray ws.toArray n n2 dd dd2 sl sl2 (by simpa using hv) (by simpa using hw) (by rw [List.size_toArray, List.size_toArray]; exact hsz)) ⟨ho, ho2, ?_⟩
    rw [e]
    exact h2 hw
def sIx (n d : Nat) : Option Int -> Nat
  | none => d
  | some v => if v < 0 then (v + (n : Int)).toNat else min v.toNat n
theorem sIx_none (n d : Nat) : sIx n d none = d := rfl
theorem sIx_nat (n d k : Nat) : sIx n d (some (k : Int)) = min k n := by
  show (if (k : Int) < 0 then ((k : Int) + (n : Int)).toNat else min (k : Int).toNat n) = min k n
  rw [if_neg (by omega), Int.toNat_natCast]
end
end HT
namespace L2
open PySem PySem.Spec PyProof.Rows
abbrev TO := St -> Hp -> (Option Int -> Hp -> Prop) -> Prop
def PO (X : Cx) (e : Option Expr) (t : TO) : Prop :=
  ∀ (pins : List (Addr × Obj)) (s : Shared) (σ : St) (H : Hp) (Q : Option Int -> Hp -> Prop), Inv X pins σ H s -> t σ H Q →
    wpAny (model X.prog X.w) X.A (evalPart e X.env) (fun u s' => ∃ o H', Inv X pins σ H' s' /\ IsPart u o /\ Q o H') X.xe s
def tNoPart : TO := fun _ H Q => Q none H
def tPart (t : TE) : TO := fun σ H Q => t σ H fun x H1 => ∃ i, x = .int i /\ Q (some i) H1
section
variable {X : Cx} {e : Expr} {te : TE} {lo hi : Option Expr} {tl th : TO} {pos p2 : Pos}
theorem po_none : PO X none tNoPart := by
  intro pins s σ H Q I h
  rw [evalPart_none]
  exact wpAny_pure ⟨none, H, I, .none, h⟩
theorem po_some (h : PE X e te) : PO X (some e) (tPart te) := by
  intro pins s σ H Q I hw
  rw [evalPart_some]
  refine thn (h pins s σ H _ I hw) fun u s1 ⟨x, H1, I1, r1, q1⟩ => ?_
  obtain ⟨i, rfl, q⟩ := q1
  obtain ⟨t, rfl⟩ := r1
  exact ⟨some i, H1, I1, .int i t, q⟩
def SlR (X : Cx) (r : V -> Option Int -> Option Int -> Hp -> VK -> Prop) : Prop :=
  ∀ (pins : List (Addr × Obj)) (s : Shared) (σ : St) (H : Hp) (x : V) (v vl vu : Value) (lo hi : Option Int) (sl : Addr) (Q : VK), Inv X pins σ H s -> RelV x v -> s.heap.IsSliceOf sl vl vu .none -> IsPart vl lo -> IsPart vu hi -> r x lo hi H Q →
    ∃ T id, typeLookup (.type T) "__getitem__" = pure (some (.builtin id)) /\ s.TypeIs v T /\ wpAny (model X.prog X.w) X.A (getItem v (.ref sl)) (EP X pins σ Q) X.xe s
def tSl (r : V -> Option Int -> Option Int -> Hp -> VK -> Prop) (te : TE) (tl th : TO) : TE := fun σ H Q => te σ H fun x H1 => tl σ H1 fun l H2 => th σ H2 fun u H3 => r x l u H3 Q
theorem pe_slice {r : V -> Option Int -> Option Int -> Hp -> VK -> Prop} (hr : SlR X r) (he : PE X e te) (hl : PO X lo tl) (hu : PO X hi th) : PE X (.Subscript e (.Slice lo hi none p2) pos) (tSl r te tl th) := by
  intro pins s σ H Q I h
  refine Subscript_ (thn (he pins s σ H _ I h) fun v s1 ⟨x, H1, I1, r1, q1⟩ => ?_)
  refine wpAny_Slice (thn (hl pins s1 σ H1 _ I1 q1) fun vl s2 ⟨l, H2, I2, pl, q2⟩ => thn (hu pins s2 σ H2 _ I2 q2) fun vu s3 ⟨u, H3, I3, pu, q3⟩ => ?_)
  rw [evalPart_none]
  refine wpAny_pure ?_
  have I4 : Inv X pins σ H3 { s3 with heap := s3.heap.push { cls := .type "slice", data := .fields #[vl, vu, .none] } } := I3.kept (t' := s3.toks) fun b ob q => Heap.get?_push_of_some _ q
  obtain ⟨T, id, hT, ht, hg⟩ := hr pins { s3 with heap := s3.heap.push { cls := .type "slice", data := .fields #[vl, vu, .none] } } σ H3 x v vl vu l u s3.heap.objs.size Q I4 r1 (Heap.IsSliceOf.new ..) pl pu q3
  show wpAny (model X.prog X.w) X.A (subscriptTail e (.Slice lo hi none p2) v (.ref s3.heap.objs.size)) (EP X pins σ Q) X.xe { s3 with heap := s3.heap.push { cls := .type "slice", data := .fields #[vl, vu, .none] } }
  exact tail_any (ops := [.ref s3.heap.objs.size, v]) ht hT hg (by with_unfolding_all rfl)
def cutV (xs : List V) (lo hi : Option Int) : List V := (xs.drop (HT.sIx xs.length 0 lo)).take (HT.sIx xs.length xs.length hi - HT.sIx xs.length 0 lo)
theorem cutV_length (xs : List V) (lo hi : Option Int) : (cutV xs lo hi).length <= xs.length := by
  unfold cutV
  rw [List.length_take, List.length_drop]
  omega
def rCatT (K : W.Frag) : R2 := fun x y H Q => ∃ a b xs ys, x = .ref a /\ y = .ref b /\ SqT K H a xs /\ SqT K H b ys /\ xs ≠ [] /\ xs.length + ys.length <= sizeLine ∧
  (ys = [] -> Q (.ref a) H) /\ (ys ≠ [] -> ∀ p, H p = none -> Q (.ref p) (upd H p (.tup (xs ++ ys))))
theorem Vals.nil_iff {xs : List V} {us : List Value} (r : Vals xs us) : us = [] ↔ xs = [] := by
  cases r with
  | nil => simp
  | cons _ _ => simp
theorem op_catT : OpR X (binaryOp .Add) (rCatT X.K) := by
  intro pins s σ H x y v u Q I rx ry h
  obtain ⟨a, b, xs, ys, rfl, rfl, ha, hb, hx, hz, q1, q2⟩ := h
  cases rx
  cases ry
  obtain ⟨its, r1, p1, _⟩ := I.tuple ha
  obtain ⟨its2, r2, p2, _⟩ := I.tuple hb
  refine HT.cat_tup p1 p2 (fun z => hx (r1.nil_iff.mp z)) (fun z => ⟨.ref a, H, I, rfl, q1 (r2.nil_iff.mp z)⟩) (fun z => ?_) (by rw [<- r1.length, <- r2.length]; exact hz)
  refine ⟨.ref s.heap.objs.size, _, I.laid (t' := s.toks) (o := .tup (xs ++ ys)) (fun b ob q => Heap.get?_push_of_some _ q) (Nat.le_refl _) ?_, rfl, q2 (fun w => z (r2.nil_iff.mpr w)) _ (I.hok.fresh (Nat.le_refl _))⟩
  exact ⟨by rw [List.length_append]; exact hz, _, r1.append r2, IsTup.new _ _⟩
end
end L2
namespace L2
open PySem PySem.Spec PyProof.Rows
def ixN (n : Nat) (i : Int) : Option Nat := if 0 <= i then (if i < n then some i.toNat else none) else if -(n : Int) <= i then some (i + n).toNat else none
def atI {α : Type} (xs : List α) (i : Int) : Option α := (ixN xs.length i).bind fun j => xs[j]?
theorem ixN_seq {n : Nat} {i : Int} {j : Nat} (h : ixN n i = some j) : seqIndex? i n = some j /\ j < n /\ -(n : Int) <= i /\ i < n := by
  unfold ixN at h
  by_cases h0 : 0 <= i
  . rw [if_pos h0] at h
    by_cases h1 : i < n
    . rw [if_pos h1] at h
      have e : i.toNat = j := Option.some.inj h
      exact ⟨by rw [seqIndex_of h0 h1, e], by omega, by omega, h1⟩
    . rw [if_neg h1] at h; cases h
  . rw [if_neg h0] at h
    by_cases h1 : -(n : Int) <= i
    . rw [if_pos h1] at h
      have e : (i + n).toNat = j := Option.some.inj h
      exact ⟨by rw [seqIndex_neg (by omega) h1, e], by omega, h1, by omega⟩
    . rw [if_neg h1] at h; cases h
theorem atI_get {α : Type} {xs : List α} {i : Int} {v : α} (h : atI xs i = some v) : ∃ j, seqIndex? i xs.length = some j /\ xs[j]? = some v /\ j < xs.length /\ -(xs.length : Int) <= i /\ i < xs.length := by
  unfold atI at h
  cases e : ixN xs.length i with
  | none => rw [e] at h; cases h
  | some j =>
    rw [e] at h
    obtain ⟨h1, h2, h3, h4⟩ := ixN_seq e
    exact ⟨j, h1, h, h2, h3, h4⟩
theorem atI_nat {α : Type} {xs : List α} {j : Nat} {v : α} (h : xs[j]? = some v) : atI xs (j : Int) = some v := by
  have hj : j < xs.length := (List.getElem?_eq_some_iff.mp h).1
  have e : ixN xs.length (j : Int) = some j := by
    unfold ixN
    rw [if_pos (by omega), if_pos (by omega)]; simp
  unfold atI; rw [e]; exact h
theorem atI_last {α : Type} (xs : List α) (v : α) : atI (xs ++ [v]) (-1) = some v := by
  have hl : (xs ++ [v]).length = xs.length + 1 := by simp
  have e : ixN (xs ++ [v]).length (-1) = some xs.length := by
    unfold ixN
    rw [hl, if_neg (by decide), if_pos (by omega)]
    congr 1
    omega
  unfold atI
  rw [e]
  show (xs ++ [v])[xs.length]? = some v
  simp
def PlainIx (b : Expr) : Prop := ∀ o i, subscripted b false o i = operate [o, i] (getItem o i)
def IxR (X : Cx) (r : R2) : Prop :=
  ∀ (value slice : Expr) (pins : List (Addr × Obj)) (s : Shared) (σ : St) (H : Hp) (x y : V) (v u : Value) (Q : VK), Inv X pins σ H s -> RelV x v -> RelV y u -> r x y H Q →
    subscripted slice false v u = operate [v, u] (getItem v u) -> wpAny (model X.prog X.w) X.A (subscriptTail value slice v u) (EP X pins σ Q) X.xe s
def MtR (X : Cx) (id : String) (r : V -> List V -> Hp -> VK -> Prop) : Prop :=
  ∀ (pins : List (Addr × Obj)) (s : Shared) (σ : St) (H : Hp) (x : V) (xs : List V) (v : Value) (us : List Value) (Q : VK), Inv X pins σ H s -> RelV x v -> Vals xs us -> r x xs H Q →
    wpAny (model X.prog X.w) X.A (call (.builtin id) (v :: us)) (EP X pins σ Q) X.xe s
section
variable {X : Cx} {a b : Expr} {ta tb : TE} {pos : Pos}
theorem pe_ix {r : R2} (hr : IxR X r) (ha : PE X a ta) (hb : PE X b tb) (hs : PlainIx b) : PE X (.Subscript a b pos) (tOp r ta tb) := by
  intro pins s σ H Q I h
  exact Subscript_ (binT ha hb I h fun v u s2 x y H2 I2 rx ry q => hr a b pins s2 σ H2 x y v u Q I2 rx ry q (hs _ _))
def rIxL (K : W.Frag) : R2 := fun x y H Q => ∃ p xs i v, x = .ref p /\ y = .int i /\ SqL K H p xs /\ atI xs i = some v /\ Q v H
def rIxT (K : W.Frag) : R2 := fun x y H Q => ∃ p xs i v, x = .ref p /\ y = .int i /\ SqT K H p xs /\ atI xs i = some v /\ Q v H
theorem ix_list : IxR X (rIxL X.K) := by
  intro value slice pins s σ H x y v u Q I rx ry h hs
  obtain ⟨p, xs, i, z, rfl, rfl, hq, he, q⟩ := h
  cases rx
  obtain ⟨t, rfl⟩ := ry
  obtain ⟨its, r, pl, hz⟩ := I.list hq
  obtain ⟨j, h1, h2, h3, h4, h5⟩ := atI_get he
  obtain ⟨w, ew, rw'⟩ := r.get h2
  have hl := r.length
  have hn := line63
  have fin : EP X pins σ Q w s := ⟨z, H, I, rw', q⟩
  by_cases h0 : 0 <= i
  . have hj : i.toNat = j := by
      rw [seqIndex_of h0 h5] at h1
      exact Option.some.inj h1
    exact item_listR pl.isList h0 (by omega) (by rw [hj]; simpa using ew) fin hs
  . have hj : (i + (its.toArray.size : Int)).toNat = j := by
      rw [seqIndex_neg (by omega) h4] at h1
      rw [List.size_toArray, <- hl]
      exact Option.some.inj h1
    exact subscriptTail_builtinR (x := w) pl.isList.typeIs slot_list_getitem.lookup
      (wpAny_getItem_list_neg (Q := fun r s' => r = w /\ EP X pins σ Q r s') pl.isList (by omega) (by rw [List.size_toArray] <;> omega) (by omega) (by rw [hj]; simpa using ew) ⟨rfl, fin⟩) hs
theorem ix_tup : IxR X (rIxT X.K) := by
  intro value slice pins s σ H x y v u Q I rx ry h hs
  obtain ⟨p, xs, i, z, rfl, rfl, hq, he, q⟩ := h
  cases rx
  obtain ⟨t, rfl⟩ := ry
  obtain ⟨its, r, pl, hz⟩ := I.tuple hq
  obtain ⟨j, h1, h2, h3, h4, h5⟩ := atI_get he
  obtain ⟨w, ew, rw'⟩ := r.get h2
  have hl := r.length
  have hn := line63
  have fin : EP X pins σ Q w s := ⟨z, H, I, rw', q⟩
  exact subscriptTail_builtinR (x := w) pl.typeIs slot_tuple_getitem.lookup
    (getItem_tuple (j := j) (Q := fun r s' => r = w /\ EP X pins σ Q r s') pl (by omega) (by omega) (by rw [List.size_toArray, <- hl]; exact h1) (by simpa using ew) ⟨rfl, fin⟩) hs
theorem mapSeq_set (its : List Value) (n j : Nat) (u : Value) : Obj.mapSeq (·.setIfInBounds j u) { cls := .type "list", data := .seq its.toArray n } = { cls := .type "list", data := .seq (its.set j u).toArray n } := by
  simp [Obj.mapSeq]
theorem Inv.lst {pins : List (Addr × Obj)} {σ : St} {H : Hp} {s : Shared} {p : Addr} {xs : List V} (I : Inv X pins σ H s) (h : H p = some (.lst xs)) :
    ∃ (its : List Value) (n : Nat), Vals xs its /\ s.heap.get? p = some { cls := .type "list", data := .seq its.toArray n } /\ xs.length <= sizeLine := by
  obtain ⟨z, its, n, r, e⟩ := I.hok p _ h
  exact ⟨its, n, r, e, z⟩
theorem Inv.lstUpd {pins : List (Addr × Obj)} {σ : St} {H : Hp} {s : Shared} {p : Addr} {xs ys : List V} {its its' : List Value} {n n' : Nat} {f : Obj -> Obj} (I : Inv X pins σ H s) (h : H p = some (.lst xs))
    (ho : s.heap.get? p = some { cls := .type "list", data := .seq its.toArray n }) (hf : f { cls := .type "list", data := .seq its.toArray n } = { cls := .type "list", data := .seq its'.toArray n' }) (r : Vals ys its') (hz : ys.length <= sizeLine) (t : Nat) :
    Inv X pins σ (upd H p (.lst ys)) { s with heap := s.heap.update p f, toks := t } := by
  have e : (s.heap.update p f).get? p = some { cls := .type "list", data := .seq its'.toArray n' } := by
    rw [Heap.get?_update_self f ho (by rw [hf] <;> rfl), hf]
  refine I.write (x := p) (e := p) (by rw [h]; trivial) (.inl rfl) (fun b u hb q => (Heap.get?_update_other _ _ (Ne.symm hb)).trans q) ⟨_, e⟩ ?_
  exact ⟨hz, its', n', r, e⟩
def rSetL : V -> V -> V -> Hp -> (Hp -> Prop) -> Prop := fun o i v H Q => ∃ p xs k j, o = .ref p /\ i = .int k /\ H p = some (.lst xs) /\ ixN xs.length k = some j /\ Q (upd H p (.lst (xs.set j v)))
theorem set_list : PSet X rSetL := by
  intro pins s σ H o i v ov iv u Q I ro ri rv h
  obtain ⟨p, xs, k, j, rfl, rfl, hp, hj, q⟩ := h
  cases ro
  obtain ⟨t, rfl⟩ := ri
  obtain ⟨its, n, r, ho, hz⟩ := I.lst hp
  obtain ⟨h1, h2, h3, h4⟩ := ixN_seq hj
  have hl := r.length
  have hn := line63
  have I' : Inv X pins σ (upd H p (.lst (xs.set j v))) { s with heap := s.heap.update p (Obj.mapSeq (·.setIfInBounds j u)) } :=
    I.lstUpd hp ho (mapSeq_set its n j u) (r.set rv j) (by rw [List.length_set]; exact hz) s.toks
  by_cases h0 : 0 <= k
  . have hk : k.toNat = j := by
      rw [seqIndex_of h0 h4] at h1
      exact Option.some.inj h1
    exact W.ki_setAt ho h0 (by omega) (by rw [List.size_toArray, <- hl]; exact h4) (by rw [hk]; exact ⟨_, I', q⟩)
  . have hk : (k + (its.toArray.size : Int)).toNat = j := by
      rw [seqIndex_neg (by omega) h3] at h1
      rw [List.size_toArray, <- hl]
      exact Option.some.inj h1
    exact W.ki_setBack ho (by omega) (by rw [List.size_toArray, <- hl]; exact h3) (by omega) (by rw [hk]; exact ⟨_, I', q⟩)
theorem slice_bounds (lo hi : Option Int) (n : Nat) : (sliceBounds lo hi none n).1 = ((HT.sIx n 0 lo : Nat) : Int) /\ (sliceBounds lo hi none n).2.1 = ((HT.sIx n n hi : Nat) : Int) /\ (sliceBounds lo hi none n).2.2 = 1 := by
  refine ⟨?_, ?_, rfl⟩
  . cases lo with
    | none => simp [sliceBounds, HT.sIx]
    | some i =>
      simp only [sliceBounds, HT.sIx, Option.getD_none, show (1 : Int) > 0 by decide, if_true]
      by_cases h : i < 0
      . simp only [h, if_true] <;> omega
      . simp only [h, if_false] <;> omega
  . cases hi with
    | none => simp [sliceBounds, HT.sIx]
    | some i =>
      simp only [sliceBounds, HT.sIx, Option.getD_none, show (1 : Int) > 0 by decide, if_true]
      by_cases h : i < 0
      . simp only [h, if_true] <;> omega
      . simp only [h, if_false] <;> omega
theorem slicePick_cut (its : List Value) (lo hi : Option Int) : slicePick its.toArray lo hi none = ((its.drop (HT.sIx its.length 0 lo)).take (HT.sIx its.length its.length hi - HT.sIx its.length 0 lo)).toArray := by
  obtain ⟨h1, h2, h3⟩ := slice_bounds lo hi its.toArray.size
  unfold slicePick
  rw [h1, h2, h3]
  simp only [sliceRange_one, pick_run, List.size_toArray] <;> rfl
def rSlL (K : W.Frag) : V -> Option Int -> Option Int -> Hp -> VK -> Prop := fun x lo hi H Q => ∃ a xs, x = .ref a /\ SqL K H a xs /\ ∀ p, H p = none -> Q (.ref p) (upd H p (.lst (cutV xs lo hi)))
theorem sl_list : SlR X (rSlL X.K) := by
  intro pins s σ H x v vl vu lo hi sl Q I rx hs pl pu h
  obtain ⟨a, xs, rfl, hx, q⟩ := h
  cases rx
  obtain ⟨its, r, ht, hz⟩ := I.list hx
  have hlen := r.length
  refine ⟨"list", _, slot_list_getitem.lookup, ht.isList.typeIs, ?_⟩
  refine wpAny_getItem_list_slice ht.isList hs pl pu .none (by simp) ?_ (by rw [List.size_toArray] <;> omega)
  rw [slicePick_cut, <- hlen]
  refine ⟨.ref s.heap.objs.size, _, I.laid (t' := s.toks) (o := .lst (cutV xs lo hi)) (fun b ob q => Heap.get?_push_of_some _ q) (Nat.le_refl _) ?_, rfl, q _ (I.hok.fresh (Nat.le_refl _))⟩
  exact ⟨Nat.le_trans (cutV_length xs lo hi) hz, _, 0, (r.drop (HT.sIx xs.length 0 lo)).take (HT.sIx xs.length xs.length hi - HT.sIx xs.length 0 lo), Heap.get?_push_size _ rfl⟩
theorem call_len_seq : CallR X (.builtin "len") (fun xs H Q => ∃ p ys, xs = [.ref p] /\ (SqL X.K H p ys \/ SqT X.K H p ys) /\ Q (.int ys.length) H) := by
  intro pins s σ H xs us Q I r h
  obtain ⟨p, ys, rfl, hq, q⟩ := h
  obtain ⟨u, rfl, rx⟩ := vals1 r
  cases rx
  have hn := line63
  rcases hq with hq | hq
  . obtain ⟨its, r', pl, hz⟩ := I.list hq
    have hlen := r'.length
    exact Calls.call_len_list pl.isList (by simp only [List.size_toArray] <;> omega) ⟨.int ys.length, H, I.tok _, ⟨s.toks + 1, by rw [List.size_toArray, hlen]⟩, q⟩
  . obtain ⟨its, r', pl, hz⟩ := I.tuple hq
    have hlen := r'.length
    exact len_tuple pl (by simp only [List.size_toArray] <;> omega) ⟨.int ys.length, H, I.tok _, ⟨s.toks + 1, by rw [List.size_toArray, hlen]⟩, q⟩
theorem call_list_of : CallR X (.type "list") (fun xs H Q => ∃ p ys, xs = [.ref p] /\ (SqL X.K H p ys \/ SqT X.K H p ys) /\ ∀ l, H l = none -> Q (.ref l) (upd H l (.lst ys))) := by
  intro pins s σ H xs us Q I r h
  obtain ⟨p, ys, rfl, hq, q⟩ := h
  obtain ⟨u, rfl, rx⟩ := vals1 r
  cases rx
  have fin : ∀ (its : List Value), Vals ys its -> ys.length <= sizeLine -> ∀ (h' : Heap) (c' : Nat), (∀ b o', s.heap.get? b = some o' -> h'.get? b = some o') →
      h'.get? s.heap.objs.size = some { cls := .type "list", dict := none, data := .seq its.toArray c', slots := #[] } -> EP X pins σ Q (.ref s.heap.objs.size) { s with heap := h' } := fun its r' hz h' c' kp e =>
    ⟨.ref s.heap.objs.size, _, I.laid (t' := s.toks) kp (Nat.le_refl _) (show ObjOk X.prog X.w _ h' _ (.lst ys) from ⟨hz, its, c', r', e⟩), rfl, q _ (I.hok.fresh (Nat.le_refl _))⟩
  rcases hq with hq | hq
  . obtain ⟨its, r', pl, hz⟩ := I.list hq
    have hlen := r'.length
    obtain ⟨o, ho, hc, n, hd⟩ := pl.isList
    exact call_list_seq p (.inl rfl) ho hc hd (fun h' c' kp e => fin its r' hz h' c' kp e) (by simp only [List.size_toArray] <;> omega)
  . obtain ⟨its, r', pl, hz⟩ := I.tuple hq
    have hlen := r'.length
    obtain ⟨o, ho, hc, n, hd⟩ := pl
    exact call_list_seq p (.inr rfl) ho hc hd (fun h' c' kp e => fin its r' hz h' c' kp e) (by simp only [List.size_toArray] <;> omega)
theorem call_tuple_of : CallR X (.type "tuple") (fun xs H Q => ∃ p ys, xs = [.ref p] /\ ((SqL X.K H p ys /\ ∀ l, H l = none -> Q (.ref l) (upd H l (.tup ys))) \/ (SqT X.K H p ys /\ Q (.ref p) H))) := by
  intro pins s σ H xs us Q I r h
  obtain ⟨p, ys, rfl, h⟩ := h
  obtain ⟨u, rfl, rx⟩ := vals1 r
  cases rx
  rcases h with ⟨hq, q⟩ | ⟨hq, q⟩
  . obtain ⟨its, r', pl, hz⟩ := I.list hq
    have hlen := r'.length
    refine call_tuple_list pl.isList (fun h' kp => ?_) (by simp only [List.size_toArray] <;> omega)
    have I1 : Inv X pins σ H { s with heap := h' } := I.kept (t' := s.toks) kp
    have I2 : Inv X pins σ (upd H h'.objs.size (.tup ys)) { s with heap := h'.push { cls := .type "tuple", data := .seq its.toArray } } :=
      I1.laid (t' := s.toks) (fun b o e => Heap.get?_push_of_some _ e) (Nat.le_refl _) (show ObjOk X.prog X.w _ _ _ (.tup ys) from ⟨hz, its, r', IsTup.new _ _⟩)
    exact ⟨.ref h'.objs.size, _, I2, rfl, q _ (I1.hok.fresh (Nat.le_refl _))⟩
  . obtain ⟨its, r', pl, hz⟩ := I.tuple hq
    exact call_tuple_same pl ⟨.ref p, H, I, rfl, q⟩
def tyV (K : W.Frag) (T : String) (x : V) (H : Hp) : Prop := match x with
  | .str _ => T = "str"
  | .int _ => T = "int"
  | .ref p => (T = "list" /\ ∃ xs, SqL K H p xs) \/ (T = "tuple" /\ ∃ o, K.lookup p = some o /\ o.cls = .type "tuple" /\ o.dict = none) ∨
      (T = "dict" /\ ((∃ kvs, H p = some (.dK kvs)) \/ ∃ kvs, H p = some (.dT kvs))) \/ (T = "set" /\ ∃ S n, H p = some (.set S n))
  | _ => False
theorem tyV_is {pins : List (Addr × Obj)} {σ : St} {H : Hp} {s : Shared} {T : String} {x : V} {v : Value} (I : Inv X pins σ H s) (r : RelV x v) (ty : tyV X.K T x H) :
    s.TypeIs v T /\ ∀ a, v = .ref a -> ∃ ob, s.heap.get? a = some ob /\ ob.dict = none := by
  cases x with
  | str z =>
    obtain ⟨t, rfl⟩ := r
    cases (show T = "str" from ty)
    exact ⟨typeIs_str s z t, fun _ e => nomatch e⟩
  | int i =>
    obtain ⟨t, rfl⟩ := r
    cases (show T = "int" from ty)
    exact ⟨typeIs_int s i t, fun _ e => nomatch e⟩
  | ref p =>
    cases r
    rcases ty with ⟨rfl, xs, hq⟩ | ⟨rfl, o, hk, hc, hd⟩ | ⟨rfl, hk⟩ | ⟨rfl, S, n, hk⟩
    . obtain ⟨its, _, pl, _⟩ := I.list hq
      refine ⟨pl.isList.typeIs, fun a e => ?_⟩
      cases e
      obtain ⟨o, n, e, c, hd, _⟩ := pl
      exact ⟨o, e, hd⟩
    . refine ⟨⟨o, I.kIn p o hk, hc⟩, fun a e => ?_⟩
      cases e
      exact ⟨o, I.kIn _ o hk, hd⟩
    . have z : ∃ o, s.heap.get? p = some o /\ o.ExactDict := by
        rcases hk with ⟨kvs, hk⟩ | ⟨kvs, hk⟩
        . obtain ⟨_, _, _, _, o, _, _, e, ex, _⟩ := I.hok p _ hk
          exact ⟨o, e, ex⟩
        . obtain ⟨_, _, _, _, o, _, _, e, ex, _⟩ := I.hok p _ hk
          exact ⟨o, e, ex⟩
      obtain ⟨o, e, ex⟩ := z
      refine ⟨⟨o, e, ex.1⟩, fun a e2 => ?_⟩
      cases e2
      exact ⟨o, e, ex.2.1⟩
    . obtain ⟨o, _, _, _, e, ex, _⟩ := I.hok p _ hk
      refine ⟨⟨o, e, ex.1⟩, fun a e2 => ?_⟩
      cases e2
      exact ⟨o, e, ex.2.1⟩
  | _ => exact False.elim ty
def tBM (K : W.Frag) (T : String) (r : V -> List V -> Hp -> VK -> Prop) (to : TE) (t : TA) : TE := fun σ H Q => to σ H fun x H1 => tyV K T x H1 /\ t σ H1 fun xs H2 => r x xs H2 Q
variable {o e : Expr} {es : List Expr} {to : TE} {t : TA} {name : Str} {apos cpos : Pos} {T id : String} {r : V -> List V -> Hp -> VK -> Prop}
theorem pe_bm (pa : PlainAttrs T) (slot : Slot T name id) (hty : typeOf (.builtin id) = pure (.type "method_descriptor")) (hm : MtR X id r) (ho : PE X o to) (ha : PA X (e :: es) t)
    (hbase : attributeBase o name X.env (eval o X.env) = eval o X.env := by rfl)
    (hfew : ((backTo cpos (starEach (e :: es) X.env)).all (fun x => !x.1) && (backToKw cpos (keywordEach [] X.env)).all (fun x => x.1.isSome)
      && decide ((e :: es).length + ([] : List Keyword).length + (if ([] : List Keyword).isEmpty then 0 else 1) < 30)) = true := by rfl)
    (hline : (apos.endLine == cpos.line) = true := by rfl) (hs : starEach (e :: es) X.env = (false, eval e X.env) :: starEach es X.env := by rfl) (hplain : (backTo cpos (starEach es X.env)).any (·.1) = false := by rfl) :
    PE X (.Call (.Attribute o name apos) (e :: es) [] cpos) (tBM X.K T r to t) := by
  intro pins s σ H Q I h
  refine wpAny_Call_method_late hbase hfew hline rfl (thn (ho pins s σ H _ I h) fun v s1 ⟨x, H1, I1, r1, ty, q1⟩ => ?_)
  obtain ⟨h1, h2⟩ := tyV_is I1 r1 ty
  refine ⟨T, id, pa, slot, hty, h1, h2, ?_⟩
  have hA := ha cpos pins s1 σ H1 _ I1 q1
  rw [hs] at hA ⊢
  refine Calls.callWith_builtin (by show (false || (backTo cpos (starEach es X.env)).any (·.1)) = false; rw [hplain] <;> rfl) (Calls.evalArgs_plain ?_)
  exact thn hA fun us s2 ⟨vs, H2, I2, r2, q2⟩ => hm pins s2 σ H2 x vs v us Q I2 r1 r2 q2
/- xs.append(e), list.index on a module's tuple .. are MtR facts of 06m -/
end
end L2
namespace L2
open PySem PySem.Spec PyProof.Rows
def MtM (X : Cx) (id : String) (r : V -> List V -> Hp -> VK -> Prop) : Prop :=
  ∀ (pins : List (Addr × Obj)) (s : Shared) (σ : St) (H : Hp) (x : V) (xs : List V) (v : Value) (us : List Value) (Q : VK), Inv X pins σ H s -> RelV x v -> Vals xs us -> r x xs H Q →
    wpAny (model X.prog X.w) X.A (call (.builtin id) (v :: us)) (EP X pins σ Q) X.xe s
theorem Vals.one : ∀ {x : V} {us : List Value}, Vals [x] us -> ∃ u, us = [u] /\ RelV x u
  | _, _, .cons r .nil => ⟨_, rfl, r⟩
section
variable {X : Cx} {pins : List (Addr × Obj)} {σ : St} {H : Hp} {s : Shared} {l b : Addr} {xs ys zs : List V}
theorem Inv.lset {its its' : List Value} {n : Nat} {f : Array Value -> Array Value} {t' : Nat} (I : Inv X pins σ H s) (hH : H l = some (.lst xs))
    (e : s.heap.get? l = some { cls := .type "list", data := .seq its.toArray n }) (hf : f its.toArray = its'.toArray) (hv : Vals ys its') (hz : ys.length <= sizeLine) :
    Inv X pins σ (upd H l (.lst ys)) { s with heap := s.heap.update l (Obj.mapSeq f), toks := t' } := by
  have q := PySem.IsL.update e f
  rw [hf] at q
  refine I.write (x := l) (e := l) (by rw [hH]; exact trivial) (.inl rfl) (fun b' u hb hu => (Heap.get?_update_other s.heap (Obj.mapSeq f) (Ne.symm hb)).trans hu) ⟨_, q⟩ ?_
  exact ⟨hz, its', _, hv, q⟩
theorem Inv.lnew {its : List Value} {t' : Nat} (I : Inv X pins σ H s) (hv : Vals ys its) (hz : ys.length <= sizeLine) :
    Inv X pins σ (upd H s.heap.objs.size (.lst ys)) { s with heap := s.heap.push { cls := .type "list", data := .seq its.toArray }, toks := t' } :=
  I.laid (fun _ _ q => Heap.get?_push_of_some _ q) (Nat.le_refl _) ⟨hz, its, 0, hv, Heap.get?_push_size _ rfl⟩
theorem Inv.fresh (I : Inv X pins σ H s) : H s.heap.objs.size = none := I.hok.fresh (Nat.le_refl _)
theorem Inv.lstM (I : Inv X pins σ H s) (hH : H l = some (.lst xs)) : xs.length <= sizeLine /\ ∃ (its : List Value) (n : Nat), Vals xs its /\ xs.length = its.length /\ s.heap.get? l = some { cls := .type "list", data := .seq its.toArray n } := by
  obtain ⟨z, its, n, r, e⟩ := I.hok l _ hH
  exact ⟨z, its, n, r, r.length, e⟩
end
section
variable {X : Cx}
def rAppend : V -> List V -> Hp -> VK -> Prop := fun x vs H Q => ∃ l xs y, x = .ref l /\ vs = [y] /\ H l = some (.lst xs) /\ xs.length < sizeLine /\ Q .non (upd H l (.lst (xs ++ [y])))
theorem mt_append : MtM X "list.append" rAppend := by
  intro pins s σ H x vs v us Q I rx rv h
  obtain ⟨l, xs, y, rfl, rfl, hH, hz, q⟩ := h
  cases rx
  obtain ⟨u, rfl, ru⟩ := rv.one
  obtain ⟨z, its, n, r, hl, e⟩ := I.lstM hH
  refine call_meets F.slot_list_append ⟨_, e, rfl⟩ F.entry_list_append (F.args_list_append_2 _ _) (PySem.list_append l its.toArray n u (by rw [List.size_toArray]; omega)) ⟨e, ?_⟩
  refine ⟨.non, _, I.lset (its' := its ++ [u]) hH e (by simp) (r.append (.cons ru .nil)) ?_, rfl, q⟩
  rw [List.length_append, List.length_singleton]
  omega
def rCat : R2 := fun x y H Q => ∃ l b xs zs, x = .ref l /\ y = .ref b /\ H l = some (.lst xs) /\ H b = some (.lst zs) /\ xs.length + zs.length <= sizeLine /\ ∀ p, H p = none -> Q (.ref p) (upd H p (.lst (xs ++ zs)))
theorem op_cat : OpR X (binaryOp .Add) rCat := by
  intro pins s σ H x y v u Q I rx ry h
  obtain ⟨l, b, xs, zs, rfl, rfl, hH, hB, hz, q⟩ := h
  cases rx
  cases ry
  obtain ⟨z, its, n, r, hl, e⟩ := I.lstM hH
  obtain ⟨z2, its2, n2, r2, hl2, e2⟩ := I.lstM hB
  refine PySem.P.add_list e e2 ?_ (by rw [List.size_toArray, List.size_toArray]; omega)
  have ea : its.toArray ++ its2.toArray = (its ++ its2).toArray := by simp
  rw [ea]
  exact ⟨.ref _, _, I.lnew (t' := s.toks) (r.append r2) (by rw [List.length_append]; omega), rfl, q _ I.fresh⟩
end
section
variable {prog : Program} {w : World} {A : Around} {E : Value -> Shared -> Prop} {s : Shared}
end
section
variable {X : Cx}
end
end L2
namespace Att
open PySem PySem.W PySem.Calls PyProof.Rows
theorem ints_of_wellAll {P : Params} {h : Heap} : ∀ (ns : List Int) (vs : List Value), WellAll P h vs (ns.map WData.int) -> IntsAre vs ns := by
  intro ns
  induction ns with
  | nil =>
    intro vs w
    rw [List.map_nil] at w
    cases w
    exact .nil
  | cons n ns ih =>
    intro vs w
    rw [List.map_cons] at w
    cases w with
    | cons a b =>
      cases a
      exact .cons _ _ (ih _ b)
theorem script_of {l : OpenLaw} {n : Nat} (hn : l.most = some n) {P : Params} {h : Heap} {args : List WData} {vals : List Value}
    (hpre : l.row.toRowW.claim.pre args = true) (hwl : WellAll P h vals args) :
    ∃ a vs ns, vals = [Value.ref a] /\ args = [WData.list (ns.map WData.int)] /\ h.get? a = some { cls := .type "list", data := .seq vs.toArray } /\ IntsAre vs ns /\ ns.length <= n := by
  have hsh : WShape.hasAll [] args [.list .int] = true := (pre_splitW hpre).1
  have hc : l.pre.holds [] { args := args } = true := (pre_splitW hpre).2
  obtain ⟨d, r, rfl, h1, h2⟩ := hasAllW_cons hsh
  obtain rfl := hasAllW_nil h2
  obtain ⟨xs, rfl, h3⟩ := hasW_list h1
  obtain ⟨ns, rfl⟩ := items_int h3
  have hlen : ns.length <= n := by
    unfold OpenLaw.pre at hc
    have h4 : (WTm.not (.lt (.lit (.int (n : Int))) (.len (.arg 0)))).holds [] { args := [.list (ns.map .int)] } = true := by
      have h4 := (holds_andW hc).1
      rw [hn] at h4
      exact h4
    have h5 := condW_of h4 (w_not (w_lt w_lit (w_len_list (w_arg rfl))))
    rw [List.length_map] at h5
    refine Nat.le_of_not_lt fun q => ?_
    have q' : (n : Int) < ((ns.length : Nat) : Int) := by omega
    first
      | (rw [decide_eq_true q'] at h5; exact absurd h5 (by decide))
      | (simp at h5; omega)
  cases hwl with
  | cons w1 w2 =>
    cases w2
    cases w1 with
    | list ho hall => exact ⟨_, _, ns, rfl, rfl, ho, ints_of_wellAll ns _ hall, hlen⟩
theorem post_true (l : OpenLaw) (args : List WData) : l.row.toRowW.claim.post args (.bool true) args = true :=
  postW_of (r := l.row.toRowW) (X := (true == true))
    (show WShape.has [] (.bool true) .bool = true by first | rfl | decide | simp [WShape.has, WShape.arms, WShape.armsAll])
    (show (WTm.eq .res (.lit (.bool true))).value [] { args := args, res := some (.bool true), after := args } = some (.bool (true == true)) from w_eq_bool (w_res rfl) w_lit) rfl
theorem attach_call {l : OpenLaw} {n : Nat} {q : Program} {loose : List Str} {XP : (Str -> Option Value) -> Heap -> Prop} {YP : World -> Heap -> Prop} {d : DefRec}
    (hn : l.most = some n) (hdf : d.params.defaults = [])
    (call : ∀ (w : World) (s₀ s₁ : Shared) (mg mb : Str -> Option Value) (fa : Addr) (o : Obj) (pm cd doc : Value) (a : Addr) (vs : List Value) (ns : List Int),
      Ground q loose [] XP w s₀ mg mb s₁.heap -> YP w s₁.heap →
      s₁.heap.get? fa = some o -> o.data = .func (docDef d.name d.params d.body d.scope pm cd doc) -> s₁.heap.CodeRec cd d.name -> mg d.name = some (.ref fa) →
      s₁.heap.get? a = some { cls := .type "list", data := .seq vs.toArray } -> IntsAre vs ns -> ns.length <= n -> s₁.gens = #[] →
      codeAny (model l.prog w) callerA (.call (.ref fa) ⟨[.ref a], []⟩) (fun r s' => r = .ok (.ret (.bool true)) /\ OldK s₁.heap s'.heap /\ s'.os = s₁.os /\ AllBare s'.gens) s₁) :
    WalkO q loose XP YP l.row.toRowW d [] (fun f vs => PySem.call f vs) := by
  intro w s₀ s₁ mg mb G Y fa o pm cd doc dV kV ho hd hcd hD hmg hg args vals as hpre hlay hrd hwl hlo
  obtain rfl : dV = .none := Dflts.none hD hdf
  obtain rfl : kV = .none := Dflts.noKw hD
  obtain ⟨a, vs, ns, rfl, rfl, hobj, hints, hlen⟩ := script_of hn hpre hwl
  refine enter_call (codeAny_mono (call w s₀ s₁ mg mb fa o pm cd doc a vs ns G Y ho (fd_plain hd) hcd hmg hobj hints hlen hg) fun r s' hq => ?_)
  obtain ⟨rfl, h2, h3, h4⟩ := hq
  exact ⟨.inl ⟨.bool true, .bool true, [], rfl, fun _ => rfl, .bool true, post_true l _, fun _ => ⟨List.Pairwise.nil, fun _ hm => (nomatch hm)⟩⟩, h2, h3, h4⟩
section
variable {prog : Program} {w : World} {A : Around} {E : Value -> Shared -> Prop} {s : Shared} {K : Frag}
end
end Att
namespace L2
open PySem PySem.Spec PyProof.Rows
theorem vals_ints : ∀ {vs : List Value} {ns : List Int}, IntsAre vs ns -> Vals (ns.map V.int) vs
  | _, _, .nil => .nil
  | _, _, .cons n t h => .cons ⟨t, rfl⟩ (vals_ints h)
def Only (H : Hp) : Prop := ∀ b, H b = none \/ ∃ o xs, H b = some (.frz o (.lst xs))
theorem law_call {P : Program} {w : World} {K : W.Frag} {mg mb : Str -> Option Value} {CX : CXT} {k : Nat} {fa a : Addr} {fd : FuncData} {x : Str} {sp : Sp} {s₁ : Shared} {vs : List Value} {ns : List Int}
    (KX : K.In s₁.heap) (hns : s₁.heap.Ns mainGlobals mg) (hb : s₁.heap.Ns builtinsNs mb) (hbb : ∀ x : Str, x ≠ "__name__" -> mb x = bootBuiltins x) (hlim : s₁.heap.NoLimit) (hg : s₁.gens = #[])
    (ha : s₁.heap.get? a = some { cls := .type "list", data := .seq vs.toArray }) (hi : IntsAre vs ns) (hl : ns.length <= sizeLine) (hr : Room k callerA)
    (F : ∀ base : Heap, K.In base -> base.Ns mainGlobals mg -> FnOk P w K mg base CX k fa fd [x] sp) (hbind : ∀ (s : Shared) (u : Value), BindsTo s fd ⟨[u], []⟩ [(x, u)])
    (hsp : ∀ H : Hp, Only H -> SqL K H a (ns.map V.int) -> sp [.ref a] H (fun v _ => v = .bl true) fun _ _ _ => False)
    (hCX : ∀ H e s', CX [] H s₁ (fun _ _ _ => False) e s' -> False) :
    codeAny (model P w) callerA (.call (.ref fa) ⟨[.ref a], []⟩) (fun r s' => r = .ok (.ret (.bool true)) /\ OldK s₁.heap s'.heap /\ s'.os = s₁.os /\ AllBare s'.gens) s₁ := by
  have rv := vals_ints hi
  have lenV := hi.length
  -- from an abstract heap in which nothing but the script may be tracked
  have core : ∀ H : Hp, Only H -> SqL K H a (ns.map V.int) -> HOk P w H s₁.heap -> (∀ b, H b ≠ none -> b = a) -> (H a ≠ none -> K.lookup a = none) →
      codeAny (model P w) callerA (.call (.ref fa) ⟨[.ref a], []⟩) (fun r s' => r = .ok (.ret (.bool true)) /\ OldK s₁.heap s'.heap /\ s'.os = s₁.os /\ AllBare s'.gens) s₁ := by
    intro H hO hS hok hA hK
    have base_of : ∀ {b : Addr} {o : Obj}, s₁.heap.get? b = some o -> H b = none -> (hidT s₁.heap H).get? b = some o := fun e n => hidT_get e n
    have noA : ∀ {b : Addr} {o : Obj} {es : Array DictEntry} {ep : Nat}, s₁.heap.get? b = some o -> o.data = .dict es ep -> H b = none := fun {b o es ep} e d => by
      cases q : H b with
      | none => rfl
      | some u =>
        have e' : b = a := hA b (by rw [q]; simp)
        subst e'
        rw [ha] at e; cases e
        have d' : Data.seq vs.toArray _ = Data.dict es ep := d
        cases d'
    have nsK : ∀ {b : Addr} {m : Str -> Option Value}, s₁.heap.Ns b m -> (hidT s₁.heap H).Ns b m := fun {b m} ⟨o, es, ep, e, d, r⟩ => ⟨o, es, ep, base_of e (noA e d), d, r⟩
    have hKb : K.In (hidT s₁.heap H) := fun b o e => base_of (KX b o e) (by
      cases q : H b with
      | none => rfl
      | some u =>
        have e' : b = a := hA b (by rw [q]; simp)
        subst e'
        rw [hK (by rw [q]; simp)] at e; cases e)
    have hM : Mod K mg (hidT s₁.heap H) := ⟨hKb, nsK hns, ⟨mb, nsK hb, hbb⟩, let ⟨mc, h1, h2⟩ := hlim; ⟨mc, nsK h1, h2⟩⟩
    have e0 : Env0 P w K mg (hidT s₁.heap H) callerA [] s₁ H := ⟨rfl, hM, fun b o e => of_hidT e, Nat.le_of_eq (hidT_size _ _), trivial, fun b hb => absurd (show b ∈ ([] : List Addr) from hb) (by simp), hok, .of_eq hg⟩
    refine codeAny_mono ((F _ hKb (nsK hns)).run callerA [] s₁ H ⟨[.ref a], []⟩ [.ref a] [.ref a] _ _ hr e0 (hbind s₁ (.ref a)) (.cons rfl .nil) (hsp H hO hS)) fun r s' h => ?_
    cases r with
    | error e => exact (hCX H e s' h).elim
    | ok fl =>
      cases fl with
      | next => exact False.elim h
      | brk => exact False.elim h
      | cont => exact False.elim h
      | ret u =>
        obtain ⟨v, H', os, bare, un, hok', r', q⟩ := h
        have q' : v = .bl true := q
        subst q'
        obtain rfl : u = Value.bool true := r'
        refine ⟨rfl, OldK.of_keep fun b o e => ?_, os, bare⟩
        cases q : H b with
        | none => exact un.keep b o e q (by intro z; exact absurd (show b ∈ ([] : List Addr) from z) (by simp)) (by simp)
        | some u =>
          rcases hO b with z | ⟨ob, xs, z⟩
          . rw [q] at z; cases z
          . have z2 := un.frzs b ob _ z
            obtain ⟨e1, _⟩ := hok b _ z
            obtain ⟨e2, _⟩ := hok' b _ z2
            rw [e] at e1; cases e1
            exact e2
  cases hk : K.lookup a with
  | some o =>
    -- the script is one of the module's own objects
    have e := KX a o hk
    rw [ha] at e
    cases e
    refine core (fun _ => none) (fun _ => .inl rfl) (.inr ⟨_, vs.toArray, _, hk, rfl, rfl, rfl, by rw [List.size_toArray, lenV]; exact hl, by simpa using rv⟩) (fun b u z => by have z' : (none : Option HO) = some u := z; cases z') (fun b z => absurd rfl z) fun z => absurd rfl z
  | none =>
    refine core (fun b => if b = a then some (.frz { cls := .type "list", data := .seq vs.toArray } (.lst (ns.map V.int))) else none) (fun b => ?_) (.inl (.inr ⟨{ cls := .type "list", data := .seq vs.toArray }, if_pos rfl⟩)) (fun b u z => ?_) (fun b z => ?_) fun _ => hk
    . by_cases hb : b = a
      . exact .inr ⟨_, _, if_pos hb⟩
      . exact .inl (if_neg hb)
    . by_cases hb : b = a
      . have z' := (if_pos hb).symm.trans z
        cases z'
        subst hb
        exact ⟨ha, by rw [List.length_map]; exact hl, vs, _, rv, ha⟩
      . have z' := (if_neg hb).symm.trans z
        cases z'
    . by_cases hb : b = a
      . exact hb
      . exact absurd (if_neg hb) z
end L2
namespace L2
open PySem PySem.Spec PyProof.Rows
theorem walk_of {l : W.OpenLaw} {n k : Nat} {q : Program} {loose : List Str} {XP : (Str -> Option Value) -> Heap -> Prop} {YP : World -> Heap -> Prop} {d : DefRec} {K : Params -> W.Frag} {CX : World -> CXT} {sp : World -> Sp} {x : Str}
    (hn : l.most = some n) (hn2 : n <= sizeLine) (hdf : d.params.defaults = []) (hr : Room k callerA)
    (hY : ∀ (w : World) (h : Heap), YP w h -> (K w.params).In h)
    (F : ∀ (w : World) (mg : Str -> Option Value) (fa : Addr) (h : Heap), (K w.params).In h -> h.Ns mainGlobals mg -> mg d.name = some (.ref fa) →
      ∃ fd : FuncData, (∀ (s : Shared) (u : Value), BindsTo s fd ⟨[u], []⟩ [(x, u)]) ∧
        ∀ base : Heap, (K w.params).In base -> base.Ns mainGlobals mg -> FnOk l.prog w (K w.params) mg base (CX w) k fa fd [x] (sp w))
    (hsp : ∀ (w : World) (H : Hp) (a : Addr) (ns : List Int), ns.length <= n -> Only H -> SqL (K w.params) H a (ns.map V.int) -> sp w [.ref a] H (fun v _ => v = .bl true) fun _ _ _ => False)
    (hCX : ∀ (w : World) (H : Hp) (s : Shared) (e : Value) (s' : Shared), CX w [] H s (fun _ _ _ => False) e s' -> False) :
    W.WalkO q loose XP YP l.row.toRowW d [] (fun f vs => PySem.call f vs) := by
  refine Att.attach_call hn hdf fun w s₀ s₁ mg mb fa o pm cd doc a vs ns G Y ho hd hcd hmg hobj hints hlen hg => ?_
  have KX := hY w _ Y
  obtain ⟨fd, hb, hF⟩ := F w mg fa _ KX G.T.g hmg
  exact law_call KX G.T.g G.T.b G.T.builtins G.T.nolimit hg hobj hints (Nat.le_trans hlen hn2) hr hF hb (fun H hO hS => hsp w H a ns hlen hO hS) fun H e s' => hCX w H s₁ e s'
end L2
namespace L2
open PySem PySem.Spec PyProof.Rows
def defArgs (s : Stmt) : Arguments := match s with
  | .FunctionDef _ a _ _ _ _ _ _ _ _ => a
  | _ => { posonlyargs := [], args := [], vararg := none, kwonlyargs := [], kw_defaults := [], kwarg := none, defaults := [] }
def defBody (s : Stmt) : List Stmt := match s with
  | .FunctionDef _ _ b _ _ _ _ _ _ _ => b
  | _ => []
def defScope (s : Stmt) : Scope := match s with
  | .FunctionDef _ _ _ _ _ _ sc _ _ _ => sc
  | _ => { kind := .function, names := [], isGenerator := false, isCoroutine := false }
abbrev CX0 : CXT := fun _ _ _ _ _ _ => False
abbrev E0 : XK := fun _ _ _ => False
theorem pass0 {X : Cx} : Passes CX0 X E0 := fun _ _ _ _ _ _ _ h => h.elim
structure Fun (K : W.Frag) (x qual : Str) (st : Stmt) (f : Addr) (fd : FuncData) : Prop where
  ex : ∃ (oc : Value) (od : Option Addr) (kV doc pm : Value) (an : Option Addr) (cdv ct : Value) (osl : Array (Option Value)),
    fd = W.fnOf x qual (defArgs st) (defBody st) (defScope st) .none kV doc pm an cdv ct /\ K.lookup f = some ⟨oc, od, .func fd, osl⟩ /\ W.codeIn K cdv qual = true
  kp : W.keepIn K (.ref f) = true
section
variable {P : Program} {w : World} {K : W.Frag} {mg : Str -> Option Value} {base : Heap}
theorem Fun.ok {x qual : Str} {st : Stmt} {f : Addr} {fd : FuncData} {N ps : List Str} {k : Nat} {sp : Sp} (F : Fun K x qual st f fd) (S : FnScope N ps (defScope st)) (len : ∀ vs H Q E, sp vs H Q E -> vs.length = ps.length)
    (hbody : ∀ (cdv : Value) (A : Around) (outer : List Env) (s : Shared) (H : Hp) (vs : List V) (Q : VK) (E : XK), Room k (A.deeper (envOfC qual (defScope st) s.heap.objs.size f cdv)) -> sp vs H Q E →
      ∃ t, PSs (cxOf CX0 P w K mg base N qual (defScope st) f cdv A outer s H E).nox (defBody st) t /\ t { nx := fun _ H' => Q .non H', rt := Q } (start N vs) H) : FnOk P w K mg base CX0 (k + 1) f fd ps sp := by
  obtain ⟨oc, od, kV, doc, pm, an, cdv, ct, osl, rfl, lk, hcd⟩ := F.ex
  refine fn_of lk hcd S len fun A outer s H vs Q E hr hsp => ?_
  obtain ⟨t, h, q⟩ := hbody cdv A outer s H vs Q E hr hsp
  exact ⟨t, h.nox, q⟩
theorem Fun.binds {x qual : Str} {st : Stmt} {f : Addr} {fd : FuncData} {ps : List Str} (F : Fun K x qual st f fd)
    (h : ∀ (kV doc pm : Value) (an : Option Addr) (cdv ct : Value) (us : List Value), us.length = ps.length -> bindArgs (W.fnOf x qual (defArgs st) (defBody st) (defScope st) .none kV doc pm an cdv ct) ⟨us, []⟩ = pure (ps.zip us)) : Binds K fd ps [] := by
  obtain ⟨oc, od, kV, doc, pm, an, cdv, ct, osl, rfl, lk, hcd⟩ := F.ex
  exact .all (h kV doc pm an cdv ct)
theorem fun_mk {x qual : Str} {st : Stmt} {f : Addr} {oc : Value} {od an : Option Addr} {osl : Array (Option Value)} {kV doc pm cdv ct : Value} (l : K.lookup f = some ⟨oc, od, .func (W.fnOf x qual (defArgs st) (defBody st) (defScope st) .none kV doc pm an cdv ct), osl⟩)
    (c : W.codeIn K cdv qual = true) (k : W.keepIn K (.ref f) = true) : Fun K x qual st f (W.fnOf x qual (defArgs st) (defBody st) (defScope st) .none kV doc pm an cdv ct) := ⟨⟨oc, od, kV, doc, pm, an, cdv, ct, osl, rfl, l, c⟩, k⟩
end
theorem small1000 {n : Nat} (h : n <= 1000) : n < sizeLine := Nat.lt_of_le_of_lt h (by decide)
section
variable {X : Cx}
theorem pv (i : Nat) {x : Str} {pos : Pos} (hN : X.N[i]? = some x := by rfl) (hv : Vis X.env.scope x := by first | exact Or.inl rfl | exact Or.inr (Or.inl rfl) | exact Or.inr (Or.inr rfl)) (hd : (x == ("__debug__" : Str)) = false := by decide)
    (hcd : (x == ("__classdict__" : Str)) = false := by decide) : PE X (.Name x pos) (tVar i) := pe_var hN hv hd hcd
end
theorem iteF {A B : Prop} (h : B) : if false = true then A else B := by
  rw [if_neg Bool.false_ne_true]
  exact h
theorem iteT {A B : Prop} (h : A) : if true = true then A else B := by
  rw [if_pos rfl]
  exact h
theorem ite2 {c A B : Prop} [Decidable c] (h1 : c -> A) (h2 : ¬ c -> B) : if c then A else B := by
  by_cases h : c
  . rw [if_pos h]
    exact h1 h
  . rw [if_neg h]
    exact h2 h
theorem iteNS {c A B : Prop} [Decidable c] (hc : c) (h : B) : if (!decide c) = true then A else B := by
  rw [decide_eq_true hc]
  exact iteF h
def Same (H H' : Hp) : Prop := ∀ b o, H b = some o -> H' b = some o
theorem Same.refl (H : Hp) : Same H H := fun _ _ h => h
theorem Same.trans {H H1 H2 : Hp} (a : Same H H1) (b : Same H1 H2) : Same H H2 := fun c o h => b c o (a c o h)
theorem Same.free {H H' : Hp} (e : Same H H') {l : Addr} (h : H' l = Option.none) : H l = Option.none := by
  cases q : H l with
  | none => rfl
  | some o =>
    rw [e l o q] at h
    cases h
theorem Same.seq {K : W.Frag} {H H' : Hp} {a : Addr} {xs : List V} (e : Same H H') (h : SqL K H a xs) : SqL K H' a xs := by
  rcases h with (h | ⟨o, h⟩) | h
  . exact .inl (.inl (e _ _ h))
  . exact .inl (.inr ⟨o, e _ _ h⟩)
  . exact .inr h
end L2
namespace L2
open PySem PySem.Spec PyProof.Rows
def clo (env : Env) : List (Str × NameKind) -> List (Str × Addr) -> List (Str × Addr)
  | [], cs => cs
  | (n, k) :: r, cs => if k == .free then (match env.cells.lookup n with | some a => clo env r ((n, a) :: cs) | none => clo env r cs) else clo env r cs
theorem closureFor_clo {scope : Scope} {env : Env} (h : ∀ n, (n, NameKind.free) ∈ scope.names -> ∃ c, env.cells.lookup n = some c) : closureFor scope env = pure (clo env scope.names []) := by
  simp only [closureFor]
  generalize ([] : List (Str × Addr)) = cs
  revert h
  generalize scope.names = l
  intro h
  induction l generalizing cs with
  | nil => rfl
  | cons x r ih =>
    obtain ⟨n, k⟩ := x
    have hr : ∀ n, (n, NameKind.free) ∈ r -> ∃ c, env.cells.lookup n = some c := fun n hn => h n (List.mem_cons_of_mem _ hn)
    by_cases hk : k = .free
    . subst hk
      obtain ⟨c, hc⟩ := h n List.mem_cons_self
      have q := ih ((n, c) :: cs) hr
      simp only [List.forIn_cons, clo, hc, beq_self_eq_true, if_true, cellOf]
      exact q
    . have hb : (k == NameKind.free) = false := by simpa using hk
      have q := ih cs hr
      simp only [List.forIn_cons, clo, hb, Bool.false_eq_true, if_false]
      exact q
theorem clo_sub {env : Env} {x : Str} {c : Addr} : ∀ {l : List (Str × NameKind)} {cs : List (Str × Addr)}, (∀ x c, cs.lookup x = some c -> env.cells.lookup x = some c) -> (clo env l cs).lookup x = some c -> env.cells.lookup x = some c
  | [], _, h, e => h x c e
  | (n, k) :: r, cs, h, e => by
    unfold clo at e
    by_cases hk : (k == NameKind.free) = true
    . rw [if_pos hk] at e
      cases q : env.cells.lookup n with
      | none => rw [q] at e; exact clo_sub h e
      | some a =>
        rw [q] at e
        refine clo_sub (cs := (n, a) :: cs) (fun y d z => ?_) e
        rw [List.lookup_cons] at z
        cases hy : y == n with
        | true =>
          rw [hy] at z
          have : y = n := by simpa using hy
          subst this
          rw [q]; exact z
        | false => rw [hy] at z; exact h y d z
    . rw [if_neg hk] at e
      exact clo_sub h e
theorem clo_mem {env : Env} {x : Str} {c : Addr} : ∀ {l : List (Str × NameKind)} {cs : List (Str × Addr)}, (x, c) ∈ clo env l cs -> (env.cells.lookup x = some c /\ (x, NameKind.free) ∈ l) \/ (x, c) ∈ cs
  | [], _, e => .inr e
  | (n, k) :: r, cs, e => by
    unfold clo at e
    by_cases hk : (k == NameKind.free) = true
    . rw [if_pos hk] at e
      have hk' : k = .free := by simpa using hk
      cases q : env.cells.lookup n with
      | none =>
        rw [q] at e
        exact (clo_mem e).imp (fun z => ⟨z.1, List.mem_cons_of_mem _ z.2⟩) id
      | some a =>
        rw [q] at e
        rcases clo_mem (cs := (n, a) :: cs) e with z | z
        . exact .inl ⟨z.1, List.mem_cons_of_mem _ z.2⟩
        . rcases List.mem_cons.mp z with z | z
          . cases z
            exact .inl ⟨q, by rw [hk']; exact List.mem_cons_self⟩
          . exact .inr z
    . rw [if_neg hk] at e
      exact (clo_mem e).imp (fun z => ⟨z.1, List.mem_cons_of_mem _ z.2⟩) id
theorem cellsFrom_append : ∀ (names : List (Str × NameKind)) (n : Nat) (acc : List (Str × Addr)), cellsFrom n names acc = cellsFrom n names [] ++ acc
  | [], _, _ => rfl
  | (x, k) :: r, n, acc => by
    unfold cellsFrom
    split
    . rw [cellsFrom_append r (n + 1) ((x, n) :: acc), cellsFrom_append r (n + 1) [(x, n)], List.append_assoc]; rfl
    . exact cellsFrom_append r n acc
theorem cellsFrom_name {x : Str} {c : Addr} : ∀ {names : List (Str × NameKind)} {n : Nat}, (x, c) ∈ cellsFrom n names [] -> (x, NameKind.cell) ∈ names
  | [], _, e => by cases e
  | (y, k) :: r, n, e => by
    unfold cellsFrom at e
    by_cases hk : (k == NameKind.cell) = true
    . rw [if_pos hk, cellsFrom_append] at e
      have hk' : k = .cell := by simpa using hk
      rcases List.mem_append.mp e with z | z
      . exact List.mem_cons_of_mem _ (cellsFrom_name z)
      . rw [List.mem_singleton] at z
        cases z
        rw [hk']; exact List.mem_cons_self
    . rw [if_neg hk] at e
      exact List.mem_cons_of_mem _ (cellsFrom_name e)
theorem cellsFrom_has {x : Str} : ∀ {names : List (Str × NameKind)} {n : Nat}, (x, NameKind.cell) ∈ names -> ∃ c, (x, c) ∈ cellsFrom n names []
  | (y, k) :: r, n, e => by
    unfold cellsFrom
    rcases List.mem_cons.mp e with z | z
    . cases z
      rw [if_pos (by rfl), cellsFrom_append]
      exact ⟨n, List.mem_append_right _ List.mem_cons_self⟩
    . split
      . rw [cellsFrom_append]
        obtain ⟨c, hc⟩ := cellsFrom_has (n := n + 1) z
        exact ⟨c, List.mem_append_left _ hc⟩
      . exact cellsFrom_has z
theorem lookup_app {α : Type} {x : Str} : ∀ {l₁ l₂ : List (Str × α)}, (l₁ ++ l₂).lookup x = match l₁.lookup x with | some c => some c | none => l₂.lookup x
  | [], _ => rfl
  | (n, c) :: r, l₂ => by
    rw [List.cons_append, List.lookup_cons, List.lookup_cons]
    cases hx : x == n with
    | true => rfl
    | false => exact lookup_app (l₁ := r)
theorem lookup_of_mem {α : Type} {x : Str} {c : α} : ∀ {l : List (Str × α)}, (x, c) ∈ l -> ∃ c', l.lookup x = some c'
  | (n, d) :: r, h => by
    rw [List.lookup_cons]
    cases hx : x == n with
    | true => exact ⟨d, rfl⟩
    | false =>
      rcases List.mem_cons.mp h with z | z
      . cases z; simp at hx
      . exact lookup_of_mem z
theorem clo_keeps {env : Env} {x : Str} : ∀ {l : List (Str × NameKind)} {cs : List (Str × Addr)}, (∃ c, cs.lookup x = some c) -> ∃ c, (clo env l cs).lookup x = some c
  | [], _, h => h
  | (n, k) :: r, cs, h => by
    unfold clo
    split
    . split
      . refine clo_keeps ?_
        rw [List.lookup_cons]
        cases hy : x == n with
        | true => exact ⟨_, rfl⟩
        | false => exact h
      . exact clo_keeps h
    . exact clo_keeps h
theorem clo_has {env : Env} {x : Str} (hx : ∃ c, env.cells.lookup x = some c) : ∀ {l : List (Str × NameKind)} {cs : List (Str × Addr)}, (x, NameKind.free) ∈ l -> ∃ c, (clo env l cs).lookup x = some c
  | (n, k) :: r, cs, h => by
    rcases List.mem_cons.mp h with e | e
    . cases e
      obtain ⟨c, hc⟩ := hx
      unfold clo
      rw [if_pos (by rfl), hc]
      refine clo_keeps ⟨c, ?_⟩
      simp [List.lookup_cons]
    . unfold clo
      split
      . split
        . exact clo_has hx e
        . exact clo_has hx e
      . exact clo_has hx e
def bcells (env : Env) (scope : Scope) (C : Addr) : List (Str × Addr) := cellsFrom (C + 1) scope.names (clo env scope.names [])
theorem bcells_cases {env : Env} {scope : Scope} {C : Addr} {x : Str} {c : Addr} (h : (bcells env scope C).lookup x = some c) :
    ((x, c) ∈ cellsFrom (C + 1) scope.names [] /\ (x, NameKind.cell) ∈ scope.names) \/ (env.cells.lookup x = some c /\ (x, NameKind.free) ∈ scope.names) := by
  have m := mem_of_lookup h
  unfold bcells at m
  rw [cellsFrom_append] at m
  rcases List.mem_append.mp m with z | z
  . exact .inl ⟨z, cellsFrom_name z⟩
  . rcases clo_mem z with y | y
    . exact .inr y
    . cases y
theorem bcells_free {env : Env} {scope : Scope} {C : Addr} {x : Str} (hx : ∃ c, env.cells.lookup x = some c) (hf : (x, NameKind.free) ∈ scope.names) (hn : (x, NameKind.cell) ∉ scope.names) : (bcells env scope C).lookup x = env.cells.lookup x := by
  obtain ⟨c, hc⟩ := clo_has (env := env) (cs := []) hx hf
  have hc' := clo_sub (env := env) (fun _ _ z => by simp at z) hc
  unfold bcells
  rw [cellsFrom_append, lookup_app]
  cases q : (cellsFrom (C + 1) scope.names []).lookup x with
  | some d => exact absurd (cellsFrom_name (mem_of_lookup q)) hn
  | none => rw [hc', <- hc]
def blk (X : Cx) (os : List Str) (fr : List Nat) (scope : Scope) (C : Addr) (fp : List Addr) (s₀ : Shared) (H₀ : Hp) : Cx :=
  { X with N := os ++ fr.map (fun j => X.N.getD j ""), s₀ := s₀, H₀ := H₀, env := compEnvC scope (bcells X.env scope C) C X.env, outer := X.stack, ex := fp, fn := fun x => scope.names.lookup x == some .cell, pn := [], xe := fun _ _ => False }
def frv (fr : List Nat) (σ : St) : St := fr.map fun j => (σ[j]?).join
def blkσ (n : Nat) (fr : List Nat) (σ : St) : St := List.replicate n none ++ frv fr σ
def Wk (σ0 σ2 : St) : Prop := σ2.length = σ0.length /\ ∀ (i : Nat) v, σ0[i]? = some (some v) -> σ2[i]? = some (some v)
def lcOk (outer : Scope) (scope : Scope) (N : List Str) (fr : List Nat) : Bool :=
  (scope.names.all fun p => (scope.names.lookup p.1 == some p.2) && (p.2 != .free || outer.names.lookup p.1 == some .cell)) &&
  (fr.all fun j => decide (j < N.length) && (outer.names.lookup (N.getD j "") == some .cell) && (scope.names.lookup (N.getD j "") == some .free))
theorem lookup_mem {x : Str} {k : NameKind} : ∀ {l : List (Str × NameKind)}, l.lookup x = some k -> (x, k) ∈ l
  | (n, j) :: r, h => by
    rw [List.lookup_cons] at h
    cases hx : x == n with
    | true =>
      rw [hx] at h
      have : x = n := by simpa using hx
      subst this
      cases h
      exact List.mem_cons_self
    | false => rw [hx] at h; exact List.mem_cons_of_mem _ (lookup_mem h)
theorem relabel_back {env : Env} {x : Str} {k : NameKind} : ∀ {names : List (Str × NameKind)},
    (names.map fun (n, k) => if (k == NameKind.free && env.scope.kind == .function && env.kindOf n == some .cell) then (n, NameKind.cell) else (n, k)).lookup x = some k →
    (x, k) ∈ names \/ (x, NameKind.free) ∈ names
  | [], h => by simp at h
  | (n, j) :: r, h => by
    rw [List.map_cons] at h
    dsimp only at h
    by_cases hc : (j == NameKind.free && env.scope.kind == .function && env.kindOf n == some .cell) = true
    . rw [if_pos hc, List.lookup_cons] at h
      have hj : j = .free := by
        have := (Bool.and_eq_true _ _ ▸ (Bool.and_eq_true _ _ ▸ hc).1).1
        simpa using this
      cases hx : x == n with
      | true =>
        have : x = n := by simpa using hx
        subst this
        subst hj
        exact .inr List.mem_cons_self
      | false =>
        rw [hx] at h
        exact (relabel_back h).imp (List.mem_cons_of_mem _) (List.mem_cons_of_mem _)
    . rw [if_neg hc, List.lookup_cons] at h
      cases hx : x == n with
      | true =>
        rw [hx] at h
        have : x = n := by simpa using hx
        subst this
        cases h
        exact .inl List.mem_cons_self
      | false =>
        rw [hx] at h
        exact (relabel_back h).imp (List.mem_cons_of_mem _) (List.mem_cons_of_mem _)
section
variable {X : Cx} {os : List Str} {fr : List Nat} {scope : Scope}
theorem lc_names (h : lcOk X.env.scope scope X.N fr = true) : ∀ p ∈ scope.names, scope.names.lookup p.1 = some p.2 /\ (p.2 = .free -> X.env.scope.names.lookup p.1 = some .cell) := fun p hp => by
  have q := List.all_eq_true.mp (Bool.and_eq_true _ _ ▸ h).1 p hp
  simp only [Bool.and_eq_true, bne_iff_ne, Bool.or_eq_true, beq_iff_eq, ne_eq] at q
  refine ⟨q.1, fun e => ?_⟩
  rcases q.2 with z | z
  . exact absurd e z
  . exact z
theorem lc_one (h : lcOk X.env.scope scope X.N fr = true) {x : Str} {a b : NameKind} (ha : (x, a) ∈ scope.names) (hb : (x, b) ∈ scope.names) : a = b := by
  have h1 := (lc_names h _ ha).1
  have h2 := (lc_names h _ hb).1
  rw [h1] at h2
  exact Option.some.inj h2
theorem lc_fr (h : lcOk X.env.scope scope X.N fr = true) : ∀ j ∈ fr, j < X.N.length /\ X.env.scope.names.lookup (X.N.getD j "") = some .cell /\ scope.names.lookup (X.N.getD j "") = some .free := fun j hj => by
  have q := List.all_eq_true.mp (Bool.and_eq_true _ _ ▸ h).2 j hj
  simp only [Bool.and_eq_true, beq_iff_eq, decide_eq_true_eq] at q
  exact ⟨q.1.1, q.1.2, q.2⟩
theorem lc_clos {pins : List (Addr × Obj)} {σ : St} {H : Hp} {s : Shared} (I : Inv X pins σ H s) (h : lcOk X.env.scope scope X.N fr = true) : ∀ n, (n, NameKind.free) ∈ scope.names -> ∃ c, X.env.cells.lookup n = some c := fun n hn =>
  I.ok.has n (.inl ((lc_names h _ hn).2 rfl))
theorem Inv.block {pins : List (Addr × Obj)} {σ : St} {H : Hp} {s : Shared} {fp : List Addr} {h₁ : Heap} {t' : Nat} (I : Inv X pins σ H s) (hk : scope.kind = .function) (h : lcOk X.env.scope scope X.N fr = true)
    (hf : ∀ b ∈ fp, FpOk X pins H b) (ho : ∀ b ∈ fp, ∃ o, s.heap.get? b = some o) (hns : h₁.Ns s.heap.objs.size fun _ => none) (hkeep : ∀ b o, s.heap.get? b = some o -> h₁.get? b = some o)
    (hcl : CellsOk h₁ (s.heap.objs.size + 1) (cellsFrom (s.heap.objs.size + 1) scope.names [])) :
    Inv (blk X os fr scope s.heap.objs.size fp s H) [] (blkσ os.length fr σ) H { s with heap := h₁, toks := t' } where
  ok := {
    mod := I.ok.mod
    kind := hk
    glob := I.ok.glob
    blt := I.ok.blt
    above := Nat.le_refl _
    inj := fun x y c e1 e2 => by
      have old : ∀ {z : Str}, X.env.cells.lookup z = some c -> c < s.heap.objs.size := fun {z} e => by
        obtain ⟨v, q⟩ := I.cell z c e
        exact q.lt
      rcases bcells_cases e1 with z1 | z1 <;> rcases bcells_cases e2 with z2 | z2
      . exact name_of_addr hcl.apart z1.1 z2.1
      . exact absurd (Nat.lt_of_lt_of_le (Nat.lt_succ_of_lt (old z2.1)) (hcl.empty _ _ z1.1).2) (Nat.lt_irrefl _)
      . exact absurd (Nat.lt_of_lt_of_le (Nat.lt_succ_of_lt (old z1.1)) (hcl.empty _ _ z2.1).2) (Nat.lt_irrefl _)
      . exact I.ok.inj x y c z1.1 z2.1
    has := fun x hx => by
      have hm : (x, NameKind.cell) ∈ scope.names \/ (x, NameKind.free) ∈ scope.names := by
        rcases hx with e | e
        . exact relabel_back e
        . rcases relabel_back e with z | z
          . exact .inr z
          . exact .inr z
      rcases hm with z | z
      . obtain ⟨c, hc⟩ := cellsFrom_has (n := s.heap.objs.size + 1) z
        refine lookup_of_mem (c := c) ?_
        show (x, c) ∈ bcells _ _ _
        unfold bcells
        rw [cellsFrom_append]
        exact List.mem_append_left _ hc
      . obtain ⟨c, hc⟩ := lc_clos I h x z
        refine ⟨c, ?_⟩
        show (bcells _ _ _).lookup x = _
        rw [bcells_free ⟨c, hc⟩ z (fun w => by cases lc_one h z w)]
        exact hc
    cab := fun x c hx e => by
      have hx' : scope.names.lookup x = some .cell := by simpa using (show (scope.names.lookup x == some .cell) = true from hx)
      rcases bcells_cases e with z | z
      . exact Nat.le_of_lt (Nat.lt_of_succ_le (hcl.empty _ _ z.1).2)
      . cases lc_one h (lookup_mem hx') z.2
    hd := I.ok.hd
    frames := I.ok.frames
    stk := .inl rfl
    exf := fun b hb => by
      obtain ⟨o, e⟩ := ho b hb
      refine ⟨Nat.ne_of_lt (Heap.lt_size e), fun x c e1 => ?_⟩
      rcases bcells_cases e1 with z | z
      . intro w
        have := (hcl.empty _ _ z.1).2
        rw [w] at this
        exact absurd (Nat.lt_of_lt_of_le (Nat.lt_succ_of_lt (Heap.lt_size e)) this) (Nat.lt_irrefl _)
      . exact (hf b hb).2.2.2.2.1 x c z.1
    bs := I.bs
    bsz := Nat.le_trans I.ok.bsz I.sz
    noex := fun b o e hb => by
      rcases (hf b hb).2.2.2.1 with z | z
      . exact I.ok.noex b o e z
      . exact absurd (Nat.lt_of_lt_of_le (Heap.lt_size e) (Nat.le_trans I.ok.bsz z)) (Nat.lt_irrefl _)
    exfs := fun b hb hz => by
      rcases List.mem_cons.mp (I.stkSub b hz) with e | e
      . exact (hf b hb).2.1 e
      . exact (hf b hb).2.2.1 e
    funs := I.stack
    frf := I.stkFree }
  os := rfl
  bare := I.bare
  base := Un.kept hkeep
  loc := by
    refine ⟨_, hns, fun i x v e1 e2 _ => ?_⟩
    have hi : os.length <= i := by
      refine Nat.le_of_not_lt fun hlt => ?_
      unfold blkσ at e2
      rw [List.getElem?_append_left (by simpa using hlt)] at e2
      rw [List.getElem?_replicate] at e2
      split at e2 <;> cases e2
    have e1' : (fr.map fun j => X.N.getD j "")[i - os.length]? = some x := by
      rw [<- List.getElem?_append_right (l₁ := os) hi]; exact e1
    have e2' : (fr.map fun j => (σ[j]?).join)[i - os.length]? = some (some v) := by
      have z : (List.replicate os.length (none : Option V)).length <= i := by simpa using hi
      unfold blkσ at e2
      rw [List.getElem?_append_right z, List.length_replicate] at e2
      exact e2
    rw [List.getElem?_map] at e1' e2'
    cases q : fr[i - os.length]? with
    | none => rw [q] at e1'; cases e1'
    | some j =>
      rw [q] at e1' e2'
      have hj : j ∈ fr := List.mem_of_getElem? q
      obtain ⟨hjl, hjc, hjf⟩ := lc_fr h j hj
      have ex : X.N.getD j "" = x := Option.some.inj e1'
      have ev : (σ[j]?).join = some v := Option.some.inj e2'
      have hN : X.N[j]? = some x := by
        rw [<- ex, List.getD_eq_getElem?_getD, List.getElem?_eq_getElem hjl]; rfl
      have hσ : σ[j]? = some (some v) := by
        cases r : σ[j]? with
        | none => rw [r] at ev; cases ev
        | some y => rw [r] at ev; exact congrArg some ev
      rw [ex] at hjc hjf
      obtain ⟨m, _, hl⟩ := I.loc
      obtain ⟨u, r, lk⟩ := hl j x v hN hσ (.inr (.inl hjc))
      refine ⟨u, r, ?_⟩
      have kc : Env.kindOf X.env x = some .cell := hjc
      rcases lk with ⟨k1, _⟩ | ⟨_, c, ec, z⟩
      . rw [kc] at k1; cases k1
      . have hfm := lookup_mem hjf
        have ec' : (bcells X.env scope s.heap.objs.size).lookup x = some c := by
          rw [bcells_free ⟨c, ec⟩ hfm (fun w => by cases lc_one h hfm w)]; exact ec
        refine .inr ⟨?_, c, ec', ?_⟩
        . have kk : ∀ {names : List (Str × NameKind)}, names.lookup x = some .free -> (names.map fun (n, k) => if (k == NameKind.free && X.env.scope.kind == .function && X.env.kindOf n == some .cell) then (n, NameKind.cell) else (n, k)).lookup x = some .cell := by
            intro names
            induction names with
            | nil => intro e; simp at e
            | cons p r ih =>
              obtain ⟨n, k⟩ := p
              intro e
              rw [List.lookup_cons] at e
              rw [List.map_cons]
              dsimp only
              cases hx : x == n with
              | true =>
                rw [hx] at e
                cases e
                have hxn : x = n := by simpa using hx
                subst hxn
                rw [if_pos (by rw [I.ok.kind, kc]; rfl), List.lookup_cons]
                simp
              | false =>
                rw [hx] at e
                by_cases hc : (k == NameKind.free && X.env.scope.kind == .function && X.env.kindOf n == some .cell) = true
                . rw [if_pos hc, List.lookup_cons, hx]; exact ih e
                . rw [if_neg hc, List.lookup_cons, hx]; exact ih e
          exact .inl (kk hjf)
        . obtain ⟨o, ho', hd⟩ := z
          exact ⟨o, hkeep _ _ ho', hd⟩
  cell := fun x c e => by
    rcases bcells_cases e with z | z
    . exact ⟨_, (hcl.empty _ _ z.1).1⟩
    . obtain ⟨v, o, ho', hd⟩ := I.cell x c z.1
      exact ⟨v, o, hkeep _ _ ho', hd⟩
  free := I.hok.fresh (Nat.le_refl _)
  freeC := fun x c e => by
    rcases bcells_cases e with z | z
    . exact I.hok.fresh (Nat.le_of_lt (Nat.lt_of_succ_le (hcl.empty _ _ z.1).2))
    . exact I.freeC x c z.1
  pin := fun p hp => nomatch hp
  hok := I.hok.kept hkeep
  len := by simp [blkσ, frv, blk]
theorem Inv.unblock {pins : List (Addr × Obj)} {σ σ' : St} {H H' : Hp} {s s' : Shared} {fp : List Addr} {C : Addr} (I : Inv X pins σ H s) (hf : ∀ b ∈ fp, FpOk X pins H b) (J : Inv (blk X os fr scope C fp s H) [] σ' H' s') : Inv X pins σ H' s' :=
  I.call' J.os J.base J.hok J.bare fun b hb => ⟨(hf b hb).2.2.2.1, (hf b hb).2.1, (hf b hb).2.2.2.2.1, (hf b hb).2.2.2.2.2⟩
theorem Inv.letgo {pins : List (Addr × Obj)} {σ : St} {H H₀ : Hp} {s s₀ : Shared} {C : Addr} {h' : Heap} (I₀ : Inv X pins σ₀ H₀ s₀) (I : Inv X pins σ H s) (hn : H C = none) (hC : s₀.heap.objs.size <= C) (hs : Heap.SameBut C s.heap h') : Inv X pins σ H { s with heap := h' } :=
  I.turned (t' := s.toks) (it := C) (fun b o hb e => (hs.2 b hb).trans e) hn (Nat.ne_of_gt (Nat.lt_of_lt_of_le I₀.lt hC)) (.inr (Nat.le_trans I₀.sz hC))
    (fun x c e z => by
      obtain ⟨v, q⟩ := I₀.cell x c e
      exact absurd (Nat.lt_of_lt_of_le q.lt (by rw [z]; exact hC)) (Nat.lt_irrefl _))
    fun p hp z => absurd (Nat.lt_of_lt_of_le (Heap.lt_size (I₀.pin p hp).1) (by rw [z]; exact hC)) (Nat.lt_irrefl _)
end
def PIfs (X : Cx) (ifs : List Expr) (t : TT) : Prop :=
  ∀ (pins : List (Addr × Obj)) (s : Shared) (σ : St) (H : Hp) (Q : Bool -> Hp -> Prop), Inv X pins σ H s -> t σ H Q →
    wpAny (model X.prog X.w) X.A (forIn ifs true fun c r => if r = true then do let ok <- isTrue c X.env (eval c X.env); pure (ForInStep.yield ok) else pure (ForInStep.yield r)) (TP X pins σ Q) X.xe s
def tTrue : TT := fun _ H Q => Q true H
theorem pifs_nil {X : Cx} : PIfs X [] tTrue := fun _ _ _ H _ I h => wpAny_tests_nil ⟨H, I, h⟩
theorem pifs_one {X : Cx} {c : Expr} {t : TT} (h : PT X c t) : PIfs X [c] t := fun pins s σ H Q I q => wpAny_tests_one (h pins s σ H Q I q)
theorem newEnv_cells {M : Model} {A : Around} {E : Value -> Shared -> Prop} {s : Shared} {scope : Scope} {globals : Addr} {closure : List (Str × Addr)} {qual : Str} {env : Env} {Q : Env -> Shared -> Prop}
    (hQ : Q { scope, locals := s.heap.objs.size, globals, cells := cellsFrom (s.heap.objs.size + 1) scope.names closure, qual, func := none, code := env.code, frame := env.frame, builtins := env.builtins } { s with heap := pushCells (s.heap.push { cls := .type "dict", data := .dict #[] }) scope.names }) :
    wpAny M A (newFunctionEnv scope globals closure [] qual none .none (some env)) Q E s := by
  simp only [newFunctionEnv, Option.isSome_some, if_true]
  refine wpAny_bind (wpAny_alloc ?_)
  refine wpAny_bind (wpAny_layCells _ (fun name kind cells => by cases hkc : kind == NameKind.cell <;> simp [hkc]) _ _ _ _ ?_)
  rw [show ({ s with heap := s.heap.push { cls := .type "dict", data := .dict #[] } } : Shared).heap.objs.size = s.heap.objs.size + 1 from Heap.size_push ..]
  simp only [List.forIn_nil]
  exact wpAny_bind (wpAny_pure (wpAny_pure hQ))
theorem compLoop_any {prog : Program} {w : World} {A : Around} {R : Result -> Shared -> Prop} {s : Shared} {elt target iter : Expr} {ifs : List Expr} {scope : Scope} {pos : Pos} {it acc : Value} {env : Env} (I : Nat -> Shared -> Prop)
    (turn : ∀ n s, I n s -> wpAny (model prog w) A (pyNext it) (fun r s₁ => match r with
      | none => R (.ok .next) s₁
      | some v => wpAny (model prog w) A (letOwnedTupleGo target it v) (fun _ s₀ => wpAny (model prog w) A (assign target env v) (fun _ s₂ =>
          wpAny (model prog w) A (forIn ifs true fun c r => if r = true then do let ok <- isTrue c env (eval c env); pure (ForInStep.yield ok) else pure (ForInStep.yield r)) (fun ok s₃ =>
            if ok = true then wpAny (model prog w) A (eval elt env) (fun x s₄ =>
              wpAny (model prog w) A (call (.builtin "list.append") [acc, x]) (fun _ s₅ => ∃ m, m < n /\ I m s₅) (fun _ _ => False) s₄) (fun _ _ => False) s₃
            else ∃ m, m < n /\ I m s₃) (fun _ _ => False) s₂) (fun _ _ => False) s₀) (fun _ _ => False) s₁) (fun _ _ => False) s)
    (n : Nat) (h : I n s) :
    codeAny (model prog w) A (.compLoop (.ListComp elt [⟨target, iter, ifs, 0⟩] scope pos) 0 it acc env) R s := by
  refine codeAny_loop rfl I (fun n s hI => ?_) n h
  show wpAny _ A ((compTurn (.ListComp elt [⟨target, iter, ifs, 0⟩] scope pos) 0 it acc env).onRaise (fun x => do noteFrame x env; theTreesLotGoes x)) _ _ s
  refine wpAny_noted ?_
  rw [compTurn_list]
  refine wpAny_bind (wpAny_standAt (wpAny_bind (wpAny_mono (turn n s hI) (fun r s₁ h₁ => ?_) fun _ _ h' => h'.elim)))
  cases r with
  | none => exact wpAny_pure h₁
  | some v =>
    refine wpAny_bind (wpAny_mono h₁ (fun _ s₀ h₀ => ?_) fun _ _ h' => h'.elim)
    refine wpAny_bind (wpAny_mono h₀ (fun _ s₂ h₂ => wpAny_bind (wpAny_mono h₂ (fun ok s₃ h₃ => ?_) fun _ _ h' => h'.elim)) fun _ _ h' => h'.elim)
    cases ok with
    | false => exact wpAny_pure ⟨rfl, h₃⟩
    | true =>
      exact wpAny_bind (wpAny_bind (wpAny_mono h₃ (fun x s₄ h₄ => wpAny_bind (wpAny_mono h₄ (fun _ s₅ h₅ => wpAny_pure (wpAny_pure ⟨rfl, h₅⟩)) fun _ _ h' => h'.elim)) fun _ _ h' => h'.elim))
def lcW (n : Nat) (fr : List Nat) (g : TG) (te : TE) (σ : St) (J : It) (H1 : Hp) (p : Addr) (D : Hp -> Prop) : Prop :=
  ∃ W : Nat -> Nat -> List V -> Hp -> Prop, (∃ m, W 0 m [] (upd H1 p (.lst []))) /\ ∀ i m ys H, W i m ys H →
    (J.stop i H /\ D H) \/ (J.go i H /\ ∀ x H', J.yld i H x H' -> g x (blkσ n fr σ) H' fun σ2 H2 => Wk (blkσ n fr σ) σ2 /\ te σ2 H2 fun v H3 => H3 p = some (.lst ys) /\ ys.length < sizeLine /\ ∃ m', m' < m /\ W (i + 1) m' (ys ++ [v]) (upd H3 p (.lst (ys ++ [v]))))
def tLC (n : Nat) (fr : List Nat) (wi : TI) (g : TG) (te : TE) : TE := fun σ H Q => wi σ H fun J H1 => ∀ p, H1 p = none -> lcW n fr g te σ J H1 p (Q (.ref p))
def lcI (n : Nat) (fr : List Nat) (g : TG) (tc : TT) (te : TE) (σ : St) (J : It) (H1 : Hp) (p : Addr) (D : Hp -> Prop) : Prop :=
  ∃ W : Nat -> Nat -> List V -> Hp -> Prop, (∃ m, W 0 m [] (upd H1 p (.lst []))) /\ ∀ i m ys H, W i m ys H →
    (J.stop i H /\ D H) \/ (J.go i H /\ ∀ x H', J.yld i H x H' -> g x (blkσ n fr σ) H' fun σ2 H2 => Wk (blkσ n fr σ) σ2 /\ tc σ2 H2 fun ok H2' =>
      if ok = true then te σ2 H2' fun v H3 => H3 p = some (.lst ys) /\ ys.length < sizeLine /\ ∃ m', m' < m /\ W (i + 1) m' (ys ++ [v]) (upd H3 p (.lst (ys ++ [v]))) else ∃ m', m' < m /\ W (i + 1) m' ys H2')
def tLCi (n : Nat) (fr : List Nat) (wi : TI) (g : TG) (tc : TT) (te : TE) : TE := fun σ H Q => wi σ H fun J H1 => ∀ p, H1 p = none -> lcI n fr g tc te σ J H1 p (Q (.ref p))
theorem lcI_true {n : Nat} {fr : List Nat} {g : TG} {te : TE} {σ : St} {J : It} {H1 : Hp} {p : Addr} {D : Hp -> Prop} : lcI n fr g tTrue te σ J H1 p D = lcW n fr g te σ J H1 p D := by
  unfold lcI lcW tTrue
  simp only [if_true]
section
variable {X : Cx} {os : List Str} {fr : List Nat} {scope : Scope} {elt tg iter : Expr} {pos : Pos} {wi : TI} {g : TG} {te : TE}
theorem lc_block {ifs : List Expr} {tc : TT} {pins : List (Addr × Obj)} {σ : St} {s2 : Shared} {D : Addr -> Hp -> Prop} {itv : Value} {RR : Value -> Addr -> Result -> Shared -> Prop}
    (hc : X.calm = true) (hg : ∀ C fp s₀ H₀, PG (blk X os fr scope C fp s₀ H₀) tg g) (ht : ∀ C fp s₀ H₀, PIfs (blk X os fr scope C fp s₀ H₀) ifs tc) (he : ∀ C fp s₀ H₀, PE (blk X os fr scope C fp s₀ H₀) elt te)
    (hk : scope.kind = .function) (hok : lcOk X.env.scope scope X.N fr = true)
    (h2 : PIE X pins σ tg (fun J H1 => ∀ p, H1 p = none -> lcI os.length fr g tc te σ J H1 p (D p)) itv s2)
    (hRR : ∀ p C s3 H3 s' H', Inv X pins σ H3 s3 -> s3.heap.objs.size = C -> H' C = none -> Inv X pins σ H' s' -> (∃ m, s'.heap.Ns C m) -> D p H' -> RR (.ref p) C (.ok .next) s') :
    wpAny (model X.prog X.w) X.A (newList []) (fun acc s₃ => wpAny (model X.prog X.w) X.A (newFunctionEnv scope X.env.globals (clo X.env scope.names []) [] X.env.qual none .none (some X.env)) (fun cenv s₄ =>
      codeAny (model X.prog X.w) X.A (.compStart (.ListComp elt [⟨tg, iter, ifs, 0⟩] scope pos) 0 itv acc { cenv with scope := relabel scope X.env }) (RR acc cenv.locals) s₄) X.xe s₃) X.xe s2 := by
  obtain ⟨it, fp, tn, J, H2, e, I2, T, st2, f2, hR⟩ := h2
  subst e
  refine wpAny_newObj_type ?_
  have fresh : H2 s2.heap.objs.size = none := I2.fresh
  obtain ⟨W, ⟨m0, w0⟩, turn⟩ := hR s2.heap.objs.size fresh
  have I3 : Inv X pins σ (upd H2 s2.heap.objs.size (.lst [])) { s2 with heap := s2.heap.push { cls := .type "list", dict := none, data := .seq ([] : List Value).toArray } } := I2.lnew (ys := []) (its := []) (t' := s2.toks) .nil (Nat.zero_le _)
  have obj2 := T.obj _ _ st2
  have ne2 : ∀ b ∈ fp, b ≠ s2.heap.objs.size := fun b hb => by
    obtain ⟨o, e, _⟩ := obj2 b hb
    exact Nat.ne_of_lt (Heap.lt_size e)
  have st3 : tn 0 (s2.heap.push { cls := .type "list", dict := none, data := .seq ([] : List Value).toArray }) := T.keep _ _ _ st2 fun b hb o e => Heap.get?_push_of_some _ e
  have f3 : ∀ b ∈ fp, FpOk X pins (upd H2 s2.heap.objs.size (.lst [])) b := fun b hb => ⟨by rw [upd_ne (ne2 b hb)]; exact (f2 b hb).1, (f2 b hb).2⟩
  generalize hs3 : ({ s2 with heap := s2.heap.push { cls := .type "list", dict := none, data := .seq ([] : List Value).toArray } } : Shared) = s3 at I3 ⊢
  have st3' : tn 0 s3.heap := by rw [<- hs3]; exact st3
  generalize s2.heap.objs.size = p at *
  refine newEnv_cells ?_
  have hns : (pushCells (s3.heap.push { cls := .type "dict", data := .dict #[] }) scope.names).Ns s3.heap.objs.size fun _ => none := (Heap.Ns.new s3.heap (.type "dict")).keeps (pushCells_keeps _ _)
  have hkeep : ∀ b o, s3.heap.get? b = some o -> (pushCells (s3.heap.push { cls := .type "dict", data := .dict #[] }) scope.names).get? b = some o := fun b o e => pushCells_keeps _ _ b o (Heap.get?_push_of_some _ e)
  have hcl := cellsFrom_ok scope.names (s3.heap.push { cls := .type "dict", data := .dict #[] }) (s3.heap.objs.size + 1) [] ⟨fun _ _ hm => (nomatch hm), List.Pairwise.nil⟩ (by rw [Heap.size_push]; exact Nat.le_refl _)
  rw [Heap.size_push] at hcl
  generalize pushCells (s3.heap.push { cls := .type "dict", data := .dict #[] }) scope.names = h₁ at hns hkeep hcl ⊢
  have obj3 : ∀ b ∈ fp, ∃ o, s3.heap.get? b = some o := fun b hb => by
    obtain ⟨o, e, _⟩ := T.obj _ _ st3' b hb
    exact ⟨o, e⟩
  have J0 := I3.block (os := os) (t' := s3.toks) hk hok f3 obj3 (h₁ := h₁) hns hkeep hcl
  have ok0 := J0.ok
  have fpY : ∀ {H' : Hp}, (∀ b ∈ fp, H' b = none) -> ∀ b ∈ fp, FpOk (blk X os fr scope s3.heap.objs.size fp s3 (upd H2 p (.lst []))) [] H' b := fun hn b hb =>
    ⟨hn b hb, (ok0.exf b hb).1, ok0.exfs b hb, .inl hb, (ok0.exf b hb).2, fun q hq => nomatch hq⟩
  have st4 : tn 0 h₁ := T.keep _ _ _ st3' fun b hb o e => hkeep b o e
  have fr0 : ∀ b ∈ fp, upd H2 p (.lst []) b = none := fun b hb => (f3 b hb).1
  have loop : ∀ s4 : Shared, s4 = { s3 with heap := h₁, toks := s3.toks } →
      codeAny (model X.prog X.w) X.A (.compLoop (.ListComp elt [⟨tg, iter, ifs, 0⟩] scope pos) 0 (.ref it) (.ref p) (compEnvC scope (bcells X.env scope s3.heap.objs.size) s3.heap.objs.size X.env)) (RR (.ref p) s3.heap.objs.size) s4 := by
    rintro s4 rfl
    refine compLoop_any (fun n s' => ∃ i ys H', Inv (blk X os fr scope s3.heap.objs.size fp s3 (upd H2 p (.lst []))) [] (blkσ os.length fr σ) H' s' /\ tn i s'.heap /\ (∀ b ∈ fp, H' b = none) /\ W i n ys H') ?_ m0 ⟨0, [], _, J0, st4, fr0, w0⟩
    rintro n s5 ⟨i, ys, H5, I5, st5, fr5, w5⟩
    rcases turn i n ys H5 w5 with ⟨stop, qd⟩ | ⟨go, step⟩
    . refine thn (T.done (blk X os fr scope s3.heap.objs.size fp s3 (upd H2 p (.lst []))) rfl rfl rfl hc i [] s5 _ H5 (fun _ _ => False) I5 (fpY fr5) st5 stop) fun r s6 ⟨hr, I6⟩ => ?_
      subst hr
      exact hRR p _ s3 _ s6 H5 I3 rfl I6.free (I3.unblock f3 I6) (let ⟨m, hm, _⟩ := I6.loc; ⟨m, hm⟩) qd
    . refine thn (T.item (blk X os fr scope s3.heap.objs.size fp s3 (upd H2 p (.lst []))) rfl rfl rfl hc i [] s5 _ H5 (fun _ _ => False) I5 (fpY fr5) st5 go) fun r s6 ⟨u, hr, h6⟩ => ?_
      subst hr
      refine thn h6 fun _ s7 ⟨x, H7, I7, r7, y7, st7, fr7⟩ => ?_
      have I7' := I7.pinned (fpY fr7) (T.obj _ _ st7)
      refine thn (hg _ _ _ _ _ s7 _ H7 x u _ I7' r7 (step x H7 y7)) fun _ s8 ⟨σ8, H8, I8, wk8, q8⟩ => ?_
      have again : ∀ {H' : Hp} {s' : Shared} {zs : List V} {m' : Nat}, Inv (blk X os fr scope s3.heap.objs.size fp s3 (upd H2 p (.lst []))) ([] ++ pinsAt fp s7.heap) σ8 H' s' -> m' < n -> W (i + 1) m' zs H' →
          ∃ m, m < n /\ ∃ i ys H', Inv (blk X os fr scope s3.heap.objs.size fp s3 (upd H2 p (.lst []))) [] (blkσ os.length fr σ) H' s' /\ tn i s'.heap /\ (∀ b ∈ fp, H' b = none) /\ W i m ys H' := fun {H' s' zs m'} J' hm' w' => by
        refine ⟨m', hm', i + 1, zs, H', (J'.weak wk8.1.symm fun i v e => wk8.2 i v e).unpinned, T.keep _ _ _ st7 fun b hb o e => (J'.pin (b, o) (List.mem_append_right _ (List.mem_append_right _ (mem_pinsAt hb e)))).1, fun b hb => ?_, w'⟩
        obtain ⟨o, e, d⟩ := T.obj _ _ st7 b hb
        exact (J'.pin (b, o) (List.mem_append_right _ (List.mem_append_right _ (mem_pinsAt hb e)))).2.1
      refine thn (ht _ _ _ _ _ s8 σ8 H8 _ I8 q8) fun ok s9 ⟨H9, I9, q9⟩ => ?_
      cases ok with
      | false =>
        obtain ⟨m', hm', w9⟩ := q9
        exact again I9 hm' w9
      | true =>
        refine thn (he _ _ _ _ _ s9 σ8 H9 _ I9 q9) fun y s10 ⟨v, H10, I10, r10, hp10, hz10, m', hm', w10⟩ => ?_
        refine thn (mt_append (X := blk X os fr scope s3.heap.objs.size fp s3 (upd H2 p (.lst []))) _ s10 σ8 H10 (.ref p) [v] (.ref p) [y] (fun _ H' => H' = upd H10 p (.lst (ys ++ [v]))) I10 rfl (.cons r10 .nil) ⟨p, ys, v, rfl, rfl, hp10, hz10, rfl⟩) fun _ s11 ⟨_, H11, I11, _, e11⟩ => ?_
        subst e11
        exact again I11 hm' w10
  exact codeAny_compStart_list (loop _ rfl) (T.self _ 0 _ _ _ st4 (loop _ rfl))
theorem pe_lc (os : List Str) (fr : List Nat) (hc : X.calm = true) (hi : PI X tg iter wi) (hg : ∀ C fp s₀ H₀, PG (blk X os fr scope C fp s₀ H₀) tg g) (he : ∀ C fp s₀ H₀, PE (blk X os fr scope C fp s₀ H₀) elt te)
    (hk : scope.kind = .function := by rfl) (hok : lcOk X.env.scope scope X.N fr = true := by rfl) (hs : ∀ x, foldedSetIterable iter X.env x = pure x := by intro _; rfl) :
    PE X (.ListComp elt [⟨tg, iter, [], 0⟩] scope pos) (tLC os.length fr wi g te) := by
  intro pins s σ H Q I h
  unfold tLC at h
  simp only [<- lcI_true] at h
  rw [eval_ListComp]
  refine wpAny_comprehension_free (use := none) rfl hs (closureFor_clo (lc_clos I hok)) hk (fun x hx hl => by have := (lc_names hok x hx).1; rw [hl] at this; exact this) (thn (hi pins s σ H _ I h) fun v s1 h1 => thn h1 fun itv s2 h2 => ?_)
  refine lc_block (os := os) (D := fun p H' => Q (.ref p) H') (RR := fun acc C => compPost (model X.prog X.w) X.A X.xe none (EP X pins σ Q) acc C) hc hg (fun _ _ _ _ => pifs_nil) he hk hok h2 ?_
  intro p C s3 H3 s' H' I3 eC hn I' ⟨m, hm⟩ q
  refine ⟨m, hm, fun h' hs' => ⟨.ref p, H', I3.letgo I' hn (by omega) hs', rfl, q⟩⟩
theorem pe_lcI {c : Expr} {tc : TT} (os : List Str) (fr : List Nat) (hc : X.calm = true) (hi : PI X tg iter wi) (hg : ∀ C fp s₀ H₀, PG (blk X os fr scope C fp s₀ H₀) tg g) (ht : ∀ C fp s₀ H₀, PT (blk X os fr scope C fp s₀ H₀) c tc) (he : ∀ C fp s₀ H₀, PE (blk X os fr scope C fp s₀ H₀) elt te)
    (hk : scope.kind = .function := by rfl) (hok : lcOk X.env.scope scope X.N fr = true := by rfl) (hs : ∀ x, foldedSetIterable iter X.env x = pure x := by intro _; rfl) :
    PE X (.ListComp elt [⟨tg, iter, [c], 0⟩] scope pos) (tLCi os.length fr wi g tc te) := by
  intro pins s σ H Q I h
  rw [eval_ListComp]
  refine wpAny_comprehension_free (use := none) rfl hs (closureFor_clo (lc_clos I hok)) hk (fun x hx hl => by have := (lc_names hok x hx).1; rw [hl] at this; exact this) (thn (hi pins s σ H _ I h) fun v s1 h1 => thn h1 fun itv s2 h2 => ?_)
  refine lc_block (os := os) (D := fun p H' => Q (.ref p) H') (RR := fun acc C => compPost (model X.prog X.w) X.A X.xe none (EP X pins σ Q) acc C) hc hg (fun _ _ _ _ => pifs_one (ht _ _ _ _)) he hk hok h2 ?_
  intro p C s3 H3 s' H' I3 eC hn I' ⟨m, hm⟩ q
  refine ⟨m, hm, fun h' hs' => ⟨.ref p, H', I3.letgo I' hn (by omega) hs', rfl, q⟩⟩
theorem ps_lc {i : Nat} {x : Str} {pos' spos : Pos} (os : List Str) (fr : List Nat) (hN : X.N.Nodup) (hi' : X.N[i]? = some x) (hx : X.env.scope.names.lookup x = some .local)
    (hc : X.calm = true) (hi : PI X tg iter wi) (hg : ∀ C fp s₀ H₀, PG (blk X os fr scope C fp s₀ H₀) tg g) (he : ∀ C fp s₀ H₀, PE (blk X os fr scope C fp s₀ H₀) elt te)
    (hsw : swapsWith (.ListComp elt [⟨tg, iter, [], 0⟩] scope pos) (some (.Name x pos')) spos.line X.env = pure true := by rfl)
    (hk : scope.kind = .function := by rfl) (hok : lcOk X.env.scope scope X.N fr = true := by rfl) (hs : ∀ x, foldedSetIterable iter X.env x = pure x := by intro _; rfl) :
    PS X (.Assign [.Name x pos'] (.ListComp elt [⟨tg, iter, [], 0⟩] scope pos) spos) (tAsg (tLC os.length fr wi g te) (gName i)) := by
  intro pins s σ H D I h
  unfold tAsg tLC at h
  simp only [<- lcI_true] at h
  rw [exec_Assign_Name_used _ _ _ _ hsw]
  refine wpAny_bind (wpAny_standAt (wpAny_bind ?_))
  show wpAny _ X.A (do let _ <- comprehension (.ListComp elt [⟨tg, iter, [], 0⟩] scope pos) scope X.env _ (newList []) false (eval iter X.env) (some (assign (.Name x pos') X.env))) _ _ s
  refine wpAny_bind (wpAny_mono (wpAny_comprehension_free (use := some (assign (.Name x pos') X.env)) (Q := fun _ s' => SP X pins D .next s') rfl hs (closureFor_clo (lc_clos I hok)) hk (fun x hx hl => by have := (lc_names hok x hx).1; rw [hl] at this; exact this)
    (thn (hi pins s σ H _ I h) fun v s1 h1 => thn h1 fun itv s2 h2 => ?_)) (fun _ s' hq => wpAny_pure (wpAny_pure hq)) fun _ _ e => e)
  refine lc_block (os := os) (D := fun p H' => D.nx (σ.set i (some (.ref p))) H') (RR := fun acc C => compPost (model X.prog X.w) X.A X.xe (some (assign (.Name x pos') X.env)) (fun _ s' => SP X pins D .next s') acc C) hc hg (fun _ _ _ _ => pifs_nil) he hk hok h2 ?_
  intro p C s3 H3 s' H' I3 eC hn I' ⟨m, hm⟩ q
  show wpAny _ X.A (assign (.Name x pos') X.env (.ref p)) _ _ _
  refine wpAny_assign_Name (store_ok2 (v := .ref p) I' hN hi' (.inl hx) rfl (fun s'' I'' ⟨a, hsa, ha⟩ => ?_) (.inr hx))
  have hCa : C ≠ a := by
    rcases ha with e | e
    . rw [e]; exact Nat.ne_of_gt (by rw [<- eC]; exact I3.lt)
    . obtain ⟨v, z⟩ := I3.cell x a e
      exact Nat.ne_of_gt (by rw [<- eC]; exact z.lt)
  exact ⟨m, hm.sameBut hsa hCa, fun h' hs' => ⟨_, H', I3.letgo I'' hn (by omega) hs', q⟩⟩
end
end L2
namespace L2
open PySem PySem.Spec PyProof.Rows
section
variable {X : Cx} {pins : List (Addr × Obj)} {σ : St} {H : Hp} {s : Shared} {a : Addr} {xs : List V}
abbrev SqA (K : W.Frag) (H : Hp) (a : Addr) (xs : List V) : Prop := SqL K H a xs \/ SqT K H a xs
theorem kept_it {h' : Heap} {o : Obj} {h : Heap} (hk : ∀ b x, b ∉ [h.objs.size] -> (h.push o).get? b = some x -> h'.get? b = some x) : ∀ b x, h.get? b = some x -> h'.get? b = some x :=
  fun b x e => hk b x (fun hm => by rw [List.mem_singleton.mp hm] at e; exact Nat.lt_irrefl _ (Heap.lt_size e)) (Heap.get?_push_of_some _ e)
theorem seq_walk (hc : X.calm = true) (I : Inv X pins σ H s) (h : SqA X.K H a xs) : ∃ its : List Value, Vals xs its /\ ∀ (Q : Value -> Shared -> Prop) (E : Value -> Shared -> Prop),
    (∀ (o : Obj) (St : Nat -> Heap -> Prop), Walks X.prog X.w X.A.in1 s.heap.objs.size [s.heap.objs.size, a] [s.heap.objs.size] its.toArray.size (fun i v => its.toArray[i]? = some v) St -> St 0 (s.heap.push o) →
      (∀ b ∈ [s.heap.objs.size, a], b < (s.heap.push o).objs.size) -> Q (.ref s.heap.objs.size) { s with heap := s.heap.push o }) -> wpAny (model X.prog X.w) X.A.in1 (pyIter (.ref a)) Q E s := by
  have hh := I.ok.hd hc
  have lt2 : ∀ (o : Obj), a < s.heap.objs.size -> ∀ b ∈ [s.heap.objs.size, a], b < (s.heap.push o).objs.size := fun o hlt b hb => by
    rw [Heap.size_push]
    rcases List.mem_cons.mp hb with rfl | hb
    . exact Nat.lt_succ_self _
    . rw [List.mem_singleton.mp hb]; exact Nat.lt_succ_of_lt hlt
  rcases h with h | h
  . obtain ⟨its, r, p, hz⟩ := I.list h
    have hl := p.isList
    have hlt : a < s.heap.objs.size := by obtain ⟨_, e, _⟩ := hl; exact Heap.lt_size e
    refine ⟨its, r, fun Q E hQ => wpAny_pyIter_list hl ?_⟩
    exact hQ _ _ (Walks.list (A := X.A.in1) hh _ a (Nat.ne_of_lt hlt) its.toArray) ⟨⟨_, Heap.get?_push_size _ rfl, rfl, rfl⟩, hl.push _⟩ (lt2 _ hlt)
  . obtain ⟨its, r, p, hz⟩ := I.tuple h
    have hl : s.heap.IsTuple a its.toArray := p
    have hlt : a < s.heap.objs.size := by obtain ⟨_, e, _⟩ := hl; exact Heap.lt_size e
    refine ⟨its, r, fun Q E hQ => wpAny_pyIter_tuple hl ?_⟩
    exact hQ _ _ (Walks.tuple (A := X.A.in1) hh _ a (Nat.ne_of_lt hlt) its.toArray) ⟨⟨_, Heap.get?_push_size _ rfl, rfl, rfl⟩, hl.push _⟩ (lt2 _ hlt)
theorem vals_at {ys : List V} {its : List Value} (r : Vals ys its) {i : Nat} {v : Value} (e : its.toArray[i]? = some v) : ∃ y, ys[i]? = some y /\ RelV y v := by
  have e' : its[i]? = some v := by simpa using e
  cases q : ys[i]? with
  | none => rw [r.none_of q] at e'; cases e'
  | some y =>
    obtain ⟨u, h1, h2⟩ := r.get q
    rw [e'] at h1; cases h1
    exact ⟨y, rfl, h2⟩
end
section
variable {X : Cx}
theorem ints_at {ns : List Int} {its : List Value} (rv : Vals (ns.map V.int) its) : ∀ (i : Nat) (v : Value), its.toArray[i]? = some v -> ∃ t, v = Value.int (ns.getD i 0) t := fun i v hP => by
  obtain ⟨y, e, ry⟩ := vals_at rv hP
  rw [List.getElem?_map] at e
  cases en : ns[i]? with
  | none => rw [en] at e; cases e
  | some n =>
    rw [en] at e; cases e
    obtain ⟨t, rfl⟩ := ry
    exact ⟨t, by rw [List.getD_eq_getElem?_getD, en]; rfl⟩
theorem preSum_getD (ns : List Int) : ∀ j, preSum (fun i => ns.getD i 0) j = (ns.take j).sum
  | 0 => by simp [preSum]
  | j + 1 => by
    rw [preSum, preSum_getD ns j]
    by_cases hj : j < ns.length
    . rw [List.take_succ_eq_append_getElem hj, List.sum_append, List.getD_eq_getElem?_getD, List.getElem?_eq_getElem hj]; simp
    . rw [List.take_of_length_le (by omega), List.take_of_length_le (by omega), List.getD_eq_getElem?_getD, List.getElem?_eq_none (by omega)]; simp
theorem call_sum (hc : X.calm = true) : CallR X (.builtin "sum") (fun vs H Q => ∃ (a : Addr) (ns : List Int), vs = [.ref a] /\ SqA X.K H a (ns.map V.int) /\ Q (.int ns.sum) H) := by
  intro pins s σ H vs us Q I r h
  obtain ⟨a, ns, rfl, hs, q⟩ := h
  obtain ⟨u, rfl, ru⟩ := vals1 r
  cases ru
  obtain ⟨its, rv, walk⟩ := seq_walk hc I hs
  have hlen : its.toArray.size = ns.length := by rw [List.size_toArray, <- rv.length, List.length_map]
  refine call_sum_walkG (walk _ _ fun o St W st fp => ?_)
  refine ⟨_, _, _, _, _, _, fun i => ns.getD i 0, rfl, W, st, fp, ints_at rv, fun h' tk t' hk => ?_⟩
  rw [hlen, preSum_getD, List.take_of_length_le (Nat.le_refl _)]
  exact ⟨.int _, H, I.kept (kept_it hk), ⟨_, rfl⟩, q⟩
theorem getD_mem' {l : List Int} {j : Nat} (h : j < l.length) : l.getD j 0 ∈ l := by
  rw [List.getD_eq_getElem?_getD, List.getElem?_eq_getElem h]; exact List.getElem_mem h
theorem mem_getD' {l : List Int} {a : Int} (h : a ∈ l) : ∃ j, j < l.length /\ l.getD j 0 = a := by
  obtain ⟨j, hj, e⟩ := List.getElem_of_mem h
  exact ⟨j, hj, by rw [List.getD_eq_getElem?_getD, List.getElem?_eq_getElem hj]; exact e⟩
theorem call_max1 (hc : X.calm = true) : CallR X (.builtin "max") (fun vs H Q => ∃ (a : Addr) (ns : List Int), vs = [.ref a] /\ SqA X.K H a (ns.map V.int) /\ ns ≠ [] /\ ∀ M, M ∈ ns -> (∀ n ∈ ns, n <= M) -> Q (.int M) H) := by
  intro pins s σ H vs us Q I r h
  obtain ⟨a, ns, rfl, hs, hne, q⟩ := h
  obtain ⟨u, rfl, ru⟩ := vals1 r
  cases ru
  obtain ⟨its, rv, walk⟩ := seq_walk hc I hs
  have hlen : its.toArray.size = ns.length := by rw [List.size_toArray, <- rv.length, List.length_map]
  have hpos : 0 < ns.length := List.length_pos_iff.mpr hne
  refine call_max_walk (walk _ _ fun o St W st fp => ?_)
  refine ⟨_, _, _, _, _, _, _, rfl, W, st, fp, by rw [hlen]; exact hpos, CmpOf.ints_gt (fun i => ns.getD i 0) (ints_at rv), fun v h' tk hP hk => ?_⟩
  obtain ⟨h1, h2⟩ := argBest_gt (fun i => ns.getD i 0) (its.toArray.size - 1)
  obtain ⟨t, rfl⟩ := ints_at rv _ v hP
  refine ⟨.int _, H, I.kept (kept_it hk), ⟨_, rfl⟩, q _ (getD_mem' (by omega)) fun n hn => ?_⟩
  obtain ⟨j, hj, rfl⟩ := mem_getD' hn
  exact h2 j (by omega)
theorem call_isinst : CallR X (.builtin "isinstance") (fun vs H Q => ∃ x t n b, vs = [x, .ty n] /\ TyOf X.K H x t /\ W.kitOne X.K t (.type n) = some b /\ Q (.bl b) H) := by
  intro pins s σ H vs us Q I r h
  obtain ⟨x, t, n, b, rfl, ty, e, q⟩ := h
  obtain ⟨u, v, rfl, ru, rv⟩ := vals2 r
  cases rv
  exact isinst_ok I ru ty e fun tk => ⟨.bl b, H, I.tok _, rfl, q⟩
end
mutual
inductive Dp (K : W.Frag) (H : Hp) : V -> PyData -> Prop
  | non : Dp K H .non .none
  | bl (b : Bool) : Dp K H (.bl b) (.bool b)
  | int (i : Int) : Dp K H (.int i) (.int i)
  | str (x : Str) : Dp K H (.str x) (.str x)
  | lst {a : Addr} {xs : List V} {ds : List PyData} : SqL K H a xs -> Dps K H xs ds -> Dp K H (.ref a) (.list ds)
  | tup {a : Addr} {xs : List V} {ds : List PyData} : SqT K H a xs -> Dps K H xs ds -> Dp K H (.ref a) (.tuple ds)
inductive Dps (K : W.Frag) (H : Hp) : List V -> List PyData -> Prop
  | nil : Dps K H [] []
  | cons {x : V} {xs : List V} {d : PyData} {ds : List PyData} : Dp K H x d -> Dps K H xs ds -> Dps K H (x :: xs) (d :: ds)
end
theorem Same.tseq {K : W.Frag} {H H' : Hp} {a : Addr} {xs : List V} (e : Same H H') (h : SqT K H a xs) : SqT K H' a xs := by
  rcases h with (h | ⟨o, h⟩) | h
  . exact .inl (.inl (e _ _ h))
  . exact .inl (.inr ⟨o, e _ _ h⟩)
  . exact .inr h
mutual
theorem Dp.same {K : W.Frag} {H H' : Hp} (e : Same H H') : ∀ {x : V} {d : PyData}, Dp K H x d -> Dp K H' x d
  | _, _, .non => .non
  | _, _, .bl b => .bl b
  | _, _, .int i => .int i
  | _, _, .str x => .str x
  | _, _, .lst h r => .lst (e.seq h) (Dps.same e r)
  | _, _, .tup h r => .tup (e.tseq h) (Dps.same e r)
theorem Dps.same {K : W.Frag} {H H' : Hp} (e : Same H H') : ∀ {xs : List V} {ds : List PyData}, Dps K H xs ds -> Dps K H' xs ds
  | _, _, .nil => .nil
  | _, _, .cons a r => .cons (Dp.same e a) (Dps.same e r)
end
section
variable {X : Cx} {pins : List (Addr × Obj)} {σ : St} {H : Hp} {s : Shared}
mutual
theorem Dp.reads (I : Inv X pins σ H s) : ∀ {x : V} {d : PyData}, Dp X.K H x d -> ∀ {u : Value}, RelV x u -> ∃ as, Reads s.heap u d as
  | _, _, .non, u, r => by cases r; exact ⟨_, .none⟩
  | _, _, .bl b, u, r => by cases r; exact ⟨_, .bool b⟩
  | _, _, .int i, u, r => by obtain ⟨t, rfl⟩ := r; exact ⟨_, .int i t⟩
  | _, _, .str x, u, r => by obtain ⟨t, rfl⟩ := r; exact ⟨_, .str x t⟩
  | _, _, .lst h q, u, r => by
    cases r
    obtain ⟨its, rv, p, hz⟩ := I.list h
    obtain ⟨o, e1, e2, n, e3⟩ := p.isList
    obtain ⟨as, ra⟩ := Dps.reads I q rv
    exact ⟨_, .list e1 e2 e3 (by simpa using ra)⟩
  | _, _, .tup h q, u, r => by
    cases r
    obtain ⟨its, rv, p, hz⟩ := I.tuple h
    obtain ⟨o, e1, e2, n, e3⟩ := (show s.heap.IsTuple _ its.toArray from p)
    obtain ⟨as, ra⟩ := Dps.reads I q rv
    exact ⟨_, .tuple e1 e2 e3 (by simpa using ra)⟩
theorem Dps.reads (I : Inv X pins σ H s) : ∀ {xs : List V} {ds : List PyData}, Dps X.K H xs ds -> ∀ {us : List Value}, Vals xs us -> ∃ as, ReadsAll s.heap us ds as
  | _, _, .nil, us, r => by cases r; exact ⟨_, .nil⟩
  | _, _, .cons a q, us, r => by
    cases r with
    | cons r1 r2 =>
      obtain ⟨as, h1⟩ := Dp.reads I a r1
      obtain ⟨bs, h2⟩ := Dps.reads I q r2
      exact ⟨_, .cons h1 h2⟩
end
end
section
variable {X : Cx}
def rEqD (K : W.Frag) : R2 := fun x y H Q => ∃ d e, Dp K H x d /\ Dp K H y e /\ d.canLay0 = true /\ e.canLay0 = true /\ min d.depth e.depth <= 60 /\ Q (.bl (PyData.eqv d e)) H
def rNeD (K : W.Frag) : R2 := fun x y H Q => ∃ d e, Dp K H x d /\ Dp K H y e /\ d.canLay0 = true /\ e.canLay0 = true /\ min d.depth e.depth <= 60 /\ Q (.bl (!PyData.eqv d e)) H
theorem op_eqD {k : Nat} (hr : Room k X.A) : OpR X (compareOp .Eq) (rEqD X.K) := by
  intro pins s σ H x y v u Q I rx ry h
  obtain ⟨d, e, h1, h2, c1, c2, hd, q⟩ := h
  obtain ⟨as, r1⟩ := h1.reads I rx
  obtain ⟨bs, r2⟩ := h2.reads I ry
  exact SeqAt.compareEq_reads r1 r2 c1 c2 (by have := hr.units; omega) ⟨.bl _, H, I, rfl, q⟩
theorem op_neD {k : Nat} (hr : Room k X.A) : OpR X (compareOp .NotEq) (rNeD X.K) := by
  intro pins s σ H x y v u Q I rx ry h
  obtain ⟨d, e, h1, h2, c1, c2, hd, q⟩ := h
  obtain ⟨as, r1⟩ := h1.reads I rx
  obtain ⟨bs, r2⟩ := h2.reads I ry
  exact SeqAt.compareNe_reads r1 r2 c1 c2 (by have := hr.units; omega) ⟨.bl _, H, I, rfl, q⟩
end
theorem Same.new {H : Hp} {p : Addr} (h : H p = none) (o : HO) : Same H (upd H p o) := fun b u q => by rw [upd_ne (ne_of_none q h)]; exact q
theorem Wk.set {n : Nat} {fr : List Nat} {σ : St} {i : Nat} {v : V} (hi : i < n) : Wk (blkσ n fr σ) ((blkσ n fr σ).set i (some v)) := by
  refine ⟨by simp, fun j w e => ?_⟩
  by_cases hj : j = i
  . subst hj
    unfold blkσ at e
    rw [List.getElem?_append_left (by simpa using hi), List.getElem?_replicate] at e
    split at e <;> cases e
  . rw [List.getElem?_set_ne (Ne.symm hj)]; exact e
structure ItIs (J : It) (H1 : Hp) (xs : List V) : Prop where
  go : ∀ i H, Same H1 H -> i < xs.length -> J.go i H
  yld : ∀ i H x H', Same H1 H -> i < xs.length -> J.yld i H x H' -> H' = H /\ xs[i]? = some x
  stop : ∀ H, Same H1 H -> J.stop xs.length H
theorem itIs_list {K : W.Frag} {a : Addr} {xs : List V} {H1 : Hp} (h : SqL K H1 a xs) : ItIs (Itl K a) H1 xs :=
  ⟨fun i H e hi => ⟨xs, xs[i], e.seq h, List.getElem?_eq_getElem hi⟩, fun i H x H' e hi y => ⟨y.1, y.2 xs (e.seq h)⟩, fun H e => ⟨xs, e.seq h, Nat.le_refl _⟩⟩
theorem itIs_tup {K : W.Frag} {a : Addr} {xs : List V} {H1 : Hp} (h : SqT K H1 a xs) : ItIs (Itt K a) H1 xs :=
  ⟨fun i H e hi => ⟨xs, xs[i], e.tseq h, List.getElem?_eq_getElem hi⟩, fun i H x H' e hi y => ⟨y.1, y.2 xs (e.tseq h)⟩, fun H e => ⟨xs, e.tseq h, Nat.le_refl _⟩⟩
theorem itIs_range {lo : Int} {n : Nat} {H1 : Hp} : ItIs (Itr lo n) H1 ((List.range n).map fun (i : Nat) => V.int (lo + (i : Int))) :=
  ⟨fun i H e hi => (show i < n from by simpa using hi), fun i H x H' e hi y => ⟨y.1, by rw [y.2, List.getElem?_map, List.getElem?_range (by simpa using hi)]; rfl⟩, fun H e => by simp [Itr]⟩
theorem Paired.app {α β : Type} {F : α -> β -> Prop} : ∀ {a c : List α} {b d : List β}, Paired F a b -> Paired F c d -> Paired F (a ++ c) (b ++ d)
  | _, _, _, _, .nil, s => s
  | _, _, _, _, .cons r t, s => .cons r (Paired.app t s)
section
variable {xs : List V} {J : It} {n : Nat} {fr : List Nat} {g : TG} {te : TE} {σ : St} {H1 : Hp} {p : Addr} {D : Hp -> Prop}
theorem lc_map (hJ : ItIs J H1 xs) (hp : H1 p = none) (hz : xs.length < sizeLine) (F : V -> V)
    (step : ∀ (i : Nat) x H (N : VK), xs[i]? = some x -> Same H1 H -> N (F x) H -> g x (blkσ n fr σ) H fun σ2 H2 => Wk (blkσ n fr σ) σ2 /\ te σ2 H2 N)
    (hd : D (upd H1 p (.lst (xs.map F)))) : lcW n fr g te σ J H1 p D := by
  refine ⟨fun i m ys H => m = xs.length - i /\ i <= xs.length /\ ys = (xs.take i).map F /\ H = upd H1 p (.lst ys), ⟨xs.length, by simp, Nat.zero_le _, by simp, rfl⟩, ?_⟩
  rintro i m ys H ⟨rfl, hi, rfl, rfl⟩
  have e := Same.new (o := .lst ((xs.take i).map F)) hp
  by_cases hlt : i < xs.length
  . refine .inr ⟨hJ.go i _ e hlt, fun x H' y => ?_⟩
    obtain ⟨rfl, hx⟩ := hJ.yld i _ x H' e hlt y
    refine step i x _ _ hx e ⟨upd_same, by rw [List.length_map, List.length_take]; omega, xs.length - (i + 1), by omega, rfl, hlt, ?_, upd_upd⟩
    rw [List.take_succ, hx, List.map_append]; rfl
  . have : i = xs.length := by omega
    subst this
    refine .inl ⟨hJ.stop _ e, ?_⟩
    rw [List.take_of_length_le (Nat.le_refl _)]; exact hd
theorem lc_same (hJ : ItIs J H1 xs) (hp : H1 p = none) (hz : xs.length < sizeLine) (R : Nat -> V -> Hp -> Prop) (hR : ∀ i y H H', R i y H -> (∀ b o, b ≠ p -> H b = some o -> H' b = some o) -> R i y H')
    (step : ∀ (i : Nat) x H ys (N : VK), xs[i]? = some x -> Same H1 H -> H p = some (.lst ys) -> (∀ v H3, Same H H3 -> R i v H3 -> N v H3) -> g x (blkσ n fr σ) H fun σ2 H2 => Wk (blkσ n fr σ) σ2 /\ te σ2 H2 N)
    (hd : ∀ ys H, Same H1 H -> H p = some (.lst ys) -> ys.length = xs.length -> (∀ i y, ys[i]? = some y -> R i y H) -> D H) : lcW n fr g te σ J H1 p D := by
  refine ⟨fun i m ys H => m = xs.length - i /\ i <= xs.length /\ Same H1 H /\ H p = some (.lst ys) /\ ys.length = i /\ ∀ j y, ys[j]? = some y -> R j y H, ⟨xs.length, by simp, Nat.zero_le _, Same.new hp _, upd_same, rfl, fun j y e => by simp at e⟩, ?_⟩
  rintro i m ys H ⟨rfl, hi, e, hH, len, pr⟩
  by_cases hlt : i < xs.length
  . refine .inr ⟨hJ.go i _ e hlt, fun x H' y => ?_⟩
    obtain ⟨rfl, hx⟩ := hJ.yld i _ x H' e hlt y
    refine step i x _ ys _ hx e hH fun v H3 s3 r3 => ⟨s3 _ _ hH, by omega, xs.length - (i + 1), by omega, rfl, hlt, fun b o q => ?_, upd_same, by rw [List.length_append, len]; rfl, fun j y ey => ?_⟩
    . rw [upd_ne (ne_of_none q hp)]; exact s3 _ _ (e _ _ q)
    . have up : ∀ b o, b ≠ p -> H3 b = some o -> upd H3 p (.lst (ys ++ [v])) b = some o := fun b o hb q => by rw [upd_ne hb]; exact q
      by_cases hj : j < ys.length
      . rw [List.getElem?_append_left hj] at ey
        exact hR j y _ _ (pr j y ey) fun b o hb q => up b o hb (s3 _ _ q)
      . rw [List.getElem?_append_right (by omega)] at ey
        have hj' : j - ys.length = 0 := by
          cases q : j - ys.length with
          | zero => rfl
          | succ k => rw [q] at ey; simp at ey
        rw [hj'] at ey
        have : j = i := by omega
        subst this
        simp at ey
        subst ey
        exact hR j v _ _ r3 up
  . have : i = xs.length := by omega
    subst this
    exact .inl ⟨hJ.stop _ e, hd ys H e hH len pr⟩
end
end L2
namespace L2
open PySem PySem.Spec PyProof.Rows
theorem Inv.turnedLaid {X : Cx} {pins : List (Addr × Obj)} {σ : St} {H : Hp} {s : Shared} {h' : Heap} {fp : List Addr} {T : Addr} {xs : List V} {its : List Value} (I : Inv X pins σ H s) (hf : ∀ b ∈ fp, FpOk X pins H b)
    (k : ∀ b o, b ∉ fp -> s.heap.get? b = some o -> h'.get? b = some o) (ho : ∀ b ∈ fp, ∃ o, h'.get? b = some o) (hT : s.heap.objs.size <= T) (hz : xs.length <= sizeLine) (hv : Vals xs its) (ht : IsTup h' T its.toArray) :
    Inv X pins σ (upd H T (.tup xs)) { s with heap := h' } := by
  have hTn : H T = none := I.hok.fresh hT
  have neT : ∀ b o, s.heap.get? b = some o -> b ≠ T := fun b o e => Nat.ne_of_lt (Nat.lt_of_lt_of_le (Heap.lt_size e) hT)
  refine I.step (g' := s.gens) (t' := s.toks) (d' := s.drawn) (ch := fp) (fun b hb => ⟨(hf b hb).2.2.2.1, (hf b hb).2.1, (hf b hb).2.2.2.2.1, (hf b hb).2.2.2.2.2⟩) (fun b o _ _ hc e _ => k b o hc e) (fun b o _ _ hc e _ => ⟨o.slots, k b o hc e⟩)
    (fun b o hc e n => by rw [upd_ne (neT b o e)]; exact n) (fun b o hc e => ⟨o, k b o hc e⟩) (fun b ys e => by rw [upd_ne (ne_of_none e hTn)]; exact e) (fun b o u e => by rw [upd_ne (ne_of_none e hTn)]; exact e) (fun b ps e => ⟨#[], by rw [upd_ne (ne_of_none e hTn), e]; simp⟩)
    (fun m hm => ?_) (fun b u e => ?_) I.bare
  . obtain ⟨o, es, ep, e1, r⟩ := hm
    exact ⟨o, es, ep, k _ o (fun z => (hf _ z).2.1 rfl) e1, r⟩
  . by_cases hb : b = T
    . subst hb; rw [upd_same] at e; cases e
      exact ⟨hz, its, hv, ht⟩
    . rw [upd_ne hb] at e
      have nit : ∀ c u, H c = some u -> c ∉ fp := fun c u q z => by rw [(hf c z).1] at q; cases q
      refine (I.hok b u e).stay (fun c v hc q => k c v ?_ q) (fun c q => by rw [upd_ne (ne_of_none q hTn)]; exact q) fun c ys q => by rw [upd_ne (ne_of_none q hTn)]; exact q
      rcases hc with z | z
      . rw [z]; exact nit b u e
      . exact nit c _ z
theorem Inv.turnedAll {X : Cx} {pins : List (Addr × Obj)} {σ : St} {H : Hp} {s : Shared} {h' : Heap} {fp : List Addr} (I : Inv X pins σ H s) (hf : ∀ b ∈ fp, FpOk X pins H b)
    (k : ∀ b o, b ∉ fp -> s.heap.get? b = some o -> h'.get? b = some o) : Inv X pins σ H { s with heap := h' } := by
  refine I.step (g' := s.gens) (t' := s.toks) (d' := s.drawn) (ch := fp) (fun b hb => ⟨(hf b hb).2.2.2.1, (hf b hb).2.1, (hf b hb).2.2.2.2.1, (hf b hb).2.2.2.2.2⟩) (fun b o _ _ hc e _ => k b o hc e) (fun b o _ _ hc e _ => ⟨o.slots, k b o hc e⟩)
    (fun b o hc e n => n) (fun b o hc e => ⟨o, k b o hc e⟩) (fun b ys e => e) (fun b o u e => e) (fun b ps e => ⟨#[], by rw [e]; simp⟩)
    (fun m hm => ?_) (fun b u e => ?_) I.bare
  . obtain ⟨o, es, ep, e1, r⟩ := hm
    exact ⟨o, es, ep, k _ o (fun z => (hf _ z).2.1 rfl) e1, r⟩
  . have nit : ∀ c u, H c = some u -> c ∉ fp := fun c u q z => by rw [(hf c z).1] at q; cases q
    refine (I.hok b u e).stay (fun c v hc q => k c v ?_ q) (fun c q => q) fun c ys q => q
    rcases hc with z | z
    . rw [z]; exact nit b u e
    . exact nit c _ z
theorem zapart (n l1 l2 : Nat) (h1 : l1 < n) (h2 : l2 < n) : ZipApart (n + 4) (n + 2) (n + 3) n (n + 1) l1 l2 where
  TIz := (by omega : (n + 2 : Nat) ≠ n + 4)
  TOz := (by omega : (n + 3 : Nat) ≠ n + 4)
  i1z := (by omega : (n : Nat) ≠ n + 4)
  i2z := (by omega : (n + 1 : Nat) ≠ n + 4)
  TITO := (by omega : (n + 2 : Nat) ≠ n + 3)
  TIi1 := (by omega : (n + 2 : Nat) ≠ n)
  TIi2 := (by omega : (n + 2 : Nat) ≠ n + 1)
  TOi1 := (by omega : (n + 3 : Nat) ≠ n)
  TOi2 := (by omega : (n + 3 : Nat) ≠ n + 1)
  i12 := (by omega : (n : Nat) ≠ n + 1)
  l1z := (by omega : (l1 : Nat) ≠ n + 4)
  l1TO := (by omega : (l1 : Nat) ≠ n + 3)
  l1i1 := (by omega : (l1 : Nat) ≠ n)
  l1i2 := (by omega : (l1 : Nat) ≠ n + 1)
  l2z := (by omega : (l2 : Nat) ≠ n + 4)
  l2TO := (by omega : (l2 : Nat) ≠ n + 3)
  l2i1 := (by omega : (l2 : Nat) ≠ n)
  l2i2 := (by omega : (l2 : Nat) ≠ n + 1)
section
variable {X : Cx}
def CDivL (i j : Int) : Prop := 0 < j /\ j < 2 ^ 8000
theorem log2_lt {y : Nat} (h : y < 2 ^ 8000) : y.log2 < 9000 := by
  by_cases h0 : y = 0
  . subst h0; decide
  . exact Nat.lt_of_lt_of_le ((Nat.log2_lt h0).mpr h) (by decide)
theorem op_fdivL : OpR X (binaryOp .FloorDiv) (rI CDivL fun i j => .int (i / j)) := opI fun i j _ _ _ _ _ hc q => by
  have h0 : j ≠ 0 := by have := hc.1; omega
  have e : i.fdiv j = i / j := Int.fdiv_eq_ediv_of_nonneg i (Int.le_of_lt hc.1)
  refine floordiv_int h0 (by rw [e]; exact q) (.inl (PyProof.noPylong_of_log2 (log2_lt ?_)))
  have := hc.1
  have := hc.2
  omega
def Big (n : Nat) (i : Int) : Prop := i.natAbs < 2 ^ n
def CMulB (i j : Int) : Prop := Big 1000000 i /\ Big 1000000 j
theorem bits_le {i : Int} (h : Big 1000000 i) : Builtin.Int.intBits i <= 2 ^ 20 := by
  unfold Builtin.Int.intBits
  split
  . exact Nat.zero_le _
  . rename_i h0
    have h0' : i.natAbs ≠ 0 := by
      intro z
      exact h0 (by rw [Int.natAbs_eq_zero.mp z]; rfl)
    have := (Nat.log2_lt h0').mpr h
    omega
theorem op_mulB : OpR X (binaryOp .Mult) (rI CMulB fun i j => .int (i * j)) := opI fun _ _ _ _ _ _ _ hc q => mul_int q (IntMulOk.of_bits (bits_le hc.1) (bits_le hc.2))
end
theorem Same.write {H H' : Hp} {p : Addr} {o : HO} (e : Same H H') (hp : H p = none) : Same H (upd H' p o) := fun b u q => by rw [upd_ne (ne_of_none q hp)]; exact e b u q
section
variable {xs : List V} {J : It} {fr : List Nat} {tc : TT} {σ : St} {H1 : Hp} {p : Addr} {D : Hp -> Prop}
theorem lc_filter (hJ : ItIs J H1 xs) (hp : H1 p = none) (hz : xs.length < sizeLine) (q : Nat -> Bool)
    (step : ∀ (i : Nat) x H ys (N : Bool -> Hp -> Prop), xs[i]? = some x -> Same H1 H -> H p = some (.lst ys) -> (∀ H3, Same H H3 -> N (q i) H3) -> tc ((blkσ 1 fr σ).set 0 (some x)) H N)
    (hd : ∀ ys H, Same H1 H -> H p = some (.lst ys) -> ((∀ i, i < xs.length -> q i = false) -> ys = []) -> ((∃ i, i < xs.length /\ q i = true) -> ys ≠ []) -> (∀ y ∈ ys, y ∈ xs) -> D H) : lcI 1 fr (gName 0) tc (tVar 0) σ J H1 p D := by
  refine ⟨fun i m ys H => m = xs.length - i /\ i <= xs.length /\ Same H1 H /\ H p = some (.lst ys) /\ ys.length <= i /\ ((∀ j, j < i -> q j = false) -> ys = []) /\ ((∃ j, j < i /\ q j = true) -> ys ≠ []) /\ ∀ y ∈ ys, y ∈ xs,
    ⟨xs.length, by simp, Nat.zero_le _, Same.new hp _, upd_same, Nat.le_refl _, fun _ => rfl, fun ⟨j, hj, _⟩ => absurd hj (Nat.not_lt_zero _), fun y hy => by cases hy⟩, ?_⟩
  rintro i m ys H ⟨rfl, hi, e, hH, hl, h0, h1, hm⟩
  by_cases hlt : i < xs.length
  . refine .inr ⟨hJ.go i _ e hlt, fun x H' y => ?_⟩
    obtain ⟨rfl, hx⟩ := hJ.yld i _ x H' e hlt y
    refine ⟨Wk.set (by decide), ?_⟩
    refine step i x _ ys _ hx e hH fun H3 s3 => ?_
    cases hq : q i with
    | false =>
      rw [if_neg Bool.false_ne_true]
      refine ⟨xs.length - (i + 1), by omega, rfl, hlt, e.trans s3, s3 _ _ hH, by omega, fun z => h0 fun j hj => z j (by omega), fun ⟨j, hj, z⟩ => h1 ⟨j, ?_, z⟩, hm⟩
      by_cases hji : j = i
      . subst hji; rw [hq] at z; cases z
      . omega
    | true =>
      rw [if_pos rfl]
      refine ⟨x, ?_, s3 _ _ hH, by omega, xs.length - (i + 1), by omega, rfl, hlt, (e.trans s3).write hp, upd_same, by rw [List.length_append, List.length_singleton]; omega, fun z => ?_, fun _ z => ?_, fun y hy => ?_⟩
      . show ((blkσ 1 fr σ).set 0 (some x))[0]? = some (some x)
        rw [List.getElem?_set_self (by simp [blkσ])]
      . have := z i (by omega); rw [hq] at this; cases this
      . simp at z
      . rcases List.mem_append.mp hy with z | z
        . exact hm y z
        . rw [List.mem_singleton.mp z]; exact List.mem_of_getElem? hx
  . have : i = xs.length := by omega
    subst this
    exact .inl ⟨hJ.stop _ e, hd ys H e hH h0 h1 hm⟩
end
end L2
namespace L2
open PySem PySem.W
section
variable {prog : Program} {w : World} {A : Around} {E : Value -> Shared -> Prop} {s : Shared} {K : Frag} {x C D : Addr} {ox : Obj}
end
structure ExcK (K : Frag) (D : Addr) : Prop where
  ob : ∃ nm q N bs bm hdct sn sub ab col dd k0 k1 k2 k3 k5, K.lookup D = some (excClassObj nm q D N bs bm hdct sn sub ab col dd k0 k1 k2 k3 k5 "ValueError.__new__") /\ nsOkIn K N = true /\ nsIn K N "__init__" = some none ∧
    tailIn K [.type "ValueError", .type "Exception", .type "BaseException", .type "object"] bm = true
  ga : findIn K (.ref D) "__getattribute__" = some (some (.builtin "BaseException.__getattribute__"))
  gn : findIn K (.ref D) "__getattr__" = some none
  ca : findIn K (.ref D) "__class__" = some (some (.builtin "object.__class__"))
  mo : mroIn K D (.type "object") = some true
  mb : mroIn K D (.type "BaseException") = some true
end L2
namespace L2
open PySem PySem.Spec PyProof.Rows
structure Fly (P : Program) (w : World) (l : List Env) (H : Hp) (s : Shared) (ea t D : Addr) (B : Heap) (H' : Hp) (s' : Shared) : Prop where
  os : s'.os = s.os
  bare : AllBare s'.gens
  un : Un (frs l) [] H H' s.heap s'.heap
  hok : HOk P w H' s'.heap
  fly : Heap.FlyingW B l ea (.ref D) (.ref t) s'.heap
  inb : ∀ b o, s'.heap.get? b = some o -> ((∃ o0, s.heap.get? b = some o0) /\ b ∉ frs l) \/ H' b ≠ none -> B.get? b = some o
def CX1 (P : Program) (w : World) : CXT := fun l H s E e s' => ∃ (ea t D : Addr) (B : Heap) (H' : Hp), e = .ref ea /\ Fly P w l H s ea t D B H' s' /\ E (.ref D) none H'
section
variable {P : Program} {w : World} {l : List Env} {H : Hp} {s s' : Shared} {ea t D : Addr} {B h' : Heap} {H' : Hp}
end
section
variable {P : Program} {w : World} {K : W.Frag} {mg : Str -> Option Value} {base : Heap} {N : List Str} {qual : Str} {scope : Scope} {f : Addr} {cd : Value} {A : Around} {outer : List Env} {s₀ : Shared} {H₀ : Hp} {E : XK}
end
end L2
namespace L2
open PySem PySem.Spec PyProof.Rows
section
variable {X : Cx} {e : Expr} {te : TE} {a : Str} {j : Nat} {p1 p2 p3 : Pos}
end
section
variable {P : Program} {w : World} {K : W.Frag} {mg : Str -> Option Value} {base : Heap} {N : List Str} {qual : Str} {scope : Scope} {f : Addr} {cd : Value} {A : Around} {outer : List Env} {s₀ : Shared} {H₀ : Hp} {E : XK}
  {x : Str} {D : Addr} {e : Expr} {t : TA} {np cpos pos : Pos}
end
section
variable {X : Cx} {CX : CXT} {k : Nat} {f : Addr} {fd : FuncData} {ps : List Str} {sp : Sp} {EX : St -> XK} {x : Str} {p pos : Pos} {e : Expr} {es : List Expr} {t : TA}
end
section
variable {X : Cx} {pins : List (Addr × Obj)} {σ : St} {H : Hp} {s : Shared} {ea : Addr}
end
section
variable {X : Cx} {x n : Str} {R : Addr} {i : Nat} {tb : (St -> XK) -> TS} {ts : TS} {body suite : List Stmt} {b₀ : Stmt} {np hpos pos : Pos}
end
end L2
namespace L2
open PySem PySem.Spec PyProof.Rows
structure RoomU (k : Nat) (A : Around) : Prop where
  dp : A.depth + 3 * k + 5 < recursionLimit
  un : A.units + 16 * k + 200 < cLine
structure FnU (P : Program) (w : World) (K : W.Frag) (mg : Str -> Option Value) (base : Heap) (k : Nat) (f : Addr) (fd : FuncData) (ps : List Str) (sp : Sp) : Prop where
  len : ∀ vs H Q E, sp vs H Q E -> vs.length = ps.length
  run : ∀ (A : Around) (outer : List Env) (s : Shared) (H : Hp) (args : Args) (us : List Value) (vs : List V) (Q : VK) (E : XK), RoomU k A -> Env0 P w K mg base A outer s H -> BindsTo s fd args (ps.zip us) -> Vals vs us -> sp vs H Q E →
    codeAny (model P w) A (.call (.ref f) args) (CR CX0 outer P w H s Q E) s
section
variable {P : Program} {w : World} {K : W.Frag} {mg : Str -> Option Value} {base : Heap}
end
section
variable {X : Cx} {k : Nat} {f : Addr} {fd : FuncData} {ps : List Str} {sp : Sp} {x : Str} {p pos : Pos} {e : Expr} {es : List Expr} {t : TA}
end
end L2
namespace L2
open PySem PySem.Spec PyProof.Rows
section
variable {prog : Program} {w : World} {A : Around} {E : Value -> Shared -> Prop} {s : Shared}
theorem nx_item {j tp : Addr} {i : Nat} {vs : Array Value} {x : Value} {Q : Value -> Shared -> Prop} (q1 : IsTupIter s.heap j tp i) (q2 : IsTup s.heap tp vs) (q3 : vs[i]? = some x)
    (q : ∀ h', IsTupIter h' j tp (i + 1) -> Heap.SameBut j s.heap h' -> Q x { s with heap := h' }) : wpAny (model prog w) A (Builtin.SmallTypes.nextOf (.ref j)) Q E s := by
  obtain ⟨oj, g1, g2, g3⟩ := id q1
  obtain ⟨ot, g4, _, nt, g5⟩ := q2
  unfold Builtin.SmallTypes.nextOf
  refine wpAny_bind (wpAny_callSpecial?_slot (name := Str.ofString "__next__") q1.typeIs slot_tupleiter_next (wpAny_call_entry slot_tupleiter_next q1.typeIs entry_tupleiter_next ?_ (args_tupleiter_next _)))
  show wpAny _ _ (field (.ref j) 0 >>= _) _ _ s
  refine wpAny_bind (wpAny_field g1 g3 (x := .ref tp) rfl ?_)
  show wpAny _ _ (if (Value.ref tp == Value.none) = true then _ else _) _ _ s
  rw [if_neg (fun z => by cases z)]
  show wpAny _ _ (field (.ref j) 1 >>= _) _ _ s
  refine wpAny_bind (wpAny_field g1 g3 (x := .int i 0) rfl ?_)
  show wpAny _ _ (seqItems? (.ref tp) >>= _) _ _ s
  refine wpAny_bind (wpAny_seqItems g4 g5 ?_)
  simp only [Int.toNat_natCast, q3]
  refine wpAny_bind (wpAny_setField g1 g3 (by simp) (wpAny_pure ⟨x, rfl, wpAny_pure (q _ ?_ (Heap.SameBut.update ..))⟩))
  refine ⟨_, Heap.get?_update_self _ g1 (Obj.isFreed_of_fields (Obj.data_mapFields g3 _)), (Obj.cls_mapFields ..).trans g2, ?_⟩
  rw [Obj.data_mapFields g3]
  simp [rawInt]
theorem nx_end {j tp : Addr} {i : Nat} {vs : Array Value} {Q : Value -> Shared -> Prop} (hh : A.handled = none) (q1 : IsTupIter s.heap j tp i) (q2 : IsTup s.heap tp vs) (q3 : vs[i]? = none)
    (q : ∀ h' e, Heap.ExtBut j s.heap h' -> (∃ o, h'.get? e = some o /\ o.cls = .type "StopIteration") -> E (.ref e) { s with heap := h' }) : wpAny (model prog w) A (Builtin.SmallTypes.nextOf (.ref j)) Q E s := by
  obtain ⟨oj, g1, g2, g3⟩ := id q1
  obtain ⟨ot, g4, _, nt, g5⟩ := q2
  unfold Builtin.SmallTypes.nextOf
  refine wpAny_bind (wpAny_callSpecial?_slot (name := Str.ofString "__next__") q1.typeIs slot_tupleiter_next (wpAny_call_entry slot_tupleiter_next q1.typeIs entry_tupleiter_next ?_ (args_tupleiter_next _)))
  show wpAny _ _ (field (.ref j) 0 >>= _) _ _ s
  refine wpAny_bind (wpAny_field g1 g3 (x := .ref tp) rfl ?_)
  show wpAny _ _ (if (Value.ref tp == Value.none) = true then _ else _) _ _ s
  rw [if_neg (fun z => by cases z)]
  show wpAny _ _ (field (.ref j) 1 >>= _) _ _ s
  refine wpAny_bind (wpAny_field g1 g3 (x := .int i 0) rfl ?_)
  show wpAny _ _ (seqItems? (.ref tp) >>= _) _ _ s
  refine wpAny_bind (wpAny_seqItems g4 g5 ?_)
  simp only [Int.toNat_natCast, q3]
  refine wpAny_bind (wpAny_rule (wpAny_bind (wpAny_setField g1 g3 (by simp) ?_)))
  show wpAny _ _ (do let e <- newExc (.type "StopIteration") []; _) _ _ _
  simp only [newExc, newTuple]
  refine wpAny_bind (wpAny_bind (wpAny_newObj_type (wpAny_bind (m := firstArgMember _ _) (wpAny_of_eq (a := Value.none) (by first | rfl | (simp only [firstArgMember]; rfl)) (wpAny_newObj_type ?_ (by size_fits)))) (by size_fits)))
  simp only [raiseNew]
  refine wpAny_bind (wpAny_handled ?_)
  rw [show A.in1.handled = none from hh]
  exact wpAny_bind (wpAny_pure (wpAny_throw (q _ _ (((Heap.SameBut.update ..).extBut.push _).push _) ⟨_, Heap.get?_push_size _ rfl, rfl⟩)))
theorem IsTupIter.at' {h h' : Heap} {a t : Addr} {i : Nat} (x : IsTupIter h a t i) (e : ∀ o, h.get? a = some o -> h'.get? a = some o) : IsTupIter h' a t i := let ⟨o, ho, r⟩ := x; ⟨o, e _ ho, r⟩
end
def IsB : Bool -> Heap -> Addr -> Array Value -> Prop
  | true, h, t, xs => h.IsList t xs
  | false, h, t, xs => IsTup h t xs
def ItB : Bool -> Heap -> Addr -> Addr -> Nat -> Prop
  | true, h, j, t, k => h.IsListIter j t k
  | false, h, j, t, k => IsTupIter h j t k
def SqB : Bool -> W.Frag -> Hp -> Addr -> List V -> Prop
  | true, K, H, a, xs => SqL K H a xs
  | false, K, H, a, xs => SqT K H a xs
def itN : Bool -> String
  | true => "list_iterator"
  | false => "tuple_iterator"
section
variable {b : Bool} {h h' : Heap} {j t c : Addr} {k : Nat} {xs : Array Value}
theorem ItB.at' (x : ItB b h j t k) (e : ∀ o, h.get? j = some o -> h'.get? j = some o) : ItB b h' j t k := by
  cases b
  . exact IsTupIter.at' x e
  . exact Heap.IsListIter.at x e
theorem ItB.extBut (x : ItB b h j t k) (hs : Heap.ExtBut c h h') (n : j ≠ c) : ItB b h' j t k := x.at' fun o e => hs j o n e
theorem IsB.at' (x : IsB b h t xs) (e : ∀ o, h.get? t = some o -> h'.get? t = some o) : IsB b h' t xs := by
  cases b
  . obtain ⟨o, ho, r⟩ := x; exact ⟨o, e o ho, r⟩
  . obtain ⟨o, ho, r⟩ := x; exact ⟨o, e o ho, r⟩
theorem IsB.extBut (x : IsB b h t xs) (hs : Heap.ExtBut c h h') (n : t ≠ c) : IsB b h' t xs := x.at' fun o e => hs t o n e
theorem IsB.push (x : IsB b h t xs) (o : Obj) : IsB b (h.push o) t xs := x.at' fun _ e => Heap.get?_push_of_some _ e
theorem IsB.lt (x : IsB b h t xs) : t < h.objs.size := by
  cases b
  . obtain ⟨o, ho, _⟩ := x; exact Heap.lt_size ho
  . obtain ⟨o, ho, _⟩ := x; exact Heap.lt_size ho
theorem ItB.mk (e : h.get? j = some { cls := .type (itN b), data := .fields #[.ref t, .int 0 0] }) : ItB b h j t 0 := by
  cases b
  . exact ⟨_, e, rfl, rfl⟩
  . exact ⟨_, e, rfl, rfl⟩
theorem ItB.obj (x : ItB b h j t k) : ∃ o, h.get? j = some o /\ ∃ vs, o.data = .fields vs := by
  cases b
  . obtain ⟨o, ho, _, d⟩ := x; exact ⟨o, ho, _, d⟩
  . obtain ⟨o, ho, _, d⟩ := x; exact ⟨o, ho, _, d⟩
theorem Same.sqB {K : W.Frag} {H H' : Hp} {a : Addr} {ys : List V} (e : Same H H') (x : SqB b K H a ys) : SqB b K H' a ys := by
  cases b
  . exact e.tseq x
  . exact e.seq x
theorem Inv.sqB {X : Cx} {pins : List (Addr × Obj)} {σ : St} {H : Hp} {s : Shared} {a : Addr} {ys : List V} (I : Inv X pins σ H s) (x : SqB b X.K H a ys) : ∃ its : List Value, Vals ys its /\ IsB b s.heap a its.toArray /\ ys.length <= sizeLine := by
  cases b
  . exact I.tuple x
  . obtain ⟨i, r, p, z⟩ := I.list x
    exact ⟨i, r, p.isList, z⟩
theorem Inv.sqB_inj {X : Cx} {pins : List (Addr × Obj)} {σ : St} {H : Hp} {s : Shared} {a : Addr} {ys zs : List V} (I : Inv X pins σ H s) (x : SqB b X.K H a ys) (y : SqB b X.K H a zs) : ys = zs := by
  cases b
  . exact I.tuple_inj x y
  . exact I.list_inj x y
end
section
variable {prog : Program} {w : World} {A : Around} {E : Value -> Shared -> Prop} {s : Shared}
theorem nxB_item {b : Bool} {j tp : Addr} {i : Nat} {vs : Array Value} {x : Value} {Q : Value -> Shared -> Prop} (q1 : ItB b s.heap j tp i) (q2 : IsB b s.heap tp vs) (q3 : vs[i]? = some x)
    (q : ∀ h', ItB b h' j tp (i + 1) -> Heap.SameBut j s.heap h' -> Q x { s with heap := h' }) : wpAny (model prog w) A (Builtin.SmallTypes.nextOf (.ref j)) Q E s := by
  cases b
  . exact nx_item q1 q2 q3 q
  . exact wpAny_nextOf_list_item q1 q2 q3 q
theorem nxB_end {b : Bool} {j tp : Addr} {i : Nat} {vs : Array Value} {Q : Value -> Shared -> Prop} (hh : A.handled = none) (q1 : ItB b s.heap j tp i) (q2 : IsB b s.heap tp vs) (q3 : vs[i]? = none)
    (q : ∀ h' e, Heap.ExtBut j s.heap h' -> (∃ o, h'.get? e = some o /\ o.cls = .type "StopIteration") -> E (.ref e) { s with heap := h' }) : wpAny (model prog w) A (Builtin.SmallTypes.nextOf (.ref j)) Q E s := by
  cases b
  . exact nx_end hh q1 q2 q3 q
  . exact wpAny_nextOf_list_end hh q1 q2 q3 q
theorem iterB {b : Bool} {t : Addr} {xs : Array Value} {Q : Value -> Shared -> Prop} (m : IsB b s.heap t xs) (h : Q (.ref s.heap.objs.size) { s with heap := s.heap.push { cls := .type (itN b), data := .fields #[.ref t, .int 0 0] } }) : wpAny (model prog w) A (pyIter (.ref t)) Q E s := by
  cases b
  . exact iter_tuple m h
  . exact wpAny_pyIter_list m h
theorem zg_item {b1 b2 : Bool} {z ti to j1 j2 t1 t2 : Addr} {k1 k2 : Nat} {xs ys : Array Value} {x y a b : Value} {Q : Value -> Shared -> Prop} (D : ZipApart z ti to j1 j2 t1 t2)
    (q0 : IsZip s.heap z ti to .none) (p1 : IsPair s.heap ti (.ref j1) (.ref j2)) (p2 : IsPair s.heap to a b)
    (i1 : ItB b1 s.heap j1 t1 k1) (i2 : ItB b2 s.heap j2 t2 k2) (l1 : IsB b1 s.heap t1 xs) (l2 : IsB b2 s.heap t2 ys) (ex : xs[k1]? = some x) (ey : ys[k2]? = some y)
    (q : ∀ h', IsZip h' z ti to (rawInt s.heap.objs.size) -> IsPair h' to x y -> ItB b1 h' j1 t1 (k1 + 1) -> ItB b2 h' j2 t2 (k2 + 1) -> IsPair h' s.heap.objs.size x y →
      (∀ c o, c ≠ z -> c ≠ to -> c ≠ j1 -> c ≠ j2 -> s.heap.get? c = some o -> h'.get? c = some o) -> Q (.ref s.heap.objs.size) { s with heap := h' }) :
    wpAny (model prog w) A (Builtin.«zip.__next__» ⟨[.ref z], []⟩) (fun fin s' => ∃ v, fin = .done (.ret v) /\ Q v s') E s := by
  show wpAny _ _ (field (.ref z) 2 >>= _) _ _ _
  refine wpAny_bind (wpAny_field q0 rfl (x := .bool false) rfl (show wpAny _ _ (field (.ref z) 3 >>= _) _ _ _ from wpAny_bind (wpAny_field q0 rfl (x := .ref ti) rfl (wpAny_bind (wpAny_seqItems p1 rfl ?_)))))
  show wpAny _ _ (do let free <- Builtin.SmallTypes.ownedTupleIsFree (.ref z); _) _ _ _
  unfold Builtin.SmallTypes.ownedTupleIsFree
  refine wpAny_bind (wpAny_bind (wpAny_field q0 rfl (x := .none) rfl (wpAny_pure ?_)))
  simp only [if_true]
  refine wpAny_bind (wpAny_rule (wpAny_bind (wpAny_field q0 rfl (x := .ref to) rfl (wpAny_bind (wpAny_setField_rec q0 (by simp) fun u1 z1 s1 => ?_)))))
  have z1' : IsZip u1 z ti to .ellipsis := z1
  refine wpAny_bind ?_
  simp only [List.zipIdx_cons, List.zipIdx_nil, List.forIn_cons, List.forIn_nil]
  refine wpAny_bind (wpAny_bind (wpAny_onRaise (show wpAny _ _ (Builtin.SmallTypes.nextOf (.ref j1) >>= _) _ _ _ from wpAny_bind (nxB_item (i1.extBut s1.extBut D.i1z) (l1.extBut s1.extBut D.l1z) ex fun u2 j1' s2 => wpAny_pure ?_))))
  have to2 : IsPair u2 to a b := s2.extBut _ _ D.TOi1 (s1.extBut _ _ D.TOz p2)
  refine wpAny_bind (wpAny_seqItems to2 rfl (wpAny_bind (wpAny_updateSeq_pair to2 fun u3 to3 s3 => wpAny_bind (wpAny_letGo (wpAny_pure ?_)))))
  have to3' : IsPair u3 to x b := to3
  refine wpAny_bind (wpAny_bind (wpAny_onRaise (show wpAny _ _ (Builtin.SmallTypes.nextOf (.ref j2) >>= _) _ _ _ from wpAny_bind (nxB_item (((i2.extBut s1.extBut D.i2z).extBut s2.extBut D.i12.symm).extBut s3.extBut D.TOi2.symm)
    (((l2.extBut s1.extBut D.l2z).extBut s2.extBut D.l2i1).extBut s3.extBut D.l2TO) ey fun u4 j2' s4 => wpAny_pure ?_))))
  have to4 : IsPair u4 to x b := s4.extBut _ _ D.TOi2 to3'
  refine wpAny_bind (wpAny_seqItems to4 rfl (wpAny_bind (wpAny_updateSeq_pair to4 fun u5 to5 s5 => wpAny_bind (wpAny_letGo (wpAny_pure (wpAny_pure ?_))))))
  have to5' : IsPair u5 to x y := to5
  refine wpAny_bind (wpAny_seqItems to5' rfl (wpAny_bind (wpAny_newTuple ?_)))
  have sz : u5.objs.size = s.heap.objs.size := by rw [s5.1, s4.1, s3.1, s2.1, s1.1]
  have z5 : IsZip u5 z ti to .ellipsis := s5.extBut _ _ D.TOz.symm (s4.extBut _ _ D.i2z.symm (s3.extBut _ _ D.TOz.symm (s2.extBut _ _ D.i1z.symm z1')))
  have kp : ∀ c o, c ≠ z -> c ≠ to -> c ≠ j1 -> c ≠ j2 -> s.heap.get? c = some o -> u5.get? c = some o := fun c o n1 n2 n3 n4 e => s5.extBut _ _ n2 (s4.extBut _ _ n4 (s3.extBut _ _ n2 (s2.extBut _ _ n3 (s1.extBut _ _ n1 e))))
  have a1 : ItB b1 u5 j1 t1 (k1 + 1) := ((j1'.extBut s3.extBut D.TOi1.symm).extBut s4.extBut D.i12).extBut s5.extBut D.TOi1.symm
  have a2 : ItB b2 u5 j2 t2 (k2 + 1) := j2'.extBut s5.extBut D.TOi2.symm
  have zl : z < u5.objs.size := Heap.lt_size z5
  show wpAny _ _ (do let r <- Builtin.SmallTypes.ownedTupleHandOut (.ref z) (.ref u5.objs.size); _) _ _ _
  unfold Builtin.SmallTypes.ownedTupleHandOut
  have z6 : IsZip (u5.push { cls := .type "tuple", data := .seq #[x, y] }) z ti to .ellipsis := Heap.get?_push_of_some _ z5
  refine wpAny_bind (wpAny_bind (wpAny_setField_rec z6 (by simp) fun u7 z7 s7 => ?_))
  have z7' : IsZip u7 z ti to (rawInt u5.objs.size) := z7
  refine wpAny_setField_rec z7' (by simp) fun u8 z8 s8 => ?_
  have z8' : IsZip u8 z ti to (rawInt u5.objs.size) := z8
  have up : ∀ c o, c ≠ z -> u5.get? c = some o -> u8.get? c = some o := fun c o n1 e => s8.extBut _ _ n1 (s7.extBut _ _ n1 (Heap.get?_push_of_some _ e))
  have nt8 : IsPair u8 u5.objs.size x y := s8.extBut _ _ (Nat.ne_of_gt zl) (s7.extBut _ _ (Nat.ne_of_gt zl) (Heap.get?_push_size _ rfl))
  rw [sz] at z8' nt8
  refine wpAny_pure ⟨_, rfl, ?_⟩
  show Q (.ref u5.objs.size) _
  rw [sz]
  exact q u8 z8' (up _ _ D.TOz to5') (ItB.at' a1 fun o e => up _ o D.i1z e) (ItB.at' a2 fun o e => up _ o D.i2z e) nt8 fun c o n1 n2 n3 n4 e => up c o n1 (kp c o n1 n2 n3 n4 e)
theorem zg_end {b1 b2 : Bool} {z ti to j1 j2 t1 t2 : Addr} {k1 k2 : Nat} {xs ys : Array Value} {a b : Value} {Q : PySem.Fin -> Shared -> Prop} (hh : A.handled = none) (D : ZipApart z ti to j1 j2 t1 t2)
    (q0 : IsZip s.heap z ti to .none) (p1 : IsPair s.heap ti (.ref j1) (.ref j2)) (p2 : IsPair s.heap to a b)
    (i1 : ItB b1 s.heap j1 t1 k1) (i2 : ItB b2 s.heap j2 t2 k2) (l1 : IsB b1 s.heap t1 xs) (l2 : IsB b2 s.heap t2 ys) (en : xs[k1]? = none \/ ys[k2]? = none)
    (q : ∀ h' e, (∀ c o, c ≠ z -> c ≠ to -> c ≠ j1 -> c ≠ j2 -> s.heap.get? c = some o -> h'.get? c = some o) -> (∃ o, h'.get? e = some o /\ o.cls = .type "StopIteration") -> E (.ref e) { s with heap := h' }) :
    wpAny (model prog w) A (Builtin.«zip.__next__» ⟨[.ref z], []⟩) Q E s := by
  show wpAny _ _ (field (.ref z) 2 >>= _) _ _ _
  refine wpAny_bind (wpAny_field q0 rfl (x := .bool false) rfl (show wpAny _ _ (field (.ref z) 3 >>= _) _ _ _ from wpAny_bind (wpAny_field q0 rfl (x := .ref ti) rfl (wpAny_bind (wpAny_seqItems p1 rfl ?_)))))
  show wpAny _ _ (do let free <- Builtin.SmallTypes.ownedTupleIsFree (.ref z); _) _ _ _
  unfold Builtin.SmallTypes.ownedTupleIsFree
  refine wpAny_bind (wpAny_bind (wpAny_field q0 rfl (x := .none) rfl (wpAny_pure ?_)))
  simp only [if_true]
  refine wpAny_bind (wpAny_rule (wpAny_bind (wpAny_field q0 rfl (x := .ref to) rfl (wpAny_bind (wpAny_setField_rec q0 (by simp) fun u1 z1 s1 => ?_)))))
  have z1' : IsZip u1 z ti to .ellipsis := z1
  refine wpAny_bind ?_
  simp only [List.zipIdx_cons, List.zipIdx_nil, List.forIn_cons, List.forIn_nil]
  cases ex : xs[k1]? with
  | none =>
    refine wpAny_bind (wpAny_bind (wpAny_onRaise (show wpAny _ _ (Builtin.SmallTypes.nextOf (.ref j1) >>= _) _ _ _ from wpAny_bind (nxB_end hh (i1.extBut s1.extBut D.i1z) (l1.extBut s1.extBut D.l1z) ex fun u2 e s2 ⟨oe, e1, e2⟩ => ?_))))
    have z2 : IsZip u2 z ti to .ellipsis := s2 _ _ D.i1z.symm z1'
    have ne : e ≠ z := fun c => by subst c; rw [z2] at e1; cases e1; simp at e2
    exact wpAny_setField_rec z2 (by simp) fun u3 _ s3 => q u3 e (fun c o n1 _ n3 _ m => s3.extBut _ _ n1 (s2 _ _ n3 (s1.extBut _ _ n1 m))) ⟨oe, s3.extBut _ _ ne e1, e2⟩
  | some x =>
    have ey : ys[k2]? = none := by
      rcases en with m | m
      . rw [ex] at m; cases m
      . exact m
    refine wpAny_bind (wpAny_bind (wpAny_onRaise (show wpAny _ _ (Builtin.SmallTypes.nextOf (.ref j1) >>= _) _ _ _ from wpAny_bind (nxB_item (i1.extBut s1.extBut D.i1z) (l1.extBut s1.extBut D.l1z) ex fun u2 j1' s2 => wpAny_pure ?_))))
    have to2 : IsPair u2 to a b := s2.extBut _ _ D.TOi1 (s1.extBut _ _ D.TOz p2)
    refine wpAny_bind (wpAny_seqItems to2 rfl (wpAny_bind (wpAny_updateSeq_pair to2 fun u3 to3 s3 => wpAny_bind (wpAny_letGo (wpAny_pure ?_)))))
    refine wpAny_bind (wpAny_bind (wpAny_onRaise (show wpAny _ _ (Builtin.SmallTypes.nextOf (.ref j2) >>= _) _ _ _ from wpAny_bind (nxB_end hh (((i2.extBut s1.extBut D.i2z).extBut s2.extBut D.i12.symm).extBut s3.extBut D.TOi2.symm)
      (((l2.extBut s1.extBut D.l2z).extBut s2.extBut D.l2i1).extBut s3.extBut D.l2TO) ey fun u4 e s4 ⟨oe, e1, e2⟩ => ?_))))
    have z4 : IsZip u4 z ti to .ellipsis := s4 _ _ D.i2z.symm (s3.extBut _ _ D.TOz.symm (s2.extBut _ _ D.i1z.symm z1'))
    have ne : e ≠ z := fun c => by subst c; rw [z4] at e1; cases e1; simp at e2
    exact wpAny_setField_rec z4 (by simp) fun u5 _ s5 => q u5 e (fun c o n1 n2 n3 n4 m => s5.extBut _ _ n1 (s4 _ _ n4 (s3.extBut _ _ n2 (s2.extBut _ _ n3 (s1.extBut _ _ n1 m))))) ⟨oe, s5.extBut _ _ ne e1, e2⟩
theorem zg_next {b1 b2 : Bool} {z ti to j1 j2 t1 t2 : Addr} {k1 k2 : Nat} {xs ys : Array Value} {x y a b : Value} {Q : Option Value -> Shared -> Prop} (D : ZipApart z ti to j1 j2 t1 t2)
    (q0 : IsZip s.heap z ti to .none) (p1 : IsPair s.heap ti (.ref j1) (.ref j2)) (p2 : IsPair s.heap to a b)
    (i1 : ItB b1 s.heap j1 t1 k1) (i2 : ItB b2 s.heap j2 t2 k2) (l1 : IsB b1 s.heap t1 xs) (l2 : IsB b2 s.heap t2 ys) (ex : xs[k1]? = some x) (ey : ys[k2]? = some y)
    (q : ∀ h', IsZip h' z ti to (rawInt s.heap.objs.size) -> IsPair h' to x y -> ItB b1 h' j1 t1 (k1 + 1) -> ItB b2 h' j2 t2 (k2 + 1) -> IsPair h' s.heap.objs.size x y →
      (∀ c o, c ≠ z -> c ≠ to -> c ≠ j1 -> c ≠ j2 -> s.heap.get? c = some o -> h'.get? c = some o) -> Q (some (.ref s.heap.objs.size)) { s with heap := h' }) :
    wpAny (model prog w) A (pyNext (.ref z)) Q E s := by
  have ty : s.TypeIs (.ref z) "zip" := ⟨_, q0, rfl⟩
  unfold pyNext
  exact wpAny_bind (wpAny_attempt (wpAny_callSpecial?_slot (name := Str.ofString "__next__") ty F.slot_zip_next (wpAny_call_entry F.slot_zip_next ty F.entry_zip_next
    (zg_item D q0 p1 p2 i1 i2 l1 l2 ex ey fun h' b1 b2 b3 b4 b5 b6 => wpAny_pure (q h' b1 b2 b3 b4 b5 b6)) (F.args_zip_next_1 _))))
theorem zg_stop {b1 b2 : Bool} {z ti to j1 j2 t1 t2 : Addr} {k1 k2 : Nat} {xs ys : Array Value} {a b : Value} {Q : Option Value -> Shared -> Prop} (hh : A.handled = none) (D : ZipApart z ti to j1 j2 t1 t2)
    (q0 : IsZip s.heap z ti to .none) (p1 : IsPair s.heap ti (.ref j1) (.ref j2)) (p2 : IsPair s.heap to a b)
    (i1 : ItB b1 s.heap j1 t1 k1) (i2 : ItB b2 s.heap j2 t2 k2) (l1 : IsB b1 s.heap t1 xs) (l2 : IsB b2 s.heap t2 ys) (en : xs[k1]? = none \/ ys[k2]? = none)
    (q : ∀ h', (∀ c o, c ≠ z -> c ≠ to -> c ≠ j1 -> c ≠ j2 -> s.heap.get? c = some o -> h'.get? c = some o) -> Q none { s with heap := h' }) : wpAny (model prog w) A (pyNext (.ref z)) Q E s := by
  have ty : s.TypeIs (.ref z) "zip" := ⟨_, q0, rfl⟩
  unfold pyNext
  refine wpAny_bind (wpAny_attempt (wpAny_callSpecial?_slot (name := Str.ofString "__next__") ty F.slot_zip_next (wpAny_call_entry F.slot_zip_next ty F.entry_zip_next
    (zg_end hh D q0 p1 p2 i1 i2 l1 l2 en fun h' e kp ⟨o, e1, e2⟩ => wpAny_bind (wpAny_isInstance (T := "StopIteration") (b := true) ⟨o, e1, e2⟩ isSubtype_stop (wpAny_pure (q _ kp)))) (F.args_zip_next_1 _))))
end
abbrev zg1 (b1 : Bool) (h : Heap) (t1 : Addr) : Heap := h.push { cls := .type (itN b1), data := .fields #[.ref t1, .int 0 0] }
abbrev zg2 (b1 b2 : Bool) (h : Heap) (t1 t2 : Addr) : Heap := (zg1 b1 h t1).push { cls := .type (itN b2), data := .fields #[.ref t2, .int 0 0] }
abbrev zg3 (b1 b2 : Bool) (h : Heap) (t1 t2 : Addr) : Heap := (zg2 b1 b2 h t1 t2).push { cls := .type "tuple", data := .seq #[.ref h.objs.size, .ref (zg1 b1 h t1).objs.size] }
abbrev zg4 (b1 b2 : Bool) (h : Heap) (t1 t2 : Addr) : Heap := (zg3 b1 b2 h t1 t2).push { cls := .type "tuple", data := .seq #[.none, .none] }
abbrev zg5 (b1 b2 : Bool) (h : Heap) (t1 t2 : Addr) : Heap := (zg4 b1 b2 h t1 t2).push { cls := .type "zip", data := .fields #[.none, .bool false, .bool false, .ref (zg2 b1 b2 h t1 t2).objs.size, .ref (zg3 b1 b2 h t1 t2).objs.size] }
theorem zg_new (b1 b2 : Bool) (t1 t2 : Addr) (xs ys : Array Value) :
    Meets (Builtin.«zip.__new__» ⟨[.type "zip", .ref t1, .ref t2], []⟩) (fun _ R s => IsB b1 s.heap t1 xs /\ IsB b2 s.heap t2 ys /\ R (.ok (.ret (.ref (zg4 b1 b2 s.heap t1 t2).objs.size))) { s with heap := zg5 b1 b2 s.heap t1 t2 }) :=
  .of_wp fun prog w A R s h => by
    obtain ⟨hp, g, d, tk, os⟩ := s
    obtain ⟨e1, e2, h⟩ := h
    have hsub := sub_zip
    have m1 : IsB b1 (Shared.heap ⟨hp, g, d, tk, os⟩) t1 xs := e1
    have m2 : IsB b2 (Shared.heap ⟨hp.push { cls := .type (itN b1), data := .fields #[.ref t1, .int 0 0] }, g, d, tk, os⟩) t2 ys := IsB.push e2 _
    wp_walk using iterB m1, iterB m2
    exact ⟨_, rfl, h⟩
section
variable {prog : Program} {w : World} {A : Around} {E : Value -> Shared -> Prop} {s : Shared}
theorem zg_call {b1 b2 : Bool} {t1 t2 : Addr} {xs ys : Array Value} {Q : Value -> Shared -> Prop} (l1 : IsB b1 s.heap t1 xs) (l2 : IsB b2 s.heap t2 ys)
    (q : ∀ h', IsZip h' (s.heap.objs.size + 4) (s.heap.objs.size + 2) (s.heap.objs.size + 3) .none -> IsPair h' (s.heap.objs.size + 2) (.ref s.heap.objs.size) (.ref (s.heap.objs.size + 1)) -> IsPair h' (s.heap.objs.size + 3) .none .none →
      ItB b1 h' s.heap.objs.size t1 0 -> ItB b2 h' (s.heap.objs.size + 1) t2 0 -> (∀ c o, s.heap.get? c = some o -> h'.get? c = some o) -> Q (.ref (s.heap.objs.size + 4)) { s with heap := h' }) :
    wpAny (model prog w) A (call (.type "zip") [.ref t1, .ref t2]) Q E s := by
  refine callType_new F.called_zip (by decide) (F.typeCall_zip_2 _ _) (F.newCall_zip_2 _ _) (fun ob => F.args_object_init_3 ob _ _) F.entry_zip_new (zg_new b1 b2 t1 t2 xs ys) ⟨l1, l2, ?_⟩
  have n1 : (zg1 b1 s.heap t1).objs.size = s.heap.objs.size + 1 := Heap.size_push ..
  have n2 : (zg2 b1 b2 s.heap t1 t2).objs.size = s.heap.objs.size + 2 := by rw [Heap.size_push, n1]
  have n3 : (zg3 b1 b2 s.heap t1 t2).objs.size = s.heap.objs.size + 3 := by rw [Heap.size_push, n2]
  have n4 : (zg4 b1 b2 s.heap t1 t2).objs.size = s.heap.objs.size + 4 := by rw [Heap.size_push, n3]
  have p5 : (zg5 b1 b2 s.heap t1 t2).get? (zg4 b1 b2 s.heap t1 t2).objs.size = some _ := Heap.get?_push_size _ rfl
  have p4 : (zg5 b1 b2 s.heap t1 t2).get? (zg3 b1 b2 s.heap t1 t2).objs.size = some _ := Heap.get?_push_of_some _ (Heap.get?_push_size _ rfl)
  have p3 : (zg5 b1 b2 s.heap t1 t2).get? (zg2 b1 b2 s.heap t1 t2).objs.size = some _ := Heap.get?_push_of_some _ (Heap.get?_push_of_some _ (Heap.get?_push_size _ rfl))
  have p2 : (zg5 b1 b2 s.heap t1 t2).get? (zg1 b1 s.heap t1).objs.size = some _ := Heap.get?_push_of_some _ (Heap.get?_push_of_some _ (Heap.get?_push_of_some _ (Heap.get?_push_size _ rfl)))
  have p1 : (zg5 b1 b2 s.heap t1 t2).get? s.heap.objs.size = some _ := Heap.get?_push_of_some _ (Heap.get?_push_of_some _ (Heap.get?_push_of_some _ (Heap.get?_push_of_some _ (Heap.get?_push_size _ rfl))))
  rw [n2, n3, n4] at p5
  rw [n1, n2] at p3
  rw [n3] at p4
  rw [n1] at p2
  show _ /\ _
  rw [n4]
  refine ⟨⟨_, p5, rfl⟩, q _ p5 p3 p4 (ItB.mk p1) (ItB.mk p2) fun c o m => ?_⟩
  exact Heap.get?_push_of_some _ (Heap.get?_push_of_some _ (Heap.get?_push_of_some _ (Heap.get?_push_of_some _ (Heap.get?_push_of_some _ m))))
end
def Itg (b1 b2 : Bool) (K : W.Frag) (l1 l2 : Addr) : It :=
  ⟨fun i H => ∃ xs ys x y, SqB b1 K H l1 xs /\ SqB b2 K H l2 ys /\ xs[i]? = some x /\ ys[i]? = some y,
   fun i H x H' => ∃ p a b, H p = none /\ x = .ref p /\ H' = upd H p (.tup [a, b]) /\ ∀ xs ys, SqB b1 K H l1 xs -> SqB b2 K H l2 ys -> xs[i]? = some a /\ ys[i]? = some b,
   fun i H => ∃ xs ys, SqB b1 K H l1 xs /\ SqB b2 K H l2 ys /\ (xs.length <= i \/ ys.length <= i)⟩
theorem turn_zg {b1 b2 : Bool} {P : Program} {w : World} {K : W.Frag} {elts : List Expr} {x1 : Nat} {pos : Pos} {z ti to j1 j2 l1 l2 : Addr} (D : ZipApart z ti to j1 j2 l1 l2) :
    Turn P w K (.Tuple elts x1 pos) (Itg b1 b2 K l1 l2) [z, ti, to, j1, j2] z (fun i h => IsZip h z ti to .none /\ IsPair h ti (.ref j1) (.ref j2) /\ (∃ a b, IsPair h to a b) /\ ItB b1 h j1 l1 i /\ ItB b2 h j2 l2 i) where
  mem := by simp
  obj := fun i h st b hb => by
    obtain ⟨hz, hti, ⟨a, c, hto⟩, h1, h2⟩ := st
    obtain ⟨o1, e1, v1, d1⟩ := h1.obj
    obtain ⟨o2, e2, v2, d2⟩ := h2.obj
    simp only [List.mem_cons, List.not_mem_nil, or_false] at hb
    rcases hb with rfl | rfl | rfl | rfl | rfl
    . exact ⟨_, hz, fun v q => by cases q⟩
    . exact ⟨_, hti, fun v q => by cases q⟩
    . exact ⟨_, hto, fun v q => by cases q⟩
    . exact ⟨o1, e1, fun v q => by rw [d1] at q; cases q⟩
    . exact ⟨o2, e2, fun v q => by rw [d2] at q; cases q⟩
  keep := fun i h h' st k => by
    obtain ⟨hz, hti, ⟨a, c, hto⟩, h1, h2⟩ := st
    exact ⟨k z (by simp) _ hz, k ti (by simp) _ hti, ⟨a, c, k to (by simp) _ hto⟩, ItB.at' h1 fun o e => k j1 (by simp) o e, ItB.at' h2 fun o e => k j2 (by simp) o e⟩
  item := by
    intro X hP hw hK hc i pins s σ H E I hf st hg
    subst hP hw hK
    obtain ⟨xs, ys, x, y, hq1, hq2, hx, hy⟩ := hg
    obtain ⟨hz, hti, ⟨a, c, hto⟩, h1, h2⟩ := st
    obtain ⟨its1, rv1, p1, _⟩ := I.sqB hq1
    obtain ⟨its2, rv2, p2, _⟩ := I.sqB hq2
    obtain ⟨u1, hu1, ru1⟩ := rv1.get hx
    obtain ⟨u2, hu2, ru2⟩ := rv2.get hy
    refine zg_next D hz hti hto h1 h2 p1 p2 (x := u1) (y := u2) (by simpa using hu1) (by simpa using hu2) fun h' a1 a2 a3 a4 a5 a7 => ?_
    refine ⟨_, rfl, wpAny_letOwnedTupleGo_zip (s := { s with heap := h' }) a1 fun h'' hz'' hs'' => ?_⟩
    have neT : ∀ b ∈ [z, ti, to, j1, j2], b ≠ s.heap.objs.size := fun b hb e => by
      have : ∃ o, s.heap.get? b = some o := by
        obtain ⟨o1, e1, _⟩ := h1.obj
        obtain ⟨o2, e2, _⟩ := h2.obj
        simp only [List.mem_cons, List.not_mem_nil, or_false] at hb
        rcases hb with rfl | rfl | rfl | rfl | rfl
        . exact ⟨_, hz⟩
        . exact ⟨_, hti⟩
        . exact ⟨_, hto⟩
        . exact ⟨_, e1⟩
        . exact ⟨_, e2⟩
      obtain ⟨o, ho⟩ := this
      exact absurd (Heap.lt_size ho) (by rw [e]; exact Nat.lt_irrefl _)
    have kk : ∀ b o, b ∉ [z, ti, to, j1, j2] -> s.heap.get? b = some o -> h''.get? b = some o := fun b o hb e => by
      simp only [List.mem_cons, List.not_mem_nil, or_false, not_or] at hb
      exact hs''.extBut b o hb.1 (a7 b o hb.1 hb.2.2.1 hb.2.2.2.1 hb.2.2.2.2 e)
    have tti : h'.get? ti = _ := a7 ti _ D.TIz D.TITO D.TIi1 D.TIi2 hti
    have st' : IsZip h'' z ti to .none /\ IsPair h'' ti (.ref j1) (.ref j2) /\ (∃ a b, IsPair h'' to a b) /\ ItB b1 h'' j1 l1 (i + 1) /\ ItB b2 h'' j2 l2 (i + 1) :=
      ⟨hz'', hs''.extBut _ _ D.TIz tti, ⟨_, _, hs''.extBut _ _ D.TOz a2⟩, a3.extBut hs''.extBut D.i1z, a4.extBut hs''.extBut D.i2z⟩
    have hoF : ∀ b ∈ [z, ti, to, j1, j2], ∃ o, h''.get? b = some o := fun b hb => by
      obtain ⟨q1, q2, ⟨_, _, q3⟩, q4, q5⟩ := st'
      obtain ⟨o1, e1, _⟩ := q4.obj
      obtain ⟨o2, e2, _⟩ := q5.obj
      simp only [List.mem_cons, List.not_mem_nil, or_false] at hb
      rcases hb with rfl | rfl | rfl | rfl | rfl
      . exact ⟨_, q1⟩
      . exact ⟨_, q2⟩
      . exact ⟨_, q3⟩
      . exact ⟨_, e1⟩
      . exact ⟨_, e2⟩
    have zs : z ≠ s.heap.objs.size := neT z (by simp)
    have tup : IsTup h'' s.heap.objs.size [u1, u2].toArray := ⟨_, hs''.extBut _ _ (Ne.symm zs) a5, rfl, 0, rfl⟩
    refine ⟨.ref s.heap.objs.size, upd H s.heap.objs.size (.tup [x, y]), I.turnedLaid (h' := h'') hf kk hoF (Nat.le_refl _) (by show 2 <= sizeLine; decide) (.cons ru1 (.cons ru2 .nil)) tup, rfl, ⟨_, x, y, I.fresh, rfl, rfl, fun xs' ys' q1 q2 => ?_⟩, st', fun b hb => ?_⟩
    . rw [I.sqB_inj q1 hq1, I.sqB_inj q2 hq2]; exact ⟨hx, hy⟩
    . rw [upd_ne (neT b hb)]; exact (hf b hb).1
  done := by
    intro X hP hw hK hc i pins s σ H E I hf st hg
    subst hP hw hK
    obtain ⟨xs, ys, hq1, hq2, hend⟩ := hg
    obtain ⟨hz, hti, ⟨a, c, hto⟩, h1, h2⟩ := st
    obtain ⟨its1, rv1, p1, _⟩ := I.sqB hq1
    obtain ⟨its2, rv2, p2, _⟩ := I.sqB hq2
    have hl1 := rv1.length
    have hl2 := rv2.length
    refine zg_stop (I.ok.hd hc) D hz hti hto h1 h2 p1 p2 (by
      rcases hend with q | q
      . exact .inl (by simp; omega)
      . exact .inr (by simp; omega)) fun h' k => ⟨rfl, I.turnedAll hf fun b o hb e => ?_⟩
    simp only [List.mem_cons, List.not_mem_nil, or_false, not_or] at hb
    exact k b o hb.1 hb.2.2.1 hb.2.2.2.1 hb.2.2.2.2 e
  self := fun _ _ _ _ _ st h => wpAny_pyIter_zip st.1 h
def iZg (b1 b2 : Bool) (K : W.Frag) (ta : TA) : TI := fun σ H R => ta σ H fun vs H1 => ∃ l1 l2, vs = [.ref l1, .ref l2] /\ (∃ xs, SqB b1 K H1 l1 xs) /\ (∃ ys, SqB b2 K H1 l2 ys) /\ R (Itg b1 b2 K l1 l2) H1
theorem pi_zg (b1 b2 : Bool) (K : W.Frag) {X : Cx} {a b : Expr} {ta : TA} {p pos pos' : Pos} {elts : List Expr} {x1 : Nat} (hK : X.K = K) (hg : Gl X "zip") (hm : X.mg "zip" = none) (ha : PA X [a, b] ta) (hs : starEach [a, b] X.env = [(false, eval a X.env), (false, eval b X.env)] := by rfl) (hs2 : starEach [b] X.env = [(false, eval b X.env)] := by rfl) :
    PI X (.Tuple elts x1 pos') (.Call (.Name "zip" p) [a, b] [] pos) (iZg b1 b2 K ta) := by
  subst hK
  intro pins s σ H R I h
  refine Call_ (ld_blt I hg hm boot_zip (PyProof.Rows.callWith_type1 (thn (ha pos pins s σ H _ I h) fun us s1 ⟨vs, H1, I1, r1, q1⟩ => ?_) (by rw [hs, hs2]) (by rw [hs2]; rfl)))
  obtain ⟨l1, l2, e, ⟨xs, q1⟩, ⟨ys, q2⟩, q⟩ := q1
  subst e
  obtain ⟨u1, u2, rfl, ru1, ru2⟩ := vals2 r1
  cases ru1
  cases ru2
  obtain ⟨its1, rv1, p1, _⟩ := I1.sqB q1
  obtain ⟨its2, rv2, p2, _⟩ := I1.sqB q2
  refine zg_call p1 p2 fun h' z1 z2 z3 z4 z5 k => ?_
  have I2 : Inv X pins σ H1 { s1 with heap := h' } := I1.kept (t' := s1.toks) k
  refine wpAny_pyIter_zip z1 ?_
  have D : ZipApart (s1.heap.objs.size + 4) (s1.heap.objs.size + 2) (s1.heap.objs.size + 3) s1.heap.objs.size (s1.heap.objs.size + 1) l1 l2 := zapart _ _ _ p1.lt p2.lt
  refine ⟨s1.heap.objs.size + 4, [s1.heap.objs.size + 4, s1.heap.objs.size + 2, s1.heap.objs.size + 3, s1.heap.objs.size, s1.heap.objs.size + 1], _, _, H1, rfl, I2, turn_zg D, ⟨z1, z2, ⟨_, _, z3⟩, z4, z5⟩, fun b hb => ?_, q⟩
  have hb' : s1.heap.objs.size <= b := by
    simp only [List.mem_cons, List.not_mem_nil, or_false] at hb
    rcases hb with rfl | rfl | rfl | rfl | rfl
    . exact Nat.le_add_right _ _
    . exact Nat.le_add_right _ _
    . exact Nat.le_add_right _ _
    . exact Nat.le_refl _
    . exact Nat.le_add_right _ _
  exact I1.fpOk hb' (I1.hok.fresh hb')
section
variable {b1 b2 : Bool} {xs ys : List V} {K : W.Frag} {l1 l2 : Addr} {fr : List Nat} {te : TE} {σ : St} {H1 : Hp} {p : Addr} {D : Hp -> Prop}
theorem lc_zgS (h1 : SqB b1 K H1 l1 xs) (h2 : SqB b2 K H1 l2 ys) (hp : H1 p = none) (hz : xs.length < sizeLine) (R : Nat -> V -> Hp -> Prop) (hR : ∀ i y H H', R i y H -> (∀ b o, b ≠ p -> H b = some o -> H' b = some o) -> R i y H')
    (step : ∀ (i : Nat) x y H zs (N : VK), xs[i]? = some x -> ys[i]? = some y -> Same H1 H -> H p = some (.lst zs) -> (∀ v H3, Same H H3 -> R i v H3 -> N v H3) -> te (((blkσ 2 fr σ).set 0 (some x)).set 1 (some y)) H N)
    (hd : ∀ zs H, Same H1 H -> H p = some (.lst zs) -> zs.length = min xs.length ys.length -> (∀ i z, zs[i]? = some z -> R i z H) -> D H) : lcW 2 fr (gTup K 2 (gCons (gName 0) (gCons (gName 1) gNil))) te σ (Itg b1 b2 K l1 l2) H1 p D := by
  refine ⟨fun i m zs H => m = min xs.length ys.length - i /\ i <= min xs.length ys.length /\ Same H1 H /\ H p = some (.lst zs) /\ zs.length = i /\ ∀ j y, zs[j]? = some y -> R j y H, ⟨_, rfl, Nat.zero_le _, Same.new hp _, upd_same, rfl, fun j y e => by simp at e⟩, ?_⟩
  rintro i m zs H ⟨rfl, hi, e, hH, len, pr⟩
  by_cases hlt : i < min xs.length ys.length
  . have hx : i < xs.length := by omega
    have hy : i < ys.length := by omega
    refine .inr ⟨⟨xs, ys, xs[i], ys[i], e.sqB h1, e.sqB h2, List.getElem?_eq_getElem hx, List.getElem?_eq_getElem hy⟩, fun u H' y => ?_⟩
    obtain ⟨q, a, b, hq, rfl, rfl, hab⟩ := y
    obtain ⟨ha, hb⟩ := hab xs ys (e.sqB h1) (e.sqB h2)
    have s1 := Same.new hq (.tup [a, b])
    refine ⟨q, _, rfl, SqT.of upd_same, rfl, _, _, rfl, _, _, rfl, rfl, ?_, ?_⟩
    . refine ⟨by simp, fun k w ek => ?_⟩
      have : ¬ k < 2 := fun hk => by
        unfold blkσ at ek
        rw [List.getElem?_append_left (by simpa using hk), List.getElem?_replicate] at ek
        split at ek <;> cases ek
      rw [List.getElem?_set_ne (by omega), List.getElem?_set_ne (by omega)]; exact ek
    . refine step i a b _ zs _ ha hb (e.trans s1) (s1 _ _ hH) fun v H3 s3 r3 => ⟨s3 _ _ (s1 _ _ hH), by omega, min xs.length ys.length - (i + 1), by omega, rfl, hlt, fun b' o q' => ?_, upd_same, by rw [List.length_append, len]; rfl, fun j y ey => ?_⟩
      . rw [upd_ne (ne_of_none q' hp)]; exact s3 _ _ (s1 _ _ (e _ _ q'))
      . have up : ∀ b o, b ≠ p -> H3 b = some o -> upd H3 p (.lst (zs ++ [v])) b = some o := fun b o hb q => by rw [upd_ne hb]; exact q
        by_cases hj : j < zs.length
        . rw [List.getElem?_append_left hj] at ey
          exact hR j y _ _ (pr j y ey) fun b o hb q => up b o hb (s3 _ _ (s1 _ _ q))
        . rw [List.getElem?_append_right (by omega)] at ey
          have hj' : j - zs.length = 0 := by
            cases q : j - zs.length with
            | zero => rfl
            | succ k => rw [q] at ey; simp at ey
          rw [hj'] at ey
          have : j = i := by omega
          subst this
          simp at ey
          subst ey
          exact hR j v _ _ r3 up
  . have : i = min xs.length ys.length := by omega
    subst this
    exact .inl ⟨⟨xs, ys, e.sqB h1, e.sqB h2, by omega⟩, hd zs H e hH len pr⟩
theorem lc_zg (h1 : SqB b1 K H1 l1 xs) (h2 : SqB b2 K H1 l2 ys) (hp : H1 p = none) (hz : xs.length < sizeLine) (F : V -> V -> V)
    (step : ∀ (i : Nat) x y H (N : VK), xs[i]? = some x -> ys[i]? = some y -> Same H1 H -> N (F x y) H -> te (((blkσ 2 fr σ).set 0 (some x)).set 1 (some y)) H N)
    (hd : ∀ H, Same H1 H -> H p = some (.lst (List.zipWith F xs ys)) -> D H) : lcW 2 fr (gTup K 2 (gCons (gName 0) (gCons (gName 1) gNil))) te σ (Itg b1 b2 K l1 l2) H1 p D := by
  refine lc_zgS h1 h2 hp hz (fun i v _ => ∀ x y, xs[i]? = some x -> ys[i]? = some y -> v = F x y) (fun _ _ _ _ r _ => r) (fun i x y H zs N hx hy e _ hN => step i x y H N hx hy e (hN _ _ (Same.refl _) fun x' y' ex ey => ?_)) fun zs H e hH hl hr => hd H e ?_
  . rw [hx] at ex; rw [hy] at ey; cases ex; cases ey; rfl
  . rw [hH]
    congr 2
    refine List.ext_getElem? fun i => ?_
    by_cases hi : i < min xs.length ys.length
    . have a1 : i < zs.length := by omega
      have a2 : i < xs.length := by omega
      have a3 : i < ys.length := by omega
      rw [List.getElem?_eq_getElem a1, List.getElem?_eq_getElem (by rw [List.length_zipWith]; exact hi), List.getElem_zipWith, hr i _ (List.getElem?_eq_getElem a1) _ _ (List.getElem?_eq_getElem a2) (List.getElem?_eq_getElem a3)]
    . rw [List.getElem?_eq_none (by omega), List.getElem?_eq_none (by rw [List.length_zipWith]; omega)]
theorem for_zg {i1 i2 : Nat} {tb : TS} {D : Ends} {H : Hp} (Pv : Nat -> St -> Hp -> Prop) (h0 : Pv 0 σ H) (hl : ∀ i σ H, Pv i σ H -> SqB b1 K H l1 xs /\ SqB b2 K H l2 ys)
    (hs : ∀ i x y σ H q, xs[i]? = some x -> ys[i]? = some y -> Pv i σ H -> H q = none -> tb { D with nx := Pv (i + 1), ct := Pv (i + 1), bk := D.nx } ((σ.set i1 (some x)).set i2 (some y)) (upd H q (.tup [x, y]))) (hd : ∀ σ H, Pv (min xs.length ys.length) σ H -> D.nx σ H) :
    ∃ W : Nat -> Nat -> St -> Hp -> Prop, (∃ m, W 0 m σ H) /\ ∀ i m σ H, W i m σ H →
      ((Itg b1 b2 K l1 l2).stop i H /\ D.nx σ H) \/ ((Itg b1 b2 K l1 l2).go i H /\ ∃ N : St -> Hp -> Prop, (∀ σ' H', N σ' H' -> ∃ m', m' < m /\ W (i + 1) m' σ' H') /\ ∀ x H', (Itg b1 b2 K l1 l2).yld i H x H' -> gTup K 2 (gCons (gName i1) (gCons (gName i2) gNil)) x σ H' fun σ2 H2 => tb { D with nx := N, ct := N, bk := D.nx } σ2 H2) := by
  refine ⟨fun i m σ H => m = min xs.length ys.length - i /\ i <= min xs.length ys.length /\ Pv i σ H, ⟨_, rfl, Nat.zero_le _, h0⟩, ?_⟩
  rintro i m σ H ⟨rfl, hi, p⟩
  obtain ⟨q1, q2⟩ := hl i σ H p
  by_cases hlt : i < min xs.length ys.length
  . have hx : i < xs.length := by omega
    have hy : i < ys.length := by omega
    refine .inr ⟨⟨xs, ys, xs[i], ys[i], q1, q2, List.getElem?_eq_getElem hx, List.getElem?_eq_getElem hy⟩, Pv (i + 1), fun σ' H' p' => ⟨min xs.length ys.length - (i + 1), by omega, rfl, hlt, p'⟩, fun u H' y => ?_⟩
    obtain ⟨q, a, b, hq, rfl, rfl, hab⟩ := y
    obtain ⟨ha, hb⟩ := hab xs ys q1 q2
    exact ⟨q, _, rfl, SqT.of upd_same, rfl, _, _, rfl, _, _, rfl, rfl, hs i a b σ H q ha hb p hq⟩
  . have : i = min xs.length ys.length := by omega
    subst this
    exact .inl ⟨⟨xs, ys, q1, q2, by omega⟩, hd σ H p⟩
end
section
variable {xs ys : List V} {K : W.Frag} {l1 l2 : Addr} {fr : List Nat} {te : TE} {σ : St} {H1 : Hp} {p : Addr} {D : Hp -> Prop}
end
theorem pi_any {X : Cx} {tg iter : Expr} {w : Bool -> TI} (h : ∀ b, PI X tg iter (w b)) : PI X tg iter (fun σ H R => ∃ b, w b σ H R) := fun pins s σ H R I ⟨b, q⟩ => h b pins s σ H R I q
end L2
namespace Fr
abbrev Q2 := Int × Int
def gI (a b : Int) : Int := (Int.gcd a b : Int)
def low (t b : Int) : Q2 := (t / gI t b, b / gI t b)
def Canon (f : Q2) : Prop := 0 < f.2 /\ Int.gcd f.1 f.2 = 1
theorem gI_nonneg (a b : Int) : 0 <= gI a b := Int.natCast_nonneg _
theorem gI_dvd_left (a b : Int) : gI a b ∣ a := Int.gcd_dvd_left ..
theorem gI_dvd_right (a b : Int) : gI a b ∣ b := Int.gcd_dvd_right ..
theorem gI_pos {a b : Int} (hb : 0 < b) : 0 < gI a b := by
  have h0 := gI_nonneg a b
  by_cases z : gI a b = 0
  . have := gI_dvd_right a b
    rw [z, Int.zero_dvd] at this
    omega
  . omega
theorem gI_le {a b : Int} (hb : 0 < b) : gI a b <= b := Int.le_of_dvd hb (gI_dvd_right a b)
theorem dvd_gI {c a b : Int} (h1 : c ∣ a) (h2 : c ∣ b) : c ∣ gI a b := Int.dvd_coe_gcd h1 h2
theorem eq_of_dvd {a b : Int} (ha : 0 <= a) (hb : 0 <= b) (h1 : a ∣ b) (h2 : b ∣ a) : a = b := Int.dvd_antisymm ha hb h1 h2
theorem gI_step (a b : Int) : gI b (a % b) = gI a b := by
  refine eq_of_dvd (gI_nonneg _ _) (gI_nonneg _ _) (dvd_gI ?_ (gI_dvd_left _ _)) (dvd_gI (gI_dvd_right _ _) ?_)
  . have h1 := gI_dvd_left b (a % b)
    have h2 := gI_dvd_right b (a % b)
    have := Int.dvd_add (Int.dvd_mul_of_dvd_left (c := a / b) h1) h2
    rw [Int.mul_ediv_add_emod] at this
    exact this
  . have h1 := gI_dvd_left a b
    have h2 := gI_dvd_right a b
    have := Int.dvd_sub h1 (Int.dvd_mul_of_dvd_left (c := a / b) h2)
    rw [Int.emod_def]
    exact this
theorem gI_zero (a : Int) : gI a 0 = a.natAbs := by unfold gI; rw [Int.gcd_zero_right]
theorem gI_neg (a b : Int) : gI (-a) b = gI a b := by unfold gI; rw [Int.neg_gcd]
theorem low_pos {t b : Int} (hb : 0 < b) : 0 < (low t b).2 := by
  have h := gI_pos (a := t) hb
  obtain ⟨k, hk⟩ := gI_dvd_right t b
  show 0 < b / gI t b
  have e : b / gI t b = k := by
    have : b / gI t b = (gI t b * k) / gI t b := by rw [<- hk]
    rw [this, Int.mul_ediv_cancel_left _ (by omega)]
  rw [e]
  by_cases z : 0 < k
  . exact z
  . have := Int.mul_nonneg (Int.le_of_lt h) (show 0 <= -k by omega)
    rw [Int.mul_neg] at this
    omega
theorem low_parts {t b : Int} (hb : 0 < b) : t = gI t b * (low t b).1 /\ b = gI t b * (low t b).2 :=
  ⟨(Int.mul_ediv_cancel' (gI_dvd_left t b)).symm, (Int.mul_ediv_cancel' (gI_dvd_right t b)).symm⟩
theorem low_cross {t b : Int} (hb : 0 < b) : (low t b).1 * b = t * (low t b).2 := by
  obtain ⟨h1, h2⟩ := low_parts (t := t) hb
  generalize gI t b = g at h1 h2
  generalize low t b = f at h1 h2
  rw [h1, h2]
  ac_rfl
theorem low_canon {t b : Int} (hb : 0 < b) : Canon (low t b) := by
  refine ⟨low_pos hb, ?_⟩
  obtain ⟨h1, h2⟩ := low_parts (t := t) hb
  have hg := gI_pos (a := t) hb
  have q : gI t b * gI (low t b).1 (low t b).2 ∣ gI t b * 1 := by
    rw [Int.mul_one]
    refine dvd_gI ?_ ?_
    . have := Int.mul_dvd_mul_left (gI t b) (gI_dvd_left (low t b).1 (low t b).2)
      rw [<- h1] at this
      exact this
    . have := Int.mul_dvd_mul_left (gI t b) (gI_dvd_right (low t b).1 (low t b).2)
      rw [<- h2] at this
      exact this
  have q2 : gI (low t b).1 (low t b).2 ∣ 1 := Int.dvd_of_mul_dvd_mul_left (by omega) q
  have q3 : gI (low t b).1 (low t b).2 = 1 := eq_of_dvd (gI_nonneg _ _) (by decide) q2 (Int.one_dvd _)
  unfold gI at q3
  omega
theorem coprime_dvd {a b c : Int} (h : Int.gcd a b = 1) (d : b ∣ a * c) : b ∣ c := by
  have h' : Nat.Coprime b.natAbs a.natAbs := by
    rw [Nat.coprime_comm]; exact h
  have d' : b.natAbs ∣ a.natAbs * c.natAbs := by rw [<- Int.natAbs_mul]; exact Int.natAbs_dvd_natAbs.mpr d
  exact Int.natAbs_dvd_natAbs.mp (h'.dvd_of_dvd_mul_left d')
theorem canon_unique {f g : Q2} (hf : Canon f) (hg : Canon g) (h : f.1 * g.2 = g.1 * f.2) : f = g := by
  have d1 : f.2 ∣ g.2 := coprime_dvd hf.2 ⟨g.1, by rw [h, Int.mul_comm]⟩
  have d2 : g.2 ∣ f.2 := coprime_dvd hg.2 ⟨f.1, by rw [<- h, Int.mul_comm]⟩
  have e2 : f.2 = g.2 := eq_of_dvd (Int.le_of_lt hf.1) (Int.le_of_lt hg.1) d1 d2
  have e1 : f.1 = g.1 := by
    rw [e2] at h
    exact Int.eq_of_mul_eq_mul_right (by have := hg.1; omega) h
  exact Prod.ext e1 e2
theorem low_eq {t b t' b' : Int} (hb : 0 < b) (hb' : 0 < b') (h : t * b' = t' * b) : low t b = low t' b' := by
  refine canon_unique (low_canon hb) (low_canon hb') ?_
  have c1 := low_cross (t := t) hb
  have c2 := low_cross (t := t') hb'
  generalize low t b = x at c1 ⊢
  generalize low t' b' = y at c2 ⊢
  refine Int.eq_of_mul_eq_mul_right (a := b * b') (by have := Int.mul_pos hb hb'; omega) ?_
  calc x.1 * y.2 * (b * b') = (x.1 * b) * (y.2 * b') := by ac_rfl
    _ = (t * b') * (x.2 * y.2) := by rw [c1]; ac_rfl
    _ = (t' * y.2) * (b * x.2) := by rw [h]; ac_rfl
    _ = (y.1 * b') * (b * x.2) := by rw [c2]
    _ = y.1 * x.2 * (b * b') := by ac_rfl
theorem low_self {f : Q2} (hf : Canon f) : low f.1 f.2 = f := by
  refine canon_unique (low_canon hf.1) hf ?_
  exact low_cross hf.1
abbrev Term := Int × Q2
def rawStep (s : Q2) (x : Term) : Q2 := (s.1 * x.2.2 + x.1 * x.2.1 * s.2, s.2 * x.2.2)
def raw (l : List Term) : Q2 := l.foldl rawStep (0, 1)
def lawStep (s : Q2) (x : Term) : Q2 := (s.1 * (x.2.2 / gI s.2 x.2.2) + x.1 * x.2.1 * (s.2 / gI s.2 x.2.2), s.2 / gI s.2 x.2.2 * x.2.2)
def Cross (a b : Q2) : Prop := a.1 * b.2 = b.1 * a.2
theorem div_pos_of_dvd {a m : Int} (ha : 0 < a) (hm : 0 < m) (h : m ∣ a) : 0 < a / m /\ m * (a / m) = a := by
  have e := Int.mul_ediv_cancel' h
  refine ⟨?_, e⟩
  by_cases z : 0 < a / m
  . exact z
  . have := Int.mul_nonneg (Int.le_of_lt hm) (show 0 <= -(a / m) by omega)
    rw [Int.mul_neg] at this
    omega
theorem law_pos {s : Q2} {x : Term} (hs : 0 < s.2) (hx : 0 < x.2.2) : 0 < (lawStep s x).2 := by
  have hm := gI_pos (a := s.2) hx
  exact Int.mul_pos (div_pos_of_dvd hs hm (gI_dvd_left _ _)).1 hx
theorem law_cross {s r : Q2} {x : Term} (hs : 0 < s.2) (hx : 0 < x.2.2) (h : Cross s r) : Cross (lawStep s x) (rawStep r x) := by
  have hm := gI_pos (a := s.2) hx
  obtain ⟨_, h1⟩ := div_pos_of_dvd hs hm (gI_dvd_left s.2 x.2.2)
  obtain ⟨_, h2⟩ := div_pos_of_dvd hx hm (gI_dvd_right s.2 x.2.2)
  unfold Cross lawStep rawStep at *
  generalize gI s.2 x.2.2 = m at h1 h2
  generalize s.2 / m = b' at h1
  generalize hq' : x.2.2 / m = q' at h2
  dsimp only at *
  have k : s.1 * q' * r.2 = r.1 * x.2.2 * b' := by
    calc s.1 * q' * r.2 = (s.1 * r.2) * q' := by ac_rfl
      _ = r.1 * (m * b') * q' := by rw [h, <- h1]
      _ = r.1 * (m * q') * b' := by ac_rfl
      _ = r.1 * x.2.2 * b' := by rw [h2]
  rw [Int.add_mul, Int.add_mul]
  congr 1
  . calc s.1 * q' * (r.2 * x.2.2) = s.1 * q' * r.2 * x.2.2 := by ac_rfl
      _ = r.1 * x.2.2 * (b' * x.2.2) := by rw [k]; ac_rfl
  . ac_rfl
theorem foldl_law {l : List Term} : ∀ {s r : Q2}, (∀ x ∈ l, 0 < x.2.2) -> 0 < s.2 -> Cross s r -> 0 < (l.foldl lawStep s).2 /\ Cross (l.foldl lawStep s) (l.foldl rawStep r) := by
  induction l with
  | nil => intro s r _ hs h; exact ⟨hs, h⟩
  | cons x l ih =>
    intro s r hl hs h
    have hx := hl x List.mem_cons_self
    exact ih (fun y hy => hl y (List.mem_cons_of_mem _ hy)) (law_pos hs hx) (law_cross hs hx h)
theorem raw_pos {l : List Term} : ∀ {r : Q2}, (∀ x ∈ l, 0 < x.2.2) -> 0 < r.2 -> 0 < (l.foldl rawStep r).2 := by
  induction l with
  | nil => intro r _ h; exact h
  | cons x l ih => intro r hl h; exact ih (fun y hy => hl y (List.mem_cons_of_mem _ hy)) (Int.mul_pos h (hl x List.mem_cons_self))
theorem over_cross {L : Int} {l : List Term} : ∀ {T : Int} {r : Q2}, (∀ x ∈ l, 0 < x.2.2 /\ x.2.2 ∣ L) -> T * r.2 = r.1 * L -> (T + (l.map fun x => x.1 * (x.2.1 * (L / x.2.2))).sum) * (l.foldl rawStep r).2 = (l.foldl rawStep r).1 * L := by
  induction l with
  | nil => intro T r _ h; simpa using h
  | cons x l ih =>
    intro T r hl h
    obtain ⟨hx, hd⟩ := hl x List.mem_cons_self
    have e := Int.mul_ediv_cancel' hd
    have := ih (T := T + x.1 * (x.2.1 * (L / x.2.2))) (r := rawStep r x) (fun y hy => hl y (List.mem_cons_of_mem _ hy)) (by
      unfold rawStep
      dsimp only
      generalize L / x.2.2 = k at e
      rw [Int.add_mul, Int.add_mul]
      congr 1
      . calc T * (r.2 * x.2.2) = (T * r.2) * x.2.2 := by ac_rfl
          _ = r.1 * x.2.2 * L := by rw [h]; ac_rfl
      . calc x.1 * (x.2.1 * k) * (r.2 * x.2.2) = x.1 * x.2.1 * r.2 * (x.2.2 * k) := by ac_rfl
          _ = x.1 * x.2.1 * r.2 * L := by rw [e])
    rw [List.map_cons, List.sum_cons, <- Int.add_assoc]
    exact this
end Fr
namespace L2
open PySem PySem.Spec PyProof.Rows
section
variable {X : Cx} {pins : List (Addr × Obj)} {σ : St} {H : Hp} {s : Shared} {fr : List Nat} {scope : Scope} {col : Str} {qual : Str} {f : Addr} {cd : Value} {A' : Around}
end
end L2
namespace L2
open PySem PySem.Spec PyProof.Rows
abbrev codeO (c : Addr) (qual : Str) : HO := .ext fun h => h.CodeRec (.ref c) qual
def LamTab (P : Addr) (pos : Pos) (qual : Str) (H : Hp) : Prop :=
  H P = some (.tbl #[]) \/ ∃ c', H P = some (.tbl #[rawInt pos.line, rawInt pos.col, .ref c']) /\ H c' = some (codeO c' qual)
def Same1 (P : Addr) (H H' : Hp) : Prop := ∀ b o, b ≠ P -> H b = some o -> H' b = some o
section
variable {X : Cx} {pins : List (Addr × Obj)} {σ : St} {H : Hp} {s : Shared} {fr : List Nat} {scope : Scope} {qual : Str} {c P : Addr} {params : Arguments} {body : Expr} {pos : Pos}
end
end L2
namespace L2
open PySem PySem.Spec PyProof.Rows
section
variable {X : Cx} {pins : List (Addr × Obj)} {σ : St} {H : Hp} {l It S fq : Addr} {ns : List Int} {g : Int -> Int} {R : Result -> Shared -> Prop}
end
end L2
namespace L2
open PySem PySem.Spec PyProof.Rows
section
variable {X : Cx} {e body : Expr} {es : List Expr} {t : TA} {tb : TE} {fr : List Nat} {scope : Scope} {col : Str} {c P : Addr} {params : Arguments} {p pos lpos kp1 kp2 cp : Pos} {cj : Nat}
end
end L2
namespace L2
open PySem PySem.Spec PyProof.Rows
section
variable {X : Cx} {os : List Str} {fr : List Nat} {scope : Scope} {elt tg iter : Expr} {pos : Pos} {wi : TI} {g : TG} {te : TE}
theorem ps_lcI {c : Expr} {tc : TT} {i : Nat} {x : Str} {pos' spos : Pos} (os : List Str) (fr : List Nat) (hN : X.N.Nodup) (hi' : X.N[i]? = some x) (hx : X.env.scope.names.lookup x = some .local)
    (hc : X.calm = true) (hi : PI X tg iter wi) (hg : ∀ C fp s₀ H₀, PG (blk X os fr scope C fp s₀ H₀) tg g) (ht : ∀ C fp s₀ H₀, PT (blk X os fr scope C fp s₀ H₀) c tc) (he : ∀ C fp s₀ H₀, PE (blk X os fr scope C fp s₀ H₀) elt te)
    (hsw : swapsWith (.ListComp elt [⟨tg, iter, [c], 0⟩] scope pos) (some (.Name x pos')) spos.line X.env = pure true := by rfl)
    (hk : scope.kind = .function := by rfl) (hok : lcOk X.env.scope scope X.N fr = true := by rfl) (hs : ∀ x, foldedSetIterable iter X.env x = pure x := by intro _; rfl) :
    PS X (.Assign [.Name x pos'] (.ListComp elt [⟨tg, iter, [c], 0⟩] scope pos) spos) (tAsg (tLCi os.length fr wi g tc te) (gName i)) := by
  intro pins s σ H D I h
  unfold tAsg at h
  rw [exec_Assign_Name_used _ _ _ _ hsw]
  refine wpAny_bind (wpAny_standAt (wpAny_bind ?_))
  show wpAny _ X.A (do let _ <- comprehension (.ListComp elt [⟨tg, iter, [c], 0⟩] scope pos) scope X.env _ (newList []) false (eval iter X.env) (some (assign (.Name x pos') X.env))) _ _ s
  refine wpAny_bind (wpAny_mono (wpAny_comprehension_free (use := some (assign (.Name x pos') X.env)) (Q := fun _ s' => SP X pins D .next s') rfl hs (closureFor_clo (lc_clos I hok)) hk (fun x hx hl => by have := (lc_names hok x hx).1; rw [hl] at this; exact this)
    (thn (hi pins s σ H _ I h) fun v s1 h1 => thn h1 fun itv s2 h2 => ?_)) (fun _ s' hq => wpAny_pure (wpAny_pure hq)) fun _ _ e => e)
  refine lc_block (os := os) (D := fun p H' => D.nx (σ.set i (some (.ref p))) H') (RR := fun acc C => compPost (model X.prog X.w) X.A X.xe (some (assign (.Name x pos') X.env)) (fun _ s' => SP X pins D .next s') acc C) hc hg (fun _ _ _ _ => pifs_one (ht _ _ _ _)) he hk hok h2 ?_
  intro p C s3 H3 s' H' I3 eC hn I' ⟨m, hm⟩ q
  show wpAny _ X.A (assign (.Name x pos') X.env (.ref p)) _ _ _
  refine wpAny_assign_Name (store_ok2 (v := .ref p) I' hN hi' (.inl hx) rfl (fun s'' I'' ⟨a, hsa, ha⟩ => ?_) (.inr hx))
  have hCa : C ≠ a := by
    rcases ha with e | e
    . rw [e]; exact Nat.ne_of_gt (by rw [<- eC]; exact I3.lt)
    . obtain ⟨v, z⟩ := I3.cell x a e
      exact Nat.ne_of_gt (by rw [<- eC]; exact z.lt)
  exact ⟨m, hm.sameBut hsa hCa, fun h' hs' => ⟨_, H', I3.letgo I'' hn (by omega) hs', q⟩⟩
end
section
variable {fr : List Nat} {tc : TT} {σ : St} {J : It} {H1 : Hp} {p : Addr} {D : Hp -> Prop} {xs : List V}
theorem lc_pick (hJ : ItIs J H1 xs) (hp : H1 p = none) (hz : xs.length < sizeLine) (F : V -> Bool)
    (step : ∀ (i : Nat) x H (N : Bool -> Hp -> Prop), xs[i]? = some x -> Same H1 H -> N (F x) H -> tc ((blkσ 1 fr σ).set 0 (some x)) H N)
    (hd : D (upd H1 p (.lst (xs.filter F)))) : lcI 1 fr (gName 0) tc (tVar 0) σ J H1 p D := by
  refine ⟨fun i m ys H => m = xs.length - i /\ i <= xs.length /\ ys = (xs.take i).filter F /\ H = upd H1 p (.lst ys), ⟨xs.length, by simp, Nat.zero_le _, by simp, rfl⟩, ?_⟩
  rintro i m ys H ⟨rfl, hi, rfl, rfl⟩
  have e := Same.new (o := .lst ((xs.take i).filter F)) hp
  by_cases hlt : i < xs.length
  . refine .inr ⟨hJ.go i _ e hlt, fun x H' y => ?_⟩
    obtain ⟨rfl, hx⟩ := hJ.yld i _ x H' e hlt y
    have tk : (xs.take (i + 1)).filter F = (xs.take i).filter F ++ [x].filter F := by rw [List.take_succ, hx, List.filter_append]; rfl
    refine ⟨Wk.set (by decide), step i x _ _ hx e ?_⟩
    cases hq : F x with
    | false =>
      rw [if_neg Bool.false_ne_true]
      refine ⟨xs.length - (i + 1), by omega, rfl, hlt, ?_, rfl⟩
      rw [tk]; simp [hq]
    | true =>
      rw [if_pos rfl]
      refine ⟨x, ?_, upd_same, ?_, xs.length - (i + 1), by omega, rfl, hlt, ?_, upd_upd⟩
      . show ((blkσ 1 fr σ).set 0 (some x))[0]? = some (some x)
        rw [List.getElem?_set_self (by simp [blkσ])]
      . have h1 := List.length_filter_le F (xs.take i)
        rw [List.length_take] at h1
        omega
      . rw [tk]; simp [hq]
  . have : i = xs.length := by omega
    subst this
    refine .inl ⟨hJ.stop _ e, ?_⟩
    rw [List.take_of_length_le (Nat.le_refl _)]; exact hd
end
section
variable {P : Program} {w : World} {K : W.Frag} {mg : Str -> Option Value} {base : Heap}
end
end L2
namespace L2
open PySem
section
variable {xs ys : List V} {K : W.Frag} {l1 l2 : Addr} {fr : List Nat} {te : TE} {σ : St} {H1 : Hp} {p : Addr} {D : Hp -> Prop}
end
end L2
namespace L2
open PySem
theorem gen2 {G0 : St -> Hp -> Prop} {σ : St} {H : Hp} (h : ∀ G : St -> Hp -> Prop, G = G0 -> G σ H) : G0 σ H := h G0 rfl
section
variable {X : Cx} {st : Stmt} {rest : List Stmt} {t u : TS}
def tCut (t u : TS) : TS := fun D σ H => ∃ M : St -> Hp -> Prop, t { D with nx := M } σ H /\ ∀ σ' H', M σ' H' -> u D σ' H'
theorem pss_cut (h1 : PS X st t) (h2 : PSs X rest u) : PSs X (st :: rest) (tCut t u) := by
  intro pins s σ H D I ⟨M, h, hM⟩
  refine wpAny_execs_cons (thn (h1 pins s σ H { D with nx := M } I h) fun f s1 q => ?_)
  cases f with
  | next =>
    obtain ⟨σ', H', I', q⟩ := q
    exact h2 pins s1 σ' H' D I' (hM _ _ q)
  | ret v => exact q
  | brk => exact q
  | cont => exact q
end
end L2
namespace Rim
open PySem L2
theorem cut_to (xs : List V) (k : Nat) (h : k <= xs.length) : cutV xs none (some (k : Int)) = xs.take k := by
  unfold cutV
  rw [HT.sIx_none, HT.sIx_nat, List.drop_zero]
  congr 1
  omega
end Rim
namespace L2
open PySem PySem.Spec PyProof.Rows
section
variable {X : Cx}
end
end L2
namespace Lp
abbrev Vec := Nat -> Int
def tl (v : Vec) : Vec := fun i => v (i + 1)
def sumS (D : List Vec -> Int) : List Vec -> List Vec -> Int
  | _, [] => 0
  | pre, c :: rest => c 0 * D ((pre ++ rest).map tl) - sumS D (pre ++ [c]) rest
def det : Nat -> List Vec -> Int
  | 0, _ => 1
  | n + 1, cols => sumS (det n) [] cols
def bnd (M : Nat) : Nat -> Nat
  | 0 => 1
  | n + 1 => (n + 1) * (M * bnd M n)
end Lp
namespace Lp
def sumTo (g : Nat -> Int) : Nat -> Int
  | 0 => 0
  | n + 1 => sumTo g n + g n
def zv : Vec := fun _ => 0
def Cram (n : Nat) (B : List Vec) (u : Vec) : Prop := ∀ x, det n B * u x = sumTo (fun k => det n (B.set k u) * (B.getD k zv) x) n
end Lp
namespace Lp
structure Bo where
  d : Int
  T : Nat -> Nat -> Int
  ins : Nat -> Nat
  outs : Nat -> Nat
def upN (g : Nat -> Nat) (k v : Nat) : Nat -> Nat := fun i => if i = k then v else g i
def piv (S : Bo) (r c : Nat) : Bo where
  d := S.T r c
  T := fun i j => if i = r then (if j = c then S.d else S.T r j) else (if j = c then - S.T i c else (S.T i j * S.T r c - S.T i c * S.T r j) / S.d)
  ins := upN S.ins r (S.outs c)
  outs := upN S.outs c (S.ins r)
def Bs (m : Nat) (V : Nat -> Vec) (ins : Nat -> Nat) : List Vec := (List.range (m + 1)).map fun i => V (ins i)
structure Wf (m q : Nat) (V : Nat -> Vec) (S : Bo) : Prop where
  hd : S.d = det (m + 1) (Bs m V S.ins)
  hT : ∀ i j, i < m + 1 -> j < q + 1 -> S.T i j = det (m + 1) ((Bs m V S.ins).set i (V (S.outs j)))
  cr : ∀ j, j < q + 1 -> Cram (m + 1) (Bs m V S.ins) (V (S.outs j))
  pos : 0 < S.d
  feas : ∀ i, i < m -> 0 <= S.T i q
  im : S.ins m = q + m
  oq : S.outs q = q + m + 1
  ib : ∀ i, i < m -> S.ins i < q + m
  ob : ∀ j, j < q -> S.outs j < q + m
  ii : ∀ i k, i < m -> k < m -> S.ins i = S.ins k -> i = k
  oo : ∀ j k, j < q -> k < q -> S.outs j = S.outs k -> j = k
  io : ∀ i j, i < m -> j < q -> S.ins i ≠ S.outs j
  all : ∀ v, v < q + m -> (∃ i, i < m /\ S.ins i = v) \/ (∃ j, j < q /\ S.outs j = v)
section
variable {m q : Nat} {V : Nat -> Vec} {S : Bo}
def Ker (m q : Nat) (V : Nat -> Vec) (S : Bo) (z : Nat -> Int) : Prop := ∀ x, sumTo (fun k => z (S.ins k) * V (S.ins k) x) (m + 1) + sumTo (fun j => z (S.outs j) * V (S.outs j) x) (q + 1) = 0
end
end Lp
namespace Lp
structure Choice (m q : Nat) (S : Bo) (r c : Nat) : Prop where
  hc : c < q
  neg : S.T m c < 0
  minc : ∀ j, j < q -> S.T m j < 0 -> S.outs c <= S.outs j
  hr : r < m
  pos : 0 < S.T r c
  ratio : ∀ i, i < m -> 0 < S.T i c -> S.T r q * S.T i c <= S.T i q * S.T r c
  tie : ∀ i, i < m -> 0 < S.T i c -> S.T r q * S.T i c = S.T i q * S.T r c -> S.ins r <= S.ins i
section
variable {m q : Nat} {V : Nat -> Vec} {S S' : Bo}
end
structure Seq (m q : Nat) (V : Nat -> Vec) (S : Nat -> Bo) (R C : Nat -> Nat) : Prop where
  w : Wf m q V (S 0)
  ch : ∀ k, Choice m q (S k) (R k) (C k)
  st : ∀ k, S (k + 1) = piv (S k) (R k) (C k)
section
variable {m q : Nat} {V : Nat -> Vec} {S : Nat -> Bo} {R C : Nat -> Nat}
end
end Lp
namespace Lp
section
variable {m q : Nat} {V : Nat -> Vec} {S : Bo}
end
section
variable {m q : Nat} {V : Nat -> Vec} {S : Nat -> Bo} {R C : Nat -> Nat}
end
inductive Ends (m q : Nat) : Bo -> Nat -> Prop
  | stop {S : Bo} : (¬ ∃ r c, Choice m q S r c) -> Ends m q S 0
  | go {S : Bo} {r c k : Nat} : Choice m q S r c -> Ends m q (piv S r c) k -> Ends m q S (k + 1)
end Lp
namespace Lp
def Vv (m q : Nat) (A : Nat -> Nat -> Int) (b c : Nat -> Int) : Nat -> Vec := fun v x =>
  if v < q then (if x < m then A x v else if x = m then - c v else 0) else if v < q + m + 1 then (if x = v - q then 1 else 0) else (if x < m then b x else 0)
def S0 (m q : Nat) (A : Nat -> Nat -> Int) (b c : Nat -> Int) : Bo where
  d := 1
  T := fun i j => if j < q then (if i < m then A i j else - c j) else (if i < m then b i else 0)
  ins := fun i => q + i
  outs := fun j => if j < q then j else q + m + 1
section
variable {m q : Nat} {A : Nat -> Nat -> Int} {b c : Nat -> Int}
end
def valIn (m : Nat) (S : Bo) (q v : Nat) : Int := sumTo (fun i => if S.ins i = v then S.T i q else 0) m
def valOut (m q : Nat) (S : Bo) (v : Nat) : Int := sumTo (fun j => if S.outs j = v then S.T m j else 0) q
section
variable {m q : Nat} {A : Nat -> Nat -> Int} {b c : Nat -> Int} {S : Bo}
structure Of (m q : Nat) (A : Nat -> Nat -> Int) (b c : Nat -> Int) (S : Bo) : Prop where
  w : Wf m q (Vv m q A b c) S
  k : ∀ z, Ker m q (Vv m q A b c) S z ↔ Ker m q (Vv m q A b c) (S0 m q A b c) z
end
end Lp
namespace Rim
open PySem L2
def top (i : Nat) : Stmt := PySem.Challenge.pw_rimhouse_k20_houses_at_prices.main.body.getD i (.Pass ⟨0, 0, 0, 0⟩)
abbrev sDiv : Stmt := top 1
abbrev sLow : Stmt := top 2
abbrev sComeTo : Stmt := top 6
abbrev sCell : Stmt := top 12
abbrev sDraws : Stmt := top 13
abbrev sWhole : Stmt := top 14
abbrev sNear : Stmt := top 15
abbrev sABook : Stmt := top 16
abbrev sCommon : Stmt := top 17
abbrev sLlow : Stmt := top 18
abbrev sIsFr : Stmt := top 19
abbrev sSum : Stmt := top 20
abbrev sLaw : Stmt := top 24
abbrev s_compared : Stmt := top 3
abbrev s_over_one_bottom : Stmt := top 4
abbrev s_worths : Stmt := top 7
abbrev s_judged : Stmt := top 9
abbrev s_best_at : Stmt := top 10
abbrev s__law_less : Stmt := top 21
abbrev s__law_a_prices : Stmt := top 22
abbrev s__law_judged : Stmt := top 23
abbrev lamPos : Pos := ⟨0, 0, 0, 0⟩
end Rim
namespace Rim
open PySem L2
structure Nones (mg : Str -> Option Value) : Prop where
  len : mg "len" = none
  all : mg "all" = none
  any : mg "any" = none
  max : mg "max" = none
  min : mg "min" = none
  sum : mg "sum" = none
  tuple : mg "tuple" = none
  list : mg "list" = none
  int : mg "int" = none
  bool : mg "bool" = none
  range : mg "range" = none
  isi : mg "isinstance" = none
  abs : mg "abs" = none
  zip : mg "zip" = none
  enum : mg "enumerate" = none
  ve : mg "ValueError" = none
  so : mg "sorted" = none
theorem ixl_at (K : W.Frag) {X : Cx} (h : X.K = K) : IxR X (rIxL K) := by subst h; exact ix_list
theorem pgt_at (K : W.Frag) {X : Cx} {es : List Expr} {k : Nat} {t : TGs} {n : Nat} {pos : Pos} (h : X.K = K) (hc : X.calm = true) (hp : PGs X es t) (hn : (assignEach es X.env).length = n := by rfl) (hst : (assignEach es X.env).findIdx? (·.1) = none := by rfl) : PG X (.Tuple es k pos) (gTup K n t) := by subst h; exact pg_tup hc hp hn hst
def vI : V -> Int
  | .int i => i
  | _ => 0
theorem map_int_at {ns : List Int} {i : Nat} {x : V} (h : (ns.map V.int)[i]? = some x) : ∃ k, x = .int k := by
  rw [List.getElem?_map] at h
  cases hn : ns[i]? with
  | none => rw [hn] at h; cases h
  | some k => rw [hn] at h; cases h; exact ⟨k, rfl⟩
abbrev House := List Int × List Int
def HS (K : W.Frag) (H : Hp) (v : V) (h : House) : Prop := ∃ a t g, v = .ref a /\ SqT K H a [.ref t, .ref g] /\ SqT K H t (h.1.map V.int) /\ SqT K H g (h.2.map V.int)
abbrev Bk (K : W.Frag) (H : Hp) : List V -> List House -> Prop := PySem.Paired (HS K H)
theorem HS.same {K : W.Frag} {H H' : Hp} {v : V} {h : House} (e : Same H H') (x : HS K H v h) : HS K H' v h := by
  obtain ⟨a, t, g, h0, h1, h2, h3⟩ := x
  exact ⟨a, t, g, h0, e.tseq h1, e.tseq h2, e.tseq h3⟩
theorem Bk.same {K : W.Frag} {H H' : Hp} {vs : List V} {hs : List House} (e : Same H H') (x : Bk K H vs hs) : Bk K H' vs hs := Paired.imp' (fun _ _ r => HS.same e r) x
theorem Paired.at {α β : Type} {F : α -> β -> Prop} : ∀ {l₁ : List α} {l₂ : List β}, PySem.Paired F l₁ l₂ -> ∀ {i : Nat} {x : α}, l₁[i]? = some x -> ∃ y, l₂[i]? = some y /\ F x y
  | _, _, .nil, _, _, e => by simp at e
  | _, _, .cons r _, 0, _, e => by simp at e; subst e; exact ⟨_, rfl, r⟩
  | _, _, .cons _ t, i + 1, x, e => by
    obtain ⟨y, h1, h2⟩ := Paired.at t (i := i) (x := x) (by simpa using e)
    exact ⟨y, by simpa using h1, h2⟩
end Rim
namespace Rim
open PySem L2
def rowL (q : Nat) (S : Lp.Bo) (i : Nat) : List Int := (List.range (q + 1)).map (S.T i)
def outsL (q : Nat) (S : Lp.Bo) : List Int := (List.range q).map fun j => (S.outs j : Int)
def insL (m : Nat) (S : Lp.Bo) : List Int := (List.range m).map fun i => (S.ins i : Int)
abbrev bdF (q : Nat) (d : Int) (ca oa ia : Addr) : List (Str × V) := [("many", .int q), ("scale", .int d), ("cells", .ref ca), ("outs", .ref oa), ("ins", .ref ia)]
structure Bd (C : Addr) (H : Hp) (p dx ca oa ia : Addr) (rs : List Addr) (m q : Nat) (S : Lp.Bo) : Prop where
  obj : H p = some (.ins C dx (bdF q S.d ca oa ia))
  cel : H ca = some (.lst (rs.map V.ref))
  len : rs.length = m + 1
  row : ∀ i r, rs[i]? = some r -> H r = some (.lst ((rowL q S i).map V.int))
  out : H oa = some (.lst ((outsL q S).map V.int))
  inn : H ia = some (.lst ((insL m S).map V.int))
  ne : oa ≠ ia
structure TB (K : W.Frag) (C : Addr) : Prop where
  cl : Cls K C
  nM : NoAttr K C "many"
  nS : NoAttr K C "scale"
  nC : NoAttr K C "cells"
  nO : NoAttr K C "outs"
  nI : NoAttr K C "ins"
section
variable {C : Addr} {H H' : Hp} {p dx ca oa ia : Addr} {rs : List Addr} {m q : Nat} {S : Lp.Bo}
def Sz (n m q : Nat) (S : Lp.Bo) : Prop := (∀ i j, i < m + 1 -> j < q + 1 -> Big n (S.T i j)) /\ Big n S.d
end
section
variable {P : Program} {w : World} {K : W.Frag} {mg : Str -> Option Value} {base : Heap} {f : Addr} {fd : FuncData} {n : Nat} {C : Addr}
end
end Rim
namespace Rim
open PySem L2
structure MCal (P : Program) (w : World) (K : W.Frag) (mg : Str -> Option Value) (base : Heap) (n : Nat) (C : Addr) (m : Str) (ps : List Str) (sp : Sp) (f : Addr) (fd : FuncData) : Prop where
  ok : FnOk P w K mg base CX0 n f fd ps sp
  bd : Binds K fd ps []
  me : Meth K C m f
def Bet (q : Nat) (S : Lp.Bo) (c r i : Nat) : Prop := S.T r q * S.T i c <= S.T i q * S.T r c /\ (S.T r q * S.T i c = S.T i q * S.T r c -> S.ins r <= S.ins i)
section
variable {P : Program} {w : World} {K : W.Frag} {mg : Str -> Option Value} {base : Heap} {f g : Addr} {fd gd : FuncData} {n : Nat} {C : Addr}
def spGoing (C : Addr) : Sp := fun vs H Q _ => ∃ (p dx ca oa ia : Addr) (rs : List Addr) (m q : Nat) (S : Lp.Bo) (c : Nat), vs = [.ref p, .int c] /\ Bd C H p dx ca oa ia rs m q S /\ Sz 4000 m q S /\ m < 1000 /\ c < q + 1 ∧
  ((∀ i, i < m -> ¬ 0 < S.T i c) -> Q .non H) /\ ∀ r, r < m -> 0 < S.T r c -> (∀ i, i < m -> 0 < S.T i c -> Bet q S c r i) -> Q (.int r) H
end
end Rim
namespace Rim
open PySem L2
abbrev lamQ : Str := ("Board.coming" ++ ".<locals>.") ++ "<lambda>"
abbrev LT (Pt : Addr) (H : Hp) : Prop := LamTab Pt lamPos lamQ H
section
variable {P : Program} {w : World} {K : W.Frag} {mg : Str -> Option Value} {base : Heap} {f g c Pt : Addr} {fd gd : FuncData} {n : Nat} {C : Addr}
def spComing (C Pt : Addr) : Sp := fun vs H Q _ => ∃ (p dx ca oa ia : Addr) (rs : List Addr) (m q : Nat) (S : Lp.Bo), vs = [.ref p] /\ Bd C H p dx ca oa ia rs m q S /\ q < 1000 /\ LT Pt H ∧
  ∀ H', Same1 Pt H H' -> LT Pt H' -> ((∀ j, j < q -> ¬ S.T m j < 0) -> Q .non H') /\ ∀ j, j < q -> S.T m j < 0 -> (∀ i, i < q -> S.T m i < 0 -> S.outs j <= S.outs i) -> Q (.int j) H'
end
end Rim
namespace Rim
open PySem L2
theorem map_mem {ns : List Int} {i : Nat} {x : V} (h : (ns.map V.int)[i]? = some x) : ∃ k, x = .int k /\ k ∈ ns := by
  rw [List.getElem?_map] at h
  cases hn : ns[i]? with
  | none => rw [hn] at h; cases h
  | some k => rw [hn] at h; cases h; exact ⟨k, rfl, List.mem_of_getElem? hn⟩
theorem zw_ints (F : V -> V -> V) (G : Int -> Int -> Int) (h : ∀ a b, F (.int a) (.int b) = .int (G a b)) : ∀ xs ys : List Int, List.zipWith F (xs.map V.int) (ys.map V.int) = (List.zipWith G xs ys).map V.int
  | [], _ => by simp
  | _ :: _, [] => by simp
  | x :: xs, y :: ys => by simp [h, zw_ints F G h xs ys]
theorem getD_mem0 {ns : List Int} {i : Nat} (h : i < ns.length) : ns.getD i 0 ∈ ns := by
  rw [List.getD_eq_getElem?_getD, List.getElem?_eq_getElem h]; exact List.getElem_mem h
section
variable {P : Program} {w : World} {K : W.Frag} {mg : Str -> Option Value} {base : Heap} {f g c Pt : Addr} {fd gd : FuncData} {n : Nat} {C : Addr}
end
end Rim
namespace Rim
open PySem L2
structure SCal (P : Program) (w : World) (K : W.Frag) (mg : Str -> Option Value) (base : Heap) (n : Nat) (x : Str) (ps : List Str) (sp : Sp) (fa : Addr) (d : FuncData) : Prop where
  ok : FnOk P w K mg base CX0 n fa d ps sp
  b : Binds K d ps []
  k : W.keepIn K (.ref fa) = true
  m : mg x = some (.ref fa)
end Rim
namespace Rim
open PySem L2
section
variable {P : Program} {w : World} {K : W.Frag} {mg : Str -> Option Value} {base : Heap} {f g c Pt : Addr} {fd gd : FuncData} {n : Nat} {C : Addr}
def spExchange (C : Addr) : Sp := fun vs H Q _ => ∃ (p dx ca oa ia : Addr) (rs : List Addr) (m q : Nat) (S : Lp.Bo) (r c : Nat), vs = [.ref p, .int r, .int c] /\ Bd C H p dx ca oa ia rs m q S /\ Sz 4000 m q S /\ r < m /\ c < q /\ m < 900 /\ q < 900 /\ 0 < S.d ∧
  ∀ (H' : Hp) (ca' : Addr) (rs' : List Addr), Bd C H' p dx ca' oa ia rs' m q (Lp.piv S r c) -> (∀ b o, b ≠ p -> b ≠ oa -> b ≠ ia -> H b = some o -> H' b = some o) -> Q .non H'
end
end Rim
namespace Rim
open PySem L2
section
variable {P : Program} {w : World} {K : W.Frag} {mg : Str -> Option Value} {base : Heap} {f g c Pt : Addr} {fd gd : FuncData} {n : Nat} {C : Addr}
end
end Rim
namespace Rim
open PySem L2
def amtsL (m q : Nat) (S : Lp.Bo) : List Int := (List.range q).map fun v => Lp.valIn m S q v
def wtsL (m q : Nat) (S : Lp.Bo) : List Int := (List.range m).map fun i => Lp.valOut m q S (q + i)
section
variable {P : Program} {w : World} {K : W.Frag} {mg : Str -> Option Value} {base : Heap} {f g c Pt : Addr} {fd gd : FuncData} {n : Nat} {C : Addr}
def spAmts (C : Addr) : Sp := fun vs H Q _ => ∃ (p dx ca oa ia : Addr) (rs : List Addr) (m q : Nat) (S : Lp.Bo), vs = [.ref p] /\ Bd C H p dx ca oa ia rs m q S /\ m < 900 /\ q < 900 /\ (∀ i k, i < m -> k < m -> S.ins i = S.ins k -> i = k) ∧
  ∀ (r : Addr) (H' : Hp), Same H H' -> H r = none -> H' r = some (.lst ((amtsL m q S).map V.int)) -> Q (.ref r) H'
def spWts (C : Addr) : Sp := fun vs H Q _ => ∃ (p dx ca oa ia : Addr) (rs : List Addr) (m q : Nat) (S : Lp.Bo), vs = [.ref p] /\ Bd C H p dx ca oa ia rs m q S /\ m < 900 /\ q < 900 /\ (∀ j k, j < q -> k < q -> S.outs j = S.outs k -> j = k) /\ (∀ j, j < q -> S.outs j < q + m) ∧
  ∀ (r : Addr) (H' : Hp), Same H H' -> H r = none -> H' r = some (.lst ((wtsL m q S).map V.int)) -> Q (.ref r) H'
end
end Rim
namespace Rim
open PySem L2
def Arr (rows : List (List Int)) : Nat -> Nat -> Int := fun i j => (rows.getD i []).getD j 0
def vec (l : List Int) : Nat -> Int := fun i => l.getD i 0
abbrev RowsL (K : W.Frag) (H : Hp) : List V -> List (List Int) -> Prop := PySem.Paired fun v row => ∃ a, v = .ref a /\ SqL K H a (row.map V.int)
section
variable {P : Program} {w : World} {K : W.Frag} {mg : Str -> Option Value} {base : Heap} {f g c Pt : Addr} {fd gd : FuncData} {n : Nat} {C : Addr}
def spInit (K : W.Frag) (C : Addr) : Sp := fun vs H Q _ => ∃ (p dx ga ra ba : Addr) (goal : List Int) (rvs : List V) (rows : List (List Int)) (bounds : List Int) (m q : Nat), vs = [.ref p, .ref ga, .ref ra, .ref ba] /\ H p = some (.ins C dx []) /\ SqL K H ga (goal.map V.int) /\ SqL K H ra rvs ∧
  RowsL K H rvs rows /\ SqL K H ba (bounds.map V.int) /\ rows.length = m /\ bounds.length = m /\ goal.length = q /\ (∀ r ∈ rows, r.length = q) /\ m < 900 /\ q < 900 ∧
  ∀ (H' : Hp) (ca oa ia : Addr) (rs : List Addr), Bd C H' p dx ca oa ia rs m q (Lp.S0 m q (Arr rows) (vec bounds) (vec goal)) -> (∀ b o, b ≠ p -> H b = some o -> H' b = some o) -> H oa = none -> H ia = none -> Q .non H'
end
end Rim
namespace Rim
open PySem L2
section
variable {P : Program} {w : World} {K : W.Frag} {mg : Str -> Option Value} {base : Heap} {f g c Pt : Addr} {fd gd : FuncData} {n : Nat} {C : Addr}
end
end Rim
namespace Rim
open PySem L2
section
variable {P : Program} {w : World} {K : W.Frag} {mg : Str -> Option Value} {base : Heap} {f Pt : Addr} {fd : FuncData} {n : Nat} {C : Addr}
structure GCal (P : Program) (w : World) (K : W.Frag) (mg : Str -> Option Value) (base : Heap) (n : Nat) (C Pt : Addr) (f1 f2 f3 f4 f5 f6 : Addr) (d1 d2 d3 d4 d5 d6 : FuncData) : Prop where
  mak : Mk K C f1
  ini : FnOk P w K mg base CX0 n f1 d1 ["self", "goal", "rows", "bounds"] (spInit K C)
  inb : Binds K d1 ["self", "goal", "rows", "bounds"] []
  mC : mg "Board" = some (.ref C)
  com : MCal P w K mg base n C "coming" ["self"] (spComing C Pt) f2 d2
  goi : MCal P w K mg base n C "going" ["self", "column"] (spGoing C) f3 d3
  exc : MCal P w K mg base n C "exchange" ["self", "row", "column"] (spExchange C) f4 d4
  amt : MCal P w K mg base n C "amounts" ["self"] (spAmts C) f5 d5
  wts : MCal P w K mg base n C "weights" ["self"] (spWts C) f6 d6
end
end Rim
namespace Rim
open PySem L2
section
variable {P : Program} {w : World} {K : W.Frag} {mg : Str -> Option Value} {base : Heap} {f Pt : Addr} {fd : FuncData} {n : Nat} {C : Addr}
end
end Rim
namespace Rim
open PySem L2
section
variable {P : Program} {w : World} {K : W.Frag} {mg : Str -> Option Value} {base : Heap} {f g : Addr} {fd gd : FuncData}
def spCell (K : W.Frag) : Sp := fun vs H Q _ => ∃ (a : Addr) (ns : List Int) (k : Int), vs = [.ref a, .int k] /\ SqL K H a (ns.map V.int) /\ 0 <= k /\ ∀ c : Int, Q (.int c) H
theorem scCell : FnScope ["script", "k"] ["script", "k"] (defScope sCell) := ⟨rfl, rfl, rfl, by decide +kernel, rfl, by decide +kernel, by decide +kernel⟩
theorem int_at {ns : List Int} {k : Int} (h0 : 0 <= k) (h : k < ((ns.map V.int).length : Int)) : ∃ v : Int, atI (ns.map V.int) k = some (.int v) := by
  have hl : (ns.map V.int).length = ns.length := List.length_map _
  have hk : k.toNat < ns.length := by lia
  have ek : k = ((k.toNat : Nat) : Int) := by lia
  have q : atI (ns.map V.int) ((k.toNat : Nat) : Int) = some (.int ns[k.toNat]) := atI_nat (by rw [List.getElem?_map, List.getElem?_eq_getElem hk]; rfl)
  rw [<- ek] at q
  exact ⟨_, q⟩
theorem ok_cell {n : Nat} (F : Fun K "_law_cell_at" "_law_cell_at" sCell f fd) (T : Nones mg) : FnOk P w K mg base CX0 (n + 1) f fd ["script", "k"] (spCell K) := by
  refine F.ok scCell (fun vs H Q E h => ?_) (fun cdv A outer s H vs Q E hr h => ?_)
  . obtain ⟨a, ns, k, rfl, _⟩ := h
    rfl
  obtain ⟨a, ns, k, rfl, hS, h0, q⟩ := h
  refine ⟨_, pss_cons (ps_if (pt_cmpR op_lt (pv 1) (pe_callB call_len_seq rfl T.len PySem.boot_len (pa_cons (pv 0) pa_nil)) (nomark _)) (pss_one (ps_ret (pe_ix ix_list (pv 0) (pv 1) (fun _ _ => rfl)))) pss_nil)
    (pss_one (ps_ret pe_int)), ?_⟩
  refine ⟨_, rfl, _, rfl, a, _, rfl, .inl hS, _, _, rfl, rfl, _, rfl, ?_⟩
  refine ite2 (fun c => ?_) (fun c => ?_)
  . obtain ⟨v, hv⟩ := int_at h0 (of_decide_eq_true c)
    exact ⟨_, rfl, _, rfl, a, _, _, _, rfl, rfl, hS, hv, q v⟩
  . exact q 0
def spDraws (K : W.Frag) : Sp := fun vs H Q _ => ∃ (c : Int) (many : Nat) (b : Int), vs = [.int c, .int (many : Int), .int b] /\ many <= 900 /\ 0 < b /\ b < 1073741824 ∧
  ∀ (r : Addr) (H' : Hp) (ds : List Int), Same H H' -> H' r = some (.lst (ds.map V.int)) -> ds.length = many -> (∀ d ∈ ds, 0 <= d /\ d < b) -> Q (.ref r) H'
theorem scDraws : FnScope ["cell", "many", "base", "found", "rest", "stirred", "k"] ["cell", "many", "base"] (defScope sDraws) := ⟨rfl, rfl, rfl, by decide +kernel, rfl, by decide +kernel, by decide +kernel⟩
theorem ok_draws {n : Nat} (F : Fun K "_law_draws" "_law_draws" sDraws f fd) (T : Nones mg) : FnOk P w K mg base CX0 (n + 1) f fd ["cell", "many", "base"] (spDraws K) := by
  refine F.ok scDraws (fun vs H Q E h => ?_) (fun cdv A outer s H vs Q E hr h => ?_)
  . obtain ⟨a, ns, k, rfl, _⟩ := h
    rfl
  obtain ⟨c, many, b, rfl, hm, hb0, hb1, q⟩ := h
  refine ⟨_, pss_cons (ps_set (i := 3) scDraws.nd rfl (Or.inl rfl) (pe_lst pa_nil))
    (pss_cons (ps_set (i := 4) scDraws.nd rfl (Or.inl rfl) (pe_op op_mul (pv 0) (pe_callTy call_int1 rfl T.int PyProof.Rows.boot_int (pa_cons (pe_cmpR op_ge (pv 0) (pe_op op_pow pe_int pe_int) (nomark _)) pa_nil))))
    (pss_cons (ps_set (i := 5) scDraws.nd rfl (Or.inl rfl) (pe_op op_mod (pv 0) pe_int))
    (pss_cons (ps_for PassesOwn.never rfl (pi_range1 rfl T.range (pa_cons (pe_op op_add (pv 1) pe_int) pa_nil)) (pg_name (i := 6) scDraws.nd rfl (Or.inl rfl))
      (pss_cons (ps_set (i := 5) scDraws.nd rfl (Or.inl rfl) (pe_op op_mod (pe_op op_add (pe_op op_add (pe_op op_add (pe_op op_mul (pv 5) (pv 5)) (pe_op op_mul pe_int (pv 5))) (pv 6)) pe_int) pe_int))
        (pss_one (ps_if (PW.pt (pw_and (pt_cmpR op_gt (pv 6) pe_int (nomark _)) (pw_and1 (pt_cmpR op_gt (pv 4) pe_int (nomark _)))))
          (pss_cons (ps_expr (pe_bm PySem.F.plainAttrs_list PySem.F.slot_list_append PySem.F.type_list_append mt_append (pv 3) (pa_cons (pe_op op_mod (pv 4) (pv 2)) pa_nil))) (pss_one (ps_set (i := 4) scDraws.nd rfl (Or.inl rfl) (pe_op op_fdiv (pv 4) (pv 2)))))
          (pss_one (ps_if (pt_cmpR op_gt (pv 6) pe_int (nomark _)) (pss_one (ps_expr (pe_bm PySem.F.plainAttrs_list PySem.F.slot_list_append PySem.F.type_list_append mt_append (pv 3) (pa_cons (pe_op op_mod (pe_op op_fdiv (pv 5) pe_int) (pv 2)) pa_nil)))) pss_nil))))))
    (pss_one (ps_ret (pv 3)))))), ?_⟩
  refine ⟨(by show 0 <= sizeLine; decide), fun fl hfl => ?_⟩
  refine ⟨_, rfl, _, rfl, _, _, rfl, rfl, ⟨by decide, by decide, by decide⟩, _, _, rfl, rfl, .inr ⟨_, rfl, _, _, rfl, rfl, .inr ?_, ?_⟩⟩
  . constructor <;> (split <;> decide)
  refine ⟨_, rfl, _, _, rfl, rfl, (by show (0 : Int) < 2305843009213693951; decide), ?_⟩
  refine ⟨_, rfl, _, _, rfl, rfl, ((many : Int) + 3), rfl, by lia, by lia, ?_⟩
  have e3 : ((many : Int) + 3).toNat = many + 3 := by lia
  rw [e3]
  refine for_range (n := many + 3) (fun i σ H' => ∃ (r st : Int) (ds : List Int) (ks : Option V), σ = [some (.int c), some (.int (many : Int)), some (.int b), some (.ref fl), some (.int r), some (.int st), ks] /\ H' = upd H fl (.lst (ds.map V.int)) /\ ds.length = i - 3 /\ (∀ d ∈ ds, 0 <= d /\ d < b) /\ 0 <= st /\ st < 2305843009213693951)
    ⟨_, _, [], none, rfl, rfl, rfl, fun d hd => (by cases hd), Int.emod_nonneg _ (by decide), Int.emod_lt_of_pos _ (by decide)⟩ ?_ ?_
  . rintro i σ H' hi ⟨r, st, ds, ks, rfl, rfl, hl, hd, hs0, hs1⟩
    refine ⟨_, rfl, _, rfl, _, _, rfl, rfl, .inl ⟨by lia, by lia⟩, _, rfl, _, _, rfl, rfl, .inl ⟨by decide, by decide⟩, _, _, rfl, rfl, _, rfl, _, _, rfl, rfl, _, _, rfl, rfl, _, _, rfl, rfl, (by show (0 : Int) < 2305843009213693951; decide), ?_⟩
    have hs0' : 0 <= (st * st + 48271 * st + (0 + (i : Int)) + 1) % 2305843009213693951 := Int.emod_nonneg _ (by decide)
    have hs1' : (st * st + 48271 * st + (0 + (i : Int)) + 1) % 2305843009213693951 < 2305843009213693951 := Int.emod_lt_of_pos _ (by decide)
    refine ⟨_, rfl, _, _, rfl, rfl, _, rfl, ?_⟩
    have hz : (ds.map V.int).length < sizeLine := by rw [List.length_map]; exact small1000 (by lia)
    have more : ∀ d : Int, (ds.map V.int) ++ [V.int d] = (ds ++ [d]).map V.int := fun d => by rw [List.map_append]; rfl
    have mem : ∀ d : Int, 0 <= d -> d < b -> ∀ d' ∈ ds ++ [d], 0 <= d' /\ d' < b := fun d h0 h1 d' hd' => by
      rcases List.mem_append.mp hd' with z | z
      . exact hd d' z
      . rw [List.mem_singleton.mp z]; exact ⟨h0, h1⟩
    refine ite2 (fun c1 => ?_) (fun c1 => ?_)
    . have c1' : 2 < 0 + (i : Int) := of_decide_eq_true c1
      refine ⟨_, rfl, _, _, rfl, rfl, _, rfl, ?_⟩
      refine ite2 (fun c2 => ?_) (fun c2 => ?_)
      . refine ⟨_, rfl, .inl ⟨rfl, _, SqL.of upd_same⟩, _, rfl, _, rfl, _, _, rfl, rfl, hb0, fl, _, _, rfl, rfl, upd_same, hz, ?_⟩
        refine ⟨_, rfl, _, rfl, _, _, rfl, rfl, ⟨hb0, hb1⟩, ?_⟩
        refine ⟨_, _, ds ++ [r % b], _, rfl, ?_, ?_, mem _ (Int.emod_nonneg _ (by lia)) (Int.emod_lt_of_pos _ hb0), hs0', hs1'⟩
        . rw [upd_upd, more]
        . rw [List.length_append, List.length_singleton]; lia
      . refine ⟨_, rfl, _, _, rfl, rfl, _, rfl, ?_⟩
        refine ite2 (fun c3 => ?_) (fun c3 => absurd c1 c3)
        refine ⟨_, rfl, .inl ⟨rfl, _, SqL.of upd_same⟩, _, rfl, _, _, rfl, rfl, ⟨by decide, by decide⟩, _, rfl, _, _, rfl, rfl, hb0, fl, _, _, rfl, rfl, upd_same, hz, ?_⟩
        refine ⟨_, _, ds ++ [(st * st + 48271 * st + (0 + (i : Int)) + 1) % 2305843009213693951 / 4096 % b], _, rfl, ?_, ?_, mem _ (Int.emod_nonneg _ (by lia)) (Int.emod_lt_of_pos _ hb0), hs0', hs1'⟩
        . rw [upd_upd, more]
        . rw [List.length_append, List.length_singleton]; lia
    . have c1' : ¬ 2 < 0 + (i : Int) := of_decide_eq_false (Bool.eq_false_iff.mpr c1)
      refine iteF ?_
      refine ⟨_, rfl, _, _, rfl, rfl, _, rfl, ?_⟩
      refine ite2 (fun c3 => absurd c3 c1) (fun c3 => ?_)
      exact ⟨_, _, ds, _, rfl, rfl, by lia, hd, hs0', hs1'⟩
  . intro σ H' hM_; refine gen2 fun G_ hG_ => ?_; obtain ⟨r, st, ds, ks, rfl, rfl, hl, hd, _⟩ := hM_; subst hG_
    exact ⟨_, rfl, q fl _ ds (Same.new hfl _) upd_same (by lia) hd⟩
end
end Rim
namespace Rim
open PySem L2
theorem ixN_nat {n : Nat} {k : Int} (h0 : 0 <= k) (h1 : k < (n : Int)) : ixN n k = some k.toNat := by
  unfold ixN
  rw [if_pos h0, if_pos h1]
theorem atI_mem {α : Type} {xs : List α} {k : Int} (h0 : 0 <= k) (h1 : k < (xs.length : Int)) : ∃ v, v ∈ xs /\ atI xs k = some v := by
  have hk : k.toNat < xs.length := by lia
  refine ⟨xs[k.toNat], List.getElem_mem hk, ?_⟩
  unfold atI
  rw [ixN_nat h0 h1]
  exact List.getElem?_eq_getElem hk
theorem atI_int {ns : List Int} {k : Int} (h0 : 0 <= k) (h1 : k < (ns.length : Int)) : ∃ v, v ∈ ns /\ atI (ns.map V.int) k = some (.int v) := by
  obtain ⟨v, hv, e⟩ := atI_mem (xs := ns.map V.int) h0 (by rw [List.length_map]; exact h1)
  obtain ⟨n, hn, rfl⟩ := List.mem_map.mp hv
  exact ⟨n, hn, e⟩
theorem map_set {ns : List Int} {j : Nat} {v : Int} : (ns.map V.int).set j (.int v) = (ns.set j v).map V.int := by rw [List.map_set]
structure HG (far : Int) (kt kg : Nat) (h : House) : Prop where
  lt : h.1.length = kt
  lg : h.2.length = kg
  t : ∀ x ∈ h.1, 1 <= x /\ x <= far
  g : ∀ x ∈ h.2, 0 <= x /\ x <= far
  p : ∃ x ∈ h.2, 0 < x
section
variable {P : Program} {w : World} {K : W.Frag} {mg : Str -> Option Value} {base : Heap} {f g : Addr} {fd gd : FuncData}
def spNear (K : W.Frag) : Sp := fun vs H Q _ => ∃ (v : V) (p : Addr) (far : Int) (h : House) (ds : List Int) (kt kg : Nat), vs = [v, .ref p, .int far] /\ HS K H v h /\ HG far kt kg h /\ 1 <= kt /\ kt <= 4 /\ 1 <= kg /\ kg <= 4 /\ 1 <= far ∧
  SqL K H p (ds.map V.int) /\ ds.length = 12 /\ (∀ d ∈ ds, 0 <= d) /\ ∀ (r : V) (H' : Hp) (h' : House), Same H H' -> HS K H' r h' -> HG far kt kg h' -> Q r H'
theorem scNear : FnScope ["house", "picks", "far", "takes", "gives", "by", "at"] ["house", "picks", "far"] (defScope sNear) := ⟨rfl, rfl, rfl, by decide +kernel, rfl, by decide +kernel, by decide +kernel⟩
theorem ndNear1 : (["take", "by"] : List Str).Nodup := by decide +kernel
theorem ndNear2 : (["give", "by"] : List Str).Nodup := by decide +kernel
theorem ok_near {n : Nat} (F : Fun K "_law_near" "_law_near" sNear f fd) (T : Nones mg) : FnOk P w K mg base CX0 (n + 1) f fd ["house", "picks", "far"] (spNear K) := by
  refine F.ok scNear (fun vs H Q E h => ?_) (fun cdv A outer s H vs Q E hr h => ?_)
  . obtain ⟨v, p, far, h, ds, kt, kg, rfl, _⟩ := h
    rfl
  obtain ⟨v, pk, far, h, ds, kt, kg, rfl, ⟨a, t, gv, rfl, h0, h1, h2⟩, hG, kt1, kt4, kg1, kg4, hfar, hP, hd12, hd0, q⟩ := h
  refine ⟨_, pss_cons (ps_asg (pv 0) (pg_tup rfl (pgs_cons (pg_name (i := 3) scNear.nd rfl (Or.inl rfl)) (pgs_cons (pg_name (i := 4) scNear.nd rfl (Or.inl rfl)) pgs_nil))))
    (pss_cons (ps_set (i := 5) scNear.nd rfl (Or.inr rfl) (pe_ix ix_list (pe_lst (pa_cons pe_int (pa_cons pe_int (pa_cons pe_int (pa_cons pe_int pa_nil))))) (pe_op op_mod (pe_ix ix_list (pv 1) pe_int (fun _ _ => rfl)) pe_int) (fun _ _ => rfl)))
    (pss_cut (ps_if (pt_cmpR op_gt (pe_op op_mul (pe_callB (call_max1 rfl) rfl T.max PyProof.Rows.boot_max (pa_cons (pe_op op_catT (pv 3) (pv 4)) pa_nil)) (pv 5)) (pv 2) (nomark _)) (pss_one (ps_set (i := 5) scNear.nd rfl (Or.inr rfl) pe_int)) pss_nil)
    (pss_cons (ps_lc (i := 3) ["take"] [5] scNear.nd rfl rfl rfl (pi_tup (pv 3)) (fun _ _ _ _ => pg_name (i := 0) ndNear1 rfl (Or.inl rfl)) (fun _ _ _ _ => pe_op op_mul (pv 0) (pv 1)))
    (pss_cons (ps_lc (i := 4) ["give"] [5] scNear.nd rfl rfl rfl (pi_tup (pv 4)) (fun _ _ _ _ => pg_name (i := 0) ndNear2 rfl (Or.inl rfl)) (fun _ _ _ _ => pe_op op_mul (pv 0) (pv 1)))
    (pss_cut (ps_if (pt_cmpR op_eq (pe_op op_mod (pe_op op_fdiv (pe_ix ix_list (pv 1) pe_int (fun _ _ => rfl)) pe_int) pe_int) pe_int (nomark _))
      (pss_cons (ps_set (i := 6) scNear.nd rfl (Or.inl rfl) (pe_op op_mod (pe_ix ix_list (pv 1) pe_int (fun _ _ => rfl)) (pe_callB call_len_seq rfl T.len PySem.boot_len (pa_cons (pv 3) pa_nil))))
        (pss_one (ps_asg (pe_callB (call_min2 rfl) rfl T.min PyProof.Rows.boot_min (pa_cons (pv 2) (pa_cons (pe_op op_add (pe_op op_add (pe_ix ix_list (pv 3) (pv 6) (fun _ _ => rfl)) (pe_op op_mod (pe_op op_fdiv (pe_ix ix_list (pv 1) pe_int (fun _ _ => rfl)) pe_int) pe_int)) pe_int) pa_nil))) (pg_sub (pv 3) (pv 6) set_list)))) pss_nil)
    (pss_cut (ps_if (pt_cmpR op_eq (pe_op op_mod (pe_op op_fdiv (pe_ix ix_list (pv 1) pe_int (fun _ _ => rfl)) pe_int) pe_int) pe_int (nomark _))
      (pss_cons (ps_set (i := 6) scNear.nd rfl (Or.inl rfl) (pe_op op_mod (pe_ix ix_list (pv 1) pe_int (fun _ _ => rfl)) (pe_callB call_len_seq rfl T.len PySem.boot_len (pa_cons (pv 4) pa_nil))))
        (pss_one (ps_asg (pe_callB (call_min2 rfl) rfl T.min PyProof.Rows.boot_min (pa_cons (pv 2) (pa_cons (pe_op op_add (pe_ix ix_list (pv 4) (pv 6) (fun _ _ => rfl)) pe_int) pa_nil))) (pg_sub (pv 4) (pv 6) set_list)))) pss_nil)
    (pss_one (ps_ret (pe_tup (pa_cons (pe_callTy call_tuple_of rfl T.tuple PyProof.Rows.boot_tuple (pa_cons (pv 3) pa_nil)) (pa_cons (pe_callTy call_tuple_of rfl T.tuple PyProof.Rows.boot_tuple (pa_cons (pv 4) pa_nil)) pa_nil))))))))))), ?_⟩
  obtain ⟨d9, hd9, a9⟩ := atI_int (ns := ds) (k := 9) (by decide) (by lia)
  obtain ⟨d8, hd8, a8⟩ := atI_int (ns := ds) (k := 8) (by decide) (by lia)
  have p9 := hd0 d9 hd9
  have p8 := hd0 d8 hd8
  refine ⟨_, rfl, a, _, rfl, h0, rfl, _, _, rfl, _, _, rfl, rfl, ?_⟩
  refine ⟨(by show 4 <= sizeLine; decide), fun lp hlp => ?_⟩
  have s1 := Same.new hlp (.lst [V.int 1, V.int 1, V.int 2, V.int 3])
  obtain ⟨bv, hbv, abv⟩ := atI_int (ns := [1, 1, 2, 3]) (k := d9 % 4) (by lia) (by show d9 % 4 < 4; lia)
  have hb : 1 <= bv /\ bv <= 3 := by
    simp at hbv
    rcases hbv with rfl | rfl | rfl <;> decide
  refine ⟨_, rfl, pk, _, 9, _, rfl, rfl, s1.seq hP, a9, _, _, rfl, rfl, (by show (0 : Int) < 4; decide), lp, _, _, _, rfl, rfl, SqL.of upd_same, abv, ?_⟩
  have l1 : (h.1.map V.int).length = kt := by rw [List.length_map]; exact hG.lt
  have l2 : (h.2.map V.int).length = kg := by rw [List.length_map]; exact hG.lg
  have hne : h.1 ++ h.2 ≠ [] := fun z => by
    have := congrArg List.length z
    rw [List.length_append, hG.lt] at this
    simp at this
    lia
  refine ⟨fun σ' H' => ∃ b : Int, σ' = [some (.ref a), some (.ref pk), some (.int far), some (.ref t), some (.ref gv), some (.int b), none] /\ Same H H' /\ (1 <= b /\ b <= 3) /\ ∀ x ∈ h.1 ++ h.2, x * b <= far, ?_, ?_⟩
  . refine ⟨_, rfl, _, rfl, t, gv, _, _, rfl, rfl, s1.tseq h1, s1.tseq h2, ?_, ?_, ?_, ?_⟩
    . intro z; rw [z] at l1; simp at l1; lia
    . rw [l1, l2]; exact Nat.le_of_lt (small1000 (by lia))
    . intro z; rw [z] at l2; simp at l2; lia
    . intro _ pc hpc
      have s2 := Same.new hpc (.tup (h.1.map V.int ++ h.2.map V.int))
      refine ⟨pc, h.1 ++ h.2, rfl, .inr (SqT.of (by rw [upd_same, List.map_append])), hne, fun M hM hMx => ?_⟩
      refine ⟨_, rfl, _, _, rfl, rfl, .inr ⟨by lia, by lia⟩, _, rfl, _, _, rfl, rfl, _, rfl, ?_⟩
      refine ite2 (fun c => ?_) (fun c => ?_)
      . refine ⟨1, rfl, s1.trans s2, by decide, fun x hx => ?_⟩
        rcases List.mem_append.mp hx with z | z
        . have := hG.t x z; lia
        . have := hG.g x z; lia
      . have c' : ¬ far < M * bv := of_decide_eq_false (Bool.eq_false_iff.mpr c)
        refine ⟨bv, rfl, s1.trans s2, hb, fun x hx => ?_⟩
        have := Int.mul_le_mul_of_nonneg_right (hMx x hx) (show 0 <= bv by lia)
        lia
  intro σ' H2 hM_; refine gen2 fun G_ hG_ => ?_; obtain ⟨b, rfl, e2, hb, hbx⟩ := hM_; subst hG_
  have mulok : CMul = CMul := rfl
  refine ⟨_, rfl, t, rfl, ⟨_, e2.tseq h1⟩, fun tl htl => ?_⟩
  refine lc_map (itIs_tup (e2.tseq h1)) htl (by rw [l1]; exact small1000 (by lia)) (fun x => .int (vI x * b)) (fun i x H' N hx e hN => ?_) ?_
  . obtain ⟨k, rfl⟩ := map_int_at hx
    exact ⟨Wk.set (by decide), _, rfl, _, rfl, _, _, rfl, rfl, .inr ⟨by lia, by lia⟩, hN⟩
  have e3 := e2.write (o := .lst ((h.1.map V.int).map fun x => .int (vI x * b))) (e2.free htl)
  refine ⟨_, rfl, gv, rfl, ⟨_, e3.tseq h2⟩, fun gl hgl => ?_⟩
  refine lc_map (itIs_tup (e3.tseq h2)) hgl (by rw [l2]; exact small1000 (by lia)) (fun x => .int (vI x * b)) (fun i x H' N hx e hN => ?_) ?_
  . obtain ⟨k, rfl⟩ := map_int_at hx
    exact ⟨Wk.set (by decide), _, rfl, _, rfl, _, _, rfl, rfl, .inr ⟨by lia, by lia⟩, hN⟩
  have eA : (h.1.map V.int).map (fun x => V.int (vI x * b)) = (h.1.map (· * b)).map V.int := by rw [List.map_map, List.map_map]; rfl
  have eB : (h.2.map V.int).map (fun x => V.int (vI x * b)) = (h.2.map (· * b)).map V.int := by rw [List.map_map, List.map_map]; rfl
  have ftl : H tl = none := e2.free htl
  have fgl : H gl = none := e3.free hgl
  have ne1 : tl ≠ gl := fun z => by rw [<- z, upd_same] at hgl; cases hgl
  rw [eA, eB]
  rw [eA] at e3
  have e4 := e3.write (o := .lst ((h.2.map (· * b)).map V.int)) fgl
  have at4 : upd (upd H2 tl (.lst ((h.1.map (· * b)).map V.int))) gl (.lst ((h.2.map (· * b)).map V.int)) tl = some (.lst ((h.1.map (· * b)).map V.int)) := by rw [upd_ne ne1, upd_same]
  have ag4 : upd (upd H2 tl (.lst ((h.1.map (· * b)).map V.int))) gl (.lst ((h.2.map (· * b)).map V.int)) gl = some (.lst ((h.2.map (· * b)).map V.int)) := upd_same
  generalize upd (upd H2 tl (.lst ((h.1.map (· * b)).map V.int))) gl (.lst ((h.2.map (· * b)).map V.int)) = H4 at e4 at4 ag4 ⊢
  have tA : ∀ x ∈ h.1.map (· * b), 1 <= x /\ x <= far := fun x hx => by
    obtain ⟨y, hy, rfl⟩ := List.mem_map.mp hx
    have y1 := (hG.t y hy).1
    have y2 := hbx y (List.mem_append_left _ hy)
    have y3 := Int.mul_le_mul y1 hb.1 (by decide) (by lia)
    exact ⟨by simpa using y3, y2⟩
  have tB : ∀ x ∈ h.2.map (· * b), 0 <= x /\ x <= far := fun x hx => by
    obtain ⟨y, hy, rfl⟩ := List.mem_map.mp hx
    exact ⟨Int.mul_nonneg (hG.g y hy).1 (by lia), hbx y (List.mem_append_right _ hy)⟩
  have tP : ∃ x ∈ h.2.map (· * b), 0 < x := by
    obtain ⟨y, hy, y0⟩ := hG.p
    exact ⟨y * b, List.mem_map.mpr ⟨y, hy, rfl⟩, Int.mul_pos y0 (by lia)⟩
  have lA : (h.1.map (· * b)).length = kt := by rw [List.length_map]; exact hG.lt
  have lB : (h.2.map (· * b)).length = kg := by rw [List.length_map]; exact hG.lg
  generalize h.1.map (· * b) = A0 at tA lA at4
  generalize h.2.map (· * b) = B0 at tB lB tP ag4
  refine ⟨fun σ' H' => ∃ (A1 : List Int) (ks : Option V), σ' = [some (.ref a), some (.ref pk), some (.int far), some (.ref tl), some (.ref gl), some (.int b), ks] /\ Same H H' /\ H' tl = some (.lst (A1.map V.int)) /\ H' gl = some (.lst (B0.map V.int)) /\ A1.length = kt /\ ∀ x ∈ A1, 1 <= x /\ x <= far, ?_, ?_⟩
  . refine ⟨_, rfl, pk, _, 9, _, rfl, rfl, e4.seq hP, a9, _, _, rfl, rfl, ⟨by decide, by decide⟩, _, _, rfl, rfl, (by show (0 : Int) < 3; decide), rfl, _, rfl, ?_⟩
    refine ite2 (fun c => ?_) (fun c => ⟨A0, none, rfl, e4, at4, ag4, lA, tA⟩)
    have lA' : (A0.map V.int).length = kt := by rw [List.length_map]; exact lA
    refine ⟨_, rfl, pk, _, 8, _, rfl, rfl, e4.seq hP, a8, _, rfl, tl, _, rfl, .inl (SqL.of at4), _, _, rfl, rfl, (by show (0 : Int) < ((A0.map V.int).length : Int); rw [lA']; lia), ?_⟩
    have r0 : 0 <= d8 % ((A0.map V.int).length : Int) := Int.emod_nonneg _ (by rw [lA']; lia)
    have r1 : d8 % ((A0.map V.int).length : Int) < ((A0.map V.int).length : Int) := Int.emod_lt_of_pos _ (by rw [lA']; lia)
    obtain ⟨x, hx, ax⟩ := atI_int (ns := A0) (k := d8 % ((A0.map V.int).length : Int)) r0 (by rw [List.length_map] at r1 ⊢; exact r1)
    have hx1 := tA x hx
    refine ⟨_, rfl, _, rfl, _, rfl, tl, _, _, _, rfl, rfl, SqL.of at4, ax, _, rfl, pk, _, 9, _, rfl, rfl, e4.seq hP, a9, _, _, rfl, rfl, ⟨by decide, by decide⟩, _, _, rfl, rfl, (by show (0 : Int) < 2; decide), _, _, rfl, rfl, _, _, rfl, rfl, _, _, rfl, ?_⟩
    refine ⟨_, rfl, _, rfl, tl, _, _, _, rfl, rfl, at4, ixN_nat r0 r1, ?_⟩
    refine ⟨A0.set (d8 % ((A0.map V.int).length : Int)).toNat _, _, rfl, e4.write ftl, by rw [upd_same, map_set], by rw [upd_ne (Ne.symm ne1)]; exact ag4, by rw [List.length_set]; exact lA, fun y hy => ?_⟩
    rcases List.mem_or_eq_of_mem_set hy with z | z
    . exact tA y z
    . rw [z]
      split <;> lia
  intro σ' H5 hM_; refine gen2 fun G_ hG_ => ?_; obtain ⟨A1, ks, rfl, e5, at5, ag5, lA1, tA1⟩ := hM_; subst hG_
  refine ⟨fun σ' H' => ∃ (B1 : List Int) (ks : Option V), σ' = [some (.ref a), some (.ref pk), some (.int far), some (.ref tl), some (.ref gl), some (.int b), ks] /\ Same H H' /\ H' tl = some (.lst (A1.map V.int)) /\ H' gl = some (.lst (B1.map V.int)) /\ B1.length = kg /\ (∀ x ∈ B1, 0 <= x /\ x <= far) /\ ∃ x ∈ B1, 0 < x, ?_, ?_⟩
  . refine ⟨_, rfl, pk, _, 9, _, rfl, rfl, e5.seq hP, a9, _, _, rfl, rfl, ⟨by decide, by decide⟩, _, _, rfl, rfl, (by show (0 : Int) < 3; decide), rfl, _, rfl, ?_⟩
    refine ite2 (fun c => ?_) (fun c => ⟨B0, ks, rfl, e5, at5, ag5, lB, tB, tP⟩)
    have lB' : (B0.map V.int).length = kg := by rw [List.length_map]; exact lB
    refine ⟨_, rfl, pk, _, 8, _, rfl, rfl, e5.seq hP, a8, _, rfl, gl, _, rfl, .inl (SqL.of ag5), _, _, rfl, rfl, (by show (0 : Int) < ((B0.map V.int).length : Int); rw [lB']; lia), ?_⟩
    have r0 : 0 <= d8 % ((B0.map V.int).length : Int) := Int.emod_nonneg _ (by rw [lB']; lia)
    have r1 : d8 % ((B0.map V.int).length : Int) < ((B0.map V.int).length : Int) := Int.emod_lt_of_pos _ (by rw [lB']; lia)
    obtain ⟨x, hx, ax⟩ := atI_int (ns := B0) (k := d8 % ((B0.map V.int).length : Int)) r0 (by rw [List.length_map] at r1 ⊢; exact r1)
    have hx1 := tB x hx
    refine ⟨_, rfl, _, rfl, _, rfl, gl, _, _, _, rfl, rfl, SqL.of ag5, ax, _, _, rfl, rfl, _, _, rfl, ?_⟩
    refine ⟨_, rfl, _, rfl, gl, _, _, _, rfl, rfl, ag5, ixN_nat r0 r1, ?_⟩
    have rn : (d8 % ((B0.map V.int).length : Int)).toNat < B0.length := by rw [List.length_map] at r1 ⊢; lia
    refine ⟨B0.set (d8 % ((B0.map V.int).length : Int)).toNat _, _, rfl, e5.write fgl, by rw [upd_ne ne1]; exact at5, by rw [upd_same, map_set], by rw [List.length_set]; exact lB, fun y hy => ?_, _, List.mem_set rn _, ?_⟩
    . rcases List.mem_or_eq_of_mem_set hy with z | z
      . exact tB y z
      . rw [z]
        split <;> lia
    . split <;> lia
  intro σ' H6 hM_; refine gen2 fun G_ hG_ => ?_; obtain ⟨B1, ks, rfl, e6, at6, ag6, lB1, tB1, tP1⟩ := hM_; subst hG_
  refine ⟨_, rfl, tl, _, rfl, .inl ⟨SqL.of at6, fun pt hpt => ?_⟩⟩
  have f1 := Same.new hpt (.tup (A1.map V.int))
  refine ⟨_, rfl, gl, _, rfl, .inl ⟨SqL.of (f1 _ _ ag6), fun pg hpg => ?_⟩⟩
  have f2 := Same.new hpg (.tup (B1.map V.int))
  refine ⟨(by show 2 <= sizeLine; decide), fun pr hpr => ?_⟩
  have f3 := Same.new hpr (.tup [V.ref pt, V.ref pg])
  exact q _ _ (A1, B1) (e6.trans (f1.trans (f2.trans f3))) ⟨pr, pt, pg, rfl, SqT.of upd_same, SqT.of (f3 _ _ (f2 _ _ upd_same)), SqT.of (f3 _ _ upd_same)⟩ ⟨lA1, lB1, tA1, tB1, tP1⟩
end
end Rim
namespace L2
open PySem
def Keep (H H' : Hp) : Prop := ∀ b o, H b = some o -> (∀ xs, o ≠ .lst xs) -> H' b = some o
theorem Keep.upd {H : Hp} {b : Addr} {ys : List V} {o : HO} (h : H b = some (.lst ys)) : Keep H (upd H b o) := fun c u q n => by
  have : c ≠ b := fun z => by rw [z, h] at q; exact n ys (Option.some.inj q).symm
  rw [upd_ne this]; exact q
theorem Keep.tseq {K : W.Frag} {H H' : Hp} {a : Addr} {xs : List V} (e : Keep H H') (h : SqT K H a xs) : SqT K H' a xs := by
  rcases h with (h | ⟨o, h⟩) | h
  . exact .inl (.inl (e _ _ h (fun _ z => nomatch z)))
  . exact .inl (.inr ⟨o, e _ _ h (fun _ z => nomatch z)⟩)
  . exact .inr h
end L2
namespace Rim
open PySem L2
theorem HS.keep {K : W.Frag} {H H' : Hp} {v : V} {h : House} (e : Keep H H') (x : HS K H v h) : HS K H' v h := by
  obtain ⟨a, t, g, h0, h1, h2, h3⟩ := x
  exact ⟨a, t, g, h0, e.tseq h1, e.tseq h2, e.tseq h3⟩
theorem Bk.keep {K : W.Frag} {H H' : Hp} {vs : List V} {hs : List House} (e : Keep H H') (x : Bk K H vs hs) : Bk K H' vs hs := Paired.imp' (fun _ _ r => HS.keep e r) x
def dInts (ns : List Int) : PyData := .tuple (ns.map PyData.int)
def dHouse (h : House) : PyData := .tuple [dInts h.1, dInts h.2]
theorem dps_ints {K : W.Frag} {H : Hp} : ∀ ns : List Int, Dps K H (ns.map V.int) (ns.map PyData.int)
  | [] => .nil
  | n :: r => .cons (.int n) (dps_ints r)
theorem HS.dp {K : W.Frag} {H : Hp} {v : V} {h : House} (x : HS K H v h) : Dp K H v (dHouse h) := by
  obtain ⟨a, t, g, rfl, h1, h2, h3⟩ := x
  exact .tup h1 (.cons (.tup h2 (dps_ints _)) (.cons (.tup h3 (dps_ints _)) .nil))
theorem Bk.dps {K : W.Frag} {H : Hp} : ∀ {vs : List V} {hs : List House}, Bk K H vs hs -> Dps K H vs (hs.map dHouse)
  | _, _, .nil => .nil
  | _, _, .cons x r => .cons x.dp (Bk.dps r)
theorem lay_ints : ∀ ns : List Int, PyData.canLayAll0 (ns.map PyData.int) = true
  | [] => by rw [List.map_nil, PyData.canLayAll0]
  | n :: r => by rw [List.map_cons, PyData.canLayAll0, lay_ints r, PyData.canLay0]; rfl
theorem lay_house (h : House) : (dHouse h).canLay0 = true := by
  unfold dHouse dInts
  rw [PyData.canLay0, PyData.canLayAll0, PyData.canLay0, lay_ints, PyData.canLayAll0, PyData.canLay0, lay_ints, PyData.canLayAll0]; rfl
theorem lay_book : ∀ hs : List House, PyData.canLayAll0 (hs.map dHouse) = true
  | [] => by rw [List.map_nil, PyData.canLayAll0]
  | h :: r => by rw [List.map_cons, PyData.canLayAll0, lay_house, lay_book r]; rfl
section
variable {P : Program} {w : World} {K : W.Frag} {mg : Str -> Option Value} {base : Heap} {f g : Addr} {fd gd : FuncData}
def spABook (K : W.Frag) : Sp := fun vs H Q _ => ∃ (a : Addr) (ns : List Int) (at' most far : Int), vs = [.ref a, .int at', .int most, .int far] /\ SqL K H a (ns.map V.int) /\ 0 <= at' /\ 1 <= most /\ most <= 900 /\ 1 <= far ∧
  ∀ (r : Addr) (H' : Hp) (xs : List V) (hs : List House) (kt kg : Nat), Same H H' -> H' r = some (.lst xs) -> Bk K H' xs hs -> 1 <= hs.length -> (hs.length : Int) <= most -> 1 <= kt -> kt <= 4 -> 1 <= kg -> kg <= 4 -> (∀ h ∈ hs, HG far kt kg h) -> Q (.ref r) H'
theorem scABook : FnScope ["script", "at", "most", "far", "heads", "kinds", "many", "size", "book", "k", "picks", "takes", "some", "gives", "house"] ["script", "at", "most", "far"] (defScope sABook) := ⟨rfl, rfl, rfl, by decide +kernel, rfl, by decide +kernel, by decide +kernel⟩
theorem ndABook : (["pick", "size"] : List Str).Nodup := by decide +kernel
set_option maxHeartbeats 4000000 in
noncomputable def abT {n : Nat} {fc fw fn : Addr} {dc dw dn : FuncData} {cdv : Value} {A : Around} {outer : List Env} {s : Shared} {H : Hp} {E : XK} (T : Nones mg)
    (Gc : FnOk P w K mg base CX0 n fc dc ["script", "k"] (spCell K)) (bc : Binds K dc ["script", "k"] []) (kc : W.keepIn K (.ref fc) = true) (mc : mg "_law_cell_at" = some (.ref fc))
    (Gw : FnOk P w K mg base CX0 n fw dw ["cell", "many", "base"] (spDraws K)) (bw : Binds K dw ["cell", "many", "base"] []) (kw : W.keepIn K (.ref fw) = true) (mw : mg "_law_draws" = some (.ref fw))
    (Gn : FnOk P w K mg base CX0 n fn dn ["house", "picks", "far"] (spNear K)) (bn : Binds K dn ["house", "picks", "far"] []) (kn : W.keepIn K (.ref fn) = true) (mn : mg "_law_near" = some (.ref fn))
    (hr : Room n (A.deeper (PyProof.Rows.envOfC "_law_a_book" (defScope sABook) s.heap.objs.size f cdv))) :
    { t : TS // PSs (cxOf CX0 P w K mg base ["script", "at", "most", "far", "heads", "kinds", "many", "size", "book", "k", "picks", "takes", "some", "gives", "house"] "_law_a_book" (defScope sABook) f cdv A outer s H E).nox (defBody sABook) t } :=
  ⟨_, pss_cons (ps_set (i := 4) scABook.nd rfl (Or.inl rfl) (pe_call Gw hr rfl mw kw bw .nil pass0 (pa_cons (pe_call Gc hr rfl mc kc bc .nil pass0 (pa_cons (pv 0) (pa_cons (pv 1) pa_nil))) (pa_cons pe_int (pa_cons pe_int pa_nil)))))
    (pss_cut (ps_set (i := 5) scABook.nd rfl (Or.inl rfl) (pe_lst (pa_cons (pe_op op_add pe_int (pe_op op_mod (pe_ix ix_list (pv 4) pe_int (fun _ _ => rfl)) (pe_ix ix_list (pe_lst (pa_cons pe_int (pa_cons pe_int pa_nil))) (pe_op op_mod (pe_ix ix_list (pv 4) pe_int (fun _ _ => rfl)) pe_int) (fun _ _ => rfl))))
      (pa_cons (pe_op op_add pe_int (pe_op op_mod (pe_ix ix_list (pv 4) pe_int (fun _ _ => rfl)) (pe_ix ix_list (pe_lst (pa_cons pe_int (pa_cons pe_int pa_nil))) (pe_op op_mod (pe_ix ix_list (pv 4) pe_int (fun _ _ => rfl)) pe_int) (fun _ _ => rfl)))) pa_nil))))
    (pss_cut (ps_set (i := 6) scABook.nd rfl (Or.inl rfl) (pe_op op_add pe_int (pe_op op_mod (pe_ix ix_list (pv 4) pe_int (fun _ _ => rfl)) (pe_ix ix_list (pe_lst (pa_cons (pv 2) (pa_cons (pe_callB (call_min2 rfl) rfl T.min PyProof.Rows.boot_min (pa_cons (pv 2) (pa_cons pe_int pa_nil))) pa_nil))) (pe_op op_fdiv (pe_op op_mod (pe_ix ix_list (pv 4) pe_int (fun _ _ => rfl)) pe_int) pe_int) (fun _ _ => rfl)))))
    (pss_cut (ps_set (i := 7) scABook.nd rfl (Or.inr rfl) (pe_callB (call_min2 rfl) rfl T.min PyProof.Rows.boot_min (pa_cons (pv 3) (pa_cons (pe_ix ix_list (pe_lst (pa_cons pe_int (pa_cons pe_int (pa_cons pe_int (pa_cons pe_int (pa_cons (pe_op op_pow pe_int pe_int) pa_nil)))))) (pe_op op_mod (pe_ix ix_list (pv 4) pe_int (fun _ _ => rfl)) pe_int) (fun _ _ => rfl)) pa_nil))))
    (pss_cons (ps_set (i := 8) scABook.nd rfl (Or.inl rfl) (pe_lst pa_nil))
    (pss_cons (ps_for PassesOwn.never rfl (pi_range1 rfl T.range (pa_cons (pv 6) pa_nil)) (pg_name (i := 9) scABook.nd rfl (Or.inl rfl))
      (pss_cut (ps_set (i := 10) scABook.nd rfl (Or.inl rfl) (pe_call Gw hr rfl mw kw bw .nil pass0 (pa_cons (pe_op op_add (pe_call Gc hr rfl mc kc bc .nil pass0 (pa_cons (pv 0) (pa_cons (pe_op op_add (pv 1) pe_int) pa_nil))) (pe_op op_mul (pv 9) (pe_op op_add (pe_ix ix_list (pv 4) pe_int (fun _ _ => rfl)) pe_int))) (pa_cons pe_int (pa_cons (pe_op op_pow pe_int pe_int) pa_nil)))))
      (pss_cut (ps_set (i := 11) scABook.nd rfl (Or.inl rfl) (pe_callTy call_tuple_of rfl T.tuple PyProof.Rows.boot_tuple (pa_cons (pe_lc ["pick"] [7] rfl (pi_list (pe_slice sl_list (pv 10) po_none (po_some (pe_ix ix_list (pv 5) pe_int (fun _ _ => rfl))))) (fun _ _ _ _ => pg_name (i := 0) ndABook rfl (Or.inl rfl)) (fun _ _ _ _ => pe_op op_add pe_int (pe_op op_mod (pv 0) (pv 1)))) pa_nil)))
      (pss_cons (ps_set (i := 12) scABook.nd rfl (Or.inl rfl) (pe_slice sl_list (pv 10) (po_some pe_int) (po_some (pe_op op_add pe_int (pe_ix ix_list (pv 5) pe_int (fun _ _ => rfl))))))
      (pss_cut (ps_lc (i := 13) ["pick"] [7] scABook.nd rfl rfl rfl (pi_list (pv 12)) (fun _ _ _ _ => pg_name (i := 0) ndABook rfl (Or.inl rfl)) (fun _ _ _ _ => pe_op op_mul (pe_op op_mod (pv 0) (pe_op op_add (pv 1) pe_int)) (pe_callTy call_int1 rfl T.int PyProof.Rows.boot_int (pa_cons (pe_cmpR op_gt (pe_op op_mod (pv 0) pe_int) pe_int (nomark _)) pa_nil))))
      (pss_cut (ps_if (pt_cmpR op_eq (pe_callB (call_max1 rfl) rfl T.max PyProof.Rows.boot_max (pa_cons (pv 13) pa_nil)) pe_int (nomark _)) (pss_one (ps_asg (pe_op op_add pe_int (pe_op op_mod (pe_ix ix_list (pv 10) pe_int (fun _ _ => rfl)) (pv 7))) (pg_sub (pv 13) (pe_op op_mod (pe_ix ix_list (pv 10) pe_int (fun _ _ => rfl)) (pe_ix ix_list (pv 5) pe_int (fun _ _ => rfl))) set_list))) pss_nil)
      (pss_cut (ps_set (i := 14) scABook.nd rfl (Or.inl rfl) (pe_tup (pa_cons (pv 11) (pa_cons (pe_callTy call_tuple_of rfl T.tuple PyProof.Rows.boot_tuple (pa_cons (pv 13) pa_nil)) pa_nil))))
      (pss_cut (ps_if (PW.pt (pw_and (pt_cmpR (op_neD hr) (pv 8) (pe_lst pa_nil) (nomark _)) (pw_and1 (pt_cmpR op_eq (pe_op op_mod (pe_ix ix_list (pv 10) pe_int (fun _ _ => rfl)) pe_int) pe_int (nomark _)))))
        (pss_one (ps_set (i := 14) scABook.nd rfl (Or.inl rfl) (pe_call Gn hr rfl mn kn bn .nil pass0 (pa_cons (pe_ix ix_list (pv 8) (pe_op op_mod (pe_ix ix_list (pv 10) pe_int (fun _ _ => rfl)) (pe_callB call_len_seq rfl T.len PySem.boot_len (pa_cons (pv 8) pa_nil))) (fun _ _ => rfl)) (pa_cons (pv 10) (pa_cons (pv 3) pa_nil)))))) pss_nil)
      (pss_one (ps_expr (pe_bm PySem.F.plainAttrs_list PySem.F.slot_list_append PySem.F.type_list_append mt_append (pv 8) (pa_cons (pv 14) pa_nil))))))))))))
    (pss_one (ps_ret (pv 8))))))))⟩
end
end Rim
namespace Rim
open PySem L2
section
variable {P : Program} {w : World} {K : W.Frag} {mg : Str -> Option Value} {base : Heap} {f g : Addr} {fd gd : FuncData}
set_option maxHeartbeats 4000000 in
theorem ok_abook {n : Nat} {fc fw fn : Addr} {dc dw dn : FuncData} (F : Fun K "_law_a_book" "_law_a_book" sABook f fd) (T : Nones mg)
    (Gc : FnOk P w K mg base CX0 n fc dc ["script", "k"] (spCell K)) (bc : Binds K dc ["script", "k"] []) (kc : W.keepIn K (.ref fc) = true) (mc : mg "_law_cell_at" = some (.ref fc))
    (Gw : FnOk P w K mg base CX0 n fw dw ["cell", "many", "base"] (spDraws K)) (bw : Binds K dw ["cell", "many", "base"] []) (kw : W.keepIn K (.ref fw) = true) (mw : mg "_law_draws" = some (.ref fw))
    (Gn : FnOk P w K mg base CX0 n fn dn ["house", "picks", "far"] (spNear K)) (bn : Binds K dn ["house", "picks", "far"] []) (kn : W.keepIn K (.ref fn) = true) (mn : mg "_law_near" = some (.ref fn)) :
    FnOk P w K mg base CX0 (n + 1) f fd ["script", "at", "most", "far"] (spABook K) := by
  refine F.ok scABook (fun vs H Q E h => ?_) (fun cdv A outer s H vs Q E hr h => ?_)
  . obtain ⟨a, ns, at', most, far, rfl, _⟩ := h
    rfl
  obtain ⟨a, ns, at', most, far, rfl, hS, hat, hm1, hm2, hfar, q⟩ := h
  refine ⟨_, (abT T Gc bc kc mc Gw bw kw mw Gn bn kn mn hr).2, ?_⟩
  refine ⟨_, rfl, _, rfl, a, ns, at', rfl, hS, hat, fun c => ⟨c, 8, 1000, rfl, by decide, by decide, by decide, fun hl H1 hd e1 hH1 hlen hb => ?_⟩⟩
  have hd' : ∀ k : Int, 0 <= k -> k < 8 -> ∃ v, v ∈ hd /\ atI (hd.map V.int) k = some (.int v) := fun k k0 k1 => atI_int k0 (by lia)
  obtain ⟨x0, m0, a0⟩ := hd' 0 (by decide) (by decide)
  obtain ⟨x1, m1, a1⟩ := hd' 1 (by decide) (by decide)
  obtain ⟨x2, m2, a2⟩ := hd' 2 (by decide) (by decide)
  obtain ⟨x3, m3, a3⟩ := hd' 3 (by decide) (by decide)
  obtain ⟨x4, m4, a4⟩ := hd' 4 (by decide) (by decide)
  obtain ⟨x5, m5, a5⟩ := hd' 5 (by decide) (by decide)
  obtain ⟨x7, m7, a7⟩ := hd' 7 (by decide) (by decide)
  have b0 := hb x0 m0; have b1 := hb x1 m1; have b2 := hb x2 m2; have b3 := hb x3 m3; have b4 := hb x4 m4; have b5 := hb x5 m5; have b7 := hb x7 m7
  -- kinds
  refine ⟨fun σ' H' => ∃ (kl : Addr) (kt kg : Nat), σ' = [some (.ref a), some (.int at'), some (.int most), some (.int far), some (.ref hl), some (.ref kl), none, none, none, none, none, none, none, none, none] /\ Same H1 H' /\ H' kl = some (.lst [.int (kt : Int), .int (kg : Int)]) /\ 1 <= kt /\ kt <= 4 /\ 1 <= kg /\ kg <= 4, ?_, ?_⟩
  . have two : ∀ y : Int, 0 <= y -> ∃ z : Int, (z = 4 \/ z = 2) /\ atI [V.int 4, V.int 2] (y % 2) = some (.int z) := fun y hy => by
      obtain ⟨z, hz, az⟩ := atI_int (ns := [4, 2]) (k := y % 2) (by lia) (by show y % 2 < 2; lia)
      exact ⟨z, by simpa using hz, az⟩
    obtain ⟨z1, hz1, az1⟩ := two x2 b2.1
    refine ⟨_, rfl, hl, _, 0, _, rfl, rfl, SqL.of hH1, a0, (by show 2 <= sizeLine; decide), fun l1 hl1 => ?_⟩
    have s1 := Same.new hl1 (.lst [V.int 4, V.int 2])
    refine ⟨_, rfl, hl, _, 2, _, rfl, rfl, SqL.of (s1 _ _ hH1), a2, _, _, rfl, rfl, (by show (0 : Int) < 2; decide), l1, _, _, _, rfl, rfl, SqL.of upd_same, az1, _, _, rfl, rfl, (by show (0 : Int) < z1; lia), _, _, rfl, rfl, ?_⟩
    refine ⟨_, rfl, hl, _, 1, _, rfl, rfl, SqL.of (s1 _ _ hH1), a1, (by show 2 <= sizeLine; decide), fun l2 hl2 => ?_⟩
    have s2 := Same.new hl2 (.lst [V.int 4, V.int 2])
    refine ⟨_, rfl, hl, _, 2, _, rfl, rfl, SqL.of (s2 _ _ (s1 _ _ hH1)), a2, _, _, rfl, rfl, (by show (0 : Int) < 2; decide), l2, _, _, _, rfl, rfl, SqL.of upd_same, az1, _, _, rfl, rfl, (by show (0 : Int) < z1; lia), _, _, rfl, rfl, ?_⟩
    refine ⟨(by show 2 <= sizeLine; decide), fun kl hkl => ?_⟩
    have s3 := Same.new hkl (.lst [V.int (1 + x0 % z1), V.int (1 + x1 % z1)])
    have p0 : 0 <= x0 % z1 /\ x0 % z1 < z1 := ⟨Int.emod_nonneg _ (by lia), Int.emod_lt_of_pos _ (by lia)⟩
    have p1 : 0 <= x1 % z1 /\ x1 % z1 < z1 := ⟨Int.emod_nonneg _ (by lia), Int.emod_lt_of_pos _ (by lia)⟩
    refine ⟨kl, (1 + x0 % z1).toNat, (1 + x1 % z1).toNat, rfl, s1.trans (s2.trans s3), ?_, by lia, by lia, by lia, by lia⟩
    rw [upd_same, Int.toNat_of_nonneg (by lia), Int.toNat_of_nonneg (by lia)]
  intro σ' H2 hM_; refine gen2 fun G_ hG_ => ?_; obtain ⟨kl, kt, kg, rfl, e2, hkl, kt1, kt4, kg1, kg4⟩ := hM_; subst hG_
  have hh2 := e2 _ _ hH1
  -- many
  refine ⟨fun σ' H' => ∃ (many : Nat), σ' = [some (.ref a), some (.int at'), some (.int most), some (.int far), some (.ref hl), some (.ref kl), some (.int (many : Int)), none, none, none, none, none, none, none, none] /\ Same H2 H' /\ 1 <= many /\ (many : Int) <= most, ?_, ?_⟩
  . refine ⟨_, rfl, hl, _, 3, _, rfl, rfl, SqL.of hh2, a3, _, rfl, _, rfl, _, _, rfl, (by show 2 <= sizeLine; decide), fun l1 hl1 => ?_⟩
    have s1 := Same.new hl1 (.lst [V.int most, V.int (if 4 < most then 4 else most)])
    obtain ⟨z, hz, az⟩ := atI_int (ns := [most, if 4 < most then 4 else most]) (k := x4 % 3 / 2) (by lia) (by show x4 % 3 / 2 < 2; lia)
    have hz' : 1 <= z /\ z <= most := by
      simp only [List.mem_cons, List.not_mem_nil, or_false] at hz
      rcases hz with rfl | rfl
      . lia
      . split <;> lia
    refine ⟨_, rfl, hl, _, 4, _, rfl, rfl, SqL.of (s1 _ _ hh2), a4, _, _, rfl, rfl, (by show (0 : Int) < 3; decide), _, _, rfl, rfl, ⟨by decide, by decide⟩, l1, _, _, _, rfl, rfl, SqL.of upd_same, az, _, _, rfl, rfl, (by show (0 : Int) < z; lia), _, _, rfl, rfl, ?_⟩
    have p0 : 0 <= x3 % z /\ x3 % z < z := ⟨Int.emod_nonneg _ (by lia), Int.emod_lt_of_pos _ (by lia)⟩
    refine ⟨(1 + x3 % z).toNat, ?_, s1, by lia, by lia⟩
    rw [Int.toNat_of_nonneg (by lia)]
    rfl
  intro σ' H3 hM_; refine gen2 fun G_ hG_ => ?_; obtain ⟨many, rfl, e3, mn1, mn2⟩ := hM_; subst hG_
  have hh3 := e3 _ _ hh2
  have hk3 := e3 _ _ hkl
  -- size
  refine ⟨fun σ' H' => ∃ (size : Int), σ' = [some (.ref a), some (.int at'), some (.int most), some (.int far), some (.ref hl), some (.ref kl), some (.int (many : Int)), some (.int size), none, none, none, none, none, none, none] /\ Same H3 H' /\ 1 <= size /\ size <= far /\ size <= 1000000000, ?_, ?_⟩
  . refine ⟨_, rfl, _, _, rfl, rfl, ⟨by decide, by decide, by decide⟩, (by show 5 <= sizeLine; decide), fun l1 hl1 => ?_⟩
    have s1 := Same.new hl1 (.lst [V.int 4, V.int 9, V.int 50, V.int 1000, V.int (10 ^ (9 : Int).toNat)])
    obtain ⟨z, hz, az⟩ := atI_int (ns := [4, 9, 50, 1000, 10 ^ (9 : Int).toNat]) (k := x5 % 5) (by lia) (by show x5 % 5 < 5; lia)
    have hz' : 1 <= z /\ z <= 1000000000 := by
      have e9 : (10 : Int) ^ (9 : Int).toNat = 1000000000 := by decide
      rw [e9] at hz
      simp only [List.mem_cons, List.not_mem_nil, or_false] at hz
      rcases hz with rfl | rfl | rfl | rfl | rfl <;> decide
    refine ⟨_, rfl, hl, _, 5, _, rfl, rfl, SqL.of (s1 _ _ hh3), a5, _, _, rfl, rfl, (by show (0 : Int) < 5; decide), l1, _, _, _, rfl, rfl, SqL.of upd_same, az, _, _, rfl, ?_⟩
    refine ⟨_, rfl, s1, ?_, ?_, ?_⟩ <;> (split <;> lia)
  intro σ' H4 hM_; refine gen2 fun G_ hG_ => ?_; obtain ⟨size, rfl, e4, sz1, szf, sz9⟩ := hM_; subst hG_
  have hh4 := e4 _ _ hh3
  have hk4 := e4 _ _ hk3
  have e14 : Same H H4 := e1.trans (e2.trans (e3.trans e4))
  refine ⟨(by show 0 <= sizeLine; decide), fun bl hbl => ?_⟩
  refine ⟨_, rfl, (many : Int), rfl, by lia, by lia, ?_⟩
  rw [Int.toNat_natCast]
  refine for_range (n := many) (fun i σ H' => ∃ (xs : List V) (hs : List House) (o9 o10 o11 o12 o13 o14 : Option V), σ = [some (.ref a), some (.int at'), some (.int most), some (.int far), some (.ref hl), some (.ref kl), some (.int (many : Int)), some (.int size), some (.ref bl), o9, o10, o11, o12, o13, o14] ∧
      Same H4 H' /\ H' bl = some (.lst xs) /\ Bk K H' xs hs /\ hs.length = i /\ ∀ h ∈ hs, HG far kt kg h)
    ⟨[], [], _, _, _, _, _, _, rfl, Same.new hbl _, upd_same, .nil, rfl, fun h hh => (by cases hh)⟩ ?_ ?_
  . rintro i σ H5 hi ⟨xs, hs, o9, o10, o11, o12, o13, o14, rfl, e5, hb5, hB, hlen5, hG⟩
    have hh5 := e5 _ _ hh4
    have hk5 := e5 _ _ hk4
    have xlen : xs.length = hs.length := Paired.length hB
    have ak0 : atI [V.int (kt : Int), V.int (kg : Int)] 0 = some (.int (kt : Int)) := atI_nat (j := 0) rfl
    have ak1 : atI [V.int (kt : Int), V.int (kg : Int)] 1 = some (.int (kg : Int)) := atI_nat (j := 1) rfl
    -- picks
    refine ⟨fun σ' H' => ∃ (pl : Addr) (ds : List Int), σ' = [some (.ref a), some (.int at'), some (.int most), some (.int far), some (.ref hl), some (.ref kl), some (.int (many : Int)), some (.int size), some (.ref bl), some (.int (0 + (i : Int))), some (.ref pl), o11, o12, o13, o14] /\ Same H5 H' /\ H' pl = some (.lst (ds.map V.int)) /\ ds.length = 12 /\ ∀ d ∈ ds, 0 <= d, ?_, ?_⟩
    . refine ⟨_, rfl, _, rfl, _, _, rfl, rfl, a, ns, at' + 1, rfl, (e14.trans e5).seq hS, by lia, fun c => ?_⟩
      refine ⟨_, rfl, _, rfl, hl, _, 7, _, rfl, rfl, SqL.of hh5, a7, _, _, rfl, rfl, _, _, rfl, rfl, .inl ⟨by lia, by lia⟩, _, _, rfl, rfl, _, _, rfl, rfl, ⟨by decide, by decide, by decide⟩, ?_⟩
      exact ⟨_, 12, _, rfl, by decide, by decide, by decide, fun pl H6 ds e6 hp6 l6 d6 => ⟨pl, ds, rfl, e6, hp6, l6, fun d hd => (d6 d hd).1⟩⟩
    intro σ' H6 hM_; refine gen2 fun G_ hG_ => ?_; obtain ⟨pl, ds, rfl, e6, hp6, l6, d6⟩ := hM_; subst hG_
    have hh6 := e6 _ _ hh5
    have hk6 := e6 _ _ hk5
    have hb6 := e6 _ _ hb5
    have pk : ∀ k : Int, 0 <= k -> k < 12 -> ∃ v, v ∈ ds /\ atI (ds.map V.int) k = some (.int v) := fun k k0 k1 => atI_int k0 (by lia)
    obtain ⟨y8, n8, c8⟩ := pk 8 (by decide) (by decide)
    obtain ⟨y9, n9, c9⟩ := pk 9 (by decide) (by decide)
    obtain ⟨y10, n10, c10⟩ := pk 10 (by decide) (by decide)
    obtain ⟨y11, n11, c11⟩ := pk 11 (by decide) (by decide)
    have g8 := d6 _ n8; have g9 := d6 _ n9; have g10 := d6 _ n10; have g11 := d6 _ n11
    have dl : (ds.map V.int).length = 12 := by rw [List.length_map]; exact l6
    -- takes
    refine ⟨fun σ' H' => ∃ (tp : Addr) (At : List Int), σ' = [some (.ref a), some (.int at'), some (.int most), some (.int far), some (.ref hl), some (.ref kl), some (.int (many : Int)), some (.int size), some (.ref bl), some (.int (0 + (i : Int))), some (.ref pl), some (.ref tp), o12, o13, o14] /\ Same H6 H' /\ H' tp = some (.tup (At.map V.int)) /\ At.length = kt /\ ∀ x ∈ At, 1 <= x /\ x <= far, ?_, ?_⟩
    . have ec : cutV (ds.map V.int) none (some (kt : Int)) = (ds.take kt).map V.int := by
        unfold cutV
        rw [HT.sIx_none, HT.sIx_nat, dl, List.drop_zero, List.map_take]
        congr 1
        lia
      refine ⟨_, rfl, _, rfl, kl, _, 0, _, rfl, rfl, SqL.of hk6, ak0, _, rfl, pl, _, rfl, SqL.of hp6, fun cp hcp => ?_⟩
      rw [ec]
      have s1 := Same.new hcp (.lst ((ds.take kt).map V.int))
      refine ⟨cp, rfl, ⟨_, SqL.of upd_same⟩, fun lp hlp => ?_⟩
      refine lc_map (itIs_list (SqL.of upd_same)) hlp (by rw [List.length_map, List.length_take]; exact small1000 (by lia)) (fun x => .int (1 + vI x % size)) (fun j x H' N hx e hN => ?_) ?_
      . obtain ⟨k, rfl⟩ := map_int_at hx
        exact ⟨Wk.set (by decide), _, rfl, _, rfl, _, _, rfl, rfl, (by show (0 : Int) < size; lia), _, _, rfl, rfl, hN⟩
      . have eA : ((ds.take kt).map V.int).map (fun x => V.int (1 + vI x % size)) = ((ds.take kt).map fun d => 1 + d % size).map V.int := by rw [List.map_map, List.map_map]; rfl
        rw [eA]
        have s2 := Same.new hlp (.lst (((ds.take kt).map fun d => 1 + d % size).map V.int))
        refine ⟨lp, _, rfl, .inl ⟨SqL.of upd_same, fun tp htp => ?_⟩⟩
        refine ⟨tp, (ds.take kt).map fun d => 1 + d % size, rfl, s1.trans (s2.trans (Same.new htp _)), upd_same, by rw [List.length_map, List.length_take]; lia, fun x hx => ?_⟩
        obtain ⟨d, _, rfl⟩ := List.mem_map.mp hx
        have p0 : 0 <= d % size /\ d % size < size := ⟨Int.emod_nonneg _ (by lia), Int.emod_lt_of_pos _ (by lia)⟩
        lia
    intro σ' H7 hM_; refine gen2 fun G_ hG_ => ?_; obtain ⟨tp, At, rfl, e7, ht7, lAt, tAt⟩ := hM_; subst hG_
    have hp7 := e7 _ _ hp6
    have hk7 := e7 _ _ hk6
    have hb7 := e7 _ _ hb6
    -- some
    have ec : cutV (ds.map V.int) (some 4) (some (4 + (kg : Int))) = ((ds.drop 4).take kg).map V.int := by
      unfold cutV
      have z1 : HT.sIx (ds.map V.int).length 0 (some 4) = 4 := by
        have := HT.sIx_nat (ds.map V.int).length 0 4
        rw [dl] at this ⊢
        exact this
      have z2 : HT.sIx (ds.map V.int).length (ds.map V.int).length (some (4 + (kg : Int))) = 4 + kg := by
        have := HT.sIx_nat (ds.map V.int).length (ds.map V.int).length (4 + kg)
        rw [dl] at this ⊢
        rw [show (4 : Int) + (kg : Int) = ((4 + kg : Nat) : Int) by lia, this]
        lia
      rw [z1, z2, List.map_take, List.map_drop]
      congr 1
      lia
    refine ⟨_, rfl, _, rfl, _, rfl, kl, _, 1, _, rfl, rfl, SqL.of hk7, ak1, _, _, rfl, rfl, _, rfl, pl, _, rfl, SqL.of hp7, fun sp hsp => ?_⟩
    rw [ec]
    have s7 := Same.new hsp (.lst (((ds.drop 4).take kg).map V.int))
    -- gives
    refine ⟨fun σ' H' => ∃ (gp : Addr) (Bs : List Int) (o12 : Option V), σ' = [some (.ref a), some (.int at'), some (.int most), some (.int far), some (.ref hl), some (.ref kl), some (.int (many : Int)), some (.int size), some (.ref bl), some (.int (0 + (i : Int))), some (.ref pl), some (.ref tp), o12, some (.ref gp), o14] /\ Same H7 H' /\ H7 gp = none /\ H' gp = some (.lst (Bs.map V.int)) /\ Bs.length = kg /\ ∀ x ∈ Bs, 0 <= x /\ x <= far, ?_, ?_⟩
    . refine ⟨_, rfl, sp, rfl, ⟨_, SqL.of upd_same⟩, fun gp hgp => ?_⟩
      refine lc_map (itIs_list (SqL.of upd_same)) hgp (by rw [List.length_map, List.length_take]; exact small1000 (by lia)) (fun x => .int (vI x % (size + 1) * (if decide (0 < vI x % 7) = true then 1 else 0))) (fun j x H' N hx e hN => ?_) ?_
      . obtain ⟨k, rfl⟩ := map_int_at hx
        refine ⟨Wk.set (by decide), _, rfl, _, rfl, _, _, rfl, rfl, _, _, rfl, rfl, (by show (0 : Int) < size + 1; lia), _, rfl, _, _, rfl, rfl, (by show (0 : Int) < 7; decide), _, _, rfl, rfl, .inr ⟨_, rfl, _, _, rfl, rfl, .inr ?_, hN⟩⟩
        constructor <;> (split <;> decide)
      . have eB : (((ds.drop 4).take kg).map V.int).map (fun x => V.int (vI x % (size + 1) * (if decide (0 < vI x % 7) = true then 1 else 0))) = (((ds.drop 4).take kg).map fun d => d % (size + 1) * (if decide (0 < d % 7) = true then 1 else 0)).map V.int := by rw [List.map_map, List.map_map]; rfl
        rw [eB]
        refine ⟨gp, _, _, rfl, s7.trans (Same.new hgp _), s7.free hgp, upd_same, by rw [List.length_map, List.length_take, List.length_drop]; lia, fun x hx => ?_⟩
        obtain ⟨d, _, rfl⟩ := List.mem_map.mp hx
        have p0 : 0 <= d % (size + 1) /\ d % (size + 1) < size + 1 := ⟨Int.emod_nonneg _ (by lia), Int.emod_lt_of_pos _ (by lia)⟩
        split <;> lia
    intro σ' H8 hM_; refine gen2 fun G_ hG_ => ?_; obtain ⟨gp, Bs, o12', rfl, e8, f8, hg8, lBs, tBs⟩ := hM_; subst hG_
    have hp8 := e8 _ _ hp7
    have hk8 := e8 _ _ hk7
    have lB' : (Bs.map V.int).length = kg := by rw [List.length_map]; exact lBs
    -- a give above 0
    refine ⟨fun σ' H' => ∃ (Bs : List Int) (o12 : Option V), σ' = [some (.ref a), some (.int at'), some (.int most), some (.int far), some (.ref hl), some (.ref kl), some (.int (many : Int)), some (.int size), some (.ref bl), some (.int (0 + (i : Int))), some (.ref pl), some (.ref tp), o12, some (.ref gp), o14] /\ Same H7 H' /\ H' gp = some (.lst (Bs.map V.int)) /\ Bs.length = kg /\ (∀ x ∈ Bs, 0 <= x /\ x <= far) /\ ∃ x ∈ Bs, 0 < x, ?_, ?_⟩
    . refine ⟨_, rfl, gp, Bs, rfl, .inl (SqL.of hg8), (fun z => by rw [z] at lBs; simp at lBs; lia), fun M hM hMx => ⟨rfl, _, rfl, ?_⟩⟩
      refine ite2 (fun c => ?_) (fun c => ?_)
      . refine ⟨_, rfl, pl, _, 9, _, rfl, rfl, SqL.of hp8, c9, _, rfl, _, _, rfl, rfl, (by show (0 : Int) < size; lia), _, _, rfl, rfl, ?_⟩
        refine ⟨_, rfl, _, rfl, pl, _, 8, _, rfl, rfl, SqL.of hp8, c8, _, rfl, kl, _, 1, _, rfl, rfl, SqL.of hk8, ak1, _, _, rfl, rfl, (by show (0 : Int) < (kg : Int); lia), ?_⟩
        have r0 : 0 <= y8 % (kg : Int) := Int.emod_nonneg _ (by lia)
        have r1 : y8 % (kg : Int) < ((Bs.map V.int).length : Int) := by rw [lB']; exact Int.emod_lt_of_pos _ (by lia)
        have rn : (y8 % (kg : Int)).toNat < Bs.length := by rw [lB'] at r1; lia
        have p0 : 0 <= y9 % size /\ y9 % size < size := ⟨Int.emod_nonneg _ (by lia), Int.emod_lt_of_pos _ (by lia)⟩
        refine ⟨gp, _, _, _, rfl, rfl, hg8, ixN_nat r0 r1, ?_⟩
        refine ⟨Bs.set (y8 % (kg : Int)).toNat _, _, rfl, e8.write f8, by rw [upd_same, map_set], by rw [List.length_set]; exact lBs, fun x hx => ?_, _, List.mem_set rn _, by lia⟩
        rcases List.mem_or_eq_of_mem_set hx with z | z
        . exact tBs x z
        . lia
      . have c' : ¬ M = 0 := fun z => c (decide_eq_true (by rw [z]))
        have := tBs M hM
        exact ⟨Bs, _, rfl, e8, hg8, lBs, tBs, M, hM, by lia⟩
    intro σ' H9 hM_; refine gen2 fun G_ hG_ => ?_; obtain ⟨Bt, o12'', rfl, e9, hg9, lBt, tBt, tPt⟩ := hM_; subst hG_
    -- house
    refine ⟨fun σ' H' => ∃ (v : V) (h : House) (o12 : Option V), σ' = [some (.ref a), some (.int at'), some (.int most), some (.int far), some (.ref hl), some (.ref kl), some (.int (many : Int)), some (.int size), some (.ref bl), some (.int (0 + (i : Int))), some (.ref pl), some (.ref tp), o12, some (.ref gp), some v] /\ Same H7 H' /\ HS K H' v h /\ HG far kt kg h, ?_, ?_⟩
    . refine ⟨_, rfl, _, rfl, gp, _, rfl, .inl ⟨SqL.of hg9, fun pg hpg => ?_⟩⟩
      have f1 := Same.new hpg (.tup (Bt.map V.int))
      refine ⟨(by show 2 <= sizeLine; decide), fun pr hpr => ?_⟩
      have f2 := Same.new hpr (.tup [V.ref tp, V.ref pg])
      exact ⟨_, (At, Bt), _, rfl, e9.trans (f1.trans f2), ⟨pr, tp, pg, rfl, SqT.of upd_same, SqT.of (f2 _ _ (f1 _ _ (e9 _ _ ht7))), SqT.of (f2 _ _ upd_same)⟩, ⟨lAt, lBt, tAt, tBt, tPt⟩⟩
    intro σ' H10 hM_; refine gen2 fun G_ hG_ => ?_; obtain ⟨v, h, o12'', rfl, e10, hv, hvG⟩ := hM_; subst hG_
    have e57 : Same H5 H7 := e6.trans e7
    have e510 : Same H5 H10 := e57.trans e10
    -- or one near another one
    refine ⟨fun σ' H' => ∃ (v : V) (h : House) (o12 : Option V), σ' = [some (.ref a), some (.int at'), some (.int most), some (.int far), some (.ref hl), some (.ref kl), some (.int (many : Int)), some (.int size), some (.ref bl), some (.int (0 + (i : Int))), some (.ref pl), some (.ref tp), o12, some (.ref gp), some v] /\ Same H5 H' /\ HS K H' v h /\ HG far kt kg h, ?_, ?_⟩
    . refine ⟨_, rfl, (by show 0 <= sizeLine; decide), fun ep hep => ?_⟩
      have f1 := Same.new hep (.lst [])
      have e511 := e510.trans f1
      refine ⟨.list (hs.map dHouse), .list [], .lst (SqL.of (e511 _ _ hb5)) (Bk.dps (Bk.same e511 hB)), .lst (SqL.of upd_same) .nil, lay_book hs, rfl, Nat.le_trans (Nat.min_le_right _ _) (by decide), _, rfl, ?_⟩
      refine ite2 (fun c => ?_) (fun c => iteF ⟨v, h, _, rfl, e511, hv.same f1, hvG⟩)
      have hpos : 0 < hs.length := by
        cases hs with
        | nil => exact absurd c (by simp [PyData.eqv, PyData.eqvAll])
        | cons _ _ => simp
      have hp11 : upd H10 ep (.lst []) pl = some (.lst (ds.map V.int)) := f1 _ _ (e10 _ _ hp7)
      have hb11 := e511 _ _ hb5
      refine ⟨_, rfl, pl, _, 10, _, rfl, rfl, SqL.of hp11, c10, _, _, rfl, rfl, (by show (0 : Int) < 4; decide), rfl, _, rfl, ?_⟩
      refine ite2 (fun c => ?_) (fun c => ⟨v, h, _, rfl, e511, hv.same f1, hvG⟩)
      have r0 : 0 <= y11 % (xs.length : Int) := Int.emod_nonneg _ (by lia)
      have r1 : y11 % (xs.length : Int) < (xs.length : Int) := Int.emod_lt_of_pos _ (by lia)
      have hk : (y11 % (xs.length : Int)).toNat < xs.length := by lia
      have ax : atI xs (y11 % (xs.length : Int)) = some xs[(y11 % (xs.length : Int)).toNat] := by
        unfold atI
        rw [ixN_nat r0 r1]
        exact List.getElem?_eq_getElem hk
      obtain ⟨h', hh', hs'⟩ := Paired.at hB (List.getElem?_eq_getElem hk)
      refine ⟨_, rfl, _, rfl, pl, _, 11, _, rfl, rfl, SqL.of hp11, c11, _, rfl, bl, _, rfl, .inl (SqL.of hb11), _, _, rfl, rfl, (by show (0 : Int) < (xs.length : Int); lia), bl, _, _, _, rfl, rfl, SqL.of hb11, ax, _, rfl, _, rfl, ?_⟩
      refine ⟨_, pl, far, h', ds, kt, kg, rfl, hs'.same e511, hG h' (List.mem_of_getElem? hh'), kt1, kt4, kg1, kg4, hfar, SqL.of hp11, l6, d6, fun r H12 h'' e12 hs'' hg'' => ⟨r, h'', _, rfl, e511.trans e12, hs'', hg''⟩⟩
    intro σ' H11 hM_; refine gen2 fun G_ hG_ => ?_; obtain ⟨v, h, o12'', rfl, e11, hv, hvG⟩ := hM_; subst hG_
    have hb11 := e11 _ _ hb5
    refine ⟨_, rfl, .inl ⟨rfl, _, SqL.of hb11⟩, _, rfl, bl, xs, v, rfl, rfl, hb11, small1000 (by lia), ?_⟩
    have kp : Keep H11 (upd H11 bl (.lst (xs ++ [v]))) := Keep.upd hb11
    refine ⟨xs ++ [v], hs ++ [h], _, _, _, _, _, _, rfl, (e5.trans e11).write hbl, upd_same, Paired.app (Bk.keep kp (Bk.same e11 hB)) (.cons (HS.keep kp hv) .nil), by rw [List.length_append, hlen5]; rfl, fun h' hm => ?_⟩
    rcases List.mem_append.mp hm with z | z
    . exact hG h' z
    . rw [List.mem_singleton.mp z]; exact hvG
  . intro σ H' hM_; refine gen2 fun G_ hG_ => ?_; obtain ⟨xs, hs, o9, o10, o11, o12, o13, o14, rfl, e5, hb5, hB, hlen5, hG⟩ := hM_; subst hG_
    exact ⟨_, rfl, q bl H' xs hs kt kg (e14.trans e5) hb5 hB (by lia) (by lia) kt1 kt4 kg1 kg4 hG⟩
end
end Rim
namespace Rim
open PySem L2 Fr
def FrV (K : W.Frag) (H : Hp) (v : V) (f : Q2) : Prop := ∃ a, v = .ref a /\ SqT K H a [.int f.1, .int f.2]
def FrT (H : Hp) (v : V) (f : Q2) : Prop := ∃ a, v = .ref a /\ H a = some (.tup [.int f.1, .int f.2])
theorem FrT.v {K : W.Frag} {H : Hp} {v : V} {f : Q2} (h : FrT H v f) : FrV K H v f := by
  obtain ⟨a, e, q⟩ := h
  exact ⟨a, e, SqT.of q⟩
theorem FrT.same {H H' : Hp} {v : V} {f : Q2} (e : Same H H') (h : FrT H v f) : FrT H' v f := by
  obtain ⟨a, z, q⟩ := h
  exact ⟨a, z, e _ _ q⟩
section
variable {P : Program} {w : World} {K : W.Frag} {mg : Str -> Option Value} {base : Heap} {f g : Addr} {fd gd : FuncData}
structure Cal (P : Program) (w : World) (K : W.Frag) (mg : Str -> Option Value) (base : Heap) (n : Nat) (x : Str) (ps : List Str) (sp : Sp) (fa : Addr) (d : FuncData) : Prop where
  ok : FnOk P w K mg base CX0 n fa d ps sp
  b : Binds K d ps []
  k : W.keepIn K (.ref fa) = true
  m : mg x = some (.ref fa)
def spDiv : Sp := fun vs H Q _ => ∃ a b : Int, vs = [.int a, .int b] /\ 0 <= b /\ Q (.int (gI a b)) H
theorem scDiv : FnScope ["one", "other"] ["one", "other"] (defScope sDiv) := ⟨rfl, rfl, rfl, by decide +kernel, rfl, by decide +kernel, by decide +kernel⟩
theorem scCommon : FnScope ["one", "other"] ["one", "other"] (defScope sCommon) := ⟨rfl, rfl, rfl, by decide +kernel, rfl, by decide +kernel, by decide +kernel⟩
def sndN : St -> Nat := fun σ => match σ with | [_, some (.int y)] => y.toNat | _ => 0
theorem abs_gI (x : Int) : (if x < 0 then -x else x) = gI x 0 := by
  rw [gI_zero]
  split <;> lia
theorem ok_div {n : Nat} (F : Fun K "common_divisor" "common_divisor" sDiv f fd) (T : Nones mg) : FnOk P w K mg base CX0 (n + 1) f fd ["one", "other"] spDiv := by
  refine F.ok scDiv (fun vs H Q E h => ?_) (fun cdv A outer s H vs Q E hr h => ?_)
  . obtain ⟨a, b, rfl, _⟩ := h
    rfl
  obtain ⟨a, b, rfl, hb, q⟩ := h
  refine ⟨_, pss_cons (ps_while PassesOwn.never (pt_cmpR op_ne (pv 1) pe_int (nomark _)) (pss_one (ps_par (i := 0) (j := 1) rfl scDiv.nd rfl rfl (by decide) rfl rfl (pa_cons (pv 1) (pa_cons (pe_op op_mod (pv 0) (pv 1)) pa_nil)) rfl)))
    (pss_one (ps_ret (pe_callB call_abs rfl T.abs (PyProof.Rows.Boot.abs) (pa_cons (pv 0) pa_nil)))), ?_⟩
  refine while_by (fun σ H' => ∃ x y : Int, σ = [some (.int x), some (.int y)] /\ H' = H /\ 0 <= y /\ gI x y = gI a b) (fun σ _ => sndN σ) ⟨a, b, rfl, rfl, hb, rfl⟩ ?_ (fun σ H Q Q' hq ⟨v, h1, h2, k, h3, q⟩ => ⟨v, h1, h2, k, h3, hq _ _ q⟩)
  rintro σ H' ⟨x, y, rfl, rfl, hy, hg⟩
  refine ⟨_, rfl, rfl, _, rfl, ?_⟩
  refine ite2 (fun c => ?_) (fun c => ?_)
  . have hy0 : 0 < y := by
      by_cases z : y = 0
      . subst z; simp at c
      . lia
    have hm := Int.emod_nonneg x (show y ≠ 0 by lia)
    have hl := Int.emod_lt_of_pos x hy0
    refine ⟨_, rfl, _, rfl, _, rfl, _, _, rfl, rfl, hy0, _, _, rfl, ⟨y, x % y, rfl, rfl, hm, ?_⟩, ?_⟩
    . rw [gI_step]; exact hg
    . show (x % y).toNat < y.toNat
      lia
  . have hy0 : y = 0 := by
      by_cases z : y = 0
      . exact z
      . exact absurd (by simp [z]) c
    subst hy0
    refine ⟨_, rfl, _, rfl, ?_⟩
    rw [abs_gI, hg]
    exact q
theorem ok_common {n : Nat} (F : Fun K "_law_common" "_law_common" sCommon f fd) : FnOk P w K mg base CX0 (n + 1) f fd ["one", "other"] (fun vs H Q _ => ∃ a b : Int, vs = [.int a, .int b] /\ 0 <= a /\ 0 <= b /\ Q (.int (gI a b)) H) := by
  refine F.ok scCommon (fun vs H Q E h => ?_) (fun cdv A outer s H vs Q E hr h => ?_)
  . obtain ⟨a, b, rfl, _⟩ := h
    rfl
  obtain ⟨a, b, rfl, ha, hb, q⟩ := h
  refine ⟨_, pss_cons (ps_while PassesOwn.never (pt_cmpR op_gt (pv 1) pe_int (nomark _)) (pss_one (ps_par (i := 0) (j := 1) rfl scCommon.nd rfl rfl (by decide) rfl rfl (pa_cons (pv 1) (pa_cons (pe_op op_mod (pv 0) (pv 1)) pa_nil)) rfl)))
    (pss_one (ps_ret (pv 0))), ?_⟩
  refine while_by (fun σ H' => ∃ x y : Int, σ = [some (.int x), some (.int y)] /\ H' = H /\ 0 <= x /\ 0 <= y /\ gI x y = gI a b) (fun σ _ => sndN σ) ⟨a, b, rfl, rfl, ha, hb, rfl⟩ ?_ (fun σ H Q Q' hq ⟨v, h1, i, j, h2, h3, k, h4, q⟩ => ⟨v, h1, i, j, h2, h3, k, h4, hq _ _ q⟩)
  rintro σ H' ⟨x, y, rfl, rfl, hx, hy, hg⟩
  refine ⟨_, rfl, _, _, rfl, rfl, _, rfl, ?_⟩
  refine ite2 (fun c => ?_) (fun c => ?_)
  . have hy0 : 0 < y := of_decide_eq_true c
    have hm := Int.emod_nonneg x (show y ≠ 0 by lia)
    have hl := Int.emod_lt_of_pos x hy0
    refine ⟨_, rfl, _, rfl, _, rfl, _, _, rfl, rfl, hy0, _, _, rfl, ⟨y, x % y, rfl, rfl, hy, hm, ?_⟩, ?_⟩
    . rw [gI_step]; exact hg
    . show (x % y).toNat < y.toNat
      lia
  . have hy0 : ¬ 0 < y := of_decide_eq_false (Bool.eq_false_iff.mpr c)
    have : y = 0 := by lia
    subst this
    refine ⟨_, rfl, ?_⟩
    have : x = gI a b := by rw [<- hg, gI_zero]; lia
    rw [this]; exact q
end
end Rim
namespace Rim
open PySem L2 Fr
theorem Big.mono {n m : Nat} {i : Int} (h : Big n i) (hn : n <= m) : Big m i := Nat.lt_of_lt_of_le h (Nat.pow_le_pow_right (by decide) hn)
theorem Big.mul {n m : Nat} {i j : Int} (h : Big n i) (k : Big m j) : Big (n + m) (i * j) := by
  unfold Big at *
  rw [Int.natAbs_mul, Nat.pow_add]
  exact Nat.mul_lt_mul_of_lt_of_lt h k
theorem Big.add {n : Nat} {i j : Int} (h : Big n i) (k : Big n j) : Big (n + 1) (i + j) := by
  unfold Big at *
  have := Int.natAbs_add_le i j
  rw [Nat.pow_succ]
  lia
theorem big_pos {i : Int} {n : Nat} (h0 : 0 <= i) (h1 : i < 2 ^ n) : Big n i := by
  have e : ((2 ^ n : Nat) : Int) = 2 ^ n := by simp
  unfold Big
  lia
theorem Big.lt {i : Int} {n : Nat} (h : Big n i) : i < 2 ^ n := by
  have e : ((2 ^ n : Nat) : Int) = 2 ^ n := by simp
  unfold Big at h
  lia
section
variable {P : Program} {w : World} {K : W.Frag} {mg : Str -> Option Value} {base : Heap} {f g : Addr} {fd gd : FuncData} {n : Nat}
def spLow : Sp := fun vs H Q _ => ∃ t b : Int, vs = [.int t, .int b] /\ 0 < b /\ b < 2 ^ 8000 /\ ∀ (v : V) (H' : Hp), Same H H' -> FrT H' v (low t b) -> Q v H'
theorem scLow : FnScope ["top", "bottom", "divisor"] ["top", "bottom"] (defScope sLow) := ⟨rfl, rfl, rfl, by decide +kernel, rfl, by decide +kernel, by decide +kernel⟩
theorem scLlow : FnScope ["top", "bottom", "many"] ["top", "bottom"] (defScope sLlow) := ⟨rfl, rfl, rfl, by decide +kernel, rfl, by decide +kernel, by decide +kernel⟩
theorem ok_low {fa : Addr} {da : FuncData} (F : Fun K "lowest" "lowest" sLow f fd) (T : Nones mg) (C : Cal P w K mg base n "common_divisor" ["one", "other"] spDiv fa da) : FnOk P w K mg base CX0 (n + 1) f fd ["top", "bottom"] spLow := by
  refine F.ok scLow (fun vs H Q E h => ?_) (fun cdv A outer s H vs Q E hr h => ?_)
  . obtain ⟨a, b, rfl, _⟩ := h
    rfl
  obtain ⟨t, b, rfl, hb, hb2, q⟩ := h
  refine ⟨_, pss_cons (ps_if (pt_cmpR op_eq (pv 1) pe_int (nomark _)) pss_never pss_nil)
    (pss_cons (ps_set (i := 2) scLow.nd rfl (Or.inl rfl) (pe_call C.ok hr rfl C.m C.k C.b .nil pass0 (pa_cons (pv 0) (pa_cons (pv 1) pa_nil))))
    (pss_cons (ps_if (pt_cmpR op_lt (pv 1) pe_int (nomark _)) pss_never pss_nil)
    (pss_one (ps_ret (pe_tup (pa_cons (pe_op op_fdivL (pv 0) (pv 2)) (pa_cons (pe_op op_fdivL (pv 1) (pv 2)) pa_nil))))))), ?_⟩
  refine ⟨_, rfl, rfl, _, rfl, ?_⟩
  refine ite2 (fun c => ?_) (fun _ => ?_)
  . have := V.int.inj (of_decide_eq_true c); lia
  refine ⟨_, rfl, _, rfl, t, b, rfl, Int.le_of_lt hb, ?_⟩
  refine ⟨_, rfl, _, _, rfl, rfl, _, rfl, ?_⟩
  refine ite2 (fun c => ?_) (fun _ => ?_)
  . have : b < 0 := of_decide_eq_true c; lia
  have hg := gI_pos (a := t) hb
  have hgl := gI_le (a := t) hb
  refine ⟨_, rfl, _, rfl, _, _, rfl, rfl, ⟨hg, Int.lt_of_le_of_lt hgl hb2⟩, _, rfl, _, rfl, _, _, rfl, rfl, ⟨hg, Int.lt_of_le_of_lt hgl hb2⟩, (by show 2 <= sizeLine; decide), fun p hp => ?_⟩
  exact q _ _ (Same.new hp _) ⟨p, rfl, upd_same⟩
theorem abs_max (t : Int) : (if 0 - t > t then 0 - t else t) = (t.natAbs : Int) := by split <;> lia
theorem gI_abs (t b : Int) : gI (t.natAbs : Int) b = gI t b := by
  rcases Int.natAbs_eq t with h | h
  . rw [<- h]
  . have : (t.natAbs : Int) = -t := by lia
    rw [this, gI_neg]
def spCommon : Sp := fun vs H Q _ => ∃ a b : Int, vs = [.int a, .int b] /\ 0 <= a /\ 0 <= b /\ Q (.int (gI a b)) H
theorem ok_llow {fa : Addr} {da : FuncData} (F : Fun K "_law_low" "_law_low" sLlow f fd) (T : Nones mg) (C : Cal P w K mg base n "_law_common" ["one", "other"] spCommon fa da) : FnOk P w K mg base CX0 (n + 1) f fd ["top", "bottom"] spLow := by
  refine F.ok scLlow (fun vs H Q E h => ?_) (fun cdv A outer s H vs Q E hr h => ?_)
  . obtain ⟨a, b, rfl, _⟩ := h
    rfl
  obtain ⟨t, b, rfl, hb, hb2, q⟩ := h
  refine ⟨_, pss_cons (ps_if (pt_cmpR op_lt (pv 1) pe_int (nomark _)) pss_never pss_nil)
    (pss_cons (ps_set (i := 2) scLlow.nd rfl (Or.inl rfl) (pe_call C.ok hr rfl C.m C.k C.b .nil pass0 (pa_cons (pe_callB (call_max2 rfl) rfl T.max PyProof.Rows.boot_max (pa_cons (pv 0) (pa_cons (pe_op op_sub pe_int (pv 0)) pa_nil))) (pa_cons (pv 1) pa_nil))))
    (pss_one (ps_ret (pe_tup (pa_cons (pe_op op_fdivL (pv 0) (pv 2)) (pa_cons (pe_op op_fdivL (pv 1) (pv 2)) pa_nil)))))), ?_⟩
  refine ⟨_, rfl, _, _, rfl, rfl, _, rfl, ?_⟩
  refine ite2 (fun c => ?_) (fun _ => ?_)
  . have : b < 0 := of_decide_eq_true c; lia
  refine ⟨_, rfl, _, rfl, _, _, rfl, rfl, _, _, rfl, ?_⟩
  rw [abs_max]
  refine ⟨_, rfl, (t.natAbs : Int), b, rfl, Int.natCast_nonneg _, Int.le_of_lt hb, ?_⟩
  rw [gI_abs]
  have hg := gI_pos (a := t) hb
  have hgl := gI_le (a := t) hb
  refine ⟨_, rfl, _, rfl, _, _, rfl, rfl, ⟨hg, Int.lt_of_le_of_lt hgl hb2⟩, _, rfl, _, rfl, _, _, rfl, rfl, ⟨hg, Int.lt_of_le_of_lt hgl hb2⟩, (by show 2 <= sizeLine; decide), fun p hp => ?_⟩
  exact q _ _ (Same.new hp _) ⟨p, rfl, upd_same⟩
theorem pair0 {α : Type} (a b : α) : atI [a, b] 0 = some a := atI_nat (j := 0) rfl
theorem pair1 {α : Type} (a b : α) : atI [a, b] 1 = some b := atI_nat (j := 1) rfl
def spLess (K : W.Frag) : Sp := fun vs H Q _ => ∃ (u v : V) (x y : Q2), vs = [u, v] /\ FrV K H u x /\ FrV K H v y /\ (Big 1000000 x.1 /\ Big 1000000 x.2 /\ Big 1000000 y.1 /\ Big 1000000 y.2) /\ Q (.bl (decide (x.1 * y.2 < y.1 * x.2))) H
theorem kit_same {K : W.Frag} (t : Value) : W.kitOne K t t = some true := by unfold W.kitOne; rw [if_pos (beq_self_eq_true _)]
theorem kit_int_bool {K : W.Frag} : W.kitOne K (.type "int") (.type "bool") = some false := by
  unfold W.kitOne
  rw [if_neg (by decide)]
  rfl
def spWhole : Sp := fun vs H Q _ => ∃ i : Int, vs = [.int i] /\ Q (.bl true) H
theorem scWhole : FnScope ["found"] ["found"] (defScope sWhole) := ⟨rfl, rfl, rfl, by decide +kernel, rfl, by decide +kernel, by decide +kernel⟩
theorem ok_whole (F : Fun K "_law_a_whole" "_law_a_whole" sWhole f fd) (T : Nones mg) : FnOk P w K mg base CX0 (n + 1) f fd ["found"] spWhole := by
  refine F.ok scWhole (fun vs H Q E h => ?_) (fun cdv A outer s H vs Q E hr h => ?_)
  . obtain ⟨i, rfl, _⟩ := h
    rfl
  obtain ⟨i, rfl, q⟩ := h
  refine ⟨_, pss_one (ps_ret (pe_and (pe_callB call_isinst rfl T.isi PyProof.Rows.boot_isinstance (pa_cons (pv 0) (pa_cons (pe_bltn (v := .ty "int") rfl T.int PyProof.Rows.boot_int rfl) pa_nil)))
    (pe_one (pe_not (pe_callB call_isinst rfl T.isi PyProof.Rows.boot_isinstance (pa_cons (pv 0) (pa_cons (pe_bltn (v := .ty "bool") rfl T.bool PyProof.Rows.boot_bool rfl) pa_nil))))))), ?_⟩
  refine ⟨_, rfl, _, _, "int", true, rfl, .int i, kit_same _, _, rfl, iteT ?_⟩
  exact ⟨_, rfl, _, _, "bool", false, rfl, .int i, kit_int_bool, _, rfl, q⟩
def spIsFr : Sp := fun vs H Q _ => ∃ (v : V) (x : Q2), vs = [v] /\ FrT H v x /\ Canon x /\ Q (.bl true) H
theorem scIsFr : FnScope ["one"] ["one"] (defScope sIsFr) := ⟨rfl, rfl, rfl, by decide +kernel, rfl, by decide +kernel, by decide +kernel⟩
set_option maxHeartbeats 2000000 in
theorem ok_isfr {fa fb : Addr} {da db : FuncData} (F : Fun K "_law_is_fraction" "_law_is_fraction" sIsFr f fd) (T : Nones mg) (Cw : Cal P w K mg base n "_law_a_whole" ["found"] spWhole fa da) (Cc : Cal P w K mg base n "_law_common" ["one", "other"] spCommon fb db) :
    FnOk P w K mg base CX0 (n + 1) f fd ["one"] spIsFr := by
  refine F.ok scIsFr (fun vs H Q E h => ?_) (fun cdv A outer s H vs Q E hr h => ?_)
  . obtain ⟨v, x, rfl, _⟩ := h
    rfl
  obtain ⟨v, x, rfl, ⟨a, rfl, ha⟩, hc, q⟩ := h
  refine ⟨_, pss_cons (ps_if (PW.pt (pw_or (pt_not (pt_val (pe_callB call_isinst rfl T.isi PyProof.Rows.boot_isinstance (pa_cons (pv 0) (pa_cons (pe_bltn (v := .ty "tuple") rfl T.tuple PyProof.Rows.boot_tuple rfl) pa_nil))))) (pw_or1 (pt_cmpR op_ne (pe_callB call_len_seq rfl T.len PySem.boot_len (pa_cons (pv 0) pa_nil)) pe_int (nomark _))))) (pss_one (ps_ret pe_bl)) pss_nil)
    (pss_cons (ps_if (PW.pt (pw_or (pt_not (pt_val (pe_call Cw.ok hr rfl Cw.m Cw.k Cw.b .nil pass0 (pa_cons (pe_ix ix_tup (pv 0) pe_int (fun _ _ => rfl)) pa_nil)))) (pw_or1 (pt_not (pt_val (pe_call Cw.ok hr rfl Cw.m Cw.k Cw.b .nil pass0 (pa_cons (pe_ix ix_tup (pv 0) pe_int (fun _ _ => rfl)) pa_nil))))))) (pss_one (ps_ret pe_bl)) pss_nil)
    (pss_one (ps_ret (pe_and (pe_cmpR op_gt (pe_ix ix_tup (pv 0) pe_int (fun _ _ => rfl)) pe_int (nomark _))
      (pe_one (pe_cmpR op_eq (pe_call Cc.ok hr rfl Cc.m Cc.k Cc.b .nil pass0 (pa_cons (pe_callB (call_max2 rfl) rfl T.max PyProof.Rows.boot_max (pa_cons (pe_ix ix_tup (pv 0) pe_int (fun _ _ => rfl)) (pa_cons (pe_op op_sub pe_int (pe_ix ix_tup (pv 0) pe_int (fun _ _ => rfl))) pa_nil))) (pa_cons (pe_ix ix_tup (pv 0) pe_int (fun _ _ => rfl)) pa_nil))) pe_int (nomark _))))))), ?_⟩
  have hS : SqT K H a [.int x.1, .int x.2] := SqT.of ha
  refine ⟨_, rfl, _, _, "tuple", true, rfl, .tup ha, kit_same _, _, rfl, iteF ?_⟩
  refine ⟨_, rfl, a, _, rfl, .inr hS, rfl, _, rfl, iteNS rfl ?_⟩
  refine ⟨_, rfl, a, _, 0, _, rfl, rfl, hS, pair0 _ _, x.1, rfl, _, rfl, iteF ?_⟩
  refine ⟨_, rfl, a, _, 1, _, rfl, rfl, hS, pair1 _ _, x.2, rfl, _, rfl, iteF ?_⟩
  refine ⟨_, rfl, a, _, 1, _, rfl, rfl, hS, pair1 _ _, _, _, rfl, rfl, _, rfl, ?_⟩
  rw [decide_eq_true hc.1]
  refine iteT ?_
  refine ⟨_, rfl, a, _, 0, _, rfl, rfl, hS, pair0 _ _, _, rfl, a, _, 0, _, rfl, rfl, hS, pair0 _ _, _, _, rfl, rfl, _, _, rfl, ?_⟩
  rw [abs_max]
  refine ⟨_, rfl, a, _, 1, _, rfl, rfl, hS, pair1 _ _, _, _, rfl, Int.natCast_nonneg _, Int.le_of_lt hc.1, rfl, ?_⟩
  have : gI (x.1.natAbs : Int) x.2 = 1 := by rw [gI_abs]; unfold gI; rw [hc.2]; rfl
  rw [this]
  exact q
end
end Rim
namespace Rim
open PySem L2 Fr
section
variable {P : Program} {w : World} {K : W.Frag} {mg : Str -> Option Value} {base : Heap} {f g : Addr} {fd gd : FuncData} {n : Nat}
end
end Rim
namespace L2
open PySem PySem.Spec PyProof.Rows
structure KDict (K : W.Frag) (P : Params) (d : Addr) : Prop where
  ex : ∃ es n, K.lookup d = some ⟨.type "dict", none, .dict es n, #[]⟩ /\ W.KeysLit P es.toList
end L2
namespace L2
open PySem
end L2
namespace Rim
open PySem L2 Fr
def Szw (z : Str) : Prop := z = "any" \/ z = "one" \/ z = "less" \/ z = "more"
def sgn (z : Str) : List Int := if z = "any" then [] else if z = "one" then [1, -1] else if z = "less" then [-1] else [1]
structure Sg (K : W.Frag) (Pm : Params) (mg : Str -> Option Value) (d : Addr) : Prop where
  m : mg "SIZE_SIGNS" = some (.ref d)
  k : KDict K Pm d
  tt : ∀ z, Szw z -> ∃ t, W.nsIn K d z = some (some (.ref t)) /\ ∀ H, SqT K H t ((sgn z).map V.int)
section
variable {P : Program} {w : World} {K : W.Frag} {mg : Str -> Option Value} {base : Heap} {f Pt d : Addr} {fd : FuncData} {n : Nat} {C : Addr}
end
end Rim
namespace Rim
open PySem L2 Fr
section
variable {P : Program} {w : World} {K : W.Frag} {mg : Str -> Option Value} {base : Heap} {f Pt d : Addr} {fd : FuncData} {n : Nat} {C : Addr}
end
end Rim
namespace Rim
open PySem L2 Fr
section
variable {P : Program} {w : World} {K : W.Frag} {mg : Str -> Option Value} {base : Heap} {f Pt d : Addr} {fd : FuncData} {n : Nat} {C : Addr}
end
end Rim
namespace Rim
open PySem L2 Fr
section
variable {P : Program} {w : World} {K : W.Frag} {mg : Str -> Option Value} {base : Heap} {f Pt d : Addr} {fd : FuncData} {n : Nat} {C : Addr}
end
end Rim
namespace Lp
section
variable {m q : Nat} {A : Nat -> Nat -> Int} {b c : Nat -> Int} {S : Bo}
end
end Lp
namespace Rim
open PySem L2 Fr
section
variable {P : Program} {w : World} {K : W.Frag} {mg : Str -> Option Value} {base : Heap} {f Pt d : Addr} {fd : FuncData} {n : Nat} {C : Addr}
def FrsAt (H : Hp) (ys : List V) (xs : List Int) (D : Int) : Prop := ys.length = xs.length /\ ∀ (i : Nat) y, ys[i]? = some y -> FrT H y (low (xs.getD i 0) D)
theorem FrsAt.same {H H' : Hp} {ys : List V} {xs : List Int} {D : Int} (e : Same H H') (h : FrsAt H ys xs D) : FrsAt H' ys xs D := ⟨h.1, fun i y hy => (h.2 i y hy).same e⟩
end
end Rim
namespace Rim
open PySem L2 Fr
section
variable {P : Program} {w : World} {K : W.Frag} {mg : Str -> Option Value} {base : Heap} {f Pt d : Addr} {fd : FuncData} {n : Nat} {C : Addr}
end
end Rim
namespace Rim
open PySem L2 Fr
theorem getD_app {l r : List Int} (j : Nat) : (l ++ r).getD j 0 = if j < l.length then l.getD j 0 else r.getD (j - l.length) 0 := by
  rw [List.getD_eq_getElem?_getD, List.getD_eq_getElem?_getD, List.getD_eq_getElem?_getD]
  by_cases h : j < l.length
  . rw [if_pos h, List.getElem?_append_left h]
  . rw [if_neg h, List.getElem?_append_right (by lia)]
section
variable {P : Program} {w : World} {K : W.Frag} {mg : Str -> Option Value} {base : Heap} {f Pt d CN : Addr} {fd : FuncData} {n : Nat} {C : Addr}
structure Cal1 (P : Program) (w : World) (K : W.Frag) (mg : Str -> Option Value) (base : Heap) (n : Nat) (x : Str) (ps : List Str) (sp : Sp) (fa : Addr) (d : FuncData) : Prop where
  ok : FnOk P w K mg base (CX1 P w) n fa d ps sp
  b : Binds K d ps []
  k : W.keepIn K (.ref fa) = true
  m : mg x = some (.ref fa)
abbrev mE (hs : List House) : Nat := hs.length + 1
abbrev qE (z : Str) (h : House) : Nat := h.1.length + h.2.length + (sgn z).length
structure BookIn (K : W.Frag) (H : Hp) (ba : Addr) (xs : List V) (hs : List House) (far : Int) (kt kg : Nat) : Prop where
  l : SqL K H ba xs
  b : Bk K H xs hs
  g : ∀ h ∈ hs, HG far kt kg h
  far : far <= 2 ^ 60
  few : hs.length <= 16
  t : kt <= 20
  k : kg <= 20
end
end Rim
namespace L2
open PySem
theorem Big.mono {n m : Nat} {i : Int} (h : Big n i) (hn : n <= m) : Big m i := Rim.Big.mono h hn
theorem Big.mul {n m : Nat} {i j : Int} (h : Big n i) (k : Big m j) : Big (n + m) (i * j) := Rim.Big.mul h k
theorem Big.add {n : Nat} {i j : Int} (h : Big n i) (k : Big n j) : Big (n + 1) (i + j) := Rim.Big.add h k
end L2
namespace Fr
theorem le_mul_pos {a b : Int} (ha : 0 < a) (hb : 0 < b) : a <= a * b := by
  have := Int.mul_le_mul_of_nonneg_left (show (1 : Int) <= b by lia) (Int.le_of_lt ha)
  rw [Int.mul_one] at this
  exact this
def fsum (l : List Term) : Q2 := low (raw l).1 (raw l).2
theorem fsum_over {L T : Int} {l : List Term} (hL : 0 < L) (hl : ∀ x ∈ l, 0 < x.2.2 /\ x.2.2 ∣ L) (hT : T = (l.map fun x => x.1 * (x.2.1 * (L / x.2.2))).sum) : low T L = fsum l := by
  have hp := raw_pos (l := l) (r := (0, 1)) (fun x hx => (hl x hx).1) (by decide)
  refine low_eq hL hp ?_
  have := over_cross (L := L) (l := l) (T := 0) (r := (0, 1)) hl (by simp)
  rw [Int.zero_add, <- hT] at this
  exact this
theorem fsum_law {l : List Term} (hl : ∀ x ∈ l, 0 < x.2.2) : low (l.foldl lawStep (0, 1)).1 (l.foldl lawStep (0, 1)).2 = fsum l := by
  obtain ⟨h1, h2⟩ := foldl_law (l := l) (s := (0, 1)) (r := (0, 1)) hl (by decide) rfl
  exact low_eq h1 (raw_pos hl (by decide)) h2
theorem lcm_dvd' {b f D : Int} (hb : 0 < b) (hf : 0 < f) (h1 : b ∣ D) (h2 : f ∣ D) : b / gI b f * f ∣ D := by
  obtain ⟨m, rfl⟩ := Int.eq_ofNat_of_zero_le (Int.le_of_lt hb)
  obtain ⟨n, rfl⟩ := Int.eq_ofNat_of_zero_le (Int.le_of_lt hf)
  have e : (m : Int) / gI m n * n = ((Nat.lcm m n : Nat) : Int) := by
    have e1 : Nat.lcm m n = m / Nat.gcd m n * n := by
      unfold Nat.lcm
      rw [Nat.mul_comm m n, Nat.mul_div_assoc n (Nat.gcd_dvd_left m n), Nat.mul_comm]
    rw [e1]
    unfold gI
    rw [Int.natCast_mul, Int.natCast_ediv]
    rfl
  rw [e, Int.ofNat_dvd_left]
  exact Nat.lcm_dvd (Int.ofNat_dvd_left.mp h1) (Int.ofNat_dvd_left.mp h2)
theorem low_back {x D : Int} (hD : 0 < D) : (low x D).1 * (D / (low x D).2) = x := by
  obtain ⟨h1, h2⟩ := low_parts (t := x) hD
  have hg := gI_pos (a := x) hD
  have hp := low_pos (t := x) hD
  have e : D / (low x D).2 = gI x D := by
    have : D = gI x D * (low x D).2 := h2
    rw [Int.ediv_eq_of_eq_mul_left (Int.ne_of_gt hp) this]
  rw [e, Int.mul_comm]
  exact h1.symm
theorem low_dvd {x D : Int} (hD : 0 < D) : (low x D).2 ∣ D := ⟨gI x D, by rw [Int.mul_comm]; exact (low_parts (t := x) hD).2⟩
theorem low_le {t b : Int} (hb : 0 < b) : (low t b).2 <= b := Int.le_of_dvd hb (low_dvd hb)
end Fr
namespace Rim
open PySem L2 Fr
theorem low_big {t b : Int} {n : Nat} (hb : 0 < b) (h : Big n t) : Big n (low t b).1 := by
  obtain ⟨h1, _⟩ := low_parts (t := t) hb
  have hg := gI_pos (a := t) hb
  unfold Big at *
  have e : t.natAbs = (gI t b).natAbs * (low t b).1.natAbs := by rw [<- Int.natAbs_mul, <- h1]
  have : 1 <= (gI t b).natAbs := by lia
  have := Nat.mul_le_mul_right (low t b).1.natAbs this
  lia
section
variable {P : Program} {w : World} {K : W.Frag} {mg : Str -> Option Value} {base : Heap} {f : Addr} {fd : FuncData} {n : Nat}
def FrsV (K : W.Frag) (H : Hp) (ys : List V) (xs : List Int) (D : Int) : Prop := ys.length = xs.length /\ ∀ (i : Nat) y, ys[i]? = some y -> FrV K H y (low (xs.getD i 0) D)
theorem FrsAt.v {H : Hp} {ys : List V} {xs : List Int} {D : Int} (h : FrsAt H ys xs D) : FrsV K H ys xs D := ⟨h.1, fun i y hy => (h.2 i y hy).v⟩
def spSumD (K : W.Frag) : Sp := fun vs H Q _ => ∃ (nl pl : Addr) (ns : List Int) (pvs : List V) (xs : List Int) (D : Int), vs = [.ref nl, .ref pl] /\ (SqL K H nl (ns.map V.int) \/ SqT K H nl (ns.map V.int)) /\ SqL K H pl pvs /\ FrsV K H pvs xs D /\ ns.length = xs.length /\ ns.length <= 100 /\ (∀ x ∈ ns, Big 100 x) /\ (∀ x ∈ xs, Big 20000 x) /\ 0 < D /\ D < 2 ^ 8000 ∧
  ∀ (v : V) (H' : Hp), Same H H' -> FrT H' v (low (List.zipWith (· * ·) ns xs).sum D) -> Q v H'
theorem scSum : FnScope ["numbers", "parts", "top", "bottom", "number", "part", "many"] ["numbers", "parts"] (defScope sSum) := ⟨rfl, rfl, rfl, by decide +kernel, rfl, by decide +kernel, by decide +kernel⟩
set_option maxHeartbeats 4000000 in
noncomputable def sumT {cdv : Value} {A : Around} {outer : List Env} {s : Shared} {H : Hp} {E : XK} {fa fb : Addr} {da db : FuncData} (T : Nones mg) (Cc : Cal P w K mg base n "_law_common" ["one", "other"] spCommon fa da) (Cl : Cal P w K mg base n "_law_low" ["top", "bottom"] spLow fb db)
    (hr : Room n (A.deeper (PyProof.Rows.envOfC "_law_sum" (defScope sSum) s.heap.objs.size f cdv))) :
    { t : TS // PSs (cxOf CX0 P w K mg base ["numbers", "parts", "top", "bottom", "number", "part", "many"] "_law_sum" (defScope sSum) f cdv A outer s H E).nox (defBody sSum) t } :=
  ⟨_, pss_cons (ps_set (i := 2) scSum.nd rfl (Or.inl rfl) pe_int)
    (pss_cons (ps_set (i := 3) scSum.nd rfl (Or.inl rfl) pe_int)
    (pss_cons (ps_for PassesOwn.never rfl (pi_any fun b => pi_zg b true K rfl rfl T.zip (pa_cons (pv 0) (pa_cons (pv 1) pa_nil))) (pgt_at K (n := 2) rfl rfl (pgs_cons (pg_name (i := 4) scSum.nd rfl (Or.inl rfl)) (pgs_cons (pg_name (i := 5) scSum.nd rfl (Or.inl rfl)) pgs_nil)))
      (pss_cons (ps_set (i := 6) scSum.nd rfl (Or.inl rfl) (pe_call Cc.ok hr rfl Cc.m Cc.k Cc.b .nil pass0 (pa_cons (pv 3) (pa_cons (pe_ix ix_tup (pv 5) pe_int (fun _ _ => rfl)) pa_nil))))
      (pss_cons (ps_set (i := 2) scSum.nd rfl (Or.inl rfl) (pe_op op_add (pe_op op_mulB (pv 2) (pe_op op_fdivL (pe_ix ix_tup (pv 5) pe_int (fun _ _ => rfl)) (pv 6))) (pe_op op_mulB (pe_op op_mulB (pv 4) (pe_ix ix_tup (pv 5) pe_int (fun _ _ => rfl))) (pe_op op_fdivL (pv 3) (pv 6)))))
      (pss_one (ps_set (i := 3) scSum.nd rfl (Or.inl rfl) (pe_op op_mulB (pe_op op_fdivL (pv 3) (pv 6)) (pe_ix ix_tup (pv 5) pe_int (fun _ _ => rfl))))))))
    (pss_one (ps_ret (pe_call Cl.ok hr rfl Cl.m Cl.k Cl.b .nil pass0 (pa_cons (pv 2) (pa_cons (pv 3) pa_nil)))))))⟩
theorem zw_back {D : Int} (hD : 0 < D) : ∀ (ns xs : List Int), ((List.zip ns (xs.map fun x => low x D)).map fun x => x.1 * (x.2.1 * (D / x.2.2))) = List.zipWith (· * ·) ns xs
  | [], _ => by simp
  | _ :: _, [] => by simp
  | a :: r, x :: xs => by
    rw [List.map_cons, List.zip_cons_cons, List.map_cons, zw_back hD r xs, List.zipWith_cons_cons, low_back hD]
set_option maxHeartbeats 4000000 in
theorem ok_sum {fa fb : Addr} {da db : FuncData} (F : Fun K "_law_sum" "_law_sum" sSum f fd) (T : Nones mg) (Cc : Cal P w K mg base n "_law_common" ["one", "other"] spCommon fa da) (Cl : Cal P w K mg base n "_law_low" ["top", "bottom"] spLow fb db) :
    FnOk P w K mg base CX0 (n + 1) f fd ["numbers", "parts"] (spSumD K) := by
  refine F.ok scSum (fun vs H Q E h => ?_) (fun cdv A outer s H vs Q E hr h => ?_)
  . obtain ⟨nl, pl, ns, pvs, xs, D, rfl, _⟩ := h
    rfl
  obtain ⟨nl, pl, ns, pvs, xs, D, rfl, hN, hP, hF, hlen, h100, hbn, hbx, hD, hD2, q⟩ := h
  refine ⟨_, (sumT T Cc Cl hr).2, ?_⟩
  have pl' : pvs.length = xs.length := hF.1
  have nl' : (ns.map V.int).length = ns.length := List.length_map _
  have hpos : ∀ x ∈ List.zip ns (xs.map fun x => low x D), 0 < x.2.2 /\ x.2.2 ∣ D := fun x hx => by
    obtain ⟨y, _, e⟩ := List.mem_map.mp (List.of_mem_zip hx).2
    rw [<- e]
    exact ⟨low_pos hD, low_dvd hD⟩
  have fin : ∀ (t b : Int) (o4 o5 o6 : Option V) (H1 : Hp), Same H H1 -> (t, b) = (List.zip ns (xs.map fun x => low x D)).foldl lawStep (0, 1) -> 0 < b -> b ∣ D →
      tRet (tCall spLow [] E0 (tCons (tVar 2) (tCons (tVar 3) tNil))) { nx := fun _ H' => Q .non H', rt := Q } [some (.ref nl), some (.ref pl), some (.int t), some (.int b), o4, o5, o6] H1 := fun t b o4 o5 o6 H1 e1 htb hb hbD => by
    have hfl := fsum_law (l := List.zip ns (xs.map fun x => low x D)) fun x hx => (hpos x hx).1
    rw [<- htb] at hfl
    have hov := fsum_over (L := D) (T := (List.zipWith (· * ·) ns xs).sum) (l := List.zip ns (xs.map fun x => low x D)) hD hpos (by rw [zw_back hD])
    refine ⟨_, rfl, _, rfl, t, b, rfl, hb, Int.lt_of_le_of_lt (Int.le_of_dvd hD hbD) hD2, fun v H2 e2 hv => ?_⟩
    have hfl' : low t b = fsum (List.zip ns (xs.map fun x => low x D)) := hfl
    rw [hfl', <- hov] at hv
    exact q v H2 (e1.trans e2) hv
  have hmin : min (ns.map V.int).length pvs.length = xs.length := by rw [nl', pl']; lia
  have htk : (List.zip ns (xs.map fun x => low x D)).take xs.length = List.zip ns (xs.map fun x => low x D) := List.take_of_length_le (by rw [List.length_zip, List.length_map]; lia)
  have B0 : Big (30000 + 8001 * 0) 0 := big_pos (n := 30000) (by decide) (Int.pow_pos (by decide))
  obtain ⟨b1, hN⟩ : ∃ b1, SqB b1 K H nl (ns.map V.int) := hN.elim (fun h => ⟨true, h⟩) (fun h => ⟨false, h⟩)
  . refine ⟨b1, _, rfl, _, rfl, nl, pl, rfl, ⟨_, hN⟩, ⟨_, hP⟩, ?_⟩
    refine for_zg (xs := ns.map V.int) (ys := pvs) (i1 := 4) (i2 := 5) (fun i σ H' => ∃ (t b : Int) (o4 o5 o6 : Option V), σ = [some (.ref nl), some (.ref pl), some (.int t), some (.int b), o4, o5, o6] /\ Same H H' /\ (t, b) = ((List.zip ns (xs.map fun x => low x D)).take i).foldl lawStep (0, 1) /\ 0 < b /\ b ∣ D /\ Big (30000 + 8001 * i) t)
      ⟨0, 1, _, _, _, rfl, Same.refl _, rfl, by decide, ⟨D, (Int.one_mul D).symm⟩, B0⟩ (fun i σ H' ⟨_, _, _, _, _, _, e, _⟩ => ⟨e.sqB hN, e.seq hP⟩) ?_ ?_
    . rintro i x y σ H1 qq hx hy ⟨t, b, o4, o5, o6, rfl, e1, htb, hb, hbD, hbt⟩ hq
      have hfq : (xs.map fun x => low x D)[i]? = some (low (xs.getD i 0) D) := by
        have hil : i < xs.length := by rw [<- pl']; exact (List.getElem?_eq_some_iff.mp hy).1
        rw [List.getElem?_map, List.getElem?_eq_getElem hil, List.getD_eq_getElem?_getD, List.getElem?_eq_getElem hil]; rfl
      have hil : i < xs.length := by rw [<- pl']; exact (List.getElem?_eq_some_iff.mp hy).1
      obtain ⟨a, rfl, ha⟩ := hF.2 i y hy
      obtain ⟨nn, rfl⟩ := map_int_at hx
      have hnn : ns[i]? = some nn := by
        rw [List.getElem?_map] at hx
        cases hni : ns[i]? with
        | none => rw [hni] at hx; cases hx
        | some m => rw [hni] at hx; cases hx; rfl
      generalize hfqe : low (xs.getD i 0) D = fq at hfq ha
      have hq0 : 0 < fq.2 := by rw [<- hfqe]; exact low_pos hD
      have hqd' : fq.2 ∣ D := by rw [<- hfqe]; exact low_dvd hD
      have hqP : fq.2 <= D := Int.le_of_dvd hD hqd'
      have hbP : b <= D := Int.le_of_dvd hD hbD
      have hg := gI_pos (a := b) hq0
      have hgq := gI_le (a := b) hq0
      have hg8 : gI b fq.2 < 2 ^ 8000 := Int.lt_of_le_of_lt hgq (Int.lt_of_le_of_lt hqP hD2)
      obtain ⟨d1, d2⟩ := div_pos_of_dvd hb hg (gI_dvd_left b fq.2)
      obtain ⟨d3, d4⟩ := div_pos_of_dvd hq0 hg (gI_dvd_right b fq.2)
      have hbd : b / gI b fq.2 <= b := by
        have := le_mul_pos d1 hg
        rw [Int.mul_comm, d2] at this
        exact this
      have hqd : fq.2 / gI b fq.2 <= fq.2 := by
        have := le_mul_pos d3 hg
        rw [Int.mul_comm, d4] at this
        exact this
      have B1 : Big 8000 (fq.2 / gI b fq.2) := big_pos (Int.le_of_lt d3) (Int.lt_of_le_of_lt hqd (Int.lt_of_le_of_lt hqP hD2))
      have B2 : Big 8000 (b / gI b fq.2) := big_pos (Int.le_of_lt d1) (Int.lt_of_le_of_lt hbd (Int.lt_of_le_of_lt hbP hD2))
      have B3 : Big 8000 fq.2 := big_pos (Int.le_of_lt hq0) (Int.lt_of_le_of_lt hqP hD2)
      have Bn := hbn nn (List.mem_of_getElem? hnn)
      have Bp : Big 20000 fq.1 := by rw [<- hfqe]; exact low_big hD (hbx _ (getD_mem0 hil))
      have s1 := Same.new hq (.tup [V.int nn, V.ref a])
      have ha1 := (e1.trans s1).tseq ha
      refine ⟨_, rfl, _, rfl, a, _, 1, _, rfl, rfl, ha1, pair1 _ _, b, fq.2, rfl, Int.le_of_lt hb, Int.le_of_lt hq0, ?_⟩
      refine ⟨_, rfl, _, rfl, a, _, 1, _, rfl, rfl, ha1, pair1 _ _, _, rfl, _, _, rfl, rfl, ⟨hg, hg8⟩, _, _, rfl, rfl, ⟨hbt.mono (by lia), B1.mono (by decide)⟩, ?_⟩
      refine ⟨_, rfl, _, rfl, a, _, 0, _, rfl, rfl, ha1, pair0 _ _, _, _, rfl, rfl, ⟨Bn.mono (by decide), Bp.mono (by decide)⟩, _, rfl, _, rfl, _, _, rfl, rfl, ⟨hg, hg8⟩, _, _, rfl, rfl, ⟨(Bn.mul Bp).mono (by decide), B2.mono (by decide)⟩, _, _, rfl, rfl, ?_⟩
      refine ⟨_, rfl, _, rfl, _, _, rfl, rfl, ⟨hg, hg8⟩, _, rfl, a, _, 1, _, rfl, rfl, ha1, pair1 _ _, _, _, rfl, rfl, ⟨B2.mono (by decide), B3.mono (by decide)⟩, ?_⟩
      have hzi : (List.zip ns (xs.map fun x => low x D))[i]? = some (nn, fq) := by rw [List.getElem?_zip_eq_some]; exact ⟨hnn, hfq⟩
      refine ⟨_, _, _, _, _, rfl, e1.trans s1, ?_, Int.mul_pos d1 hq0, lcm_dvd' hb hq0 hbD hqd', ?_⟩
      . rw [List.take_succ, hzi, List.foldl_append, <- htb]; rfl
      . have b1 : Big (30000 + 8001 * i + 8000) (t * (fq.2 / gI b fq.2)) := hbt.mul B1
        have b2 : Big (30000 + 8001 * i + 8000) (nn * fq.1 * (b / gI b fq.2)) := ((Bn.mul Bp).mul B2).mono (by lia)
        exact (b1.add b2).mono (by lia)
    . intro σ H1 hM_; refine gen2 fun G_ hG_ => ?_; obtain ⟨t, b, o4, o5, o6, rfl, e1, htb, hb, hbD, hbt⟩ := hM_; subst hG_
      rw [hmin, htk] at htb
      exact fin t b o4 o5 o6 H1 e1 htb hb hbD
end
end Rim
namespace Rim
open PySem L2 Fr
theorem low_nn {x D : Int} (hD : 0 < D) (hx : 0 <= x) : 0 <= (low x D).1 := by
  obtain ⟨h1, _⟩ := low_parts (t := x) hD
  have hg := gI_pos (a := x) hD
  by_cases h : 0 <= (low x D).1
  . exact h
  . have : gI x D * (low x D).1 < 0 := Int.mul_neg_of_pos_of_neg hg (by lia)
    lia
theorem one_low : low 1 1 = (1, 1) := by decide
section
variable {P : Program} {w : World} {K : W.Frag} {mg : Str -> Option Value} {base : Heap} {f : Addr} {fd : FuncData} {n : Nat}
def SizeOk (z : Str) (s D : Int) : Prop := ((z = "one" \/ z = "less") -> s <= D) /\ ((z = "one" \/ z = "more") -> D <= s)
theorem sum_big : ∀ {ws : List Int} {m : Nat}, (∀ x ∈ ws, Big m x) -> ws.length <= 200 -> Big (m + 200) ws.sum := fun {ws m} h hl => by
  have key : ∀ l : List Int, (∀ x ∈ l, Big m x) -> l.sum.natAbs <= l.length * 2 ^ m := fun l => by
    induction l with
    | nil => intro _; exact Nat.zero_le _
    | cons x r ih =>
      intro h
      have h1 : x.natAbs < 2 ^ m := h x List.mem_cons_self
      have h2 := ih fun y hy => h y (List.mem_cons_of_mem _ hy)
      have h3 := Int.natAbs_add_le x r.sum
      rw [List.sum_cons, List.length_cons, Nat.succ_mul]
      lia
  have h1 := key ws h
  have h2 : ws.length * 2 ^ m <= 200 * 2 ^ m := Nat.mul_le_mul_right _ hl
  have h3 : 200 * 2 ^ m < 2 ^ (m + 200) := by
    rw [Nat.pow_add, Nat.mul_comm]
    exact Nat.mul_lt_mul_of_pos_left (by decide) (Nat.pow_pos (by decide))
  exact Nat.lt_of_le_of_lt (Nat.le_trans h1 h2) h3
end
end Rim
namespace Rim
open PySem L2 Fr
def col (rows : List (List Int)) (i : Nat) : List Int := rows.map fun r => r.getD i 0
section
variable {P : Program} {w : World} {K : W.Frag} {mg : Str -> Option Value} {base : Heap} {f g : Addr} {fd gd : FuncData} {n : Nat}
def sideJ (j : Nat) (h : House) : List Int := if j = 0 then h.1 else h.2
end
end Rim
namespace L2
open PySem PySem.Spec PyProof.Rows
section
variable {xs ys : List V} {K : W.Frag} {l1 l2 : Addr} {σ : St}
end
end L2
namespace Rim
open PySem L2 Fr
section
variable {P : Program} {w : World} {K : W.Frag} {mg : Str -> Option Value} {base : Heap} {f : Addr} {fd : FuncData} {n : Nat}
def colS (hs : List House) (ws : List Int) (j i : Nat) : Int := (List.zipWith (· * ·) (col (hs.map (sideJ j)) i) ws).sum
end
end Rim
namespace Rim
open PySem L2 Fr
theorem zw_big {a b : Nat} : ∀ {ns ws : List Int}, (∀ x ∈ ns, Big a x) -> (∀ x ∈ ws, Big b x) -> ∀ x ∈ List.zipWith (· * ·) ns ws, Big (a + b) x
  | [], _, _, _, x, hx => by simp at hx
  | _ :: _, [], _, _, x, hx => by simp at hx
  | n :: ns, w :: ws, h1, h2, x, hx => by
    rw [List.zipWith_cons_cons] at hx
    rcases List.mem_cons.mp hx with e | e
    . rw [e]; exact (h1 n List.mem_cons_self).mul (h2 w List.mem_cons_self)
    . exact zw_big (fun y hy => h1 y (List.mem_cons_of_mem _ hy)) (fun y hy => h2 y (List.mem_cons_of_mem _ hy)) x e
theorem hg_big {far : Int} {kt kg : Nat} {h : House} (g : HG far kt kg h) (hf : far <= 2 ^ 60) (j : Nat) : ∀ x ∈ sideJ j h, Big 100 x := fun x hx => by
  have : 0 <= x /\ x <= far := by
    unfold sideJ at hx
    by_cases h0 : j = 0
    . rw [if_pos h0] at hx; have := g.t x hx; lia
    . rw [if_neg h0] at hx; exact g.g x hx
  exact (big_pos (n := 61) this.1 (by lia)).mono (by decide)
section
variable {P : Program} {w : World} {K : W.Frag} {mg : Str -> Option Value} {base : Heap} {f : Addr} {fd : FuncData} {n : Nat}
end
end Rim
namespace Rim
open PySem L2 Fr
def PrA (H : Hp) (t : Addr) (pt pg : List Int) (ps D : Int) : Prop := ∃ (fa ga : Addr) (u : V) (fts gts : List V), H t = some (.tup [.ref fa, .ref ga, u]) /\ H fa = some (.lst fts) /\ FrsAt H fts pt D /\ H ga = some (.lst gts) /\ FrsAt H gts pg D /\ FrT H u (low ps D)
theorem PrA.same {H H' : Hp} {t : Addr} {pt pg : List Int} {ps D : Int} (e : Same H H') (h : PrA H t pt pg ps D) : PrA H' t pt pg ps D := by
  obtain ⟨fa, ga, u, fts, gts, h1, h2, h3, h4, h5, h6⟩ := h
  exact ⟨fa, ga, u, fts, gts, e _ _ h1, e _ _ h2, h3.same e, e _ _ h4, h5.same e, h6.same e⟩
theorem trip0 {α : Type} (a b c : α) : atI [a, b, c] 0 = some a := atI_nat (j := 0) rfl
theorem trip1 {α : Type} (a b c : α) : atI [a, b, c] 1 = some b := atI_nat (j := 1) rfl
theorem trip2 {α : Type} (a b c : α) : atI [a, b, c] 2 = some c := atI_nat (j := 2) rfl
theorem FrsAt.snoc {H : Hp} {ys : List V} {xs : List Int} {D x : Int} {y : V} (h : FrsAt H ys xs D) (hy : FrT H y (low x D)) : FrsAt H (ys ++ [y]) (xs ++ [x]) D := by
  refine ⟨by simp [h.1], fun i u hu => ?_⟩
  rw [getD_app]
  by_cases hi : i < ys.length
  . rw [List.getElem?_append_left hi] at hu
    rw [if_pos (by rw [<- h.1]; exact hi)]
    exact h.2 i u hu
  . rw [List.getElem?_append_right (by lia)] at hu
    have hi0 : i - ys.length = 0 := by
      cases z : i - ys.length with
      | zero => rfl
      | succ k => rw [z] at hu; simp at hu
    rw [hi0] at hu
    have : y = u := by simpa using hu
    subst this
    rw [if_neg (by rw [<- h.1]; exact hi), <- h.1, hi0]
    exact hy
theorem zw_snoc : ∀ {xs ys : List Int} {a b : Int}, xs.length = ys.length -> (List.zipWith (· * ·) (xs ++ [a]) (ys ++ [b])).sum = (List.zipWith (· * ·) xs ys).sum + a * b
  | [], [], a, b, _ => by simp
  | x :: xs, y :: ys, a, b, h => by
    rw [List.cons_append, List.cons_append, List.zipWith_cons_cons, List.zipWith_cons_cons, List.sum_cons, List.sum_cons, zw_snoc (by simpa using h), Int.add_assoc]
section
variable {P : Program} {w : World} {K : W.Frag} {mg : Str -> Option Value} {base : Heap} {f : Addr} {fd : FuncData} {n : Nat}
structure PrN (pt pg : List Int) (ps D : Int) (kt kg : Nat) : Prop where
  lt : pt.length = kt
  lg : pg.length = kg
  bt : ∀ x ∈ pt, 0 <= x /\ Big 5000 x
  bg : ∀ x ∈ pg, 0 <= x /\ Big 5000 x
  bs : Big 5000 ps
  d : 0 < D
  d2 : D < 2 ^ 4000
def earn (h : House) (pg : List Int) (ps : Int) : Int := (List.zipWith (· * ·) h.2 pg).sum + ps
def pay (h : House) (pt : List Int) : Int := (List.zipWith (· * ·) h.1 pt).sum
theorem sum_up {ns xs : List Int} {far : Int} {m k : Nat} (h1 : ∀ x ∈ ns, Big 100 x) (h2 : ∀ x ∈ xs, Big 5001 x) (hl : ns.length <= 200) : Big 30000 (List.zipWith (· * ·) ns xs).sum := (sum_big (zw_big h1 h2) (by rw [List.length_zipWith]; lia)).mono (by decide)
end
end Rim
namespace Rim
open PySem L2 Fr
section
variable {P : Program} {w : World} {K : W.Frag} {mg : Str -> Option Value} {base : Heap} {f : Addr} {fd : FuncData} {n : Nat}
def SignOk (z : Str) (ps : Int) : Prop := ((z = "any" \/ z = "less") -> ps <= 0) /\ ((z = "any" \/ z = "more") -> 0 <= ps)
end
end Rim
namespace Rim
open PySem L2 Fr
mutual
theorem eqv_refl : ∀ d : PyData, d.canLay0 = true -> PyData.eqv d d = true
  | .none, _ => by rw [PyData.eqv]
  | .bool b, _ => by rw [PyData.eqv]; simp
  | .int i, _ => by rw [PyData.eqv]; simp
  | .str x, _ => by rw [PyData.eqv]; simp
  | .list xs, h => by rw [PyData.eqv]; exact eqvAll_refl xs (by rw [PyData.canLay0] at h; exact h)
  | .tuple xs, h => by rw [PyData.eqv]; exact eqvAll_refl xs (by rw [PyData.canLay0] at h; exact h)
  | .dict kvs, h => by rw [PyData.canLay0] at h; cases h
theorem eqvAll_refl : ∀ ds : List PyData, PyData.canLayAll0 ds = true -> PyData.eqvAll ds ds = true
  | [], _ => by rw [PyData.eqvAll]
  | d :: r, h => by
    rw [PyData.canLayAll0, Bool.and_eq_true] at h
    rw [PyData.eqvAll, eqv_refl d h.1, eqvAll_refl r h.2]; rfl
end
def dF (x : Q2) : PyData := .tuple [.int x.1, .int x.2]
theorem FrV.dp {K : W.Frag} {H : Hp} {v : V} {x : Q2} (h : FrV K H v x) : Dp K H v (dF x) := by
  obtain ⟨a, rfl, q⟩ := h
  exact .tup q (.cons (.int _) (.cons (.int _) .nil))
theorem lay_F (x : Q2) : (dF x).canLay0 = true := by
  unfold dF
  rw [PyData.canLay0, PyData.canLayAll0, PyData.canLay0, PyData.canLayAll0, PyData.canLay0, PyData.canLayAll0]; rfl
theorem dep_F (x : Q2) : (dF x).depth <= 60 := by
  unfold dF
  simp [PyData.depth, PyData.depthAll]
theorem low_cross {x D : Int} (hD : 0 < D) : (low x D).1 * D = x * (low x D).2 := by
  obtain ⟨h1, h2⟩ := low_parts (t := x) hD
  generalize (low x D).1 = a at *
  generalize (low x D).2 = b at *
  generalize gI x D = g at *
  rw [h1, h2]
  ac_rfl
theorem low_self {D : Int} (hD : 0 < D) : low D D = (1, 1) := by
  have : low D D = low 1 1 := low_eq hD (by decide) (by lia)
  rw [this, one_low]
section
variable {P : Program} {w : World} {K : W.Frag} {mg : Str -> Option Value} {base : Heap} {f : Addr} {fd : FuncData} {n : Nat}
end
end Rim
namespace Rim
open PySem L2 Fr
section
variable {P : Program} {w : World} {K : W.Frag} {mg : Str -> Option Value} {base : Heap} {f : Addr} {fd : FuncData} {n : Nat}
end
end Rim
namespace Lp
section
variable {m q : Nat} {A : Nat -> Nat -> Int} {b c : Nat -> Int} {S S' : Bo}
end
end Lp
namespace Rim
open PySem L2 Fr
abbrev dot (l x : List Int) : Int := (List.zipWith (· * ·) l x).sum
section
variable {m q : Nat} {rows : List (List Int)} {bnd goal : List Int} {S : Lp.Bo}
end
end Rim
namespace Rim
open PySem L2 Fr
abbrev ptA (h : House) (xs : List Int) : List Int := xs.take h.1.length
abbrev pgA (h : House) (xs : List Int) : List Int := (xs.drop h.1.length).take h.2.length
abbrev psA (z : Str) (h : House) (xs : List Int) : Int := dot (xs.drop (h.1.length + h.2.length)) (sgn z)
section
variable {z : Str} {hs : List House} {h : House} {kt kg : Nat} (hk : ∀ g ∈ hs, g.1.length = kt /\ g.2.length = kg)
include hk
end
structure Told (z : Str) (hs : List House) (h : House) (S : Lp.Bo) (kt kg : Nat) (ws : List Int) : Prop where
  lw : ws.length = hs.length
  nn : ∀ x ∈ ws, 0 <= x /\ Big 20000 x
  size : SizeOk z ws.sum S.d
  takes : ∀ j, j < kt -> colS hs ws 0 j <= h.1.getD j 0 * S.T (mE hs) (qE z h)
  gives : ∀ j, j < kg -> h.2.getD j 0 * S.d <= colS hs ws 1 j
  pos : 0 < S.T (mE hs) (qE z h)
  le : h ∈ hs -> S.T (mE hs) (qE z h) <= S.d
  fair : ∀ g ∈ hs, earn g (pgA h (amtsL (mE hs) (qE z h) S)) (psA z h (amtsL (mE hs) (qE z h) S)) <= pay g (ptA h (amtsL (mE hs) (qE z h) S))
  pays : pay h (ptA h (amtsL (mE hs) (qE z h) S)) = S.d
  earns : earn h (pgA h (amtsL (mE hs) (qE z h) S)) (psA z h (amtsL (mE hs) (qE z h) S)) = S.T (mE hs) (qE z h)
  pr : PrN (ptA h (amtsL (mE hs) (qE z h) S)) (pgA h (amtsL (mE hs) (qE z h) S)) (psA z h (amtsL (mE hs) (qE z h) S)) S.d kt kg
  sign : SignOk z (psA z h (amtsL (mE hs) (qE z h) S))
end Rim
namespace L2
open PySem PySem.Spec PyProof.Rows
end L2
namespace L2
open PySem
end L2
namespace L2
open PySem
end L2
namespace Rim
open PySem L2 Fr
theorem depth_ints : ∀ ns : List Int, PyData.depthAll (ns.map PyData.int) <= 3
  | [] => by simp [PyData.depthAll]
  | n :: r => by
    rw [List.map_cons, PyData.depthAll]
    exact Nat.max_le.mpr ⟨by simp [PyData.depth], depth_ints r⟩
theorem depth_house (h : House) : (dHouse h).depth <= 8 := by
  unfold dHouse dInts
  have h1 := depth_ints h.1
  have h2 := depth_ints h.2
  rw [PyData.depth, PyData.depthAll, PyData.depth, PyData.depthAll, PyData.depth, PyData.depthAll]
  lia
theorem depth_book : ∀ hs : List House, PyData.depthAll (hs.map dHouse) <= 8
  | [] => by simp [PyData.depthAll]
  | h :: r => by
    rw [List.map_cons, PyData.depthAll]
    exact Nat.max_le.mpr ⟨depth_house h, depth_book r⟩
end Rim
namespace L2
open PySem PySem.Spec PyProof.Rows
abbrev en2 (b : Bool) (h : Heap) (t : Addr) : Heap := (zg1 b h t).push { cls := .type "enumerate", data := .fields #[.none, .bool false, .ref h.objs.size, rawInt 0, .none, .none] }
theorem ctt_any {prog : Program} {w : World} {A : Around} {E : Value -> Shared -> Prop} {s : Shared} {c : Value} {Q : Bool -> Shared -> Prop} (h : ∀ b, Q b s) : wpAny (model prog w) A (Builtin.SmallTypes.calledThroughType c) Q E s := by
  unfold Builtin.SmallTypes.calledThroughType
  exact wpAny_bind (wpAny_stack_any fun st => wpAny_pure (h _))
theorem en_new (b : Bool) (t : Addr) (xs : Array Value) :
    Meets (Builtin.«enumerate.__new__» ⟨[.type "enumerate", .ref t], []⟩) (fun _ R s => IsB b s.heap t xs /\ R (.ok (.ret (.ref (zg1 b s.heap t).objs.size))) { s with heap := en2 b s.heap t }) :=
  .of_wp fun prog w A R s h => by
    obtain ⟨hp, g, d, tk, os⟩ := s
    obtain ⟨e1, h⟩ := h
    have hsub := sub_enumerate
    have m1 : IsB b (Shared.heap ⟨hp, g, d, tk, os⟩) t xs := e1
    wp_walk using iterB m1, ctt_any
    intro c
    cases c
    . wp_walk using iterB m1
      exact ⟨_, rfl, h⟩
    . wp_walk using iterB m1
      exact ⟨_, rfl, h⟩
section
variable {prog : Program} {w : World} {A : Around} {E : Value -> Shared -> Prop} {s : Shared}
theorem en_call {b : Bool} {t : Addr} {xs : Array Value} {Q : Value -> Shared -> Prop} (l1 : IsB b s.heap t xs)
    (q : ∀ h', IsEnum h' (s.heap.objs.size + 1) s.heap.objs.size 0 .none -> ItB b h' s.heap.objs.size t 0 -> (∀ c o, s.heap.get? c = some o -> h'.get? c = some o) -> Q (.ref (s.heap.objs.size + 1)) { s with heap := h' }) :
    wpAny (model prog w) A (call (.type "enumerate") [.ref t]) Q E s := by
  refine callType_new F.called_enumerate (by decide) (F.typeCall_enumerate_1 _) (F.newCall_enumerate_1 _) (fun ob => F.args_object_init_2 ob _) F.entry_enumerate_new (en_new b t xs) ⟨l1, ?_⟩
  have n1 : (zg1 b s.heap t).objs.size = s.heap.objs.size + 1 := Heap.size_push ..
  have p2 : (en2 b s.heap t).get? (zg1 b s.heap t).objs.size = some _ := Heap.get?_push_size _ rfl
  have p1 : (en2 b s.heap t).get? s.heap.objs.size = some _ := Heap.get?_push_of_some _ (Heap.get?_push_size _ rfl)
  rw [n1] at p2
  show _ /\ _
  rw [n1]
  exact ⟨⟨_, p2, rfl⟩, q _ p2 (ItB.mk p1) fun c o m => Heap.get?_push_of_some _ (Heap.get?_push_of_some _ m)⟩
theorem drawsB {b : Bool} (hh : A.handled = none) (it t : Addr) (hne : t ≠ it) (xs : Array Value) : Draws prog w A it [it, t] xs.size (fun i v => xs[i]? = some v) (fun i h => ItB b h it t i /\ IsB b h t xs) where
  live := fun i h st => by obtain ⟨o, e, _⟩ := st.1.obj; exact ⟨o, e⟩
  frame := fun i h h' st k => ⟨st.1.at' fun o e => k it (by simp) o e, st.2.at' fun o e => k t (by simp) o e⟩
  item := fun i s Q E hi st q => by
    refine nxB_item st.1 st.2 (x := xs[i]) (Array.getElem?_eq_getElem hi) fun h' a1 a2 => ?_
    exact q _ h' s.toks (Array.getElem?_eq_getElem hi) ⟨a1, st.2.extBut a2.extBut hne⟩ a2
  done := fun s Q E st q => nxB_end hh st.1 st.2 (by simp) fun h' e a1 a2 => q h' e a1 a2
end
def Itn (b : Bool) (K : W.Frag) (l : Addr) : It :=
  ⟨fun i H => ∃ xs x, SqB b K H l xs /\ xs[i]? = some x,
   fun i H x H' => ∃ p a, H p = none /\ x = .ref p /\ H' = upd H p (.tup [.int (i : Int), a]) /\ ∀ xs, SqB b K H l xs -> xs[i]? = some a,
   fun i H => ∃ xs, SqB b K H l xs /\ xs.length <= i⟩
theorem turn_en {b : Bool} {P : Program} {w : World} {K : W.Frag} {elts : List Expr} {x1 : Nat} {pos : Pos} {e it l : Addr} (hne : e ≠ it) (hle : l ≠ e) (hli : l ≠ it) :
    Turn P w K (.Tuple elts x1 pos) (Itn b K l) [e, it] e (fun i h => (∃ old, IsEnum h e it (i : Int) old) /\ ItB b h it l i) where
  mem := by simp
  obj := fun i h st c hb => by
    obtain ⟨⟨old, he⟩, h1⟩ := st
    obtain ⟨o1, e1, v1, d1⟩ := h1.obj
    simp only [List.mem_cons, List.not_mem_nil, or_false] at hb
    rcases hb with rfl | rfl
    . exact ⟨_, he, fun v q => by cases q⟩
    . exact ⟨o1, e1, fun v q => by rw [d1] at q; cases q⟩
  keep := fun i h h' st k => by
    obtain ⟨⟨old, he⟩, h1⟩ := st
    exact ⟨⟨old, k e (by simp) _ he⟩, h1.at' fun o q => k it (by simp) o q⟩
  item := by
    intro X hP hw hK hc i pins s σ H E I hf st hg
    subst hP hw hK
    obtain ⟨xs, x, hq, hx⟩ := hg
    obtain ⟨⟨old, he⟩, h1⟩ := st
    obtain ⟨its, rv, p, _⟩ := I.sqB hq
    obtain ⟨u, hu, ru⟩ := rv.get hx
    have hu' : its.toArray[i]? = some u := by simpa using hu
    have il : i < its.toArray.size := (Array.getElem?_eq_some_iff.mp hu').1
    refine wpAny_pyNext_enum_itemD (drawsB (A := X.A.in1) (b := b) (show X.A.in1.handled = none from I.ok.hd hc) it l hli its.toArray) he ⟨h1, p⟩ il hne (by simp; exact ⟨hne, Ne.symm hle⟩) fun v h' tk hv a1 a2 a3 a4 a5 => ?_
    rw [hu'] at hv
    cases hv
    refine ⟨_, rfl, wpAny_letOwnedTupleGo_enum (s := { s with heap := h', toks := tk + 1 }) a1 fun h'' he'' hs'' => ?_⟩
    have ie : s.heap.get? e = _ := he
    obtain ⟨o1, ei, _⟩ := h1.obj
    have neT : ∀ c ∈ [e, it], c ≠ s.heap.objs.size := fun c hb q => by
      have : ∃ o, s.heap.get? c = some o := by
        simp only [List.mem_cons, List.not_mem_nil, or_false] at hb
        rcases hb with rfl | rfl
        . exact ⟨_, ie⟩
        . exact ⟨_, ei⟩
      obtain ⟨o, ho⟩ := this
      exact absurd (Heap.lt_size ho) (by rw [q]; exact Nat.lt_irrefl _)
    have kk : ∀ c o, c ∉ [e, it] -> s.heap.get? c = some o -> h''.get? c = some o := fun c o hb q => by
      simp only [List.mem_cons, List.not_mem_nil, or_false, not_or] at hb
      exact hs''.extBut c o hb.1 (a5 c o hb.1 hb.2 q)
    have it'' : ItB b h'' it l (i + 1) := a2.1.extBut hs''.extBut (Ne.symm hne)
    have hoF : ∀ c ∈ [e, it], ∃ o, h''.get? c = some o := fun c hb => by
      obtain ⟨o2, e2, _⟩ := it''.obj
      simp only [List.mem_cons, List.not_mem_nil, or_false] at hb
      rcases hb with rfl | rfl
      . exact ⟨_, he''⟩
      . exact ⟨_, e2⟩
    have es : e ≠ s.heap.objs.size := neT e (by simp)
    have tup : IsTup h'' s.heap.objs.size [Value.int (i : Int) tk, u].toArray := ⟨_, hs''.extBut _ _ (Ne.symm es) a3, rfl, 0, rfl⟩
    refine ⟨.ref s.heap.objs.size, upd H s.heap.objs.size (.tup [.int (i : Int), x]), (I.turnedLaid (h' := h'') hf kk hoF (Nat.le_refl _) (by show 2 <= sizeLine; decide) (show Vals [.int (i : Int), x] [Value.int (i : Int) tk, u] from .cons ⟨_, rfl⟩ (.cons ru .nil)) tup).tok _, rfl, ⟨_, x, I.fresh, rfl, rfl, fun xs' q1 => ?_⟩, ⟨⟨_, he''⟩, it''⟩, fun c hb => ?_⟩
    . rw [I.sqB_inj q1 hq]; exact hx
    . rw [upd_ne (neT c hb)]; exact (hf c hb).1
  done := by
    intro X hP hw hK hc i pins s σ H E I hf st hg
    subst hP hw hK
    obtain ⟨xs, hq, hend⟩ := hg
    obtain ⟨⟨old, he⟩, h1⟩ := st
    obtain ⟨its, rv, p, _⟩ := I.sqB hq
    have hl := rv.length
    by_cases hi : i = its.length
    . subst hi
      refine wpAny_pyNext_enum_endD (drawsB (A := X.A.in1) (b := b) (show X.A.in1.handled = none from I.ok.hd hc) it l hli its.toArray) he ⟨by simpa using h1, p⟩ fun h' k => ⟨rfl, I.turnedAll hf fun c o hb q => ?_⟩
      simp only [List.mem_cons, List.not_mem_nil, or_false, not_or] at hb
      exact k c o hb.2 q
    . have d : Draws X.prog X.w X.A.in1 it [it, l] 0 (fun _ _ => True) (fun _ h => ItB b h it l i /\ IsB b h l its.toArray) := ⟨fun j h st => by obtain ⟨o, e, _⟩ := st.1.obj; exact ⟨o, e⟩, fun j h h' st k => ⟨st.1.at' fun o e => k it (by simp) o e, st.2.at' fun o e => k l (by simp) o e⟩, fun j s Q E hj => absurd hj (Nat.not_lt_zero _), fun s Q E st q => nxB_end (show X.A.in1.handled = none from I.ok.hd hc) st.1 st.2 (by simp; omega) fun h' e a1 a2 => q h' e a1 a2⟩
      refine wpAny_pyNext_enum_endD d he ⟨h1, p⟩ fun h' k => ⟨rfl, I.turnedAll hf fun c o hb q => ?_⟩
      simp only [List.mem_cons, List.not_mem_nil, or_false, not_or] at hb
      exact k c o hb.2 q
  self := fun _ _ _ _ _ st h => by
    obtain ⟨⟨old, he⟩, _⟩ := st
    exact wpAny_pyIter_enum he h
def iEn (b : Bool) (K : W.Frag) (ta : TA) : TI := fun σ H R => ta σ H fun vs H1 => ∃ l, vs = [.ref l] /\ (∃ xs, SqB b K H1 l xs) /\ R (Itn b K l) H1
theorem pi_en (b : Bool) (K : W.Frag) {X : Cx} {a : Expr} {ta : TA} {p pos pos' : Pos} {elts : List Expr} {x1 : Nat} (hK : X.K = K) (hg : Gl X "enumerate") (hm : X.mg "enumerate" = none) (ha : PA X [a] ta) (hs : starEach [a] X.env = [(false, eval a X.env)] := by rfl) (hs2 : starEach ([] : List Expr) X.env = [] := by rfl) :
    PI X (.Tuple elts x1 pos') (.Call (.Name "enumerate" p) [a] [] pos) (iEn b K ta) := by
  subst hK
  intro pins s σ H R I h
  refine Call_ (ld_blt I hg hm boot_enumerate (PyProof.Rows.callWith_type1 (thn (ha pos pins s σ H _ I h) fun us s1 ⟨vs, H1, I1, r1, q1⟩ => ?_) (by rw [hs, hs2]) (by rw [hs2]; rfl)))
  obtain ⟨l, e, ⟨xs, q1⟩, q⟩ := q1
  subst e
  obtain ⟨u, rfl, ru⟩ := vals1 r1
  cases ru
  obtain ⟨its, rv, p, _⟩ := I1.sqB q1
  have lt1 : l < s1.heap.objs.size := p.lt
  refine en_call p fun h' z1 z2 k => ?_
  have I2 : Inv X pins σ H1 { s1 with heap := h' } := I1.kept (t' := s1.toks) k
  refine wpAny_pyIter_enum z1 ?_
  refine ⟨s1.heap.objs.size + 1, [s1.heap.objs.size + 1, s1.heap.objs.size], _, _, H1, rfl, I2, turn_en (b := b) (l := l) (e := s1.heap.objs.size + 1) (it := s1.heap.objs.size) (Nat.succ_ne_self _) (Nat.ne_of_lt (Nat.lt_succ_of_lt lt1)) (Nat.ne_of_lt lt1), ⟨⟨_, z1⟩, z2⟩, fun b hb => ?_, q⟩
  have hb' : s1.heap.objs.size <= b := by
    simp only [List.mem_cons, List.not_mem_nil, or_false] at hb
    rcases hb with rfl | rfl
    . exact Nat.le_succ _
    . exact Nat.le_refl _
  exact I1.fpOk hb' (I1.hok.fresh hb')
section
variable {b : Bool} {xs : List V} {K : W.Frag} {l : Addr} {fr : List Nat} {te : TE} {σ : St} {H1 : Hp} {p : Addr} {D : Hp -> Prop}
end
end L2
namespace L2
open PySem PySem.Spec PyProof.Rows
theorem fm_cong {α β : Type} {f g : α -> Option β} : ∀ {l : List α}, (∀ m ∈ l, f m = g m) -> l.filterMap f = l.filterMap g
  | [], _ => rfl
  | a :: r, h => by
    rw [List.filterMap_cons, List.filterMap_cons, h a List.mem_cons_self, fm_cong fun m hm => h m (List.mem_cons_of_mem _ hm)]
def picked (q : Nat -> Bool) (F : Nat -> V -> V) (xs : List V) (n : Nat) : List V := ((List.range n).filter q).filterMap fun i => (xs[i]?).map (F i)
theorem picked_len (q : Nat -> Bool) (F : Nat -> V -> V) (xs : List V) (n : Nat) : (picked q F xs n).length <= n := by
  unfold picked
  have h1 := List.length_filterMap_le (fun i => (xs[i]?).map (F i)) ((List.range n).filter q)
  have h2 := List.length_filter_le q (List.range n)
  rw [List.length_range] at h2
  omega
theorem picked_succ {q : Nat -> Bool} {F : Nat -> V -> V} {xs : List V} {n : Nat} {x : V} (h : xs[n]? = some x) : picked q F xs (n + 1) = picked q F xs n ++ (if q n = true then [F n x] else []) := by
  unfold picked
  rw [List.range_succ, List.filter_append, List.filterMap_append]
  congr 1
  cases e : q n with
  | true => simp [e, h]
  | false => simp [e]
theorem picked_int {q : Nat -> Bool} {xs : List V} : picked q (fun i _ => .int (i : Int)) xs xs.length = ((List.range xs.length).filter q).map fun (i : Nat) => V.int (i : Int) := by
  unfold picked
  rw [<- List.filterMap_eq_map]
  refine fm_cong fun i hi => ?_
  have : i < xs.length := List.mem_range.mp (List.mem_filter.mp hi).1
  rw [List.getElem?_eq_getElem this]; rfl
section
variable {b : Bool} {xs : List V} {K : W.Frag} {l : Addr} {fr : List Nat} {tc : TT} {te : TE} {σ : St} {H1 : Hp} {p : Addr} {D : Hp -> Prop}
theorem lc_enP (hl : SqB b K H1 l xs) (hp : H1 p = none) (hz : xs.length < sizeLine) (q : Nat -> Bool) (F : Nat -> V -> V)
    (test : ∀ (i : Nat) x H ys (N : Bool -> Hp -> Prop), xs[i]? = some x -> Same H1 H -> H p = some (.lst ys) -> (∀ H3, Same H H3 -> N (q i) H3) -> tc (((blkσ 2 fr σ).set 0 (some (.int (i : Int)))).set 1 (some x)) H N)
    (step : ∀ (i : Nat) x H (N : VK), xs[i]? = some x -> q i = true -> Same H1 H -> N (F i x) H -> te (((blkσ 2 fr σ).set 0 (some (.int (i : Int)))).set 1 (some x)) H N)
    (hd : ∀ H, Same H1 H -> H p = some (.lst (picked q F xs xs.length)) -> D H) : lcI 2 fr (gTup K 2 (gCons (gName 0) (gCons (gName 1) gNil))) tc te σ (Itn b K l) H1 p D := by
  refine ⟨fun i m ys H => m = xs.length - i /\ i <= xs.length /\ Same H1 H /\ H p = some (.lst ys) /\ ys = picked q F xs i, ⟨xs.length, by simp, Nat.zero_le _, Same.new hp _, upd_same, rfl⟩, ?_⟩
  rintro i m ys H ⟨rfl, hi, e, hH, rfl⟩
  by_cases hlt : i < xs.length
  . refine .inr ⟨⟨xs, xs[i], e.sqB hl, List.getElem?_eq_getElem hlt⟩, fun u H' y => ?_⟩
    obtain ⟨z, a, hz', rfl, rfl, hab⟩ := y
    have ha := hab xs (e.sqB hl)
    have s1 := Same.new hz' (.tup [.int (i : Int), a])
    refine ⟨z, _, rfl, SqT.of upd_same, rfl, _, _, rfl, _, _, rfl, rfl, ?_, ?_⟩
    . refine ⟨by simp, fun k w ek => ?_⟩
      have : ¬ k < 2 := fun hk => by
        unfold blkσ at ek
        rw [List.getElem?_append_left (by simpa using hk), List.getElem?_replicate] at ek
        split at ek <;> cases ek
      rw [List.getElem?_set_ne (by omega), List.getElem?_set_ne (by omega)]; exact ek
    . refine test i a _ _ _ ha (e.trans s1) (s1 _ _ hH) fun H3 s3 => ?_
      have hH3 := s3 _ _ (s1 _ _ hH)
      cases hq : q i with
      | false =>
        rw [if_neg Bool.false_ne_true]
        exact ⟨xs.length - (i + 1), by omega, rfl, hlt, e.trans (s1.trans s3), hH3, by rw [picked_succ ha, hq]; simp⟩
      | true =>
        rw [if_pos rfl]
        refine step i a _ _ ha hq (e.trans (s1.trans s3)) ⟨hH3, ?_, xs.length - (i + 1), by omega, rfl, hlt, (e.trans (s1.trans s3)).write hp, upd_same, by rw [picked_succ ha, hq]; simp⟩
        have := picked_len q F xs i
        omega
  . have : i = xs.length := by omega
    subst this
    exact .inl ⟨⟨xs, e.sqB hl, by omega⟩, hd H e hH⟩
end
end L2
namespace L2
open PySem
theorem sll_at (K : W.Frag) {X : Cx} (h : X.K = K) : SlR X (rSlL K) := by subst h; exact sl_list
theorem eqD_at (K : W.Frag) {X : Cx} {k : Nat} (h : X.K = K) (hr : Room k X.A) : OpR X (compareOp .Eq) (rEqD K) := by subst h; exact op_eqD hr
theorem cut_midL (xs : List V) (k : Nat) (h : k <= xs.length) (h1 : 1 <= xs.length) : cutV xs (some (k : Int)) (some (-1)) = (xs.drop k).take (xs.length - 1 - k) := by
  have e : HT.sIx xs.length xs.length (some (-1)) = xs.length - 1 := by
    show (if (-1 : Int) < 0 then ((-1 : Int) + (xs.length : Int)).toNat else min (-1 : Int).toNat xs.length) = _
    rw [if_pos (by decide)]; omega
  unfold cutV
  rw [e, HT.sIx_nat, Nat.min_eq_left h]
end L2
namespace Rim
open PySem L2 Fr
def topD (D L x : Int) : Int := (low x D).1 * (L / (low x D).2)
theorem topD_cross {D L x : Int} (hD : 0 < D) (h : (low x D).2 ∣ L) : topD D L x * D = x * L := by
  unfold topD
  obtain ⟨c, hc⟩ := h
  have h0 : (low x D).2 ≠ 0 := by have := low_pos (t := x) hD; omega
  have e : L / (low x D).2 = c := by rw [hc]; exact Int.mul_ediv_cancel_left c h0
  rw [e, Int.mul_right_comm, low_cross hD, hc, Int.mul_assoc]
theorem topD_big {D L x : Int} {n : Nat} (hD : 0 < D) (hL : 0 < L) (hLD : L <= D) (h : (low x D).2 ∣ L) (hx : Big n x) : Big n (topD D L x) := by
  have e := topD_cross (x := x) hD h
  have e1 : (topD D L x).natAbs * D.natAbs = x.natAbs * L.natAbs := by rw [<- Int.natAbs_mul, <- Int.natAbs_mul, e]
  have e2 : x.natAbs * L.natAbs <= x.natAbs * D.natAbs := Nat.mul_le_mul_left _ (by omega)
  rw [<- e1] at e2
  have e3 := Nat.le_of_mul_le_mul_right e2 (by omega)
  unfold Big at *
  omega
theorem topD_nn {D L x : Int} (hD : 0 < D) (hL : 0 < L) (hx : 0 <= x) : 0 <= topD D L x := Int.mul_nonneg (low_nn hD hx) (Int.ediv_nonneg (Int.le_of_lt hL) (Int.le_of_lt (low_pos hD)))
theorem dot_top {D L : Int} (hD : 0 < D) : ∀ (ns xs : List Int), (∀ x ∈ xs, (low x D).2 ∣ L) -> (List.zipWith (· * ·) ns (xs.map (topD D L))).sum * D = (List.zipWith (· * ·) ns xs).sum * L
  | [], _, _ => by simp
  | _ :: _, [], _ => by simp
  | a :: ns, x :: xs, h => by
    rw [List.map_cons, List.zipWith_cons_cons, List.zipWith_cons_cons, List.sum_cons, List.sum_cons, Int.add_mul, Int.add_mul, dot_top hD ns xs fun y hy => h y (List.mem_cons_of_mem _ hy), Int.mul_assoc, topD_cross hD (h x List.mem_cons_self), Int.mul_assoc]
section
variable {P : Program} {w : World} {K : W.Frag} {mg : Str -> Option Value} {base : Heap} {f : Addr} {fd : FuncData} {n : Nat}
theorem wk_set2 {n : Nat} {fr : List Nat} {σ : St} {i j : Nat} {v u : V} (hi : i < n) (hj : j < n) : Wk (blkσ n fr σ) (((blkσ n fr σ).set i (some v)).set j (some u)) := by
  refine ⟨by simp, fun k w e => ?_⟩
  have : ¬ k < n := fun hk => by
    unfold blkσ at e
    rw [List.getElem?_append_left (by simpa using hk), List.getElem?_replicate] at e
    split at e <;> cases e
  rw [List.getElem?_set_ne (by omega), List.getElem?_set_ne (by omega)]; exact e
def spOverD (K : W.Frag) : Sp := fun vs H Q _ => ∃ (a : Addr) (ys : List V) (xs : List Int) (D : Int), vs = [.ref a] /\ SqL K H a ys /\ FrsV K H ys xs D /\ xs.length <= 100 /\ (∀ x ∈ xs, Big 20000 x) /\ 0 < D /\ D < 2 ^ 8000 ∧
  ∀ (r tl : Addr) (H' : Hp) (L : Int), Same H H' -> H' r = some (.tup [.ref tl, .int L]) -> H' tl = some (.lst ((xs.map (topD D L)).map V.int)) -> 0 < L -> L ∣ D -> (∀ x ∈ xs, (low x D).2 ∣ L) -> Q (.ref r) H'
theorem scOver : FnScope ["ones", "shared", "top", "bottom"] ["ones"] (defScope s_over_one_bottom) := ⟨rfl, rfl, rfl, by decide +kernel, rfl, by decide +kernel, by decide +kernel⟩
theorem ndOver : (["top", "bottom", "shared"] : List Str).Nodup := by decide +kernel
set_option maxHeartbeats 2000000 in
theorem ok_over {fa : Addr} {da : FuncData} (F : Fun K "over_one_bottom" "over_one_bottom" s_over_one_bottom f fd) (C : Cal P w K mg base n "common_divisor" ["one", "other"] spDiv fa da) : FnOk P w K mg base CX0 (n + 1) f fd ["ones"] (spOverD K) := by
  refine F.ok scOver (fun vs H Q E h => ?_) (fun cdv A outer s H vs Q E hr h => ?_)
  . obtain ⟨a, ys, xs, D, rfl, _⟩ := h
    rfl
  obtain ⟨a, ys, xs, D, rfl, hS, hF, hl100, hbig, hD, hD8, q⟩ := h
  refine ⟨_, pss_cons (ps_set (i := 1) scOver.nd rfl (Or.inr rfl) pe_int)
    (pss_cons (ps_for PassesOwn.never rfl (pi_list (pv 0)) (pg_tup rfl (pgs_cons (pg_name (i := 2) scOver.nd rfl (Or.inl rfl)) (pgs_cons (pg_name (i := 3) scOver.nd rfl (Or.inl rfl)) pgs_nil)))
      (pss_one (ps_set (i := 1) scOver.nd rfl (Or.inr rfl) (pe_op op_mulB (pe_op op_fdivL (pv 1) (pe_call C.ok hr rfl C.m C.k C.b .nil pass0 (pa_cons (pv 1) (pa_cons (pv 3) pa_nil)))) (pv 3)))))
    (pss_one (ps_ret (pe_tup (pa_cons (pe_lc ["top", "bottom"] [1] rfl (pi_list (pv 0)) (fun _ _ _ _ => pgt_at K (n := 2) rfl rfl (pgs_cons (pg_name (i := 0) ndOver rfl (Or.inl rfl)) (pgs_cons (pg_name (i := 1) ndOver rfl (Or.inl rfl)) pgs_nil))) (fun _ _ _ _ => pe_op op_mulB (pv 0) (pe_op op_fdivL (pv 2) (pv 1)))) (pa_cons (pv 1) pa_nil)))))), ?_⟩
  have xl : ys.length = xs.length := hF.1
  have b8 : ∀ {x : Int}, 0 < x -> x <= D -> Big 1000000 x := fun h1 h2 => (big_pos (n := 8000) (Int.le_of_lt h1) (Int.lt_of_le_of_lt h2 hD8)).mono (by decide)
  refine ⟨_, rfl, a, rfl, ⟨_, hS⟩, ?_⟩
  refine for_list (xs := ys) (fun i σ H' => ∃ (L : Int) (o2 o3 : Option V), σ = [some (.ref a), some (.int L), o2, o3] /\ H' = H /\ 0 < L /\ L ∣ D /\ ∀ j x, j < i -> xs[j]? = some x -> (low x D).2 ∣ L)
    ⟨1, _, _, rfl, rfl, by decide, ⟨D, (Int.one_mul D).symm⟩, fun j x hj => absurd hj (Nat.not_lt_zero _)⟩ (fun i σ H' _ ⟨_, _, _, _, e, _⟩ => by rw [e]; exact hS) ?_ ?_
  . rintro i y σ H' hy ⟨L, o2, o3, rfl, rfl, hL, hLD, hdv⟩
    have hil : i < xs.length := by rw [<- xl]; exact (List.getElem?_eq_some_iff.mp hy).1
    have hxi : xs[i]? = some (xs.getD i 0) := by rw [List.getD_eq_getElem?_getD, List.getElem?_eq_getElem hil]; rfl
    obtain ⟨b, rfl, hb⟩ := hF.2 i y hy
    generalize xs.getD i 0 = x at *
    have hq := low_pos (t := x) hD
    have hqd := low_dvd (x := x) hD
    generalize hfe : low x D = fq at *
    have hqD := Int.le_of_dvd hD hqd
    have hg := gI_pos (a := L) hq
    have hgq := gI_le (a := L) hq
    obtain ⟨d1, d2⟩ := div_pos_of_dvd hL hg (gI_dvd_left L fq.2)
    have hLd : L / gI L fq.2 <= L := by
      have := le_mul_pos d1 hg
      rw [Int.mul_comm, d2] at this
      exact this
    refine ⟨b, _, rfl, hb, rfl, _, _, rfl, _, _, rfl, rfl, ?_⟩
    refine ⟨_, rfl, _, rfl, _, rfl, L, fq.2, rfl, Int.le_of_lt hq, _, _, rfl, rfl, ⟨hg, Int.lt_of_le_of_lt hgq (Int.lt_of_le_of_lt hqD hD8)⟩, _, rfl, _, _, rfl, rfl, ⟨b8 d1 (Int.le_trans hLd (Int.le_of_dvd hD hLD)), b8 hq hqD⟩, ?_⟩
    refine ⟨_, _, _, rfl, rfl, Int.mul_pos d1 hq, lcm_dvd' hL hq hLD hqd, fun j y hj hy' => ?_⟩
    by_cases hji : j < i
    . have h1 := hdv j y hji hy'
      have e : L / gI L fq.2 * fq.2 = L * (fq.2 / gI L fq.2) := by
        obtain ⟨_, d4⟩ := div_pos_of_dvd hq hg (gI_dvd_right L fq.2)
        calc L / gI L fq.2 * fq.2 = L / gI L fq.2 * (gI L fq.2 * (fq.2 / gI L fq.2)) := by rw [d4]
          _ = (gI L fq.2 * (L / gI L fq.2)) * (fq.2 / gI L fq.2) := by ac_rfl
          _ = L * (fq.2 / gI L fq.2) := by rw [d2]
      show (low y D).2 ∣ L / gI L fq.2 * fq.2
      rw [e]
      exact Int.dvd_mul_of_dvd_left h1
    . have : j = i := by omega
      subst this
      rw [hxi] at hy'
      cases hy'
      rw [hfe]
      exact Int.dvd_mul_of_dvd_right (Int.dvd_refl _)
  . rintro σ H' ⟨L, o2, o3, rfl, rfl, hL, hLD, hdv⟩
    have hdiv : ∀ x ∈ xs, (low x D).2 ∣ L := fun y hy => by
      obtain ⟨j, hj, rfl⟩ := List.getElem_of_mem hy
      exact hdv j _ (by omega) (List.getElem?_eq_getElem hj)
    have hLe := Int.le_of_dvd hD hLD
    refine ⟨_, rfl, a, rfl, ⟨_, hS⟩, fun p hp => ?_⟩
    refine lc_same (itIs_list hS) hp (small1000 (by omega)) (fun i y _ => ∃ x, xs[i]? = some x /\ y = .int (topD D L x)) (fun _ _ _ _ r _ => r) (fun i y H2 zs N hy e hp' hN => ?_) (fun zs H2 e hp' len pr => ?_)
    . have hil : i < xs.length := by rw [<- xl]; exact (List.getElem?_eq_some_iff.mp hy).1
      have hxi : xs[i]? = some (xs.getD i 0) := by rw [List.getD_eq_getElem?_getD, List.getElem?_eq_getElem hil]; rfl
      obtain ⟨b, rfl, hb⟩ := hF.2 i y hy
      have hbx := hbig _ (List.mem_of_getElem? hxi)
      have hdx := hdiv _ (List.mem_of_getElem? hxi)
      generalize xs.getD i 0 = x at *
      have hq := low_pos (t := x) hD
      have hqD := low_le (t := x) hD
      obtain ⟨d1, d2⟩ := div_pos_of_dvd hL hq hdx
      have hLd : L / (low x D).2 <= L := by
        have := le_mul_pos d1 hq
        rw [Int.mul_comm, d2] at this
        exact this
      refine ⟨b, _, rfl, e.tseq hb, rfl, _, _, rfl, _, _, rfl, rfl, wk_set2 (by decide) (by decide), ?_⟩
      refine ⟨_, rfl, _, rfl, _, rfl, _, _, rfl, rfl, ⟨hq, Int.lt_of_le_of_lt hqD hD8⟩, _, _, rfl, rfl, ⟨(low_big hD hbx).mono (by decide), b8 d1 (Int.le_trans hLd hLe)⟩, ?_⟩
      exact hN _ _ (Same.refl _) ⟨x, hxi, rfl⟩
    . have ey : zs = (xs.map (topD D L)).map V.int := by
        refine List.ext_getElem? fun i => ?_
        by_cases hi : i < zs.length
        . obtain ⟨x, z1, z2⟩ := pr i _ (List.getElem?_eq_getElem hi)
          rw [List.getElem?_eq_getElem hi, z2, List.getElem?_map, List.getElem?_map, z1]; rfl
        . rw [List.getElem?_eq_none (by omega), List.getElem?_eq_none (by rw [List.length_map, List.length_map]; omega)]
      rw [ey] at hp'
      refine ⟨_, rfl, (by show 2 <= sizeLine; decide), fun r hr2 => ?_⟩
      have f2 := Same.new hr2 (.tup [V.ref p, V.int L])
      exact q r p _ L (e.trans f2) upd_same (f2 _ _ hp') hL hLD hdiv
def spComeB (K : W.Frag) : Sp := fun vs H Q _ => ∃ (b1 b2 : Bool) (a t : Addr) (xs ys : List Int), vs = [.ref a, .ref t] /\ SqB b1 K H a (xs.map V.int) /\ SqB b2 K H t (ys.map V.int) /\ xs.length <= 1000 /\ (∀ x ∈ xs, Big 100000 x) /\ (∀ y ∈ ys, Big 100000 y) /\ ∀ H', Same H H' -> Q (.int (List.zipWith (· * ·) xs ys).sum) H'
theorem scCtB : FnScope ["amounts", "tops"] ["amounts", "tops"] (defScope sComeTo) := ⟨rfl, rfl, rfl, by decide +kernel, rfl, by decide +kernel, by decide +kernel⟩
theorem ndCtB : (["amount", "top"] : List Str).Nodup := by decide +kernel
theorem ok_comeB (F : Fun K "come_to" "come_to" sComeTo f fd) (N : Nones mg) : FnOk P w K mg base CX0 (n + 1) f fd ["amounts", "tops"] (spComeB K) := by
  refine F.ok scCtB (fun vs H Q E h => ?_) (fun cdv A outer s H vs Q E hr h => ?_)
  . obtain ⟨b1, b2, a, t, xs, ys, rfl, _⟩ := h
    rfl
  obtain ⟨b1, b2, a, t, xs, ys, rfl, ha, ht, hl, hx, hy, k⟩ := h
  refine ⟨_, pss_one (ps_ret (pe_callB (call_sum rfl) rfl N.sum PyProof.Rows.boot_sum (pa_cons (pe_lc ["amount", "top"] [] rfl (pi_any fun b1 => pi_any fun b2 => pi_zg b1 b2 K rfl rfl N.zip (pa_cons (pv 0) (pa_cons (pv 1) pa_nil)))
    (fun _ _ _ _ => pgt_at K (n := 2) rfl rfl (pgs_cons (pg_name (i := 0) ndCtB rfl (Or.inl rfl)) (pgs_cons (pg_name (i := 1) ndCtB rfl (Or.inl rfl)) pgs_nil))) (fun _ _ _ _ => pe_op op_mulB (pv 0) (pv 1))) pa_nil))), ?_⟩
  refine ⟨b1, b2, _, rfl, _, rfl, a, t, rfl, ⟨_, ha⟩, ⟨_, ht⟩, fun l hl' => ?_⟩
  refine lc_zg ha ht hl' (by rw [List.length_map]; exact small1000 hl) (fun u v => .int (vI u * vI v)) (fun i u v H' N' hu hv e hN => ?_) (fun H' e hH => ?_)
  . obtain ⟨x, rfl, hxm⟩ := map_mem hu
    obtain ⟨y, rfl, hym⟩ := map_mem hv
    exact ⟨_, rfl, _, rfl, _, _, rfl, rfl, ⟨(hx _ hxm).mono (by decide), (hy _ hym).mono (by decide)⟩, hN⟩
  . rw [zw_ints _ (· * ·) (fun _ _ => rfl)] at hH
    exact ⟨l, _, rfl, .inl (SqL.of hH), k H' e⟩
structure OneB (pt pg : List Int) (ps D L : Int) : Prop where
  l : 0 < L
  d : L ∣ D
  t : ∀ x ∈ pt, (low x D).2 ∣ L
  g : ∀ x ∈ pg, (low x D).2 ∣ L
  s : (low ps D).2 ∣ L
def spWorths (K : W.Frag) : Sp := fun vs H Q _ => ∃ (ba t : Addr) (xs : List V) (hs : List House) (pt pg : List Int) (ps D far : Int) (kt kg : Nat), vs = [.ref ba, .ref t] /\ SqL K H ba xs /\ Bk K H xs hs /\ hs.length <= 100 /\ (∀ h ∈ hs, HG far kt kg h) /\ far <= 2 ^ 60 /\ kt <= 20 /\ kg <= 20 /\ PrA H t pt pg ps D /\ PrN pt pg ps D kt kg ∧
  ∀ (r pl gl : Addr) (L : Int) (H' : Hp), Same H H' -> OneB pt pg ps D L -> H' r = some (.tup [.ref pl, .ref gl, .int (topD D L ps), .int L]) -> H' pl = some (.lst ((hs.map fun h => (List.zipWith (· * ·) h.1 (pt.map (topD D L))).sum).map V.int)) →
    H' gl = some (.lst ((hs.map fun h => (List.zipWith (· * ·) h.2 (pg.map (topD D L))).sum).map V.int)) -> Q (.ref r) H'
theorem scWo' : FnScope ["book", "prices", "for_takes", "for_gives", "for_size", "tops", "bottom", "many", "paid", "given"] ["book", "prices"] (defScope s_worths) := ⟨rfl, rfl, rfl, by decide +kernel, rfl, by decide +kernel, by decide +kernel⟩
theorem ndWo' : (["takes", "gives", "tops", "many"] : List Str).Nodup := by decide +kernel
set_option maxHeartbeats 4000000 in
noncomputable def worT {cdv : Value} {A : Around} {outer : List Env} {s : Shared} {H : Hp} {E : XK} {fa fb : Addr} {da db : FuncData} (T : Nones mg) (Co : SCal P w K mg base n "over_one_bottom" ["ones"] (spOverD K) fa da) (Cc : SCal P w K mg base n "come_to" ["amounts", "tops"] (spComeB K) fb db)
    (hr : Room n (A.deeper (PyProof.Rows.envOfC "worths" (defScope s_worths) s.heap.objs.size f cdv))) :
    { t : TS // PSs (cxOf CX0 P w K mg base ["book", "prices", "for_takes", "for_gives", "for_size", "tops", "bottom", "many", "paid", "given"] "worths" (defScope s_worths) f cdv A outer s H E).nox (defBody s_worths) t } :=
  ⟨_, pss_cons (ps_asg (pv 1) (pg_tup rfl (pgs_cons (pg_name (i := 2) scWo'.nd rfl (Or.inl rfl)) (pgs_cons (pg_name (i := 3) scWo'.nd rfl (Or.inl rfl)) (pgs_cons (pg_name (i := 4) scWo'.nd rfl (Or.inl rfl)) pgs_nil)))))
    (pss_cons (ps_asg (pe_call Co.ok hr rfl Co.m Co.k Co.b .nil pass0 (pa_cons (pe_op op_cat (pe_op op_cat (pv 2) (pv 3)) (pe_lst (pa_cons (pv 4) pa_nil))) pa_nil)) (pg_tup rfl (pgs_cons (pg_name (i := 5) scWo'.nd rfl (Or.inr rfl)) (pgs_cons (pg_name (i := 6) scWo'.nd rfl (Or.inl rfl)) pgs_nil))))
    (pss_cut (ps_set (i := 7) scWo'.nd rfl (Or.inr rfl) (pe_callB call_len_seq rfl T.len PySem.boot_len (pa_cons (pv 2) pa_nil)))
    (pss_cut (ps_lc (i := 8) ["takes", "gives"] [5, 7] scWo'.nd rfl rfl rfl (pi_list (pv 0)) (fun _ _ _ _ => pgt_at K (n := 2) rfl rfl (pgs_cons (pg_name (i := 0) ndWo' rfl (Or.inl rfl)) (pgs_cons (pg_name (i := 1) ndWo' rfl (Or.inl rfl)) pgs_nil)))
      (fun _ _ _ _ => pe_call Cc.ok hr rfl Cc.m Cc.k Cc.b .nil pass0 (pa_cons (pv 0) (pa_cons (pe_slice (sll_at K rfl) (pv 2) po_none (po_some (pv 3))) pa_nil))))
    (pss_cut (ps_lc (i := 9) ["takes", "gives"] [5, 7] scWo'.nd rfl rfl rfl (pi_list (pv 0)) (fun _ _ _ _ => pgt_at K (n := 2) rfl rfl (pgs_cons (pg_name (i := 0) ndWo' rfl (Or.inl rfl)) (pgs_cons (pg_name (i := 1) ndWo' rfl (Or.inl rfl)) pgs_nil)))
      (fun _ _ _ _ => pe_call Cc.ok hr rfl Cc.m Cc.k Cc.b .nil pass0 (pa_cons (pv 1) (pa_cons (pe_slice (sll_at K rfl) (pv 2) (po_some (pv 3)) (po_some (pe_un un_neg pe_int))) pa_nil))))
    (pss_one (ps_ret (pe_tup (pa_cons (pv 8) (pa_cons (pv 9) (pa_cons (pe_ix ix_list (pv 5) (pe_un un_neg pe_int) (fun _ _ => rfl)) (pa_cons (pv 6) pa_nil)))))))))))⟩
end
end Rim
namespace Rim
open PySem L2 Fr
section
variable {P : Program} {w : World} {K : W.Frag} {mg : Str -> Option Value} {base : Heap} {f : Addr} {fd : FuncData} {n : Nat}
theorem FrsAt.cat {H : Hp} {ys zs : List V} {xs ws : List Int} {D : Int} (a : FrsAt H ys xs D) (b : FrsAt H zs ws D) : FrsAt H (ys ++ zs) (xs ++ ws) D := by
  refine ⟨by simp [a.1, b.1], fun i y hy => ?_⟩
  rw [getD_app]
  by_cases hi : i < ys.length
  . rw [List.getElem?_append_left hi] at hy
    rw [if_pos (by rw [<- a.1]; exact hi)]
    exact a.2 i y hy
  . rw [List.getElem?_append_right (by omega)] at hy
    rw [if_neg (by rw [<- a.1]; exact hi), <- a.1]
    exact b.2 _ y hy
set_option maxHeartbeats 8000000 in
theorem ok_worths {fa fb : Addr} {da db : FuncData} (F : Fun K "worths" "worths" s_worths f fd) (T : Nones mg) (Co : SCal P w K mg base n "over_one_bottom" ["ones"] (spOverD K) fa da) (Cc : SCal P w K mg base n "come_to" ["amounts", "tops"] (spComeB K) fb db) :
    FnOk P w K mg base CX0 (n + 1) f fd ["book", "prices"] (spWorths K) := by
  refine F.ok scWo' (fun vs H Q E h => ?_) (fun cdv A outer s H vs Q E hr h => ?_)
  . obtain ⟨ba, t, xs, hs, pt, pg, ps, D, far, kt, kg, rfl, _⟩ := h
    rfl
  obtain ⟨ba, t, xs, hs, pt, pg, ps, D, far, kt, kg, rfl, hS, hB, few, hG, hfar, hkt, hkg, ⟨fa', ga', u, fts, gts, h1, h2, h3, h4, h5, h6⟩, hN, q⟩ := h
  refine ⟨_, (worT T Co Cc hr).2, ?_⟩
  have xl : xs.length = hs.length := Paired.length hB
  have s1k := small1000 (show (1000 : Nat) <= 1000 from Nat.le_refl _)
  have D8 : D < 2 ^ 8000 := Int.lt_trans hN.d2 (by exact_mod_cast Nat.pow_lt_pow_right (show 1 < 2 by decide) (show 4000 < 8000 by decide))
  have lft : fts.length = kt := by rw [h3.1, hN.lt]
  have lgt : gts.length = kg := by rw [h5.1, hN.lg]
  refine ⟨_, rfl, t, _, rfl, SqT.of h1, rfl, _, _, rfl, _, _, rfl, _, _, rfl, rfl, ?_⟩
  refine ⟨_, rfl, _, rfl, fa', ga', fts, gts, rfl, rfl, h2, h4, by omega, fun p1 k1 => ?_⟩
  have s1 := Same.new k1 (.lst (fts ++ gts))
  refine ⟨_, rfl, (by show 1 <= sizeLine; decide), fun p2 k2 => ?_⟩
  have s2 := Same.new k2 (.lst [u])
  refine ⟨p1, p2, _, _, rfl, rfl, s2 _ _ upd_same, upd_same, by simp; omega, fun p3 k3 => ?_⟩
  have s3 := Same.new k3 (.lst ((fts ++ gts) ++ [u]))
  have s123 := s1.trans (s2.trans s3)
  have hF : FrsAt H ((fts ++ gts) ++ [u]) ((pt ++ pg) ++ [ps]) D := (h3.cat h5).snoc h6
  refine ⟨p3, _, (pt ++ pg) ++ [ps], D, rfl, SqL.of upd_same, (hF.same s123).v, by simp [hN.lt, hN.lg]; omega, fun x hx => ?_, hN.d, D8, fun r tl H1 L e1 hr1 htl hL hLD hdiv => ?_⟩
  . rcases List.mem_append.mp hx with hx | hx
    . rcases List.mem_append.mp hx with hx | hx
      . exact (hN.bt x hx).2.mono (by decide)
      . exact (hN.bg x hx).2.mono (by decide)
    . rw [List.mem_singleton.mp hx]; exact hN.bs.mono (by decide)
  have e01 := s123.trans e1
  have OB : OneB pt pg ps D L := ⟨hL, hLD, fun x hx => hdiv x (List.mem_append_left _ (List.mem_append_left _ hx)), fun x hx => hdiv x (List.mem_append_left _ (List.mem_append_right _ hx)), hdiv ps (List.mem_append_right _ (List.mem_singleton.mpr rfl))⟩
  have hLe := Int.le_of_dvd hN.d hLD
  have etl : ((((pt ++ pg) ++ [ps]).map (topD D L)).map V.int) = ((pt.map (topD D L)).map V.int ++ (pg.map (topD D L)).map V.int) ++ [V.int (topD D L ps)] := by simp
  rw [etl] at htl
  refine ⟨r, _, rfl, SqT.of hr1, rfl, _, _, rfl, _, _, rfl, rfl, ?_⟩
  generalize hpt' : (pt.map (topD D L)) = pt' at *
  generalize hpg' : (pg.map (topD D L)) = pg' at *
  have lp' : pt'.length = kt := by rw [<- hpt', List.length_map, hN.lt]
  have lg' : pg'.length = kg := by rw [<- hpg', List.length_map, hN.lg]
  have bpt : ∀ x ∈ pt', Big 100000 x := fun x hx => by
    rw [<- hpt'] at hx
    obtain ⟨y, hy, rfl⟩ := List.mem_map.mp hx
    exact (topD_big hN.d hL hLe (OB.t y hy) (hN.bt y hy).2).mono (by decide)
  have bpg : ∀ x ∈ pg', Big 100000 x := fun x hx => by
    rw [<- hpg'] at hx
    obtain ⟨y, hy, rfl⟩ := List.mem_map.mp hx
    exact (topD_big hN.d hL hLe (OB.g y hy) (hN.bg y hy).2).mono (by decide)
  generalize hps' : topD D L ps = ps' at *
  -- many
  refine ⟨fun σ' H' => σ' = [some (.ref ba), some (.ref t), some (.ref fa'), some (.ref ga'), some u, some (.ref tl), some (.int L), some (.int (kt : Int)), none, none] /\ H1 = H', ?_, ?_⟩
  . refine ⟨_, rfl, fa', _, rfl, .inl (SqL.of (e01 _ _ h2)), ?_⟩
    rw [lft]
    exact ⟨rfl, rfl⟩
  rintro _ _ ⟨rfl, rfl⟩
  have hS1 := e01.seq hS
  have hB1 := Bk.same e01 hB
  have cT : ∀ a : List V, cutV (((pt'.map V.int ++ pg'.map V.int) ++ [V.int ps'])) none (some (kt : Int)) = pt'.map V.int := fun _ => by
    rw [cut_to _ kt (by simp; omega), List.append_assoc, List.take_left' (by simp [lp'])]
  have cG : cutV (((pt'.map V.int ++ pg'.map V.int) ++ [V.int ps'])) (some (kt : Int)) (some (-1)) = pg'.map V.int := by
    rw [cut_midL _ kt (by simp; omega) (by simp; omega), List.append_assoc, List.drop_left' (by simp [lp'])]
    rw [List.take_left' (by simp; omega)]
  -- paid
  refine ⟨fun σ' H' => ∃ pl : Addr, σ' = [some (.ref ba), some (.ref t), some (.ref fa'), some (.ref ga'), some u, some (.ref tl), some (.int L), some (.int (kt : Int)), some (.ref pl), none] /\ Same H1 H' /\ H' pl = some (.lst ((hs.map fun h => (List.zipWith (· * ·) h.1 pt').sum).map V.int)), ?_, ?_⟩
  . refine ⟨_, rfl, ba, rfl, ⟨_, hS1⟩, fun p hp => ?_⟩
    refine lc_same (itIs_list hS1) hp (small1000 (by omega)) (fun i y _ => ∃ h, hs[i]? = some h /\ y = .int (List.zipWith (· * ·) h.1 pt').sum) (fun _ _ _ _ r _ => r) (fun i y H2 zs N hy e hp' hNN => ?_) (fun zs H2 e hp' len pr => ?_)
    . obtain ⟨h, hh, ⟨a, ta, gb, rfl, q0, q1, q2⟩⟩ := Paired.at hB1 hy
      have gh := hG h (List.mem_of_getElem? hh)
      refine ⟨a, _, rfl, e.tseq q0, rfl, _, _, rfl, _, _, rfl, rfl, wk_set2 (by decide) (by decide), ?_⟩
      refine ⟨_, rfl, _, rfl, _, rfl, _, rfl, tl, _, rfl, SqL.of (e _ _ htl), fun p4 k4 => ?_⟩
      rw [cT []]
      refine ⟨false, true, ta, p4, h.1, pt', rfl, ((e.trans (Same.new k4 _)).tseq q1 : SqT K _ _ _), SqL.of upd_same, by rw [gh.lt]; omega, fun x hx => (hg_big gh hfar 0 x hx).mono (by decide), bpt, fun H3 e3 => ?_⟩
      exact hNN _ _ ((Same.new k4 _).trans e3) ⟨h, hh, rfl⟩
    . have ez : zs = (hs.map fun h => (List.zipWith (· * ·) h.1 pt').sum).map V.int := by
        refine List.ext_getElem? fun i => ?_
        by_cases hi : i < zs.length
        . obtain ⟨x, z1, z2⟩ := pr i _ (List.getElem?_eq_getElem hi)
          rw [List.getElem?_eq_getElem hi, z2, List.getElem?_map, List.getElem?_map, z1]; rfl
        . rw [List.getElem?_eq_none (by omega), List.getElem?_eq_none (by rw [List.length_map, List.length_map]; omega)]
      rw [ez] at hp'
      exact ⟨p, rfl, e, hp'⟩
  intro σ2 H2 hM_; refine gen2 fun G_ hG_ => ?_; obtain ⟨pl, rfl, e2, hpl⟩ := hM_; subst hG_
  have hS2 := e2.seq hS1
  have hB2 := Bk.same e2 hB1
  have htl2 := e2 _ _ htl
  -- given
  refine ⟨fun σ' H' => ∃ gl : Addr, σ' = [some (.ref ba), some (.ref t), some (.ref fa'), some (.ref ga'), some u, some (.ref tl), some (.int L), some (.int (kt : Int)), some (.ref pl), some (.ref gl)] /\ Same H2 H' /\ H' gl = some (.lst ((hs.map fun h => (List.zipWith (· * ·) h.2 pg').sum).map V.int)), ?_, ?_⟩
  . refine ⟨_, rfl, ba, rfl, ⟨_, hS2⟩, fun p hp => ?_⟩
    refine lc_same (itIs_list hS2) hp (small1000 (by omega)) (fun i y _ => ∃ h, hs[i]? = some h /\ y = .int (List.zipWith (· * ·) h.2 pg').sum) (fun _ _ _ _ r _ => r) (fun i y H3 zs N hy e hp' hNN => ?_) (fun zs H3 e hp' len pr => ?_)
    . obtain ⟨h, hh, ⟨a, ta, gb, rfl, q0, q1, q2⟩⟩ := Paired.at hB2 hy
      have gh := hG h (List.mem_of_getElem? hh)
      refine ⟨a, _, rfl, e.tseq q0, rfl, _, _, rfl, _, _, rfl, rfl, wk_set2 (by decide) (by decide), ?_⟩
      refine ⟨_, rfl, _, rfl, _, rfl, _, rfl, _, rfl, _, rfl, tl, _, rfl, SqL.of (e _ _ htl2), fun p4 k4 => ?_⟩
      rw [cG]
      refine ⟨false, true, gb, p4, h.2, pg', rfl, ((e.trans (Same.new k4 _)).tseq q2 : SqT K _ _ _), SqL.of upd_same, by rw [gh.lg]; omega, fun x hx => (hg_big gh hfar 1 x hx).mono (by decide), bpg, fun H3 e3 => ?_⟩
      exact hNN _ _ ((Same.new k4 _).trans e3) ⟨h, hh, rfl⟩
    . have ez : zs = (hs.map fun h => (List.zipWith (· * ·) h.2 pg').sum).map V.int := by
        refine List.ext_getElem? fun i => ?_
        by_cases hi : i < zs.length
        . obtain ⟨x, z1, z2⟩ := pr i _ (List.getElem?_eq_getElem hi)
          rw [List.getElem?_eq_getElem hi, z2, List.getElem?_map, List.getElem?_map, z1]; rfl
        . rw [List.getElem?_eq_none (by omega), List.getElem?_eq_none (by rw [List.length_map, List.length_map]; omega)]
      rw [ez] at hp'
      exact ⟨p, rfl, e, hp'⟩
  intro σ3 H3 hM_; refine gen2 fun G_ hG_ => ?_; obtain ⟨gl, rfl, e3, hgl⟩ := hM_; subst hG_
  have htl3 := e3 _ _ htl2
  refine ⟨_, rfl, _, rfl, _, rfl, _, rfl, tl, _, -1, _, rfl, rfl, SqL.of htl3, atI_last _ _, _, rfl, (by show 4 <= sizeLine; decide), fun r' hr' => ?_⟩
  have s4 := Same.new hr' (.tup [V.ref pl, V.ref gl, V.int ps', V.int L])
  subst hpt' hpg' hps'
  exact q r' pl gl L _ (e01.trans (e2.trans (e3.trans s4))) OB upd_same (s4 _ _ (e3 _ _ hpl)) (s4 _ _ hgl)
def jud (pt pg : List Int) (ps : Int) (h : House) : Option Q2 := if pay h pt = 0 then none else some (low (earn h pg ps) (pay h pt))
def JV (H : Hp) (v : V) : Option Q2 -> Prop
  | none => v = .non
  | some x => FrT H v x
theorem JV.same {H H' : Hp} {v : V} {o : Option Q2} (e : Same H H') (h : JV H v o) : JV H' v o := by
  cases o with
  | none => exact h
  | some x => exact FrT.same e h
theorem pay_nn {far : Int} {kt kg : Nat} {h : House} {pt : List Int} (g : HG far kt kg h) (hp : ∀ x ∈ pt, 0 <= x) : 0 <= pay h pt := by
  unfold pay
  have : ∀ (a b : List Int), (∀ x ∈ a, 0 <= x) -> (∀ x ∈ b, 0 <= x) -> 0 <= (List.zipWith (· * ·) a b).sum := by
    intro a
    induction a with
    | nil => intro b _ _; simp
    | cons x a ih =>
      intro b h1 h2
      cases b with
      | nil => simp
      | cons y b =>
        rw [List.zipWith_cons_cons, List.sum_cons]
        exact Int.add_nonneg (Int.mul_nonneg (h1 x List.mem_cons_self) (h2 y List.mem_cons_self)) (ih b (fun z hz => h1 z (List.mem_cons_of_mem _ hz)) fun z hz => h2 z (List.mem_cons_of_mem _ hz))
  exact this _ _ (fun x hx => by have := (g.t x hx).1; omega) hp
theorem jud_canon {far : Int} {kt kg : Nat} {h : House} {pt pg : List Int} {ps : Int} (g : HG far kt kg h) (hp : ∀ x ∈ pt, 0 <= x) {x : Q2} (e : jud pt pg ps h = some x) : Canon x := by
  unfold jud at e
  split at e
  . cases e
  . rename_i hne
    cases e
    have := pay_nn g hp
    exact low_canon (by omega)
theorem jud_top {far : Int} {kt kg : Nat} {h : House} {pt pg : List Int} {ps D L : Int} (g : HG far kt kg h) (hN : PrN pt pg ps D kt kg) (OB : OneB pt pg ps D L) :
    jud (pt.map (topD D L)) (pg.map (topD D L)) (topD D L ps) h = jud pt pg ps h := by
  have e1 : pay h (pt.map (topD D L)) * D = pay h pt * L := dot_top hN.d _ _ OB.t
  have e2 : earn h (pg.map (topD D L)) (topD D L ps) * D = earn h pg ps * L := by
    unfold earn
    rw [Int.add_mul, Int.add_mul, dot_top hN.d _ _ OB.g, topD_cross hN.d OB.s]
  have n1 := pay_nn g fun x hx => (hN.bt x hx).1
  have n2 : 0 <= pay h (pt.map (topD D L)) := pay_nn g fun x hx => by
    obtain ⟨y, hy, rfl⟩ := List.mem_map.mp hx
    exact topD_nn hN.d OB.l (hN.bt y hy).1
  have hD := hN.d
  have hL := OB.l
  unfold jud
  generalize pay h (pt.map (topD D L)) = p' at *
  generalize pay h pt = p at *
  generalize earn h (pg.map (topD D L)) (topD D L ps) = a' at *
  generalize earn h pg ps = a at *
  by_cases hp : p = 0
  . have : p' = 0 := by
      rw [hp, Int.zero_mul] at e1
      rcases Int.mul_eq_zero.mp e1 with z | z
      . exact z
      . omega
    rw [if_pos hp, if_pos this]
  . have : p' ≠ 0 := fun z => by
      rw [z, Int.zero_mul] at e1
      rcases Int.mul_eq_zero.mp e1.symm with z | z
      . exact hp z
      . omega
    rw [if_neg hp, if_neg this]
    congr 1
    refine low_eq (by omega) (by omega) ?_
    have : D * L ≠ 0 := Int.ne_of_gt (Int.mul_pos hD hL)
    refine Int.eq_of_mul_eq_mul_right this ?_
    calc a' * p * (D * L) = (a' * D) * (p * L) := by ac_rfl
      _ = (a * L) * (p' * D) := by rw [e2, e1]
      _ = a * p' * (D * L) := by ac_rfl
def spJudged (K : W.Frag) : Sp := fun vs H Q _ => ∃ (ba t : Addr) (xs : List V) (hs : List House) (pt pg : List Int) (ps D far : Int) (kt kg : Nat), vs = [.ref ba, .ref t] /\ SqL K H ba xs /\ Bk K H xs hs /\ hs.length <= 100 /\ (∀ h ∈ hs, HG far kt kg h) /\ far <= 2 ^ 60 /\ kt <= 20 /\ kg <= 20 /\ PrA H t pt pg ps D /\ PrN pt pg ps D kt kg ∧
  ∀ (l : Addr) (ys : List V) (H' : Hp), Same H H' -> H l = none -> H' l = some (.lst ys) -> PySem.Paired (JV H') ys (hs.map (jud pt pg ps)) -> Q (.ref l) H'
theorem scJu : FnScope ["book", "prices", "paid", "given", "size", "bottom"] ["book", "prices"] (defScope s_judged) := ⟨rfl, rfl, rfl, by decide +kernel, rfl, by decide +kernel, by decide +kernel⟩
theorem ndJu : (["pays", "gives", "size"] : List Str).Nodup := by decide +kernel
set_option maxHeartbeats 4000000 in
noncomputable def judT {cdv : Value} {A : Around} {outer : List Env} {s : Shared} {H : Hp} {E : XK} {fa fb : Addr} {da db : FuncData} (T : Nones mg) (Cw : SCal P w K mg base n "worths" ["book", "prices"] (spWorths K) fa da) (Cl : Cal P w K mg base n "lowest" ["top", "bottom"] spLow fb db)
    (hr : Room n (A.deeper (PyProof.Rows.envOfC "judged" (defScope s_judged) s.heap.objs.size f cdv))) :
    { t : TS // PSs (cxOf CX0 P w K mg base ["book", "prices", "paid", "given", "size", "bottom"] "judged" (defScope s_judged) f cdv A outer s H E).nox (defBody s_judged) t } :=
  ⟨_, pss_cons (ps_asg (pe_call Cw.ok hr rfl Cw.m Cw.k Cw.b .nil pass0 (pa_cons (pv 0) (pa_cons (pv 1) pa_nil))) (pg_tup rfl (pgs_cons (pg_name (i := 2) scJu.nd rfl (Or.inl rfl)) (pgs_cons (pg_name (i := 3) scJu.nd rfl (Or.inl rfl)) (pgs_cons (pg_name (i := 4) scJu.nd rfl (Or.inr rfl)) (pgs_cons (pg_name (i := 5) scJu.nd rfl (Or.inl rfl)) pgs_nil))))))
    (pss_one (ps_ret (pe_lc ["pays", "gives"] [4] rfl (pi_zg true true K rfl rfl T.zip (pa_cons (pv 2) (pa_cons (pv 3) pa_nil))) (fun _ _ _ _ => pgt_at K (n := 2) rfl rfl (pgs_cons (pg_name (i := 0) ndJu rfl (Or.inl rfl)) (pgs_cons (pg_name (i := 1) ndJu rfl (Or.inl rfl)) pgs_nil)))
      (fun _ _ _ _ => pe_ifExp (pt_cmpR op_eq (pv 0) pe_int (nomark _)) pe_non (pe_call Cl.ok hr rfl Cl.m Cl.k Cl.b .nil pass0 (pa_cons (pe_op op_add (pv 1) (pv 2)) (pa_cons (pv 0) pa_nil)))))))⟩
set_option maxHeartbeats 8000000 in
theorem ok_judged {fa fb : Addr} {da db : FuncData} (F : Fun K "judged" "judged" s_judged f fd) (T : Nones mg) (Cw : SCal P w K mg base n "worths" ["book", "prices"] (spWorths K) fa da) (Cl : Cal P w K mg base n "lowest" ["top", "bottom"] spLow fb db) :
    FnOk P w K mg base CX0 (n + 1) f fd ["book", "prices"] (spJudged K) := by
  refine F.ok scJu (fun vs H Q E h => ?_) (fun cdv A outer s H vs Q E hr h => ?_)
  . obtain ⟨ba, t, xs, hs, pt, pg, ps, D, far, kt, kg, rfl, _⟩ := h
    rfl
  obtain ⟨ba, t, xs, hs, pt, pg, ps, D, far, kt, kg, rfl, hS, hB, few, hG, hfar, hkt, hkg, hP, hN, q⟩ := h
  refine ⟨_, (judT T Cw Cl hr).2, ?_⟩
  refine ⟨_, rfl, _, rfl, ba, t, xs, hs, pt, pg, ps, D, far, kt, kg, rfl, hS, hB, few, hG, hfar, hkt, hkg, hP, hN, fun r pl gl L H1 e1 OB hr1 hpl hgl => ?_⟩
  refine ⟨r, _, rfl, SqT.of hr1, rfl, _, _, rfl, _, _, rfl, _, _, rfl, _, _, rfl, rfl, ?_⟩
  refine ⟨_, rfl, _, rfl, pl, gl, rfl, ⟨_, SqL.of hpl⟩, ⟨_, SqL.of hgl⟩, fun p hp => ?_⟩
  have hLe := Int.le_of_dvd hN.d OB.d
  have hpH : H p = none := by
    cases e : H p with
    | none => rfl
    | some o => rw [e1 _ _ e] at hp; cases hp
  refine lc_zgS (b1 := true) (b2 := true) (SqL.of hpl) (SqL.of hgl) hp (small1000 (by simp; omega)) (fun i y H' => ∃ h, hs[i]? = some h /\ JV H' y (jud pt pg ps h) /\ y ≠ .ref p) (fun i y Ha Hb ⟨h, h1, h2, h3⟩ st => ?_) ?_ ?_
  . refine ⟨h, h1, ?_, h3⟩
    cases o : jud pt pg ps h with
    | none => rw [o] at h2; exact h2
    | some x =>
      rw [o] at h2
      obtain ⟨a, rfl, ha⟩ := h2
      exact ⟨a, rfl, st a _ (fun z => h3 (by rw [z])) ha⟩
  . intro i x y H2 zs N hx hy e hp' hNN
    have hil : i < hs.length := by
      have := (List.getElem?_eq_some_iff.mp hx).1
      simpa using this
    obtain ⟨h, hh⟩ : ∃ h, hs[i]? = some h := ⟨_, List.getElem?_eq_getElem hil⟩
    have gh := hG h (List.mem_of_getElem? hh)
    rw [List.getElem?_map, List.getElem?_map, hh] at hx hy
    cases hx
    cases hy
    have JT := jud_top (pt := pt) (pg := pg) (ps := ps) gh hN OB
    have ep : (List.zipWith (· * ·) h.1 (pt.map (topD D L))).sum = pay h (pt.map (topD D L)) := rfl
    have eg : (List.zipWith (· * ·) h.2 (pg.map (topD D L))).sum + topD D L ps = earn h (pg.map (topD D L)) (topD D L ps) := rfl
    have nn : 0 <= pay h (pt.map (topD D L)) := pay_nn gh fun x hx => by
      obtain ⟨y, hy, rfl⟩ := List.mem_map.mp hx
      exact topD_nn hN.d OB.l (hN.bt y hy).1
    have bP : Big 7000 (pay h (pt.map (topD D L))) := (sum_big (zw_big (a := 100) (b := 5001) (hg_big gh hfar 0) (fun x hx => by
      obtain ⟨y, hy, rfl⟩ := List.mem_map.mp hx
      exact (topD_big hN.d OB.l hLe (OB.t y hy) (hN.bt y hy).2).mono (by decide))) (by
        have := gh.lt
        have : (sideJ 0 h).length = kt := this
        rw [List.length_zipWith]; omega)).mono (by decide)
    refine ⟨_, rfl, rfl, _, rfl, ite2 (fun c => ?_) (fun c => ?_)⟩
    . have c' : pay h (pt.map (topD D L)) = 0 := by
        have := of_decide_eq_true c
        exact V.int.inj this
      refine hNN _ _ (Same.refl _) ⟨h, hh, ?_, nofun⟩
      rw [<- JT]
      unfold jud
      rw [if_pos c']
      exact rfl
    . have c' : pay h (pt.map (topD D L)) ≠ 0 := fun z => c (decide_eq_true (show V.int (pay h (pt.map (topD D L))) = V.int 0 by rw [z]))
      refine ⟨_, rfl, _, rfl, _, _, rfl, rfl, _, rfl, _, _, rfl, ?_, ?_, fun v H3 e3 hv => ?_⟩
      . show 0 < pay h (pt.map (topD D L)); omega
      . show pay h (pt.map (topD D L)) < 2 ^ 8000; exact Int.lt_trans (show _ < (2 : Int) ^ 7000 by have := bP; unfold Big at this; generalize hz : (2 : Nat) ^ 7000 = z at this; have e : ((2 : Int) ^ 7000) = (z : Int) := by rw [<- hz]; norm_cast
                                                                                                    rw [e]; omega) (by exact_mod_cast Nat.pow_lt_pow_right (show 1 < 2 by decide) (show 7000 < 8000 by decide))
      . refine hNN _ _ e3 ⟨h, hh, ?_, fun z => ?_⟩
        . rw [<- JT]
          unfold jud
          rw [if_neg c']
          exact hv
        . obtain ⟨a, ha1, ha2⟩ := hv
          rw [z] at ha1
          cases ha1
          rw [e3 _ _ hp'] at ha2
          cases ha2
  . intro zs H2 e hp' len pr
    refine q p zs H2 (e1.trans e) hpH hp' ?_
    have len' : zs.length = hs.length := by rw [len]; simp
    clear len
    have : ∀ (zs : List V) (gs : List House), zs.length = gs.length -> (∀ (i : Nat) (z : V), zs[i]? = some z -> ∃ h, gs[i]? = some h /\ JV H2 z (jud pt pg ps h) /\ z ≠ .ref p) -> PySem.Paired (JV H2) zs (gs.map (jud pt pg ps)) := by
      intro zs
      induction zs with
      | nil => intro gs hl _; cases gs with
        | nil => exact .nil
        | cons _ _ => simp at hl
      | cons z zs ih =>
        intro gs hl hq
        cases gs with
        | nil => simp at hl
        | cons g gs =>
          obtain ⟨h, h1, h2, _⟩ := hq 0 z rfl
          cases h1
          exact .cons h2 (ih gs (by simpa using hl) fun i z hz => hq (i + 1) z hz)
    exact this zs hs len' pr
end
end Rim
namespace Rim
open PySem L2 Fr
section
variable {P : Program} {w : World} {K : W.Frag} {mg : Str -> Option Value} {base : Heap} {f : Addr} {fd : FuncData} {n : Nat}
theorem eqv_F' (x y : Q2) : PyData.eqv (dF x) (dF y) = decide (x = y) := by
  unfold dF
  rw [PyData.eqv, PyData.eqvAll, PyData.eqvAll, PyData.eqvAll, PyData.eqv, PyData.eqv, Bool.and_true]
  obtain ⟨a, b⟩ := x
  obtain ⟨c, d⟩ := y
  by_cases h1 : a = c
  . by_cases h2 : b = d
    . subst h1 h2; simp
    . simp [h1, h2]
  . simp [h1]
def cmpG (x y : Q2) : Int := if x.1 * y.2 < y.1 * x.2 then -1 else if x.1 * y.2 > y.1 * x.2 then 1 else 0
def spCmpG (K : W.Frag) : Sp := fun vs H Q _ => ∃ (u v : V) (x y : Q2), vs = [u, v] /\ FrV K H u x /\ FrV K H v y /\ (Big 1000000 x.1 /\ Big 1000000 x.2 /\ Big 1000000 y.1 /\ Big 1000000 y.2) /\ Q (.int (cmpG x y)) H
theorem scCmp : FnScope ["one", "other", "left", "right"] ["one", "other"] (defScope s_compared) := ⟨rfl, rfl, rfl, by decide +kernel, rfl, by decide +kernel, by decide +kernel⟩
theorem ok_cmpG (F : Fun K "compared" "compared" s_compared f fd) : FnOk P w K mg base CX0 (n + 1) f fd ["one", "other"] (spCmpG K) := by
  refine F.ok scCmp (fun vs H Q E h => ?_) (fun cdv A outer s H vs Q E hr h => ?_)
  . obtain ⟨u, v, x, y, rfl, _⟩ := h
    rfl
  obtain ⟨u, v, x, y, rfl, ⟨a, rfl, ha⟩, ⟨b, rfl, hb⟩, ⟨b1, b2, b3, b4⟩, q⟩ := h
  refine ⟨_, pss_cons (ps_set (i := 2) scCmp.nd rfl (Or.inl rfl) (pe_op op_mulB (pe_ix ix_tup (pv 0) pe_int (fun _ _ => rfl)) (pe_ix ix_tup (pv 1) pe_int (fun _ _ => rfl))))
    (pss_cons (ps_set (i := 3) scCmp.nd rfl (Or.inl rfl) (pe_op op_mulB (pe_ix ix_tup (pv 1) pe_int (fun _ _ => rfl)) (pe_ix ix_tup (pv 0) pe_int (fun _ _ => rfl))))
    (pss_cons (ps_if (pt_cmpR op_lt (pv 2) (pv 3) (nomark _)) (pss_one (ps_ret (pe_un un_neg pe_int))) pss_nil)
    (pss_cons (ps_if (pt_cmpR op_gt (pv 2) (pv 3) (nomark _)) (pss_one (ps_ret pe_int)) pss_nil)
    (pss_one (ps_ret pe_int))))), ?_⟩
  refine ⟨_, rfl, a, _, 0, _, rfl, rfl, ha, pair0 _ _, _, rfl, b, _, 1, _, rfl, rfl, hb, pair1 _ _, _, _, rfl, rfl, ⟨b1, b4⟩, ?_⟩
  refine ⟨_, rfl, b, _, 0, _, rfl, rfl, hb, pair0 _ _, _, rfl, a, _, 1, _, rfl, rfl, ha, pair1 _ _, _, _, rfl, rfl, ⟨b3, b2⟩, ?_⟩
  unfold cmpG at q
  refine ⟨_, rfl, _, rfl, _, _, rfl, rfl, _, rfl, ?_⟩
  refine ite2 (fun c => ?_) (fun c => ?_)
  . rw [if_pos (of_decide_eq_true c)] at q
    exact ⟨_, rfl, q⟩
  have c' := of_decide_eq_false (Bool.eq_false_iff.mpr c)
  rw [if_neg c'] at q
  refine ⟨_, rfl, _, rfl, _, _, rfl, rfl, _, rfl, ?_⟩
  refine ite2 (fun d => ?_) (fun d => ?_)
  . rw [if_pos (of_decide_eq_true d)] at q
    exact q
  . rw [if_neg (of_decide_eq_false (Bool.eq_false_iff.mpr d))] at q
    exact q
def ltQ (x y : Q2) : Bool := decide (x.1 * y.2 < y.1 * x.2)
def bestQ (js : List (Option Q2)) (i : Nat) : Bool :=
  match js[i]? with
  | some (some x) => js.all fun o => match o with
    | some y => !ltQ x y
    | none => true
  | _ => false
structure IsBest (l : List (Option Q2)) (o : Option Q2) : Prop where
  n : o = none -> ∀ y, some y ∉ l
  m : ∀ b, o = some b -> some b ∈ l /\ ∀ y, some y ∈ l -> ltQ b y = false
theorem lt_tr {x y z : Q2} (hx : 0 < x.2) (hy : 0 < y.2) (hz : 0 < z.2) (h1 : x.1 * y.2 < y.1 * x.2) (h2 : ¬ z.1 * y.2 < y.1 * z.2) : x.1 * z.2 < z.1 * x.2 := by
  have a1 : x.1 * y.2 * z.2 < y.1 * x.2 * z.2 := Int.mul_lt_mul_of_pos_right h1 hz
  have a2 : y.1 * z.2 * x.2 <= z.1 * y.2 * x.2 := Int.mul_le_mul_of_nonneg_right (Int.not_lt.mp h2) (Int.le_of_lt hx)
  have a3 : (x.1 * z.2) * y.2 < (z.1 * x.2) * y.2 := by
    calc (x.1 * z.2) * y.2 = x.1 * y.2 * z.2 := by ac_rfl
      _ < y.1 * x.2 * z.2 := a1
      _ = y.1 * z.2 * x.2 := by ac_rfl
      _ <= z.1 * y.2 * x.2 := a2
      _ = (z.1 * x.2) * y.2 := by ac_rfl
  exact Int.lt_of_mul_lt_mul_right a3 (Int.le_of_lt hy)
def nextB : Option Q2 -> Option Q2 -> Option Q2
  | none, o => o
  | some a, none => some a
  | some a, some b => if cmpG a b > 0 then some a else some b
theorem IsBest.step {l : List (Option Q2)} {o : Option Q2} (h : IsBest l o) (x : Option Q2) (hc : ∀ y, some y ∈ l ++ [x] -> Canon y) :
    IsBest (l ++ [x]) (nextB x o) := by
  cases x with
  | none =>
    exact ⟨fun e y hy => by
      rcases List.mem_append.mp hy with z | z
      . exact h.n e y z
      . simp at z, fun b e => ⟨List.mem_append_left _ (h.m b e).1, fun y hy => by
      rcases List.mem_append.mp hy with z | z
      . exact (h.m b e).2 y z
      . simp at z⟩⟩
  | some a =>
    have ca := (hc a (by simp)).1
    cases o with
    | none =>
      refine ⟨fun e => (nomatch e), fun b e => ?_⟩
      cases e
      refine ⟨by simp, fun y hy => ?_⟩
      rcases List.mem_append.mp hy with z | z
      . exact absurd z (h.n rfl y)
      . cases List.mem_singleton.mp z
        unfold ltQ; exact decide_eq_false (Int.lt_irrefl _)
    | some b =>
      have cb := (hc b (List.mem_append_left _ (h.m b rfl).1)).1
      have gt : cmpG a b > 0 ↔ b.1 * a.2 < a.1 * b.2 := by
        unfold cmpG
        by_cases c : a.1 * b.2 < b.1 * a.2
        . rw [if_pos c]; exact ⟨fun z => absurd z (by decide), fun z => by omega⟩
        . rw [if_neg c]
          by_cases d : a.1 * b.2 > b.1 * a.2
          . rw [if_pos d]; exact ⟨fun _ => d, fun _ => by decide⟩
          . rw [if_neg d]; exact ⟨fun z => absurd z (by decide), fun z => by omega⟩
      show IsBest (l ++ [some a]) (if cmpG a b > 0 then some a else some b)
      by_cases c : cmpG a b > 0
      . rw [if_pos c]
        refine ⟨fun e => (nomatch e), fun b' e => ?_⟩
        cases e
        refine ⟨by simp, fun y hy => ?_⟩
        have cy := (hc y hy).1
        rcases List.mem_append.mp hy with z | z
        . have h2 := of_decide_eq_false ((h.m b rfl).2 y z)
          refine decide_eq_false fun h3 => ?_
          have := lt_tr cb ca cy (gt.mp c) (by omega)
          omega
        . cases List.mem_singleton.mp z
          exact decide_eq_false (Int.lt_irrefl _)
      . rw [if_neg c]
        refine ⟨fun e => (nomatch e), fun b' e => ?_⟩
        cases e
        refine ⟨List.mem_append_left _ (h.m b rfl).1, fun y hy => ?_⟩
        rcases List.mem_append.mp hy with z | z
        . exact (h.m b rfl).2 y z
        . cases List.mem_singleton.mp z
          exact decide_eq_false fun z => c (gt.mpr z)
theorem best_is {js : List (Option Q2)} {o : Option Q2} (h : IsBest js o) (hc : ∀ y, some y ∈ js -> Canon y) {i : Nat} {x : Q2} (hx : js[i]? = some (some x)) : bestQ js i = decide (some x = o) := by
  have mx := List.mem_of_getElem? hx
  have e : bestQ js i = js.all fun o => match o with
    | some y => !ltQ x y
    | none => true := by unfold bestQ; rw [hx]
  rw [e]
  cases o with
  | none => exact absurd mx (h.n rfl x)
  | some b =>
    obtain ⟨mb, hb⟩ := h.m b rfl
    by_cases c : x = b
    . subst c
      rw [decide_eq_true rfl]
      refine List.all_eq_true.mpr fun o ho => ?_
      cases o with
      | none => rfl
      | some y => show (!ltQ x y) = true; rw [hb y ho]; rfl
    . rw [decide_eq_false (fun z => c (Option.some.inj z))]
      refine Bool.eq_false_iff.mpr fun z => ?_
      have h1 := List.all_eq_true.mp z (some b) mb
      have h1 : (!ltQ x b) = true := h1
      have h2 := hb x mx
      have h3 : ltQ x b = false := by cases q : ltQ x b with
        | false => rfl
        | true => rw [q] at h1; cases h1
      have h2' := of_decide_eq_false h2
      have h3' := of_decide_eq_false h3
      exact c (canon_unique (hc x mx) (hc b mb) (by omega))
def spBest (K : W.Frag) : Sp := fun vs H Q _ => ∃ (ba t : Addr) (xs : List V) (hs : List House) (pt pg : List Int) (ps D far : Int) (kt kg : Nat), vs = [.ref ba, .ref t] /\ SqL K H ba xs /\ Bk K H xs hs /\ hs.length <= 100 /\ (∀ h ∈ hs, HG far kt kg h) /\ far <= 2 ^ 60 /\ kt <= 20 /\ kg <= 20 /\ PrA H t pt pg ps D /\ PrN pt pg ps D kt kg ∧
  ∀ (l : Addr) (H' : Hp), Same H H' -> H l = none -> H' l = some (.lst (((List.range hs.length).filter (bestQ (hs.map (jud pt pg ps)))).map fun (i : Nat) => V.int (i : Int))) -> Q (.ref l) H'
theorem scBe : FnScope ["book", "prices", "told", "best", "one"] ["book", "prices"] (defScope s_best_at) := ⟨rfl, rfl, rfl, by decide +kernel, rfl, by decide +kernel, by decide +kernel⟩
theorem ndBe : (["number", "one", "best"] : List Str).Nodup := by decide +kernel
theorem jud_bigs {far : Int} {kt kg : Nat} {h : House} {pt pg : List Int} {ps D : Int} (gh : HG far kt kg h) (hfar : far <= 2 ^ 60) (hkt : kt <= 20) (hkg : kg <= 20) (hN : PrN pt pg ps D kt kg) {x : Q2} (e : jud pt pg ps h = some x) : Big 1000000 x.1 /\ Big 1000000 x.2 := by
  unfold jud at e
  split at e
  . cases e
  . rename_i hne
    cases e
    have n0 := pay_nn gh fun x hx => (hN.bt x hx).1
    have hp : 0 < pay h pt := by omega
    have bP : Big 7000 (pay h pt) := (sum_big (zw_big (a := 100) (b := 5000) (hg_big gh hfar 0) fun x hx => (hN.bt x hx).2) (by
      have : (sideJ 0 h).length = kt := gh.lt
      rw [List.length_zipWith]; omega)).mono (by decide)
    have bG : Big 7000 (List.zipWith (· * ·) h.2 pg).sum := (sum_big (zw_big (a := 100) (b := 5000) (hg_big gh hfar 1) fun x hx => (hN.bg x hx).2) (by
      have : (sideJ 1 h).length = kg := gh.lg
      rw [List.length_zipWith]; omega)).mono (by decide)
    have bE : Big 7001 (earn h pg ps) := Big.add bG (hN.bs.mono (by decide))
    refine ⟨(low_big hp bE).mono (by decide), ?_⟩
    have := low_le (t := earn h pg ps) hp
    exact (big_pos (n := 7000) (Int.le_of_lt (low_pos hp)) (Int.lt_of_le_of_lt this (Rim.Big.lt bP))).mono (by decide)
set_option maxHeartbeats 4000000 in
noncomputable def besT {cdv : Value} {A : Around} {outer : List Env} {s : Shared} {H : Hp} {E : XK} {fa fb : Addr} {da db : FuncData} (T : Nones mg) (Cj : SCal P w K mg base n "judged" ["book", "prices"] (spJudged K) fa da) (Cc : SCal P w K mg base n "compared" ["one", "other"] (spCmpG K) fb db)
    (hr : Room n (A.deeper (PyProof.Rows.envOfC "best_at" (defScope s_best_at) s.heap.objs.size f cdv))) :
    { t : TS // PSs (cxOf CX0 P w K mg base ["book", "prices", "told", "best", "one"] "best_at" (defScope s_best_at) f cdv A outer s H E).nox (defBody s_best_at) t } :=
  ⟨_, pss_cons (ps_set (i := 2) scBe.nd rfl (Or.inl rfl) (pe_call Cj.ok hr rfl Cj.m Cj.k Cj.b .nil pass0 (pa_cons (pv 0) (pa_cons (pv 1) pa_nil))))
    (pss_cons (ps_set (i := 3) scBe.nd rfl (Or.inr rfl) pe_non)
    (pss_cons (ps_for PassesOwn.never rfl (pi_list (pv 2)) (pg_name (i := 4) scBe.nd rfl (Or.inl rfl))
      (pss_one (ps_if (PW.pt (pw_and (pt_cmpR op_notN (pv 4) pe_non (nomark _)) (pw_and1 (PW.pt (pw_or (pt_cmpR op_isN (pv 3) pe_non (nomark _)) (pw_or1 (pt_cmpR op_gt (pe_call Cc.ok hr rfl Cc.m Cc.k Cc.b .nil pass0 (pa_cons (pv 4) (pa_cons (pv 3) pa_nil))) pe_int (nomark _))))))))
        (pss_one (ps_set (i := 3) scBe.nd rfl (Or.inr rfl) (pv 4))) pss_nil)))
    (pss_one (ps_ret (pe_lcI ["number", "one"] [3] rfl (pi_en true K rfl rfl T.enum (pa_cons (pv 2) pa_nil)) (fun _ _ _ _ => pgt_at K (n := 2) rfl rfl (pgs_cons (pg_name (i := 0) ndBe rfl (Or.inl rfl)) (pgs_cons (pg_name (i := 1) ndBe rfl (Or.inl rfl)) pgs_nil)))
      (fun _ _ _ _ => PW.pt (pw_and (pt_cmpR op_notN (pv 1) pe_non (nomark _)) (pw_and1 (pt_cmpR (eqD_at K rfl hr) (pv 1) (pv 2) (nomark _)))))
      (fun _ _ _ _ => pv 0))))))⟩
set_option maxHeartbeats 8000000 in
theorem ok_best {fa fb : Addr} {da db : FuncData} (F : Fun K "best_at" "best_at" s_best_at f fd) (T : Nones mg) (Cj : SCal P w K mg base n "judged" ["book", "prices"] (spJudged K) fa da) (Cc : SCal P w K mg base n "compared" ["one", "other"] (spCmpG K) fb db) :
    FnOk P w K mg base CX0 (n + 1) f fd ["book", "prices"] (spBest K) := by
  refine F.ok scBe (fun vs H Q E h => ?_) (fun cdv A outer s H vs Q E hr h => ?_)
  . obtain ⟨ba, t, xs, hs, pt, pg, ps, D, far, kt, kg, rfl, _⟩ := h
    rfl
  obtain ⟨ba, t, xs, hs, pt, pg, ps, D, far, kt, kg, rfl, hS, hB, few, hG, hfar, hkt, hkg, hP, hN, q⟩ := h
  refine ⟨_, (besT T Cj Cc hr).2, ?_⟩
  refine ⟨_, rfl, _, rfl, ba, t, xs, hs, pt, pg, ps, D, far, kt, kg, rfl, hS, hB, few, hG, hfar, hkt, hkg, hP, hN, fun l ys H1 e1 hl0 hl1 hJ => ?_⟩
  have yl : ys.length = hs.length := by rw [Paired.length hJ, List.length_map]
  have hJ' := hJ
  generalize hjs : hs.map (jud pt pg ps) = js at *
  have canJ : ∀ y, some y ∈ js -> Canon y := fun y hy => by
    rw [<- hjs] at hy
    obtain ⟨h, hm, e⟩ := List.mem_map.mp hy
    exact jud_canon (hG h hm) (fun x hx => (hN.bt x hx).1) e
  have bigJ : ∀ y, some y ∈ js -> Big 1000000 y.1 /\ Big 1000000 y.2 := fun y hy => by
    rw [<- hjs] at hy
    obtain ⟨h, hm, e⟩ := List.mem_map.mp hy
    exact jud_bigs (hG h hm) hfar hkt hkg hN e
  refine ⟨_, rfl, l, rfl, ⟨_, SqL.of hl1⟩, ?_⟩
  refine for_list (xs := ys) (fun i σ H' => ∃ (bv : V) (o4 : Option V) (o : Option Q2), σ = [some (.ref ba), some (.ref t), some (.ref l), some bv, o4] /\ H1 = H' /\ JV H1 bv o /\ IsBest (js.take i) o)
    ⟨.non, _, none, rfl, rfl, rfl, ⟨fun _ y hy => by simp at hy, fun b e => (nomatch e)⟩⟩ (fun i σ H' _ ⟨_, _, _, _, e, _⟩ => by rw [<- e]; exact SqL.of hl1) ?_ ?_
  . rintro i y σ H' hy ⟨bv, o4, o, rfl, rfl, hbv, hbest⟩
    obtain ⟨j, hj, hv⟩ := Paired.at hJ hy
    have mj := List.mem_of_getElem? hj
    have tk : js.take (i + 1) = js.take i ++ [j] := by rw [List.take_succ, hj]; rfl
    have st := hbest.step j (fun y hy => by
      rcases List.mem_append.mp hy with z | z
      . exact canJ y (List.mem_of_mem_take z)
      . exact canJ y ((List.mem_singleton.mp z) ▸ mj))
    rw [<- tk] at st
    refine ⟨_, rfl, rfl, _, rfl, ?_⟩
    cases j with
    | none =>
      have hv' : y = .non := hv
      subst hv'
      refine ite2 (fun c => absurd c (by decide)) (fun _ => iteF ?_)
      exact ⟨_, _, _, rfl, rfl, hbv, st⟩
    | some x =>
      have hvx : FrT H1 y x := hv
      have yn : y ≠ .non := fun z => by
        obtain ⟨a, ha, _⟩ := hvx
        rw [ha] at z; cases z
      refine ite2 (fun _ => ?_) (fun c => absurd (show (!decide (y = V.non)) = true by rw [decide_eq_false yn]; rfl) c)
      refine ⟨_, rfl, rfl, _, rfl, ?_⟩
      cases o with
      | none =>
        have hb' : bv = .non := hbv
        subst hb'
        refine ite2 (fun _ => ?_) (fun c => absurd (show (decide (V.non = V.non)) = true by decide) c)
        exact iteT ⟨_, rfl, _, _, _, rfl, rfl, hv, st⟩
      | some b =>
        have hbx : FrT H1 bv b := hbv
        have bn : bv ≠ .non := fun z => by
          obtain ⟨a, ha, _⟩ := hbx
          rw [ha] at z; cases z
        refine ite2 (fun c => absurd (of_decide_eq_true c) bn) (fun _ => ?_)
        have mb := List.mem_of_mem_take (hbest.m b rfl).1
        refine ⟨_, rfl, _, rfl, y, bv, x, b, rfl, hvx.v, hbx.v, ⟨(bigJ x mj).1, (bigJ x mj).2, (bigJ b mb).1, (bigJ b mb).2⟩, ?_⟩
        have st' : IsBest (js.take (i + 1)) (if cmpG x b > 0 then some x else some b) := st
        refine ⟨_, _, rfl, rfl, _, rfl, ?_⟩
        refine ite2 (fun c => ?_) (fun c => ?_)
        . have c' : cmpG x b > 0 := of_decide_eq_true c
          rw [if_pos c'] at st'
          exact ⟨_, rfl, _, _, _, rfl, rfl, hv, st'⟩
        . have c' : ¬ cmpG x b > 0 := of_decide_eq_false (Bool.eq_false_iff.mpr c)
          rw [if_neg c'] at st'
          exact ⟨_, _, _, rfl, rfl, hbv, st'⟩
  . rintro σ H' ⟨bv, o4, o, rfl, rfl, hbv, hbest⟩
    rw [List.take_of_length_le (by rw [<- hjs, List.length_map]; omega)] at hbest
    refine ⟨_, rfl, l, rfl, ⟨_, SqL.of hl1⟩, fun p hp => ?_⟩
    have hpH : H p = none := by
      cases e : H p with
      | none => rfl
      | some o => rw [e1 _ _ e] at hp; cases hp
    refine lc_enP (b := true) (SqL.of hl1) hp (small1000 (by omega)) (bestQ js) (fun i _ => .int (i : Int)) (fun i y H2 zs N hy e hp' hNN => ?_) (fun i y H2 N hy hq e hNN => ⟨_, rfl, hNN⟩) (fun H2 e hp' => ?_)
    . obtain ⟨j, hj, hv⟩ := Paired.at hJ hy
      refine ⟨_, rfl, rfl, _, rfl, ?_⟩
      cases j with
      | none =>
        have hv' : y = .non := hv
        subst hv'
        refine ite2 (fun c => absurd c (by decide)) (fun _ => ?_)
        have : bestQ js i = false := by unfold bestQ; rw [hj]
        rw [<- this]
        exact hNN _ (Same.refl _)
      | some x =>
        have hvx : FrT H1 y x := hv
        have yn : y ≠ .non := fun z => by
          obtain ⟨a, ha, _⟩ := hvx
          rw [ha] at z; cases z
        refine ite2 (fun _ => ?_) (fun c => absurd (show (!decide (y = V.non)) = true by rw [decide_eq_false yn]; rfl) c)
        have bq := best_is hbest canJ hj
        cases o with
        | none => exact absurd (List.mem_of_getElem? hj) (hbest.n rfl x)
        | some b =>
          have hbx : FrT H1 bv b := hbv
          refine ⟨_, rfl, _, rfl, dF x, dF b, FrV.dp ((hvx.same e).v), FrV.dp ((hbx.same e).v), lay_F _, lay_F _, Nat.le_trans (Nat.min_le_left _ _) (dep_F _), _, rfl, ?_⟩
          have : PyData.eqv (dF x) (dF b) = bestQ js i := by
            rw [eqv_F', bq]
            exact decide_eq_decide.mpr ⟨fun z => by rw [z], fun z => Option.some.inj z⟩
          rw [this]
          exact hNN _ (Same.refl _)
    . rw [picked_int, yl] at hp'
      exact q p H2 (e1.trans e) hpH hp'
end
end Rim
namespace Rim
open PySem L2 Fr
section
variable {P : Program} {w : World} {K : W.Frag} {mg : Str -> Option Value} {base : Heap} {f : Addr} {fd : FuncData} {n : Nat}
theorem scLess20 : FnScope ["one", "other"] ["one", "other"] (defScope s__law_less) := ⟨rfl, rfl, rfl, by decide +kernel, rfl, by decide +kernel, by decide +kernel⟩
theorem ok_less20 (F : Fun K "_law_less" "_law_less" s__law_less f fd) : FnOk P w K mg base CX0 (n + 1) f fd ["one", "other"] (spLess K) := by
  refine F.ok scLess20 (fun vs H Q E h => ?_) (fun cdv A outer s H vs Q E hr h => ?_)
  . obtain ⟨u, v, x, y, rfl, _⟩ := h
    rfl
  obtain ⟨u, v, x, y, rfl, ⟨a, rfl, ha⟩, ⟨b, rfl, hb⟩, ⟨b1, b2, b3, b4⟩, q⟩ := h
  refine ⟨_, pss_one (ps_ret (pe_cmpR op_lt (pe_op op_mulB (pe_ix ix_tup (pv 0) pe_int (fun _ _ => rfl)) (pe_ix ix_tup (pv 1) pe_int (fun _ _ => rfl))) (pe_op op_mulB (pe_ix ix_tup (pv 1) pe_int (fun _ _ => rfl)) (pe_ix ix_tup (pv 0) pe_int (fun _ _ => rfl))) (nomark _))), ?_⟩
  exact ⟨_, rfl, a, _, 0, _, rfl, rfl, ha, pair0 _ _, _, rfl, b, _, 1, _, rfl, rfl, hb, pair1 _ _, _, _, rfl, rfl, ⟨b1, b4⟩, _, rfl, b, _, 0, _, rfl, rfl, hb, pair0 _ _, _, rfl, a, _, 1, _, rfl, rfl, ha, pair1 _ _, _, _, rfl, rfl, ⟨b3, b2⟩, _, _, rfl, rfl, q⟩
def Tight (pt : List Int) (D : Int) : Prop := (∀ x ∈ pt, Big 3000 x) /\ D < 2 ^ 3000
def spLJudged (K : W.Frag) : Sp := fun vs H Q _ => ∃ (hv : V) (t : Addr) (h : House) (pt pg : List Int) (ps D far : Int) (kt kg : Nat), vs = [hv, .ref t] /\ HS K H hv h /\ HG far kt kg h /\ far <= 2 ^ 60 /\ kt <= 20 /\ kg <= 20 /\ PrA H t pt pg ps D /\ PrN pt pg ps D kt kg /\ Tight pt D ∧
  ∀ (v : V) (H' : Hp), Same H H' -> JV H' v (jud pt pg ps h) -> Q v H'
theorem scLJ : FnScope ["house", "prices", "pays", "earns"] ["house", "prices"] (defScope s__law_judged) := ⟨rfl, rfl, rfl, by decide +kernel, rfl, by decide +kernel, by decide +kernel⟩
set_option maxHeartbeats 4000000 in
theorem ok_ljudged {fa fb : Addr} {da db : FuncData} (F : Fun K "_law_judged" "_law_judged" s__law_judged f fd) (T : Nones mg) (Cs : SCal P w K mg base n "_law_sum" ["numbers", "parts"] (spSumD K) fa da) (Co : Cal P w K mg base n "_law_low" ["top", "bottom"] spLow fb db) :
    FnOk P w K mg base CX0 (n + 1) f fd ["house", "prices"] (spLJudged K) := by
  refine F.ok scLJ (fun vs H Q E h => ?_) (fun cdv A outer s H vs Q E hr h => ?_)
  . obtain ⟨hv, t, h, pt, pg, ps, D, far, kt, kg, rfl, _⟩ := h
    rfl
  obtain ⟨hv, t, h, pt, pg, ps, D, far, kt, kg, rfl, hHS, gh, hfar, hkt, hkg, hPr, hN, hTi, q⟩ := h
  refine ⟨_, pss_cons (ps_set (i := 2) scLJ.nd rfl (Or.inl rfl) (pe_call Cs.ok hr rfl Cs.m Cs.k Cs.b .nil pass0 (pa_cons (pe_ix ix_tup (pv 0) pe_int (fun _ _ => rfl)) (pa_cons (pe_ix ix_tup (pv 1) pe_int (fun _ _ => rfl)) pa_nil))))
    (pss_cons (ps_set (i := 3) scLJ.nd rfl (Or.inl rfl) (pe_call Cs.ok hr rfl Cs.m Cs.k Cs.b .nil pass0 (pa_cons (pe_op op_cat (pe_callTy call_list_of rfl T.list PyProof.Rows.boot_list (pa_cons (pe_ix ix_tup (pv 0) pe_int (fun _ _ => rfl)) pa_nil)) (pe_lst (pa_cons pe_int pa_nil)))
      (pa_cons (pe_op op_cat (pe_ix ix_tup (pv 1) pe_int (fun _ _ => rfl)) (pe_lst (pa_cons (pe_ix ix_tup (pv 1) pe_int (fun _ _ => rfl)) pa_nil))) pa_nil))))
    (pss_cons (ps_if (pt_cmpR (op_eqD hr) (pv 2) (pe_tup (pa_cons pe_int (pa_cons pe_int pa_nil))) (nomark _)) (pss_one (ps_ret pe_non)) pss_nil)
    (pss_one (ps_ret (pe_call Co.ok hr rfl Co.m Co.k Co.b .nil pass0 (pa_cons (pe_op op_mulB (pe_ix ix_tup (pv 3) pe_int (fun _ _ => rfl)) (pe_ix ix_tup (pv 2) pe_int (fun _ _ => rfl)))
      (pa_cons (pe_op op_mulB (pe_ix ix_tup (pv 3) pe_int (fun _ _ => rfl)) (pe_ix ix_tup (pv 2) pe_int (fun _ _ => rfl))) pa_nil))))))), ?_⟩
  obtain ⟨a, ta, ga, rfl, p1, p2, p3⟩ := id hHS
  obtain ⟨fl, gl, u, fts, gts, h1, h2, h3, h4, h5, h6⟩ := id hPr
  have D8 : D < 2 ^ 8000 := Int.lt_trans hN.d2 (by exact_mod_cast Nat.pow_lt_pow_right (show 1 < 2 by decide) (show 4000 < 8000 by decide))
  have s1k := small1000 (show (1000 : Nat) <= 1000 from Nat.le_refl _)
  have l2 : (h.2.map V.int).length = kg := by rw [List.length_map]; exact gh.lg
  have lgt : gts.length = kg := by rw [h5.1, hN.lg]
  have bh1 : ∀ x ∈ h.1, Big 100 x := hg_big gh hfar 0
  -- pays
  refine ⟨_, rfl, a, _, 0, _, rfl, rfl, p1, pair0 _ _, _, rfl, t, _, 0, _, rfl, rfl, SqT.of h1, trip0 _ _ _, ?_⟩
  refine ⟨ta, fl, h.1, fts, pt, D, rfl, .inr p2, SqL.of h2, h3.v, by rw [gh.lt, hN.lt], by rw [gh.lt]; lia, bh1, fun x hx => (hN.bt x hx).2.mono (by decide), hN.d, D8, fun v2 H0 e0 hv2 => ?_⟩
  have bP : Big 3400 (pay h pt) := (sum_big (zw_big (a := 100) (b := 3000) bh1 hTi.1) (by rw [List.length_zipWith, gh.lt]; lia)).mono (by decide)
  -- earns
  refine ⟨_, rfl, a, _, 1, _, rfl, rfl, e0.tseq p1, pair1 _ _, ga, _, rfl, .inr (e0.tseq p3), fun a1 k1 => ?_⟩
  have s1 := e0.trans (Same.new k1 (.lst (h.2.map V.int)))
  refine ⟨(by show 1 <= sizeLine; decide), fun a2 k2 => ?_⟩
  have s2 := s1.trans (Same.new k2 (.lst [.int 1]))
  have n12 : a1 ≠ a2 := ne_of_none upd_same k2
  refine ⟨a1, a2, _, _, rfl, rfl, (by rw [upd_ne n12]; exact upd_same), upd_same, by rw [l2]; simp; lia, fun a3 k3 => ?_⟩
  have s3 := s2.trans (Same.new k3 (.lst (h.2.map V.int ++ [.int 1])))
  refine ⟨_, rfl, t, _, 1, _, rfl, rfl, SqT.of (s3 _ _ h1), trip1 _ _ _, _, rfl, t, _, 2, _, rfl, rfl, SqT.of (s3 _ _ h1), trip2 _ _ _, (by show 1 <= sizeLine; decide), fun a4 k4 => ?_⟩
  have s4 := s3.trans (Same.new k4 (.lst [u]))
  refine ⟨gl, a4, _, _, rfl, rfl, s4 _ _ h4, upd_same, by rw [lgt]; simp; lia, fun a5 k5 => ?_⟩
  have s5 := s4.trans (Same.new k5 (.lst (gts ++ [u])))
  have hv2' : FrT _ v2 (low (pay h pt) D) := hv2.same ((Same.new k1 (.lst (h.2.map V.int))).trans ((Same.new k2 (.lst [.int 1])).trans ((Same.new k3 (.lst (h.2.map V.int ++ [.int 1]))).trans ((Same.new k4 (.lst [u])).trans (Same.new k5 (.lst (gts ++ [u])))))))
  have c3 : (upd (upd (upd (upd (upd H0 a1 (.lst (h.2.map V.int))) a2 (.lst [.int 1])) a3 (.lst (h.2.map V.int ++ [.int 1]))) a4 (.lst [u])) a5 (.lst (gts ++ [u]))) a3 = some (.lst ((h.2 ++ [1]).map V.int)) := by
    rw [((Same.new k4 (.lst [u])).trans (Same.new k5 (.lst (gts ++ [u])))) a3 _ upd_same, List.map_append]; rfl
  have bh2 : ∀ x ∈ h.2 ++ [1], Big 100 x := fun x hx => by
    rcases List.mem_append.mp hx with hx | hx
    . exact hg_big gh hfar 1 x hx
    . rw [List.mem_singleton.mp hx]; exact big_pos (n := 100) (by decide) (by decide)
  have bpg : ∀ x ∈ pg ++ [ps], Big 5001 x := fun x hx => by
    rcases List.mem_append.mp hx with hx | hx
    . exact (hN.bg x hx).2.mono (by decide)
    . rw [List.mem_singleton.mp hx]; exact hN.bs.mono (by decide)
  refine ⟨a3, a5, h.2 ++ [1], gts ++ [u], pg ++ [ps], D, rfl, .inl (SqL.of c3), SqL.of upd_same, ((h5.snoc h6).same s5).v, by simp [gh.lg, hN.lg], by simp [gh.lg]; lia, bh2, fun x hx => (bpg x hx).mono (by decide), hN.d, D8, fun v1 H1 e1 hv1 => ?_⟩
  have eG : (List.zipWith (· * ·) (h.2 ++ [1]) (pg ++ [ps])).sum = earn h pg ps := by
    rw [zw_snoc (by rw [gh.lg, hN.lg]), Int.one_mul]; rfl
  have bG : Big 30000 (earn h pg ps) := by rw [<- eG]; exact sum_up (far := 0) (m := 0) (k := 0) bh2 bpg (by simp [gh.lg]; lia)
  rw [eG] at hv1
  have hv2 := hv2'.same e1
  have e01 := s5.trans e1
  clear hv2' c3 s1 s2 s3 s4 s5
  have hp0 := pay_nn gh fun x hx => (hN.bt x hx).1
  have q2 : (low (pay h pt) D = (0, 1)) ↔ pay h pt = 0 := by
    have c := low_cross (x := pay h pt) hN.d
    have hD := hN.d
    constructor
    . intro z
      rw [z, Int.zero_mul] at c
      omega
    . intro z
      rw [z]
      exact (low_eq (t' := 0) (b' := 1) hN.d (by decide) (by omega)).trans (by decide)
  refine ⟨_, rfl, (by show 2 <= sizeLine; decide), fun a6 k6 => ?_⟩
  have s6 := Same.new k6 (.tup [.int 0, .int 1])
  have hv26 := hv2.same s6
  have hv16 := hv1.same s6
  refine ⟨dF (low (pay h pt) D), dF (0, 1), FrV.dp hv26.v, FrV.dp (FrT.v ⟨a6, rfl, upd_same⟩), lay_F _, lay_F _, Nat.le_trans (Nat.min_le_left _ _) (dep_F _), _, rfl, ?_⟩
  rw [eqv_F']
  refine ite2 (fun c => ?_) (fun c => ?_)
  . have c' := q2.mp (of_decide_eq_true c)
    refine q _ _ (e01.trans s6) ?_
    unfold jud
    rw [if_pos c']
    exact rfl
  have c' : pay h pt ≠ 0 := fun z => c (decide_eq_true (q2.mpr z))
  have pp : 0 < pay h pt := by omega
  obtain ⟨w1, rfl, q1⟩ := hv16
  obtain ⟨w2, rfl, q2'⟩ := hv26
  have bD : ∀ x : Int, Big 3000 (low x D).2 := fun x => big_pos (Int.le_of_lt (low_pos hN.d)) (Int.lt_of_le_of_lt (low_le hN.d) hTi.2)
  have g1 := low_big hN.d bG
  have g2 := low_big hN.d bP
  have hb1 := low_pos (t := earn h pg ps) hN.d
  have hb2 := low_pos (t := pay h pt) hN.d
  have c1 := low_cross (x := earn h pg ps) hN.d
  have c2 := low_cross (x := pay h pt) hN.d
  have hD := hN.d
  have pp1 : 0 < (low (pay h pt) D).1 := by
    by_cases h0 : 0 < (low (pay h pt) D).1
    . exact h0
    . have z1 := Int.mul_le_mul_of_nonneg_right (Int.not_lt.mp h0) (Int.le_of_lt hD)
      rw [Int.zero_mul, c2] at z1
      have z2 := Int.mul_pos pp hb2
      omega
  refine ⟨_, rfl, w1, _, 0, _, rfl, rfl, SqT.of q1, pair0 _ _, _, rfl, w2, _, 1, _, rfl, rfl, SqT.of q2', pair1 _ _, _, _, rfl, rfl, ⟨g1.mono (by decide), (bD _).mono (by decide)⟩, ?_⟩
  refine ⟨_, rfl, w1, _, 1, _, rfl, rfl, SqT.of q1, pair1 _ _, _, rfl, w2, _, 0, _, rfl, rfl, SqT.of q2', pair0 _ _, _, _, rfl, rfl, ⟨(bD _).mono (by decide), g2.mono (by decide)⟩, ?_⟩
  have bb : Big 6400 ((low (earn h pg ps) D).2 * (low (pay h pt) D).1) := (Big.mul (bD _) g2).mono (by decide)
  refine ⟨_, _, rfl, Int.mul_pos hb1 pp1, Int.lt_trans (Rim.Big.lt bb) (by exact_mod_cast Nat.pow_lt_pow_right (show 1 < 2 by decide) (show 6400 < 8000 by decide)), fun v H3 e3 hv => ?_⟩
  refine q v H3 (e01.trans (s6.trans e3)) ?_
  unfold jud
  rw [if_neg c']
  have : low ((low (earn h pg ps) D).1 * (low (pay h pt) D).2) ((low (earn h pg ps) D).2 * (low (pay h pt) D).1) = low (earn h pg ps) (pay h pt) := by
    refine low_eq (Int.mul_pos hb1 pp1) pp ?_
    generalize (low (earn h pg ps) D).1 = e1 at *
    generalize (low (earn h pg ps) D).2 = e2 at *
    generalize (low (pay h pt) D).1 = p1 at *
    generalize (low (pay h pt) D).2 = p2 at *
    refine Int.eq_of_mul_eq_mul_right (Int.ne_of_gt hD) ?_
    calc e1 * p2 * pay h pt * D = (e1 * D) * (pay h pt * p2) := by ac_rfl
      _ = (earn h pg ps * e2) * (p1 * D) := by rw [c1, c2]
      _ = earn h pg ps * (e2 * p1) * D := by ac_rfl
  rw [this] at hv
  exact hv
end
end Rim
namespace Rim
open PySem L2 Fr
structure Dr (f : Q2) : Prop where
  c : Canon f
  a : Big 140 f.1
  b : f.2 < 2 ^ 130
theorem one_all : ∀ (fs : List Q2), (∀ f ∈ fs, Dr f) -> ∃ D : Int, 0 < D /\ (∀ f ∈ fs, f.2 ∣ D) /\ D <= 2 ^ (130 * fs.length)
  | [], _ => ⟨1, by decide, nofun, by decide⟩
  | f :: r, h => by
    obtain ⟨D, hD, hd, hb⟩ := one_all r fun g hg => h g (List.mem_cons_of_mem _ hg)
    have hf := h f List.mem_cons_self
    refine ⟨f.2 * D, Int.mul_pos hf.c.1 hD, fun g hg => ?_, ?_⟩
    . rcases List.mem_cons.mp hg with rfl | hg
      . exact Int.dvd_mul_right _ _
      . exact Int.dvd_trans (hd g hg) (Int.dvd_mul_left _ _)
    . rw [List.length_cons, show 130 * (r.length + 1) = 130 + 130 * r.length by omega, Int.pow_add]
      exact Int.mul_le_mul (Int.le_of_lt hf.b) hb (Int.le_of_lt hD) (Int.le_of_lt (Int.pow_pos (by decide)))
def xOf (D : Int) (f : Q2) : Int := f.1 * (D / f.2)
theorem xOf_low {D : Int} {f : Q2} (hD : 0 < D) (hf : Canon f) (hd : f.2 ∣ D) : low (xOf D f) D = f := by
  obtain ⟨d1, d2⟩ := div_pos_of_dvd hD hf.1 hd
  have : low (xOf D f) D = low f.1 f.2 := by
    refine low_eq hD hf.1 ?_
    unfold xOf
    rw [Int.mul_assoc, Int.mul_comm (D / f.2), d2]
  rw [this]
  exact Fr.low_self hf
theorem xOf_big {D : Int} {f : Q2} (hD : 0 < D) (hb : D <= 2 ^ 1300) (hf : Dr f) (hd : f.2 ∣ D) : Big 2000 (xOf D f) := by
  obtain ⟨d1, d2⟩ := div_pos_of_dvd hD hf.c.1 hd
  have : D / f.2 <= D := by
    have := le_mul_pos d1 hf.c.1
    rw [Int.mul_comm, d2] at this
    exact this
  have b1 : Big 1301 (D / f.2) := big_pos (Int.le_of_lt d1) (Int.lt_of_le_of_lt (Int.le_trans this hb) (by exact_mod_cast Nat.pow_lt_pow_right (show 1 < 2 by decide) (show 1300 < 1301 by decide)))
  exact (Big.mul hf.a b1).mono (by decide)
theorem xOf_nn {D : Int} {f : Q2} (hD : 0 < D) (hf : Canon f) (h : 0 <= f.1) : 0 <= xOf D f := Int.mul_nonneg h (Int.ediv_nonneg (Int.le_of_lt hD) (Int.le_of_lt hf.1))
section
variable {P : Program} {w : World} {K : W.Frag} {mg : Str -> Option Value} {base : Heap} {f : Addr} {fd : FuncData} {n : Nat}
def spAPrices (K : W.Frag) : Sp := fun vs H Q _ => ∃ (ba : Addr) (c : Int) (xs : List V) (hs : List House) (far : Int) (kt kg : Nat), vs = [.ref ba, .int c] /\ SqL K H ba xs /\ Bk K H xs hs /\ 1 <= hs.length /\ (∀ h ∈ hs, HG far kt kg h) /\ kt <= 4 /\ kg <= 4 ∧
  ∀ (t : Addr) (pt pg : List Int) (ps D : Int) (H' : Hp), Same H H' -> PrA H' t pt pg ps D -> PrN pt pg ps D kt kg -> Tight pt D -> Q (.ref t) H'
theorem scAP : FnScope ["book", "cell", "picks", "far", "some", "k", "one", "bottom"] ["book", "cell"] (defScope s__law_a_prices) := ⟨rfl, rfl, rfl, by decide +kernel, rfl, by decide +kernel, by decide +kernel⟩
set_option maxHeartbeats 4000000 in
noncomputable def lapT {cdv : Value} {A : Around} {outer : List Env} {s : Shared} {H : Hp} {E : XK} {fa fb : Addr} {da db : FuncData} (T : Nones mg) (Cd : Cal P w K mg base n "_law_draws" ["cell", "many", "base"] (spDraws K) fa da) (Cl : Cal P w K mg base n "_law_low" ["top", "bottom"] spLow fb db)
    (hr : Room n (A.deeper (PyProof.Rows.envOfC "_law_a_prices" (defScope s__law_a_prices) s.heap.objs.size f cdv))) :
    { t : TS // PSs (cxOf CX0 P w K mg base ["book", "cell", "picks", "far", "some", "k", "one", "bottom"] "_law_a_prices" (defScope s__law_a_prices) f cdv A outer s H E).nox (defBody s__law_a_prices) t } :=
  ⟨_, pss_cons (ps_set (i := 2) scAP.nd rfl (Or.inl rfl) (pe_call Cd.ok hr rfl Cd.m Cd.k Cd.b .nil pass0 (pa_cons (pv 1) (pa_cons pe_int (pa_cons (pe_op op_pow pe_int pe_int) pa_nil)))))
    (pss_cut (ps_set (i := 3) scAP.nd rfl (Or.inl rfl) (pe_ix ix_list (pe_lst (pa_cons pe_int (pa_cons pe_int (pa_cons (pe_op op_pow pe_int pe_int) pa_nil)))) (pe_op op_mod (pe_ix ix_list (pv 2) pe_int (fun _ _ => rfl)) pe_int) (fun _ _ => rfl)))
    (pss_cons (ps_set (i := 4) scAP.nd rfl (Or.inl rfl) (pe_lst pa_nil))
    (pss_cut (ps_for PassesOwn.never rfl (pi_range1 rfl T.range (pa_cons pe_int pa_nil)) (pg_name (i := 5) scAP.nd rfl (Or.inl rfl))
      (pss_cons (ps_set (i := 6) scAP.nd rfl (Or.inl rfl) (pe_call Cl.ok hr rfl Cl.m Cl.k Cl.b .nil pass0 (pa_cons (pe_op op_mod (pe_ix ix_list (pv 2) (pv 5) (fun _ _ => rfl)) (pv 3)) (pa_cons (pe_op op_add pe_int (pe_op op_mod (pe_ix ix_list (pv 2) (pe_op op_add pe_int (pv 5)) (fun _ _ => rfl)) (pv 3))) pa_nil))))
      (pss_cut (ps_if (pt_cmpR op_eq (pe_op op_mod (pe_ix ix_list (pv 2) pe_int (fun _ _ => rfl)) pe_int) pe_int (nomark _))
        (pss_cons (ps_set (i := 7) scAP.nd rfl (Or.inl rfl) (pe_op op_add (pe_op op_mulB (pe_ix ix_list (pv 2) (pe_op op_add pe_int (pv 5)) (fun _ _ => rfl)) (pe_op op_pow pe_int pe_int)) pe_int))
        (pss_one (ps_set (i := 6) scAP.nd rfl (Or.inl rfl) (pe_call Cl.ok hr rfl Cl.m Cl.k Cl.b .nil pass0 (pa_cons (pe_op op_add (pe_op op_mulB (pe_ix ix_list (pv 2) (pv 5) (fun _ _ => rfl)) (pe_op op_pow pe_int pe_int)) (pe_ix ix_list (pv 2) (pe_op op_add pe_int (pv 5)) (fun _ _ => rfl))) (pa_cons (pv 7) pa_nil)))))) pss_nil)
      (pss_cut (ps_if (PW.pt (pw_or (pt_cmpR op_eq (pe_op op_mod (pe_ix ix_list (pv 2) (pe_op op_add pe_int (pv 5)) (fun _ _ => rfl)) pe_int) pe_int (nomark _)) (pw_or1 (PW.pt (pw_and (pt_cmpR op_eq (pe_op op_mod (pe_ix ix_list (pv 2) pe_int (fun _ _ => rfl)) pe_int) pe_int (nomark _)) (pw_and1 (pt_cmpR op_lt (pv 5) pe_int (nomark _))))))))
        (pss_one (ps_set (i := 6) scAP.nd rfl (Or.inl rfl) (pe_tup (pa_cons pe_int (pa_cons pe_int pa_nil))))) pss_nil)
      (pss_one (ps_expr (pe_bm PySem.F.plainAttrs_list PySem.F.slot_list_append PySem.F.type_list_append mt_append (pv 4) (pa_cons (pv 6) pa_nil))))))))
    (pss_cut (ps_if (pt_cmpR op_eq (pe_op op_mod (pe_ix ix_list (pv 2) pe_int (fun _ _ => rfl)) pe_int) pe_int (nomark _))
      (pss_one (ps_asg (pe_tup (pa_cons (pe_op op_sub pe_int (pe_ix ix_tup (pe_ix ix_list (pv 4) pe_int (fun _ _ => rfl)) pe_int (fun _ _ => rfl))) (pa_cons (pe_ix ix_tup (pe_ix ix_list (pv 4) pe_int (fun _ _ => rfl)) pe_int (fun _ _ => rfl)) pa_nil))) (pg_sub (pv 4) pe_int set_list))) pss_nil)
    (pss_one (ps_ret (pe_tup (pa_cons (pe_slice sl_list (pv 4) po_none (po_some (pe_callB call_len_seq rfl T.len PySem.boot_len (pa_cons (pe_ix ix_tup (pe_ix ix_list (pv 0) pe_int (fun _ _ => rfl)) pe_int (fun _ _ => rfl)) pa_nil))))
      (pa_cons (pe_slice sl_list (pv 4) (po_some pe_int) (po_some (pe_op op_add pe_int (pe_callB call_len_seq rfl T.len PySem.boot_len (pa_cons (pe_ix ix_tup (pe_ix ix_list (pv 0) pe_int (fun _ _ => rfl)) pe_int (fun _ _ => rfl)) pa_nil)))))
      (pa_cons (pe_ix ix_list (pv 4) pe_int (fun _ _ => rfl)) pa_nil)))))))))) ⟩
end
end Rim
namespace Rim
open PySem L2 Fr
section
variable {P : Program} {w : World} {K : W.Frag} {mg : Str -> Option Value} {base : Heap} {f : Addr} {fd : FuncData} {n : Nat}
theorem dsAt {ds : List Int} {j : Nat} (h : j < ds.length) : atI (ds.map V.int) (j : Int) = some (.int (ds.getD j 0)) := atI_nat (by rw [List.getElem?_map, List.getD_eq_getElem?_getD, List.getElem?_eq_getElem h]; rfl)
theorem dsIn {ds : List Int} {j : Nat} (h : j < ds.length) : ds.getD j 0 ∈ ds := by
  rw [List.getD_eq_getElem?_getD, List.getElem?_eq_getElem h]; exact List.getElem_mem h
abbrev FrL (H : Hp) : List V -> List Q2 -> Prop := PySem.Paired (FrT H)
theorem FrL.same {H H' : Hp} {ys : List V} {fs : List Q2} (e : Same H H') (h : FrL H ys fs) : FrL H' ys fs := Paired.imp' (fun _ _ r => FrT.same e r) h
theorem FrT.wr {H : Hp} {a : Addr} {xs : List V} {o : HO} {v : V} {x : Q2} (ha : H a = some (.lst xs)) (h : FrT H v x) : FrT (upd H a o) v x := by
  obtain ⟨b, rfl, hb⟩ := h
  exact ⟨b, rfl, by rw [upd_ne (ne_of hb ha (fun z => nomatch z))]; exact hb⟩
theorem FrL.wr {H : Hp} {a : Addr} {xs : List V} {o : HO} {ys : List V} {fs : List Q2} (ha : H a = some (.lst xs)) (h : FrL H ys fs) : FrL (upd H a o) ys fs := Paired.imp' (fun _ _ r => FrT.wr ha r) h
theorem FrL.set {H : Hp} {v : V} {x : Q2} (hv : FrT H v x) : ∀ {ys : List V} {fs : List Q2} (i : Nat), FrL H ys fs -> FrL H (ys.set i v) (fs.set i x)
  | _, _, _, .nil => .nil
  | _, _, 0, .cons _ t => .cons hv t
  | _, _, i + 1, .cons q t => .cons q (FrL.set hv i t)
theorem FrL.tk {H : Hp} : ∀ {ys : List V} {fs : List Q2} (i : Nat), FrL H ys fs -> FrL H (ys.take i) (fs.take i)
  | _, _, 0, _ => by rw [List.take_zero, List.take_zero]; exact .nil
  | _, _, _ + 1, .nil => .nil
  | _, _, i + 1, .cons q t => .cons q (FrL.tk i t)
theorem FrL.dr {H : Hp} : ∀ {ys : List V} {fs : List Q2} (i : Nat), FrL H ys fs -> FrL H (ys.drop i) (fs.drop i)
  | _, _, 0, h => h
  | _, _, _ + 1, .nil => .nil
  | _, _, i + 1, .cons _ t => FrL.dr i t
theorem FrL.frs {H : Hp} {D : Int} (hD : 0 < D) : ∀ {ys : List V} {fs : List Q2}, FrL H ys fs -> (∀ f ∈ fs, Canon f /\ f.2 ∣ D) -> FrsAt H ys (fs.map (xOf D)) D := fun {ys fs} h hf => by
  refine ⟨by rw [List.length_map]; exact Paired.length h, fun i y hy => ?_⟩
  obtain ⟨g, hg, r⟩ := Paired.at h hy
  have := hf g (List.mem_of_getElem? hg)
  rw [List.getD_eq_getElem?_getD, List.getElem?_map, hg]
  show FrT H y (low (xOf D g) D)
  rw [xOf_low hD this.1 this.2]
  exact r
theorem cut_any (xs : List V) (k : Nat) : cutV xs none (some (k : Int)) = xs.take k := by
  by_cases h : k <= xs.length
  . exact cut_to xs k h
  . unfold cutV
    rw [HT.sIx_nat, HT.sIx_none, List.drop_zero, Nat.sub_zero, Nat.min_eq_right (by omega), List.take_of_length_le (Nat.le_refl _), List.take_of_length_le (by omega)]
theorem cut_two (xs : List V) (j k : Nat) (h : j + k <= xs.length) : cutV xs (some (j : Int)) (some ((j : Int) + (k : Int))) = (xs.drop j).take k := by
  unfold cutV
  rw [<- Int.natCast_add, HT.sIx_nat, HT.sIx_nat, Nat.min_eq_left (by omega), Nat.min_eq_left (by omega)]
  congr 1
  omega
set_option maxHeartbeats 16000000 in
theorem ok_aprices {fa fb : Addr} {da db : FuncData} (F : Fun K "_law_a_prices" "_law_a_prices" s__law_a_prices f fd) (T : Nones mg) (Cd : Cal P w K mg base n "_law_draws" ["cell", "many", "base"] (spDraws K) fa da) (Cl : Cal P w K mg base n "_law_low" ["top", "bottom"] spLow fb db) :
    FnOk P w K mg base CX0 (n + 1) f fd ["book", "cell"] (spAPrices K) := by
  refine F.ok scAP (fun vs H Q E h => ?_) (fun cdv A outer s H vs Q E hr h => ?_)
  . obtain ⟨ba, c, xs, hs, far, kt, kg, rfl, _⟩ := h
    rfl
  obtain ⟨ba, c, xs, hs, far, kt, kg, rfl, hS, hB, hn1, hG, hkt, hkg, q⟩ := h
  refine ⟨_, (lapT T Cd Cl hr).2, ?_⟩
  have xl : xs.length = hs.length := Paired.length hB
  have s1k := small1000 (show (1000 : Nat) <= 1000 from Nat.le_refl _)
  refine ⟨_, rfl, _, _, rfl, rfl, ⟨by decide, by decide, by decide⟩, c, 30, _, rfl, by decide, by decide, by decide, fun pl H1 ds e1 hpl ld bd => ?_⟩
  have bdj : ∀ j, j < 30 -> 0 <= ds.getD j 0 /\ ds.getD j 0 < 10 ^ 6 := fun j hj => bd _ (dsIn (by omega))
  -- far
  refine ⟨fun σ' H' => ∃ fr : Int, σ' = [some (.ref ba), some (.int c), some (.ref pl), some (.int fr), none, none, none, none] /\ Same H1 H' /\ 9 <= fr /\ fr <= 10 ^ 6, ?_, ?_⟩
  . refine ⟨_, _, rfl, rfl, ⟨by decide, by decide, by decide⟩, (by show 3 <= sizeLine; decide), fun l1 k1 => ?_⟩
    have s1 := Same.new k1 (.lst [.int 9, .int 100, .int (10 ^ 6)])
    obtain ⟨v, hv, v9, vM⟩ : ∃ v : Int, atI [V.int 9, V.int 100, V.int (10 ^ 6)] (ds.getD 28 0 % 3) = some (.int v) /\ 9 <= v /\ v <= 10 ^ 6 := by
      have h3 : ds.getD 28 0 % 3 = 0 \/ ds.getD 28 0 % 3 = 1 \/ ds.getD 28 0 % 3 = 2 := by omega
      rcases h3 with h3 | h3 | h3
      . exact ⟨9, by rw [h3]; exact atI_nat (j := 0) rfl, by decide, by decide⟩
      . exact ⟨100, by rw [h3]; exact atI_nat (j := 1) rfl, by decide, by decide⟩
      . exact ⟨10 ^ 6, by rw [h3]; exact atI_nat (j := 2) rfl, by decide, by decide⟩
    exact ⟨_, rfl, pl, _, 28, _, rfl, rfl, SqL.of (s1 _ _ hpl), dsAt (j := 28) (by omega), _, _, rfl, rfl, (by show (0 : Int) < 3; decide), l1, _, _, _, rfl, rfl, SqL.of upd_same, hv, v, rfl, s1, v9, vM⟩
  intro σ2 H2 hM_; refine gen2 fun G_ hG_ => ?_; obtain ⟨fr, rfl, e2, fr9, frM⟩ := hM_; subst hG_
  refine ⟨(by show 0 <= sizeLine; decide), fun sl hsl => ?_⟩
  have t3 := Same.new hsl (.lst [])
  have e12 := e1.trans e2
  have hpl2 := e2 _ _ hpl
  -- the loop
  refine ⟨fun σ' H' => ∃ (o5 o6 o7 : Option V) (ys : List V) (fs : List Q2), σ' = [some (.ref ba), some (.int c), some (.ref pl), some (.int fr), some (.ref sl), o5, o6, o7] /\ Same H2 H' /\ H' sl = some (.lst ys) /\ FrL H' ys fs /\ fs.length = 9 /\ (∀ f ∈ fs, Dr f /\ 0 <= f.1), ?_, ?_⟩
  . refine ⟨9, rfl, by decide, by decide, ?_⟩
    refine for_range (n := 9) (fun i σ H' => ∃ (o5 o6 o7 : Option V) (ys : List V) (fs : List Q2), σ = [some (.ref ba), some (.int c), some (.ref pl), some (.int fr), some (.ref sl), o5, o6, o7] /\ Same H2 H' /\ H' sl = some (.lst ys) /\ FrL H' ys fs /\ fs.length = i /\ (∀ f ∈ fs, Dr f /\ 0 <= f.1))
      ⟨_, _, _, [], [], rfl, t3, upd_same, .nil, rfl, nofun⟩ ?_ ?_
    rotate_left
    . rintro σ H' h; exact h
    rintro i σ H3 hi ⟨o5, o6, o7, ys, fs, rfl, e3, hsl3, hF, hl, hD⟩
    have hpl3 := e3 _ _ hpl2
    have yl : ys.length = i := by rw [Paired.length hF, hl]
    rw [Int.zero_add]
    have b1 := bdj i (by omega)
    have b2 := bdj (9 + i) (by omega)
    have b3 := bdj (18 + i) (by omega)
    have ix : ∀ (m : Nat) (H' : Hp), H' pl = some (.lst (ds.map V.int)) -> m + i < 30 -> atI (ds.map V.int) ((m : Int) + (i : Int)) = some (.int (ds.getD (m + i) 0)) := fun m H' _ hm => by
      rw [<- Int.natCast_add]; exact dsAt (by omega)
    have a0 : atI (ds.map V.int) (i : Int) = some (.int (ds.getD i 0)) := dsAt (by omega)
    have a9 := ix 9 H3 hpl3 (by omega)
    have a18 := ix 18 H3 hpl3 (by omega)
    have a29 : atI (ds.map V.int) 29 = some (.int (ds.getD 29 0)) := dsAt (j := 29) (by omega)
    generalize ds.getD i 0 = d1 at *
    generalize ds.getD (9 + i) 0 = d2 at *
    generalize ds.getD (18 + i) 0 = d3 at *
    generalize ds.getD 29 0 = d4 at *
    have m1 := Int.emod_nonneg d1 (show fr ≠ 0 by omega)
    have m2 := Int.emod_lt_of_pos d1 (show 0 < fr by omega)
    have m3 := Int.emod_nonneg d2 (show fr ≠ 0 by omega)
    have m4 := Int.emod_lt_of_pos d2 (show 0 < fr by omega)
    have up130 : ∀ {x : Int}, x <= 10 ^ 37 -> x < 2 ^ 130 := fun h => Int.lt_of_le_of_lt h (by decide)
    have mk : ∀ (t b : Int), 0 <= t -> t <= 10 ^ 41 -> 0 < b -> b <= 10 ^ 37 -> Dr (low t b) /\ 0 <= (low t b).1 := fun t b h1 h2 h3 h4 =>
      ⟨⟨low_canon h3, low_big h3 (big_pos h1 (Int.lt_of_le_of_lt h2 (by decide))), up130 (Int.le_trans (low_le h3) h4)⟩, low_nn h3 h1⟩
    refine ⟨_, rfl, _, rfl, pl, _, _, _, rfl, rfl, SqL.of hpl3, a0, _, rfl, _, _, rfl, rfl, (by show 0 < fr; omega), _, rfl, _, rfl, _, _, rfl, rfl, pl, _, _, _, rfl, rfl, SqL.of hpl3, a9, _, rfl, _, _, rfl, rfl, (by show 0 < fr; omega), _, _, rfl, rfl, _, _, rfl, ?_, ?_, fun v H4 e4 hv => ?_⟩
    . show 0 < 1 + d2 % fr; omega
    . show 1 + d2 % fr < 2 ^ 8000
      exact Int.lt_trans (show 1 + d2 % fr < 2 ^ 60 by omega) (by exact_mod_cast Nat.pow_lt_pow_right (show 1 < 2 by decide) (show 60 < 8000 by decide))
    have hpl4 := e4 _ _ hpl3
    -- great ones
    refine ⟨fun σ' H' => ∃ (o7 : Option V) (u : V) (x : Q2), σ' = [some (.ref ba), some (.int c), some (.ref pl), some (.int fr), some (.ref sl), some (.int (i : Int)), some u, o7] /\ Same H3 H' /\ FrT H' u x /\ Dr x /\ 0 <= x.1, ?_, ?_⟩
    . refine ⟨_, rfl, pl, _, 29, _, rfl, rfl, SqL.of hpl4, a29, _, _, rfl, rfl, (by show (0 : Int) < 4; decide), rfl, _, rfl, ite2 (fun _ => ?_) (fun _ => ?_)⟩
      . refine ⟨_, rfl, _, rfl, _, _, rfl, rfl, pl, _, _, _, rfl, rfl, SqL.of hpl4, a9, _, _, rfl, rfl, ⟨by decide, by decide, by decide⟩, _, _, rfl, rfl, ⟨?_, ?_⟩, _, _, rfl, rfl, ?_⟩
        . exact (big_pos (n := 60) b2.1 (by omega)).mono (by decide)
        . exact (big_pos (n := 200) (by decide) (by decide)).mono (by decide)
        refine ⟨_, rfl, _, rfl, pl, _, _, _, rfl, rfl, SqL.of hpl4, a0, _, _, rfl, rfl, ⟨by decide, by decide, by decide⟩, _, _, rfl, rfl, ⟨?_, ?_⟩, _, rfl, _, rfl, _, _, rfl, rfl, pl, _, _, _, rfl, rfl, SqL.of hpl4, a18, _, _, rfl, rfl, _, rfl, _, _, rfl, ?_, ?_, fun v' H5 e5 hv' => ?_⟩
        . exact (big_pos (n := 60) b1.1 (by omega)).mono (by decide)
        . exact (big_pos (n := 200) (by decide) (by decide)).mono (by decide)
        . show 0 < d2 * 10 ^ 30 + 7; omega
        . show d2 * 10 ^ 30 + 7 < 2 ^ 8000
          exact Int.lt_trans (show d2 * 10 ^ 30 + 7 < 2 ^ 130 by omega) (by exact_mod_cast Nat.pow_lt_pow_right (show 1 < 2 by decide) (show 130 < 8000 by decide))
        . obtain ⟨k1, k2⟩ := mk (d1 * 10 ^ 34 + d3) (d2 * 10 ^ 30 + 7) (by omega) (by omega) (by omega) (by omega)
          exact ⟨_, v', _, rfl, e4.trans e5, hv', k1, k2⟩
      . obtain ⟨k1, k2⟩ := mk (d1 % fr) (1 + d2 % fr) m1 (by omega) (by omega) (by omega)
        exact ⟨_, v, _, rfl, e4, hv, k1, k2⟩
    intro σ5 H5 hM_; refine gen2 fun G_ hG_ => ?_; obtain ⟨o7, u, x, rfl, e5, hu, hx, hx0⟩ := hM_; subst hG_
    have hpl5 := e5 _ _ hpl3
    -- nought
    refine ⟨fun σ' H' => ∃ (u : V) (x : Q2), σ' = [some (.ref ba), some (.int c), some (.ref pl), some (.int fr), some (.ref sl), some (.int (i : Int)), some u, o7] /\ Same H3 H' /\ FrT H' u x /\ Dr x /\ 0 <= x.1, ?_, ?_⟩
    . have zero : ∀ (H' : Hp), Same H3 H' -> tAsg (tTup (tCons (tC (.int 0)) (tCons (tC (.int 1)) tNil))) (gName 6) { nx := fun σ' H' => ∃ (u : V) (x : Q2), σ' = [some (.ref ba), some (.int c), some (.ref pl), some (.int fr), some (.ref sl), some (.int (i : Int)), some u, o7] /\ Same H3 H' /\ FrT H' u x /\ Dr x /\ 0 <= x.1, rt := fun _ _ => False } [some (.ref ba), some (.int c), some (.ref pl), some (.int fr), some (.ref sl), some (.int (i : Int)), some u, o7] H' := fun H' eH => by
        refine ⟨(by show 2 <= sizeLine; decide), fun z hz => ?_⟩
        exact ⟨_, (0, 1), rfl, eH.trans (Same.new hz _), ⟨z, rfl, upd_same⟩, ⟨⟨by decide, by decide⟩, big_pos (by decide) (by decide), by decide⟩, by decide⟩
      refine ⟨_, rfl, _, rfl, _, _, rfl, rfl, pl, _, _, _, rfl, rfl, SqL.of hpl5, a18, _, _, rfl, rfl, (by show (0 : Int) < 3; decide), rfl, _, rfl, ite2 (fun _ => ?_) (fun _ => ?_)⟩
      . exact iteT (zero H5 e5)
      . refine ⟨_, rfl, pl, _, 29, _, rfl, rfl, SqL.of hpl5, a29, _, _, rfl, rfl, (by show (0 : Int) < 9; decide), rfl, _, rfl, ite2 (fun _ => ?_) (fun _ => ?_)⟩
        . refine ⟨_, rfl, _, _, rfl, rfl, _, rfl, ite2 (fun _ => zero H5 e5) (fun _ => ?_)⟩
          exact ⟨u, x, rfl, e5, hu, hx, hx0⟩
        . exact iteF ⟨u, x, rfl, e5, hu, hx, hx0⟩
    intro σ6 H6 hM_; refine gen2 fun G_ hG_ => ?_; obtain ⟨u', x', rfl, e6, hu', hx', hx0'⟩ := hM_; subst hG_
    refine ⟨_, rfl, .inl ⟨rfl, _, SqL.of (e6 _ _ hsl3)⟩, _, rfl, sl, _, _, rfl, rfl, e6 _ _ hsl3, by omega, ?_⟩
    refine ⟨_, _, _, ys ++ [u'], fs ++ [x'], rfl, (e3.trans e6).write hsl, upd_same, Paired.app (FrL.wr (e6 _ _ hsl3) (hF.same e6)) (.cons (FrT.wr (e6 _ _ hsl3) hu') .nil), by simp [hl], fun f hf => ?_⟩
    rcases List.mem_append.mp hf with hf | hf
    . exact hD f hf
    . rw [List.mem_singleton.mp hf]; exact ⟨hx', hx0'⟩
  intro σ7 H7 hM_; refine gen2 fun G_ hG_ => ?_; obtain ⟨o5, o6, o7, ys, fs, rfl, e7, hsl7, hF, hl, hD⟩ := hM_; subst hG_
  have hpl7 := e7 _ _ hpl2
  have yl : ys.length = 9 := by rw [Paired.length hF, hl]
  -- below nought
  refine ⟨fun σ' H' => ∃ (ys : List V) (fs : List Q2), σ' = [some (.ref ba), some (.int c), some (.ref pl), some (.int fr), some (.ref sl), o5, o6, o7] /\ Same H2 H' /\ H' sl = some (.lst ys) /\ FrL H' ys fs /\ fs.length = 9 /\ (∀ f ∈ fs, Dr f) /\ ∀ f ∈ fs.take 8, 0 <= f.1, ?_, ?_⟩
  . refine ⟨_, rfl, pl, _, 27, _, rfl, rfl, SqL.of hpl7, dsAt (j := 27) (by omega), _, _, rfl, rfl, (by show (0 : Int) < 2; decide), rfl, _, rfl, ite2 (fun _ => ?_) (fun _ => ?_)⟩
    . obtain ⟨y8, hy8⟩ : ∃ y, ys[8]? = some y := ⟨_, List.getElem?_eq_getElem (by omega)⟩
      obtain ⟨f8, hf8, ⟨b8, rfl, hb8⟩⟩ := Paired.at hF hy8
      have d8 := hD f8 (List.mem_of_getElem? hf8)
      have i8 : atI ys 8 = some (.ref b8) := atI_nat (j := 8) hy8
      refine ⟨_, rfl, sl, _, 8, _, rfl, rfl, SqL.of hsl7, i8, b8, _, 0, _, rfl, rfl, SqT.of hb8, pair0 _ _, _, _, rfl, rfl, _, rfl, sl, _, 8, _, rfl, rfl, SqL.of hsl7, i8, b8, _, 1, _, rfl, rfl, SqT.of hb8, pair1 _ _, (by show 2 <= sizeLine; decide), fun z hz => ?_⟩
      have sz := Same.new hz (.tup [V.int (0 - f8.1), V.int f8.2])
      refine ⟨_, rfl, sl, ys, 8, 8, rfl, rfl, sz _ _ hsl7, by rw [yl]; decide, ?_⟩
      have hsl8 := sz _ _ hsl7
      refine ⟨ys.set 8 (.ref z), fs.set 8 (0 - f8.1, f8.2), rfl, (e7.trans sz).write hsl, upd_same, FrL.wr hsl8 (FrL.set (x := (0 - f8.1, f8.2)) ⟨z, rfl, upd_same⟩ 8 (hF.same sz)), by simp [hl], fun f hf => ?_, fun f hf => ?_⟩
      . rcases List.mem_or_eq_of_mem_set hf with hf | rfl
        . exact (hD f hf).1
        . refine ⟨⟨d8.1.c.1, ?_⟩, ?_, d8.1.b⟩
          . show Int.gcd (0 - f8.1) f8.2 = 1
            rw [Int.zero_sub, Int.neg_gcd]; exact d8.1.c.2
          . show Big 140 (0 - f8.1)
            have := d8.1.a
            unfold Big at *
            omega
      . rw [List.take_set_of_le (by omega)] at hf
        exact (hD f (List.mem_of_mem_take hf)).2
    . exact ⟨ys, fs, rfl, e7, hsl7, hF, hl, fun f hf => (hD f hf).1, fun f hf => (hD f (List.mem_of_mem_take hf)).2⟩
  intro σ8 H8 hM_; refine gen2 fun G_ hG_ => ?_; obtain ⟨ys', fs', rfl, e8, hsl8, hF8, hl8, hD8, hnn⟩ := hM_; subst hG_
  clear hF hD hsl7 hpl7 e7
  have yl' : ys'.length = 9 := by rw [Paired.length hF8, hl8]
  have e08 := e12.trans e8
  have h0v : 0 < xs.length := by omega
  obtain ⟨h0, hh0, ⟨a0, t0, g0, ha0, hp0, ht0, hg0⟩⟩ := Paired.at hB (List.getElem?_eq_getElem h0v)
  have g0' := hG h0 (List.mem_of_getElem? hh0)
  have at0 : atI xs 0 = some (.ref a0) := by
    rw [<- ha0]
    exact atI_nat (j := 0) (List.getElem?_eq_getElem h0v)
  refine ⟨_, rfl, _, rfl, ba, _, 0, _, rfl, rfl, e08.seq hS, at0, a0, _, 0, _, rfl, rfl, e08.tseq hp0, pair0 _ _, t0, _, rfl, .inr (e08.tseq ht0), _, rfl, sl, _, rfl, SqL.of hsl8, fun p1 k1 => ?_⟩
  rw [List.length_map, g0'.lt, cut_any]
  have s1 := Same.new k1 (.lst (ys'.take kt))
  have e09 := e08.trans s1
  refine ⟨_, rfl, _, rfl, _, rfl, ba, _, 0, _, rfl, rfl, e09.seq hS, at0, a0, _, 1, _, rfl, rfl, e09.tseq hp0, pair1 _ _, g0, _, rfl, .inr (e09.tseq hg0), _, _, rfl, rfl, _, rfl, sl, _, rfl, SqL.of (s1 _ _ hsl8), fun p2 k2 => ?_⟩
  rw [List.length_map, g0'.lg, show (4 : Int) = ((4 : Nat) : Int) from rfl, cut_two _ 4 kg (by omega)]
  have s2 := Same.new k2 (.lst ((ys'.drop 4).take kg))
  obtain ⟨y8, hy8⟩ : ∃ y, ys'[8]? = some y := ⟨_, List.getElem?_eq_getElem (by omega)⟩
  obtain ⟨f8, hf8, hv8⟩ := Paired.at hF8 hy8
  have s12 := s1.trans s2
  refine ⟨_, rfl, sl, _, 8, _, rfl, rfl, SqL.of (s12 _ _ hsl8), atI_nat (j := 8) hy8, (by show 3 <= sizeLine; decide), fun t ht => ?_⟩
  have s3 := Same.new ht (.tup [V.ref p1, V.ref p2, y8])
  have s123 := s12.trans s3
  obtain ⟨D, hDp, hdv, hDb⟩ := one_all fs' hD8
  rw [hl8] at hDb
  have hDb' : D <= 2 ^ 1300 := Int.le_trans hDb (by exact_mod_cast Nat.pow_le_pow_right (show 0 < 2 by decide) (show 130 * 9 <= 1300 by decide))
  have okk : ∀ f ∈ fs', Canon f /\ f.2 ∣ D := fun f hf => ⟨(hD8 f hf).c, hdv f hf⟩
  have bigx : ∀ f ∈ fs', Big 2000 (xOf D f) := fun f hf => xOf_big hDp hDb' (hD8 f hf) (hdv f hf)
  have F1 : FrL H8 (ys'.take kt) (fs'.take kt) := FrL.tk kt hF8
  have F2 : FrL H8 ((ys'.drop 4).take kg) ((fs'.drop 4).take kg) := FrL.tk kg (FrL.dr 4 hF8)
  have m1 : ∀ f ∈ fs'.take kt, f ∈ fs' /\ 0 <= f.1 := fun f hf => ⟨List.mem_of_mem_take hf, hnn f (by
    rw [show fs'.take kt = (fs'.take 8).take kt by rw [List.take_take, Nat.min_eq_left (by omega)]] at hf
    exact List.mem_of_mem_take hf)⟩
  have m2 : ∀ f ∈ (fs'.drop 4).take kg, f ∈ fs' /\ 0 <= f.1 := fun f hf => ⟨List.mem_of_mem_drop (List.mem_of_mem_take hf), hnn f (by
    obtain ⟨j, hj, rfl⟩ := List.getElem_of_mem hf
    rw [List.length_take, List.length_drop] at hj
    rw [List.getElem_take, List.getElem_drop]
    exact List.mem_of_getElem? (i := 4 + j) (by rw [List.getElem?_take_of_lt (by omega)]; exact List.getElem?_eq_getElem _))⟩
  refine q t ((fs'.take kt).map (xOf D)) (((fs'.drop 4).take kg).map (xOf D)) (xOf D f8) D _ (e08.trans s123) ⟨p1, p2, y8, _, _, upd_same, (s2.trans s3) _ _ upd_same, (F1.frs hDp fun f hf => okk f (m1 f hf).1).same s123, s3 _ _ upd_same, (F2.frs hDp fun f hf => okk f (m2 f hf).1).same s123, ?_⟩ ⟨?_, ?_, ?_, ?_, ?_, hDp, ?_⟩ ⟨?_, ?_⟩
  . have o8 := okk f8 (List.mem_of_getElem? hf8)
    rw [xOf_low hDp o8.1 o8.2]
    exact hv8.same s123
  . rw [List.length_map, List.length_take]; omega
  . rw [List.length_map, List.length_take, List.length_drop]; omega
  . intro x hx
    obtain ⟨f, hf, rfl⟩ := List.mem_map.mp hx
    exact ⟨xOf_nn hDp (okk f (m1 f hf).1).1 (m1 f hf).2, (bigx f (m1 f hf).1).mono (by decide)⟩
  . intro x hx
    obtain ⟨f, hf, rfl⟩ := List.mem_map.mp hx
    exact ⟨xOf_nn hDp (okk f (m2 f hf).1).1 (m2 f hf).2, (bigx f (m2 f hf).1).mono (by decide)⟩
  . exact (bigx f8 (List.mem_of_getElem? hf8)).mono (by decide)
  . exact Int.lt_of_le_of_lt hDb' (by exact_mod_cast Nat.pow_lt_pow_right (show 1 < 2 by decide) (show 1300 < 4000 by decide))
  . intro x hx
    obtain ⟨f, hf, rfl⟩ := List.mem_map.mp hx
    exact (bigx f (m1 f hf).1).mono (by decide)
  . exact Int.lt_of_le_of_lt hDb' (by exact_mod_cast Nat.pow_lt_pow_right (show 1 < 2 by decide) (show 1300 < 3000 by decide))
end
end Rim
namespace Rim
open PySem L2 Fr
section
variable {P : Program} {w : World} {K : W.Frag} {mg : Str -> Option Value} {base : Heap} {f : Addr} {fd : FuncData} {n : Nat}
theorem scLaw : FnScope ["script", "book", "cell", "prices", "handed", "due", "found", "best", "some", "good", "k"] ["script"] (defScope sLaw) := ⟨rfl, rfl, rfl, by decide +kernel, rfl, by decide +kernel, by decide +kernel⟩
theorem ndD : (["house", "prices"] : List Str).Nodup := by decide +kernel
theorem ndO : (["one"] : List Str).Nodup := by decide +kernel
theorem ndS : (["k", "due"] : List Str).Nodup := by decide +kernel
theorem ndI : (["j", "due", "k"] : List Str).Nodup := by decide +kernel
theorem ndK : (["k"] : List Str).Nodup := by decide +kernel
theorem pss_dead {X : Cx} {l : List Stmt} : PSs X l fun _ _ _ => False := fun _ _ _ _ _ _ h => h.elim
structure Calls (P : Program) (w : World) (K : W.Frag) (mg : Str -> Option Value) (base : Heap) (n : Nat) (a1 a2 a3 a4 a5 a6 a7 a8 a9 : Addr) (d1 d2 d3 d4 d5 d6 d7 d8 d9 : FuncData) : Prop where
  ab : Cal P w K mg base n "_law_a_book" ["script", "at", "most", "far"] (spABook K) a1 d1
  ce : Cal P w K mg base n "_law_cell_at" ["script", "k"] (spCell K) a2 d2
  ap : SCal P w K mg base n "_law_a_prices" ["book", "cell"] (spAPrices K) a3 d3
  lj : SCal P w K mg base n "_law_judged" ["house", "prices"] (spLJudged K) a4 d4
  ju : SCal P w K mg base n "judged" ["book", "prices"] (spJudged K) a5 d5
  be : SCal P w K mg base n "best_at" ["book", "prices"] (spBest K) a6 d6
  fr : Cal P w K mg base n "_law_is_fraction" ["one"] spIsFr a7 d7
  ls : Cal P w K mg base n "_law_less" ["one", "other"] (spLess K) a8 d8
  wh : Cal P w K mg base n "_law_a_whole" ["found"] spWhole a9 d9
set_option maxHeartbeats 16000000 in
noncomputable def lawT {cdv : Value} {A : Around} {outer : List Env} {s : Shared} {H : Hp} {E : XK} {a1 a2 a3 a4 a5 a6 a7 a8 a9 : Addr} {d1 d2 d3 d4 d5 d6 d7 d8 d9 : FuncData} (T : Nones mg) (C : Calls P w K mg base n a1 a2 a3 a4 a5 a6 a7 a8 a9 d1 d2 d3 d4 d5 d6 d7 d8 d9)
    (hr : Room n (A.deeper (PyProof.Rows.envOfC "law" (defScope sLaw) s.heap.objs.size f cdv))) :
    { t : TS // PSs (cxOf CX0 P w K mg base ["script", "book", "cell", "prices", "handed", "due", "found", "best", "some", "good", "k"] "law" (defScope sLaw) f cdv A outer s H E).nox (defBody sLaw) t } :=
  ⟨_, pss_cons (ps_set (i := 1) scLaw.nd rfl (Or.inl rfl) (pe_call C.ab.ok hr rfl C.ab.m C.ab.k C.ab.b .nil pass0 (pa_cons (pv 0) (pa_cons pe_int (pa_cons pe_int (pa_cons (pe_op op_pow pe_int pe_int) pa_nil))))))
    (pss_cons (ps_for PassesOwn.never rfl (pi_list (pe_op op_cat (pe_lst (pa_cons (pe_call C.ce.ok hr rfl C.ce.m C.ce.k C.ce.b .nil pass0 (pa_cons (pv 0) (pa_cons pe_int pa_nil))) pa_nil)) (pe_slice sl_list (pv 0) (po_some pe_int) (po_some pe_int)))) (pg_name (i := 2) scLaw.nd rfl (Or.inl rfl))
      (pss_cons (ps_set (i := 3) scLaw.nd rfl (Or.inr rfl) (pe_call C.ap.ok hr rfl C.ap.m C.ap.k C.ap.b .nil pass0 (pa_cons (pv 1) (pa_cons (pv 2) pa_nil))))
      (pss_cut (ps_set (i := 4) scLaw.nd rfl (Or.inl rfl) (pe_tup (pa_cons (pe_callTy call_list_of rfl T.list PyProof.Rows.boot_list (pa_cons (pv 1) pa_nil)) (pa_cons (pe_tup (pa_cons (pe_callTy call_list_of rfl T.list PyProof.Rows.boot_list (pa_cons (pe_ix ix_tup (pv 3) pe_int (fun _ _ => rfl)) pa_nil)) (pa_cons (pe_callTy call_list_of rfl T.list PyProof.Rows.boot_list (pa_cons (pe_ix ix_tup (pv 3) pe_int (fun _ _ => rfl)) pa_nil)) (pa_cons (pe_ix ix_tup (pv 3) pe_int (fun _ _ => rfl)) pa_nil)))) pa_nil))))
      (pss_cut (ps_set (i := 5) scLaw.nd rfl (Or.inr rfl) (pe_lc ["house"] [3] rfl (pi_list (pv 1)) (fun _ _ _ _ => pg_name (i := 0) ndD rfl (Or.inl rfl)) (fun _ _ _ _ => pe_call C.lj.ok hr rfl C.lj.m C.lj.k C.lj.b .nil pass0 (pa_cons (pv 0) (pa_cons (pv 1) pa_nil)))))
      (pss_cons (ps_set (i := 6) scLaw.nd rfl (Or.inl rfl) (pe_call C.ju.ok hr rfl C.ju.m C.ju.k C.ju.b .nil pass0 (pa_cons (pe_ix ix_tup (pv 4) pe_int (fun _ _ => rfl)) (pa_cons (pe_ix ix_tup (pv 4) pe_int (fun _ _ => rfl)) pa_nil))))
      (pss_cons (ps_set (i := 7) scLaw.nd rfl (Or.inl rfl) (pe_call C.be.ok hr rfl C.be.m C.be.k C.be.b .nil pass0 (pa_cons (pe_ix ix_tup (pv 4) pe_int (fun _ _ => rfl)) (pa_cons (pe_ix ix_tup (pv 4) pe_int (fun _ _ => rfl)) pa_nil))))
      (pss_cut (ps_if (PW.pt (pw_or (pt_cmpR (op_neD hr) (pv 4) (pe_tup (pa_cons (pv 1) (pa_cons (pv 3) pa_nil))) (nomark _)) (pw_or (pt_not (pt_val (pe_callB call_isinst rfl T.isi PyProof.Rows.boot_isinstance (pa_cons (pv 6) (pa_cons (pe_bltn (v := .ty "list") rfl T.list PyProof.Rows.boot_list rfl) pa_nil))))) (pw_or1 (pt_cmpR (op_neD hr) (pv 6) (pv 5) (nomark _)))))) pss_dead pss_nil)
      (pss_cut (ps_if (pt_cmpR (op_neD hr) (pe_lcI ["one"] [] rfl (pi_list (pv 6)) (fun _ _ _ _ => pg_name (i := 0) ndO rfl (Or.inl rfl)) (fun _ _ _ _ => PW.pt (pw_and (pt_cmpR op_notN (pv 0) pe_non (nomark _)) (pw_and1 (pt_not (pt_val (pe_call C.fr.ok hr rfl C.fr.m C.fr.k C.fr.b .nil pass0 (pa_cons (pv 0) pa_nil))))))) (fun _ _ _ _ => pv 0)) (pe_lst pa_nil) (nomark _)) pss_dead pss_nil)
      (pss_cut (ps_lcI (i := 8) ["k"] [5] scLaw.nd rfl rfl rfl (pi_range1 rfl T.range (pa_cons (pe_callB call_len_seq rfl T.len PySem.boot_len (pa_cons (pv 1) pa_nil)) pa_nil)) (fun _ _ _ _ => pg_name (i := 0) ndS rfl (Or.inl rfl)) (fun _ _ _ _ => pt_cmpR op_notN (pe_ix (ixl_at K rfl) (pv 1) (pv 0) (fun _ _ => rfl)) pe_non (nomark _)) (fun _ _ _ _ => pv 0))
      (pss_cons (ps_set (i := 9) scLaw.nd rfl (Or.inl rfl) (pe_lst pa_nil))
      (pss_cut (ps_for PassesOwn.never rfl (pi_list (pv 8)) (pg_name (i := 10) scLaw.nd rfl (Or.inr rfl))
        (pss_one (ps_if (pt_cmpR (op_eqD hr) (pe_lcI ["j"] [5, 10] rfl (pi_list (pv 8)) (fun _ _ _ _ => pg_name (i := 0) ndI rfl (Or.inl rfl)) (fun _ _ _ _ => pt_val (pe_call C.ls.ok hr rfl C.ls.m C.ls.k C.ls.b .nil pass0 (pa_cons (pe_ix (ixl_at K rfl) (pv 1) (pv 2) (fun _ _ => rfl)) (pa_cons (pe_ix (ixl_at K rfl) (pv 1) (pv 0) (fun _ _ => rfl)) pa_nil)))) (fun _ _ _ _ => pv 0)) (pe_lst pa_nil) (nomark _))
          (pss_one (ps_expr (pe_bm PySem.F.plainAttrs_list PySem.F.slot_list_append PySem.F.type_list_append mt_append (pv 9) (pa_cons (pv 10) pa_nil)))) pss_nil)))
      (pss_cut (ps_if (PW.pt (pw_or (pt_not (pt_val (pe_callB call_isinst rfl T.isi PyProof.Rows.boot_isinstance (pa_cons (pv 7) (pa_cons (pe_bltn (v := .ty "list") rfl T.list PyProof.Rows.boot_list rfl) pa_nil))))) (pw_or1 (pt_cmpR (op_neD hr) (pv 7) (pv 9) (nomark _))))) pss_dead pss_nil)
      (pss_cut (ps_if (pt_cmpR (op_neD hr) (pe_lcI ["k"] [] rfl (pi_list (pv 7)) (fun _ _ _ _ => pg_name (i := 0) ndK rfl (Or.inl rfl)) (fun _ _ _ _ => pt_not (pt_val (pe_call C.wh.ok hr rfl C.wh.m C.wh.k C.wh.b .nil pass0 (pa_cons (pv 0) pa_nil)))) (fun _ _ _ _ => pv 0)) (pe_lst pa_nil) (nomark _)) pss_dead pss_nil)
      (pss_cons (ps_expr (pe_bm PySem.F.plainAttrs_list PySem.F.slot_list_append PySem.F.type_list_append mt_append (pv 6) (pa_cons pe_non pa_nil)))
      (pss_cons (ps_expr (pe_bm PySem.F.plainAttrs_list PySem.F.slot_list_append PySem.F.type_list_append mt_append (pv 7) (pa_cons pe_int pa_nil)))
      (pss_one (ps_if (PW.pt (pw_or (pt_cmpR (op_neD hr) (pe_call C.ju.ok hr rfl C.ju.m C.ju.k C.ju.b .nil pass0 (pa_cons (pv 1) (pa_cons (pv 3) pa_nil))) (pv 5) (nomark _)) (pw_or1 (pt_cmpR (op_neD hr) (pe_call C.be.ok hr rfl C.be.m C.be.k C.be.b .nil pass0 (pa_cons (pv 1) (pa_cons (pv 3) pa_nil))) (pv 9) (nomark _))))) pss_dead pss_nil)))))))))))))))))
    (pss_one (ps_ret pe_bl)))⟩
end
end Rim
namespace Rim
open PySem L2 Fr
abbrev natI (l : List Nat) : List V := l.map fun (k : Nat) => V.int (k : Int)
def dNats (l : List Nat) : PyData := .list (l.map fun (k : Nat) => .int (k : Int))
theorem dps_nats {K : W.Frag} {H : Hp} : ∀ l : List Nat, Dps K H (natI l) (l.map fun (k : Nat) => .int (k : Int))
  | [] => .nil
  | k :: r => .cons (.int _) (dps_nats r)
theorem dp_nats {K : W.Frag} {H : Hp} {a : Addr} {l : List Nat} (h : H a = some (.lst (natI l))) : Dp K H (.ref a) (dNats l) := .lst (SqL.of h) (dps_nats l)
theorem lay_nats (l : List Nat) : (dNats l).canLay0 = true := by
  unfold dNats
  rw [PyData.canLay0]
  induction l with
  | nil => rw [List.map_nil, PyData.canLayAll0]
  | cons k r ih => rw [List.map_cons, PyData.canLayAll0, ih, PyData.canLay0]; rfl
theorem depth_nats (l : List Nat) : (dNats l).depth <= 60 := by
  unfold dNats
  have : ∀ l : List Nat, PyData.depthAll (l.map fun (k : Nat) => PyData.int (k : Int)) <= 3 := fun l => by
    induction l with
    | nil => simp [PyData.depthAll]
    | cons k r ih =>
      rw [List.map_cons, PyData.depthAll]
      exact Nat.max_le.mpr ⟨by simp [PyData.depth], ih⟩
  rw [PyData.depth]
  have := this l
  omega
theorem eqv_nil (ds : List PyData) : PyData.eqv (.list ds) (.list []) = ds.isEmpty := by
  rw [PyData.eqv]
  cases ds with
  | nil => rw [PyData.eqvAll]; rfl
  | cons a r => rw [PyData.eqvAll] <;> first | rfl | simp
def dJ : Option Q2 -> PyData
  | none => .none
  | some x => dF x
theorem JV.dp {K : W.Frag} {H : Hp} {v : V} {o : Option Q2} (h : JV H v o) : Dp K H v (dJ o) := by
  cases o with
  | none => have h' : v = .non := h; subst h'; exact .non
  | some x => exact FrV.dp (FrT.v h)
abbrev JL (H : Hp) : List V -> List (Option Q2) -> Prop := PySem.Paired (JV H)
theorem JL.same {H H' : Hp} {ys : List V} {js : List (Option Q2)} (e : Same H H') (h : JL H ys js) : JL H' ys js := Paired.imp' (fun _ _ r => JV.same e r) h
theorem JL.dps {K : W.Frag} {H : Hp} : ∀ {ys : List V} {js : List (Option Q2)}, JL H ys js -> Dps K H ys (js.map dJ)
  | _, _, .nil => .nil
  | _, _, .cons x r => .cons x.dp (JL.dps r)
theorem lay_J (o : Option Q2) : (dJ o).canLay0 = true := by
  cases o with
  | none => show PyData.none.canLay0 = true; rw [PyData.canLay0]
  | some x => exact lay_F x
theorem lay_Js : ∀ js : List (Option Q2), PyData.canLayAll0 (js.map dJ) = true
  | [] => by rw [List.map_nil, PyData.canLayAll0]
  | x :: l => by rw [List.map_cons, PyData.canLayAll0, lay_J, lay_Js l]; rfl
theorem dep_Js : ∀ js : List (Option Q2), PyData.depthAll (js.map dJ) <= 10
  | [] => by rw [List.map_nil]; simp [PyData.depthAll]
  | x :: l => by
    rw [List.map_cons, PyData.depthAll]
    refine Nat.max_le.mpr ⟨?_, dep_Js l⟩
    cases x with
    | none => show PyData.none.depth <= 10; simp [PyData.depth]
    | some x => show (dF x).depth <= 10; unfold dF; simp [PyData.depth, PyData.depthAll]
abbrev dJs (js : List (Option Q2)) : PyData := .list (js.map dJ)
theorem lay_dJs (js : List (Option Q2)) : (dJs js).canLay0 = true := by rw [PyData.canLay0]; exact lay_Js js
theorem dep_dJs (js : List (Option Q2)) : (dJs js).depth <= 60 := by
  have := dep_Js js
  rw [PyData.depth]; omega
def dPr (pt pg : List Int) (ps D : Int) : PyData := .tuple [.list (pt.map fun x => dF (low x D)), .list (pg.map fun x => dF (low x D)), dF (low ps D)]
theorem FrsAt.dps {K : W.Frag} {H : Hp} {D : Int} : ∀ {ys : List V} {xs : List Int}, FrsAt H ys xs D -> Dps K H ys (xs.map fun x => dF (low x D))
  | [], [], _ => .nil
  | [], _ :: _, h => by have := h.1; simp at this
  | _ :: _, [], h => by have := h.1; simp at this
  | y :: ys, x :: xs, h => .cons (FrV.dp (FrT.v (h.2 0 y rfl))) (FrsAt.dps ⟨by have := h.1; simpa using this, fun i z hz => h.2 (i + 1) z hz⟩)
theorem PrA.dp {K : W.Frag} {H : Hp} {t : Addr} {pt pg : List Int} {ps D : Int} (h : PrA H t pt pg ps D) : Dp K H (.ref t) (dPr pt pg ps D) := by
  obtain ⟨fa, ga, u, fts, gts, h1, h2, h3, h4, h5, h6⟩ := h
  exact .tup (SqT.of h1) (.cons (.lst (SqL.of h2) h3.dps) (.cons (.lst (SqL.of h4) h5.dps) (.cons (FrV.dp h6.v) .nil)))
theorem lay_Fl (D : Int) : ∀ l : List Int, PyData.canLayAll0 (l.map fun x => dF (low x D)) = true
  | [] => by rw [List.map_nil, PyData.canLayAll0]
  | x :: l => by rw [List.map_cons, PyData.canLayAll0, lay_F, lay_Fl D l]; rfl
theorem dep_Fl (D : Int) : ∀ l : List Int, PyData.depthAll (l.map fun x => dF (low x D)) <= 10
  | [] => by rw [List.map_nil]; simp [PyData.depthAll]
  | x :: l => by
    rw [List.map_cons, PyData.depthAll]
    refine Nat.max_le.mpr ⟨?_, dep_Fl D l⟩
    unfold dF; simp [PyData.depth, PyData.depthAll]
def dHanded (hs : List House) (pt pg : List Int) (ps D : Int) : PyData := .tuple [.list (hs.map dHouse), dPr pt pg ps D]
theorem lay_handed (hs : List House) (pt pg : List Int) (ps D : Int) : (dHanded hs pt pg ps D).canLay0 = true := by
  unfold dHanded dPr
  simp only [PyData.canLay0, PyData.canLayAll0, lay_book, lay_Fl, lay_F, Bool.and_self]
theorem dep_handed (hs : List House) (pt pg : List Int) (ps D : Int) : (dHanded hs pt pg ps D).depth <= 60 := by
  have h1 := depth_book hs
  have h2 := dep_Fl D pt
  have h3 := dep_Fl D pg
  have h4 : (dF (low ps D)).depth <= 10 := by unfold dF; simp [PyData.depth, PyData.depthAll]
  unfold dHanded dPr
  simp only [PyData.depth, PyData.depthAll]
  omega
theorem best_some {js : List (Option Q2)} {k : Nat} (h : bestQ js k = true) : (js.getD k none).isSome = true := by
  unfold bestQ at h
  rw [List.getD_eq_getElem?_getD]
  cases e : js[k]? with
  | none => rw [e] at h; cases h
  | some o =>
    cases o with
    | none => rw [e] at h; cases h
    | some x => rfl
theorem best_filter (js : List (Option Q2)) (n : Nat) : ((List.range n).filter fun i => (js.getD i none).isSome).filter (bestQ js) = (List.range n).filter (bestQ js) := by
  rw [List.filter_filter]
  refine List.filter_congr fun k _ => ?_
  cases e : bestQ js k with
  | false => simp
  | true => rw [best_some e]; rfl
theorem bestQ_all {js : List (Option Q2)} {n k : Nat} {x : Q2} (hn : n = js.length) (hk : js[k]? = some (some x)) : bestQ js k = !((List.range n).filter fun i => (js.getD i none).isSome).any fun j => match js.getD j none with
    | some y => ltQ x y
    | none => false := by
  subst hn
  have e : bestQ js k = js.all fun o => match o with
    | some y => !ltQ x y
    | none => true := by unfold bestQ; rw [hk] <;> rfl
  rw [e]
  cases q : (((List.range js.length).filter fun i => (js.getD i none).isSome).any fun j => match js.getD j none with
    | some y => ltQ x y
    | none => false) with
  | true =>
    obtain ⟨j, hj, hq⟩ := List.any_eq_true.mp q
    have hj' := List.mem_range.mp (List.mem_filter.mp hj).1
    refine Bool.eq_false_iff.mpr fun z => ?_
    rw [List.getD_eq_getElem?_getD, List.getElem?_eq_getElem hj', Option.getD_some] at hq
    have := List.all_eq_true.mp z js[j] (List.getElem_mem hj')
    cases e : js[j] with
    | none => rw [e] at hq; cases hq
    | some y => rw [e] at hq this; simp only at hq this; rw [hq] at this; cases this
  | false =>
    refine List.all_eq_true.mpr fun o ho => ?_
    cases o with
    | none => rfl
    | some y =>
      obtain ⟨j, hj, he⟩ := List.getElem_of_mem ho
      have gd : js.getD j none = some y := by rw [List.getD_eq_getElem?_getD, List.getElem?_eq_getElem hj, he]; rfl
      have := List.any_eq_false.mp q j (List.mem_filter.mpr ⟨List.mem_range.mpr hj, by rw [gd]; rfl⟩)
      rw [gd] at this
      simpa using this
end Rim
namespace Rim
open PySem L2 Fr
section
variable {P : Program} {w : World} {K : W.Frag} {mg : Str -> Option Value} {base : Heap} {f : Addr} {fd : FuncData} {n : Nat}
def spLaw (K : W.Frag) : Sp := fun vs H Q _ => ∃ (a : Addr) (ns : List Int), vs = [.ref a] /\ SqL K H a (ns.map V.int) /\ ns.length <= 63 /\ ∀ H', Q (.bl true) H'
theorem mem_cut {xs : List V} {lo hi : Option Int} {v : V} (h : v ∈ cutV xs lo hi) : v ∈ xs := List.mem_of_mem_drop (List.mem_of_mem_take h)
set_option maxHeartbeats 16000000 in
theorem ok_law {a1 a2 a3 a4 a5 a6 a7 a8 a9 : Addr} {d1 d2 d3 d4 d5 d6 d7 d8 d9 : FuncData} (F : Fun K "law" "law" sLaw f fd) (T : Nones mg) (C : Calls P w K mg base n a1 a2 a3 a4 a5 a6 a7 a8 a9 d1 d2 d3 d4 d5 d6 d7 d8 d9) :
    FnOk P w K mg base CX0 (n + 1) f fd ["script"] (spLaw K) := by
  refine F.ok scLaw (fun vs H Q E h => ?_) (fun cdv A outer s H vs Q E hr h => ?_)
  . obtain ⟨a, ns, rfl, _⟩ := h
    rfl
  obtain ⟨a, ns, rfl, hS, h63, q⟩ := h
  refine ⟨_, (lawT T C hr).2, ?_⟩
  refine ⟨_, rfl, _, _, rfl, rfl, ⟨by decide, by decide, by decide⟩, a, ns, 0, 12, _, rfl, hS, by decide, by decide, by decide, by decide, fun bl H1 xs hs kt kg e1 hbl hB hn1 hn12 kt1 kt4 kg1 kg4 hG => ?_⟩
  have xlen : xs.length = hs.length := Paired.length hB
  have small := small1000 (show (1000 : Nat) <= 1000 from Nat.le_refl _)
  refine ⟨_, rfl, a, ns, 2, rfl, e1.seq hS, by decide, fun c0 => ?_⟩
  refine ⟨(by show 1 <= sizeLine; decide), fun l0 hl0 => ?_⟩
  have f0 := Same.new hl0 (.lst [V.int c0])
  refine ⟨_, rfl, _, rfl, _, rfl, a, _, rfl, f0.seq (e1.seq hS), fun l1 hl1 => ?_⟩
  have lc := cutV_length (ns.map V.int) (some 3) (some 10)
  rw [List.length_map] at lc
  have mc : ∀ v ∈ cutV (ns.map V.int) (some 3) (some 10), ∃ c, v = .int c := fun v hv => by
    obtain ⟨c, _, rfl⟩ := List.mem_map.mp (mem_cut hv)
    exact ⟨c, rfl⟩
  generalize cutV (ns.map V.int) (some 3) (some 10) = cs at *
  have f1 := Same.new hl1 (.lst cs)
  refine ⟨l0, l1, _, _, rfl, rfl, f1 _ _ upd_same, upd_same, by show 1 + cs.length <= sizeLine; omega, fun l2 hl2 => ?_⟩
  have f2 := Same.new hl2 (.lst ([V.int c0] ++ cs))
  refine ⟨l2, rfl, ⟨_, SqL.of upd_same⟩, ?_⟩
  have e2 : Same H1 _ := f0.trans (f1.trans f2)
  have itn : ∀ (i : Nat) (x : V), ([V.int c0] ++ cs)[i]? = some x -> ∃ c, x = .int c := fun i x hx => by
    rcases List.mem_append.mp (List.mem_of_getElem? hx) with z | z
    . exact ⟨c0, List.mem_singleton.mp z⟩
    . exact mc x z
  generalize [V.int c0] ++ cs = cl at *
  refine for_list (xs := cl) (fun i σ H' => ∃ o2 o3 o4 o5 o6 o7 o8 o9 o10, σ = [some (.ref a), some (.ref bl), o2, o3, o4, o5, o6, o7, o8, o9, o10] /\ Same H1 H' /\ H' l2 = some (.lst cl))
    ⟨_, _, _, _, _, _, _, _, _, rfl, e2, upd_same⟩ (fun i σ H' _ ⟨_, _, _, _, _, _, _, _, _, _, _, h2⟩ => SqL.of h2) ?_ ?_
  rotate_left
  . rintro σ H3 ⟨o2, o3, o4, o5, o6, o7, o8, o9, o10, rfl, e3, hl3⟩
    exact q _
  rintro i x σ H3 hx ⟨o2, o3, o4, o5, o6, o7, o8, o9, o10, rfl, e3, hl3⟩
  obtain ⟨c, rfl⟩ := itn i x hx
  -- prices
  refine ⟨_, rfl, _, rfl, bl, c, xs, hs, 10 ^ 9, kt, kg, rfl, SqL.of (e3 _ _ hbl), Bk.same e3 hB, hn1, hG, kt4, kg4, fun t pt pg ps D H4 e4 hP hN hT => ?_⟩
  have hbl4 := (e3.trans e4) _ _ hbl
  have hB4 := Bk.same (e3.trans e4) hB
  have hl4 := e4 _ _ hl3
  have e14 := e3.trans e4
  clear e4 e3 hl3
  -- handed
  refine ⟨fun σ' H' => ∃ hd hb ht : Addr, σ' = [some (.ref a), some (.ref bl), some (.int c), some (.ref t), some (.ref hd), o5, o6, o7, o8, o9, o10] /\ Same H4 H' /\ H' hd = some (.tup [.ref hb, .ref ht]) /\ H' hb = some (.lst xs) /\ PrA H' ht pt pg ps D, ?_, ?_⟩
  . obtain ⟨fa, ga, u, fts, gts, h1, h2, h3, h4, h5, h6⟩ := id hP
    refine ⟨_, rfl, bl, _, rfl, .inl (SqL.of hbl4), fun b1 k1 => ?_⟩
    have s1 := Same.new k1 (.lst xs)
    refine ⟨_, rfl, t, _, 0, _, rfl, rfl, SqT.of (s1 _ _ h1), trip0 _ _ _, fa, _, rfl, .inl (SqL.of (s1 _ _ h2)), fun b2 k2 => ?_⟩
    have s2 := s1.trans (Same.new k2 (.lst fts))
    refine ⟨_, rfl, t, _, 1, _, rfl, rfl, SqT.of (s2 _ _ h1), trip1 _ _ _, ga, _, rfl, .inl (SqL.of (s2 _ _ h4)), fun b3 k3 => ?_⟩
    have t3 := Same.new k3 (.lst gts)
    have s3 := s2.trans t3
    refine ⟨_, rfl, t, _, 2, _, rfl, rfl, SqT.of (s3 _ _ h1), trip2 _ _ _, (by show 3 <= sizeLine; decide), fun b4 k4 => ?_⟩
    have t4 := Same.new k4 (.tup [V.ref b2, V.ref b3, u])
    refine ⟨(by show 2 <= sizeLine; decide), fun b5 k5 => ?_⟩
    have t5 := Same.new k5 (.tup [V.ref b1, V.ref b4])
    have s5 := s3.trans (t4.trans t5)
    refine ⟨b5, b1, b4, rfl, s5, upd_same, ?_, ?_⟩
    . exact ((Same.new k2 (.lst fts)).trans (t3.trans (t4.trans t5))) _ _ upd_same
    . exact ⟨b2, b3, u, fts, gts, t5 _ _ upd_same, (t3.trans (t4.trans t5)) _ _ upd_same, h3.same s5, (t4.trans t5) _ _ upd_same, h5.same s5, h6.same s5⟩
  intro σ5 H5 hM_; refine gen2 fun G_ hG_ => ?_; obtain ⟨hd, hb, ht, rfl, e5, hhd, hhb, hP'⟩ := hM_; subst hG_
  have hbl5 := e5 _ _ hbl4
  have hB5 := Bk.same e5 hB4
  have hl5 := e5 _ _ hl4
  have hP5 := hP.same e5
  have e15 := e14.trans e5
  clear e5 hbl4 hB4 hl4 hP e14
  -- due
  obtain ⟨js, hjs⟩ : ∃ js, js = hs.map (jud pt pg ps) := ⟨_, rfl⟩
  have jl : js.length = hs.length := by rw [hjs, List.length_map]
  refine ⟨fun σ' H' => ∃ (du : Addr) (ys : List V), σ' = [some (.ref a), some (.ref bl), some (.int c), some (.ref t), some (.ref hd), some (.ref du), o6, o7, o8, o9, o10] /\ Same H5 H' /\ H' du = some (.lst ys) /\ JL H' ys js, ?_, ?_⟩
  . refine ⟨_, rfl, bl, rfl, ⟨_, SqL.of hbl5⟩, fun p hp => ?_⟩
    refine lc_same (itIs_list (SqL.of hbl5)) hp (by omega) (fun i y H' => ∃ h, hs[i]? = some h /\ JV H' y (jud pt pg ps h) /\ y ≠ .ref p) (fun i y Ha Hb ⟨h, h1, h2, h3⟩ st => ?_) (fun i y H2 zs N hy e hp' hNN => ?_) (fun zs H2 e hp' len pr => ?_)
    . refine ⟨h, h1, ?_, h3⟩
      cases o : jud pt pg ps h with
      | none => rw [o] at h2; exact h2
      | some x =>
        rw [o] at h2
        obtain ⟨a, rfl, ha⟩ := h2
        exact ⟨a, rfl, st a _ (fun z => h3 (by rw [z])) ha⟩
    . obtain ⟨h, hh, hHS⟩ := Paired.at hB5 hy
      refine ⟨Wk.set (by decide), _, rfl, _, rfl, y, t, h, pt, pg, ps, D, 10 ^ 9, kt, kg, rfl, hHS.same e, hG h (List.mem_of_getElem? hh), by decide, by omega, by omega, hP5.same e, hN, hT, fun v H6 e6 hv => ?_⟩
      refine hNN v H6 e6 ⟨h, hh, hv, fun z => ?_⟩
      subst z
      cases o : jud pt pg ps h with
      | none => rw [o] at hv; cases (show V.ref p = V.non from hv)
      | some x =>
        rw [o] at hv
        obtain ⟨a, ha1, ha2⟩ := hv
        cases ha1
        rw [e6 _ _ hp'] at ha2
        cases ha2
    . refine ⟨p, zs, rfl, e, hp', ?_⟩
      have : ∀ (zs : List V) (gs : List House), zs.length = gs.length -> (∀ (i : Nat) (z : V), zs[i]? = some z -> ∃ h, gs[i]? = some h /\ JV H2 z (jud pt pg ps h) /\ z ≠ .ref p) -> JL H2 zs (gs.map (jud pt pg ps)) := by
        intro zs
        induction zs with
        | nil => intro gs hl _; cases gs with
          | nil => exact .nil
          | cons _ _ => simp at hl
        | cons z zs ih =>
          intro gs hl hq
          cases gs with
          | nil => simp at hl
          | cons g gs =>
            obtain ⟨h, h1, h2, _⟩ := hq 0 z rfl
            cases h1
            exact .cons h2 (ih gs (by simpa using hl) fun i z hz => hq (i + 1) z hz)
      rw [hjs]
      exact this zs hs (by omega) pr
  intro σ6 H6 hM_; refine gen2 fun G_ hG_ => ?_; obtain ⟨du, ys, rfl, e6, hdu, hJ⟩ := hM_; subst hG_
  have yl : ys.length = js.length := Paired.length hJ
  have hbl6 := e6 _ _ hbl5
  have hB6 := Bk.same e6 hB5
  have hl6 := e6 _ _ hl5
  have hP6 := hP5.same e6
  have hhd6 := e6 _ _ hhd
  have hhb6 := e6 _ _ hhb
  have hPh := hP'.same e6
  have e16 := e15.trans e6
  clear e6 hbl5 hB5 hl5 hP5 hhd hhb hP' e15
  have BhS : ∀ {H' : Hp}, Same H6 H' -> Bk K H' xs hs := fun e => Bk.same e hB6
  -- found
  refine ⟨_, rfl, hd, _, 0, _, rfl, rfl, SqT.of hhd6, pair0 _ _, _, rfl, hd, _, 1, _, rfl, rfl, SqT.of hhd6, pair1 _ _, hb, ht, xs, hs, pt, pg, ps, D, 10 ^ 9, kt, kg, rfl, SqL.of hhb6, hB6, by omega, hG, by decide, by omega, by omega, hPh, hN, fun fo ys1 H7 e7 nfo hfo hJ1 => ?_⟩
  rw [<- hjs] at hJ1
  -- best
  refine ⟨_, rfl, hd, _, 0, _, rfl, rfl, SqT.of (e7 _ _ hhd6), pair0 _ _, _, rfl, hd, _, 1, _, rfl, rfl, SqT.of (e7 _ _ hhd6), pair1 _ _, hb, ht, xs, hs, pt, pg, ps, D, 10 ^ 9, kt, kg, rfl, SqL.of (e7 _ _ hhb6), BhS e7, by omega, hG, by decide, by omega, by omega, hPh.same e7, hN, fun be H8 e8 nbe hbe => ?_⟩
  rw [<- hjs] at hbe
  have hfo8 := e8 _ _ hfo
  have hJ18 := JL.same e8 hJ1
  have e68 := e7.trans e8
  have nfb : fo ≠ be := ne_of_none hfo nbe
  have nbe6 : H6 be = none := by
    cases e : H6 be with
    | none => rfl
    | some o => rw [e7 _ _ e] at nbe; cases nbe
  clear e7 e8 hfo hJ1 nbe
  -- the first test
  refine ⟨fun σ' H' => σ' = [some (.ref a), some (.ref bl), some (.int c), some (.ref t), some (.ref hd), some (.ref du), some (.ref fo), some (.ref be), o8, o9, o10] /\ Same H8 H', ?_, ?_⟩
  . refine ⟨_, rfl, _, rfl, _, rfl, (by show 2 <= sizeLine; decide), fun p hp => ?_⟩
    have sp := Same.new hp (.tup [V.ref bl, V.ref t])
    have e := e68.trans sp
    refine ⟨dHanded hs pt pg ps D, dHanded hs pt pg ps D, .tup (SqT.of (e _ _ hhd6)) (.cons (.lst (SqL.of (e _ _ hhb6)) (Bk.dps (BhS e))) (.cons ((hPh.same e).dp) .nil)), .tup (SqT.of upd_same) (.cons (.lst (SqL.of (e _ _ hbl6)) (Bk.dps (BhS e))) (.cons ((hP6.same e).dp) .nil)), lay_handed _ _ _ _ _, lay_handed _ _ _ _ _, Nat.le_trans (Nat.min_le_left _ _) (dep_handed _ _ _ _ _), _, rfl, ?_⟩
    rw [eqv_refl _ (lay_handed _ _ _ _ _)]
    refine iteF ?_
    refine ⟨_, rfl, _, _, "list", true, rfl, .lst (sp _ _ hfo8), kit_same _, _, rfl, iteF ?_⟩
    refine ⟨_, rfl, _, rfl, dJs js, dJs js, .lst (SqL.of (sp _ _ hfo8)) (JL.dps (JL.same sp hJ18)), .lst (SqL.of (e _ _ hdu)) (JL.dps (JL.same e hJ)), lay_dJs _, lay_dJs _, Nat.le_trans (Nat.min_le_left _ _) (dep_dJs _), _, rfl, ?_⟩
    rw [eqv_refl _ (lay_dJs _)]
    exact iteF ⟨rfl, sp⟩
  intro σ9 H9 hM_; refine gen2 fun G_ hG_ => ?_; obtain ⟨rfl, e9⟩ := hM_; subst hG_
  have canJ : ∀ y, some y ∈ js -> Canon y := fun y hy => by
    rw [hjs] at hy
    obtain ⟨h, hm, e⟩ := List.mem_map.mp hy
    exact jud_canon (hG h hm) (fun x hx => (hN.bt x hx).1) e
  have bigJ : ∀ y, some y ∈ js -> Big 1000000 y.1 /\ Big 1000000 y.2 := fun y hy => by
    rw [hjs] at hy
    obtain ⟨h, hm, e⟩ := List.mem_map.mp hy
    exact jud_bigs (hG h hm) (by decide) (by omega) (by omega) hN e
  have e69 := e68.trans e9
  have hfo9 := e9 _ _ hfo8
  have hbe9 := e9 _ _ hbe
  have y1l : ys1.length = js.length := Paired.length hJ18
  have hJ19 := JL.same e9 hJ18
  clear e68 e9 hfo8 hbe hJ18
  -- all fractions
  refine ⟨fun σ' H' => σ' = [some (.ref a), some (.ref bl), some (.int c), some (.ref t), some (.ref hd), some (.ref du), some (.ref fo), some (.ref be), o8, o9, o10] /\ Same H9 H', ?_, ?_⟩
  . refine ⟨_, rfl, fo, rfl, ⟨_, SqL.of hfo9⟩, fun p hp => ?_⟩
    refine lc_filter (itIs_list (SqL.of hfo9)) hp (by omega) (fun _ => false) (fun i y H' zs N hy e hp' hNN => ?_) (fun zs H' e hp' h0 _ _ => ?_)
    . obtain ⟨j, hj, hv⟩ := Paired.at hJ19 hy
      refine ⟨_, rfl, rfl, _, rfl, ?_⟩
      cases j with
      | none =>
        have hv' : y = .non := hv
        subst hv'
        exact ite2 (fun c => absurd c (by decide)) (fun _ => hNN _ (Same.refl _))
      | some x =>
        have hvx : FrT H9 y x := hv
        have yn : y ≠ .non := fun z => by
          obtain ⟨a, ha, _⟩ := hvx
          rw [ha] at z; cases z
        refine ite2 (fun _ => ?_) (fun c => absurd (show (!decide (y = V.non)) = true by rw [decide_eq_false yn]; rfl) c)
        exact ⟨_, rfl, y, x, rfl, hvx.same e, canJ x (List.mem_of_getElem? hj), _, rfl, hNN _ (Same.refl _)⟩
    . have : zs = [] := h0 fun _ _ => rfl
      subst this
      refine ⟨(by show 0 <= sizeLine; decide), fun ep hep => ?_⟩
      have f8 := Same.new hep (.lst [])
      refine ⟨.list [], .list [], .lst (SqL.of (f8 _ _ hp')) .nil, .lst (SqL.of upd_same) .nil, by decide, by decide, by decide, _, rfl, ?_⟩
      rw [eqv_nil]
      exact iteF ⟨rfl, e.trans f8⟩
  intro σ10 H10 hM_; refine gen2 fun G_ hG_ => ?_; obtain ⟨rfl, e10⟩ := hM_; subst hG_
  have e610 := e69.trans e10
  have hfo10 := e10 _ _ hfo9
  have hbe10 := e10 _ _ hbe9
  clear e69 e10 hfo9 hbe9 hJ19
  have hJ10 := JL.same e610 hJ
  have hdu10 := e610 _ _ hdu
  -- some
  obtain ⟨sm, hsm⟩ : ∃ sm, sm = (List.range js.length).filter fun i => (js.getD i none).isSome := ⟨_, rfl⟩
  refine ⟨fun σ' H' => ∃ sl : Addr, σ' = [some (.ref a), some (.ref bl), some (.int c), some (.ref t), some (.ref hd), some (.ref du), some (.ref fo), some (.ref be), some (.ref sl), o9, o10] /\ Same H10 H' /\ H' sl = some (.lst (natI sm)), ?_, ?_⟩
  . refine ⟨_, rfl, bl, _, rfl, .inl (SqL.of (e610 _ _ hbl6)), _, rfl, by omega, by omega, fun p hp => ?_⟩
    rw [Int.toNat_natCast]
    refine lc_pick itIs_range hp (by simp; omega) (fun v => (js.getD (vI v).toNat none).isSome) (fun i x H' N hx e hNN => ?_) ?_
    . obtain ⟨hi, rfl⟩ : i < xs.length /\ x = V.int (0 + (i : Int)) := by
        have hi : i < xs.length := by have := (List.getElem?_eq_some_iff.mp hx).1; simpa using this
        rw [List.getElem?_map, List.getElem?_range hi] at hx
        exact ⟨hi, (Option.some.inj hx).symm⟩
      obtain ⟨y, hy⟩ : ∃ y, ys[i]? = some y := ⟨_, List.getElem?_eq_getElem (by omega)⟩
      obtain ⟨j, hj, hv⟩ := Paired.at hJ10 hy
      have eF : (!decide (y = V.non)) = (js.getD (vI (V.int (0 + (i : Int)))).toNat none).isSome := by
        have : (vI (V.int (0 + (i : Int)))).toNat = i := by show (0 + (i : Int)).toNat = i; omega
        rw [this, List.getD_eq_getElem?_getD, hj, Option.getD_some]
        cases j with
        | none => have hv' : y = .non := hv; rw [hv']; rfl
        | some x =>
          obtain ⟨b, rfl, _⟩ := (show FrT H10 y x from hv)
          rfl
      refine ⟨_, rfl, _, rfl, du, _, _, y, rfl, rfl, SqL.of (e _ _ hdu10), by rw [Int.zero_add]; exact atI_nat hy, rfl, _, rfl, ?_⟩
      rw [eF]
      exact hNN
    . have ef : (((List.range xs.length).map fun (i : Nat) => V.int (0 + (i : Int))).filter fun v => (js.getD (vI v).toNat none).isSome) = natI sm := by
        rw [List.filter_map, hsm, show xs.length = js.length by omega]
        have : ((fun v => (js.getD (vI v).toNat none).isSome) ∘ fun (i : Nat) => V.int (0 + (i : Int))) = fun i => (js.getD i none).isSome := by
          funext i
          have : (vI (V.int (0 + (i : Int)))).toNat = i := by show (0 + (i : Int)).toNat = i; omega
          show (js.getD (vI (V.int (0 + (i : Int)))).toNat none).isSome = _
          rw [this]
        rw [this]
        refine List.map_congr_left fun i _ => ?_
        rw [Int.zero_add]
      rw [ef]
      exact ⟨p, rfl, Same.new hp _, upd_same⟩
  intro σ11 H11 hM_; refine gen2 fun G_ hG_ => ?_; obtain ⟨sl, rfl, e11, hsl⟩ := hM_; subst hG_
  have smS : ∀ k ∈ sm, k < js.length /\ ∃ x, js[k]? = some (some x) := fun k hk => by
    rw [hsm] at hk
    obtain ⟨h1, h2⟩ := List.mem_filter.mp hk
    have h1' := List.mem_range.mp h1
    refine ⟨h1', ?_⟩
    rw [List.getD_eq_getElem?_getD, List.getElem?_eq_getElem h1', Option.getD_some] at h2
    obtain ⟨x, hx⟩ := Option.isSome_iff_exists.mp h2
    exact ⟨x, by rw [List.getElem?_eq_getElem h1', hx]⟩
  have sml : sm.length <= 12 := by
    rw [hsm]
    have := List.length_filter_le (fun i => (js.getD i none).isSome) (List.range js.length)
    rw [List.length_range] at this
    omega
  have e611 := e610.trans e11
  have hfo11 := e11 _ _ hfo10
  have hbe11 := e11 _ _ hbe10
  clear e610 e11 hfo10 hbe10 hJ10 hdu10
  -- good
  refine ⟨(by show 0 <= sizeLine; decide), fun gl hgl => ?_⟩
  have t12 := Same.new hgl (.lst [])
  refine ⟨fun σ' H' => ∃ o10, σ' = [some (.ref a), some (.ref bl), some (.int c), some (.ref t), some (.ref hd), some (.ref du), some (.ref fo), some (.ref be), some (.ref sl), some (.ref gl), o10] /\ Same H11 H' /\ H' gl = some (.lst (natI (sm.filter (bestQ js)))), ?_, ?_⟩
  . refine ⟨_, rfl, sl, rfl, ⟨_, SqL.of (t12 _ _ hsl)⟩, ?_⟩
    refine for_list (xs := natI sm) (fun i σ H' => ∃ o10, σ = [some (.ref a), some (.ref bl), some (.int c), some (.ref t), some (.ref hd), some (.ref du), some (.ref fo), some (.ref be), some (.ref sl), some (.ref gl), o10] /\ Same H11 H' /\ H' gl = some (.lst (natI ((sm.take i).filter (bestQ js)))))
      ⟨_, rfl, t12, upd_same⟩ (fun i σ H' _ ⟨_, _, e, _⟩ => SqL.of (e _ _ hsl)) ?_ ?_
    rotate_left
    . rintro σ H' ⟨o10, rfl, e, hg⟩
      rw [List.take_of_length_le (by simp)] at hg
      exact ⟨_, rfl, e, hg⟩
    rintro i kv σ H12 hkv ⟨o10, rfl, e12, hg12⟩
    obtain ⟨k, hk, rfl⟩ : ∃ k, sm[i]? = some k /\ kv = V.int (k : Int) := by
      rw [List.getElem?_map] at hkv
      cases e : sm[i]? with
      | none => rw [e] at hkv; cases hkv
      | some k => rw [e] at hkv; cases hkv; exact ⟨k, rfl, rfl⟩
    have mk := List.mem_of_getElem? hk
    obtain ⟨kl, x, hx⟩ := smS k mk
    have hsl12 := e12 _ _ hsl
    have e612 := e611.trans e12
    have hdu12 := e612 _ _ hdu
    have hJ12 := JL.same e612 hJ
    have bx := bigJ x (List.mem_of_getElem? hx)
    obtain ⟨yk, hyk⟩ : ∃ y, ys[k]? = some y := ⟨_, List.getElem?_eq_getElem (by omega)⟩
    obtain ⟨jk, hjk, hvk⟩ := Paired.at hJ12 hyk
    rw [hx] at hjk; cases hjk
    have tk : (sm.take (i + 1)).filter (bestQ js) = (sm.take i).filter (bestQ js) ++ (if bestQ js k = true then [k] else []) := by
      rw [List.take_succ, hk, List.filter_append]
      congr 1
      cases e : bestQ js k <;> simp [e]
    refine ⟨_, rfl, sl, rfl, ⟨_, SqL.of hsl12⟩, fun p hp => ?_⟩
    refine lc_filter (itIs_list (SqL.of hsl12)) hp (by simp; omega) (fun m => match js.getD (sm.getD m 0) none with | some y => ltQ x y | none => false) (fun m v H' zs N hv e hp' hNN => ?_) (fun zs H' e hp' h0 h1 hm => ?_)
    . obtain ⟨j, hj, rfl⟩ : ∃ j, sm[m]? = some j /\ v = V.int (j : Int) := by
        rw [List.getElem?_map] at hv
        cases e : sm[m]? with
        | none => rw [e] at hv; cases hv
        | some k => rw [e] at hv; cases hv; exact ⟨k, rfl, rfl⟩
      obtain ⟨jl', y, hy⟩ := smS j (List.mem_of_getElem? hj)
      obtain ⟨yj, hyj⟩ : ∃ y, ys[j]? = some y := ⟨_, List.getElem?_eq_getElem (by omega)⟩
      obtain ⟨jj, hjj, hvj⟩ := Paired.at hJ12 hyj
      rw [hy] at hjj; cases hjj
      have bj := bigJ y (List.mem_of_getElem? hy)
      have := hNN _ (Same.refl _)
      rw [show sm.getD m 0 = j by rw [List.getD_eq_getElem?_getD, hj, Option.getD_some], show js.getD j none = some y by rw [List.getD_eq_getElem?_getD, hy, Option.getD_some]] at this
      exact ⟨_, rfl, _, rfl, du, _, _, yk, rfl, rfl, SqL.of (e _ _ hdu12), atI_nat hyk, _, rfl, _, rfl, du, _, _, yj, rfl, rfl, SqL.of (e _ _ hdu12), atI_nat hyj, yk, yj, x, y, rfl, (FrT.same e hvk).v, (FrT.same e hvj).v, ⟨bx.1, bx.2, bj.1, bj.2⟩, _, rfl, this⟩
    . refine ⟨(by show 0 <= sizeLine; decide), fun ep hep => ?_⟩
      have f8 := Same.new hep (.lst [])
      obtain ⟨zn, rfl⟩ : ∃ zn : List Nat, zs = natI zn := by
        have : ∀ zs : List V, (∀ y ∈ zs, y ∈ natI sm) -> ∃ zn : List Nat, zs = natI zn := by
          intro zs
          induction zs with
          | nil => intro _; exact ⟨[], rfl⟩
          | cons z r ih =>
            intro h
            obtain ⟨zn, e⟩ := ih fun y hy => h y (List.mem_cons_of_mem _ hy)
            obtain ⟨k, _, hk⟩ := List.mem_map.mp (h z List.mem_cons_self)
            exact ⟨k :: zn, by rw [e, <- hk]; rfl⟩
        exact this zs hm
      refine ⟨dNats zn, .list [], dp_nats (f8 _ _ hp'), .lst (SqL.of upd_same) .nil, lay_nats _, by decide, Nat.le_trans (Nat.min_le_left _ _) (depth_nats _), _, rfl, ?_⟩
      have ez : PyData.eqv (dNats zn) (.list []) = bestQ js k := by
        unfold dNats
        rw [eqv_nil, bestQ_all rfl hx, <- hsm]
        cases q : (sm.any fun j => match js.getD j none with
            | some y => ltQ x y
            | none => false) with
        | true =>
          obtain ⟨j, hj, hq⟩ := List.any_eq_true.mp q
          obtain ⟨m, hm', rfl⟩ := List.getElem_of_mem hj
          have := h1 ⟨m, by simpa using hm', by
            show (match js.getD (sm.getD m 0) none with | some y => ltQ x y | none => false) = true
            rw [List.getD_eq_getElem?_getD (l := sm), List.getElem?_eq_getElem hm', Option.getD_some]
            exact hq⟩
          cases zn with
          | nil => exact absurd rfl this
          | cons a r => rfl
        | false =>
          have := h0 fun m hm' => by
            have hm'' : m < sm.length := by simpa using hm'
            have := List.any_eq_false.mp q sm[m] (List.getElem_mem hm'')
            show (match js.getD (sm.getD m 0) none with | some y => ltQ x y | none => false) = false
            rw [List.getD_eq_getElem?_getD (l := sm), List.getElem?_eq_getElem hm'', Option.getD_some]
            exact Bool.eq_false_iff.mpr this
          cases zn with
          | nil => rfl
          | cons a r => cases this
      rw [ez]
      have eH := e.trans f8
      have hgl' := eH _ _ hg12
      refine ite2 (fun c => ?_) (fun c => ?_)
      . refine ⟨_, rfl, .inl ⟨rfl, _, SqL.of hgl'⟩, _, rfl, gl, _, _, rfl, rfl, hgl', ?_, ?_⟩
        . have : ((sm.take i).filter (bestQ js)).length <= 12 := Nat.le_trans (List.length_filter_le _ _) (by rw [List.length_take]; omega)
          rw [List.length_map]; omega
        . refine ⟨_, rfl, (e12.trans eH).write hgl, ?_⟩
          rw [upd_same, tk, if_pos c]
          simp [natI]
      . refine ⟨_, rfl, e12.trans eH, ?_⟩
        rw [tk, if_neg c, List.append_nil]
        exact hgl'
  intro σ13 H13 hM_; refine gen2 fun G_ hG_ => ?_; obtain ⟨o10, rfl, e13, hgl13⟩ := hM_; subst hG_
  have eb : sm.filter (bestQ js) = (List.range hs.length).filter (bestQ js) := by rw [hsm, best_filter, jl]
  rw [eb] at hgl13
  obtain ⟨bs, hbs⟩ : ∃ bs, bs = (List.range hs.length).filter (bestQ js) := ⟨_, rfl⟩
  rw [<- hbs] at hgl13 hbe11
  have bsl : bs.length <= 12 := by
    rw [hbs]
    have := List.length_filter_le (bestQ js) (List.range hs.length)
    rw [List.length_range] at this
    omega
  have e613 := e611.trans e13
  have hfo13 := e13 _ _ hfo11
  have hbe13 := e13 _ _ hbe11
  have ngf : gl ≠ fo := fun z => by rw [z, hfo11] at hgl; cases hgl
  have ngb : gl ≠ be := fun z => by rw [z, hbe11] at hgl; cases hgl
  clear e611 e13 hfo11 hbe11
  -- best
  refine ⟨fun σ' H' => σ' = [some (.ref a), some (.ref bl), some (.int c), some (.ref t), some (.ref hd), some (.ref du), some (.ref fo), some (.ref be), some (.ref sl), some (.ref gl), o10] /\ H13 = H', ?_, ?_⟩
  . refine ⟨_, rfl, _, _, "list", true, rfl, .lst hbe13, kit_same _, _, rfl, iteF ?_⟩
    refine ⟨_, rfl, _, rfl, dNats bs, dNats bs, dp_nats hbe13, dp_nats hgl13, lay_nats _, lay_nats _, Nat.le_trans (Nat.min_le_left _ _) (depth_nats _), _, rfl, ?_⟩
    rw [eqv_refl _ (lay_nats _)]
    exact iteF ⟨rfl, rfl⟩
  rintro _ _ ⟨rfl, rfl⟩
  -- whole numbers
  refine ⟨fun σ' H' => σ' = [some (.ref a), some (.ref bl), some (.int c), some (.ref t), some (.ref hd), some (.ref du), some (.ref fo), some (.ref be), some (.ref sl), some (.ref gl), o10] /\ Same H13 H', ?_, ?_⟩
  . refine ⟨_, rfl, be, rfl, ⟨_, SqL.of hbe13⟩, fun p hp => ?_⟩
    refine lc_filter (itIs_list (SqL.of hbe13)) hp (by simp; omega) (fun _ => false) (fun i y H' zs N hy e hp' hNN => ?_) (fun zs H' e hp' h0 _ _ => ?_)
    . obtain ⟨k, rfl⟩ : ∃ k : Int, y = V.int k := by
        obtain ⟨k, _, hk⟩ := List.mem_map.mp (List.mem_of_getElem? hy)
        exact ⟨_, hk.symm⟩
      exact ⟨_, rfl, k, rfl, _, rfl, hNN _ (Same.refl _)⟩
    . have : zs = [] := h0 fun _ _ => rfl
      subst this
      refine ⟨(by show 0 <= sizeLine; decide), fun ep hep => ?_⟩
      have f8 := Same.new hep (.lst [])
      refine ⟨.list [], .list [], .lst (SqL.of (f8 _ _ hp')) .nil, .lst (SqL.of upd_same) .nil, by decide, by decide, by decide, _, rfl, ?_⟩
      rw [eqv_nil]
      exact iteF ⟨rfl, e.trans f8⟩
  intro σ14 H14 hM_; refine gen2 fun G_ hG_ => ?_; obtain ⟨rfl, e14⟩ := hM_; subst hG_
  have hfo14 := e14 _ _ hfo13
  have hbe14 := e14 _ _ hbe13
  have hgl14 := e14 _ _ hgl13
  have e614 := e613.trans e14
  clear e613 e14 hfo13 hbe13 hgl13
  -- the told lists changed
  refine ⟨_, rfl, .inl ⟨rfl, _, SqL.of hfo14⟩, fo, _, _, rfl, rfl, hfo14, by omega, ?_⟩
  have w1 := e614.write (o := .lst (ys1 ++ [V.non])) nfo
  have hbe15 : upd H14 fo (.lst (ys1 ++ [V.non])) be = some (.lst (natI bs)) := by rw [upd_ne nfb.symm]; exact hbe14
  have hgl15 : upd H14 fo (.lst (ys1 ++ [V.non])) gl = some (.lst (natI bs)) := by rw [upd_ne ngf]; exact hgl14
  generalize upd H14 fo (.lst (ys1 ++ [V.non])) = H15 at *
  refine ⟨_, rfl, .inl ⟨rfl, _, SqL.of hbe15⟩, be, _, _, rfl, rfl, hbe15, by simp; omega, ?_⟩
  have w2 := w1.write (o := .lst (natI bs ++ [V.int 7])) nbe6
  have hgl16 : upd H15 be (.lst (natI bs ++ [V.int 7])) gl = some (.lst (natI bs)) := by rw [upd_ne ngb]; exact hgl15
  generalize upd H15 be (.lst (natI bs ++ [V.int 7])) = H16 at *
  -- told again
  refine ⟨_, rfl, _, rfl, bl, t, xs, hs, pt, pg, ps, D, 10 ^ 9, kt, kg, rfl, SqL.of (w2 _ _ hbl6), BhS w2, by omega, hG, by decide, by omega, by omega, hP6.same w2, hN, fun fo2 ys2 H17 e17 _ hfo2 hJ2 => ?_⟩
  rw [<- hjs] at hJ2
  have e617 := w2.trans e17
  refine ⟨_, rfl, dJs js, dJs js, .lst (SqL.of hfo2) (JL.dps hJ2), .lst (SqL.of (e617 _ _ hdu)) (JL.dps (JL.same e617 hJ)), lay_dJs _, lay_dJs _, Nat.le_trans (Nat.min_le_left _ _) (dep_dJs _), _, rfl, ?_⟩
  rw [eqv_refl _ (lay_dJs _)]
  refine iteF ?_
  refine ⟨_, rfl, _, rfl, bl, t, xs, hs, pt, pg, ps, D, 10 ^ 9, kt, kg, rfl, SqL.of (e617 _ _ hbl6), BhS e617, by omega, hG, by decide, by omega, by omega, hP6.same e617, hN, fun be2 H18 e18 _ hbe2 => ?_⟩
  rw [<- hjs, <- hbs] at hbe2
  refine ⟨_, rfl, dNats bs, dNats bs, dp_nats hbe2, dp_nats (e18 _ _ (e17 _ _ hgl16)), lay_nats _, lay_nats _, Nat.le_trans (Nat.min_le_left _ _) (depth_nats _), _, rfl, ?_⟩
  rw [eqv_refl _ (lay_nats _)]
  exact iteF ⟨_, _, _, _, _, _, _, _, _, rfl, e16.trans (e617.trans e18), (e617.trans e18) _ _ hl6⟩
end
end Rim
namespace L2
open PySem PySem.W
def FunI (K : Frag) (x qual : Str) (st : Stmt) (f : Addr) (cd : Value) : Prop := ∃ oc od kV dc pm an ct sl, K.lookup f = some ⟨oc, od, .func (fnOf x qual (defArgs st) (defBody st) (defScope st) .none kV dc pm an cd ct), sl⟩ /\ codeIn K cd qual = true /\ keepIn K (.ref f) = true
theorem fun_in {K : Frag} {x qual : Str} {st : Stmt} {f : Addr} {cd oc kV dc pm ct : Value} {od an : Option Addr} {sl : Array (Option Value)} (l : K.lookup f = some ⟨oc, od, .func (fnOf x qual (defArgs st) (defBody st) (defScope st) .none kV dc pm an cd ct), sl⟩) (c : codeIn K cd qual = true) (k : keepIn K (.ref f) = true) : FunI K x qual st f cd := ⟨_, _, _, _, _, _, _, _, l, c, k⟩
theorem FunI.fn {K : Frag} {x qual : Str} {st : Stmt} {f : Addr} {cd : Value} (h : FunI K x qual st f cd) : ∃ fd, Fun K x qual st f fd /\ fd.code = cd /\ keepIn K (.ref f) = true := by
  obtain ⟨_, _, _, _, _, _, _, _, l, c, k⟩ := h
  exact ⟨_, fun_mk l c k, rfl, k⟩
theorem Fun.b1 {K : Frag} {x qual : Str} {st : Stmt} {f : Addr} {fd : FuncData} {p0 : Str} (F : Fun K x qual st f fd) (h : ∀ (kV doc pm : Value) (an : Option Addr) (cdv ct v0 : Value), bindArgs (fnOf x qual (defArgs st) (defBody st) (defScope st) .none kV doc pm an cdv ct) ⟨[v0], []⟩ = pure [(p0, v0)]) : Binds K fd [p0] [] :=
  F.binds fun a b c d e g us hl => match us, hl with | [v0], _ => h a b c d e g v0
theorem Fun.b2 {K : Frag} {x qual : Str} {st : Stmt} {f : Addr} {fd : FuncData} {p0 p1 : Str} (F : Fun K x qual st f fd) (h : ∀ (kV doc pm : Value) (an : Option Addr) (cdv ct v0 v1 : Value), bindArgs (fnOf x qual (defArgs st) (defBody st) (defScope st) .none kV doc pm an cdv ct) ⟨[v0, v1], []⟩ = pure [(p0, v0), (p1, v1)]) : Binds K fd [p0, p1] [] :=
  F.binds fun a b c d e g us hl => match us, hl with | [v0, v1], _ => h a b c d e g v0 v1
theorem Fun.b3 {K : Frag} {x qual : Str} {st : Stmt} {f : Addr} {fd : FuncData} {p0 p1 p2 : Str} (F : Fun K x qual st f fd) (h : ∀ (kV doc pm : Value) (an : Option Addr) (cdv ct v0 v1 v2 : Value), bindArgs (fnOf x qual (defArgs st) (defBody st) (defScope st) .none kV doc pm an cdv ct) ⟨[v0, v1, v2], []⟩ = pure [(p0, v0), (p1, v1), (p2, v2)]) : Binds K fd [p0, p1, p2] [] :=
  F.binds fun a b c d e g us hl => match us, hl with | [v0, v1, v2], _ => h a b c d e g v0 v1 v2
theorem Fun.b4 {K : Frag} {x qual : Str} {st : Stmt} {f : Addr} {fd : FuncData} {p0 p1 p2 p3 : Str} (F : Fun K x qual st f fd) (h : ∀ (kV doc pm : Value) (an : Option Addr) (cdv ct v0 v1 v2 v3 : Value), bindArgs (fnOf x qual (defArgs st) (defBody st) (defScope st) .none kV doc pm an cdv ct) ⟨[v0, v1, v2, v3], []⟩ = pure [(p0, v0), (p1, v1), (p2, v2), (p3, v3)]) : Binds K fd [p0, p1, p2, p3] [] :=
  F.binds fun a b c d e g us hl => match us, hl with | [v0, v1, v2, v3], _ => h a b c d e g v0 v1 v2 v3
end L2
namespace Rim
open PySem L2 Fr
set_option maxHeartbeats 16000000 in
theorem all_mk {l : W.OpenLaw} {w : World} {K : W.Frag} {h : Heap} {mg : Str -> Option Value} {fa : Addr} (X : K.In h) (G : h.Ns mainGlobals mg) (hfa : mg "law" = some (.ref fa))
    {f1 f2 f3 f4 f5 f6 f7 f8 f9 f10 f11 f12 f13 f14 f15 f16 f17 f18 f19 f20 f21 : Addr} {cd1 cd2 cd3 cd4 cd5 cd6 cd7 cd8 cd9 cd10 cd11 cd12 cd13 cd14 cd15 cd16 cd17 cd18 cd19 cd20 ocL kVL dcL pmL cdL ctL : Value} {odL anL : Option Addr} {slL : Array (Option Value)}
    (a1 : W.nsIn K mainGlobals "_law_cell_at" = some (some (.ref f1)))
    (l1 : FunI K "_law_cell_at" "_law_cell_at" sCell f1 cd1)
    (a2 : W.nsIn K mainGlobals "_law_draws" = some (some (.ref f2)))
    (l2 : FunI K "_law_draws" "_law_draws" sDraws f2 cd2)
    (a3 : W.nsIn K mainGlobals "_law_near" = some (some (.ref f3)))
    (l3 : FunI K "_law_near" "_law_near" sNear f3 cd3)
    (a4 : W.nsIn K mainGlobals "_law_a_book" = some (some (.ref f4)))
    (l4 : FunI K "_law_a_book" "_law_a_book" sABook f4 cd4)
    (a5 : W.nsIn K mainGlobals "_law_common" = some (some (.ref f5)))
    (l5 : FunI K "_law_common" "_law_common" sCommon f5 cd5)
    (a6 : W.nsIn K mainGlobals "_law_low" = some (some (.ref f6)))
    (l6 : FunI K "_law_low" "_law_low" sLlow f6 cd6)
    (a7 : W.nsIn K mainGlobals "_law_a_prices" = some (some (.ref f7)))
    (l7 : FunI K "_law_a_prices" "_law_a_prices" s__law_a_prices f7 cd7)
    (a8 : W.nsIn K mainGlobals "_law_sum" = some (some (.ref f8)))
    (l8 : FunI K "_law_sum" "_law_sum" sSum f8 cd8)
    (a9 : W.nsIn K mainGlobals "_law_judged" = some (some (.ref f9)))
    (l9 : FunI K "_law_judged" "_law_judged" s__law_judged f9 cd9)
    (a10 : W.nsIn K mainGlobals "common_divisor" = some (some (.ref f10)))
    (l10 : FunI K "common_divisor" "common_divisor" sDiv f10 cd10)
    (a11 : W.nsIn K mainGlobals "over_one_bottom" = some (some (.ref f11)))
    (l11 : FunI K "over_one_bottom" "over_one_bottom" s_over_one_bottom f11 cd11)
    (a12 : W.nsIn K mainGlobals "come_to" = some (some (.ref f12)))
    (l12 : FunI K "come_to" "come_to" sComeTo f12 cd12)
    (a13 : W.nsIn K mainGlobals "worths" = some (some (.ref f13)))
    (l13 : FunI K "worths" "worths" s_worths f13 cd13)
    (a14 : W.nsIn K mainGlobals "lowest" = some (some (.ref f14)))
    (l14 : FunI K "lowest" "lowest" sLow f14 cd14)
    (a15 : W.nsIn K mainGlobals "judged" = some (some (.ref f15)))
    (l15 : FunI K "judged" "judged" s_judged f15 cd15)
    (a16 : W.nsIn K mainGlobals "compared" = some (some (.ref f16)))
    (l16 : FunI K "compared" "compared" s_compared f16 cd16)
    (a17 : W.nsIn K mainGlobals "best_at" = some (some (.ref f17)))
    (l17 : FunI K "best_at" "best_at" s_best_at f17 cd17)
    (a18 : W.nsIn K mainGlobals "_law_a_whole" = some (some (.ref f18)))
    (l18 : FunI K "_law_a_whole" "_law_a_whole" sWhole f18 cd18)
    (a19 : W.nsIn K mainGlobals "_law_is_fraction" = some (some (.ref f19)))
    (l19 : FunI K "_law_is_fraction" "_law_is_fraction" sIsFr f19 cd19)
    (a20 : W.nsIn K mainGlobals "_law_less" = some (some (.ref f20)))
    (l20 : FunI K "_law_less" "_law_less" s__law_less f20 cd20)
    (a21 : W.nsIn K mainGlobals "law" = some (some (.ref f21)))
    (l21 : K.lookup f21 = some ⟨ocL, odL, .func (W.fnOf "law" "law" (defArgs sLaw) (defBody sLaw) (defScope sLaw) .none kVL dcL pmL anL cdL ctL), slL⟩)
    (c21 : W.codeIn K cdL "law" = true)
    (k21 : W.keepIn K (.ref f21) = true)
    (z1 : W.nsIn K mainGlobals "len" = some none)
    (z2 : W.nsIn K mainGlobals "all" = some none)
    (z3 : W.nsIn K mainGlobals "any" = some none)
    (z4 : W.nsIn K mainGlobals "max" = some none)
    (z5 : W.nsIn K mainGlobals "min" = some none)
    (z6 : W.nsIn K mainGlobals "sum" = some none)
    (z7 : W.nsIn K mainGlobals "tuple" = some none)
    (z8 : W.nsIn K mainGlobals "list" = some none)
    (z9 : W.nsIn K mainGlobals "int" = some none)
    (z10 : W.nsIn K mainGlobals "bool" = some none)
    (z11 : W.nsIn K mainGlobals "range" = some none)
    (z12 : W.nsIn K mainGlobals "isinstance" = some none)
    (z13 : W.nsIn K mainGlobals "abs" = some none)
    (z14 : W.nsIn K mainGlobals "zip" = some none)
    (z15 : W.nsIn K mainGlobals "enumerate" = some none)
    (z16 : W.nsIn K mainGlobals "ValueError" = some none)
    (z17 : W.nsIn K mainGlobals "sorted" = some none)
    : ∃ fd : FuncData, (∀ (s : Shared) (v : Value), BindsTo s fd ⟨[v], []⟩ [("script", v)]) /\ ∀ base : Heap, K.In base -> base.Ns mainGlobals mg -> FnOk l.prog w K mg base CX0 6 fa fd ["script"] (spLaw K) := by
  have e := hfa.symm.trans (W.mg_of X G a21)
  cases e
  obtain ⟨_, F1, hc1, k1⟩ := l1.fn
  obtain ⟨_, F2, hc2, k2⟩ := l2.fn
  obtain ⟨_, F3, hc3, k3⟩ := l3.fn
  obtain ⟨_, F4, hc4, k4⟩ := l4.fn
  obtain ⟨_, F5, hc5, k5⟩ := l5.fn
  obtain ⟨_, F6, hc6, k6⟩ := l6.fn
  obtain ⟨_, F7, hc7, k7⟩ := l7.fn
  obtain ⟨_, F8, hc8, k8⟩ := l8.fn
  obtain ⟨_, F9, hc9, k9⟩ := l9.fn
  obtain ⟨_, F10, hc10, k10⟩ := l10.fn
  obtain ⟨_, F11, hc11, k11⟩ := l11.fn
  obtain ⟨_, F12, hc12, k12⟩ := l12.fn
  obtain ⟨_, F13, hc13, k13⟩ := l13.fn
  obtain ⟨_, F14, hc14, k14⟩ := l14.fn
  obtain ⟨_, F15, hc15, k15⟩ := l15.fn
  obtain ⟨_, F16, hc16, k16⟩ := l16.fn
  obtain ⟨_, F17, hc17, k17⟩ := l17.fn
  obtain ⟨_, F18, hc18, k18⟩ := l18.fn
  obtain ⟨_, F19, hc19, k19⟩ := l19.fn
  obtain ⟨_, F20, hc20, k20⟩ := l20.fn
  have F21 := fun_mk (st := sLaw) l21 c21 k21
  have b1 : Binds K _ ["script", "k"] [] := F1.b2 fun _ _ _ _ _ _ _ _ => rfl
  have b2 : Binds K _ ["cell", "many", "base"] [] := F2.b3 fun _ _ _ _ _ _ _ _ _ => rfl
  have b3 : Binds K _ ["house", "picks", "far"] [] := F3.b3 fun _ _ _ _ _ _ _ _ _ => rfl
  have b4 : Binds K _ ["script", "at", "most", "far"] [] := F4.b4 fun _ _ _ _ _ _ _ _ _ _ => rfl
  have b5 : Binds K _ ["one", "other"] [] := F5.b2 fun _ _ _ _ _ _ _ _ => rfl
  have b6 : Binds K _ ["top", "bottom"] [] := F6.b2 fun _ _ _ _ _ _ _ _ => rfl
  have b7 : Binds K _ ["book", "cell"] [] := F7.b2 fun _ _ _ _ _ _ _ _ => rfl
  have b8 : Binds K _ ["numbers", "parts"] [] := F8.b2 fun _ _ _ _ _ _ _ _ => rfl
  have b9 : Binds K _ ["house", "prices"] [] := F9.b2 fun _ _ _ _ _ _ _ _ => rfl
  have b10 : Binds K _ ["one", "other"] [] := F10.b2 fun _ _ _ _ _ _ _ _ => rfl
  have b11 : Binds K _ ["ones"] [] := F11.b1 fun _ _ _ _ _ _ _ => rfl
  have b12 : Binds K _ ["amounts", "tops"] [] := F12.b2 fun _ _ _ _ _ _ _ _ => rfl
  have b13 : Binds K _ ["book", "prices"] [] := F13.b2 fun _ _ _ _ _ _ _ _ => rfl
  have b14 : Binds K _ ["top", "bottom"] [] := F14.b2 fun _ _ _ _ _ _ _ _ => rfl
  have b15 : Binds K _ ["book", "prices"] [] := F15.b2 fun _ _ _ _ _ _ _ _ => rfl
  have b16 : Binds K _ ["one", "other"] [] := F16.b2 fun _ _ _ _ _ _ _ _ => rfl
  have b17 : Binds K _ ["book", "prices"] [] := F17.b2 fun _ _ _ _ _ _ _ _ => rfl
  have b18 : Binds K _ ["found"] [] := F18.b1 fun _ _ _ _ _ _ _ => rfl
  have b19 : Binds K _ ["one"] [] := F19.b1 fun _ _ _ _ _ _ _ => rfl
  have b20 : Binds K _ ["one", "other"] [] := F20.b2 fun _ _ _ _ _ _ _ _ => rfl
  have T : Nones mg := ⟨W.mg_none_of X G z1, W.mg_none_of X G z2, W.mg_none_of X G z3, W.mg_none_of X G z4, W.mg_none_of X G z5, W.mg_none_of X G z6, W.mg_none_of X G z7, W.mg_none_of X G z8, W.mg_none_of X G z9, W.mg_none_of X G z10, W.mg_none_of X G z11, W.mg_none_of X G z12, W.mg_none_of X G z13, W.mg_none_of X G z14, W.mg_none_of X G z15, W.mg_none_of X G z16, W.mg_none_of X G z17⟩
  refine ⟨W.fnOf "law" "law" (defArgs sLaw) (defBody sLaw) (defScope sLaw) .none kVL dcL pmL anL cdL ctL, fun s v => .of_eq rfl, fun base _ _ => ?_⟩
  have g1 := fun n : Nat => ok_cell (mg := mg) (P := l.prog) (w := w) (base := base) (n := n) F1 T
  have g2 := fun n : Nat => ok_draws (mg := mg) (P := l.prog) (w := w) (base := base) (n := n) F2 T
  have g3 := fun n : Nat => ok_near (mg := mg) (P := l.prog) (w := w) (base := base) (n := n) F3 T
  have g4 := fun n : Nat => ok_abook (mg := mg) (P := l.prog) (w := w) (base := base) F4 T (g1 (n + 0)) b1 k1 (W.mg_of X G a1) (g2 (n + 0)) b2 k2 (W.mg_of X G a2) (g3 (n + 0)) b3 k3 (W.mg_of X G a3)
  have g5 := fun n : Nat => ok_common (mg := mg) (P := l.prog) (w := w) (base := base) (n := n) F5
  have g6 := fun n : Nat => ok_llow (mg := mg) (P := l.prog) (w := w) (base := base) F6 T ⟨g5 (n + 0), b5, k5, (W.mg_of X G a5)⟩
  have g7 := fun n : Nat => ok_aprices (mg := mg) (P := l.prog) (w := w) (base := base) F7 T ⟨g2 (n + 1), b2, k2, (W.mg_of X G a2)⟩ ⟨g6 (n + 0), b6, k6, (W.mg_of X G a6)⟩
  have g8 := fun n : Nat => ok_sum (mg := mg) (P := l.prog) (w := w) (base := base) F8 T ⟨g5 (n + 1), b5, k5, (W.mg_of X G a5)⟩ ⟨g6 (n + 0), b6, k6, (W.mg_of X G a6)⟩
  have g9 := fun n : Nat => ok_ljudged (mg := mg) (P := l.prog) (w := w) (base := base) F9 T ⟨g8 (n + 0), b8, k8, (W.mg_of X G a8)⟩ ⟨g6 (n + 1), b6, k6, (W.mg_of X G a6)⟩
  have g10 := fun n : Nat => ok_div (mg := mg) (P := l.prog) (w := w) (base := base) (n := n) F10 T
  have g11 := fun n : Nat => ok_over (mg := mg) (P := l.prog) (w := w) (base := base) F11 ⟨g10 (n + 0), b10, k10, (W.mg_of X G a10)⟩
  have g12 := fun n : Nat => ok_comeB (mg := mg) (P := l.prog) (w := w) (base := base) (n := n) F12 T
  have g13 := fun n : Nat => ok_worths (mg := mg) (P := l.prog) (w := w) (base := base) F13 T ⟨g11 (n + 0), b11, k11, (W.mg_of X G a11)⟩ ⟨g12 (n + 1), b12, k12, (W.mg_of X G a12)⟩
  have g14 := fun n : Nat => ok_low (mg := mg) (P := l.prog) (w := w) (base := base) F14 T ⟨g10 (n + 0), b10, k10, (W.mg_of X G a10)⟩
  have g15 := fun n : Nat => ok_judged (mg := mg) (P := l.prog) (w := w) (base := base) F15 T ⟨g13 (n + 0), b13, k13, (W.mg_of X G a13)⟩ ⟨g14 (n + 1), b14, k14, (W.mg_of X G a14)⟩
  have g16 := fun n : Nat => ok_cmpG (mg := mg) (P := l.prog) (w := w) (base := base) (n := n) F16
  have g17 := fun n : Nat => ok_best (mg := mg) (P := l.prog) (w := w) (base := base) F17 T ⟨g15 (n + 0), b15, k15, (W.mg_of X G a15)⟩ ⟨g16 (n + 3), b16, k16, (W.mg_of X G a16)⟩
  have g18 := fun n : Nat => ok_whole (mg := mg) (P := l.prog) (w := w) (base := base) (n := n) F18 T
  have g19 := fun n : Nat => ok_isfr (mg := mg) (P := l.prog) (w := w) (base := base) F19 T ⟨g18 (n + 0), b18, k18, (W.mg_of X G a18)⟩ ⟨g5 (n + 0), b5, k5, (W.mg_of X G a5)⟩
  have g20 := fun n : Nat => ok_less20 (mg := mg) (P := l.prog) (w := w) (base := base) (n := n) F20
  exact ok_law F21 T ⟨⟨g4 3, b4, k4, (W.mg_of X G a4)⟩, ⟨g1 4, b1, k1, (W.mg_of X G a1)⟩, ⟨g7 2, b7, k7, (W.mg_of X G a7)⟩, ⟨g9 1, b9, k9, (W.mg_of X G a9)⟩, ⟨g15 1, b15, k15, (W.mg_of X G a15)⟩, ⟨g17 0, b17, k17, (W.mg_of X G a17)⟩, ⟨g19 3, b19, k19, (W.mg_of X G a19)⟩, ⟨g20 4, b20, k20, (W.mg_of X G a20)⟩, ⟨g18 4, b18, k18, (W.mg_of X G a18)⟩⟩
end Rim
def PySem.W.Fast.tw8162748385200123663 : Nat := 0
def PySem.W.Fast.tw5495883930827660678 : Nat := 0
def PySem.W.Fast.tw7833379168903989053 : Nat := 0
def PySem.W.Fast.tw15673430319520469315 : Nat := 0
def PySem.W.Fast.tw17621195961402180773 : Nat := 0
def PySem.W.Fast.tw9932663895991241935 : Nat := 0
def PySem.W.Fast.tw2019347502949550890 : Nat := 0
def PySem.W.Fast.tw15583974054827920391 : Nat := 0
def PySem.W.Fast.tw15092380939755245655 : Nat := 0
def PySem.W.Fast.tw4417466644441422273 : Nat := 0
def PySem.W.Fast.tw14374942345136577872 : Nat := 0
def PySem.W.Fast.tw15196079488428126072 : Nat := 0
def PySem.W.Fast.tw1471391871405307167 : Nat := 0
def PySem.W.Fast.tw879096431460616525 : Nat := 0
def PySem.W.Fast.tw13212063032588049253 : Nat := 0
def PySem.W.Fast.tw8648822303476340041 : Nat := 0
def PySem.W.Fast.tw8845758352398523112 : Nat := 0
def PySem.W.Fast.tw3928536780685583722 : Nat := 0
def PySem.W.Fast.tw11709845971780159267 : Nat := 0
def PySem.W.Fast.tw17039372739010827087 : Nat := 0
def PySem.W.Fast.tw13319315953919499275 : Nat := 0
def PySem.W.Fast.tw12981418785033247409 : Nat := 0
def PySem.W.Fast.tw13940367847015185157 : Nat := 0
def PySem.W.Fast.tw11611223911964321393 : Nat := 0
def PySem.W.Fast.tw17746227146213087421 : Nat := 0
def PySem.W.Fast.tw14986568623623497618 : Nat := 0
def PySem.W.Fast.tw1700601305320675409 : Nat := 0
def PySem.W.Fast.tw7602648437617885249 : Nat := 0
def PySem.W.Fast.tw507068459316756540 : Nat := 0
def PySem.W.Fast.tw16897972520423722955 : Nat := 0
def PySem.W.Fast.tw15461729337847030873 : Nat := 0
def PySem.W.Fast.tw239551023194809272 : Nat := 0
def PySem.W.Fast.tw10605119128605489297 : Nat := 0
def PySem.W.Fast.tw6164049347255281108 : Nat := 0
def PySem.W.Fast.tw9115274838808199232 : Nat := 0
def PySem.W.Fast.tw13386766147322427624 : Nat := 0
def PySem.W.Fast.tw5449578998614109631 : Nat := 0
def PySem.W.Fast.tw16079912282328842633 : Nat := 0
def PySem.W.Fast.tw1209947813954195477 : Nat := 0
namespace Rim
open PySem L2 Fr
theorem walk {l : W.OpenLaw} {q : Program} {loose : List Str} {XP : (Str -> Option Value) -> Heap -> Prop} {YP : World -> Heap -> Prop} {d : DefRec} {K : Params -> W.Frag} (hn : l.most = some 63) (hdf : d.params.defaults = [])
    (hY : ∀ (w : World) (h : Heap), YP w h -> (K w.params).In h)
    (F : ∀ (w : World) (mg : Str -> Option Value) (fa : Addr) (h : Heap), (K w.params).In h -> h.Ns mainGlobals mg -> mg d.name = some (.ref fa) →
      ∃ fd : FuncData, (∀ (s : Shared) (u : Value), BindsTo s fd ⟨[u], []⟩ [("script", u)]) /\ ∀ base : Heap, (K w.params).In base -> base.Ns mainGlobals mg -> FnOk l.prog w (K w.params) mg base CX0 6 fa fd ["script"] (spLaw (K w.params))) :
    W.WalkO q loose XP YP l.row.toRowW d [] (fun f vs => PySem.call f vs) :=
  L2.walk_of (n := 63) (k := 6) (x := "script") (CX := fun _ => CX0) (sp := fun w => spLaw (K w.params)) hn (by decide) hdf ⟨rfl, by decide, by decide⟩ hY F (fun _ _ a ns hl _ hS => ⟨a, ns, rfl, hS, hl, fun _ => rfl⟩) fun _ _ _ _ _ z => z
end Rim
open PySem PySem.W PyProof.Rows
set_option maxRecDepth 100000 in
set_option maxHeartbeats 0 in
theorem PySem.Challenge.cw_rimhouse_k20_houses_at_prices_holds : PySem.Challenge.rw_rimhouse_k20_houses_at_prices.Holds := by
  w_on; o_law; k_head; (case hw => w_witness2)
  k_fill
  refine Rim.walk (l := PySem.Challenge.rw_rimhouse_k20_houses_at_prices) rfl rfl (fun w h Y => W.kIn_of Y) ?F
  case F =>
    intro w mg fa h KX G hmg
    refine' Rim.all_mk KX G hmg ?a1 ?l1 ?a2 ?l2 ?a3 ?l3 ?a4 ?l4 ?a5 ?l5 ?a6 ?l6 ?a7 ?l7 ?a8 ?l8 ?a9 ?l9 ?a10 ?l10 ?a11 ?l11 ?a12 ?l12 ?a13 ?l13 ?a14 ?l14 ?a15 ?l15 ?a16 ?l16 ?a17 ?l17 ?a18 ?l18 ?a19 ?l19 ?a20 ?l20 ?a21 ?l21 ?c21 ?k21 ?z1 ?z2 ?z3 ?z4 ?z5 ?z6 ?z7 ?z8 ?z9 ?z10 ?z11 ?z12 ?z13 ?z14 ?z15 ?z16 ?z17
    (case a1 => k_is)
    (case l1 => (refine' L2.fun_in ?l ?c ?k; (case l => k_is); (case c => k_is); (case k => k_is)))
    (case a2 => k_is)
    (case l2 => (refine' L2.fun_in ?l ?c ?k; (case l => k_is); (case c => k_is); (case k => k_is)))
    (case a3 => k_is)
    (case l3 => (refine' L2.fun_in ?l ?c ?k; (case l => k_is); (case c => k_is); (case k => k_is)))
    (case a4 => k_is)
    (case l4 => (refine' L2.fun_in ?l ?c ?k; (case l => k_is); (case c => k_is); (case k => k_is)))
    (case a5 => k_is)
    (case l5 => (refine' L2.fun_in ?l ?c ?k; (case l => k_is); (case c => k_is); (case k => k_is)))
    (case a6 => k_is)
    (case l6 => (refine' L2.fun_in ?l ?c ?k; (case l => k_is); (case c => k_is); (case k => k_is)))
    (case a7 => k_is)
    (case l7 => (refine' L2.fun_in ?l ?c ?k; (case l => k_is); (case c => k_is); (case k => k_is)))
    (case a8 => k_is)
    (case l8 => (refine' L2.fun_in ?l ?c ?k; (case l => k_is); (case c => k_is); (case k => k_is)))
    (case a9 => k_is)
    (case l9 => (refine' L2.fun_in ?l ?c ?k; (case l => k_is); (case c => k_is); (case k => k_is)))
    (case a10 => k_is)
    (case l10 => (refine' L2.fun_in ?l ?c ?k; (case l => k_is); (case c => k_is); (case k => k_is)))
    (case a11 => k_is)
    (case l11 => (refine' L2.fun_in ?l ?c ?k; (case l => k_is); (case c => k_is); (case k => k_is)))
    (case a12 => k_is)
    (case l12 => (refine' L2.fun_in ?l ?c ?k; (case l => k_is); (case c => k_is); (case k => k_is)))
    (case a13 => k_is)
    (case l13 => (refine' L2.fun_in ?l ?c ?k; (case l => k_is); (case c => k_is); (case k => k_is)))
    (case a14 => k_is)
    (case l14 => (refine' L2.fun_in ?l ?c ?k; (case l => k_is); (case c => k_is); (case k => k_is)))
    (case a15 => k_is)
    (case l15 => (refine' L2.fun_in ?l ?c ?k; (case l => k_is); (case c => k_is); (case k => k_is)))
    (case a16 => k_is)
    (case l16 => (refine' L2.fun_in ?l ?c ?k; (case l => k_is); (case c => k_is); (case k => k_is)))
    (case a17 => k_is)
    (case l17 => (refine' L2.fun_in ?l ?c ?k; (case l => k_is); (case c => k_is); (case k => k_is)))
    (case a18 => k_is)
    (case l18 => (refine' L2.fun_in ?l ?c ?k; (case l => k_is); (case c => k_is); (case k => k_is)))
    (case a19 => k_is)
    (case l19 => (refine' L2.fun_in ?l ?c ?k; (case l => k_is); (case c => k_is); (case k => k_is)))
    (case a20 => k_is)
    (case l20 => (refine' L2.fun_in ?l ?c ?k; (case l => k_is); (case c => k_is); (case k => k_is)))
    (case a21 => k_is)
    (case l21 => k_is)
    (case c21 => k_is)
    (case k21 => k_is)
    (case z1 => k_is)
    (case z2 => k_is)
    (case z3 => k_is)
    (case z4 => k_is)
    (case z5 => k_is)
    (case z6 => k_is)
    (case z7 => k_is)
    (case z8 => k_is)
    (case z9 => k_is)
    (case z10 => k_is)
    (case z11 => k_is)
    (case z12 => k_is)
    (case z13 => k_is)
    (case z14 => k_is)
    (case z15 => k_is)
    (case z16 => k_is)
    (case z17 => k_is)
