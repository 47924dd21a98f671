import PyProof.Rows.All
import Wide.All
import OpenK.AllK
import Wide.FinOn
import Lean
import PyProof.EqAt
import PyProof.EqKinds
import PyProof.TupleCall
import PyProof.NeData
import PyProof.ZipIter
import PyProof.EnumMake
import PyProof.EnumFor
import KE.KMinKey
import KE.KUnpack
import KE.KNestM
import KE.KLam
import PySem.Challenge.RW_rimhouse_k26_merged_by_hand
set_option Elab.async false
set_option linter.all false
set_option maxRecDepth 100000
namespace L2
open PySem PySem.Spec PyProof.Rows
abbrev Key := Sum Int Str
def keyIs : Key -> Value -> Bool
  | .inl k, v => Value.isInt k v
  | .inr x, v => Value.isStrOf x v
def keyH (w : World) : Key -> Int
  | .inl k => hashInt k
  | .inr x => hashStr w x
theorem keyIs_shape : ∀ {k : Key} {v : Value}, keyIs k v = true -> (∃ i t, k = Sum.inl i /\ v = Value.int i t) \/ (∃ x t, k = Sum.inr x /\ v = Value.str x t)
  | .inl i, v, h => by
    obtain ⟨t, e⟩ := Value.isInt_shape (k := i) (v := v) h
    exact .inl ⟨i, t, rfl, e⟩
  | .inr x, v, h => by
    obtain ⟨t, e⟩ := Value.isStrOf_shape (x := x) (v := v) h
    exact .inr ⟨x, t, rfl, e⟩
theorem key_ll (a b : Int) : decide ((Sum.inl a : Key) = Sum.inl b) = (a == b) := by
  by_cases e : a = b
  . subst e; simp
  . have h : ¬ (Sum.inl a : Key) = Sum.inl b := fun q => e (Sum.inl.inj q)
    rw [decide_eq_false h]
    exact (beq_eq_false_iff_ne.mpr e).symm
theorem key_rr (a b : Str) : decide ((Sum.inr a : Key) = Sum.inr b) = decide (a = b) := by
  by_cases e : a = b
  . subst e; simp
  . have h : ¬ (Sum.inr a : Key) = Sum.inr b := fun q => e (Sum.inr.inj q)
    rw [decide_eq_false h, decide_eq_false e]
theorem key_lr (a : Int) (b : Str) : decide ((Sum.inl a : Key) = Sum.inr b) = false := decide_eq_false (fun q => nomatch q)
theorem key_rl (a : Str) (b : Int) : decide ((Sum.inr a : Key) = Sum.inl b) = false := decide_eq_false (fun q => nomatch q)
def mixKind (prog : Program) (w : World) : PySem.KeyKind prog w Key where
  is := keyIs
  hash := keyH w
  inj := fun v a b ha hb => by
    rcases keyIs_shape ha with ⟨i, t, rfl, rfl⟩ | ⟨x, t, rfl, rfl⟩
    . rcases keyIs_shape hb with ⟨j, u, rfl, e⟩ | ⟨y, u, rfl, e⟩
      . injection e with e1 _; rw [e1]
      . exact nomatch e
    . rcases keyIs_shape hb with ⟨j, u, rfl, e⟩ | ⟨y, u, rfl, e⟩
      . exact nomatch e
      . injection e with e1 _; rw [e1]
  byValue := fun k v h => by
    rcases keyIs_shape h with ⟨i, t, rfl, rfl⟩ | ⟨x, t, rfl, rfl⟩ <;> rfl
  pyHash := fun hv h => by
    rcases keyIs_shape hv with ⟨i, t, rfl, rfl⟩ | ⟨x, t, rfl, rfl⟩
    . exact wpAny_pyHash_int h
    . exact wpAny_pyHash_str h
  eqBool := fun hu hv h => by
    rcases keyIs_shape hu with ⟨i, t, rfl, rfl⟩ | ⟨x, t, rfl, rfl⟩
    . rcases keyIs_shape hv with ⟨j, u, rfl, rfl⟩ | ⟨y, u, rfl, rfl⟩
      . rw [key_ll] at h; exact wpAny_eqBool_int h
      . rw [key_lr] at h; exact SeqAt.EqAt.int_str i t y u _ _ _ _ h
    . rcases keyIs_shape hv with ⟨j, u, rfl, rfl⟩ | ⟨y, u, rfl, rfl⟩
      . rw [key_rl] at h; exact SeqAt.EqAt.str_int x t j u _ _ _ _ h
      . rw [key_rr] at h; exact wpAny_eqBool_str h
  «strs» := fun k x t v h => by
    rcases keyIs_shape h with ⟨i, u, rfl, e⟩ | ⟨y, u, rfl, e⟩
    . exact nomatch e
    . injection e with e1 _
      subst e1
      cases v <;> rfl
end L2
namespace L2
open PySem PySem.Spec PyProof.Rows
inductive V where
  | non | bl (b : Bool) | int (i : Int) | str (x : Str) | byt (b : Array UInt8) | flt (b : UInt64) | ref (a : Addr) | ty (n : String)
  deriving DecidableEq
def RelV : V -> Value -> Prop
  | .non, u => u = Value.none
  | .bl b, u => u = Value.bool b
  | .int i, u => ∃ t, u = Value.int i t
  | .str x, u => ∃ t, u = Value.str x t
  | .byt b, u => ∃ t, u = Value.bytes b t
  | .flt b, u => ∃ t, u = Value.float b t
  | .ref a, u => u = Value.ref a
  | .ty n, u => u = Value.type n
abbrev Vals : List V -> List Value -> Prop := Paired RelV
theorem Vals.length {xs : List V} {us : List Value} (r : Vals xs us) : xs.length = us.length := Paired.length r
theorem Vals.get : ∀ {xs : List V} {us : List Value} {i : Nat} {x : V}, Vals xs us -> xs[i]? = some x -> ∃ u, us[i]? = some u /\ RelV x u
  | _, _, _, _, .nil, e => by simp at e
  | _, _, 0, _, .cons r _, e => by simp at e; subst e; exact ⟨_, rfl, r⟩
  | _, _, i + 1, x, .cons _ t, e => by
    obtain ⟨u, h1, h2⟩ := Vals.get (i := i) (x := x) t (by simpa using e)
    exact ⟨u, by simpa using h1, h2⟩
theorem Vals.set {x : V} {u : Value} (r : RelV x u) : ∀ {xs : List V} {us : List Value} (i : Nat), Vals xs us -> Vals (xs.set i x) (us.set i u)
  | _, _, _, .nil => .nil
  | _, _, 0, .cons _ t => .cons r t
  | _, _, i + 1, .cons q t => .cons q (Vals.set r i t)
theorem Vals.append : ∀ {xs ys : List V} {us ws : List Value}, Vals xs us -> Vals ys ws -> Vals (xs ++ ys) (us ++ ws)
  | _, _, _, _, .nil, s => s
  | _, _, _, _, .cons r t, s => .cons r (Vals.append t s)
theorem Vals.take : ∀ {xs : List V} {us : List Value} (n : Nat), Vals xs us -> Vals (xs.take n) (us.take n)
  | _, _, 0, _ => .nil
  | _, _, _ + 1, .nil => .nil
  | _, _, n + 1, .cons r t => .cons r (Vals.take n t)
theorem Vals.drop : ∀ {xs : List V} {us : List Value} (n : Nat), Vals xs us -> Vals (xs.drop n) (us.drop n)
  | _, _, 0, r => r
  | _, _, _ + 1, .nil => .nil
  | _, _, n + 1, .cons _ t => Vals.drop n t
theorem Vals.none_of : ∀ {xs : List V} {us : List Value} {i : Nat}, Vals xs us -> xs[i]? = none -> us[i]? = none := fun {xs us i} r e => by
  have h1 := r.length
  have h2 : xs.length <= i := List.getElem?_eq_none_iff.mp e
  exact List.getElem?_eq_none_iff.mpr (by omega)
def RelO : Option V -> Option Value -> Prop
  | some v, some u => RelV v u
  | none, none => True
  | _, _ => False
def KV {κ : Type} : List (κ × V) -> List (κ × Value) -> Prop := Paired fun (p : κ × V) (q : κ × Value) => p.1 = q.1 /\ RelV p.2 q.2
def kV : Key -> V
  | .inl i => .int i
  | .inr x => .str x
inductive HO where
  /-- a list -/
  | lst (xs : List V)
  /-- a tuple (never changes) -/
  | tup (xs : List V)
  /-- a dict whose keys are ints and texts; one whose keys are tuples of ints and texts (the empty one is both) -/
  | dK (kvs : List (Key × V)) | dT (kvs : List (List Key × V))
  /-- a set of ints: its members, its size -/
  | set (S : Int -> Bool) (n : Nat)
  /-- an instance of the class at C, its dict at dx, its attributes -/
  | ins (C dx : Addr) (fs : List (Str × V))
  /-- the dict of the instance at x -/
  | own (x : Addr)
  /-- the dict of an exception -/
  | xd (fs : List (Str × V))
  /-- a bound method, f of x -/
  | met (f x : Addr)
  /-- a range object lo, lo + 1, .. below hi -/
  | rng (lo hi : Int)
  /-- a thing that is known to the object (the script; a dict while a loop walks it): read, never written while it is so -/
  | frz (o : Obj) (u : HO)
  /-- a code object's table -/
  | tbl (ps : Array Value)
  /-- any other thing, by what is true of its one object (a def of one's own: SetO a S n := HO.ext fun h => ..) -/
  | ext (φ : Heap -> Prop)
abbrev Hp := Addr -> Option HO
def upd (H : Hp) (a : Addr) (o : HO) : Hp := fun b => if b = a then some o else H b
theorem upd_same {H : Hp} {a : Addr} {o : HO} : upd H a o a = some o := by unfold upd; rw [if_pos rfl]
theorem upd_ne {H : Hp} {a b : Addr} {o : HO} (h : b ≠ a) : upd H a o b = H b := by unfold upd; rw [if_neg h]
theorem upd_upd {H : Hp} {a : Addr} {o u : HO} : upd (upd H a o) a u = upd H a u := by
  funext b; unfold upd; split <;> rfl
theorem ne_of_none {H : Hp} {a b : Addr} {o : HO} (h : H a = some o) (h' : H b = none) : a ≠ b := by
  intro e; subst e; rw [h] at h'; cases h'
section
variable (P : Program) (w : World)
def ObjOk (H : Hp) (h : Heap) (a : Addr) : HO -> Prop
  | .lst xs => xs.length <= sizeLine /\ ∃ (its : List Value) (n : Nat), Vals xs its /\ h.get? a = some { cls := .type "list", data := .seq its.toArray n }
  | .tup xs => xs.length <= sizeLine /\ ∃ its : List Value, Vals xs its /\ IsTup h a its.toArray
  | .dK kvs => kvs.length <= sizeLine /\ (a == sysModules) = false /\ ∃ vs, KV kvs vs /\ h.DictOf (mixKind P w) a vs
  | .dT kvs => kvs.length <= sizeLine /\ (a == sysModules) = false /\ ∃ xs : List (List Key × Addr × Value),
      Paired (fun (p : List Key × V) (q : List Key × Addr × Value) => p.1 = q.1 /\ H q.2.1 = some (.tup (p.1.map kV)) /\ RelV p.2 q.2.2) kvs xs ∧
      ∃ o es ep, h.get? a = some o /\ o.ExactDict /\ o.data = .dict es ep /\ es.toList = xs.map (entryOfKey (tupleKind (mixKind P w))) /\ (xs.map (·.1)).Nodup
  | .set S n => h.SetOf (intKind P w) a S n
  | .ins C dx fs => H dx = some (.own a) /\ fs.length <= 1000 /\ dx ≠ a /\ h.get? a = some (W.instObj C dx) ∧
      ∃ mA, h.Ns1 dx mA /\ (∀ f, RelO (fs.lookup f) (mA f)) /\ PySem.Within mA (fs.map (·.1))
  | .own _ => ∃ o, h.get? a = some o
  | .xd fs => ∃ mA, h.Ns1 a mA /\ ∀ f, RelO (fs.lookup f) (mA f)
  | .rng lo hi => ∃ t u v, h.get? a = some { cls := .type "range", data := .fields #[.int lo t, .int hi u, .int 1 v] }
  | .frz o u => h.get? a = some o /\ ObjOk H h a u
  | .tbl ps => h.get? a = some { cls := .none, data := .fields ps }
  | .met f x => h.get? a = some (W.methodObj (.ref f) (.ref x))
  | .ext φ => φ h /\ (∃ o, h.get? a = some o) /\ ∀ h1 h2 : Heap, φ h1 -> (∀ o, h1.get? a = some o -> h2.get? a = some o) -> φ h2
def HOk (H : Hp) (h : Heap) : Prop := ∀ a o, H a = some o -> ObjOk P w H h a o
end
section
variable {P : Program} {w : World} {H H' : Hp} {h h' : Heap} {a : Addr} {o : HO}
theorem ObjOk.lt (x : ObjOk P w H h a o) : a < h.objs.size := by
  cases o with
  | lst xs => obtain ⟨_, _, _, _, e⟩ := x; exact Heap.lt_size e
  | tup xs => obtain ⟨_, _, _, p⟩ := x; exact p.lt
  | dK kvs => obtain ⟨_, _, _, _, o, _, _, e, _⟩ := x; exact Heap.lt_size e
  | dT kvs => obtain ⟨_, _, _, _, o, _, _, e, _⟩ := x; exact Heap.lt_size e
  | set S n => obtain ⟨o, _, _, _, e, _⟩ := x; exact Heap.lt_size e
  | ins C dx fs => obtain ⟨_, _, _, e, _⟩ := x; exact Heap.lt_size e
  | own y => obtain ⟨_, e⟩ := x; exact Heap.lt_size e
  | xd fs => obtain ⟨_, ⟨_, _, _, e, _⟩, _⟩ := x; exact Heap.lt_size e
  | rng lo hi => obtain ⟨_, _, _, e⟩ := x; exact Heap.lt_size e
  | frz ob u => obtain ⟨e, _⟩ := x; exact Heap.lt_size e
  | tbl ps => exact Heap.lt_size (show h.get? a = some _ from x)
  | met f y => exact Heap.lt_size (show h.get? a = some _ from x)
  | ext φ => obtain ⟨_, ⟨_, e⟩, _⟩ := x; exact Heap.lt_size e
theorem Paired.mapP {α β : Type} {F G : α -> β -> Prop} : ∀ {l₁ : List α} {l₂ : List β}, Paired F l₁ l₂ -> (∀ a b, F a b -> G a b) -> Paired G l₁ l₂
  | _, _, .nil, _ => .nil
  | _, _, .cons r t, f => .cons (f _ _ r) (Paired.mapP t f)
theorem Paired.imp' {α β : Type} {F G : α -> β -> Prop} (f : ∀ a b, F a b -> G a b) {l₁ : List α} {l₂ : List β} (r : Paired F l₁ l₂) : Paired G l₁ l₂ := Paired.mapP r f
theorem ObjOk.stay (x : ObjOk P w H h a o) (k : ∀ b u, (b = a \/ H b = some (.own a)) -> h.get? b = some u -> h'.get? b = some u)
    (ho : ∀ b, H b = some (.own a) -> H' b = some (.own a)) (ht : ∀ b xs, H b = some (.tup xs) -> H' b = some (.tup xs)) : ObjOk P w H' h' a o := by
  induction o with
  | lst xs => obtain ⟨z, its, n, r, e⟩ := x; exact ⟨z, its, n, r, k _ _ (.inl rfl) e⟩
  | tup xs => obtain ⟨z, its, r, ob, e, c⟩ := x; exact ⟨z, its, r, ob, k _ _ (.inl rfl) e, c⟩
  | dK kvs => obtain ⟨z, y, vs, r, ob, es, ep, e, c⟩ := x; exact ⟨z, y, vs, r, ob, es, ep, k _ _ (.inl rfl) e, c⟩
  | dT kvs =>
    obtain ⟨z, y, xs, r, ob, es, ep, e, c⟩ := x
    exact ⟨z, y, xs, Paired.mapP r fun p q z => ⟨z.1, ht _ _ z.2.1, z.2.2⟩, ob, es, ep, k _ _ (.inl rfl) e, c⟩
  | set S n => obtain ⟨ob, es, ep, t, e, c⟩ := x; exact ⟨ob, es, ep, t, k _ _ (.inl rfl) e, c⟩
  | ins C dx fs =>
    obtain ⟨d, z, ne, e, mA, ⟨od, es, ep, e2, c⟩, r⟩ := x
    exact ⟨ho _ d, z, ne, k _ _ (.inl rfl) e, mA, ⟨od, es, ep, k _ _ (.inr d) e2, c⟩, r⟩
  | own y => obtain ⟨ob, e⟩ := x; exact ⟨ob, k _ _ (.inl rfl) e⟩
  | xd fs => obtain ⟨mA, ⟨od, es, ep, e, c⟩, r⟩ := x; exact ⟨mA, ⟨od, es, ep, k _ _ (.inl rfl) e, c⟩, r⟩
  | rng lo hi => obtain ⟨t, u, v, e⟩ := x; exact ⟨t, u, v, k _ _ (.inl rfl) e⟩
  | frz ob u ih => obtain ⟨e, q⟩ := x; exact ⟨k _ _ (.inl rfl) e, ih q⟩
  | tbl ps =>
    have e : h.get? a = some { cls := .none, data := .fields ps } := x
    show h'.get? a = some { cls := .none, data := .fields ps }
    exact k a _ (.inl rfl) e
  | met f y =>
    have e : h.get? a = some (W.methodObj (.ref f) (.ref y)) := x
    show h'.get? a = some (W.methodObj (.ref f) (.ref y))
    exact k a _ (.inl rfl) e
  | ext φ => obtain ⟨p, ⟨o, e⟩, st⟩ := x; exact ⟨st _ _ p fun o q => k _ _ (.inl rfl) q, ⟨o, k _ _ (.inl rfl) e⟩, st⟩
theorem HOk.lt (x : HOk P w H h) (e : H a = some o) : a < h.objs.size := (x a o e).lt
theorem HOk.fresh (x : HOk P w H h) (e : h.objs.size <= a) : H a = none := by
  cases q : H a with
  | none => rfl
  | some u => exact absurd (Nat.lt_of_lt_of_le (x.lt q) e) (Nat.lt_irrefl _)
theorem HOk.kept (x : HOk P w H h) (k : ∀ b u, h.get? b = some u -> h'.get? b = some u) : HOk P w H h' := fun a o e =>
  (x a o e).stay (fun b u _ q => k b u q) (fun _ q => q) fun _ _ q => q
theorem HOk.laid (x : HOk P w H h) (k : ∀ b u, h.get? b = some u -> h'.get? b = some u) (hp : h.objs.size <= a) (new : ObjOk P w (upd H a o) h' a o) : HOk P w (upd H a o) h' := fun b u e => by
  have hn := x.fresh hp
  by_cases hb : b = a
  . subst hb; rw [upd_same] at e; cases e; exact new
  . rw [upd_ne hb] at e
    exact (x b u e).stay (fun c v _ q => k c v q) (fun c q => by rw [upd_ne (ne_of_none q hn)]; exact q) fun c xs q => by rw [upd_ne (ne_of_none q hn)]; exact q
end
def Rd (H : Hp) (a : Addr) (u : HO) : Prop := H a = some u \/ ∃ o, H a = some (.frz o u)
theorem Rd.ok {P : Program} {w : World} {H : Hp} {h : Heap} {a : Addr} {u : HO} (r : Rd H a u) (x : HOk P w H h) : ObjOk P w H h a u := by
  rcases r with r | ⟨o, r⟩
  . exact x a u r
  . obtain ⟨_, q⟩ := x a _ r
    exact q
def Mut : Option HO -> Prop
  | some (.lst _) => True
  | some (.dK _) => True
  | some (.dT _) => True
  | some (.set _ _) => True
  | some (.ins _ _ _) => True
  | some (.ext _) => True
  | _ => False
section
variable {P : Program} {w : World} {H : Hp} {h h' : Heap} {x e : Addr} {o' : HO}
theorem HOk.write (ok : HOk P w H h) (mu : Mut (H x)) (he : e = x \/ H e = some (.own x)) (k : ∀ b u, b ≠ e -> h.get? b = some u -> h'.get? b = some u) (heo : ∃ u, h'.get? e = some u)
    (new : ObjOk P w (upd H x o') h' x o') : HOk P w (upd H x o') h' := fun b u q => by
  have nown : ∀ c y, H c = some (.own y) -> c ≠ x := fun c y r z => by subst z; rw [r] at mu; exact mu
  have ntup : ∀ c xs, H c = some (.tup xs) -> c ≠ x := fun c xs r z => by subst z; rw [r] at mu; exact mu
  by_cases hb : b = x
  . subst hb; rw [upd_same] at q; cases q; exact new
  . rw [upd_ne hb] at q
    by_cases hbe : b = e
    . have q' : H b = some (.own x) := by
        rcases he with z | z
        . exact absurd (hbe.trans z) hb
        . rw [hbe]; exact z
      rw [q] at q'; cases q'
      obtain ⟨v, hv⟩ := heo
      exact ⟨v, by rw [hbe]; exact hv⟩
    . refine (ok b u q).stay (fun c v hc r => k c v ?_ r) (fun c r => by rw [upd_ne (nown c b r)]; exact r) fun c xs r => by rw [upd_ne (ntup c xs r)]; exact r
      rcases hc with rfl | hc
      . exact hbe
      . rintro rfl
        rcases he with z | z
        . exact nown c b hc z
        . rw [hc] at z; cases z; exact hb rfl
end
structure Un (fs ex : List Addr) (H H' : Hp) (h h' : Heap) : Prop where
  keep : ∀ b o, h.get? b = some o -> H b = none -> b ∉ fs -> b ∉ ex -> h'.get? b = some o
  slot : ∀ b o, h.get? b = some o -> H b = none -> b ∈ fs -> b ∉ ex -> ∃ sl, h'.get? b = some { o with slots := sl }
  free : ∀ b o, h.get? b = some o -> H b = none -> b ∉ ex -> H' b = none
  there : ∀ b o, h.get? b = some o -> b ∉ ex -> ∃ o', h'.get? b = some o'
  tups : ∀ b xs, H b = some (.tup xs) -> H' b = some (.tup xs)
  frzs : ∀ b o u, H b = some (.frz o u) -> H' b = some (.frz o u)
  tbls : ∀ b ps, H b = some (.tbl ps) -> ∃ more, H' b = some (.tbl (ps ++ more))
section
variable {fs fs' ex ex' : List Addr} {H H1 H2 : Hp} {h h1 h2 h' : Heap} {a x e : Addr} {o : HO}
theorem Un.any (u : Un fs ex H H1 h h1) {b : Addr} {ob : Obj} (q : h.get? b = some ob) (n : H b = none) (hx : b ∉ ex) : ∃ sl, h1.get? b = some { ob with slots := sl } := by
  by_cases hb : b ∈ fs
  . exact u.slot b ob q n hb hx
  . exact ⟨ob.slots, u.keep b ob q n hb hx⟩
theorem Un.kept (k : ∀ b u, h.get? b = some u -> h'.get? b = some u) : Un fs ex H H h h' :=
  ⟨fun b ob q _ _ _ => k b ob q, fun b ob q _ _ _ => ⟨ob.slots, k b ob q⟩, fun _ _ _ n _ => n, fun b ob q _ => ⟨ob, k b ob q⟩, fun _ _ q => q, fun _ _ _ q => q, fun _ ps q => ⟨#[], by rw [q]; simp⟩⟩
theorem Un.refl : Un fs ex H H h h := Un.kept fun _ _ q => q
theorem Un.laid (k : ∀ b u, h.get? b = some u -> h'.get? b = some u) (hp : h.objs.size <= a) (hn : H a = none) : Un fs ex H (upd H a o) h h' where
  keep := fun b u q _ _ _ => k b u q
  slot := fun b u q _ _ _ => ⟨u.slots, k b u q⟩
  free := fun b u q n _ => by rw [upd_ne (Nat.ne_of_lt (Nat.lt_of_lt_of_le (Heap.lt_size q) hp))]; exact n
  there := fun b u q _ => ⟨u, k b u q⟩
  tups := fun b xs q => by rw [upd_ne (ne_of_none q hn)]; exact q
  frzs := fun b u xs q => by rw [upd_ne (ne_of_none q hn)]; exact q
  tbls := fun b ps q => ⟨#[], by rw [upd_ne (ne_of_none q hn), q]; simp⟩
theorem Un.write (mu : Mut (H x)) (he : e = x \/ H e = some (.own x)) (k : ∀ b u, b ≠ e -> h.get? b = some u -> h'.get? b = some u) (heo : ∃ u, h'.get? e = some u) : Un fs ex H (upd H x o) h h' := by
  have hx : ∀ b, H b = none -> b ≠ x := fun b n z => by subst z; rw [n] at mu; exact mu
  have hb : ∀ b, H b = none -> b ≠ e := fun b n z => by
    subst z
    rcases he with r | r
    . exact hx b n r
    . rw [n] at r; cases r
  have hm : ∀ b u, H b = some u -> ¬ Mut (some u) -> b ≠ x := fun b u q nm z => by subst z; rw [q] at mu; exact nm mu
  refine ⟨fun b u q n _ _ => k b u (hb b n) q, fun b u q n _ _ => ⟨u.slots, k b u (hb b n) q⟩, fun b u q n _ => by rw [upd_ne (hx b n)]; exact n, fun b u q _ => ?_,
    fun b xs q => by rw [upd_ne (hm b _ q fun z => z)]; exact q, fun b u xs q => by rw [upd_ne (hm b _ q fun z => z)]; exact q, fun b ps q => ⟨#[], by rw [upd_ne (hm b _ q fun z => z), q]; simp⟩⟩
  by_cases hbe : b = e
  . subst hbe; exact heo
  . exact ⟨u, k b u hbe q⟩
end
def trk (h : Heap) (H : Hp) : List Addr := (List.range h.objs.size).filter fun a => (H a).isSome
def hidT (h : Heap) (H : Hp) : Heap := W.hideAll h (trk h H)
theorem hidT_size (h : Heap) (H : Hp) : (hidT h H).objs.size = h.objs.size := W.hideAll_size _ _
theorem hidT_get {h : Heap} {H : Hp} {b : Addr} {o : Obj} (e : h.get? b = some o) (n : H b = none) : (hidT h H).get? b = some o :=
  W.hideAll_get _ e fun hm => by
    have q : (H b).isSome = true := (List.mem_filter.mp hm).2
    rw [n] at q; simp at q
theorem of_hidT {h : Heap} {H : Hp} {b : Addr} {o : Obj} (e : (hidT h H).get? b = some o) : h.get? b = some o /\ H b = none := by
  have e' : h.get? b = some o := W.of_hideAll (trk h H) e
  refine ⟨e', ?_⟩
  cases q : H b with
  | none => rfl
  | some x =>
    have hm : b ∈ trk h H := List.mem_filter.mpr ⟨List.mem_range.mpr (Heap.lt_size e'), by simp [q]⟩
    have z : (hidT h H).get? b = none := W.hideAll_none (trk h H) hm
    rw [z] at e; cases e
def allNews (g h : Heap) (L : Addr) : List (Addr × Obj) := (List.range h.objs.size).filterMap fun a => if a = L \/ (g.get? a).isSome = true then none else (h.get? a).map fun o => (a, o)
def rest (g h : Heap) (L d : Addr) : List (Addr × Obj) := (allNews g h L).filter fun p => decide (p.1 ≠ d)
end L2
namespace L2
open PySem PySem.Spec PyProof.Rows
structure Mod (K : W.Frag) (mg : Str -> Option Value) (base : Heap) : Prop where
  kin : K.In base
  glob : base.Ns mainGlobals mg
  blt : ∃ mb, base.Ns builtinsNs mb /\ ∀ x : Str, x ≠ "__name__" -> mb x = bootBuiltins x
  nolimit : base.NoLimit
structure Cx where
  prog : Program
  w : World
  K : W.Frag
  mg : Str -> Option Value
  base : Heap
  A : Around
  N : List Str
  s₀ : Shared
  H₀ : Hp
  env : Env
  outer : List Env
  stack : List Env
  ex : List Addr
  fn : Str -> Bool
  calm : Bool
  pn : List (Addr × Obj)
  xe : Value -> Shared -> Prop
def frs (l : List Env) : List Addr := l.filterMap (·.frame)
abbrev Cx.fs (X : Cx) : List Addr := frs X.outer
def Vis (sc : Scope) (x : Str) : Prop := sc.names.lookup x = some .local \/ sc.names.lookup x = some .cell \/ sc.names.lookup x = some .free
def Loc (sc : Scope) (x : Str) : Prop := sc.names.lookup x = some .local \/ sc.names.lookup x = some .cell
def Look (env : Env) (h : Heap) (m : Str -> Option Value) (x : Str) (u : Value) : Prop :=
  (env.kindOf x = some .local /\ m x = some u) \/ ((env.kindOf x = some .cell \/ env.kindOf x = some .free) /\ ∃ c, env.cells.lookup x = some c /\ h.IsCell c (some u))
structure Cx.Ok (X : Cx) : Prop where
  mod : Mod X.K X.mg X.base
  kind : X.env.scope.kind = .function
  glob : X.env.globals = mainGlobals
  blt : X.env.builtins = builtinsNs
  above : X.s₀.heap.objs.size <= X.env.locals
  inj : ∀ x y c, X.env.cells.lookup x = some c -> X.env.cells.lookup y = some c -> x = y
  has : ∀ x, (X.env.kindOf x = some .cell \/ X.env.kindOf x = some .free) -> ∃ c, X.env.cells.lookup x = some c
  cab : ∀ x c, X.fn x = true -> X.env.cells.lookup x = some c -> X.s₀.heap.objs.size <= c
  hd : X.calm = true -> X.A.handled = none
  frames : X.A.frames = some X.stack
  stk : X.stack = X.outer \/ (X.stack = X.env :: X.outer /\ X.env.frame = some X.env.locals)
  exf : ∀ b ∈ X.ex, b ≠ X.env.locals /\ ∀ x c, X.env.cells.lookup x = some c -> c ≠ b
  bs : ∀ b o, X.base.get? b = some o -> X.s₀.heap.get? b = some o /\ X.H₀ b = none
  bsz : X.base.objs.size <= X.s₀.heap.objs.size
  noex : ∀ b o, X.base.get? b = some o -> b ∉ X.ex
  exfs : ∀ b ∈ X.ex, b ∉ X.fs
  funs : X.s₀.heap.FunFrames X.base X.outer
  frf : ∀ b ∈ X.fs, X.H₀ b = none
structure Inv (X : Cx) (pins : List (Addr × Obj)) (σ : List (Option V)) (H : Hp) (s : Shared) : Prop where
  ok : X.Ok
  os : s.os = X.s₀.os
  bare : AllBare s.gens
  base : Un X.fs X.ex X.H₀ H X.s₀.heap s.heap
  loc : ∃ m, s.heap.Ns X.env.locals m /\ ∀ (i : Nat) (x : Str) (v : V), X.N[i]? = some x -> σ[i]? = some (some v) -> Vis X.env.scope x -> ∃ u, RelV v u /\ Look X.env s.heap m x u
  cell : ∀ x c, X.env.cells.lookup x = some c -> ∃ v, s.heap.IsCell c v
  free : H X.env.locals = none
  freeC : ∀ x c, X.env.cells.lookup x = some c -> H c = none
  pin : ∀ p ∈ X.pn ++ pins, s.heap.get? p.1 = some p.2 /\ H p.1 = none /\ p.1 ≠ X.env.locals /\ p.1 ∉ X.fs /\ ∀ v, p.2.data ≠ .cell v
  hok : HOk X.prog X.w H s.heap
  len : σ.length = X.N.length
section
variable {X : Cx} {pins : List (Addr × Obj)} {σ : List (Option V)} {H H' : Hp} {s : Shared} {h' : Heap}
theorem Cx.Ok.nofr (ok : X.Ok) {b : Addr} {o : Obj} (e : X.base.get? b = some o) : b ∉ X.fs := fun hb => by
  have := (ok.funs.mem hb).1
  rw [e] at this; cases this
theorem Inv.bs (I : Inv X pins σ H s) : ∀ b o, X.base.get? b = some o -> s.heap.get? b = some o /\ H b = none := fun b o e =>
  ⟨I.base.keep b o (I.ok.bs b o e).1 (I.ok.bs b o e).2 (I.ok.nofr e) (I.ok.noex b o e), I.base.free b o (I.ok.bs b o e).1 (I.ok.bs b o e).2 (I.ok.noex b o e)⟩
theorem Inv.bk (I : Inv X pins σ H s) : ∀ b o, X.base.get? b = some o -> s.heap.get? b = some o := fun b o e => (I.bs b o e).1
theorem Inv.mod (I : Inv X pins σ H s) : Mod X.K X.mg X.base := I.ok.mod
theorem Inv.kIn (I : Inv X pins σ H s) : X.K.In s.heap := I.ok.mod.kin.keeps I.bk
theorem Inv.lt (I : Inv X pins σ H s) : X.env.locals < s.heap.objs.size := let ⟨_, hn, _⟩ := I.loc; hn.lt
theorem Inv.sz (I : Inv X pins σ H s) : X.s₀.heap.objs.size <= s.heap.objs.size := Nat.le_trans I.ok.above (Nat.le_of_lt I.lt)
theorem Inv.nofs (I : Inv X pins σ H s) {a : Addr} (h : s.heap.objs.size <= a) : a ∉ X.fs := fun hb => by
  obtain ⟨_, o, ho, _⟩ := I.ok.funs.mem hb
  exact absurd (Nat.lt_of_lt_of_le (Heap.lt_size ho) (Nat.le_trans I.sz h)) (Nat.lt_irrefl _)
theorem Inv.cne (I : Inv X pins σ H s) : ∀ x c, X.env.cells.lookup x = some c -> c ≠ X.env.locals := fun x c e z => by
  obtain ⟨v, o, ho, hd⟩ := I.cell x c e
  obtain ⟨m, ⟨o', es, ep, ho', hd', _⟩, _⟩ := I.loc
  rw [z, ho'] at ho; cases ho; rw [hd'] at hd; cases hd
theorem Inv.funs (I : Inv X pins σ H s) : s.heap.FunFrames X.base X.outer := by
  have all : ∀ (l : List Env), (∀ b ∈ frs l, b ∈ X.fs) -> X.s₀.heap.FunFrames X.base l -> s.heap.FunFrames X.base l := by
    intro l
    induction l with
    | nil => intro _ _; trivial
    | cons env r ih =>
      intro hs hl
      obtain ⟨hk, ⟨L, o, hf, hn, ho, hd⟩, hr⟩ := hl
      have hL : L ∈ X.fs := hs L (by unfold frs; rw [List.filterMap_cons, hf]; exact List.mem_cons_self)
      obtain ⟨sl, e⟩ := I.base.slot L o ho (I.ok.frf L hL) hL fun z => I.ok.exfs L z hL
      exact ⟨hk, ⟨L, _, hf, hn, e, hd⟩, ih (fun b hb => hs b (by unfold frs; rw [List.filterMap_cons, hf]; exact List.mem_cons_of_mem _ hb)) hr⟩
  exact all X.outer (fun _ hb => hb) I.ok.funs
theorem Inv.stack (I : Inv X pins σ H s) : s.heap.FunFrames X.base X.stack := by
  rcases I.ok.stk with e | ⟨e, hf⟩
  . rw [e]; exact I.funs
  . rw [e]
    obtain ⟨m, hn, _⟩ := I.loc
    refine .cons (by rw [I.ok.kind]; decide) hf hn ?_ I.funs
    exact Heap.get?_none_of_le (Nat.le_trans I.ok.bsz I.ok.above)
theorem Inv.stkSub (I : Inv X pins σ H s) : ∀ b ∈ frs X.stack, b ∈ X.env.locals :: X.fs := fun b hb => by
  rcases I.ok.stk with e | ⟨e, hf⟩
  . rw [e] at hb; exact List.mem_cons_of_mem _ hb
  . rw [e] at hb
    unfold frs at hb
    rw [List.filterMap_cons, hf] at hb
    exact hb
theorem Inv.stkFree (I : Inv X pins σ H s) : ∀ b ∈ frs X.stack, H b = none := fun b hb => by
  rcases List.mem_cons.mp (I.stkSub b hb) with e | hb
  . rw [e]; exact I.free
  . obtain ⟨_, o, ho, _⟩ := I.ok.funs.mem hb
    exact I.base.free b o ho (I.ok.frf b hb) fun z => I.ok.exfs b z hb
theorem Inv.step {g' : Array GenState} {t' : Nat} {d' : Drawn} {ch : List Addr} (I : Inv X pins σ H s)
    (hch : ∀ b ∈ ch, (b ∈ X.ex \/ X.s₀.heap.objs.size <= b) /\ b ≠ X.env.locals /\ (∀ x c, X.env.cells.lookup x = some c -> c ≠ b) /\ ∀ p ∈ X.pn ++ pins, p.1 ≠ b)
    (keep : ∀ b o, b ≠ X.env.locals -> b ∉ X.fs -> b ∉ ch -> s.heap.get? b = some o -> H b = none -> h'.get? b = some o)
    (slot : ∀ b o, b ≠ X.env.locals -> b ∈ X.fs -> b ∉ ch -> s.heap.get? b = some o -> H b = none -> ∃ sl, h'.get? b = some { o with slots := sl }) (free : ∀ b o, b ∉ ch -> s.heap.get? b = some o -> H b = none -> H' b = none)
    (there : ∀ b o, b ∉ ch -> s.heap.get? b = some o -> ∃ o', h'.get? b = some o')
    (tups : ∀ b xs, H b = some (.tup xs) -> H' b = some (.tup xs)) (frzs : ∀ b o u, H b = some (.frz o u) -> H' b = some (.frz o u)) (tbls : ∀ b ps, H b = some (.tbl ps) -> ∃ more, H' b = some (.tbl (ps ++ more)))
    (ns : ∀ m, s.heap.Ns X.env.locals m -> h'.Ns X.env.locals m) (hok : HOk X.prog X.w H' h') (hg : AllBare g') :
    Inv X pins σ H' { s with heap := h', gens := g', drawn := d', toks := t' } := by
  have neL : ∀ b o, X.s₀.heap.get? b = some o -> b ≠ X.env.locals := fun b o e => Nat.ne_of_lt (Nat.lt_of_lt_of_le (Heap.lt_size e) I.ok.above)
  have neC : ∀ b o, X.s₀.heap.get? b = some o -> b ∉ X.ex -> b ∉ ch := fun b o e hx hb => by
    rcases (hch b hb).1 with z | z
    . exact hx z
    . exact absurd (Nat.lt_of_lt_of_le (Heap.lt_size e) z) (Nat.lt_irrefl _)
  have cellK : ∀ x c, X.env.cells.lookup x = some c -> ∀ v, s.heap.IsCell c v -> h'.IsCell c v := fun x c e v ⟨o, ho, hd⟩ => by
    have nch : c ∉ ch := fun z => (hch c z).2.2.1 x c e rfl
    by_cases hc : c ∈ X.fs
    . obtain ⟨sl, q⟩ := slot c o (I.cne x c e) hc nch ho (I.freeC x c e)
      exact ⟨_, q, hd⟩
    . exact ⟨o, keep c o (I.cne x c e) hc nch ho (I.freeC x c e), hd⟩
  refine ⟨I.ok, I.os, hg, ⟨fun b o e n hb hx => ?_, fun b o e n hb hx => ?_, fun b o e n hx => ?_, fun b o e hx => ?_, fun b xs e => tups b xs (I.base.tups b xs e), fun b o xs e => frzs b o xs (I.base.frzs b o xs e), fun b ps e => ?_⟩, ?_, fun x c e => ?_, ?_, fun x c e => ?_, fun p hp => ?_, hok, I.len⟩
  . exact keep b o (neL b o e) hb (neC b o e hx) (I.base.keep b o e n hb hx) (I.base.free b o e n hx)
  . obtain ⟨sl, e1⟩ := I.base.slot b o e n hb hx
    obtain ⟨sl', e2⟩ := slot b _ (neL b o e) hb (neC b o e hx) e1 (I.base.free b o e n hx)
    exact ⟨sl', e2⟩
  . obtain ⟨o', e1⟩ := I.base.there b o e hx
    exact free b o' (neC b o e hx) e1 (I.base.free b o e n hx)
  . obtain ⟨o', e1⟩ := I.base.there b o e hx
    exact there b o' (neC b o e hx) e1
  . obtain ⟨m1, e1⟩ := I.base.tbls b ps e
    obtain ⟨m2, e2⟩ := tbls b _ e1
    exact ⟨m1 ++ m2, by rw [e2, Array.append_assoc]⟩
  . obtain ⟨m, hn, hl⟩ := I.loc
    refine ⟨m, ns m hn, fun i x v e1 e2 e3 => ?_⟩
    obtain ⟨u, r, l⟩ := hl i x v e1 e2 e3
    refine ⟨u, r, ?_⟩
    rcases l with l | ⟨k, c, e, z⟩
    . exact .inl l
    . exact .inr ⟨k, c, e, cellK x c e _ z⟩
  . obtain ⟨v, z⟩ := I.cell x c e
    exact ⟨v, cellK x c e v z⟩
  . obtain ⟨m, ⟨o, _, _, ho, _⟩, _⟩ := I.loc
    exact free _ o (fun z => (hch _ z).2.1 rfl) ho I.free
  . obtain ⟨v, o, ho, hd⟩ := I.cell x c e
    exact free c o (fun z => (hch c z).2.2.1 x c e rfl) ho (I.freeC x c e)
  . obtain ⟨e, n, ne, nf, d⟩ := I.pin p hp
    have nch : p.1 ∉ ch := fun z => (hch p.1 z).2.2.2 p hp rfl
    exact ⟨keep p.1 p.2 ne nf nch e n, free p.1 p.2 nch e n, ne, nf, d⟩
theorem Inv.un {t' : Nat} (I : Inv X pins σ H s) (u : Un X.fs [] H H' s.heap h') (hok : HOk X.prog X.w H' h') : Inv X pins σ H' { s with heap := h', toks := t' } := by
  obtain ⟨m, ⟨o, es, ep, ho, r⟩, _⟩ := id I.loc
  obtain ⟨sl, hL⟩ := u.any ho I.free (by simp)
  exact I.step (g' := s.gens) (d' := s.drawn) (ch := []) (fun _ z => nomatch z) (fun b o _ hb _ e n => u.keep b o e n hb (by simp)) (fun b o _ hb _ e n => u.slot b o e n hb (by simp)) (fun b o _ e n => u.free b o e n (by simp)) (fun b o _ e => u.there b o e (by simp)) u.tups u.frzs u.tbls (fun m' hm => by
    obtain ⟨o', es', ep', ho', r'⟩ := hm
    rw [ho] at ho'; cases ho'
    exact ⟨_, es', ep', hL, r'⟩) hok I.bare
theorem Inv.call {g' : Array GenState} {t' : Nat} {d' : Drawn} {ch : List Addr} (I : Inv X pins σ H s) (u : Un (frs X.stack) ch H H' s.heap h') (hok : HOk X.prog X.w H' h') (hg : AllBare g')
    (hch : ∀ b ∈ ch, (b ∈ X.ex \/ X.s₀.heap.objs.size <= b) /\ b ≠ X.env.locals /\ (∀ x c, X.env.cells.lookup x = some c -> c ≠ b) /\ ∀ p ∈ X.pn ++ pins, p.1 ≠ b) :
    Inv X pins σ H' { s with heap := h', gens := g', drawn := d', toks := t' } := by
  obtain ⟨m, ⟨o, es, ep, ho, r⟩, _⟩ := id I.loc
  obtain ⟨sl, hL⟩ := u.any ho I.free fun z => (hch _ z).2.1 rfl
  exact I.step (ch := ch) hch (fun b o hL hb hc e n => u.keep b o e n (fun z => (List.mem_cons.mp (I.stkSub b z)).elim hL hb) hc) (fun b o _ _ hc e n => u.any e n hc) (fun b o hc e n => u.free b o e n hc) (fun b o hc e => u.there b o e hc) u.tups u.frzs u.tbls (fun m' hm => by
    obtain ⟨o', es', ep', ho', r'⟩ := hm
    rw [ho] at ho'; cases ho'
    exact ⟨_, es', ep', hL, r'⟩) hok hg
theorem Inv.turned {t' : Nat} {it : Addr} (I : Inv X pins σ H s) (k : ∀ b o, b ≠ it -> s.heap.get? b = some o -> h'.get? b = some o) (hn : H it = none) (hL : it ≠ X.env.locals)
    (h1 : it ∈ X.ex \/ X.s₀.heap.objs.size <= it) (h2 : ∀ x c, X.env.cells.lookup x = some c -> c ≠ it) (h3 : ∀ p ∈ X.pn ++ pins, p.1 ≠ it) : Inv X pins σ H { s with heap := h', toks := t' } := by
  have nit : ∀ b u, H b = some u -> b ≠ it := fun b u e z => by rw [z, hn] at e; cases e
  refine I.step (g' := s.gens) (d' := s.drawn) (ch := [it]) (fun b hb => ?_) (fun b o _ _ hc e _ => k b o (fun z => hc (by simp [z])) e) (fun b o _ _ hc e _ => ⟨o.slots, k b o (fun z => hc (by simp [z])) e⟩) (fun _ _ _ _ n => n)
    (fun b o hc e => ⟨o, k b o (fun z => hc (by simp [z])) e⟩) (fun _ _ e => e) (fun _ _ _ e => e) (fun b ps e => ⟨#[], by rw [e]; simp⟩) (fun m hm => ?_) (fun b u e => ?_) I.bare
  . have e : b = it := by simpa using hb
    subst e
    exact ⟨h1, hL, h2, h3⟩
  . obtain ⟨o, es, ep, ho, r⟩ := hm
    exact ⟨o, es, ep, k _ o (Ne.symm hL) ho, r⟩
  . refine (I.hok b u e).stay (fun c v hc q => k c v ?_ q) (fun _ q => q) fun _ _ q => q
    rcases hc with z | z
    . rw [z]; exact nit b u e
    . exact nit c _ z
theorem Inv.tok (I : Inv X pins σ H s) (t : Nat) : Inv X pins σ H { s with toks := t } := I.un (h' := s.heap) (t' := t) Un.refl I.hok
theorem Inv.kept {t' : Nat} (I : Inv X pins σ H s) (k : ∀ b u, s.heap.get? b = some u -> h'.get? b = some u) : Inv X pins σ H { s with heap := h', toks := t' } := I.un (Un.kept k) (I.hok.kept k)
theorem Inv.laid {a : Addr} {o : HO} {t' : Nat} (I : Inv X pins σ H s) (k : ∀ b u, s.heap.get? b = some u -> h'.get? b = some u) (hp : s.heap.objs.size <= a) (new : ObjOk X.prog X.w (upd H a o) h' a o) :
    Inv X pins σ (upd H a o) { s with heap := h', toks := t' } := I.un (Un.laid k hp (I.hok.fresh hp)) (I.hok.laid k hp new)
theorem Inv.write {x e : Addr} {o : HO} {t' : Nat} (I : Inv X pins σ H s) (mu : Mut (H x)) (he : e = x \/ H e = some (.own x)) (k : ∀ b u, b ≠ e -> s.heap.get? b = some u -> h'.get? b = some u) (heo : ∃ u, h'.get? e = some u)
    (new : ObjOk X.prog X.w (upd H x o) h' x o) : Inv X pins σ (upd H x o) { s with heap := h', toks := t' } := I.un (Un.write mu he k heo) (I.hok.write mu he k heo new)
theorem Inv.weak {σ' : List (Option V)} (I : Inv X pins σ H s) (hl : σ'.length = σ.length) (w : ∀ (i : Nat) v, σ'[i]? = some (some v) -> σ[i]? = some (some v)) : Inv X pins σ' H s :=
  ⟨I.ok, I.os, I.bare, I.base, let ⟨m, hn, hl'⟩ := I.loc; ⟨m, hn, fun i x v e1 e2 e3 => hl' i x v e1 (w i v e2) e3⟩, I.cell, I.free, I.freeC, I.pin, I.hok, hl.trans I.len⟩
theorem Inv.pins_of {pins' : List (Addr × Obj)} (I : Inv X pins σ H s) (h : ∀ p ∈ pins', s.heap.get? p.1 = some p.2 /\ H p.1 = none /\ p.1 ≠ X.env.locals /\ p.1 ∉ X.fs /\ ∀ v, p.2.data ≠ .cell v) : Inv X pins' σ H s :=
  ⟨I.ok, I.os, I.bare, I.base, I.loc, I.cell, I.free, I.freeC, fun p hp => (List.mem_append.mp hp).elim (fun z => I.pin p (List.mem_append_left _ z)) (h p), I.hok, I.len⟩
theorem nodup_ix {N : List Str} (hN : N.Nodup) {i j : Nat} {x : Str} (a : N[i]? = some x) (b : N[j]? = some x) : i = j := by
  obtain ⟨h1, e1⟩ := List.getElem?_eq_some_iff.mp a
  obtain ⟨h2, e2⟩ := List.getElem?_eq_some_iff.mp b
  exact (List.getElem_inj hN).mp (e1.trans e2.symm)
theorem store_ok2 {M : Model} {A : Around} {E : Value -> Shared -> Prop} {i : Nat} {x : Str} {v : V} {u : Value} {Q : Unit -> Shared -> Prop} (I : Inv X pins σ H s) (hN : X.N.Nodup) (hi : X.N[i]? = some x) (hx : Loc X.env.scope x) (r : RelV v u)
    (h : ∀ s', Inv X pins (σ.set i (some v)) H s' -> (∃ a, Heap.SameBut a s.heap s'.heap /\ (a = X.env.locals \/ X.env.cells.lookup x = some a)) -> Q () s') (hf : X.fn x = true \/ X.env.scope.names.lookup x = some .local := by first | exact .inl rfl | exact .inr rfl | assumption) : wpAny M A (storeName X.env x u) Q E s := by
  obtain ⟨m, hn, hl⟩ := id I.loc
  have hcls : (X.env.scope.kind == .class || (X.env.scope.kind == .module && X.env.locals != X.env.globals)) = false := by rw [I.ok.kind]; rfl
  have hiσ : i < σ.length := by rw [I.len]; exact (List.getElem?_eq_some_iff.mp hi).1
  have cne := I.cne
  have tracked : ∀ {a : Addr} {h' : Heap}, (∃ o, s.heap.get? a = some o /\ H a = none) -> Heap.SameBut a s.heap h' -> HOk X.prog X.w H h' := fun {a h'} ha hs b ob e => by
    obtain ⟨_, _, hfree⟩ := ha
    refine (I.hok b ob e).stay (fun c w' hc q => (hs.2 c ?_).trans q) (fun _ q => q) fun _ _ q => q
    rintro rfl
    rcases hc with rfl | hc
    . rw [hfree] at e; cases e
    . rw [hfree] at hc; cases hc
  rcases hx with hk | hk
  . refine wpAny_storeName_local hk hn (fun h' hn' hs => ?_) hcls
    obtain ⟨oL, _, _, hoL, _⟩ := id hn
    refine h _ ⟨I.ok, I.os, I.bare, ⟨fun b o e n hb hx => ?_, fun b o e n hb hx => ?_, I.base.free, fun b o e hx => ?_, I.base.tups, I.base.frzs, I.base.tbls⟩, ⟨_, hn', fun j y v' e1 e2 e3 => ?_⟩, fun y c e => ?_, I.free, I.freeC, fun p hp => ?_, tracked ⟨oL, hoL, I.free⟩ hs, by simpa using I.len⟩ ⟨_, hs, .inl rfl⟩
    . exact (hs.2 b (Nat.ne_of_lt (Nat.lt_of_lt_of_le (Heap.lt_size e) I.ok.above))).trans (I.base.keep b o e n hb hx)
    . obtain ⟨sl, e1⟩ := I.base.slot b o e n hb hx
      exact ⟨sl, (hs.2 b (Nat.ne_of_lt (Nat.lt_of_lt_of_le (Heap.lt_size e) I.ok.above))).trans e1⟩
    . obtain ⟨o', e1⟩ := I.base.there b o e hx
      exact ⟨o', (hs.2 b (Nat.ne_of_lt (Nat.lt_of_lt_of_le (Heap.lt_size e) I.ok.above))).trans e1⟩
    . by_cases hj : j = i
      . subst hj
        rw [hi] at e1; cases e1
        rw [List.getElem?_set_self hiσ] at e2
        cases e2
        exact ⟨u, r, .inl ⟨hk, by simp⟩⟩
      . rw [List.getElem?_set_ne (Ne.symm hj)] at e2
        obtain ⟨u', r', q⟩ := hl j y v' e1 e2 e3
        refine ⟨u', r', ?_⟩
        rcases q with ⟨k, e⟩ | ⟨k, c, e, z⟩
        . refine .inl ⟨k, ?_⟩
          have : y ≠ x := fun e => hj (nodup_ix hN e1 (e ▸ hi))
          simp [this, e]
        . exact .inr ⟨k, c, e, z.sameBut hs (cne y c e)⟩
    . obtain ⟨w', z⟩ := I.cell y c e
      exact ⟨w', z.sameBut hs (cne y c e)⟩
    . obtain ⟨e, n, ne, nf, d⟩ := I.pin p hp
      exact ⟨(hs.2 p.1 ne).trans e, n, ne, nf, d⟩
  . have hfn : X.fn x = true := by
      rcases hf with z | z
      . exact z
      . rw [z] at hk; cases hk
    obtain ⟨c, hc⟩ := I.ok.has x (.inl hk)
    obtain ⟨w', z⟩ := I.cell x c hc
    refine wpAny_storeName_cell I.ok.kind hk hc z (fun h' hc' hs => ?_)
    obtain ⟨oc, hoc, hocd⟩ := id z
    refine h { s with heap := h' } ⟨I.ok, I.os, I.bare, ⟨fun b o e n hb hx => ?_, fun b o e n hb hx => ?_, I.base.free, fun b o e hx => ?_, I.base.tups, I.base.frzs, I.base.tbls⟩, ⟨m, hn.sameBut hs (Ne.symm (cne x c hc)), fun j y v' e1 e2 e3 => ?_⟩, fun y c' e => ?_, I.free, I.freeC, fun p hp => ?_, tracked ⟨oc, hoc, I.freeC x c hc⟩ hs, by simpa using I.len⟩ ⟨c, hs, .inr hc⟩
    . exact (hs.2 b (Nat.ne_of_lt (Nat.lt_of_lt_of_le (Heap.lt_size e) (I.ok.cab x c hfn hc)))).trans (I.base.keep b o e n hb hx)
    . obtain ⟨sl, e1⟩ := I.base.slot b o e n hb hx
      exact ⟨sl, (hs.2 b (Nat.ne_of_lt (Nat.lt_of_lt_of_le (Heap.lt_size e) (I.ok.cab x c hfn hc)))).trans e1⟩
    . obtain ⟨o', e1⟩ := I.base.there b o e hx
      exact ⟨o', (hs.2 b (Nat.ne_of_lt (Nat.lt_of_lt_of_le (Heap.lt_size e) (I.ok.cab x c hfn hc)))).trans e1⟩
    . by_cases hj : j = i
      . subst hj
        rw [hi] at e1; cases e1
        rw [List.getElem?_set_self hiσ] at e2
        cases e2
        exact ⟨u, r, .inr ⟨.inl hk, c, hc, hc'⟩⟩
      . rw [List.getElem?_set_ne (Ne.symm hj)] at e2
        obtain ⟨u', r', q⟩ := hl j y v' e1 e2 e3
        refine ⟨u', r', ?_⟩
        rcases q with q | ⟨k, c', e, z'⟩
        . exact .inl q
        . refine .inr ⟨k, c', e, z'.sameBut hs ?_⟩
          rintro rfl
          exact hj (nodup_ix hN e1 (I.ok.inj _ _ _ e hc ▸ hi))
    . by_cases hcc : c' = c
      . subst hcc; exact ⟨_, hc'⟩
      . obtain ⟨w2, z2⟩ := I.cell y c' e
        exact ⟨w2, z2.sameBut hs hcc⟩
    . obtain ⟨e, n, ne, nf, d⟩ := I.pin p hp
      refine ⟨(hs.2 p.1 ?_).trans e, n, ne, nf, d⟩
      intro q
      rw [q, hoc] at e
      have q' : oc = p.2 := Option.some.inj e
      exact d w' (by rw [<- q']; exact hocd)
theorem store_ok {M : Model} {A : Around} {E : Value -> Shared -> Prop} {i : Nat} {x : Str} {v : V} {u : Value} {Q : Unit -> Shared -> Prop} (I : Inv X pins σ H s) (hN : X.N.Nodup) (hi : X.N[i]? = some x) (hx : Loc X.env.scope x) (r : RelV v u)
    (h : ∀ s', Inv X pins (σ.set i (some v)) H s' -> Q () s') (hf : X.fn x = true \/ X.env.scope.names.lookup x = some .local := by first | exact .inl rfl | exact .inr rfl | assumption) : wpAny M A (storeName X.env x u) Q E s :=
  store_ok2 I hN hi hx r (fun s' I' _ => h s' I') hf
theorem Inv.call' {s' : Shared} {ch : List Addr} (I : Inv X pins σ H s) (ho : s'.os = s.os) (u : Un (frs X.stack) ch H H' s.heap s'.heap) (hok : HOk X.prog X.w H' s'.heap) (hg : AllBare s'.gens)
    (hch : ∀ b ∈ ch, (b ∈ X.ex \/ X.s₀.heap.objs.size <= b) /\ b ≠ X.env.locals /\ (∀ x c, X.env.cells.lookup x = some c -> c ≠ b) /\ ∀ p ∈ X.pn ++ pins, p.1 ≠ b) : Inv X pins σ H' s' := by
  obtain ⟨h', g', d', t', o'⟩ := s'
  have e : o' = s.os := ho
  subst e
  exact I.call (g' := g') (t' := t') (d' := d') u hok hg hch
end
abbrev XK := Value -> Option Addr -> Hp -> Prop
abbrev St := List (Option V)
abbrev VK := V -> Hp -> Prop
abbrev TE := St -> Hp -> VK -> Prop
abbrev TT := St -> Hp -> (Bool -> Hp -> Prop) -> Prop
abbrev TA := St -> Hp -> (List V -> Hp -> Prop) -> Prop
structure Ends where
  nx : St -> Hp -> Prop
  rt : VK
  bk : St -> Hp -> Prop := fun _ _ => False
  ct : St -> Hp -> Prop := fun _ _ => False
abbrev TS := Ends -> St -> Hp -> Prop
def EP (X : Cx) (pins : List (Addr × Obj)) (σ : St) (Q : VK) (u : Value) (s' : Shared) : Prop := ∃ v H', Inv X pins σ H' s' /\ RelV v u /\ Q v H'
def TP (X : Cx) (pins : List (Addr × Obj)) (σ : St) (Q : Bool -> Hp -> Prop) (b : Bool) (s' : Shared) : Prop := ∃ H', Inv X pins σ H' s' /\ Q b H'
def AP (X : Cx) (pins : List (Addr × Obj)) (σ : St) (Q : List V -> Hp -> Prop) (us : List Value) (s' : Shared) : Prop := ∃ vs H', Inv X pins σ H' s' /\ Vals vs us /\ Q vs H'
def SP (X : Cx) (pins : List (Addr × Obj)) (D : Ends) (f : Flow) (s' : Shared) : Prop :=
  match f with
  | .next => ∃ σ' H', Inv X pins σ' H' s' /\ D.nx σ' H'
  | .brk => ∃ σ' H', Inv X pins σ' H' s' /\ D.bk σ' H'
  | .cont => ∃ σ' H', Inv X pins σ' H' s' /\ D.ct σ' H'
  | .ret u => ∃ v σ' H', Inv X pins σ' H' s' /\ RelV v u /\ D.rt v H'
def PE (X : Cx) (e : Expr) (t : TE) : Prop :=
  ∀ (pins : List (Addr × Obj)) (s : Shared) (σ : St) (H : Hp) (Q : VK), Inv X pins σ H s -> t σ H Q -> wpAny (model X.prog X.w) X.A (eval e X.env) (EP X pins σ Q) X.xe s
def PT (X : Cx) (e : Expr) (t : TT) : Prop :=
  ∀ (pins : List (Addr × Obj)) (s : Shared) (σ : St) (H : Hp) (Q : Bool -> Hp -> Prop), Inv X pins σ H s -> t σ H Q -> wpAny (model X.prog X.w) X.A (isTrue e X.env (eval e X.env)) (TP X pins σ Q) X.xe s
def PW (X : Cx) (e : Expr) (t : TT) : Prop :=
  ∀ (whole : Sem Value) (pins : List (Addr × Obj)) (s : Shared) (σ : St) (H : Hp) (Q : Bool -> Hp -> Prop), Inv X pins σ H s -> t σ H Q -> wpAny (model X.prog X.w) X.A (isTrue e X.env whole) (TP X pins σ Q) X.xe s
theorem PW.pt {X : Cx} {e : Expr} {t : TT} (h : PW X e t) : PT X e t := h _
def PA (X : Cx) (es : List Expr) (t : TA) : Prop :=
  ∀ (pos : Pos) (pins : List (Addr × Obj)) (s : Shared) (σ : St) (H : Hp) (Q : List V -> Hp -> Prop), Inv X pins σ H s -> t σ H Q -> wpAny (model X.prog X.w) X.A (spliced (backTo pos (starEach es X.env))) (AP X pins σ Q) X.xe s
def PS (X : Cx) (st : Stmt) (t : TS) : Prop :=
  ∀ (pins : List (Addr × Obj)) (s : Shared) (σ : St) (H : Hp) (D : Ends), Inv X pins σ H s -> t D σ H -> wpAny (model X.prog X.w) X.A (exec st X.env) (SP X pins D) X.xe s
def PSs (X : Cx) (st : List Stmt) (t : TS) : Prop :=
  ∀ (pins : List (Addr × Obj)) (s : Shared) (σ : St) (H : Hp) (D : Ends), Inv X pins σ H s -> t D σ H -> wpAny (model X.prog X.w) X.A (execs st X.env) (SP X pins D) X.xe s
theorem thn {α : Type} {t : Sem α} {Q Q' : α -> Shared -> Prop} {M : Model} {A : Around} {E : Value -> Shared -> Prop} {s : Shared} (h : wpAny M A t Q E s) (hQ : ∀ a s, Q a s -> Q' a s) : wpAny M A t Q' E s := wpAny_mono h hQ fun _ _ x => x
end L2
namespace L2
open PySem PySem.Spec PyProof.Rows
section
variable {X : Cx}
theorem bin {a b : Expr} {ta tb : TE} (ha : PE X a ta) (hb : PE X b tb) {pins : List (Addr × Obj)} {s : Shared} {σ : St} {H : Hp} {R : V -> V -> Hp -> Prop} (I : Inv X pins σ H s) (h : ta σ H fun x H1 => tb σ H1 fun y H2 => R x y H2)
    {α : Type} {Q : α -> Shared -> Prop} {f : Value -> Value -> Sem α}
    (hf : ∀ v u s2 x y H2, Inv X pins σ H2 s2 -> RelV x v -> RelV y u -> R x y H2 -> wpAny (model X.prog X.w) X.A (f v u) Q X.xe s2) :
    wpAny (model X.prog X.w) X.A (eval a X.env) (fun v s₁ => wpAny (model X.prog X.w) X.A (eval b X.env) (fun u s₂ => wpAny (model X.prog X.w) X.A (f v u) Q X.xe s₂) X.xe s₁) X.xe s := by
  refine thn (ha pins s σ H _ I h) fun v s1 ⟨x, H1, I1, r1, q1⟩ => ?_
  refine thn (hb pins s1 σ H1 _ I1 q1) fun u s2 ⟨y, H2, I2, r2, q2⟩ => ?_
  exact hf v u s2 x y H2 I2 r1 r2 q2
def tVar (i : Nat) : TE := fun σ H Q => ∃ v, σ[i]? = some (some v) /\ Q v H
def tC (v : V) : TE := fun _ H Q => Q v H
theorem pe_var {i : Nat} {x : Str} {pos : Pos} (hN : X.N[i]? = some x) (hv : Vis X.env.scope x) (hd : (x == ("__debug__" : Str)) = false := by decide) (hcd : (x == ("__classdict__" : Str)) = false := by decide) : PE X (.Name x pos) (tVar i) := by
  intro pins s σ H Q I h
  obtain ⟨v, e, h⟩ := h
  obtain ⟨m, hn, hl⟩ := I.loc
  obtain ⟨u, r, l⟩ := hl i x v hN e hv
  have fin : EP X pins σ Q u s := ⟨v, H, I, r, h⟩
  rcases l with ⟨hk, hm⟩ | ⟨hk, c, hc, hcell⟩
  . exact wpAny_Name (wpAny_loadName_local I.ok.kind hk hn hm fin) hd
  . rcases hk with hk | hk
    . exact wpAny_Name (wpAny_loadName_cell I.ok.kind hk hc hcell fin) hd
    . exact wpAny_Name (wpAny_loadName_free I.ok.kind hk hc hcell fin hcd) hd
theorem pe_int {i j pos} : PE X (.Constant (.int i) j pos) (tC (.int i)) := fun _ _ _ H _ I h => wpAny_Constant_int ⟨.int i, H, I.tok _, ⟨_, rfl⟩, h⟩
theorem pe_bl {b j pos} : PE X (.Constant (.bool b) j pos) (tC (.bl b)) := fun _ _ _ H _ I h => Constant_bool ⟨.bl b, H, I, rfl, h⟩
theorem pe_non {j pos} : PE X (.Constant .none j pos) (tC .non) := fun _ _ _ H _ I h => Constant_none ⟨.non, H, I, rfl, h⟩
theorem pe_str {x j pos} : PE X (.Constant (.str x) j pos) (tC (.str x)) := fun _ _ _ H _ I h => Calls.Constant_str ⟨.str x, H, I.tok _, ⟨_, rfl⟩, h⟩
def Gl (X : Cx) (x : Str) : Prop := X.env.kindOf x = some .globalImplicit
theorem ld_glob {E : Value -> Shared -> Prop} {pins : List (Addr × Obj)} {s : Shared} {σ : St} {H : Hp} {x : Str} {u : Value} {pos : Pos} {Q : Value -> Shared -> Prop} (I : Inv X pins σ H s) (hg : Gl X x) (hm : X.mg x = some u) (h : Q u s)
    (hd : (x == ("__debug__" : Str)) = false := by decide) : wpAny (model X.prog X.w) X.A (eval (.Name x pos) X.env) Q E s :=
  Calls.Name_function_global I.ok.kind hg (Calls.loadGlobal_global (by rw [I.ok.glob]; exact I.mod.glob.keeps I.bk) hm h) hd
theorem ld_blt {E : Value -> Shared -> Prop} {pins : List (Addr × Obj)} {s : Shared} {σ : St} {H : Hp} {x : Str} {u : Value} {pos : Pos} {Q : Value -> Shared -> Prop} (I : Inv X pins σ H s) (hg : Gl X x) (hm : X.mg x = none) (hv : bootBuiltins x = some u) (h : Q u s)
    (hn : x ≠ "__name__" := by decide) (hd : (x == ("__debug__" : Str)) = false := by decide) : wpAny (model X.prog X.w) X.A (eval (.Name x pos) X.env) Q E s := by
  obtain ⟨mb, h1, h2⟩ := I.mod.blt
  exact Calls.Name_function_global I.ok.kind hg (Calls.loadGlobal_builtin (by rw [I.ok.glob]; exact I.mod.glob.keeps I.bk) hm (by rw [I.ok.blt]; exact h1.keeps I.bk) ((h2 x hn).trans hv) h) hd
theorem pe_glob {x : Str} {v : V} {u : Value} {pos : Pos} (hg : Gl X x) (hm : X.mg x = some u) (r : RelV v u) (hd : (x == ("__debug__" : Str)) = false := by decide) : PE X (.Name x pos) (tC v) :=
  fun _ _ _ H _ I h => ld_glob I hg hm ⟨v, H, I, r, h⟩ hd
theorem pe_bltn {x : Str} {v : V} {u : Value} {pos : Pos} (hg : Gl X x) (hm : X.mg x = none) (hv : bootBuiltins x = some u) (r : RelV v u) (hn : x ≠ "__name__" := by decide) (hd : (x == ("__debug__" : Str)) = false := by decide) : PE X (.Name x pos) (tC v) :=
  fun _ _ _ H _ I h => ld_blt I hg hm hv ⟨v, H, I, r, h⟩ hn hd
variable {a b : Expr} {ta tb : TE} {pos : Pos}
def tB (t : TE) : TT := fun σ H Q => t σ H fun x H1 => ∃ c, x = .bl c /\ Q c H1
theorem pt_val {e : Expr} {t : TE} (h : PE X e t) (he : ∀ whole, isTrue e X.env whole = (do let v <- whole; standAt e.pos; holding [v] (truthy v)) := by intro _; rfl) : PT X e (tB t) := by
  intro pins s σ H Q I hw
  refine isTrue_plain (thn (h pins s σ H _ I hw) fun v s1 ⟨x, H1, I1, r1, q1⟩ => ?_) (he _)
  obtain ⟨d, rfl, q⟩ := q1
  cases r1
  exact wpAny_truthy_bool ⟨H1, I1, q⟩
variable {tA tB' : TT} {rest : List Expr}
def tAnd (t u : TT) : TT := fun σ H Q => t σ H fun c H1 => if c = true then u σ H1 Q else Q false H1
def tOr (t u : TT) : TT := fun σ H Q => t σ H fun c H1 => if c = true then Q true H1 else u σ H1 Q
def tNot (t : TT) : TT := fun σ H Q => t σ H fun c H1 => Q (!c) H1
theorem pw_and1 (ha : PT X a tA) : PW X (.BoolOp .And [a] pos) tA := by
  intro wh pins s σ H Q I h
  refine isTrue_and (thn (ha pins s σ H Q I h) fun c s1 e => ?_)
  cases c with
  | true => exact isTrue_and_nil e
  | false => exact e
theorem pw_or1 (ha : PT X a tA) : PW X (.BoolOp .Or [a] pos) tA := by
  intro wh pins s σ H Q I h
  refine isTrue_or (thn (ha pins s σ H Q I h) fun c s1 e => ?_)
  cases c with
  | false => exact isTrue_or_nil e
  | true => exact e
theorem pw_and (ha : PT X a tA) (hb : PW X (.BoolOp .And (b :: rest) pos) tB') : PW X (.BoolOp .And (a :: b :: rest) pos) (tAnd tA tB') := by
  intro wh pins s σ H Q I h
  refine isTrue_and (thn (ha pins s σ H _ I h) fun c s1 ⟨H1, I1, q1⟩ => ?_)
  cases c with
  | true => exact hb wh pins s1 σ H1 Q I1 q1
  | false => exact ⟨H1, I1, q1⟩
theorem pw_or (ha : PT X a tA) (hb : PW X (.BoolOp .Or (b :: rest) pos) tB') : PW X (.BoolOp .Or (a :: b :: rest) pos) (tOr tA tB') := by
  intro wh pins s σ H Q I h
  refine isTrue_or (thn (ha pins s σ H _ I h) fun c s1 ⟨H1, I1, q1⟩ => ?_)
  cases c with
  | true => exact ⟨H1, I1, q1⟩
  | false => exact hb wh pins s1 σ H1 Q I1 q1
theorem pt_not (ha : PT X a tA) : PT X (.UnaryOp .Not a pos) (tNot tA) := by
  intro pins s σ H Q I h
  exact isTrue_not (ha pins s σ H (fun c H1 => Q (!c) H1) I h)
end
end L2
namespace L2
open PySem PySem.Spec PyProof.Rows
def SqL (K : W.Frag) (H : Hp) (a : Addr) (xs : List V) : Prop :=
  Rd H a (.lst xs) ∨
    ∃ (o : Obj) (its : Array Value) (n : Nat), K.lookup a = some o /\ o.cls = .type "list" /\ o.dict = none /\ o.data = .seq its n /\ its.size <= sizeLine /\ Vals xs its.toList
def SqT (K : W.Frag) (H : Hp) (a : Addr) (xs : List V) : Prop :=
  Rd H a (.tup xs) ∨
    ∃ (o : Obj) (its : Array Value) (n : Nat), K.lookup a = some o /\ o.cls = .type "tuple" /\ o.data = .seq its n /\ its.size <= sizeLine /\ Vals xs its.toList
def absV : Value -> Option V
  | .none => some .non
  | .bool b => some (.bl b)
  | .int i _ => some (.int i)
  | .str x _ => some (.str x)
  | .bytes b _ => some (.byt b)
  | .float b _ => some (.flt b)
  | .ref a => some (.ref a)
  | .type n => some (.ty n)
  | _ => none
theorem RelV.abs {x : V} {u : Value} (r : RelV x u) : absV u = some x := by
  cases x with
  | non => cases r; rfl
  | bl _ => cases r; rfl
  | int _ => obtain ⟨t, rfl⟩ := r; rfl
  | str _ => obtain ⟨t, rfl⟩ := r; rfl
  | byt _ => obtain ⟨t, rfl⟩ := r; rfl
  | flt _ => obtain ⟨t, rfl⟩ := r; rfl
  | ref _ => cases r; rfl
  | ty _ => cases r; rfl
theorem RelV.inj {x y : V} {u : Value} (r : RelV x u) (q : RelV y u) : x = y := Option.some.inj (r.abs.symm.trans q.abs)
theorem Vals.inj : ∀ {xs ys : List V} {us : List Value}, Vals xs us -> Vals ys us -> xs = ys
  | _, _, _, .nil, .nil => rfl
  | _, _, _, .cons r t, .cons r' t' => by rw [r.inj r', Vals.inj t t']
section
variable {X : Cx} {pins : List (Addr × Obj)} {σ : St} {H : Hp} {s : Shared} {a : Addr} {xs ys : List V}
theorem SqL.of {K : W.Frag} (h : H a = some (.lst xs)) : SqL K H a xs := .inl (.inl h)
theorem SqT.of {K : W.Frag} (h : H a = some (.tup xs)) : SqT K H a xs := .inl (.inl h)
theorem Inv.list (I : Inv X pins σ H s) (h : SqL X.K H a xs) : ∃ its : List Value, Vals xs its /\ PlainL s.heap a its.toArray /\ xs.length <= sizeLine := by
  rcases h with h | ⟨o, its, n, hk, hc, hd, hs, hz, r⟩
  . obtain ⟨z, its, n, r, e⟩ := h.ok I.hok
    exact ⟨its, r, ⟨_, n, e, rfl, rfl, rfl⟩, z⟩
  . refine ⟨its.toList, r, ⟨o, n, I.kIn a o hk, hc, hd, by simpa using hs⟩, ?_⟩
    have e := r.length
    simp only [Array.length_toList] at e
    omega
theorem Inv.tuple (I : Inv X pins σ H s) (h : SqT X.K H a xs) : ∃ its : List Value, Vals xs its /\ IsTup s.heap a its.toArray /\ xs.length <= sizeLine := by
  rcases h with h | ⟨o, its, n, hk, hc, hs, hz, r⟩
  . obtain ⟨z, its, r, p⟩ := h.ok I.hok
    exact ⟨its, r, p, z⟩
  . refine ⟨its.toList, r, ⟨o, I.kIn a o hk, hc, n, by simpa using hs⟩, ?_⟩
    have e := r.length
    simp only [Array.length_toList] at e
    omega
theorem Inv.list_inj (I : Inv X pins σ H s) (h : SqL X.K H a xs) (h' : SqL X.K H a ys) : xs = ys := by
  obtain ⟨its, r, ⟨o, n, e, _, _, d⟩, _⟩ := I.list h
  obtain ⟨its', r', ⟨o', n', e', _, _, d'⟩, _⟩ := I.list h'
  rw [e] at e'; cases e'
  rw [d] at d'
  injection d' with d1 _
  have : its = its' := by simpa using congrArg Array.toList d1
  subst this
  exact r.inj r'
theorem Inv.tuple_inj (I : Inv X pins σ H s) (h : SqT X.K H a xs) (h' : SqT X.K H a ys) : xs = ys := by
  obtain ⟨its, r, ⟨o, e, _, n, d⟩, _⟩ := I.tuple h
  obtain ⟨its', r', ⟨o', e', _, n', d'⟩, _⟩ := I.tuple h'
  rw [e] at e'; cases e'
  rw [d] at d'
  injection d' with d1 _
  have : its = its' := by simpa using congrArg Array.toList d1
  subst this
  exact r.inj r'
end
abbrev Cx.wish (X : Cx) (E : Value -> Shared -> Prop) : Cx := { X with xe := E }
abbrev Cx.nox (X : Cx) : Cx := X.wish fun _ _ => False
theorem Cx.Ok.wish {X : Cx} (ok : X.Ok) (E : Value -> Shared -> Prop) : (X.wish E).Ok :=
  ⟨ok.mod, ok.kind, ok.glob, ok.blt, ok.above, ok.inj, ok.has, ok.cab, ok.hd, ok.frames, ok.stk, ok.exf, ok.bs, ok.bsz, ok.noex, ok.exfs, ok.funs, ok.frf⟩
theorem Cx.Ok.unwish {X : Cx} {E : Value -> Shared -> Prop} (ok : (X.wish E).Ok) : X.Ok :=
  ⟨ok.mod, ok.kind, ok.glob, ok.blt, ok.above, ok.inj, ok.has, ok.cab, ok.hd, ok.frames, ok.stk, ok.exf, ok.bs, ok.bsz, ok.noex, ok.exfs, ok.funs, ok.frf⟩
section
variable {X : Cx} {pins : List (Addr × Obj)} {σ : St} {H : Hp} {s : Shared} {E : Value -> Shared -> Prop}
theorem Inv.wish (I : Inv X pins σ H s) (E : Value -> Shared -> Prop) : Inv (X.wish E) pins σ H s := ⟨I.ok.wish E, I.os, I.bare, I.base, I.loc, I.cell, I.free, I.freeC, I.pin, I.hok, I.len⟩
theorem Inv.unwish (I : Inv (X.wish E) pins σ H s) : Inv X pins σ H s := ⟨I.ok.unwish, I.os, I.bare, I.base, I.loc, I.cell, I.free, I.freeC, I.pin, I.hok, I.len⟩
theorem SP.unwish {D : Ends} {f : Flow} {s' : Shared} (h : SP (X.wish E) pins D f s') : SP X pins D f s' := by
  cases f with
  | next => obtain ⟨σ', H', I, q⟩ := h; exact ⟨σ', H', I.unwish, q⟩
  | brk => obtain ⟨σ', H', I, q⟩ := h; exact ⟨σ', H', I.unwish, q⟩
  | cont => obtain ⟨σ', H', I, q⟩ := h; exact ⟨σ', H', I.unwish, q⟩
  | ret u => obtain ⟨v, σ', H', I, r, q⟩ := h; exact ⟨v, σ', H', I.unwish, r, q⟩
theorem PSs.nox {st : List Stmt} {t : TS} (h : PSs X.nox st t) : PSs X st t := fun pins s σ H D I hw =>
  wpAny_mono (h pins s σ H D (I.wish _) hw) (fun _ _ q => q.unwish) fun _ _ z => False.elim z
end
section
variable {X : Cx} {st : Stmt} {rest : List Stmt} {t u : TS} {e : Expr} {te : TE} {pos : Pos}
def tNext : TS := fun D σ H => D.nx σ H
def tSeq (t u : TS) : TS := fun D σ H => t { D with nx := u D } σ H
theorem pss_nil : PSs X [] tNext := fun _ _ σ H _ I h => wpAny_execs_nil ⟨σ, H, I, h⟩
theorem pss_cons (h1 : PS X st t) (h2 : PSs X rest u) : PSs X (st :: rest) (tSeq t u) := by
  intro pins s σ H D I h
  refine wpAny_execs_cons (thn (h1 pins s σ H { D with nx := u D } I h) fun f s1 q => ?_)
  cases f with
  | next =>
    obtain ⟨σ', H', I', q⟩ := q
    exact h2 pins s1 σ' H' D I' q
  | ret v => exact q
  | brk => exact q
  | cont => exact q
theorem pss_one (h1 : PS X st t) : PSs X [st] t := by
  intro pins s σ H D I h
  refine wpAny_execs_cons (thn (h1 pins s σ H D I h) fun f s1 q => ?_)
  cases f with
  | next => exact wpAny_execs_nil q
  | ret v => exact q
  | brk => exact q
  | cont => exact q
theorem Inv.quiet {pins : List (Addr × Obj)} {σ : St} {H : Hp} {s : Shared} (I : Inv X pins σ H s) : interactive X.env = false := by simp [interactive, I.ok.kind]
def tDrop (te : TE) : TS := fun D σ H => te σ H fun _ H1 => D.nx σ H1
theorem ps_expr (he : PE X e te) (hs : swapsWith e none pos.line X.env = pure false := by rfl) : PS X (.Expr e pos) (tDrop te) := by
  intro pins s σ H D I h
  exact wpAny_Expr_any (thn (he pins s σ H _ I h) fun v s1 ⟨x, H1, I1, r1, q1⟩ => ⟨σ, H1, I1, q1⟩) I.quiet hs
def tRet (te : TE) : TS := fun D σ H => te σ H D.rt
theorem ps_ret (he : PE X e te) : PS X (.Return (some e) pos) (tRet te) := by
  intro pins s σ H D I h
  exact wpAny_Return_some (thn (he pins s σ H _ I h) fun v s1 ⟨x, H1, I1, r1, q1⟩ => ⟨x, σ, H1, I1, r1, q1⟩)
def tIfS (c : TT) (t u : TS) : TS := fun D σ H => c σ H fun b H1 => if b = true then t D σ H1 else u D σ H1
theorem ps_if {c : Expr} {a b : List Stmt} {tc : TT} (hc : PT X c tc) (ha : PSs X a t) (hb : PSs X b u) : PS X (.If c a b pos) (tIfS tc t u) := by
  intro pins s σ H D I h
  refine wpAny_If (thn (hc pins s σ H _ I h) fun d s1 ⟨H1, I1, q1⟩ => ?_)
  cases d with
  | true => exact ha pins s1 σ H1 D I1 q1
  | false => exact hb pins s1 σ H1 D I1 q1
end
abbrev TG := V -> St -> Hp -> (St -> Hp -> Prop) -> Prop
abbrev TGs := List V -> St -> Hp -> (St -> Hp -> Prop) -> Prop
def PG (X : Cx) (target : Expr) (t : TG) : Prop :=
  ∀ (pins : List (Addr × Obj)) (s : Shared) (σ : St) (H : Hp) (v : V) (u : Value) (Q : St -> Hp -> Prop), Inv X pins σ H s -> RelV v u -> t v σ H Q →
    wpAny (model X.prog X.w) X.A (assign target X.env u) (fun _ s' => ∃ σ' H', Inv X pins σ' H' s' /\ Q σ' H') X.xe s
def PGs (X : Cx) (ts : List Expr) (t : TGs) : Prop :=
  ∀ (pins : List (Addr × Obj)) (s : Shared) (σ : St) (H : Hp) (vs : List V) (us : List Value) (Q : St -> Hp -> Prop), Inv X pins σ H s -> Vals vs us -> t vs σ H Q →
    wpAny (model X.prog X.w) X.A (assignInOrder ((assignEach ts X.env).map (·.2)) us) (fun _ s' => ∃ σ' H', Inv X pins σ' H' s' /\ Q σ' H') X.xe s
abbrev TSet := V -> V -> V -> Hp -> (Hp -> Prop) -> Prop
def PSet (X : Cx) (t : TSet) : Prop :=
  ∀ (pins : List (Addr × Obj)) (s : Shared) (σ : St) (H : Hp) (o i v : V) (ov iv u : Value) (Q : Hp -> Prop), Inv X pins σ H s -> RelV o ov -> RelV i iv -> RelV v u -> t o i v H Q →
    wpAny (model X.prog X.w) X.A (setItem ov iv u) (fun _ s' => ∃ H', Inv X pins σ H' s' /\ Q H') X.xe s
section
variable {X : Cx} {pos : Pos}
def gName (i : Nat) : TG := fun v σ H Q => Q (σ.set i (some v)) H
theorem pg_name {i : Nat} {x : Str} (hN : X.N.Nodup) (hi : X.N[i]? = some x) (hx : Loc X.env.scope x) (hf : X.fn x = true \/ X.env.scope.names.lookup x = some .local := by first | exact .inl rfl | exact .inr rfl | assumption) : PG X (.Name x pos) (gName i) := by
  intro pins s σ H v u Q I r h
  exact wpAny_assign_Name (store_ok I hN hi hx r (fun s' I' => ⟨_, H, I', h⟩) hf)
def gNil : TGs := fun vs σ H Q => vs = [] /\ Q σ H
def gCons (t : TG) (u : TGs) : TGs := fun vs σ H Q => ∃ v r, vs = v :: r /\ t v σ H fun σ' H' => u r σ' H' Q
theorem pgs_nil : PGs X [] gNil := by
  intro pins s σ H vs us Q I r h
  obtain ⟨e, h⟩ := h
  subst e
  cases r
  exact assignInOrder_nil ⟨σ, H, I, h⟩
theorem pgs_cons {e : Expr} {es : List Expr} {t : TG} {u : TGs} (h1 : PG X e t) (h2 : PGs X es u)
    (hs : (assignEach (e :: es) X.env).map (·.2) = assign e X.env :: (assignEach es X.env).map (·.2) := by rfl) : PGs X (e :: es) (gCons t u) := by
  intro pins s σ H vs us Q I r h
  obtain ⟨v, vr, e1, h⟩ := h
  subst e1
  cases r with
  | cons r rr =>
    rw [hs]
    refine assignInOrder_cons (thn (h1 pins s σ H _ _ _ I r h) fun _ s1 ⟨σ1, H1, I1, q1⟩ => ?_)
    exact h2 pins s1 σ1 H1 _ _ Q I1 rr q1
def gTup (K : W.Frag) (n : Nat) (t : TGs) : TG := fun v σ H Q => ∃ a xs, v = .ref a /\ SqT K H a xs /\ xs.length = n /\ t xs σ H Q
theorem pg_tup {es : List Expr} {k : Nat} {t : TGs} {n : Nat} (hc : X.calm = true) (h : PGs X es t)
    (hn : (assignEach es X.env).length = n := by rfl) (hst : (assignEach es X.env).findIdx? (·.1) = none := by rfl) : PG X (.Tuple es k pos) (gTup X.K n t) := by
  intro pins s σ H v u Q I r hw
  obtain ⟨a, xs, e1, hq, hl, hw⟩ := hw
  subst e1
  cases r
  obtain ⟨its, rv, ht, hz⟩ := I.tuple hq
  refine assign_Tuple_tuple (I.ok.hd hc) ht (by simp [hn, <- hl, rv.length]) hst fun h' hx => ?_
  have I1 : Inv X pins σ H { s with heap := h' } := I.kept (t' := s.toks) fun b o e => hx b o (Nat.ne_of_lt (Heap.lt_size e)) e
  exact h pins _ σ H xs _ Q I1 (by simpa using rv) hw
def gSub (to ti : TE) (t : TSet) : TG := fun v σ H Q => to σ H fun o H1 => ti σ H1 fun i H2 => t o i v H2 fun H3 => Q σ H3
theorem pg_sub {o i : Expr} {to ti : TE} {t : TSet} (ho : PE X o to) (hi : PE X i ti) (hs : PSet X t)
    (ha : ∀ v, assign (.Subscript o i pos) X.env v = (do
      let ov <- holding [v] (eval o X.env)
      let iv <- holding [v, ov] (eval i X.env)
      standAt pos
      holding [v, ov, iv] (setItem ov iv v)
      release [v, ov, iv] []) := by intro _; rfl) : PG X (.Subscript o i pos) (gSub to ti t) := by
  intro pins s σ H v u Q I r h
  rw [ha]
  refine wpAny_bind (wpAny_holding (thn (ho pins s σ H _ I h) fun ov s1 ⟨x, H1, I1, r1, q1⟩ => ?_))
  refine wpAny_bind (wpAny_holding (thn (hi pins s1 σ H1 _ I1 q1) fun iv s2 ⟨y, H2, I2, r2, q2⟩ => ?_))
  refine wpAny_bind (wpAny_standAt (wpAny_bind (wpAny_holding (thn (hs pins s2 σ H2 x y v ov iv u _ I2 r1 r2 r q2) fun _ s3 ⟨H3, I3, q3⟩ => ?_))))
  exact wpAny_release ⟨σ, H3, I3, q3⟩
def tAsg (te : TE) (g : TG) : TS := fun D σ H => te σ H fun x H1 => g x σ H1 D.nx
theorem ps_asg {tg e : Expr} {te : TE} {g : TG} (he : PE X e te) (hg : PG X tg g) (hs : swapsWithSole [tg] e pos.line X.env = pure false := by rfl) (hw : swappedStores [tg] e X.env = pure none := by rfl)
    (h1 : (assignEach [tg] X.env).map (·.2) = [assign tg X.env] := by rfl) : PS X (.Assign [tg] e pos) (tAsg te g) := by
  intro pins s σ H D I h
  refine wpAny_Assign_stores (thn (he pins s σ H _ I h) fun v s1 ⟨x, H1, I1, r1, q1⟩ => ?_) hs hw
  rw [h1]
  exact thn (hg pins s1 σ H1 x v _ I1 r1 q1) fun _ s2 q => q
theorem ps_set {i : Nat} {x : Str} {e : Expr} {te : TE} {pos' : Pos} (hN : X.N.Nodup) (hi : X.N[i]? = some x) (hx : Loc X.env.scope x) (he : PE X e te) (hs : swapsWith e (some (.Name x pos')) pos.line X.env = pure false := by rfl) (hf : X.fn x = true \/ X.env.scope.names.lookup x = some .local := by first | exact .inl rfl | exact .inr rfl | assumption) :
    PS X (.Assign [.Name x pos'] e pos) (tAsg te (gName i)) := by
  intro pins s σ H D I h
  refine wpAny_Assign_Name (thn (he pins s σ H _ I h) fun v s1 ⟨y, H1, I1, r1, q1⟩ => ?_) hs
  exact store_ok I1 hN hi hx r1 (fun s2 I2 => ⟨_, H1, I2, q1⟩) hf
end
section
variable {X : Cx} {pos : Pos}
end
structure It where
  go : Nat -> Hp -> Prop
  yld : Nat -> Hp -> V -> Hp -> Prop
  stop : Nat -> Hp -> Prop
def FpOk (X : Cx) (pins : List (Addr × Obj)) (H : Hp) (b : Addr) : Prop :=
  H b = none /\ b ≠ X.env.locals /\ b ∉ X.fs /\ (b ∈ X.ex \/ X.s₀.heap.objs.size <= b) /\ (∀ x c, X.env.cells.lookup x = some c -> c ≠ b) /\ ∀ p ∈ X.pn ++ pins, p.1 ≠ b
theorem Inv.fpOk {X : Cx} {pins : List (Addr × Obj)} {σ : St} {H H' : Hp} {s : Shared} {b : Addr} (I : Inv X pins σ H s) (hb : s.heap.objs.size <= b) (hn : H' b = none) : FpOk X pins H' b := by
  refine ⟨hn, Nat.ne_of_gt (Nat.lt_of_lt_of_le I.lt hb), I.nofs hb, .inr (Nat.le_trans I.sz hb), fun x c e z => ?_, fun p hp z => ?_⟩
  . obtain ⟨v, q⟩ := I.cell x c e
    exact absurd (Nat.lt_of_lt_of_le q.lt (by rw [z]; exact hb)) (Nat.lt_irrefl _)
  . exact absurd (Nat.lt_of_lt_of_le (Heap.lt_size (I.pin p hp).1) (by rw [z]; exact hb)) (Nat.lt_irrefl _)
structure Turn (P : Program) (w : World) (K : W.Frag) (tg : Expr) (J : It) (fp : List Addr) (it : Addr) (tn : Nat -> Heap -> Prop) : Prop where
  mem : it ∈ fp
  obj : ∀ i h, tn i h -> ∀ b ∈ fp, ∃ o, h.get? b = some o /\ ∀ v, o.data ≠ .cell v
  keep : ∀ i h h', tn i h -> (∀ b ∈ fp, ∀ o, h.get? b = some o -> h'.get? b = some o) -> tn i h'
  item : ∀ (X : Cx), X.prog = P -> X.w = w -> X.K = K -> X.calm = true -> ∀ (i : Nat) (pins : List (Addr × Obj)) (s : Shared) (σ : St) (H : Hp) (E : Value -> Shared -> Prop), Inv X pins σ H s -> (∀ b ∈ fp, FpOk X pins H b) -> tn i s.heap -> J.go i H →
    wpAny (model P w) X.A (pyNext (.ref it)) (fun r s1 => ∃ u, r = some u ∧
      wpAny (model P w) X.A (letOwnedTupleGo tg (.ref it) u) (fun _ s2 => ∃ x H', Inv X pins σ H' s2 /\ RelV x u /\ J.yld i H x H' /\ tn (i + 1) s2.heap /\ ∀ b ∈ fp, H' b = none) E s1) E s
  done : ∀ (X : Cx), X.prog = P -> X.w = w -> X.K = K -> X.calm = true -> ∀ (i : Nat) (pins : List (Addr × Obj)) (s : Shared) (σ : St) (H : Hp) (E : Value -> Shared -> Prop), Inv X pins σ H s -> (∀ b ∈ fp, FpOk X pins H b) -> tn i s.heap -> J.stop i H →
    wpAny (model P w) X.A (pyNext (.ref it)) (fun r s1 => r = none /\ Inv X pins σ H s1) E s
  self : ∀ (A : Around) (i : Nat) (s : Shared) (Q : Value -> Shared -> Prop) (E : Value -> Shared -> Prop), tn i s.heap -> Q (.ref it) s -> wpAny (model P w) A (pyIter (.ref it)) Q E s
abbrev TI := St -> Hp -> (It -> Hp -> Prop) -> Prop
def PIE (X : Cx) (pins : List (Addr × Obj)) (σ : St) (tg : Expr) (R : It -> Hp -> Prop) (itv : Value) (s2 : Shared) : Prop :=
  ∃ (it : Addr) (fp : List Addr) (tn : Nat -> Heap -> Prop) (J : It) (H' : Hp), itv = .ref it /\ Inv X pins σ H' s2 /\ Turn X.prog X.w X.K tg J fp it tn /\ tn 0 s2.heap /\ (∀ b ∈ fp, FpOk X pins H' b) /\ R J H'
def PI (X : Cx) (tg iter : Expr) (wi : TI) : Prop :=
  ∀ (pins : List (Addr × Obj)) (s : Shared) (σ : St) (H : Hp) (R : It -> Hp -> Prop), Inv X pins σ H s -> wi σ H R →
    wpAny (model X.prog X.w) X.A (eval iter X.env) (fun v s1 => wpAny (model X.prog X.w) X.A (pyIter v) (PIE X pins σ tg R) X.xe s1) X.xe s
theorem go_of {M : Model} {A : Around} {E : Value -> Shared -> Prop} {s : Shared} {tg : Expr} {it : Addr} {u : Value} {o : Obj} {n : String} {vs : Array Value} {Q : Unit -> Shared -> Prop} (ho : s.heap.get? it = some o) (hc : o.cls = .type n) (hd : o.data = .fields vs)
    (hn : ["enumerate", "zip", "dict_itemiterator", "dict_reverseitemiterator", "odict_iterator", "itertools.zip_longest", "itertools.pairwise"].contains n = false) (hQ : Q () s) : wpAny M A (letOwnedTupleGo tg (.ref it) u) Q E s := by
  unfold letOwnedTupleGo
  cases tg <;> first
    | exact wpAny_pure hQ
    | (cases u <;> first
        | exact wpAny_pure hQ
        | (refine wpAny_bind (wpAny_load ho ?_)
           rw [hc, hd]
           show wpAny M A (if (["enumerate", "zip", "dict_itemiterator", "dict_reverseitemiterator", "odict_iterator", "itertools.zip_longest", "itertools.pairwise"].contains n && vs[0]? == some (rawInt _)) = true then _ else _) Q E s
           rw [if_neg (by intro h; rw [hn, Bool.false_and] at h; cases h)]
           exact wpAny_pure hQ))
def Itl (K : W.Frag) (a : Addr) : It :=
  ⟨fun i H => ∃ xs x, SqL K H a xs /\ xs[i]? = some x, fun i H x H' => H' = H /\ ∀ xs, SqL K H a xs -> xs[i]? = some x, fun i H => ∃ xs, SqL K H a xs /\ xs.length <= i⟩
def Itt (K : W.Frag) (a : Addr) : It :=
  ⟨fun i H => ∃ xs x, SqT K H a xs /\ xs[i]? = some x, fun i H x H' => H' = H /\ ∀ xs, SqT K H a xs -> xs[i]? = some x, fun i H => ∃ xs, SqT K H a xs /\ xs.length <= i⟩
def Itr (lo : Int) (n : Nat) : It := ⟨fun i _ => i < n, fun i H x H' => H' = H /\ x = .int (lo + i), fun i _ => n <= i⟩
theorem turn_list {P : Program} {w : World} {K : W.Frag} {tg : Expr} (a it : Addr) : Turn P w K tg (Itl K a) [it] it (fun i h => h.IsListIter it a i) where
  mem := by simp
  obj := fun i h st b hb => by
    have e : b = it := by simpa using hb
    subst e
    obtain ⟨o, e, c, d⟩ := st
    exact ⟨o, e, fun v z => by rw [d] at z; cases z⟩
  keep := fun i h h' st k => st.at fun o e => k it (by simp) o e
  item := by
    intro X hP hw hK hc i pins s σ H E I hf st hg
    subst hP hw hK
    obtain ⟨xs, x, hq, hx⟩ := hg
    obtain ⟨its, rv, p, hz⟩ := I.list hq
    obtain ⟨u, hu, ru⟩ := rv.get hx
    obtain ⟨f0, f1, f2, f3, f4, f5⟩ := hf it (by simp)
    refine wpAny_pyNext_list_item st p.isList (x := u) (by simpa using hu) fun h' st' sb => ?_
    have I1 : Inv X pins σ H { s with heap := h' } := I.turned (t' := s.toks) (fun b o hb e => (sb.2 b hb).trans e) f0 f1 f3 f4 f5
    obtain ⟨o, e, c, d⟩ := id st'
    exact ⟨u, rfl, go_of (s := { s with heap := h' }) e c d (by decide) ⟨x, H, I1, ru, ⟨rfl, fun ys hy => by rw [I.list_inj hy hq]; exact hx⟩, st', fun b hb => (hf b hb).1⟩⟩
  done := by
    intro X hP hw hK hc i pins s σ H E I hf st hg
    subst hP hw hK
    obtain ⟨xs, hq, hx⟩ := hg
    obtain ⟨its, rv, p, hz⟩ := I.list hq
    obtain ⟨f0, f1, f2, f3, f4, f5⟩ := hf it (by simp)
    have hl := rv.length
    exact wpAny_pyNext_list_end (I.ok.hd hc) st p.isList (by simp; omega) fun h' eb => ⟨rfl, I.turned (t' := s.toks) (fun b o hb e => eb b o hb e) f0 f1 f3 f4 f5⟩
  self := fun _ _ _ _ _ st h => wpAny_pyIter_listiter st h
theorem turn_tuple {P : Program} {w : World} {K : W.Frag} {tg : Expr} (a it : Addr) : Turn P w K tg (Itt K a) [it] it (fun i h => h.IsTupleIter it a i) where
  mem := by simp
  obj := fun i h st b hb => by
    have e : b = it := by simpa using hb
    subst e
    obtain ⟨o, e, c, d⟩ := st
    exact ⟨o, e, fun v z => by rw [d] at z; cases z⟩
  keep := fun i h h' st k => st.at fun o e => k it (by simp) o e
  item := by
    intro X hP hw hK hc i pins s σ H E I hf st hg
    subst hP hw hK
    obtain ⟨xs, x, hq, hx⟩ := hg
    obtain ⟨its, rv, p, hz⟩ := I.tuple hq
    obtain ⟨u, hu, ru⟩ := rv.get hx
    obtain ⟨f0, f1, f2, f3, f4, f5⟩ := hf it (by simp)
    refine wpAny_pyNext_tuple_item st (show s.heap.IsTuple a its.toArray from p) (x := u) (by simpa using hu) fun h' st' sb => ?_
    have I1 : Inv X pins σ H { s with heap := h' } := I.turned (t' := s.toks) (fun b o hb e => (sb.2 b hb).trans e) f0 f1 f3 f4 f5
    obtain ⟨o, e, c, d⟩ := id st'
    exact ⟨u, rfl, go_of (s := { s with heap := h' }) e c d (by decide) ⟨x, H, I1, ru, ⟨rfl, fun ys hy => by rw [I.tuple_inj hy hq]; exact hx⟩, st', fun b hb => (hf b hb).1⟩⟩
  done := by
    intro X hP hw hK hc i pins s σ H E I hf st hg
    subst hP hw hK
    obtain ⟨xs, hq, hx⟩ := hg
    obtain ⟨its, rv, p, hz⟩ := I.tuple hq
    obtain ⟨f0, f1, f2, f3, f4, f5⟩ := hf it (by simp)
    have hl := rv.length
    exact wpAny_pyNext_tuple_end (I.ok.hd hc) st (show s.heap.IsTuple a its.toArray from p) (by simp; omega) fun h' eb => ⟨rfl, I.turned (t' := s.toks) (fun b o hb e => eb b o hb e) f0 f1 f3 f4 f5⟩
  self := fun _ _ _ _ _ st h => wpAny_pyIter_tupleiter st h
theorem turn_range {P : Program} {w : World} {K : W.Frag} {tg : Expr} (it : Addr) (lo : Int) (n : Nat) : Turn P w K tg (Itr lo n) [it] it (fun i h => IsRangeIter h it (lo + (i : Nat) * 1) ((n : Int) - (i : Nat)) 1) where
  mem := by simp
  obj := fun i h st b hb => by
    have e : b = it := by simpa using hb
    subst e
    exact ⟨_, st, fun v z => by
      have z' : Data.fields _ = Data.cell v := z
      cases z'⟩
  keep := fun i h h' st k => k it (by simp) _ st
  item := by
    intro X hP hw hK hc i pins s σ H E I hf st hg
    subst hP hw hK
    obtain ⟨f0, f1, f2, f3, f4, f5⟩ := hf it (by simp)
    have W := Walks.range (prog := X.prog) (w := X.w) (I.ok.hd hc) it lo 1 n
    refine W.item i s _ _ hg st fun v h' tk hv st' kk => ?_
    obtain ⟨t, rfl⟩ := hv
    have I1 : Inv X pins σ H { s with heap := h', toks := tk } := I.turned (fun b o hb e => kk b o (by simpa using hb) e) f0 f1 f3 f4 f5
    refine ⟨_, rfl, go_of (s := { s with heap := h', toks := tk }) (n := "range_iterator") st' rfl rfl (by decide) ⟨.int (lo + i), H, I1, ⟨t, ?_⟩, ⟨rfl, rfl⟩, st', fun b hb => (hf b hb).1⟩⟩
    rw [Int.mul_one]
  done := by
    intro X hP hw hK hc i pins s σ H E I hf st hg
    subst hP hw hK
    obtain ⟨f0, f1, f2, f3, f4, f5⟩ := hf it (by simp)
    exact wpAny_pyNext_range_end (I.ok.hd hc) st (by have : n <= i := hg; omega) fun h' eb => ⟨rfl, I.turned (t' := s.toks) (fun b o hb e => eb b o hb e) f0 f1 f3 f4 f5⟩
  self := fun _ _ _ _ _ st h => wpAny_pyIter_rangeiter st h
end L2
namespace L2
open PySem PySem.Spec PyProof.Rows
section
variable {X : Cx} {tg : Expr}
def iList (K : W.Frag) (tl : TE) : TI := fun σ H R => tl σ H fun x H1 => ∃ a, x = .ref a /\ (∃ xs, SqL K H1 a xs) /\ R (Itl K a) H1
def iTup (K : W.Frag) (tl : TE) : TI := fun σ H R => tl σ H fun x H1 => ∃ a, x = .ref a /\ (∃ xs, SqT K H1 a xs) /\ R (Itt K a) H1
theorem pi_list {l : Expr} {tl : TE} (hl : PE X l tl) : PI X tg l (iList X.K tl) := by
  intro pins s σ H R I h
  refine thn (hl pins s σ H _ I h) fun v s1 ⟨x, H1, I1, r1, q1⟩ => ?_
  obtain ⟨a, e, ⟨xs, hq⟩, q⟩ := q1
  subst e
  cases r1
  obtain ⟨its, rv, p, hz⟩ := I1.list hq
  refine wpAny_pyIter_list p.isList ?_
  refine ⟨s1.heap.objs.size, [s1.heap.objs.size], _, _, H1, rfl, I1.kept (t' := s1.toks) fun b o e => Heap.get?_push_of_some _ e, turn_list a _, ⟨_, Heap.get?_push_size _ rfl, rfl, rfl⟩, fun b hb => ?_, q⟩
  have e : b = s1.heap.objs.size := by simpa using hb
  subst e
  exact I1.fpOk (Nat.le_refl _) (I1.hok.fresh (Nat.le_refl _))
theorem pi_tup {l : Expr} {tl : TE} (hl : PE X l tl) : PI X tg l (iTup X.K tl) := by
  intro pins s σ H R I h
  refine thn (hl pins s σ H _ I h) fun v s1 ⟨x, H1, I1, r1, q1⟩ => ?_
  obtain ⟨a, e, ⟨xs, hq⟩, q⟩ := q1
  subst e
  cases r1
  obtain ⟨its, rv, p, hz⟩ := I1.tuple hq
  refine wpAny_pyIter_tuple (show s1.heap.IsTuple a its.toArray from p) ?_
  refine ⟨s1.heap.objs.size, [s1.heap.objs.size], _, _, H1, rfl, I1.kept (t' := s1.toks) fun b o e => Heap.get?_push_of_some _ e, turn_tuple a _, ⟨_, Heap.get?_push_size _ rfl, rfl, rfl⟩, fun b hb => ?_, q⟩
  have e : b = s1.heap.objs.size := by simpa using hb
  subst e
  exact I1.fpOk (Nat.le_refl _) (I1.hok.fresh (Nat.le_refl _))
theorem range_it {pins : List (Addr × Obj)} {σ : St} {H : Hp} {s : Shared} {R : It -> Hp -> Prop} {E : Value -> Shared -> Prop} {lo hi : Int} {t u v : Tok} {tk : Nat} (I : Inv X pins σ H s) (h1 : -(2 ^ 62) <= lo) (h2 : lo < 2 ^ 62) (h3 : -(2 ^ 62) <= hi) (h4 : hi < 2 ^ 62)
    (q : R (Itr lo (hi - lo).toNat) H) : wpAny (model X.prog X.w) X.A (pyIter (.ref s.heap.objs.size)) (PIE X pins σ tg R) E { s with heap := s.heap.push { cls := .type "range", data := .fields #[.int lo t, .int hi u, .int 1 v] }, toks := tk } := by
  refine wpAny_pyIter_range (IsRange.new ..) (small_one h1 h2 h3 h4) ?_
  have I1 : Inv X pins σ H { s with heap := s.heap.push { cls := .type "range", data := .fields #[.int lo t, .int hi u, .int 1 v] }, toks := tk } := I.kept fun b o e => Heap.get?_push_of_some _ e
  refine ⟨(s.heap.push { cls := .type "range", data := .fields #[.int lo t, .int hi u, .int 1 v] }).objs.size, [(s.heap.push { cls := .type "range", data := .fields #[.int lo t, .int hi u, .int 1 v] }).objs.size], _, _, H, rfl,
    I1.kept (t' := tk) fun b o e => Heap.get?_push_of_some _ e, turn_range _ lo (hi - lo).toNat, ?_, fun b hb => ?_, q⟩
  . have e1 : lo + ((0 : Nat) : Int) * 1 = lo := by simp
    have e2 : (((hi - lo).toNat : Nat) : Int) - ((0 : Nat) : Int) = Builtin.Range.rangeSize lo hi 1 := by rw [rangeSize_one]; split <;> omega
    show IsRangeIter _ _ (lo + ((0 : Nat) : Int) * 1) ((((hi - lo).toNat : Nat) : Int) - ((0 : Nat) : Int)) 1
    rw [e1, e2]
    exact Heap.get?_push_size _ rfl
  . have e : b = (s.heap.push { cls := .type "range", data := .fields #[.int lo t, .int hi u, .int 1 v] }).objs.size := by simpa using hb
    subst e
    exact I1.fpOk (Nat.le_refl _) (I1.hok.fresh (Nat.le_refl _))
def iRng1 (ta : TA) : TI := fun σ H R => ta σ H fun vs H1 => ∃ j : Int, vs = [.int j] /\ -(2 ^ 62) <= j /\ j < 2 ^ 62 /\ R (Itr 0 j.toNat) H1
theorem pi_range1 {a : Expr} {ta : TA} {p pos : Pos} (hg : Gl X "range") (hm : X.mg "range" = none) (ha : PA X [a] ta) (hs : starEach [a] X.env = [(false, eval a X.env)] := by rfl) : PI X tg (.Call (.Name "range" p) [a] [] pos) (iRng1 ta) := by
  intro pins s σ H R I h
  refine Call_ (ld_blt I hg hm boot_range (PyProof.Rows.callWith_type1 (thn (ha pos pins s σ H _ I h) fun us s1 ⟨vs, H1, I1, r1, q1⟩ => ?_) hs rfl))
  obtain ⟨j, e, q1, q2, q⟩ := q1
  subst e
  cases r1 with
  | cons r rr =>
    cases rr
    obtain ⟨t, rfl⟩ := r
    exact call_range_1 (range_it I1 (by omega) (by omega) q1 q2 (by simpa using q))
def tFor (wi : TI) (g : TG) (tb : TS) : TS := fun D σ H => wi σ H fun J H1 => ∃ W : Nat -> Nat -> St -> Hp -> Prop, (∃ m, W 0 m σ H1) /\ ∀ i m σ H, W i m σ H →
  (J.stop i H /\ D.nx σ H) \/ (J.go i H /\ ∃ N : St -> Hp -> Prop, (∀ σ' H', N σ' H' -> ∃ m', m' < m /\ W (i + 1) m' σ' H') /\ ∀ x H', J.yld i H x H' -> g x σ H' fun σ2 H2 => tb { D with nx := N, ct := N, bk := D.nx } σ2 H2)
def pinsAt (fp : List Addr) (h : Heap) : List (Addr × Obj) := fp.filterMap fun b => (h.get? b).map fun o => (b, o)
theorem mem_pinsAt {fp : List Addr} {h : Heap} {b : Addr} {o : Obj} (hb : b ∈ fp) (e : h.get? b = some o) : (b, o) ∈ pinsAt fp h := List.mem_filterMap.mpr ⟨b, hb, by rw [e]; rfl⟩
theorem of_pinsAt {fp : List Addr} {h : Heap} {p : Addr × Obj} (hp : p ∈ pinsAt fp h) : p.1 ∈ fp /\ h.get? p.1 = some p.2 := by
  obtain ⟨b, hb, e⟩ := List.mem_filterMap.mp hp
  cases q : h.get? b with
  | none => rw [q] at e; cases e
  | some o =>
    rw [q] at e
    have e' : (b, o) = p := Option.some.inj e
    subst e'
    exact ⟨hb, q⟩
theorem Inv.pinned {pins : List (Addr × Obj)} {σ : St} {H : Hp} {s : Shared} {fp : List Addr} (I : Inv X pins σ H s) (hf : ∀ b ∈ fp, FpOk X pins H b) (ho : ∀ b ∈ fp, ∃ o, s.heap.get? b = some o /\ ∀ v, o.data ≠ .cell v) : Inv X (pins ++ pinsAt fp s.heap) σ H s :=
  I.pins_of fun p hp => (List.mem_append.mp hp).elim (fun z => I.pin p (List.mem_append_right _ z)) fun z => by
    obtain ⟨hb, e⟩ := of_pinsAt z
    obtain ⟨f0, f1, f2, _⟩ := hf p.1 hb
    obtain ⟨o, e', d⟩ := ho p.1 hb
    rw [e] at e'; cases e'
    exact ⟨e, f0, f1, f2, d⟩
theorem Inv.unpinned {pins pl : List (Addr × Obj)} {σ : St} {H : Hp} {s : Shared} (I : Inv X (pins ++ pl) σ H s) : Inv X pins σ H s := I.pins_of fun p hp => I.pin p (List.mem_append_right _ (List.mem_append_left _ hp))
theorem ps_for {iter : Expr} {body : List Stmt} {wi : TI} {g : TG} {tb : TS} {pos : Pos} (hp : PassesOwn (model X.prog X.w) X.A X.env X.xe) (hc : X.calm = true) (hi : PI X tg iter wi) (hg : PG X tg g) (hb : PSs X body tb)
    (hs : ∀ x, foldedSetIterable iter X.env x = pure x := by intro _; rfl) : PS X (.For tg iter body [] pos) (tFor wi g tb) := by
  intro pins s σ H D I h
  refine wpAny_For (thn (hi pins s σ H _ I h) fun v s1 h1 => thn h1 fun itv s2 h2 => ?_) hs
  obtain ⟨it, fp, tn, J, H2, e, I2, T, st2, f2, W, ⟨m0, w0⟩, turn⟩ := h2
  subst e
  -- what stays true of the iterator's objects through the loop
  have stat : ∀ {H' : Hp}, (∀ b ∈ fp, H' b = none) -> ∀ b ∈ fp, FpOk X pins H' b := fun hn b hb => ⟨hn b hb, (f2 b hb).2⟩
  refine codeAny_forLoop_any (fun n s' => ∃ i σ' H', Inv X pins σ' H' s' /\ tn i s'.heap /\ (∀ b ∈ fp, H' b = none) /\ W i n σ' H') ?_ m0 ⟨0, σ, H2, I2, st2, fun b hb => (f2 b hb).1, w0⟩
  rintro n s3 ⟨i, σ3, H3, I3, st3, fr3, w3⟩
  rcases turn i n σ3 H3 w3 with ⟨stop, qn⟩ | ⟨go, N, hN, step⟩
  . refine wpAny_passesOwn hp (thn (T.done X rfl rfl rfl hc i pins s3 σ3 H3 X.xe I3 (stat fr3) st3 stop) fun r s4 ⟨hr, I4⟩ => ?_)
    subst hr
    exact wpAny_execs_nil ⟨σ3, H3, I4, qn⟩
  . refine wpAny_passesOwn hp (thn (T.item X rfl rfl rfl hc i pins s3 σ3 H3 X.xe I3 (stat fr3) st3 go) fun r s4 ⟨u, hr, h4⟩ => ?_)
    subst hr
    refine wpAny_passesOwn hp (thn h4 fun _ s5 ⟨x, H5, I5, r5, y5, st5, fr5⟩ => ?_)
    have I5' := I5.pinned (stat fr5) (T.obj _ _ st5)
    refine wpAny_passesOwn hp (thn (hg _ s5 σ3 H5 x u _ I5' r5 (step x H5 y5)) fun _ s6 ⟨σ6, H6, I6, q6⟩ => ?_)
    refine wpAny_passesOwn hp (thn (hb _ s6 σ6 H6 _ I6 q6) fun f s7 q7 => ?_)
    have again : ∀ {σ7 : St} {H7 : Hp}, Inv X (pins ++ pinsAt fp s5.heap) σ7 H7 s7 -> N σ7 H7 -> ∃ m, m < n /\ ∃ i σ' H', Inv X pins σ' H' s7 /\ tn i s7.heap /\ (∀ b ∈ fp, H' b = none) /\ W i m σ' H' := fun {σ7 H7} I7 n7 => by
      obtain ⟨m', hm, w7⟩ := hN σ7 H7 n7
      refine ⟨m', hm, i + 1, σ7, H7, I7.unpinned, T.keep _ _ _ st5 fun b hb o e => (I7.pin (b, o) (List.mem_append_right _ (List.mem_append_right _ (mem_pinsAt hb e)))).1, fun b hb => ?_, w7⟩
      obtain ⟨o, e, d⟩ := T.obj _ _ st5 b hb
      exact (I7.pin (b, o) (List.mem_append_right _ (List.mem_append_right _ (mem_pinsAt hb e)))).2.1
    cases f with
    | next => obtain ⟨σ7, H7, I7, n7⟩ := q7; exact again I7 n7
    | cont => obtain ⟨σ7, H7, I7, n7⟩ := q7; exact again I7 n7
    | brk => obtain ⟨σ7, H7, I7, q7⟩ := q7; exact ⟨σ7, H7, I7.unpinned, q7⟩
    | ret v => obtain ⟨x7, σ7, H7, I7, r7, q7⟩ := q7; exact ⟨x7, σ7, H7, I7.unpinned, r7, q7⟩
end
theorem for_list {K : W.Frag} {a : Addr} {xs : List V} {g : TG} {tb : TS} {D : Ends} {σ : St} {H : Hp} (Pv : Nat -> St -> Hp -> Prop) (h0 : Pv 0 σ H) (hl : ∀ i σ H, i <= xs.length -> Pv i σ H -> SqL K H a xs)
    (hs : ∀ i x σ H, xs[i]? = some x -> Pv i σ H -> g x σ H fun σ2 H2 => tb { D with nx := Pv (i + 1), ct := Pv (i + 1), bk := D.nx } σ2 H2) (hd : ∀ σ H, Pv xs.length σ H -> D.nx σ H) :
    ∃ W : Nat -> Nat -> St -> Hp -> Prop, (∃ m, W 0 m σ H) /\ ∀ i m σ H, W i m σ H →
      ((Itl K a).stop i H /\ D.nx σ H) \/ ((Itl K a).go i H /\ ∃ N : St -> Hp -> Prop, (∀ σ' H', N σ' H' -> ∃ m', m' < m /\ W (i + 1) m' σ' H') /\ ∀ x H', (Itl K a).yld i H x H' -> g x σ H' fun σ2 H2 => tb { D with nx := N, ct := N, bk := D.nx } σ2 H2) := by
  refine ⟨fun i m σ H => m = xs.length - i /\ i <= xs.length /\ Pv i σ H, ⟨xs.length, by simp, Nat.zero_le _, h0⟩, ?_⟩
  rintro i m σ H ⟨rfl, hi, p⟩
  have q := hl i σ H hi p
  by_cases hlt : i < xs.length
  . refine .inr ⟨⟨xs, xs[i], q, by simp [hlt]⟩, Pv (i + 1), fun σ' H' p' => ⟨xs.length - (i + 1), by omega, rfl, hlt, p'⟩, fun x H' y => ?_⟩
    obtain ⟨e, y⟩ := y
    subst e
    exact hs i x σ _ (y xs q) p
  . have e : i = xs.length := by omega
    subst e
    exact .inl ⟨⟨xs, q, Nat.le_refl _⟩, hd σ H p⟩
theorem for_range {lo : Int} {n : Nat} {g : TG} {tb : TS} {D : Ends} {σ : St} {H : Hp} (Pv : Nat -> St -> Hp -> Prop) (h0 : Pv 0 σ H)
    (hs : ∀ i σ H, i < n -> Pv i σ H -> g (.int (lo + i)) σ H fun σ2 H2 => tb { D with nx := Pv (i + 1), ct := Pv (i + 1), bk := D.nx } σ2 H2) (hd : ∀ σ H, Pv n σ H -> D.nx σ H) :
    ∃ W : Nat -> Nat -> St -> Hp -> Prop, (∃ m, W 0 m σ H) /\ ∀ i m σ H, W i m σ H →
      ((Itr lo n).stop i H /\ D.nx σ H) \/ ((Itr lo n).go i H /\ ∃ N : St -> Hp -> Prop, (∀ σ' H', N σ' H' -> ∃ m', m' < m /\ W (i + 1) m' σ' H') /\ ∀ x H', (Itr lo n).yld i H x H' -> g x σ H' fun σ2 H2 => tb { D with nx := N, ct := N, bk := D.nx } σ2 H2) := by
  refine ⟨fun i m σ H => m = n - i /\ i <= n /\ Pv i σ H, ⟨n, by simp, Nat.zero_le _, h0⟩, ?_⟩
  rintro i m σ H ⟨rfl, hi, p⟩
  by_cases hlt : i < n
  . refine .inr ⟨hlt, Pv (i + 1), fun σ' H' p' => ⟨n - (i + 1), by omega, rfl, hlt, p'⟩, fun x H' y => ?_⟩
    obtain ⟨e, y⟩ := y
    subst e y
    exact hs i σ _ hlt p
  . have e : i = n := by omega
    subst e
    exact .inl ⟨Nat.le_refl _, hd σ H p⟩
end L2
namespace L2
open PySem PySem.Spec PyProof.Rows
abbrev R2 := V -> V -> Hp -> VK -> Prop
def OpR (X : Cx) (f : Value -> Value -> Sem Value) (r : R2) : Prop :=
  ∀ (pins : List (Addr × Obj)) (s : Shared) (σ : St) (H : Hp) (x y : V) (v u : Value) (Q : VK), Inv X pins σ H s -> RelV x v -> RelV y u -> r x y H Q →
    wpAny (model X.prog X.w) X.A (f v u) (EP X pins σ Q) X.xe s
def UnR (X : Cx) (f : Value -> Sem Value) (r : V -> Hp -> VK -> Prop) : Prop :=
  ∀ (pins : List (Addr × Obj)) (s : Shared) (σ : St) (H : Hp) (x : V) (v : Value) (Q : VK), Inv X pins σ H s -> RelV x v -> r x H Q →
    wpAny (model X.prog X.w) X.A (f v) (EP X pins σ Q) X.xe s
def CallR (X : Cx) (f : Value) (r : List V -> Hp -> VK -> Prop) : Prop :=
  ∀ (pins : List (Addr × Obj)) (s : Shared) (σ : St) (H : Hp) (xs : List V) (us : List Value) (Q : VK), Inv X pins σ H s -> Vals xs us -> r xs H Q →
    wpAny (model X.prog X.w) X.A (call f us) (EP X pins σ Q) X.xe s
def tOp (r : R2) (ta tb : TE) : TE := fun σ H Q => ta σ H fun x H1 => tb σ H1 fun y H2 => r x y H2 Q
def tUn (r : V -> Hp -> VK -> Prop) (ta : TE) : TE := fun σ H Q => ta σ H fun x H1 => r x H1 Q
def rI (C : Int -> Int -> Prop) (g : Int -> Int -> V) : R2 := fun x y H Q => ∃ i j, x = .int i /\ y = .int j /\ C i j /\ Q (g i j) H
def rI0 (g : Int -> Int -> V) : R2 := fun x y H Q => ∃ i j, x = .int i /\ y = .int j /\ Q (g i j) H
def rU (g : Int -> V) : V -> Hp -> VK -> Prop := fun x H Q => ∃ i, x = .int i /\ Q (g i) H
section
variable {X : Cx} {a b c : Expr} {ta tb tc : TE} {pos : Pos}
theorem binT (ha : PE X a ta) (hb : PE X b tb) {pins : List (Addr × Obj)} {s : Shared} {σ : St} {H : Hp} {R : V -> V -> Hp -> Prop} (I : Inv X pins σ H s)
    (h : ta σ H fun x H1 => tb σ H1 fun y H2 => R x y H2) {Q : Value -> Shared -> Prop} {f : Value -> Value -> Sem Value}
    (hf : ∀ v u s2 x y H2, Inv X pins σ H2 s2 -> RelV x v -> RelV y u -> R x y H2 -> wpAny (model X.prog X.w) X.A (f v u) Q X.xe s2) :
    wpAny (model X.prog X.w) X.A (eval a X.env) (fun v s₁ => wpAny (model X.prog X.w) X.A (eval b X.env) (fun u s₂ => wpAny (model X.prog X.w) X.A (f v u) Q X.xe s₂) X.xe s₁) X.xe s := by
  refine thn (ha pins s σ H _ I h) fun v s1 ⟨x, H1, I1, r1, q1⟩ => ?_
  refine thn (hb pins s1 σ H1 _ I1 q1) fun u s2 ⟨y, H2, I2, r2, q2⟩ => ?_
  exact hf v u s2 x y H2 I2 r1 r2 q2
theorem pe_op {op : Operator} {r : R2} (ho : OpR X (binaryOp op) r) (ha : PE X a ta) (hb : PE X b tb) : PE X (.BinOp a op b pos) (tOp r ta tb) := by
  intro pins s σ H Q I h
  exact wpAny_BinOp (binT ha hb I h fun v u s2 x y H2 I2 rx ry q => ho pins s2 σ H2 x y v u Q I2 rx ry q)
theorem pe_un {op : UnaryOp} {r : V -> Hp -> VK -> Prop} (ho : UnR X (unaryOp op) r) (ha : PE X a ta) : PE X (.UnaryOp op a pos) (tUn r ta) := by
  intro pins s σ H Q I h
  exact UnaryOp_ (thn (ha pins s σ H _ I h) fun v s1 ⟨x, H1, I1, r1, q1⟩ => ho pins s1 σ H1 x v Q I1 r1 q1)
theorem opI {f : Value -> Value -> Sem Value} {C : Int -> Int -> Prop} {g : Int -> Int -> Int}
    (rule : ∀ (i j : Int) (t u : Tok) (s : Shared) (Q : Value -> Shared -> Prop) (E : Value -> Shared -> Prop), C i j -> Q (.int (g i j) s.toks) { s with toks := s.toks + 1 } -> wpAny (model X.prog X.w) X.A (f (.int i t) (.int j u)) Q E s) :
    OpR X f (rI C fun i j => .int (g i j)) := by
  intro pins s σ H x y v u Q I rx ry h
  obtain ⟨i, j, rfl, rfl, hc, q⟩ := h
  obtain ⟨t, rfl⟩ := rx
  obtain ⟨t', rfl⟩ := ry
  exact rule i j t t' s _ _ hc ⟨.int (g i j), H, I.tok _, ⟨_, rfl⟩, q⟩
theorem opI0 {f : Value -> Value -> Sem Value} {g : Int -> Int -> Int}
    (rule : ∀ (i j : Int) (t u : Tok) (s : Shared) (Q : Value -> Shared -> Prop) (E : Value -> Shared -> Prop), Q (.int (g i j) s.toks) { s with toks := s.toks + 1 } -> wpAny (model X.prog X.w) X.A (f (.int i t) (.int j u)) Q E s) :
    OpR X f (rI0 fun i j => .int (g i j)) := by
  intro pins s σ H x y v u Q I rx ry h
  obtain ⟨i, j, rfl, rfl, q⟩ := h
  obtain ⟨t, rfl⟩ := rx
  obtain ⟨t', rfl⟩ := ry
  exact rule i j t t' s _ _ ⟨.int (g i j), H, I.tok _, ⟨_, rfl⟩, q⟩
theorem opB0 {f : Value -> Value -> Sem Value} {g : Int -> Int -> Bool}
    (rule : ∀ (i j : Int) (t u : Tok) (s : Shared) (Q : Value -> Shared -> Prop) (E : Value -> Shared -> Prop), Q (.bool (g i j)) s -> wpAny (model X.prog X.w) X.A (f (.int i t) (.int j u)) Q E s) :
    OpR X f (rI0 fun i j => .bl (g i j)) := by
  intro pins s σ H x y v u Q I rx ry h
  obtain ⟨i, j, rfl, rfl, q⟩ := h
  obtain ⟨t, rfl⟩ := rx
  obtain ⟨t', rfl⟩ := ry
  exact rule i j t t' s _ _ ⟨.bl (g i j), H, I, rfl, q⟩
def CDiv (i j : Int) : Prop := 0 < j /\ j < 1073741824
def CPow (i j : Int) : Prop := 0 <= j /\ j <= 1000000 /\ i.natAbs < 2 ^ 64
def CMul (i j : Int) : Prop := (-(2 ^ 64) < i /\ i < 2 ^ 64) \/ (-(2 ^ 64) < j /\ j < 2 ^ 64)
theorem CMul.ok {i j : Int} (h : CMul i j) : IntMulOk i j := by
  rcases h with ⟨h1, h2⟩ | ⟨h1, h2⟩
  . exact .of_left (intBits_le_64 h1 h2)
  . exact .of_right (intBits_le_64 h1 h2)
theorem op_add : OpR X (binaryOp .Add) (rI0 fun i j => .int (i + j)) := opI0 fun _ _ _ _ _ _ _ q => add_int q
theorem op_sub : OpR X (binaryOp .Sub) (rI0 fun i j => .int (i - j)) := opI0 fun _ _ _ _ _ _ _ q => sub_int q
theorem op_mul : OpR X (binaryOp .Mult) (rI CMul fun i j => .int (i * j)) := opI fun _ _ _ _ _ _ _ hc q => mul_int q hc.ok
theorem op_fdiv : OpR X (binaryOp .FloorDiv) (rI CDiv fun i j => .int (i / j)) := opI fun i j _ _ _ _ _ hc q => by
  have h1 : (0 : Int) < j := hc.1
  have h2 : j < 1073741824 := hc.2
  exact floordiv_int (by omega) (by rw [Int.fdiv_eq_ediv_of_nonneg i (by omega)]; exact q) (.inl (PyProof.noPylong_small (by omega)))
theorem op_mod : OpR X (binaryOp .Mod) (rI (fun _ j => 0 < j) fun i j => .int (i % j)) := opI fun i j _ _ _ _ _ hc q => by
  have h1 : (0 : Int) < j := hc
  exact mod_int' (by omega) (by rw [Int.fmod_eq_emod_of_nonneg i (by omega)]; exact q)
theorem op_pow : OpR X (binaryOp .Pow) (rI CPow fun i j => .int (i ^ j.toNat)) := opI fun _ _ _ _ _ _ _ hc q => pow_int_small hc.1 hc.2.1 hc.2.2 q
theorem unI {f : Value -> Sem Value} {g : Int -> Int}
    (rule : ∀ (i : Int) (t : Tok) (s : Shared) (Q : Value -> Shared -> Prop) (E : Value -> Shared -> Prop), Q (.int (g i) s.toks) { s with toks := s.toks + 1 } -> wpAny (model X.prog X.w) X.A (f (.int i t)) Q E s) :
    UnR X f (rU fun i => .int (g i)) := by
  intro pins s σ H x v Q I rx h
  obtain ⟨i, rfl, q⟩ := h
  obtain ⟨t, rfl⟩ := rx
  exact rule i t s _ _ ⟨.int (g i), H, I.tok _, ⟨_, rfl⟩, q⟩
theorem un_neg : UnR X (unaryOp .USub) (rU fun i => .int (-i)) := unI fun _ _ _ _ _ q => neg_int q
end
def scal : V -> V -> Bool
  | .non, .non => true | .non, .int _ => true | .int _, .non => true | .non, .bl _ => true | .bl _, .non => true | .non, .str _ => true | .str _, .non => true
  | .int _, .int _ => true | .bl _, .bl _ => true | .str _, .str _ => true | .byt _, .byt _ => true
  | .int _, .str _ => true | .str _, .int _ => true | .bl _, .str _ => true | .str _, .bl _ => true
  | _, _ => false
def rEq : R2 := fun x y H Q => scal x y = true /\ Q (.bl (decide (x = y))) H
theorem dec_int {i j : Int} : decide (V.int i = V.int j) = (i == j) := by
  rw [Bool.eq_iff_iff]
  simp
theorem dec_bl {i j : Bool} : decide (V.bl i = V.bl j) = (i == j) := by
  rw [Bool.eq_iff_iff]
  simp
theorem dec_str {i j : Str} : decide (V.str i = V.str j) = (i == j) := by
  rw [Bool.eq_iff_iff]
  simp
theorem dec_byt {i j : Array UInt8} : decide (V.byt i = V.byt j) = (i.toList == j.toList) := by
  rw [Bool.eq_iff_iff]
  cases i
  cases j
  simp
section
variable {X : Cx} {a b c : Expr} {ta tb tc : TE} {pos : Pos}
theorem fin_bl {pins : List (Addr × Obj)} {σ : St} {H : Hp} {s : Shared} {Q : VK} {k k' : Bool} (I : Inv X pins σ H s) (q : Q (.bl k) H) (e : k = k') : EP X pins σ Q (.bool k') s := by
  subst e
  exact ⟨.bl k, H, I, rfl, q⟩
theorem op_eq : OpR X (compareOp .Eq) rEq := by
  intro pins s σ H x y v u Q I rx ry h
  obtain ⟨hs, q⟩ := h
  cases x with
  | non =>
    cases rx
    cases y with
    | non => cases ry; exact PySem.EqNone.eq_none_none (fin_bl I q (by simp))
    | bl j => cases ry; exact PySem.EqNone.eq_none_bool (fin_bl I q (by simp))
    | int j => obtain ⟨t', rfl⟩ := ry; exact PySem.EqNone.eq_none_int (fin_bl I q (by simp))
    | str j => obtain ⟨t', rfl⟩ := ry; exact PySem.EqNone.eq_none_str (fin_bl I q (by simp))
    | _ => exact absurd (show false = true from hs) Bool.false_ne_true
  | bl i =>
    cases rx
    cases y with
    | non => cases ry; exact PySem.EqNone.eq_bool_none (fin_bl I q (by simp))
    | bl j => cases ry; exact eq_bool (fin_bl I q dec_bl)
    | str j => obtain ⟨t', rfl⟩ := ry; exact PySem.EqMixed.eq_bool_str (fin_bl I q (by simp))
    | _ => exact absurd (show false = true from hs) Bool.false_ne_true
  | int i =>
    obtain ⟨t, rfl⟩ := rx
    cases y with
    | non => cases ry; exact PySem.EqNone.eq_int_none (fin_bl I q (by simp))
    | int j => obtain ⟨t', rfl⟩ := ry; exact eq_int (fin_bl I q dec_int)
    | str j => obtain ⟨t', rfl⟩ := ry; exact PySem.EqMixed.eq_int_str (fin_bl I q (by simp))
    | _ => exact absurd (show false = true from hs) Bool.false_ne_true
  | str i =>
    obtain ⟨t, rfl⟩ := rx
    cases y with
    | non => cases ry; exact PySem.EqNone.eq_str_none (fin_bl I q (by simp))
    | bl j => cases ry; exact PySem.EqMixed.eq_str_bool (fin_bl I q (by simp))
    | int j => obtain ⟨t', rfl⟩ := ry; exact PySem.EqMixed.eq_str_int (fin_bl I q (by simp))
    | str j => obtain ⟨t', rfl⟩ := ry; exact eq_str (fin_bl I q dec_str)
    | _ => exact absurd (show false = true from hs) Bool.false_ne_true
  | byt i =>
    obtain ⟨t, rfl⟩ := rx
    cases y with
    | byt j => obtain ⟨t', rfl⟩ := ry; exact W.eq_bytes (fin_bl I q dec_byt)
    | _ => exact absurd (show false = true from hs) Bool.false_ne_true
  | _ => cases y <;> exact absurd (show false = true from hs) Bool.false_ne_true
theorem op_lt : OpR X (compareOp .Lt) (rI0 fun i j => .bl (decide (i < j))) := opB0 fun _ _ _ _ _ _ _ q => lt_int q
theorem op_le : OpR X (compareOp .LtE) (rI0 fun i j => .bl (decide (i <= j))) := opB0 fun _ _ _ _ _ _ _ q => le_int q
theorem op_gt : OpR X (compareOp .Gt) (rI0 fun i j => .bl (decide (j < i))) := opB0 fun _ _ _ _ _ _ _ q => gt_int q
theorem op_ge : OpR X (compareOp .GtE) (rI0 fun i j => .bl (decide (j <= i))) := opB0 fun _ _ _ _ _ _ _ q => ge_int q
theorem nomark (b : Expr) {op : CmpOp} (h : op ≠ .In := by decide) (h2 : op ≠ .NotIn := by decide) : behindInMarks op b = false := by
  have e1 : (op == CmpOp.In) = false := by cases op <;> first | rfl | exact absurd rfl h
  have e2 : (op == CmpOp.NotIn) = false := by cases op <;> first | rfl | exact absurd rfl h2
  cases b <;> simp [behindInMarks, e1, e2]
theorem pe_cmpR {op : CmpOp} {r : R2} (ho : OpR X (compareOp op) r) (ha : PE X a ta) (hb : PE X b tb) (hm : behindInMarks op b = false) : PE X (.Compare a [op] [b] pos) (tOp r ta tb) := by
  intro pins s σ H Q I h
  exact wpAny_Compare1 (binT ha hb I h fun v u s2 x y H2 I2 rx ry q => ho pins s2 σ H2 x y v u Q I2 rx ry q) hm
def tTest (t : TE) : TT := fun σ H Q => t σ H fun x H' => ∃ k, x = .bl k /\ Q k H'
theorem pt_cmpR {op : CmpOp} {r : R2} (ho : OpR X (compareOp op) r) (ha : PE X a ta) (hb : PE X b tb) (hm : behindInMarks op b = false) : PT X (.Compare a [op] [b] pos) (tTest (tOp r ta tb)) := by
  intro pins s σ H Q I h
  refine wpAny_isTrue_Compare1 (thn (ha pins s σ H _ I h) fun v s1 ⟨x, H1, I1, r1, q1⟩ => thn (hb pins s1 σ H1 _ I1 q1) fun u s2 ⟨y, H2, I2, r2, q2⟩ =>
    thn (ho pins s2 σ H2 x y v u _ I2 r1 r2 q2) fun c s3 ⟨z, H3, I3, r3, k, e, q3⟩ => ?_) hm
  subst e
  cases r3
  exact wpAny_truthy_bool ⟨H3, I3, q3⟩
def tChain (r r' : R2) (ta tb tc : TE) : TE := fun σ H Q => ta σ H fun x H1 => tb σ H1 fun y H2 => r x y H2 fun z H3 => ∃ k, z = .bl k ∧
  (if k = true then tc σ H3 fun w' H4 => r' y w' H4 Q else Q (.bl false) H3)
theorem pt_chain {op op' : CmpOp} {r r' : R2} (ho : OpR X (compareOp op) r) (ho' : OpR X (compareOp op') r') (ha : PE X a ta) (hb : PE X b tb) (hc : PE X c tc)
    (hm : lastMarks [op, op'] [b, c] = false := by with_unfolding_all rfl) : PT X (.Compare a [op, op'] [b, c] pos) (tTest (tChain r r' ta tb tc)) := by
  intro pins s σ H Q I h
  refine isTrue_chain (thn (ha pins s σ H _ I h) fun v s1 ⟨x, H1, I1, r1, q1⟩ => test_link (thn (hb pins s1 σ H1 _ I1 q1) fun u s2 ⟨y, H2, I2, r2, q2⟩ =>
    thn (ho pins s2 σ H2 x y v u _ I2 r1 r2 q2) fun d s3 ⟨z, H3, I3, r3, k, e, q3⟩ => ?_)) hm
  subst e
  cases r3
  refine wpAny_truthy_bool ?_
  cases k with
  | false =>
    obtain ⟨k', e', q'⟩ := q3
    cases e'
    exact ite_ff ⟨H3, I3, q'⟩
  | true =>
    refine ite_tt (test_last (thn (hc pins s3 σ H3 _ I3 q3) fun w' s4 ⟨z', H4, I4, r4, q4⟩ => thn (ho' pins s4 σ H4 y z' u w' _ I4 r2 r4 q4) fun d' s5 ⟨z2, H5, I5, r5, k2, e2, q5⟩ => ?_))
    subst e2
    cases r5
    exact wpAny_truthy_bool ⟨H5, I5, q5⟩
theorem line63 : (sizeLine : Nat) < 2 ^ 63 := by rw [sizeLine_eq]; decide
theorem vals1 {x : V} {us : List Value} (r : Vals [x] us) : ∃ u, us = [u] /\ RelV x u := by
  cases r with
  | cons r1 r2 => cases r2; exact ⟨_, rfl, r1⟩
theorem vals2 {x y : V} {us : List Value} (r : Vals [x, y] us) : ∃ u w', us = [u, w'] /\ RelV x u /\ RelV y w' := by
  cases r with
  | cons r1 r2 =>
    cases r2 with
    | cons r3 r4 => cases r4; exact ⟨_, _, rfl, r1, r3⟩
theorem call_min2 (hc : X.calm = true) : CallR X (.builtin "min") (fun xs H Q => ∃ i j, xs = [.int i, .int j] /\ Q (.int (if j < i then j else i)) H) := by
  intro pins s σ H xs us Q I r h
  obtain ⟨i, j, rfl, q⟩ := h
  obtain ⟨u, w', rfl, ⟨t, rfl⟩, ⟨t', rfl⟩⟩ := vals2 r
  refine min_two_ints (I.ok.hd hc) fun h' tk k => ⟨_, H, I.kept k, ?_, q⟩
  by_cases hj : j < i
  . rw [if_pos hj, if_pos hj]; exact ⟨_, rfl⟩
  . rw [if_neg hj, if_neg hj]; exact ⟨_, rfl⟩
theorem call_int1 : CallR X (.type "int") (fun xs H Q => (∃ i, xs = [.int i] /\ Q (.int i) H) \/ ∃ k, xs = [.bl k] /\ Q (.int (if k then 1 else 0)) H) := by
  intro pins s σ H xs us Q I r h
  rcases h with ⟨i, rfl, q⟩ | ⟨k, rfl, q⟩
  . obtain ⟨u, rfl, t, rfl⟩ := vals1 r
    exact call_int_int ⟨.int i, H, I, ⟨_, rfl⟩, q⟩
  . obtain ⟨u, rfl, r1⟩ := vals1 r
    cases r1
    exact call_int_bool ⟨.int (if k then 1 else 0), H, I.tok _, ⟨_, rfl⟩, q⟩
end
end L2
namespace L2
open PySem PySem.Spec PyProof.Rows
structure ObjM (h : Heap) (x dx C : Addr) (mA : Str -> Option Value) : Prop where
  obj : h.get? x = some (W.instObj C dx)
  ns : h.Ns1 dx mA
  ne : dx ≠ x
theorem lookIn_ns {h : Heap} {dx : Addr} {mA : Str -> Option Value} (n : h.Ns1 dx mA) : ∃ od, h.get? dx = some od /\ ∀ name, W.lookIn name od = some (mA name) := by
  obtain ⟨o, es, ep, ho, hd, hk, _, hm⟩ := n
  refine ⟨o, ho, fun name => ?_⟩
  have e := hm name
  unfold nsFind findBy at e
  rw [<- Array.find?_toList] at e
  unfold W.lookIn
  rw [hd]
  dsimp only
  split
  . rename_i y q
    rw [q] at e
    exact congrArg some e
  . rename_i q
    rw [q] at e
    have a : es.toList.any (·.refKey) = false := by
      rw [List.any_eq_false]
      intro y hy
      obtain ⟨z, t, hkey⟩ := hk y (Array.mem_toList_iff.mp hy)
      simp [DictEntry.refKey, hkey]
    have a' : ¬ es.toList.any (·.refKey) = true := by rw [a]; exact Bool.false_ne_true
    rw [if_neg a']
    exact congrArg some e
theorem ObjM.look {h : Heap} {x dx C : Addr} {mA : Str -> Option Value} (I : ObjM h x dx C mA) : ∃ od, W.InstAt h x (W.instObj C dx) C (some od) /\ ∀ name, W.lookIn name od = some (mA name) :=
  let ⟨od, ho, hl⟩ := lookIn_ns I.ns
  ⟨od, ⟨I.obj, rfl, rfl, ho⟩, hl⟩
section
variable {prog : Program} {w : World} {A : Around} {E : Value -> Shared -> Prop} {s : Shared} {K : W.Frag} {x dx C f : Addr} {mA : Str -> Option Value} {name : Str} {v : Value}
end
section
variable {P : Program} {w : World} {H H' : Hp} {h h' : Heap} {a C dx : Addr} {fs fs' : List (Str × V)}
theorem ins_get (hok : HOk P w H h) (e : H a = some (.ins C dx fs)) : ∃ mA, ObjM h a dx C mA /\ (∀ f, RelO (fs.lookup f) (mA f)) /\ PySem.Within mA (fs.map (·.1)) /\ fs.length <= 1000 /\ H dx = some (.own a) := by
  obtain ⟨d, z, ne, ob, mA, n, r, q⟩ := (show ObjOk P w H h a (.ins C dx fs) from hok a _ e)
  exact ⟨mA, ⟨ob, n, ne⟩, r, q, z, d⟩
end
structure Cls (K : W.Frag) (C : Addr) : Prop where
  pg : W.plainGet K C Str.empty = true
  hd : W.hasDictIn K C = true
  po : W.plainOver K C = true
  sa : W.findIn K (.ref C) "__setattr__" = some (some (.builtin "object.__setattr__"))
theorem Cls.get {K : W.Frag} {C : Addr} (c : Cls K C) (f : Str) : W.plainGet K C f = true := c.pg
def NoAttr (K : W.Frag) (C : Addr) (f : Str) : Prop := W.findIn K (.ref C) f = some none
structure Con (K : W.Frag) (C : Addr) (f : Str) (v : V) (u : Value) : Prop where
  at_ : W.findIn K (.ref C) f = some (some u)
  rel : RelV v u
  get : W.specialIn K u "__get__" = some none
  cp : W.copiedNames.contains f = false
structure Meth (K : W.Frag) (C : Addr) (m : Str) (f : Addr) : Prop where
  at_ : W.findIn K (.ref C) m = some (some (.ref f))
  fn : W.isFn K (.ref f) = true
  kp : W.keepIn K (.ref f) = true
section
variable {X : Cx} {pins : List (Addr × Obj)} {σ : St} {H : Hp} {s : Shared} {a C dx : Addr} {fs : List (Str × V)} {f : Str} {v : V} {A : Around} {E : Value -> Shared -> Prop}
end
section
variable {X : Cx} {o e value : Expr} {f : Str} {pos pos' tpos : Pos} {ta tv : TE}
end
section
variable {X : Cx} {pins : List (Addr × Obj)} {σ : St} {H : Hp} {s : Shared} {A : Around} {E : Value -> Shared -> Prop} {Q : Value -> Shared -> Prop} {c : Value} {b : Bool}
inductive TyOf (K : W.Frag) (H : Hp) : V -> Value -> Prop where
  | non : TyOf K H .non (.type "NoneType")
  | bl (x : Bool) : TyOf K H (.bl x) (.type "bool")
  | int (i : Int) : TyOf K H (.int i) (.type "int")
  | str (x : Str) : TyOf K H (.str x) (.type "str")
  | flt (x : UInt64) : TyOf K H (.flt x) (.type "float")
  | lst {a : Addr} {xs : List V} (e : H a = some (.lst xs)) : TyOf K H (.ref a) (.type "list")
  | frz {a : Addr} {o : Obj} {xs : List V} (e : H a = some (.frz o (.lst xs))) : TyOf K H (.ref a) (.type "list")
  | tup {a : Addr} {xs : List V} (e : H a = some (.tup xs)) : TyOf K H (.ref a) (.type "tuple")
  | dK {a : Addr} {kvs : List (Key × V)} (e : H a = some (.dK kvs)) : TyOf K H (.ref a) (.type "dict")
  | dT {a : Addr} {kvs : List (List Key × V)} (e : H a = some (.dT kvs)) : TyOf K H (.ref a) (.type "dict")
  | ins {a C dx : Addr} {fs : List (Str × V)} (e : H a = some (.ins C dx fs)) (cl : Cls K C) (ha : W.findIn K (.ref C) "__class__" = some (some (.builtin "object.__class__")))
      (hn : W.specialIn K (.builtin "object.__class__") "__get__" = some (some (.builtin "getset_descriptor.__get__"))) (htk : W.takesIn K (.builtin "object.__class__") = some true)
      (hm : W.mroIn K C (.type "object") = some true) : TyOf K H (.ref a) (.ref C)
theorem isinst_ok {x : V} {u t : Value} (I : Inv X pins σ H s) (rx : RelV x u) (ty : TyOf X.K H x t) (e : W.kitOne X.K t c = some b) (h : ∀ tk, Q (.bool b) { s with toks := tk }) :
    wpAny (model X.prog X.w) A (call (.builtin "isinstance") [u, c]) Q E s := by
  cases ty with
  | non => cases (show u = Value.none from rx); exact W.kia_one W.kitx_none I.kIn True.intro e (fun z => nomatch z) h
  | bl y => cases (show u = Value.bool y from rx); exact W.kia_one W.kitx_bool I.kIn True.intro e (fun z => nomatch z) h
  | int i => obtain ⟨t, q⟩ := (show ∃ t, u = Value.int i t from rx); cases q; exact W.kia_one W.kitx_int I.kIn True.intro e (fun z => nomatch z) h
  | str y => obtain ⟨t, q⟩ := (show ∃ t, u = Value.str y t from rx); cases q; exact W.kia_one W.kitx_str I.kIn True.intro e (fun z => nomatch z) h
  | flt y => obtain ⟨t, q⟩ := (show ∃ t, u = Value.float y t from rx); cases q; exact W.kia_one W.kitx_float I.kIn True.intro e (fun z => nomatch z) h
  | @lst a xs ea =>
    cases (show u = Value.ref a from rx)
    obtain ⟨_, _, n, _, h1⟩ := (show ObjOk X.prog X.w H s.heap a (.lst xs) from I.hok a _ ea)
    exact W.kia_one W.kitx_list I.kIn ⟨_, h1, rfl⟩ e (fun z => nomatch z) h
  | @frz a ob xs ea =>
    cases (show u = Value.ref a from rx)
    obtain ⟨_, _, _, n, _, h1⟩ := (show ObjOk X.prog X.w H s.heap a (.frz ob (.lst xs)) from I.hok a _ ea)
    exact W.kia_one W.kitx_list I.kIn ⟨_, h1, rfl⟩ e (fun z => nomatch z) h
  | @tup a xs ea =>
    cases (show u = Value.ref a from rx)
    obtain ⟨_, _, _, p⟩ := (show ObjOk X.prog X.w H s.heap a (.tup xs) from I.hok a _ ea)
    obtain ⟨o, h1, h2, _⟩ := p
    exact W.kia_one W.kitx_tuple I.kIn ⟨o, h1, h2⟩ e (fun z => nomatch z) h
  | @dK a kvs ea =>
    cases (show u = Value.ref a from rx)
    obtain ⟨_, _, vs, _, p⟩ := (show ObjOk X.prog X.w H s.heap a (.dK kvs) from I.hok a _ ea)
    obtain ⟨o, es, ep, h1, h2, _⟩ := p
    exact W.kia_one W.kitx_dict I.kIn ⟨o, h1, h2.1⟩ e (fun z => nomatch z) h
  | @dT a kvs ea =>
    cases (show u = Value.ref a from rx)
    obtain ⟨_, _, xs, _, o, es, ep, h1, h2, _⟩ := (show ObjOk X.prog X.w H s.heap a (.dT kvs) from I.hok a _ ea)
    exact W.kia_one W.kitx_dict I.kIn ⟨o, h1, h2.1⟩ e (fun z => nomatch z) h
  | @ins a C dx fs ea cl ha hn htk hm =>
    cases (show u = Value.ref a from rx)
    obtain ⟨mA, O, _⟩ := ins_get I.hok ea
    obtain ⟨od, J, _⟩ := O.look
    exact W.kia_one (W.kitx_own (cl.get _) cl.hd ha hn htk hm) I.kIn J e (fun z => nomatch z) h
end
end L2
namespace L2
open PySem PySem.Spec PyProof.Rows
structure Room (k : Nat) (A : Around) : Prop where
  hd : A.handled = none
  dp : A.depth + 3 * k + 5 < recursionLimit
  un : A.units + 16 * k + 200 < cLine
theorem Room.deeper {k : Nat} {A : Around} (r : Room (k + 1) A) (env : Env) : Room k (A.deeper env) :=
  ⟨r.hd, by have := r.dp; show A.depth + 1 + 3 * k + 5 < _; omega, by have := r.un; show A.units + 3 + 16 * k + 200 < _; omega⟩
theorem Room.depth {k : Nat} {A : Around} (r : Room k A) : A.depth < recursionLimit := by have := r.dp; omega
theorem Room.units {k : Nat} {A : Around} (r : Room k A) : A.units + 64 < cLine := by have := r.un; omega
def tNil : TA := fun _ H Q => Q [] H
def tCons (ta : TE) (tr : TA) : TA := fun σ H Q => ta σ H fun x H1 => tr σ H1 fun xs H2 => Q (x :: xs) H2
section
variable {X : Cx} {e : Expr} {es : List Expr} {te : TE} {t : TA} {pos : Pos}
theorem pa_nil : PA X [] tNil := fun _ _ _ _ H Q I h => Calls.spliced_nil ⟨[], H, I, .nil, h⟩
theorem pa_cons (ha : PE X e te) (hr : PA X es t) (hs : starEach (e :: es) X.env = (false, eval e X.env) :: starEach es X.env := by rfl) : PA X (e :: es) (tCons te t) := by
  intro pos pins s σ H Q I h
  rw [hs]
  show wpAny _ _ (spliced ((false, eval e X.env) :: backTo pos (starEach es X.env))) _ _ s
  refine Calls.spliced_cons (thn (ha pins s σ H _ I h) fun u s1 ⟨x, H1, I1, r1, q1⟩ => ?_)
  exact thn (hr pos pins s1 σ H1 _ I1 q1) fun us s2 ⟨xs, H2, I2, r2, q2⟩ => ⟨x :: xs, H2, I2, .cons r1 r2, q2⟩
def tTup (t : TA) : TE := fun σ H Q => t σ H fun xs H1 => xs.length <= sizeLine /\ ∀ p, H1 p = none -> Q (.ref p) (upd H1 p (.tup xs))
def tLst (t : TA) : TE := fun σ H Q => t σ H fun xs H1 => xs.length <= sizeLine /\ ∀ p, H1 p = none -> Q (.ref p) (upd H1 p (.lst xs))
theorem pe_tup {x1} (h : PA X es t) : PE X (.Tuple es x1 pos) (tTup t) := by
  intro pins s σ H Q I hq
  refine wpAny_Tuple_spliced (thn (h pos pins s σ H _ I hq) fun us s1 ⟨xs, H1, I1, r, z, q⟩ => ⟨by rw [<- r.length]; exact z, ?_⟩)
  have hf : H1 s1.heap.objs.size = none := I1.hok.fresh (Nat.le_refl _)
  refine ⟨.ref s1.heap.objs.size, upd H1 s1.heap.objs.size (.tup xs), I1.laid (t' := s1.toks) (fun b u e => Heap.get?_push_of_some _ e) (Nat.le_refl _) ?_, rfl, q _ hf⟩
  exact ⟨z, us, r, ⟨_, Heap.get?_push_size _ rfl, rfl, _, rfl⟩⟩
theorem pe_lst (h : PA X es t) : PE X (.List es pos) (tLst t) := by
  intro pins s σ H Q I hq
  refine wpAny_List_spliced (thn (h pos pins s σ H _ I hq) fun us s1 ⟨xs, H1, I1, r, z, q⟩ => ⟨by rw [<- r.length]; exact z, ?_⟩)
  have hf : H1 s1.heap.objs.size = none := I1.hok.fresh (Nat.le_refl _)
  refine ⟨.ref s1.heap.objs.size, upd H1 s1.heap.objs.size (.lst xs), I1.laid (t' := s1.toks) (fun b u e => Heap.get?_push_of_some _ e) (Nat.le_refl _) ?_, rfl, q _ hf⟩
  exact ⟨z, us, 0, r, Heap.get?_push_size _ rfl⟩
end
abbrev Sp := List V -> Hp -> VK -> XK -> Prop
abbrev CXT := List Env -> Hp -> Shared -> XK -> Value -> Shared -> Prop
structure Env0 (P : Program) (w : World) (K : W.Frag) (mg : Str -> Option Value) (base : Heap) (A : Around) (outer : List Env) (s : Shared) (H : Hp) : Prop where
  frames : A.frames = some outer
  mod : Mod K mg base
  bs : ∀ b o, base.get? b = some o -> s.heap.get? b = some o /\ H b = none
  bsz : base.objs.size <= s.heap.objs.size
  funs : s.heap.FunFrames base outer
  frf : ∀ b ∈ frs outer, H b = none
  hok : HOk P w H s.heap
  bare : AllBare s.gens
def CE (outer : List Env) (P : Program) (w : World) (H : Hp) (s : Shared) (Q : VK) (u : Value) (s' : Shared) : Prop :=
  ∃ v H', s'.os = s.os /\ AllBare s'.gens /\ Un (frs outer) [] H H' s.heap s'.heap /\ HOk P w H' s'.heap /\ RelV v u /\ Q v H'
def CR (CX : CXT) (outer : List Env) (P : Program) (w : World) (H : Hp) (s : Shared) (Q : VK) (E : XK) (r : Result) (s' : Shared) : Prop :=
  match r with
  | .ok (.ret u) => CE outer P w H s Q u s'
  | .ok _ => False
  | .error e => CX outer H s E e s'
structure FnOk (P : Program) (w : World) (K : W.Frag) (mg : Str -> Option Value) (base : Heap) (CX : CXT) (k : Nat) (f : Addr) (fd : FuncData) (ps : List Str) (sp : Sp) : Prop where
  len : ∀ vs H Q E, sp vs H Q E -> vs.length = ps.length
  run : ∀ (A : Around) (outer : List Env) (s : Shared) (H : Hp) (args : Args) (us : List Value) (vs : List V) (Q : VK) (E : XK), Room k A -> Env0 P w K mg base A outer s H -> BindsTo s fd args (ps.zip us) -> Vals vs us -> sp vs H Q E →
    codeAny (model P w) A (.call (.ref f) args) (CR CX outer P w H s Q E) s
section
variable {X : Cx} {pins : List (Addr × Obj)} {σ : St} {H : Hp} {s s' : Shared}
theorem Inv.env0 (I : Inv X pins σ H s) : Env0 X.prog X.w X.K X.mg X.base X.A X.stack s H :=
  ⟨I.ok.frames, I.ok.mod, I.bs, Nat.le_trans I.ok.bsz I.sz, I.stack, I.stkFree, I.hok, I.bare⟩
theorem Inv.after {Q : VK} {u : Value} (I : Inv X pins σ H s) (h : CE X.stack X.prog X.w H s Q u s') : EP X pins σ Q u s' := by
  obtain ⟨v, H', os, bare, un, hok, r, q⟩ := h
  obtain ⟨hh, g, d, t, os'⟩ := s'
  obtain rfl : os' = s.os := os
  exact ⟨v, H', I.call (h' := hh) (g' := g) (d' := d) (t' := t) (ch := []) un hok bare (fun b z => absurd z (by simp)), r, q⟩
end
def tCall (sp : Sp) (dvs : List V) (E : XK) (t : TA) : TE := fun σ H Q => t σ H fun vs H1 => sp (vs ++ dvs) H1 Q E
def Binds (K : W.Frag) (fd : FuncData) (ps : List Str) (ds : List Value) : Prop :=
  ∀ (s : Shared) (us : List Value), K.In s.heap -> (us ++ ds).length = ps.length -> BindsTo s fd ⟨us, []⟩ (ps.zip (us ++ ds))
theorem Binds.all {K : W.Frag} {fd : FuncData} {ps : List Str} (h : ∀ us : List Value, us.length = ps.length -> bindArgs fd ⟨us, []⟩ = pure (ps.zip us)) : Binds K fd ps [] := fun s us _ hl => by
  rw [List.append_nil] at hl ⊢
  exact .of_eq (h us hl)
def Passes (CX : CXT) (X : Cx) (E : XK) : Prop := ∀ (pins : List (Addr × Obj)) (σ : St) (H : Hp) (s : Shared) (e : Value) (s' : Shared), Inv X pins σ H s -> CX X.stack H s E e s' -> X.xe e s'
section
variable {X : Cx} {CX : CXT} {k : Nat} {f C : Addr} {fd : FuncData} {ps : List Str} {sp : Sp} {dvs : List V} {ds : List Value} {E : XK} {x m : Str} {p pos apos : Pos} {e o : Expr} {es : List Expr} {ta : TE} {t : TA}
theorem run_fn {pins : List (Addr × Obj)} {σ : St} {H : Hp} {s : Shared} {Q : VK} {us : List Value} {vs : List V} (F : FnOk X.prog X.w X.K X.mg X.base CX k f fd ps sp) (hr : Room k X.A) (hb : Binds X.K fd ps ds) (hd : Vals dvs ds) (hx : Passes CX X E)
    (I : Inv X pins σ H s) (r : Vals vs us) (h : sp (vs ++ dvs) H Q E) : wpAny (model X.prog X.w) X.A (call (.ref f) us) (EP X pins σ Q) X.xe s := by
  have r2 : Vals (vs ++ dvs) (us ++ ds) := r.append hd
  have hl : (us ++ ds).length = ps.length := by rw [<- r2.length]; exact F.len _ _ _ _ h
  refine wpAny_call (codeAny_mono (F.run X.A X.stack s H ⟨us, []⟩ (us ++ ds) (vs ++ dvs) Q E hr I.env0 (hb s us I.kIn hl) r2 h) fun r s' hq => ?_)
  cases r with
  | error e => exact hx pins σ H s e s' I hq
  | ok fl =>
    cases fl with
    | ret u => exact I.after hq
    | next => exact False.elim hq
    | brk => exact False.elim hq
    | cont => exact False.elim hq
theorem pe_call (F : FnOk X.prog X.w X.K X.mg X.base CX k f fd ps sp) (hr : Room k X.A) (hg : Gl X x) (hm : X.mg x = some (.ref f)) (hk : W.keepIn X.K (.ref f) = true) (hb : Binds X.K fd ps ds) (hd : Vals dvs ds) (hx : Passes CX X E)
    (ha : PA X (e :: es) t) (hdb : (x == ("__debug__" : Str)) = false := by decide) (he : starEach (e :: es) X.env = (false, eval e X.env) :: starEach es X.env := by rfl) (hpl : (backTo pos (starEach es X.env)).any (·.1) = false := by rfl) :
    PE X (.Call (.Name x p) (e :: es) [] pos) (tCall sp dvs E t) := by
  intro pins s σ H Q I h
  refine wpAny_Call_Name_kw (ld_glob I hg hm ?_ hdb)
  refine W.callWith_K (h₀ := X.base) I.ok.mod.kin hk (thn (ha pos pins s σ H _ I h) fun us s1 ⟨vs, H1, I1, r, q⟩ => ⟨I1.kIn, ?_⟩) he hpl
  exact run_fn F hr hb hd hx I1 r q
structure Mk (K : W.Frag) (C f : Addr) : Prop where
  makes : W.makesIn K C = true
  init : W.findIn K (.ref C) "__init__" = some (some (.ref f))
  fn : W.isFn K (.ref f) = true
  kp : W.keepIn K (.ref C) = true
end
section
variable {X : Cx} {CX : CXT} {k : Nat} {f C : Addr} {fd : FuncData} {ps ks : List Str} {sp : Sp} {E : XK} {x m : Str} {p pos apos kpos : Pos} {e o : Expr} {es : List Expr} {kws : List Keyword} {te ta : TE} {t tk : TA} {nm : Option Str}
structure KBinds (K : W.Frag) (fd : FuncData) (ps ks : List Str) (g : List Value -> List Value -> List Value) (gV : List V -> List V -> List V) : Prop where
  to : ∀ (s : Shared) (us ws : List Value), K.In s.heap -> (g us ws).length = ps.length -> BindsTo s fd ⟨us, ks.zip ws⟩ (ps.zip (g us ws))
  rel : ∀ {vs : List V} {us : List Value} {zs : List V} {ws : List Value}, Vals vs us -> Vals zs ws -> Vals (gV vs zs) (g us ws)
variable {g : List Value -> List Value -> List Value} {gV : List V -> List V -> List V}
end
structure FnScope (N P : List Str) (sc : Scope) : Prop where
  kind : sc.kind = .function
  co : sc.isCoroutine = false
  gen : sc.isGenerator = false
  nd : N.Nodup
  pre : N.take P.length = P
  par : ∀ x ∈ P, sc.names.lookup x = some .local \/ sc.names.lookup x = some .cell
  nofree : ∀ y ∈ sc.names, y.2 ≠ .free
theorem bindL_out {kindOf : Str -> Option NameKind} {x : Str} : ∀ {binds : List (Str × Value)} {m : Str -> Option Value}, (∀ v, (x, v) ∉ binds) -> bindL kindOf binds m x = m x
  | [], _, _ => rfl
  | (n, v) :: r, m, h => by
    unfold bindL
    rw [bindL_out fun w hw => h w (List.mem_cons_of_mem _ hw)]
    split
    . have : x ≠ n := by rintro rfl; exact h v List.mem_cons_self
      simp [this]
    . rfl
theorem bindC_out {kindOf : Str -> Option NameKind} {x : Str} : ∀ {binds : List (Str × Value)} {m : Str -> Option Value}, (∀ v, (x, v) ∉ binds) -> bindC kindOf binds m x = m x
  | [], _, _ => rfl
  | (n, v) :: r, m, h => by
    unfold bindC
    rw [bindC_out fun w hw => h w (List.mem_cons_of_mem _ hw)]
    split
    . rfl
    . have : x ≠ n := by rintro rfl; exact h v List.mem_cons_self
      simp [this]
theorem bindL_get {kindOf : Str -> Option NameKind} {x : Str} {v : Value} : ∀ {P : List Str} {vs : List Value} {i : Nat} {m : Str -> Option Value}, P.Nodup -> P[i]? = some x -> vs[i]? = some v -> kindOf x = some .local →
    bindL kindOf (P.zip vs) m x = some v
  | [], _, _, _, _, h, _, _ => by simp at h
  | _ :: _, [], _, _, _, _, h, _ => by simp at h
  | p :: P, w :: vs, 0, m, nd, h1, h2, hk => by
    simp at h1 h2; subst h1; subst h2
    show bindL kindOf ((p, w) :: P.zip vs) m p = _
    unfold bindL
    rw [bindL_out fun v hv => (List.nodup_cons.mp nd).1 (List.of_mem_zip hv).1, if_pos hk]
    simp
  | p :: P, w :: vs, i + 1, m, nd, h1, h2, hk => by
    show bindL kindOf ((p, w) :: P.zip vs) m x = _
    unfold bindL
    exact bindL_get (i := i) (List.nodup_cons.mp nd).2 (by simpa using h1) (by simpa using h2) hk
theorem bindC_get {kindOf : Str -> Option NameKind} {x : Str} {v : Value} : ∀ {P : List Str} {vs : List Value} {i : Nat} {m : Str -> Option Value}, P.Nodup -> P[i]? = some x -> vs[i]? = some v -> kindOf x ≠ some .local →
    bindC kindOf (P.zip vs) m x = some v
  | [], _, _, _, _, h, _, _ => by simp at h
  | _ :: _, [], _, _, _, _, h, _ => by simp at h
  | p :: P, w :: vs, 0, m, nd, h1, h2, hk => by
    simp at h1 h2; subst h1; subst h2
    show bindC kindOf ((p, w) :: P.zip vs) m p = _
    unfold bindC
    rw [bindC_out fun v hv => (List.nodup_cons.mp nd).1 (List.of_mem_zip hv).1, if_neg hk]
    simp
  | p :: P, w :: vs, i + 1, m, nd, h1, h2, hk => by
    show bindC kindOf ((p, w) :: P.zip vs) m x = _
    unfold bindC
    exact bindC_get (i := i) (List.nodup_cons.mp nd).2 (by simpa using h1) (by simpa using h2) hk
def start (N : List Str) (vs : List V) : St := vs.map some ++ List.replicate (N.length - vs.length) none
def cxOf (CX : CXT) (P : Program) (w : World) (K : W.Frag) (mg : Str -> Option Value) (base : Heap) (N : List Str) (qual : Str) (scope : Scope) (f : Addr) (cd : Value) (A : Around) (outer : List Env) (s : Shared) (H : Hp) (E : XK) : Cx where
  prog := P
  w := w
  K := K
  mg := mg
  base := base
  A := A.deeper (envOfC qual scope s.heap.objs.size f cd)
  N := N
  s₀ := s
  H₀ := H
  env := envOfC qual scope s.heap.objs.size f cd
  outer := outer
  stack := envOfC qual scope s.heap.objs.size f cd :: outer
  ex := []
  calm := true
  fn := fun _ => true
  pn := []
  xe := fun e s' => wpAny (model P w) (A.deeper (envOfC qual scope s.heap.objs.size f cd)) (leaving (envOfC qual scope s.heap.objs.size f cd) e) (fun _ s'' => CX outer H s E e s'') (fun e' s'' => CX outer H s E e' s'') s'
theorem cell_has {sc : Scope} {n : Nat} {x : Str} (h : sc.names.lookup x = some .cell) : ∃ c, (cellsFrom n sc.names []).lookup x = some c := by
  have q := W.cellsFrom_some sc.names n [] (.inl h)
  exact Option.isSome_iff_exists.mp q
theorem inv_start {CX : CXT} {P : Program} {w : World} {K : W.Frag} {mg : Str -> Option Value} {base : Heap} {N ps : List Str} {qual : Str} {scope : Scope} {f : Addr} {cd : Value} {A : Around} {outer : List Env} {s s1 : Shared} {H : Hp} {E : XK} {us : List Value} {vs : List V}
    (S : FnScope N ps scope) (hd : A.handled = none) (e0 : Env0 P w K mg base A outer s H) (hl : vs.length = ps.length) (r : Vals vs us)
    (x : InCallC s s.heap.objs.size (bindL (envOfC qual scope s.heap.objs.size f cd).kindOf (ps.zip us) fun _ => none) (cellsFrom (s.heap.objs.size + 1) scope.names []) (bindC (envOfC qual scope s.heap.objs.size f cd).kindOf (ps.zip us) fun _ => none) s1) :
    Inv (cxOf CX P w K mg base N qual scope f cd A outer s H E) [] (start N vs) H s1 := by
  have hpl : ps.length <= N.length := by have := congrArg List.length S.pre; rw [List.length_take] at this; omega
  obtain ⟨h1, tk, rfl, hk⟩ := x.done
  have noA : ∀ b : Addr, b ∉ (cxOf CX P w K mg base N qual scope f cd A outer s H E).ex := fun b z => absurd (show b ∈ ([] : List Addr) from z) (by simp)
  refine ⟨⟨e0.mod, S.kind, rfl, rfl, Nat.le_refl _, fun y z c h1 h2 => ?_, fun y hy => ?_, fun y c _ h => ?_, fun _ => hd, Around.frames_deeper e0.frames, .inr ⟨rfl, rfl⟩, fun b z => absurd z (noA b), e0.bs, e0.bsz, fun b _ _ => noA b, fun b z => absurd z (noA b), e0.funs, e0.frf⟩,
    rfl, e0.bare, Un.kept hk, ⟨_, x.toInCall.ns, fun i y v h1 h2 h3 => ?_⟩, fun y c h => ⟨_, x.cell y c h⟩, e0.hok.fresh (Nat.le_refl _), fun y c h => ?_, fun p hp => absurd (show p ∈ ([] : List (Addr × Obj)) from hp) (by simp), e0.hok.kept hk, ?_⟩
  . exact name_of_addr x.apart (PySem.mem_of_lookup h1) (PySem.mem_of_lookup h2)
  . have hy : scope.names.lookup y = some .cell \/ scope.names.lookup y = some .free := hy
    rcases hy with hy | hy
    . exact cell_has hy
    . exact absurd rfl (S.nofree _ (PySem.mem_of_lookup hy))
  . exact Nat.le_of_lt (x.above y c (PySem.mem_of_lookup h))
  . have hi : i < vs.length := by
      unfold start at h2
      by_cases hi : i < vs.length
      . exact hi
      . rw [List.getElem?_append_right (by simpa using hi)] at h2
        rw [List.getElem?_replicate] at h2
        split at h2 <;> cases h2
    have ha : vs[i]? = some v := by
      unfold start at h2
      rw [List.getElem?_append_left (by simpa using hi), List.getElem?_map] at h2
      cases e : vs[i]? with
      | none => rw [e] at h2; cases h2
      | some a => rw [e] at h2; cases h2; rfl
    obtain ⟨u, hu, rv⟩ := r.get ha
    have hp : ps[i]? = some y := by
      rw [<- S.pre, List.getElem?_take_of_lt (by omega)]; exact h1
    have ndP : ps.Nodup := by rw [<- S.pre]; exact S.nd.sublist (List.take_sublist _ _)
    refine ⟨u, rv, ?_⟩
    rcases S.par y (List.mem_of_getElem? hp) with k | k
    . exact .inl ⟨k, bindL_get ndP hp hu k⟩
    . obtain ⟨c, e⟩ := cell_has (n := s.heap.objs.size + 1) k
      refine .inr ⟨.inl k, c, e, ?_⟩
      have q := x.cell y c e
      rw [bindC_get ndP hp hu (by show scope.names.lookup y ≠ _; rw [k]; decide)] at q
      exact q
  . exact e0.hok.fresh (Nat.le_of_lt (x.above y c (PySem.mem_of_lookup h)))
  . unfold start
    show _ = N.length
    rw [List.length_append, List.length_map, List.length_replicate]
    omega
theorem fn_of {CX : CXT} {P : Program} {w : World} {K : W.Frag} {mg : Str -> Option Value} {base : Heap} {k : Nat} {f : Addr} {name qual : Str} {params : Arguments} {body : List Stmt} {scope : Scope} {dV kV doc pm cdv ct oc : Value} {an od : Option Addr}
    {osl : Array (Option Value)} {N ps : List Str} {sp : Sp} (lk : K.lookup f = some ⟨oc, od, .func (W.fnOf name qual params body scope dV kV doc pm an cdv ct), osl⟩) (hcd : W.codeIn K cdv qual = true) (S : FnScope N ps scope)
    (len : ∀ vs H Q E, sp vs H Q E -> vs.length = ps.length)
    (hbody : ∀ (A : Around) (outer : List Env) (s : Shared) (H : Hp) (vs : List V) (Q : VK) (E : XK), Room k (A.deeper (envOfC qual scope s.heap.objs.size f cdv)) -> sp vs H Q E →
      ∃ t, PSs (cxOf CX P w K mg base N qual scope f cdv A outer s H E) body t /\ t { nx := fun _ H' => Q .non H', rt := Q } (start N vs) H) :
    FnOk P w K mg base CX (k + 1) f (W.fnOf name qual params body scope dV kV doc pm an cdv ct) ps sp := by
  refine ⟨len, fun A outer s H args us vs Q E hr e0 hb r hsp => ?_⟩
  have hl := len _ _ _ _ hsp
  have KX : K.In s.heap := e0.mod.kin.keeps fun b o e => (e0.bs b o e).1
  have lim : s.heap.NoLimit := e0.mod.nolimit.keeps fun b o e => (e0.bs b o e).1
  have hkind : ∀ y ∈ ps.zip us, scope.names.lookup y.1 = some .local \/ (scope.names.lookup y.1 = some .cell /\ ((cellsFrom (s.heap.objs.size + 1) scope.names []).lookup y.1).isSome = true) := fun ⟨n, v⟩ hy => by
    rcases S.par n (List.of_mem_zip hy).1 with q | q
    . exact .inl q
    . exact .inr ⟨q, W.cellsFrom_some _ _ _ (.inl q)⟩
  refine codeAny_call_function hr.depth (KX _ _ lk) rfl S.co S.gen rfl (W.codeRec_of KX hcd) (hb _ _ _ _ ?_)
  refine wpAny_newFunctionEnv_cells S.kind hkind fun env he s1 x => ?_
  subst he
  refine ⟨lim.keeps x.toInCall.keep, codeAny_func ?_⟩
  obtain ⟨t, ht, hq⟩ := hbody A outer s H vs Q E (hr.deeper _) hsp
  have I : Inv (cxOf CX P w K mg base N qual scope f cdv A outer s H E) [] (start N vs) H s1 := inv_start S hr.hd e0 hl r x
  refine wpAny_mono (ht [] s1 (start N vs) H _ I hq) (fun fl s' hs => ?_) fun e s' hs => hs
  have fin : ∀ {σ' : St} {H' : Hp} {v : V} {u : Value}, Inv (cxOf CX P w K mg base N qual scope f cdv A outer s H E) [] σ' H' s' -> RelV v u -> Q v H' -> CE outer P w H s Q u s' :=
    fun {σ' H' v u} J rv q => ⟨v, H', J.os, J.bare, J.base, J.hok, rv, q⟩
  cases fl with
  | ret u =>
    obtain ⟨v, σ', H', J, rv, q⟩ := hs
    exact fin J rv q
  | next =>
    obtain ⟨σ', H', J, q⟩ := hs
    exact fin (v := V.non) (u := Value.none) J rfl q
  | brk =>
    obtain ⟨_, _, _, q⟩ := hs
    exact False.elim q
  | cont =>
    obtain ⟨_, _, _, q⟩ := hs
    exact False.elim q
end L2
namespace L2
open PySem PySem.Spec PyProof.Rows
section
variable {X : Cx} {x : Str} {p pos : Pos} {e : Expr} {es : List Expr} {t : TA} {id T : String} {r : List V -> Hp -> VK -> Prop}
def tCB (r : List V -> Hp -> VK -> Prop) (t : TA) : TE := fun σ H Q => t σ H fun vs H1 => r vs H1 Q
theorem pe_callB (hc : CallR X (.builtin id) r) (hg : Gl X x) (hm : X.mg x = none) (hv : bootBuiltins x = some (.builtin id)) (ha : PA X (e :: es) t) (hn : x ≠ "__name__" := by decide) (hdb : (x == ("__debug__" : Str)) = false := by decide)
    (he : starEach (e :: es) X.env = (false, eval e X.env) :: starEach es X.env := by rfl) (hpl : (backTo pos (starEach es X.env)).any (·.1) = false := by rfl) : PE X (.Call (.Name x p) (e :: es) [] pos) (tCB r t) := by
  intro pins s σ H Q I h
  refine wpAny_Call_Name_kw (ld_blt I hg hm hv ?_ hn hdb)
  exact PyProof.Rows.callWith_builtin1 (thn (ha pos pins s σ H _ I h) fun us s1 ⟨vs, H1, I1, r1, q1⟩ => hc pins s1 σ H1 vs us Q I1 r1 q1) he hpl
theorem pe_callTy (hc : CallR X (.type T) r) (hg : Gl X x) (hm : X.mg x = none) (hv : bootBuiltins x = some (.type T)) (ha : PA X (e :: es) t) (hn : x ≠ "__name__" := by decide) (hdb : (x == ("__debug__" : Str)) = false := by decide)
    (he : starEach (e :: es) X.env = (false, eval e X.env) :: starEach es X.env := by rfl) (hpl : (backTo pos (starEach es X.env)).any (·.1) = false := by rfl) : PE X (.Call (.Name x p) (e :: es) [] pos) (tCB r t) := by
  intro pins s σ H Q I h
  refine wpAny_Call_Name_kw (ld_blt I hg hm hv ?_ hn hdb)
  exact PyProof.Rows.callWith_type1 (thn (ha pos pins s σ H _ I h) fun us s1 ⟨vs, H1, I1, r1, q1⟩ => hc pins s1 σ H1 vs us Q I1 r1 q1) he hpl
end
end L2
namespace HT
open PySem PyProof.Rows
section
open PySem.SeqAt
open PySem.AutoSeq1 (wpAny_loadPart')
open PySem.MeetsSeq PySem.MeetsSeq2 PySem.MeetsSeq3
end
section
variable {prog : Program} {w : World} {A : Around} {E : Value -> Shared -> Prop} {s : Shared}
theorem cat_tup {t b : Addr} {vs ws : List Value} {Q : Value -> Shared -> Prop} (ht : IsTup s.heap t vs.toArray) (hb : IsTup s.heap b ws.toArray) (hv : vs ≠ [])
    (h1 : ws = [] -> Q (.ref t) s) (h2 : ws ≠ [] -> Q (.ref s.heap.objs.size) { s with heap := s.heap.push { cls := .type "tuple", data := .seq (vs ++ ws).toArray } })
    (hsz : vs.length + ws.length <= sizeLine) : wpAny (model prog w) A (binaryOp .Add (.ref t) (.ref b)) Q E s := by
  obtain ⟨⟨cls, dd, data, sl⟩, ho, hc, n, hd⟩ := id ht
  obtain ⟨⟨cls2, dd2, data2, sl2⟩, ho2, hc2, n2, hd2⟩ := id hb
  simp only at hc hd hc2 hd2
  subst hc hd hc2 hd2
  have e : vs.toArray ++ ws.toArray = (vs ++ ws).toArray := by simp
  by_cases hw : ws = []
  . exact concat_meets ⟨_, ho, rfl⟩ ⟨_, ho2, rfl⟩ noFill_tuple_add seq_tuple_add PySem.F.slot_tuple_add PySem.F.entry_tuple_add (PySem.F.args_tuple_add_2 _ _)
      (tuple_addW1 t b vs.toArray ws.toArray n n2 dd dd2 sl sl2 (by simpa using hv) (by simp [hw])) ⟨ho, ho2, h1 hw⟩
  . refine concat_meets ⟨_, ho, rfl⟩ ⟨_, ho2, rfl⟩ noFill_tuple_add seq_tuple_add PySem.F.slot_tuple_add PySem.F.entry_tuple_add (PySem.F.args_tuple_add_2 _ _)
      (tuple_addW2 t b vs.toArray ws.toArray n n2 dd dd2 sl sl2 (by simpa using hv) (by simpa using hw) (by rw [List.size_toArray, List.size_toArray]; exact hsz)) ⟨ho, ho2, ?_⟩
    rw [e]
    exact h2 hw
def sIx (n d : Nat) : Option Int -> Nat
  | none => d
  | some v => if v < 0 then (v + (n : Int)).toNat else min v.toNat n
theorem sIx_none (n d : Nat) : sIx n d none = d := rfl
theorem sIx_nat (n d k : Nat) : sIx n d (some (k : Int)) = min k n := by
  show (if (k : Int) < 0 then ((k : Int) + (n : Int)).toNat else min (k : Int).toNat n) = min k n
  rw [if_neg (by omega), Int.toNat_natCast]
end
end HT
namespace L2
open PySem PySem.Spec PyProof.Rows
abbrev TO := St -> Hp -> (Option Int -> Hp -> Prop) -> Prop
def PO (X : Cx) (e : Option Expr) (t : TO) : Prop :=
  ∀ (pins : List (Addr × Obj)) (s : Shared) (σ : St) (H : Hp) (Q : Option Int -> Hp -> Prop), Inv X pins σ H s -> t σ H Q →
    wpAny (model X.prog X.w) X.A (evalPart e X.env) (fun u s' => ∃ o H', Inv X pins σ H' s' /\ IsPart u o /\ Q o H') X.xe s
def tNoPart : TO := fun _ H Q => Q none H
def tPart (t : TE) : TO := fun σ H Q => t σ H fun x H1 => ∃ i, x = .int i /\ Q (some i) H1
section
variable {X : Cx} {e : Expr} {te : TE} {lo hi : Option Expr} {tl th : TO} {pos p2 : Pos}
theorem po_none : PO X none tNoPart := by
  intro pins s σ H Q I h
  rw [evalPart_none]
  exact wpAny_pure ⟨none, H, I, .none, h⟩
theorem po_some (h : PE X e te) : PO X (some e) (tPart te) := by
  intro pins s σ H Q I hw
  rw [evalPart_some]
  refine thn (h pins s σ H _ I hw) fun u s1 ⟨x, H1, I1, r1, q1⟩ => ?_
  obtain ⟨i, rfl, q⟩ := q1
  obtain ⟨t, rfl⟩ := r1
  exact ⟨some i, H1, I1, .int i t, q⟩
def SlR (X : Cx) (r : V -> Option Int -> Option Int -> Hp -> VK -> Prop) : Prop :=
  ∀ (pins : List (Addr × Obj)) (s : Shared) (σ : St) (H : Hp) (x : V) (v vl vu : Value) (lo hi : Option Int) (sl : Addr) (Q : VK), Inv X pins σ H s -> RelV x v -> s.heap.IsSliceOf sl vl vu .none -> IsPart vl lo -> IsPart vu hi -> r x lo hi H Q →
    ∃ T id, typeLookup (.type T) "__getitem__" = pure (some (.builtin id)) /\ s.TypeIs v T /\ wpAny (model X.prog X.w) X.A (getItem v (.ref sl)) (EP X pins σ Q) X.xe s
def tSl (r : V -> Option Int -> Option Int -> Hp -> VK -> Prop) (te : TE) (tl th : TO) : TE := fun σ H Q => te σ H fun x H1 => tl σ H1 fun l H2 => th σ H2 fun u H3 => r x l u H3 Q
theorem pe_slice {r : V -> Option Int -> Option Int -> Hp -> VK -> Prop} (hr : SlR X r) (he : PE X e te) (hl : PO X lo tl) (hu : PO X hi th) : PE X (.Subscript e (.Slice lo hi none p2) pos) (tSl r te tl th) := by
  intro pins s σ H Q I h
  refine Subscript_ (thn (he pins s σ H _ I h) fun v s1 ⟨x, H1, I1, r1, q1⟩ => ?_)
  refine wpAny_Slice (thn (hl pins s1 σ H1 _ I1 q1) fun vl s2 ⟨l, H2, I2, pl, q2⟩ => thn (hu pins s2 σ H2 _ I2 q2) fun vu s3 ⟨u, H3, I3, pu, q3⟩ => ?_)
  rw [evalPart_none]
  refine wpAny_pure ?_
  have I4 : Inv X pins σ H3 { s3 with heap := s3.heap.push { cls := .type "slice", data := .fields #[vl, vu, .none] } } := I3.kept (t' := s3.toks) fun b ob q => Heap.get?_push_of_some _ q
  obtain ⟨T, id, hT, ht, hg⟩ := hr pins { s3 with heap := s3.heap.push { cls := .type "slice", data := .fields #[vl, vu, .none] } } σ H3 x v vl vu l u s3.heap.objs.size Q I4 r1 (Heap.IsSliceOf.new ..) pl pu q3
  show wpAny (model X.prog X.w) X.A (subscriptTail e (.Slice lo hi none p2) v (.ref s3.heap.objs.size)) (EP X pins σ Q) X.xe { s3 with heap := s3.heap.push { cls := .type "slice", data := .fields #[vl, vu, .none] } }
  exact tail_any (ops := [.ref s3.heap.objs.size, v]) ht hT hg (by with_unfolding_all rfl)
def cutV (xs : List V) (lo hi : Option Int) : List V := (xs.drop (HT.sIx xs.length 0 lo)).take (HT.sIx xs.length xs.length hi - HT.sIx xs.length 0 lo)
theorem cutV_length (xs : List V) (lo hi : Option Int) : (cutV xs lo hi).length <= xs.length := by
  unfold cutV
  rw [List.length_take, List.length_drop]
  omega
def rCatT (K : W.Frag) : R2 := fun x y H Q => ∃ a b xs ys, x = .ref a /\ y = .ref b /\ SqT K H a xs /\ SqT K H b ys /\ xs ≠ [] /\ xs.length + ys.length <= sizeLine ∧
  (ys = [] -> Q (.ref a) H) /\ (ys ≠ [] -> ∀ p, H p = none -> Q (.ref p) (upd H p (.tup (xs ++ ys))))
theorem Vals.nil_iff {xs : List V} {us : List Value} (r : Vals xs us) : us = [] ↔ xs = [] := by
  cases r with
  | nil => simp
  | cons _ _ => simp
theorem op_catT : OpR X (binaryOp .Add) (rCatT X.K) := by
  intro pins s σ H x y v u Q I rx ry h
  obtain ⟨a, b, xs, ys, rfl, rfl, ha, hb, hx, hz, q1, q2⟩ := h
  cases rx
  cases ry
  obtain ⟨its, r1, p1, _⟩ := I.tuple ha
  obtain ⟨its2, r2, p2, _⟩ := I.tuple hb
  refine HT.cat_tup p1 p2 (fun z => hx (r1.nil_iff.mp z)) (fun z => ⟨.ref a, H, I, rfl, q1 (r2.nil_iff.mp z)⟩) (fun z => ?_) (by rw [<- r1.length, <- r2.length]; exact hz)
  refine ⟨.ref s.heap.objs.size, _, I.laid (t' := s.toks) (o := .tup (xs ++ ys)) (fun b ob q => Heap.get?_push_of_some _ q) (Nat.le_refl _) ?_, rfl, q2 (fun w => z (r2.nil_iff.mpr w)) _ (I.hok.fresh (Nat.le_refl _))⟩
  exact ⟨by rw [List.length_append]; exact hz, _, r1.append r2, IsTup.new _ _⟩
end
end L2
namespace L2
open PySem PySem.Spec PyProof.Rows
def ixN (n : Nat) (i : Int) : Option Nat := if 0 <= i then (if i < n then some i.toNat else none) else if -(n : Int) <= i then some (i + n).toNat else none
def atI {α : Type} (xs : List α) (i : Int) : Option α := (ixN xs.length i).bind fun j => xs[j]?
theorem ixN_seq {n : Nat} {i : Int} {j : Nat} (h : ixN n i = some j) : seqIndex? i n = some j /\ j < n /\ -(n : Int) <= i /\ i < n := by
  unfold ixN at h
  by_cases h0 : 0 <= i
  . rw [if_pos h0] at h
    by_cases h1 : i < n
    . rw [if_pos h1] at h
      have e : i.toNat = j := Option.some.inj h
      exact ⟨by rw [seqIndex_of h0 h1, e], by omega, by omega, h1⟩
    . rw [if_neg h1] at h; cases h
  . rw [if_neg h0] at h
    by_cases h1 : -(n : Int) <= i
    . rw [if_pos h1] at h
      have e : (i + n).toNat = j := Option.some.inj h
      exact ⟨by rw [seqIndex_neg (by omega) h1, e], by omega, h1, by omega⟩
    . rw [if_neg h1] at h; cases h
theorem atI_get {α : Type} {xs : List α} {i : Int} {v : α} (h : atI xs i = some v) : ∃ j, seqIndex? i xs.length = some j /\ xs[j]? = some v /\ j < xs.length /\ -(xs.length : Int) <= i /\ i < xs.length := by
  unfold atI at h
  cases e : ixN xs.length i with
  | none => rw [e] at h; cases h
  | some j =>
    rw [e] at h
    obtain ⟨h1, h2, h3, h4⟩ := ixN_seq e
    exact ⟨j, h1, h, h2, h3, h4⟩
theorem atI_nat {α : Type} {xs : List α} {j : Nat} {v : α} (h : xs[j]? = some v) : atI xs (j : Int) = some v := by
  have hj : j < xs.length := (List.getElem?_eq_some_iff.mp h).1
  have e : ixN xs.length (j : Int) = some j := by
    unfold ixN
    rw [if_pos (by omega), if_pos (by omega)]; simp
  unfold atI; rw [e]; exact h
def PlainIx (b : Expr) : Prop := ∀ o i, subscripted b false o i = operate [o, i] (getItem o i)
def IxR (X : Cx) (r : R2) : Prop :=
  ∀ (value slice : Expr) (pins : List (Addr × Obj)) (s : Shared) (σ : St) (H : Hp) (x y : V) (v u : Value) (Q : VK), Inv X pins σ H s -> RelV x v -> RelV y u -> r x y H Q →
    subscripted slice false v u = operate [v, u] (getItem v u) -> wpAny (model X.prog X.w) X.A (subscriptTail value slice v u) (EP X pins σ Q) X.xe s
def MtR (X : Cx) (id : String) (r : V -> List V -> Hp -> VK -> Prop) : Prop :=
  ∀ (pins : List (Addr × Obj)) (s : Shared) (σ : St) (H : Hp) (x : V) (xs : List V) (v : Value) (us : List Value) (Q : VK), Inv X pins σ H s -> RelV x v -> Vals xs us -> r x xs H Q →
    wpAny (model X.prog X.w) X.A (call (.builtin id) (v :: us)) (EP X pins σ Q) X.xe s
section
variable {X : Cx} {a b : Expr} {ta tb : TE} {pos : Pos}
theorem pe_ix {r : R2} (hr : IxR X r) (ha : PE X a ta) (hb : PE X b tb) (hs : PlainIx b) : PE X (.Subscript a b pos) (tOp r ta tb) := by
  intro pins s σ H Q I h
  exact Subscript_ (binT ha hb I h fun v u s2 x y H2 I2 rx ry q => hr a b pins s2 σ H2 x y v u Q I2 rx ry q (hs _ _))
def rIxL (K : W.Frag) : R2 := fun x y H Q => ∃ p xs i v, x = .ref p /\ y = .int i /\ SqL K H p xs /\ atI xs i = some v /\ Q v H
def rIxT (K : W.Frag) : R2 := fun x y H Q => ∃ p xs i v, x = .ref p /\ y = .int i /\ SqT K H p xs /\ atI xs i = some v /\ Q v H
theorem ix_list : IxR X (rIxL X.K) := by
  intro value slice pins s σ H x y v u Q I rx ry h hs
  obtain ⟨p, xs, i, z, rfl, rfl, hq, he, q⟩ := h
  cases rx
  obtain ⟨t, rfl⟩ := ry
  obtain ⟨its, r, pl, hz⟩ := I.list hq
  obtain ⟨j, h1, h2, h3, h4, h5⟩ := atI_get he
  obtain ⟨w, ew, rw'⟩ := r.get h2
  have hl := r.length
  have hn := line63
  have fin : EP X pins σ Q w s := ⟨z, H, I, rw', q⟩
  by_cases h0 : 0 <= i
  . have hj : i.toNat = j := by
      rw [seqIndex_of h0 h5] at h1
      exact Option.some.inj h1
    exact item_listR pl.isList h0 (by omega) (by rw [hj]; simpa using ew) fin hs
  . have hj : (i + (its.toArray.size : Int)).toNat = j := by
      rw [seqIndex_neg (by omega) h4] at h1
      rw [List.size_toArray, <- hl]
      exact Option.some.inj h1
    exact subscriptTail_builtinR (x := w) pl.isList.typeIs slot_list_getitem.lookup
      (wpAny_getItem_list_neg (Q := fun r s' => r = w /\ EP X pins σ Q r s') pl.isList (by omega) (by rw [List.size_toArray] <;> omega) (by omega) (by rw [hj]; simpa using ew) ⟨rfl, fin⟩) hs
theorem ix_tup : IxR X (rIxT X.K) := by
  intro value slice pins s σ H x y v u Q I rx ry h hs
  obtain ⟨p, xs, i, z, rfl, rfl, hq, he, q⟩ := h
  cases rx
  obtain ⟨t, rfl⟩ := ry
  obtain ⟨its, r, pl, hz⟩ := I.tuple hq
  obtain ⟨j, h1, h2, h3, h4, h5⟩ := atI_get he
  obtain ⟨w, ew, rw'⟩ := r.get h2
  have hl := r.length
  have hn := line63
  have fin : EP X pins σ Q w s := ⟨z, H, I, rw', q⟩
  exact subscriptTail_builtinR (x := w) pl.typeIs slot_tuple_getitem.lookup
    (getItem_tuple (j := j) (Q := fun r s' => r = w /\ EP X pins σ Q r s') pl (by omega) (by omega) (by rw [List.size_toArray, <- hl]; exact h1) (by simpa using ew) ⟨rfl, fin⟩) hs
theorem mapSeq_set (its : List Value) (n j : Nat) (u : Value) : Obj.mapSeq (·.setIfInBounds j u) { cls := .type "list", data := .seq its.toArray n } = { cls := .type "list", data := .seq (its.set j u).toArray n } := by
  simp [Obj.mapSeq]
theorem Inv.lst {pins : List (Addr × Obj)} {σ : St} {H : Hp} {s : Shared} {p : Addr} {xs : List V} (I : Inv X pins σ H s) (h : H p = some (.lst xs)) :
    ∃ (its : List Value) (n : Nat), Vals xs its /\ s.heap.get? p = some { cls := .type "list", data := .seq its.toArray n } /\ xs.length <= sizeLine := by
  obtain ⟨z, its, n, r, e⟩ := I.hok p _ h
  exact ⟨its, n, r, e, z⟩
theorem Inv.lstUpd {pins : List (Addr × Obj)} {σ : St} {H : Hp} {s : Shared} {p : Addr} {xs ys : List V} {its its' : List Value} {n n' : Nat} {f : Obj -> Obj} (I : Inv X pins σ H s) (h : H p = some (.lst xs))
    (ho : s.heap.get? p = some { cls := .type "list", data := .seq its.toArray n }) (hf : f { cls := .type "list", data := .seq its.toArray n } = { cls := .type "list", data := .seq its'.toArray n' }) (r : Vals ys its') (hz : ys.length <= sizeLine) (t : Nat) :
    Inv X pins σ (upd H p (.lst ys)) { s with heap := s.heap.update p f, toks := t } := by
  have e : (s.heap.update p f).get? p = some { cls := .type "list", data := .seq its'.toArray n' } := by
    rw [Heap.get?_update_self f ho (by rw [hf] <;> rfl), hf]
  refine I.write (x := p) (e := p) (by rw [h]; trivial) (.inl rfl) (fun b u hb q => (Heap.get?_update_other _ _ (Ne.symm hb)).trans q) ⟨_, e⟩ ?_
  exact ⟨hz, its', n', r, e⟩
def rSetL : V -> V -> V -> Hp -> (Hp -> Prop) -> Prop := fun o i v H Q => ∃ p xs k j, o = .ref p /\ i = .int k /\ H p = some (.lst xs) /\ ixN xs.length k = some j /\ Q (upd H p (.lst (xs.set j v)))
theorem set_list : PSet X rSetL := by
  intro pins s σ H o i v ov iv u Q I ro ri rv h
  obtain ⟨p, xs, k, j, rfl, rfl, hp, hj, q⟩ := h
  cases ro
  obtain ⟨t, rfl⟩ := ri
  obtain ⟨its, n, r, ho, hz⟩ := I.lst hp
  obtain ⟨h1, h2, h3, h4⟩ := ixN_seq hj
  have hl := r.length
  have hn := line63
  have I' : Inv X pins σ (upd H p (.lst (xs.set j v))) { s with heap := s.heap.update p (Obj.mapSeq (·.setIfInBounds j u)) } :=
    I.lstUpd hp ho (mapSeq_set its n j u) (r.set rv j) (by rw [List.length_set]; exact hz) s.toks
  by_cases h0 : 0 <= k
  . have hk : k.toNat = j := by
      rw [seqIndex_of h0 h4] at h1
      exact Option.some.inj h1
    exact W.ki_setAt ho h0 (by omega) (by rw [List.size_toArray, <- hl]; exact h4) (by rw [hk]; exact ⟨_, I', q⟩)
  . have hk : (k + (its.toArray.size : Int)).toNat = j := by
      rw [seqIndex_neg (by omega) h3] at h1
      rw [List.size_toArray, <- hl]
      exact Option.some.inj h1
    exact W.ki_setBack ho (by omega) (by rw [List.size_toArray, <- hl]; exact h3) (by omega) (by rw [hk]; exact ⟨_, I', q⟩)
theorem slice_bounds (lo hi : Option Int) (n : Nat) : (sliceBounds lo hi none n).1 = ((HT.sIx n 0 lo : Nat) : Int) /\ (sliceBounds lo hi none n).2.1 = ((HT.sIx n n hi : Nat) : Int) /\ (sliceBounds lo hi none n).2.2 = 1 := by
  refine ⟨?_, ?_, rfl⟩
  . cases lo with
    | none => simp [sliceBounds, HT.sIx]
    | some i =>
      simp only [sliceBounds, HT.sIx, Option.getD_none, show (1 : Int) > 0 by decide, if_true]
      by_cases h : i < 0
      . simp only [h, if_true] <;> omega
      . simp only [h, if_false] <;> omega
  . cases hi with
    | none => simp [sliceBounds, HT.sIx]
    | some i =>
      simp only [sliceBounds, HT.sIx, Option.getD_none, show (1 : Int) > 0 by decide, if_true]
      by_cases h : i < 0
      . simp only [h, if_true] <;> omega
      . simp only [h, if_false] <;> omega
theorem slicePick_cut (its : List Value) (lo hi : Option Int) : slicePick its.toArray lo hi none = ((its.drop (HT.sIx its.length 0 lo)).take (HT.sIx its.length its.length hi - HT.sIx its.length 0 lo)).toArray := by
  obtain ⟨h1, h2, h3⟩ := slice_bounds lo hi its.toArray.size
  unfold slicePick
  rw [h1, h2, h3]
  simp only [sliceRange_one, pick_run, List.size_toArray] <;> rfl
def rSlL (K : W.Frag) : V -> Option Int -> Option Int -> Hp -> VK -> Prop := fun x lo hi H Q => ∃ a xs, x = .ref a /\ SqL K H a xs /\ ∀ p, H p = none -> Q (.ref p) (upd H p (.lst (cutV xs lo hi)))
theorem sl_list : SlR X (rSlL X.K) := by
  intro pins s σ H x v vl vu lo hi sl Q I rx hs pl pu h
  obtain ⟨a, xs, rfl, hx, q⟩ := h
  cases rx
  obtain ⟨its, r, ht, hz⟩ := I.list hx
  have hlen := r.length
  refine ⟨"list", _, slot_list_getitem.lookup, ht.isList.typeIs, ?_⟩
  refine wpAny_getItem_list_slice ht.isList hs pl pu .none (by simp) ?_ (by rw [List.size_toArray] <;> omega)
  rw [slicePick_cut, <- hlen]
  refine ⟨.ref s.heap.objs.size, _, I.laid (t' := s.toks) (o := .lst (cutV xs lo hi)) (fun b ob q => Heap.get?_push_of_some _ q) (Nat.le_refl _) ?_, rfl, q _ (I.hok.fresh (Nat.le_refl _))⟩
  exact ⟨Nat.le_trans (cutV_length xs lo hi) hz, _, 0, (r.drop (HT.sIx xs.length 0 lo)).take (HT.sIx xs.length xs.length hi - HT.sIx xs.length 0 lo), Heap.get?_push_size _ rfl⟩
def flatV : V -> Bool
  | .non => true
  | .bl _ => true
  | .int _ => true
  | .str _ => true
  | _ => false
def eqV : V -> V -> Bool
  | .non, .non => true
  | .bl a, .bl b => a == b
  | .bl a, .int b => (if a then 1 else 0) == b
  | .int a, .bl b => a == (if b then 1 else 0)
  | .int a, .int b => a == b
  | .str a, .str b => a == b
  | _, _ => false
theorem eqAt_V {A : Around} {s : Shared} {y x : V} {u v : Value} (ry : RelV y u) (rx : RelV x v) (fy : flatV y = true) (fx : flatV x = true) : SeqAt.EqAt A s u v (eqV y x) := by
  cases y with
  | non =>
    cases ry
    cases x with
    | non => cases rx; exact SeqAt.EqAt.same _
    | bl b => cases rx; exact SeqAt.EqAt.none_bool b
    | int b => obtain ⟨t, rfl⟩ := rx; exact SeqAt.EqAt.none_int b t
    | str b => obtain ⟨t, rfl⟩ := rx; exact SeqAt.EqAt.none_str b t
    | _ => exact absurd (show false = true from fx) Bool.false_ne_true
  | bl a =>
    cases ry
    cases x with
    | non => cases rx; exact SeqAt.EqAt.bool_none a
    | bl b => cases rx; exact SeqAt.EqAt.bool_bool a b
    | int b => obtain ⟨t, rfl⟩ := rx; exact SeqAt.EqAt.bool_int a b t
    | str b => obtain ⟨t, rfl⟩ := rx; exact SeqAt.EqAt.bool_str a b t
    | _ => exact absurd (show false = true from fx) Bool.false_ne_true
  | int a =>
    obtain ⟨t', rfl⟩ := ry
    cases x with
    | non => cases rx; exact SeqAt.EqAt.int_none a t'
    | bl b => cases rx; exact SeqAt.EqAt.int_bool a t' b
    | int b => obtain ⟨t, rfl⟩ := rx; exact SeqAt.EqAt.int_int a t' b t
    | str b => obtain ⟨t, rfl⟩ := rx; exact SeqAt.EqAt.int_str a t' b t
    | _ => exact absurd (show false = true from fx) Bool.false_ne_true
  | str a =>
    obtain ⟨t', rfl⟩ := ry
    cases x with
    | non => cases rx; exact SeqAt.EqAt.str_none a t'
    | bl b => cases rx; exact SeqAt.EqAt.str_bool a t' b
    | int b => obtain ⟨t, rfl⟩ := rx; exact SeqAt.EqAt.str_int a t' b t
    | str b => obtain ⟨t, rfl⟩ := rx; exact SeqAt.EqAt.str_str a t' b t
    | _ => exact absurd (show false = true from fx) Bool.false_ne_true
  | _ => exact absurd (show false = true from fy) Bool.false_ne_true
def eqU (x : V) (u : Value) : Bool := match u with
  | .none => eqV .non x
  | .bool b => eqV (.bl b) x
  | .int i _ => eqV (.int i) x
  | .str z _ => eqV (.str z) x
  | _ => false
theorem eqU_of {x y : V} {u : Value} (r : RelV y u) (f : flatV y = true) : eqU x u = eqV y x := by
  cases y with
  | non => cases r; rfl
  | bl b => cases r; rfl
  | int i => obtain ⟨t, rfl⟩ := r; rfl
  | str z => obtain ⟨t, rfl⟩ := r; rfl
  | _ => exact absurd (show false = true from f) Bool.false_ne_true
theorem any_eqU {x : V} : ∀ {xs : List V} {us : List Value}, Vals xs us -> xs.all flatV = true -> us.any (eqU x) = xs.any fun y => eqV y x
  | _, _, .nil, _ => rfl
  | y :: xs, u :: us, .cons r t, f => by
    rw [List.all_cons, Bool.and_eq_true] at f
    rw [List.any_cons, List.any_cons, eqU_of r f.1, any_eqU t f.2]
theorem mem_eqAt {A : Around} {s : Shared} {x : V} {v : Value} (rx : RelV x v) (fx : flatV x = true) : ∀ {xs : List V} {us : List Value}, Vals xs us -> xs.all flatV = true -> ∀ u ∈ us, SeqAt.EqAt A s u v (eqU x u)
  | _, _, .nil, _ => fun u hu => by cases hu
  | y :: xs, u :: us, .cons r t, f => fun u' hu => by
    rw [List.all_cons, Bool.and_eq_true] at f
    rcases List.mem_cons.mp hu with rfl | hu
    . rw [eqU_of r f.1]; exact eqAt_V r rx f.1 fx
    . exact mem_eqAt rx fx t f.2 u' hu
def inV (x : V) (xs : List V) : Bool := xs.any fun y => eqV y x
def rIn (K : W.Frag) (neg : Bool) : R2 := fun x y H Q => ∃ p xs, y = .ref p /\ (SqL K H p xs \/ SqT K H p xs) /\ flatV x = true /\ xs.all flatV = true /\ Q (.bl (if neg then !inV x xs else inV x xs)) H
theorem op_notIn_seq : OpR X (compareOp .NotIn) (rIn X.K true) := by
  intro pins s σ H x y v u Q I rx ry h
  obtain ⟨p, xs, rfl, hq, fx, fs, q⟩ := h
  cases ry
  rcases hq with hq | hq
  . obtain ⟨its, r, pl, hz⟩ := I.list hq
    refine SeqAt.notIn_listAt (eqU x) pl.isList (fun w hw => mem_eqAt rx fx r fs w (by simpa using hw)) ⟨.bl _, H, I, rfl, ?_⟩
    rw [show its.toArray.any (eqU x) = its.any (eqU x) by simp, any_eqU r fs]
    exact q
  . obtain ⟨its, r, pl, hz⟩ := I.tuple hq
    refine SeqAt.notIn_tupleAt (eqU x) pl (fun w hw => mem_eqAt rx fx r fs w (by simpa using hw)) ⟨.bl _, H, I, rfl, ?_⟩
    rw [show its.toArray.any (eqU x) = its.any (eqU x) by simp, any_eqU r fs]
    exact q
theorem call_len_seq : CallR X (.builtin "len") (fun xs H Q => ∃ p ys, xs = [.ref p] /\ (SqL X.K H p ys \/ SqT X.K H p ys) /\ Q (.int ys.length) H) := by
  intro pins s σ H xs us Q I r h
  obtain ⟨p, ys, rfl, hq, q⟩ := h
  obtain ⟨u, rfl, rx⟩ := vals1 r
  cases rx
  have hn := line63
  rcases hq with hq | hq
  . obtain ⟨its, r', pl, hz⟩ := I.list hq
    have hlen := r'.length
    exact Calls.call_len_list pl.isList (by simp only [List.size_toArray] <;> omega) ⟨.int ys.length, H, I.tok _, ⟨s.toks + 1, by rw [List.size_toArray, hlen]⟩, q⟩
  . obtain ⟨its, r', pl, hz⟩ := I.tuple hq
    have hlen := r'.length
    exact len_tuple pl (by simp only [List.size_toArray] <;> omega) ⟨.int ys.length, H, I.tok _, ⟨s.toks + 1, by rw [List.size_toArray, hlen]⟩, q⟩
theorem call_list_of : CallR X (.type "list") (fun xs H Q => ∃ p ys, xs = [.ref p] /\ (SqL X.K H p ys \/ SqT X.K H p ys) /\ ∀ l, H l = none -> Q (.ref l) (upd H l (.lst ys))) := by
  intro pins s σ H xs us Q I r h
  obtain ⟨p, ys, rfl, hq, q⟩ := h
  obtain ⟨u, rfl, rx⟩ := vals1 r
  cases rx
  have fin : ∀ (its : List Value), Vals ys its -> ys.length <= sizeLine -> ∀ (h' : Heap) (c' : Nat), (∀ b o', s.heap.get? b = some o' -> h'.get? b = some o') →
      h'.get? s.heap.objs.size = some { cls := .type "list", dict := none, data := .seq its.toArray c', slots := #[] } -> EP X pins σ Q (.ref s.heap.objs.size) { s with heap := h' } := fun its r' hz h' c' kp e =>
    ⟨.ref s.heap.objs.size, _, I.laid (t' := s.toks) kp (Nat.le_refl _) (show ObjOk X.prog X.w _ h' _ (.lst ys) from ⟨hz, its, c', r', e⟩), rfl, q _ (I.hok.fresh (Nat.le_refl _))⟩
  rcases hq with hq | hq
  . obtain ⟨its, r', pl, hz⟩ := I.list hq
    have hlen := r'.length
    obtain ⟨o, ho, hc, n, hd⟩ := pl.isList
    exact call_list_seq p (.inl rfl) ho hc hd (fun h' c' kp e => fin its r' hz h' c' kp e) (by simp only [List.size_toArray] <;> omega)
  . obtain ⟨its, r', pl, hz⟩ := I.tuple hq
    have hlen := r'.length
    obtain ⟨o, ho, hc, n, hd⟩ := pl
    exact call_list_seq p (.inr rfl) ho hc hd (fun h' c' kp e => fin its r' hz h' c' kp e) (by simp only [List.size_toArray] <;> omega)
theorem call_tuple_of : CallR X (.type "tuple") (fun xs H Q => ∃ p ys, xs = [.ref p] /\ ((SqL X.K H p ys /\ ∀ l, H l = none -> Q (.ref l) (upd H l (.tup ys))) \/ (SqT X.K H p ys /\ Q (.ref p) H))) := by
  intro pins s σ H xs us Q I r h
  obtain ⟨p, ys, rfl, h⟩ := h
  obtain ⟨u, rfl, rx⟩ := vals1 r
  cases rx
  rcases h with ⟨hq, q⟩ | ⟨hq, q⟩
  . obtain ⟨its, r', pl, hz⟩ := I.list hq
    have hlen := r'.length
    refine call_tuple_list pl.isList (fun h' kp => ?_) (by simp only [List.size_toArray] <;> omega)
    have I1 : Inv X pins σ H { s with heap := h' } := I.kept (t' := s.toks) kp
    have I2 : Inv X pins σ (upd H h'.objs.size (.tup ys)) { s with heap := h'.push { cls := .type "tuple", data := .seq its.toArray } } :=
      I1.laid (t' := s.toks) (fun b o e => Heap.get?_push_of_some _ e) (Nat.le_refl _) (show ObjOk X.prog X.w _ _ _ (.tup ys) from ⟨hz, its, r', IsTup.new _ _⟩)
    exact ⟨.ref h'.objs.size, _, I2, rfl, q _ (I1.hok.fresh (Nat.le_refl _))⟩
  . obtain ⟨its, r', pl, hz⟩ := I.tuple hq
    exact call_tuple_same pl ⟨.ref p, H, I, rfl, q⟩
def tyV (K : W.Frag) (T : String) (x : V) (H : Hp) : Prop := match x with
  | .str _ => T = "str"
  | .int _ => T = "int"
  | .ref p => (T = "list" /\ ∃ xs, SqL K H p xs) \/ (T = "tuple" /\ ∃ o, K.lookup p = some o /\ o.cls = .type "tuple" /\ o.dict = none) ∨
      (T = "dict" /\ ((∃ kvs, H p = some (.dK kvs)) \/ ∃ kvs, H p = some (.dT kvs))) \/ (T = "set" /\ ∃ S n, H p = some (.set S n))
  | _ => False
theorem tyV_is {pins : List (Addr × Obj)} {σ : St} {H : Hp} {s : Shared} {T : String} {x : V} {v : Value} (I : Inv X pins σ H s) (r : RelV x v) (ty : tyV X.K T x H) :
    s.TypeIs v T /\ ∀ a, v = .ref a -> ∃ ob, s.heap.get? a = some ob /\ ob.dict = none := by
  cases x with
  | str z =>
    obtain ⟨t, rfl⟩ := r
    cases (show T = "str" from ty)
    exact ⟨typeIs_str s z t, fun _ e => nomatch e⟩
  | int i =>
    obtain ⟨t, rfl⟩ := r
    cases (show T = "int" from ty)
    exact ⟨typeIs_int s i t, fun _ e => nomatch e⟩
  | ref p =>
    cases r
    rcases ty with ⟨rfl, xs, hq⟩ | ⟨rfl, o, hk, hc, hd⟩ | ⟨rfl, hk⟩ | ⟨rfl, S, n, hk⟩
    . obtain ⟨its, _, pl, _⟩ := I.list hq
      refine ⟨pl.isList.typeIs, fun a e => ?_⟩
      cases e
      obtain ⟨o, n, e, c, hd, _⟩ := pl
      exact ⟨o, e, hd⟩
    . refine ⟨⟨o, I.kIn p o hk, hc⟩, fun a e => ?_⟩
      cases e
      exact ⟨o, I.kIn _ o hk, hd⟩
    . have z : ∃ o, s.heap.get? p = some o /\ o.ExactDict := by
        rcases hk with ⟨kvs, hk⟩ | ⟨kvs, hk⟩
        . obtain ⟨_, _, _, _, o, _, _, e, ex, _⟩ := I.hok p _ hk
          exact ⟨o, e, ex⟩
        . obtain ⟨_, _, _, _, o, _, _, e, ex, _⟩ := I.hok p _ hk
          exact ⟨o, e, ex⟩
      obtain ⟨o, e, ex⟩ := z
      refine ⟨⟨o, e, ex.1⟩, fun a e2 => ?_⟩
      cases e2
      exact ⟨o, e, ex.2.1⟩
    . obtain ⟨o, _, _, _, e, ex, _⟩ := I.hok p _ hk
      refine ⟨⟨o, e, ex.1⟩, fun a e2 => ?_⟩
      cases e2
      exact ⟨o, e, ex.2.1⟩
  | _ => exact False.elim ty
def tBM (K : W.Frag) (T : String) (r : V -> List V -> Hp -> VK -> Prop) (to : TE) (t : TA) : TE := fun σ H Q => to σ H fun x H1 => tyV K T x H1 /\ t σ H1 fun xs H2 => r x xs H2 Q
variable {o e : Expr} {es : List Expr} {to : TE} {t : TA} {name : Str} {apos cpos : Pos} {T id : String} {r : V -> List V -> Hp -> VK -> Prop}
theorem pe_bm (pa : PlainAttrs T) (slot : Slot T name id) (hty : typeOf (.builtin id) = pure (.type "method_descriptor")) (hm : MtR X id r) (ho : PE X o to) (ha : PA X (e :: es) t)
    (hbase : attributeBase o name X.env (eval o X.env) = eval o X.env := by rfl)
    (hfew : ((backTo cpos (starEach (e :: es) X.env)).all (fun x => !x.1) && (backToKw cpos (keywordEach [] X.env)).all (fun x => x.1.isSome)
      && decide ((e :: es).length + ([] : List Keyword).length + (if ([] : List Keyword).isEmpty then 0 else 1) < 30)) = true := by rfl)
    (hline : (apos.endLine == cpos.line) = true := by rfl) (hs : starEach (e :: es) X.env = (false, eval e X.env) :: starEach es X.env := by rfl) (hplain : (backTo cpos (starEach es X.env)).any (·.1) = false := by rfl) :
    PE X (.Call (.Attribute o name apos) (e :: es) [] cpos) (tBM X.K T r to t) := by
  intro pins s σ H Q I h
  refine wpAny_Call_method_late hbase hfew hline rfl (thn (ho pins s σ H _ I h) fun v s1 ⟨x, H1, I1, r1, ty, q1⟩ => ?_)
  obtain ⟨h1, h2⟩ := tyV_is I1 r1 ty
  refine ⟨T, id, pa, slot, hty, h1, h2, ?_⟩
  have hA := ha cpos pins s1 σ H1 _ I1 q1
  rw [hs] at hA ⊢
  refine Calls.callWith_builtin (by show (false || (backTo cpos (starEach es X.env)).any (·.1)) = false; rw [hplain] <;> rfl) (Calls.evalArgs_plain ?_)
  exact thn hA fun us s2 ⟨vs, H2, I2, r2, q2⟩ => hm pins s2 σ H2 x vs v us Q I2 r1 r2 q2
/- xs.append(e), list.index on a module's tuple .. are MtR facts of 06m -/
end
end L2
namespace L2
open PySem PySem.Spec PyProof.Rows
def MtM (X : Cx) (id : String) (r : V -> List V -> Hp -> VK -> Prop) : Prop :=
  ∀ (pins : List (Addr × Obj)) (s : Shared) (σ : St) (H : Hp) (x : V) (xs : List V) (v : Value) (us : List Value) (Q : VK), Inv X pins σ H s -> RelV x v -> Vals xs us -> r x xs H Q →
    wpAny (model X.prog X.w) X.A (call (.builtin id) (v :: us)) (EP X pins σ Q) X.xe s
theorem Vals.one : ∀ {x : V} {us : List Value}, Vals [x] us -> ∃ u, us = [u] /\ RelV x u
  | _, _, .cons r .nil => ⟨_, rfl, r⟩
theorem Vals.eraseIdx : ∀ {xs : List V} {us : List Value} (i : Nat), Vals xs us -> Vals (xs.eraseIdx i) (us.eraseIdx i)
  | _, _, _, .nil => .nil
  | _, _, 0, .cons _ t => t
  | _, _, i + 1, .cons r t => .cons r (Vals.eraseIdx i t)
theorem Vals.rep {xs : List V} {us : List Value} (h : Vals xs us) : ∀ k : Nat, Vals (List.replicate k xs).flatten (List.replicate k us).flatten
  | 0 => .nil
  | k + 1 => by
    rw [List.replicate_succ, List.replicate_succ, List.flatten_cons, List.flatten_cons]
    exact Vals.append h (Vals.rep h k)
theorem len_erase {α : Type} : ∀ (l : List α) (i : Nat), (l.eraseIdx i).length <= l.length
  | [], _ => Nat.le_refl _
  | _ :: _, 0 => Nat.le_succ _
  | _ :: r, i + 1 => Nat.succ_le_succ (len_erase r i)
theorem foldl_rep (its : List Value) : ∀ (k : Nat) (acc : List Value),
    List.foldl (fun x1 x2 => x1 ++ x2) acc.toArray (List.replicate k its.toArray) = (acc ++ (List.replicate k its).flatten).toArray
  | 0, acc => by simp
  | k + 1, acc => by
    have e : acc.toArray ++ its.toArray = (acc ++ its).toArray := by simp
    have e2 : (acc ++ its) ++ (List.replicate k its).flatten = acc ++ (List.replicate (k + 1) its).flatten := by
      rw [List.replicate_succ, List.flatten_cons, List.append_assoc]
    rw [<- e2, <- foldl_rep its k (acc ++ its), <- e, List.replicate_succ, List.foldl_cons]
section
variable {X : Cx} {pins : List (Addr × Obj)} {σ : St} {H : Hp} {s : Shared} {l b : Addr} {xs ys zs : List V}
theorem Inv.lset {its its' : List Value} {n : Nat} {f : Array Value -> Array Value} {t' : Nat} (I : Inv X pins σ H s) (hH : H l = some (.lst xs))
    (e : s.heap.get? l = some { cls := .type "list", data := .seq its.toArray n }) (hf : f its.toArray = its'.toArray) (hv : Vals ys its') (hz : ys.length <= sizeLine) :
    Inv X pins σ (upd H l (.lst ys)) { s with heap := s.heap.update l (Obj.mapSeq f), toks := t' } := by
  have q := PySem.IsL.update e f
  rw [hf] at q
  refine I.write (x := l) (e := l) (by rw [hH]; exact trivial) (.inl rfl) (fun b' u hb hu => (Heap.get?_update_other s.heap (Obj.mapSeq f) (Ne.symm hb)).trans hu) ⟨_, q⟩ ?_
  exact ⟨hz, its', _, hv, q⟩
theorem Inv.lnew {its : List Value} {t' : Nat} (I : Inv X pins σ H s) (hv : Vals ys its) (hz : ys.length <= sizeLine) :
    Inv X pins σ (upd H s.heap.objs.size (.lst ys)) { s with heap := s.heap.push { cls := .type "list", data := .seq its.toArray }, toks := t' } :=
  I.laid (fun _ _ q => Heap.get?_push_of_some _ q) (Nat.le_refl _) ⟨hz, its, 0, hv, Heap.get?_push_size _ rfl⟩
theorem Inv.fresh (I : Inv X pins σ H s) : H s.heap.objs.size = none := I.hok.fresh (Nat.le_refl _)
theorem Inv.lstM (I : Inv X pins σ H s) (hH : H l = some (.lst xs)) : xs.length <= sizeLine /\ ∃ (its : List Value) (n : Nat), Vals xs its /\ xs.length = its.length /\ s.heap.get? l = some { cls := .type "list", data := .seq its.toArray n } := by
  obtain ⟨z, its, n, r, e⟩ := I.hok l _ hH
  exact ⟨z, its, n, r, r.length, e⟩
theorem notLongL {n : Nat} (h : n <= sizeLine) : Builtin.List.listTooLong n = false := by
  unfold Builtin.List.listTooLong
  exact decide_eq_false (by omega)
end
section
variable {X : Cx}
def rAppend : V -> List V -> Hp -> VK -> Prop := fun x vs H Q => ∃ l xs y, x = .ref l /\ vs = [y] /\ H l = some (.lst xs) /\ xs.length < sizeLine /\ Q .non (upd H l (.lst (xs ++ [y])))
theorem mt_append : MtM X "list.append" rAppend := by
  intro pins s σ H x vs v us Q I rx rv h
  obtain ⟨l, xs, y, rfl, rfl, hH, hz, q⟩ := h
  cases rx
  obtain ⟨u, rfl, ru⟩ := rv.one
  obtain ⟨z, its, n, r, hl, e⟩ := I.lstM hH
  refine call_meets F.slot_list_append ⟨_, e, rfl⟩ F.entry_list_append (F.args_list_append_2 _ _) (PySem.list_append l its.toArray n u (by rw [List.size_toArray]; omega)) ⟨e, ?_⟩
  refine ⟨.non, _, I.lset (its' := its ++ [u]) hH e (by simp) (r.append (.cons ru .nil)) ?_, rfl, q⟩
  rw [List.length_append, List.length_singleton]
  omega
def rPopAt : V -> List V -> Hp -> VK -> Prop := fun x vs H Q => ∃ l xs i k y, x = .ref l /\ vs = [.int i] /\ H l = some (.lst xs) /\ -(2 ^ 63) <= i /\ i < 2 ^ 63 /\ seqIndex? i xs.length = some k /\ xs[k]? = some y /\ Q y (upd H l (.lst (xs.eraseIdx k)))
theorem mt_popAt : MtM X "list.pop" rPopAt := by
  intro pins s σ H x vs v us Q I rx rv h
  obtain ⟨l, xs, i, k, y, rfl, rfl, hH, h1, h2, hk, hy, q⟩ := h
  cases rx
  obtain ⟨u, rfl, ru⟩ := rv.one
  obtain ⟨t, rfl⟩ := ru
  obtain ⟨z, its, n, r, hl, e⟩ := I.lstM hH
  obtain ⟨w, hw, rw'⟩ := r.get hy
  refine call_meets F.slot_list_pop ⟨_, e, rfl⟩ F.entry_list_pop (F.args_list_pop_2 _ _)
    (MeetsSeq.list_pop_at l its.toArray n i t k w (fitsIndex_both h1 h2) (by rw [List.size_toArray, <- hl]; exact hk) (by rw [<- Array.getElem?_toList]; exact hw) (by rw [List.size_toArray]; omega)) ⟨e, ?_⟩
  refine ⟨y, _, I.lset (its' := its.eraseIdx k) hH e ?_ (r.eraseIdx k) ?_, rw', q⟩
  . show its.toArray.eraseIdxIfInBounds k = (its.eraseIdx k).toArray
    rw [List.eraseIdxIfInBounds_toArray]
  . have := len_erase xs k
    omega
def rCat : R2 := fun x y H Q => ∃ l b xs zs, x = .ref l /\ y = .ref b /\ H l = some (.lst xs) /\ H b = some (.lst zs) /\ xs.length + zs.length <= sizeLine /\ ∀ p, H p = none -> Q (.ref p) (upd H p (.lst (xs ++ zs)))
theorem op_cat : OpR X (binaryOp .Add) rCat := by
  intro pins s σ H x y v u Q I rx ry h
  obtain ⟨l, b, xs, zs, rfl, rfl, hH, hB, hz, q⟩ := h
  cases rx
  cases ry
  obtain ⟨z, its, n, r, hl, e⟩ := I.lstM hH
  obtain ⟨z2, its2, n2, r2, hl2, e2⟩ := I.lstM hB
  refine PySem.P.add_list e e2 ?_ (by rw [List.size_toArray, List.size_toArray]; omega)
  have ea : its.toArray ++ its2.toArray = (its ++ its2).toArray := by simp
  rw [ea]
  exact ⟨.ref _, _, I.lnew (t' := s.toks) (r.append r2) (by rw [List.length_append]; omega), rfl, q _ I.fresh⟩
def rRep : R2 := fun x y H Q => ∃ l k xs, x = .ref l /\ y = .int k /\ H l = some (.lst xs) /\ -(2 ^ 63) <= k /\ k < 2 ^ 63 /\ xs.length * k.toNat <= sizeLine ∧
  ∀ p, H p = none -> Q (.ref p) (upd H p (.lst (List.replicate k.toNat xs).flatten))
theorem len_rep {α : Type} (xs : List α) (k : Nat) : (List.replicate k xs).flatten.length = k * xs.length := by
  induction k with
  | zero => simp
  | succ k ih => rw [List.replicate_succ, List.flatten_cons, List.length_append, ih, Nat.succ_mul, Nat.add_comm]
theorem op_rep : OpR X (binaryOp .Mult) rRep := by
  intro pins s σ H x y v u Q I rx ry h
  obtain ⟨l, k, xs, rfl, rfl, hH, h1, h2, hz, q⟩ := h
  cases rx
  obtain ⟨t, rfl⟩ := ry
  obtain ⟨z, its, n, r, hl, e⟩ := I.lstM hH
  have hlen : its.toArray.size * k.toNat <= sizeLine := by rw [List.size_toArray, <- hl]; exact hz
  have hcap : ¬ its.toArray.size * k.toNat > (2 ^ 63 - 1) / 8 := by
    have : (sizeLine : Nat) <= (2 ^ 63 - 1) / 8 := by decide
    omega
  have hfit : ¬ (!Builtin.List.listFitsIndex k) = true := by
    rw [fitsIndex_both h1 h2]
    exact Bool.false_ne_true
  have hlong : ¬ Builtin.List.listTooLong (its.toArray.size * k.toNat) = true := by
    rw [notLongL hlen]
    exact Bool.false_ne_true
  have hnew : List.foldl (fun x1 x2 => x1 ++ x2) #[] (List.replicate (if its.toArray.isEmpty = true then 0 else k.toNat) its.toArray) = (List.replicate k.toNat its).flatten.toArray := by
    have f0 : ∀ m : Nat, List.foldl (fun x1 x2 => x1 ++ x2) #[] (List.replicate m its.toArray) = (List.replicate m its).flatten.toArray := fun m => by
      have := foldl_rep its m []
      rw [List.nil_append] at this
      exact this
    rw [f0]
    cases its with
    | nil => simp
    | cons a r' => rw [if_neg (by simp)]
  refine wpAny_binaryOp_repeat_ref (T := "list") (U := "int") (by decide) ⟨_, e, rfl⟩ (fun s' => typeIs_int s' k t) noFill_list_mul F.fills_int_mul F.slot_int_rmul repeat_list F.slot_int_index.lookup
    (call_meets F.slot_int_rmul (typeIs_int s k t) F.entry_int_rmul (F.args_int_rmul_2 _ _) (int___rmul___int_list k t l its.toArray n)
      ⟨e, rfl, ⟨_, e, rfl⟩, call_meets F.slot_list_mul ⟨_, e, rfl⟩ F.entry_list_mul (F.args_list_mul_2 _ _) (AutoListH.list___mul___list_int_3 l its.toArray n k t hfit hcap hlong) ⟨e, ?_⟩⟩)
  rw [hnew]
  exact ⟨.ref _, _, I.lnew (t' := s.toks) (r.rep k.toNat) (by rw [len_rep, Nat.mul_comm]; exact hz), rfl, q _ I.fresh⟩
end
section
variable {prog : Program} {w : World} {A : Around} {E : Value -> Shared -> Prop} {s : Shared}
end
section
variable {X : Cx}
end
end L2
namespace Att
open PySem PySem.W PySem.Calls PyProof.Rows
theorem ints_of_wellAll {P : Params} {h : Heap} : ∀ (ns : List Int) (vs : List Value), WellAll P h vs (ns.map WData.int) -> IntsAre vs ns := by
  intro ns
  induction ns with
  | nil =>
    intro vs w
    rw [List.map_nil] at w
    cases w
    exact .nil
  | cons n ns ih =>
    intro vs w
    rw [List.map_cons] at w
    cases w with
    | cons a b =>
      cases a
      exact .cons _ _ (ih _ b)
theorem script_of {l : OpenLaw} {n : Nat} (hn : l.most = some n) {P : Params} {h : Heap} {args : List WData} {vals : List Value}
    (hpre : l.row.toRowW.claim.pre args = true) (hwl : WellAll P h vals args) :
    ∃ a vs ns, vals = [Value.ref a] /\ args = [WData.list (ns.map WData.int)] /\ h.get? a = some { cls := .type "list", data := .seq vs.toArray } /\ IntsAre vs ns /\ ns.length <= n := by
  have hsh : WShape.hasAll [] args [.list .int] = true := (pre_splitW hpre).1
  have hc : l.pre.holds [] { args := args } = true := (pre_splitW hpre).2
  obtain ⟨d, r, rfl, h1, h2⟩ := hasAllW_cons hsh
  obtain rfl := hasAllW_nil h2
  obtain ⟨xs, rfl, h3⟩ := hasW_list h1
  obtain ⟨ns, rfl⟩ := items_int h3
  have hlen : ns.length <= n := by
    unfold OpenLaw.pre at hc
    have h4 : (WTm.not (.lt (.lit (.int (n : Int))) (.len (.arg 0)))).holds [] { args := [.list (ns.map .int)] } = true := by
      have h4 := (holds_andW hc).1
      rw [hn] at h4
      exact h4
    have h5 := condW_of h4 (w_not (w_lt w_lit (w_len_list (w_arg rfl))))
    rw [List.length_map] at h5
    refine Nat.le_of_not_lt fun q => ?_
    have q' : (n : Int) < ((ns.length : Nat) : Int) := by omega
    first
      | (rw [decide_eq_true q'] at h5; exact absurd h5 (by decide))
      | (simp at h5; omega)
  cases hwl with
  | cons w1 w2 =>
    cases w2
    cases w1 with
    | list ho hall => exact ⟨_, _, ns, rfl, rfl, ho, ints_of_wellAll ns _ hall, hlen⟩
theorem post_true (l : OpenLaw) (args : List WData) : l.row.toRowW.claim.post args (.bool true) args = true :=
  postW_of (r := l.row.toRowW) (X := (true == true))
    (show WShape.has [] (.bool true) .bool = true by first | rfl | decide | simp [WShape.has, WShape.arms, WShape.armsAll])
    (show (WTm.eq .res (.lit (.bool true))).value [] { args := args, res := some (.bool true), after := args } = some (.bool (true == true)) from w_eq_bool (w_res rfl) w_lit) rfl
theorem attach_call {l : OpenLaw} {n : Nat} {q : Program} {loose : List Str} {XP : (Str -> Option Value) -> Heap -> Prop} {YP : World -> Heap -> Prop} {d : DefRec}
    (hn : l.most = some n) (hdf : d.params.defaults = [])
    (call : ∀ (w : World) (s₀ s₁ : Shared) (mg mb : Str -> Option Value) (fa : Addr) (o : Obj) (pm cd doc : Value) (a : Addr) (vs : List Value) (ns : List Int),
      Ground q loose [] XP w s₀ mg mb s₁.heap -> YP w s₁.heap →
      s₁.heap.get? fa = some o -> o.data = .func (docDef d.name d.params d.body d.scope pm cd doc) -> s₁.heap.CodeRec cd d.name -> mg d.name = some (.ref fa) →
      s₁.heap.get? a = some { cls := .type "list", data := .seq vs.toArray } -> IntsAre vs ns -> ns.length <= n -> s₁.gens = #[] →
      codeAny (model l.prog w) callerA (.call (.ref fa) ⟨[.ref a], []⟩) (fun r s' => r = .ok (.ret (.bool true)) /\ OldK s₁.heap s'.heap /\ s'.os = s₁.os /\ AllBare s'.gens) s₁) :
    WalkO q loose XP YP l.row.toRowW d [] (fun f vs => PySem.call f vs) := by
  intro w s₀ s₁ mg mb G Y fa o pm cd doc dV kV ho hd hcd hD hmg hg args vals as hpre hlay hrd hwl hlo
  obtain rfl : dV = .none := Dflts.none hD hdf
  obtain rfl : kV = .none := Dflts.noKw hD
  obtain ⟨a, vs, ns, rfl, rfl, hobj, hints, hlen⟩ := script_of hn hpre hwl
  refine enter_call (codeAny_mono (call w s₀ s₁ mg mb fa o pm cd doc a vs ns G Y ho (fd_plain hd) hcd hmg hobj hints hlen hg) fun r s' hq => ?_)
  obtain ⟨rfl, h2, h3, h4⟩ := hq
  exact ⟨.inl ⟨.bool true, .bool true, [], rfl, fun _ => rfl, .bool true, post_true l _, fun _ => ⟨List.Pairwise.nil, fun _ hm => (nomatch hm)⟩⟩, h2, h3, h4⟩
section
variable {prog : Program} {w : World} {A : Around} {E : Value -> Shared -> Prop} {s : Shared} {K : Frag}
end
end Att
namespace L2
open PySem PySem.Spec PyProof.Rows
theorem vals_ints : ∀ {vs : List Value} {ns : List Int}, IntsAre vs ns -> Vals (ns.map V.int) vs
  | _, _, .nil => .nil
  | _, _, .cons n t h => .cons ⟨t, rfl⟩ (vals_ints h)
def Only (H : Hp) : Prop := ∀ b, H b = none \/ ∃ o xs, H b = some (.frz o (.lst xs))
theorem law_call {P : Program} {w : World} {K : W.Frag} {mg mb : Str -> Option Value} {CX : CXT} {k : Nat} {fa a : Addr} {fd : FuncData} {x : Str} {sp : Sp} {s₁ : Shared} {vs : List Value} {ns : List Int}
    (KX : K.In s₁.heap) (hns : s₁.heap.Ns mainGlobals mg) (hb : s₁.heap.Ns builtinsNs mb) (hbb : ∀ x : Str, x ≠ "__name__" -> mb x = bootBuiltins x) (hlim : s₁.heap.NoLimit) (hg : s₁.gens = #[])
    (ha : s₁.heap.get? a = some { cls := .type "list", data := .seq vs.toArray }) (hi : IntsAre vs ns) (hl : ns.length <= sizeLine) (hr : Room k callerA)
    (F : ∀ base : Heap, K.In base -> base.Ns mainGlobals mg -> FnOk P w K mg base CX k fa fd [x] sp) (hbind : ∀ (s : Shared) (u : Value), BindsTo s fd ⟨[u], []⟩ [(x, u)])
    (hsp : ∀ H : Hp, Only H -> SqL K H a (ns.map V.int) -> sp [.ref a] H (fun v _ => v = .bl true) fun _ _ _ => False)
    (hCX : ∀ H e s', CX [] H s₁ (fun _ _ _ => False) e s' -> False) :
    codeAny (model P w) callerA (.call (.ref fa) ⟨[.ref a], []⟩) (fun r s' => r = .ok (.ret (.bool true)) /\ OldK s₁.heap s'.heap /\ s'.os = s₁.os /\ AllBare s'.gens) s₁ := by
  have rv := vals_ints hi
  have lenV := hi.length
  -- from an abstract heap in which nothing but the script may be tracked
  have core : ∀ H : Hp, Only H -> SqL K H a (ns.map V.int) -> HOk P w H s₁.heap -> (∀ b, H b ≠ none -> b = a) -> (H a ≠ none -> K.lookup a = none) →
      codeAny (model P w) callerA (.call (.ref fa) ⟨[.ref a], []⟩) (fun r s' => r = .ok (.ret (.bool true)) /\ OldK s₁.heap s'.heap /\ s'.os = s₁.os /\ AllBare s'.gens) s₁ := by
    intro H hO hS hok hA hK
    have base_of : ∀ {b : Addr} {o : Obj}, s₁.heap.get? b = some o -> H b = none -> (hidT s₁.heap H).get? b = some o := fun e n => hidT_get e n
    have noA : ∀ {b : Addr} {o : Obj} {es : Array DictEntry} {ep : Nat}, s₁.heap.get? b = some o -> o.data = .dict es ep -> H b = none := fun {b o es ep} e d => by
      cases q : H b with
      | none => rfl
      | some u =>
        have e' : b = a := hA b (by rw [q]; simp)
        subst e'
        rw [ha] at e; cases e
        have d' : Data.seq vs.toArray _ = Data.dict es ep := d
        cases d'
    have nsK : ∀ {b : Addr} {m : Str -> Option Value}, s₁.heap.Ns b m -> (hidT s₁.heap H).Ns b m := fun {b m} ⟨o, es, ep, e, d, r⟩ => ⟨o, es, ep, base_of e (noA e d), d, r⟩
    have hKb : K.In (hidT s₁.heap H) := fun b o e => base_of (KX b o e) (by
      cases q : H b with
      | none => rfl
      | some u =>
        have e' : b = a := hA b (by rw [q]; simp)
        subst e'
        rw [hK (by rw [q]; simp)] at e; cases e)
    have hM : Mod K mg (hidT s₁.heap H) := ⟨hKb, nsK hns, ⟨mb, nsK hb, hbb⟩, let ⟨mc, h1, h2⟩ := hlim; ⟨mc, nsK h1, h2⟩⟩
    have e0 : Env0 P w K mg (hidT s₁.heap H) callerA [] s₁ H := ⟨rfl, hM, fun b o e => of_hidT e, Nat.le_of_eq (hidT_size _ _), trivial, fun b hb => absurd (show b ∈ ([] : List Addr) from hb) (by simp), hok, .of_eq hg⟩
    refine codeAny_mono ((F _ hKb (nsK hns)).run callerA [] s₁ H ⟨[.ref a], []⟩ [.ref a] [.ref a] _ _ hr e0 (hbind s₁ (.ref a)) (.cons rfl .nil) (hsp H hO hS)) fun r s' h => ?_
    cases r with
    | error e => exact (hCX H e s' h).elim
    | ok fl =>
      cases fl with
      | next => exact False.elim h
      | brk => exact False.elim h
      | cont => exact False.elim h
      | ret u =>
        obtain ⟨v, H', os, bare, un, hok', r', q⟩ := h
        have q' : v = .bl true := q
        subst q'
        obtain rfl : u = Value.bool true := r'
        refine ⟨rfl, OldK.of_keep fun b o e => ?_, os, bare⟩
        cases q : H b with
        | none => exact un.keep b o e q (by intro z; exact absurd (show b ∈ ([] : List Addr) from z) (by simp)) (by simp)
        | some u =>
          rcases hO b with z | ⟨ob, xs, z⟩
          . rw [q] at z; cases z
          . have z2 := un.frzs b ob _ z
            obtain ⟨e1, _⟩ := hok b _ z
            obtain ⟨e2, _⟩ := hok' b _ z2
            rw [e] at e1; cases e1
            exact e2
  cases hk : K.lookup a with
  | some o =>
    -- the script is one of the module's own objects
    have e := KX a o hk
    rw [ha] at e
    cases e
    refine core (fun _ => none) (fun _ => .inl rfl) (.inr ⟨_, vs.toArray, _, hk, rfl, rfl, rfl, by rw [List.size_toArray, lenV]; exact hl, by simpa using rv⟩) (fun b u z => by have z' : (none : Option HO) = some u := z; cases z') (fun b z => absurd rfl z) fun z => absurd rfl z
  | none =>
    refine core (fun b => if b = a then some (.frz { cls := .type "list", data := .seq vs.toArray } (.lst (ns.map V.int))) else none) (fun b => ?_) (.inl (.inr ⟨{ cls := .type "list", data := .seq vs.toArray }, if_pos rfl⟩)) (fun b u z => ?_) (fun b z => ?_) fun _ => hk
    . by_cases hb : b = a
      . exact .inr ⟨_, _, if_pos hb⟩
      . exact .inl (if_neg hb)
    . by_cases hb : b = a
      . have z' := (if_pos hb).symm.trans z
        cases z'
        subst hb
        exact ⟨ha, by rw [List.length_map]; exact hl, vs, _, rv, ha⟩
      . have z' := (if_neg hb).symm.trans z
        cases z'
    . by_cases hb : b = a
      . exact hb
      . exact absurd (if_neg hb) z
end L2
namespace L2
open PySem PySem.Spec PyProof.Rows
theorem walk_of {l : W.OpenLaw} {n k : Nat} {q : Program} {loose : List Str} {XP : (Str -> Option Value) -> Heap -> Prop} {YP : World -> Heap -> Prop} {d : DefRec} {K : Params -> W.Frag} {CX : World -> CXT} {sp : World -> Sp} {x : Str}
    (hn : l.most = some n) (hn2 : n <= sizeLine) (hdf : d.params.defaults = []) (hr : Room k callerA)
    (hY : ∀ (w : World) (h : Heap), YP w h -> (K w.params).In h)
    (F : ∀ (w : World) (mg : Str -> Option Value) (fa : Addr) (h : Heap), (K w.params).In h -> h.Ns mainGlobals mg -> mg d.name = some (.ref fa) →
      ∃ fd : FuncData, (∀ (s : Shared) (u : Value), BindsTo s fd ⟨[u], []⟩ [(x, u)]) ∧
        ∀ base : Heap, (K w.params).In base -> base.Ns mainGlobals mg -> FnOk l.prog w (K w.params) mg base (CX w) k fa fd [x] (sp w))
    (hsp : ∀ (w : World) (H : Hp) (a : Addr) (ns : List Int), ns.length <= n -> Only H -> SqL (K w.params) H a (ns.map V.int) -> sp w [.ref a] H (fun v _ => v = .bl true) fun _ _ _ => False)
    (hCX : ∀ (w : World) (H : Hp) (s : Shared) (e : Value) (s' : Shared), CX w [] H s (fun _ _ _ => False) e s' -> False) :
    W.WalkO q loose XP YP l.row.toRowW d [] (fun f vs => PySem.call f vs) := by
  refine Att.attach_call hn hdf fun w s₀ s₁ mg mb fa o pm cd doc a vs ns G Y ho hd hcd hmg hobj hints hlen hg => ?_
  have KX := hY w _ Y
  obtain ⟨fd, hb, hF⟩ := F w mg fa _ KX G.T.g hmg
  exact law_call KX G.T.g G.T.b G.T.builtins G.T.nolimit hg hobj hints (Nat.le_trans hlen hn2) hr hF hb (fun H hO hS => hsp w H a ns hlen hO hS) fun H e s' => hCX w H s₁ e s'
end L2
namespace L2
open PySem PySem.Spec PyProof.Rows
def defArgs (s : Stmt) : Arguments := match s with
  | .FunctionDef _ a _ _ _ _ _ _ _ _ => a
  | _ => { posonlyargs := [], args := [], vararg := none, kwonlyargs := [], kw_defaults := [], kwarg := none, defaults := [] }
def defBody (s : Stmt) : List Stmt := match s with
  | .FunctionDef _ _ b _ _ _ _ _ _ _ => b
  | _ => []
def defScope (s : Stmt) : Scope := match s with
  | .FunctionDef _ _ _ _ _ _ sc _ _ _ => sc
  | _ => { kind := .function, names := [], isGenerator := false, isCoroutine := false }
abbrev CX0 : CXT := fun _ _ _ _ _ _ => False
abbrev E0 : XK := fun _ _ _ => False
theorem pass0 {X : Cx} : Passes CX0 X E0 := fun _ _ _ _ _ _ _ h => h.elim
structure Fun (K : W.Frag) (x qual : Str) (st : Stmt) (f : Addr) (fd : FuncData) : Prop where
  ex : ∃ (oc : Value) (od : Option Addr) (kV doc pm : Value) (an : Option Addr) (cdv ct : Value) (osl : Array (Option Value)),
    fd = W.fnOf x qual (defArgs st) (defBody st) (defScope st) .none kV doc pm an cdv ct /\ K.lookup f = some ⟨oc, od, .func fd, osl⟩ /\ W.codeIn K cdv qual = true
  kp : W.keepIn K (.ref f) = true
section
variable {P : Program} {w : World} {K : W.Frag} {mg : Str -> Option Value} {base : Heap}
theorem Fun.ok {x qual : Str} {st : Stmt} {f : Addr} {fd : FuncData} {N ps : List Str} {k : Nat} {sp : Sp} (F : Fun K x qual st f fd) (S : FnScope N ps (defScope st)) (len : ∀ vs H Q E, sp vs H Q E -> vs.length = ps.length)
    (hbody : ∀ (cdv : Value) (A : Around) (outer : List Env) (s : Shared) (H : Hp) (vs : List V) (Q : VK) (E : XK), Room k (A.deeper (envOfC qual (defScope st) s.heap.objs.size f cdv)) -> sp vs H Q E →
      ∃ t, PSs (cxOf CX0 P w K mg base N qual (defScope st) f cdv A outer s H E).nox (defBody st) t /\ t { nx := fun _ H' => Q .non H', rt := Q } (start N vs) H) : FnOk P w K mg base CX0 (k + 1) f fd ps sp := by
  obtain ⟨oc, od, kV, doc, pm, an, cdv, ct, osl, rfl, lk, hcd⟩ := F.ex
  refine fn_of lk hcd S len fun A outer s H vs Q E hr hsp => ?_
  obtain ⟨t, h, q⟩ := hbody cdv A outer s H vs Q E hr hsp
  exact ⟨t, h.nox, q⟩
theorem Fun.binds {x qual : Str} {st : Stmt} {f : Addr} {fd : FuncData} {ps : List Str} (F : Fun K x qual st f fd)
    (h : ∀ (kV doc pm : Value) (an : Option Addr) (cdv ct : Value) (us : List Value), us.length = ps.length -> bindArgs (W.fnOf x qual (defArgs st) (defBody st) (defScope st) .none kV doc pm an cdv ct) ⟨us, []⟩ = pure (ps.zip us)) : Binds K fd ps [] := by
  obtain ⟨oc, od, kV, doc, pm, an, cdv, ct, osl, rfl, lk, hcd⟩ := F.ex
  exact .all (h kV doc pm an cdv ct)
theorem fun_mk {x qual : Str} {st : Stmt} {f : Addr} {oc : Value} {od an : Option Addr} {osl : Array (Option Value)} {kV doc pm cdv ct : Value} (l : K.lookup f = some ⟨oc, od, .func (W.fnOf x qual (defArgs st) (defBody st) (defScope st) .none kV doc pm an cdv ct), osl⟩)
    (c : W.codeIn K cdv qual = true) (k : W.keepIn K (.ref f) = true) : Fun K x qual st f (W.fnOf x qual (defArgs st) (defBody st) (defScope st) .none kV doc pm an cdv ct) := ⟨⟨oc, od, kV, doc, pm, an, cdv, ct, osl, rfl, l, c⟩, k⟩
end
theorem small1000 {n : Nat} (h : n <= 1000) : n < sizeLine := Nat.lt_of_le_of_lt h (by decide)
section
variable {X : Cx}
theorem pv (i : Nat) {x : Str} {pos : Pos} (hN : X.N[i]? = some x := by rfl) (hv : Vis X.env.scope x := by first | exact Or.inl rfl | exact Or.inr (Or.inl rfl) | exact Or.inr (Or.inr rfl)) (hd : (x == ("__debug__" : Str)) = false := by decide)
    (hcd : (x == ("__classdict__" : Str)) = false := by decide) : PE X (.Name x pos) (tVar i) := pe_var hN hv hd hcd
end
theorem iteF {A B : Prop} (h : B) : if false = true then A else B := by
  rw [if_neg Bool.false_ne_true]
  exact h
theorem iteT {A B : Prop} (h : A) : if true = true then A else B := by
  rw [if_pos rfl]
  exact h
theorem ite2 {c A B : Prop} [Decidable c] (h1 : c -> A) (h2 : ¬ c -> B) : if c then A else B := by
  by_cases h : c
  . rw [if_pos h]
    exact h1 h
  . rw [if_neg h]
    exact h2 h
def Same (H H' : Hp) : Prop := ∀ b o, H b = some o -> H' b = some o
theorem Same.refl (H : Hp) : Same H H := fun _ _ h => h
theorem Same.trans {H H1 H2 : Hp} (a : Same H H1) (b : Same H1 H2) : Same H H2 := fun c o h => b c o (a c o h)
theorem Same.free {H H' : Hp} (e : Same H H') {l : Addr} (h : H' l = Option.none) : H l = Option.none := by
  cases q : H l with
  | none => rfl
  | some o =>
    rw [e l o q] at h
    cases h
theorem Same.seq {K : W.Frag} {H H' : Hp} {a : Addr} {xs : List V} (e : Same H H') (h : SqL K H a xs) : SqL K H' a xs := by
  rcases h with (h | ⟨o, h⟩) | h
  . exact .inl (.inl (e _ _ h))
  . exact .inl (.inr ⟨o, e _ _ h⟩)
  . exact .inr h
end L2
namespace L2
open PySem PySem.Spec PyProof.Rows
def clo (env : Env) : List (Str × NameKind) -> List (Str × Addr) -> List (Str × Addr)
  | [], cs => cs
  | (n, k) :: r, cs => if k == .free then (match env.cells.lookup n with | some a => clo env r ((n, a) :: cs) | none => clo env r cs) else clo env r cs
theorem closureFor_clo {scope : Scope} {env : Env} (h : ∀ n, (n, NameKind.free) ∈ scope.names -> ∃ c, env.cells.lookup n = some c) : closureFor scope env = pure (clo env scope.names []) := by
  simp only [closureFor]
  generalize ([] : List (Str × Addr)) = cs
  revert h
  generalize scope.names = l
  intro h
  induction l generalizing cs with
  | nil => rfl
  | cons x r ih =>
    obtain ⟨n, k⟩ := x
    have hr : ∀ n, (n, NameKind.free) ∈ r -> ∃ c, env.cells.lookup n = some c := fun n hn => h n (List.mem_cons_of_mem _ hn)
    by_cases hk : k = .free
    . subst hk
      obtain ⟨c, hc⟩ := h n List.mem_cons_self
      have q := ih ((n, c) :: cs) hr
      simp only [List.forIn_cons, clo, hc, beq_self_eq_true, if_true, cellOf]
      exact q
    . have hb : (k == NameKind.free) = false := by simpa using hk
      have q := ih cs hr
      simp only [List.forIn_cons, clo, hb, Bool.false_eq_true, if_false]
      exact q
theorem clo_sub {env : Env} {x : Str} {c : Addr} : ∀ {l : List (Str × NameKind)} {cs : List (Str × Addr)}, (∀ x c, cs.lookup x = some c -> env.cells.lookup x = some c) -> (clo env l cs).lookup x = some c -> env.cells.lookup x = some c
  | [], _, h, e => h x c e
  | (n, k) :: r, cs, h, e => by
    unfold clo at e
    by_cases hk : (k == NameKind.free) = true
    . rw [if_pos hk] at e
      cases q : env.cells.lookup n with
      | none => rw [q] at e; exact clo_sub h e
      | some a =>
        rw [q] at e
        refine clo_sub (cs := (n, a) :: cs) (fun y d z => ?_) e
        rw [List.lookup_cons] at z
        cases hy : y == n with
        | true =>
          rw [hy] at z
          have : y = n := by simpa using hy
          subst this
          rw [q]; exact z
        | false => rw [hy] at z; exact h y d z
    . rw [if_neg hk] at e
      exact clo_sub h e
theorem clo_mem {env : Env} {x : Str} {c : Addr} : ∀ {l : List (Str × NameKind)} {cs : List (Str × Addr)}, (x, c) ∈ clo env l cs -> (env.cells.lookup x = some c /\ (x, NameKind.free) ∈ l) \/ (x, c) ∈ cs
  | [], _, e => .inr e
  | (n, k) :: r, cs, e => by
    unfold clo at e
    by_cases hk : (k == NameKind.free) = true
    . rw [if_pos hk] at e
      have hk' : k = .free := by simpa using hk
      cases q : env.cells.lookup n with
      | none =>
        rw [q] at e
        exact (clo_mem e).imp (fun z => ⟨z.1, List.mem_cons_of_mem _ z.2⟩) id
      | some a =>
        rw [q] at e
        rcases clo_mem (cs := (n, a) :: cs) e with z | z
        . exact .inl ⟨z.1, List.mem_cons_of_mem _ z.2⟩
        . rcases List.mem_cons.mp z with z | z
          . cases z
            exact .inl ⟨q, by rw [hk']; exact List.mem_cons_self⟩
          . exact .inr z
    . rw [if_neg hk] at e
      exact (clo_mem e).imp (fun z => ⟨z.1, List.mem_cons_of_mem _ z.2⟩) id
theorem cellsFrom_append : ∀ (names : List (Str × NameKind)) (n : Nat) (acc : List (Str × Addr)), cellsFrom n names acc = cellsFrom n names [] ++ acc
  | [], _, _ => rfl
  | (x, k) :: r, n, acc => by
    unfold cellsFrom
    split
    . rw [cellsFrom_append r (n + 1) ((x, n) :: acc), cellsFrom_append r (n + 1) [(x, n)], List.append_assoc]; rfl
    . exact cellsFrom_append r n acc
theorem cellsFrom_name {x : Str} {c : Addr} : ∀ {names : List (Str × NameKind)} {n : Nat}, (x, c) ∈ cellsFrom n names [] -> (x, NameKind.cell) ∈ names
  | [], _, e => by cases e
  | (y, k) :: r, n, e => by
    unfold cellsFrom at e
    by_cases hk : (k == NameKind.cell) = true
    . rw [if_pos hk, cellsFrom_append] at e
      have hk' : k = .cell := by simpa using hk
      rcases List.mem_append.mp e with z | z
      . exact List.mem_cons_of_mem _ (cellsFrom_name z)
      . rw [List.mem_singleton] at z
        cases z
        rw [hk']; exact List.mem_cons_self
    . rw [if_neg hk] at e
      exact List.mem_cons_of_mem _ (cellsFrom_name e)
theorem cellsFrom_has {x : Str} : ∀ {names : List (Str × NameKind)} {n : Nat}, (x, NameKind.cell) ∈ names -> ∃ c, (x, c) ∈ cellsFrom n names []
  | (y, k) :: r, n, e => by
    unfold cellsFrom
    rcases List.mem_cons.mp e with z | z
    . cases z
      rw [if_pos (by rfl), cellsFrom_append]
      exact ⟨n, List.mem_append_right _ List.mem_cons_self⟩
    . split
      . rw [cellsFrom_append]
        obtain ⟨c, hc⟩ := cellsFrom_has (n := n + 1) z
        exact ⟨c, List.mem_append_left _ hc⟩
      . exact cellsFrom_has z
theorem lookup_app {α : Type} {x : Str} : ∀ {l₁ l₂ : List (Str × α)}, (l₁ ++ l₂).lookup x = match l₁.lookup x with | some c => some c | none => l₂.lookup x
  | [], _ => rfl
  | (n, c) :: r, l₂ => by
    rw [List.cons_append, List.lookup_cons, List.lookup_cons]
    cases hx : x == n with
    | true => rfl
    | false => exact lookup_app (l₁ := r)
theorem lookup_of_mem {α : Type} {x : Str} {c : α} : ∀ {l : List (Str × α)}, (x, c) ∈ l -> ∃ c', l.lookup x = some c'
  | (n, d) :: r, h => by
    rw [List.lookup_cons]
    cases hx : x == n with
    | true => exact ⟨d, rfl⟩
    | false =>
      rcases List.mem_cons.mp h with z | z
      . cases z; simp at hx
      . exact lookup_of_mem z
theorem clo_keeps {env : Env} {x : Str} : ∀ {l : List (Str × NameKind)} {cs : List (Str × Addr)}, (∃ c, cs.lookup x = some c) -> ∃ c, (clo env l cs).lookup x = some c
  | [], _, h => h
  | (n, k) :: r, cs, h => by
    unfold clo
    split
    . split
      . refine clo_keeps ?_
        rw [List.lookup_cons]
        cases hy : x == n with
        | true => exact ⟨_, rfl⟩
        | false => exact h
      . exact clo_keeps h
    . exact clo_keeps h
theorem clo_has {env : Env} {x : Str} (hx : ∃ c, env.cells.lookup x = some c) : ∀ {l : List (Str × NameKind)} {cs : List (Str × Addr)}, (x, NameKind.free) ∈ l -> ∃ c, (clo env l cs).lookup x = some c
  | (n, k) :: r, cs, h => by
    rcases List.mem_cons.mp h with e | e
    . cases e
      obtain ⟨c, hc⟩ := hx
      unfold clo
      rw [if_pos (by rfl), hc]
      refine clo_keeps ⟨c, ?_⟩
      simp [List.lookup_cons]
    . unfold clo
      split
      . split
        . exact clo_has hx e
        . exact clo_has hx e
      . exact clo_has hx e
def bcells (env : Env) (scope : Scope) (C : Addr) : List (Str × Addr) := cellsFrom (C + 1) scope.names (clo env scope.names [])
theorem bcells_cases {env : Env} {scope : Scope} {C : Addr} {x : Str} {c : Addr} (h : (bcells env scope C).lookup x = some c) :
    ((x, c) ∈ cellsFrom (C + 1) scope.names [] /\ (x, NameKind.cell) ∈ scope.names) \/ (env.cells.lookup x = some c /\ (x, NameKind.free) ∈ scope.names) := by
  have m := mem_of_lookup h
  unfold bcells at m
  rw [cellsFrom_append] at m
  rcases List.mem_append.mp m with z | z
  . exact .inl ⟨z, cellsFrom_name z⟩
  . rcases clo_mem z with y | y
    . exact .inr y
    . cases y
theorem bcells_free {env : Env} {scope : Scope} {C : Addr} {x : Str} (hx : ∃ c, env.cells.lookup x = some c) (hf : (x, NameKind.free) ∈ scope.names) (hn : (x, NameKind.cell) ∉ scope.names) : (bcells env scope C).lookup x = env.cells.lookup x := by
  obtain ⟨c, hc⟩ := clo_has (env := env) (cs := []) hx hf
  have hc' := clo_sub (env := env) (fun _ _ z => by simp at z) hc
  unfold bcells
  rw [cellsFrom_append, lookup_app]
  cases q : (cellsFrom (C + 1) scope.names []).lookup x with
  | some d => exact absurd (cellsFrom_name (mem_of_lookup q)) hn
  | none => rw [hc', <- hc]
def blk (X : Cx) (os : List Str) (fr : List Nat) (scope : Scope) (C : Addr) (fp : List Addr) (s₀ : Shared) (H₀ : Hp) : Cx :=
  { X with N := os ++ fr.map (fun j => X.N.getD j ""), s₀ := s₀, H₀ := H₀, env := compEnvC scope (bcells X.env scope C) C X.env, outer := X.stack, ex := fp, fn := fun x => scope.names.lookup x == some .cell, pn := [], xe := fun _ _ => False }
def frv (fr : List Nat) (σ : St) : St := fr.map fun j => (σ[j]?).join
def blkσ (n : Nat) (fr : List Nat) (σ : St) : St := List.replicate n none ++ frv fr σ
def Wk (σ0 σ2 : St) : Prop := σ2.length = σ0.length /\ ∀ (i : Nat) v, σ0[i]? = some (some v) -> σ2[i]? = some (some v)
def lcOk (outer : Scope) (scope : Scope) (N : List Str) (fr : List Nat) : Bool :=
  (scope.names.all fun p => (scope.names.lookup p.1 == some p.2) && (p.2 != .free || outer.names.lookup p.1 == some .cell)) &&
  (fr.all fun j => decide (j < N.length) && (outer.names.lookup (N.getD j "") == some .cell) && (scope.names.lookup (N.getD j "") == some .free))
theorem lookup_mem {x : Str} {k : NameKind} : ∀ {l : List (Str × NameKind)}, l.lookup x = some k -> (x, k) ∈ l
  | (n, j) :: r, h => by
    rw [List.lookup_cons] at h
    cases hx : x == n with
    | true =>
      rw [hx] at h
      have : x = n := by simpa using hx
      subst this
      cases h
      exact List.mem_cons_self
    | false => rw [hx] at h; exact List.mem_cons_of_mem _ (lookup_mem h)
theorem relabel_back {env : Env} {x : Str} {k : NameKind} : ∀ {names : List (Str × NameKind)},
    (names.map fun (n, k) => if (k == NameKind.free && env.scope.kind == .function && env.kindOf n == some .cell) then (n, NameKind.cell) else (n, k)).lookup x = some k →
    (x, k) ∈ names \/ (x, NameKind.free) ∈ names
  | [], h => by simp at h
  | (n, j) :: r, h => by
    rw [List.map_cons] at h
    dsimp only at h
    by_cases hc : (j == NameKind.free && env.scope.kind == .function && env.kindOf n == some .cell) = true
    . rw [if_pos hc, List.lookup_cons] at h
      have hj : j = .free := by
        have := (Bool.and_eq_true _ _ ▸ (Bool.and_eq_true _ _ ▸ hc).1).1
        simpa using this
      cases hx : x == n with
      | true =>
        have : x = n := by simpa using hx
        subst this
        subst hj
        exact .inr List.mem_cons_self
      | false =>
        rw [hx] at h
        exact (relabel_back h).imp (List.mem_cons_of_mem _) (List.mem_cons_of_mem _)
    . rw [if_neg hc, List.lookup_cons] at h
      cases hx : x == n with
      | true =>
        rw [hx] at h
        have : x = n := by simpa using hx
        subst this
        cases h
        exact .inl List.mem_cons_self
      | false =>
        rw [hx] at h
        exact (relabel_back h).imp (List.mem_cons_of_mem _) (List.mem_cons_of_mem _)
section
variable {X : Cx} {os : List Str} {fr : List Nat} {scope : Scope}
theorem lc_names (h : lcOk X.env.scope scope X.N fr = true) : ∀ p ∈ scope.names, scope.names.lookup p.1 = some p.2 /\ (p.2 = .free -> X.env.scope.names.lookup p.1 = some .cell) := fun p hp => by
  have q := List.all_eq_true.mp (Bool.and_eq_true _ _ ▸ h).1 p hp
  simp only [Bool.and_eq_true, bne_iff_ne, Bool.or_eq_true, beq_iff_eq, ne_eq] at q
  refine ⟨q.1, fun e => ?_⟩
  rcases q.2 with z | z
  . exact absurd e z
  . exact z
theorem lc_one (h : lcOk X.env.scope scope X.N fr = true) {x : Str} {a b : NameKind} (ha : (x, a) ∈ scope.names) (hb : (x, b) ∈ scope.names) : a = b := by
  have h1 := (lc_names h _ ha).1
  have h2 := (lc_names h _ hb).1
  rw [h1] at h2
  exact Option.some.inj h2
theorem lc_fr (h : lcOk X.env.scope scope X.N fr = true) : ∀ j ∈ fr, j < X.N.length /\ X.env.scope.names.lookup (X.N.getD j "") = some .cell /\ scope.names.lookup (X.N.getD j "") = some .free := fun j hj => by
  have q := List.all_eq_true.mp (Bool.and_eq_true _ _ ▸ h).2 j hj
  simp only [Bool.and_eq_true, beq_iff_eq, decide_eq_true_eq] at q
  exact ⟨q.1.1, q.1.2, q.2⟩
theorem lc_clos {pins : List (Addr × Obj)} {σ : St} {H : Hp} {s : Shared} (I : Inv X pins σ H s) (h : lcOk X.env.scope scope X.N fr = true) : ∀ n, (n, NameKind.free) ∈ scope.names -> ∃ c, X.env.cells.lookup n = some c := fun n hn =>
  I.ok.has n (.inl ((lc_names h _ hn).2 rfl))
theorem Inv.block {pins : List (Addr × Obj)} {σ : St} {H : Hp} {s : Shared} {fp : List Addr} {h₁ : Heap} {t' : Nat} (I : Inv X pins σ H s) (hk : scope.kind = .function) (h : lcOk X.env.scope scope X.N fr = true)
    (hf : ∀ b ∈ fp, FpOk X pins H b) (ho : ∀ b ∈ fp, ∃ o, s.heap.get? b = some o) (hns : h₁.Ns s.heap.objs.size fun _ => none) (hkeep : ∀ b o, s.heap.get? b = some o -> h₁.get? b = some o)
    (hcl : CellsOk h₁ (s.heap.objs.size + 1) (cellsFrom (s.heap.objs.size + 1) scope.names [])) :
    Inv (blk X os fr scope s.heap.objs.size fp s H) [] (blkσ os.length fr σ) H { s with heap := h₁, toks := t' } where
  ok := {
    mod := I.ok.mod
    kind := hk
    glob := I.ok.glob
    blt := I.ok.blt
    above := Nat.le_refl _
    inj := fun x y c e1 e2 => by
      have old : ∀ {z : Str}, X.env.cells.lookup z = some c -> c < s.heap.objs.size := fun {z} e => by
        obtain ⟨v, q⟩ := I.cell z c e
        exact q.lt
      rcases bcells_cases e1 with z1 | z1 <;> rcases bcells_cases e2 with z2 | z2
      . exact name_of_addr hcl.apart z1.1 z2.1
      . exact absurd (Nat.lt_of_lt_of_le (Nat.lt_succ_of_lt (old z2.1)) (hcl.empty _ _ z1.1).2) (Nat.lt_irrefl _)
      . exact absurd (Nat.lt_of_lt_of_le (Nat.lt_succ_of_lt (old z1.1)) (hcl.empty _ _ z2.1).2) (Nat.lt_irrefl _)
      . exact I.ok.inj x y c z1.1 z2.1
    has := fun x hx => by
      have hm : (x, NameKind.cell) ∈ scope.names \/ (x, NameKind.free) ∈ scope.names := by
        rcases hx with e | e
        . exact relabel_back e
        . rcases relabel_back e with z | z
          . exact .inr z
          . exact .inr z
      rcases hm with z | z
      . obtain ⟨c, hc⟩ := cellsFrom_has (n := s.heap.objs.size + 1) z
        refine lookup_of_mem (c := c) ?_
        show (x, c) ∈ bcells _ _ _
        unfold bcells
        rw [cellsFrom_append]
        exact List.mem_append_left _ hc
      . obtain ⟨c, hc⟩ := lc_clos I h x z
        refine ⟨c, ?_⟩
        show (bcells _ _ _).lookup x = _
        rw [bcells_free ⟨c, hc⟩ z (fun w => by cases lc_one h z w)]
        exact hc
    cab := fun x c hx e => by
      have hx' : scope.names.lookup x = some .cell := by simpa using (show (scope.names.lookup x == some .cell) = true from hx)
      rcases bcells_cases e with z | z
      . exact Nat.le_of_lt (Nat.lt_of_succ_le (hcl.empty _ _ z.1).2)
      . cases lc_one h (lookup_mem hx') z.2
    hd := I.ok.hd
    frames := I.ok.frames
    stk := .inl rfl
    exf := fun b hb => by
      obtain ⟨o, e⟩ := ho b hb
      refine ⟨Nat.ne_of_lt (Heap.lt_size e), fun x c e1 => ?_⟩
      rcases bcells_cases e1 with z | z
      . intro w
        have := (hcl.empty _ _ z.1).2
        rw [w] at this
        exact absurd (Nat.lt_of_lt_of_le (Nat.lt_succ_of_lt (Heap.lt_size e)) this) (Nat.lt_irrefl _)
      . exact (hf b hb).2.2.2.2.1 x c z.1
    bs := I.bs
    bsz := Nat.le_trans I.ok.bsz I.sz
    noex := fun b o e hb => by
      rcases (hf b hb).2.2.2.1 with z | z
      . exact I.ok.noex b o e z
      . exact absurd (Nat.lt_of_lt_of_le (Heap.lt_size e) (Nat.le_trans I.ok.bsz z)) (Nat.lt_irrefl _)
    exfs := fun b hb hz => by
      rcases List.mem_cons.mp (I.stkSub b hz) with e | e
      . exact (hf b hb).2.1 e
      . exact (hf b hb).2.2.1 e
    funs := I.stack
    frf := I.stkFree }
  os := rfl
  bare := I.bare
  base := Un.kept hkeep
  loc := by
    refine ⟨_, hns, fun i x v e1 e2 _ => ?_⟩
    have hi : os.length <= i := by
      refine Nat.le_of_not_lt fun hlt => ?_
      unfold blkσ at e2
      rw [List.getElem?_append_left (by simpa using hlt)] at e2
      rw [List.getElem?_replicate] at e2
      split at e2 <;> cases e2
    have e1' : (fr.map fun j => X.N.getD j "")[i - os.length]? = some x := by
      rw [<- List.getElem?_append_right (l₁ := os) hi]; exact e1
    have e2' : (fr.map fun j => (σ[j]?).join)[i - os.length]? = some (some v) := by
      have z : (List.replicate os.length (none : Option V)).length <= i := by simpa using hi
      unfold blkσ at e2
      rw [List.getElem?_append_right z, List.length_replicate] at e2
      exact e2
    rw [List.getElem?_map] at e1' e2'
    cases q : fr[i - os.length]? with
    | none => rw [q] at e1'; cases e1'
    | some j =>
      rw [q] at e1' e2'
      have hj : j ∈ fr := List.mem_of_getElem? q
      obtain ⟨hjl, hjc, hjf⟩ := lc_fr h j hj
      have ex : X.N.getD j "" = x := Option.some.inj e1'
      have ev : (σ[j]?).join = some v := Option.some.inj e2'
      have hN : X.N[j]? = some x := by
        rw [<- ex, List.getD_eq_getElem?_getD, List.getElem?_eq_getElem hjl]; rfl
      have hσ : σ[j]? = some (some v) := by
        cases r : σ[j]? with
        | none => rw [r] at ev; cases ev
        | some y => rw [r] at ev; exact congrArg some ev
      rw [ex] at hjc hjf
      obtain ⟨m, _, hl⟩ := I.loc
      obtain ⟨u, r, lk⟩ := hl j x v hN hσ (.inr (.inl hjc))
      refine ⟨u, r, ?_⟩
      have kc : Env.kindOf X.env x = some .cell := hjc
      rcases lk with ⟨k1, _⟩ | ⟨_, c, ec, z⟩
      . rw [kc] at k1; cases k1
      . have hfm := lookup_mem hjf
        have ec' : (bcells X.env scope s.heap.objs.size).lookup x = some c := by
          rw [bcells_free ⟨c, ec⟩ hfm (fun w => by cases lc_one h hfm w)]; exact ec
        refine .inr ⟨?_, c, ec', ?_⟩
        . have kk : ∀ {names : List (Str × NameKind)}, names.lookup x = some .free -> (names.map fun (n, k) => if (k == NameKind.free && X.env.scope.kind == .function && X.env.kindOf n == some .cell) then (n, NameKind.cell) else (n, k)).lookup x = some .cell := by
            intro names
            induction names with
            | nil => intro e; simp at e
            | cons p r ih =>
              obtain ⟨n, k⟩ := p
              intro e
              rw [List.lookup_cons] at e
              rw [List.map_cons]
              dsimp only
              cases hx : x == n with
              | true =>
                rw [hx] at e
                cases e
                have hxn : x = n := by simpa using hx
                subst hxn
                rw [if_pos (by rw [I.ok.kind, kc]; rfl), List.lookup_cons]
                simp
              | false =>
                rw [hx] at e
                by_cases hc : (k == NameKind.free && X.env.scope.kind == .function && X.env.kindOf n == some .cell) = true
                . rw [if_pos hc, List.lookup_cons, hx]; exact ih e
                . rw [if_neg hc, List.lookup_cons, hx]; exact ih e
          exact .inl (kk hjf)
        . obtain ⟨o, ho', hd⟩ := z
          exact ⟨o, hkeep _ _ ho', hd⟩
  cell := fun x c e => by
    rcases bcells_cases e with z | z
    . exact ⟨_, (hcl.empty _ _ z.1).1⟩
    . obtain ⟨v, o, ho', hd⟩ := I.cell x c z.1
      exact ⟨v, o, hkeep _ _ ho', hd⟩
  free := I.hok.fresh (Nat.le_refl _)
  freeC := fun x c e => by
    rcases bcells_cases e with z | z
    . exact I.hok.fresh (Nat.le_of_lt (Nat.lt_of_succ_le (hcl.empty _ _ z.1).2))
    . exact I.freeC x c z.1
  pin := fun p hp => nomatch hp
  hok := I.hok.kept hkeep
  len := by simp [blkσ, frv, blk]
theorem Inv.unblock {pins : List (Addr × Obj)} {σ σ' : St} {H H' : Hp} {s s' : Shared} {fp : List Addr} {C : Addr} (I : Inv X pins σ H s) (hf : ∀ b ∈ fp, FpOk X pins H b) (J : Inv (blk X os fr scope C fp s H) [] σ' H' s') : Inv X pins σ H' s' :=
  I.call' J.os J.base J.hok J.bare fun b hb => ⟨(hf b hb).2.2.2.1, (hf b hb).2.1, (hf b hb).2.2.2.2.1, (hf b hb).2.2.2.2.2⟩
theorem Inv.letgo {pins : List (Addr × Obj)} {σ : St} {H H₀ : Hp} {s s₀ : Shared} {C : Addr} {h' : Heap} (I₀ : Inv X pins σ₀ H₀ s₀) (I : Inv X pins σ H s) (hn : H C = none) (hC : s₀.heap.objs.size <= C) (hs : Heap.SameBut C s.heap h') : Inv X pins σ H { s with heap := h' } :=
  I.turned (t' := s.toks) (it := C) (fun b o hb e => (hs.2 b hb).trans e) hn (Nat.ne_of_gt (Nat.lt_of_lt_of_le I₀.lt hC)) (.inr (Nat.le_trans I₀.sz hC))
    (fun x c e z => by
      obtain ⟨v, q⟩ := I₀.cell x c e
      exact absurd (Nat.lt_of_lt_of_le q.lt (by rw [z]; exact hC)) (Nat.lt_irrefl _))
    fun p hp z => absurd (Nat.lt_of_lt_of_le (Heap.lt_size (I₀.pin p hp).1) (by rw [z]; exact hC)) (Nat.lt_irrefl _)
end
def PIfs (X : Cx) (ifs : List Expr) (t : TT) : Prop :=
  ∀ (pins : List (Addr × Obj)) (s : Shared) (σ : St) (H : Hp) (Q : Bool -> Hp -> Prop), Inv X pins σ H s -> t σ H Q →
    wpAny (model X.prog X.w) X.A (forIn ifs true fun c r => if r = true then do let ok <- isTrue c X.env (eval c X.env); pure (ForInStep.yield ok) else pure (ForInStep.yield r)) (TP X pins σ Q) X.xe s
def tTrue : TT := fun _ H Q => Q true H
theorem pifs_nil {X : Cx} : PIfs X [] tTrue := fun _ _ _ H _ I h => wpAny_tests_nil ⟨H, I, h⟩
theorem pifs_one {X : Cx} {c : Expr} {t : TT} (h : PT X c t) : PIfs X [c] t := fun pins s σ H Q I q => wpAny_tests_one (h pins s σ H Q I q)
theorem newEnv_cells {M : Model} {A : Around} {E : Value -> Shared -> Prop} {s : Shared} {scope : Scope} {globals : Addr} {closure : List (Str × Addr)} {qual : Str} {env : Env} {Q : Env -> Shared -> Prop}
    (hQ : Q { scope, locals := s.heap.objs.size, globals, cells := cellsFrom (s.heap.objs.size + 1) scope.names closure, qual, func := none, code := env.code, frame := env.frame, builtins := env.builtins } { s with heap := pushCells (s.heap.push { cls := .type "dict", data := .dict #[] }) scope.names }) :
    wpAny M A (newFunctionEnv scope globals closure [] qual none .none (some env)) Q E s := by
  simp only [newFunctionEnv, Option.isSome_some, if_true]
  refine wpAny_bind (wpAny_alloc ?_)
  refine wpAny_bind (wpAny_layCells _ (fun name kind cells => by cases hkc : kind == NameKind.cell <;> simp [hkc]) _ _ _ _ ?_)
  rw [show ({ s with heap := s.heap.push { cls := .type "dict", data := .dict #[] } } : Shared).heap.objs.size = s.heap.objs.size + 1 from Heap.size_push ..]
  simp only [List.forIn_nil]
  exact wpAny_bind (wpAny_pure (wpAny_pure hQ))
theorem compLoop_any {prog : Program} {w : World} {A : Around} {R : Result -> Shared -> Prop} {s : Shared} {elt target iter : Expr} {ifs : List Expr} {scope : Scope} {pos : Pos} {it acc : Value} {env : Env} (I : Nat -> Shared -> Prop)
    (turn : ∀ n s, I n s -> wpAny (model prog w) A (pyNext it) (fun r s₁ => match r with
      | none => R (.ok .next) s₁
      | some v => wpAny (model prog w) A (letOwnedTupleGo target it v) (fun _ s₀ => wpAny (model prog w) A (assign target env v) (fun _ s₂ =>
          wpAny (model prog w) A (forIn ifs true fun c r => if r = true then do let ok <- isTrue c env (eval c env); pure (ForInStep.yield ok) else pure (ForInStep.yield r)) (fun ok s₃ =>
            if ok = true then wpAny (model prog w) A (eval elt env) (fun x s₄ =>
              wpAny (model prog w) A (call (.builtin "list.append") [acc, x]) (fun _ s₅ => ∃ m, m < n /\ I m s₅) (fun _ _ => False) s₄) (fun _ _ => False) s₃
            else ∃ m, m < n /\ I m s₃) (fun _ _ => False) s₂) (fun _ _ => False) s₀) (fun _ _ => False) s₁) (fun _ _ => False) s)
    (n : Nat) (h : I n s) :
    codeAny (model prog w) A (.compLoop (.ListComp elt [⟨target, iter, ifs, 0⟩] scope pos) 0 it acc env) R s := by
  refine codeAny_loop rfl I (fun n s hI => ?_) n h
  show wpAny _ A ((compTurn (.ListComp elt [⟨target, iter, ifs, 0⟩] scope pos) 0 it acc env).onRaise (fun x => do noteFrame x env; theTreesLotGoes x)) _ _ s
  refine wpAny_noted ?_
  rw [compTurn_list]
  refine wpAny_bind (wpAny_standAt (wpAny_bind (wpAny_mono (turn n s hI) (fun r s₁ h₁ => ?_) fun _ _ h' => h'.elim)))
  cases r with
  | none => exact wpAny_pure h₁
  | some v =>
    refine wpAny_bind (wpAny_mono h₁ (fun _ s₀ h₀ => ?_) fun _ _ h' => h'.elim)
    refine wpAny_bind (wpAny_mono h₀ (fun _ s₂ h₂ => wpAny_bind (wpAny_mono h₂ (fun ok s₃ h₃ => ?_) fun _ _ h' => h'.elim)) fun _ _ h' => h'.elim)
    cases ok with
    | false => exact wpAny_pure ⟨rfl, h₃⟩
    | true =>
      exact wpAny_bind (wpAny_bind (wpAny_mono h₃ (fun x s₄ h₄ => wpAny_bind (wpAny_mono h₄ (fun _ s₅ h₅ => wpAny_pure (wpAny_pure ⟨rfl, h₅⟩)) fun _ _ h' => h'.elim)) fun _ _ h' => h'.elim))
def lcW (n : Nat) (fr : List Nat) (g : TG) (te : TE) (σ : St) (J : It) (H1 : Hp) (p : Addr) (D : Hp -> Prop) : Prop :=
  ∃ W : Nat -> Nat -> List V -> Hp -> Prop, (∃ m, W 0 m [] (upd H1 p (.lst []))) /\ ∀ i m ys H, W i m ys H →
    (J.stop i H /\ D H) \/ (J.go i H /\ ∀ x H', J.yld i H x H' -> g x (blkσ n fr σ) H' fun σ2 H2 => Wk (blkσ n fr σ) σ2 /\ te σ2 H2 fun v H3 => H3 p = some (.lst ys) /\ ys.length < sizeLine /\ ∃ m', m' < m /\ W (i + 1) m' (ys ++ [v]) (upd H3 p (.lst (ys ++ [v]))))
def tLC (n : Nat) (fr : List Nat) (wi : TI) (g : TG) (te : TE) : TE := fun σ H Q => wi σ H fun J H1 => ∀ p, H1 p = none -> lcW n fr g te σ J H1 p (Q (.ref p))
def lcI (n : Nat) (fr : List Nat) (g : TG) (tc : TT) (te : TE) (σ : St) (J : It) (H1 : Hp) (p : Addr) (D : Hp -> Prop) : Prop :=
  ∃ W : Nat -> Nat -> List V -> Hp -> Prop, (∃ m, W 0 m [] (upd H1 p (.lst []))) /\ ∀ i m ys H, W i m ys H →
    (J.stop i H /\ D H) \/ (J.go i H /\ ∀ x H', J.yld i H x H' -> g x (blkσ n fr σ) H' fun σ2 H2 => Wk (blkσ n fr σ) σ2 /\ tc σ2 H2 fun ok H2' =>
      if ok = true then te σ2 H2' fun v H3 => H3 p = some (.lst ys) /\ ys.length < sizeLine /\ ∃ m', m' < m /\ W (i + 1) m' (ys ++ [v]) (upd H3 p (.lst (ys ++ [v]))) else ∃ m', m' < m /\ W (i + 1) m' ys H2')
def tLCi (n : Nat) (fr : List Nat) (wi : TI) (g : TG) (tc : TT) (te : TE) : TE := fun σ H Q => wi σ H fun J H1 => ∀ p, H1 p = none -> lcI n fr g tc te σ J H1 p (Q (.ref p))
theorem lcI_true {n : Nat} {fr : List Nat} {g : TG} {te : TE} {σ : St} {J : It} {H1 : Hp} {p : Addr} {D : Hp -> Prop} : lcI n fr g tTrue te σ J H1 p D = lcW n fr g te σ J H1 p D := by
  unfold lcI lcW tTrue
  simp only [if_true]
section
variable {X : Cx} {os : List Str} {fr : List Nat} {scope : Scope} {elt tg iter : Expr} {pos : Pos} {wi : TI} {g : TG} {te : TE}
theorem lc_block {ifs : List Expr} {tc : TT} {pins : List (Addr × Obj)} {σ : St} {s2 : Shared} {D : Addr -> Hp -> Prop} {itv : Value} {RR : Value -> Addr -> Result -> Shared -> Prop}
    (hc : X.calm = true) (hg : ∀ C fp s₀ H₀, PG (blk X os fr scope C fp s₀ H₀) tg g) (ht : ∀ C fp s₀ H₀, PIfs (blk X os fr scope C fp s₀ H₀) ifs tc) (he : ∀ C fp s₀ H₀, PE (blk X os fr scope C fp s₀ H₀) elt te)
    (hk : scope.kind = .function) (hok : lcOk X.env.scope scope X.N fr = true)
    (h2 : PIE X pins σ tg (fun J H1 => ∀ p, H1 p = none -> lcI os.length fr g tc te σ J H1 p (D p)) itv s2)
    (hRR : ∀ p C s3 H3 s' H', Inv X pins σ H3 s3 -> s3.heap.objs.size = C -> H' C = none -> Inv X pins σ H' s' -> (∃ m, s'.heap.Ns C m) -> D p H' -> RR (.ref p) C (.ok .next) s') :
    wpAny (model X.prog X.w) X.A (newList []) (fun acc s₃ => wpAny (model X.prog X.w) X.A (newFunctionEnv scope X.env.globals (clo X.env scope.names []) [] X.env.qual none .none (some X.env)) (fun cenv s₄ =>
      codeAny (model X.prog X.w) X.A (.compStart (.ListComp elt [⟨tg, iter, ifs, 0⟩] scope pos) 0 itv acc { cenv with scope := relabel scope X.env }) (RR acc cenv.locals) s₄) X.xe s₃) X.xe s2 := by
  obtain ⟨it, fp, tn, J, H2, e, I2, T, st2, f2, hR⟩ := h2
  subst e
  refine wpAny_newObj_type ?_
  have fresh : H2 s2.heap.objs.size = none := I2.fresh
  obtain ⟨W, ⟨m0, w0⟩, turn⟩ := hR s2.heap.objs.size fresh
  have I3 : Inv X pins σ (upd H2 s2.heap.objs.size (.lst [])) { s2 with heap := s2.heap.push { cls := .type "list", dict := none, data := .seq ([] : List Value).toArray } } := I2.lnew (ys := []) (its := []) (t' := s2.toks) .nil (Nat.zero_le _)
  have obj2 := T.obj _ _ st2
  have ne2 : ∀ b ∈ fp, b ≠ s2.heap.objs.size := fun b hb => by
    obtain ⟨o, e, _⟩ := obj2 b hb
    exact Nat.ne_of_lt (Heap.lt_size e)
  have st3 : tn 0 (s2.heap.push { cls := .type "list", dict := none, data := .seq ([] : List Value).toArray }) := T.keep _ _ _ st2 fun b hb o e => Heap.get?_push_of_some _ e
  have f3 : ∀ b ∈ fp, FpOk X pins (upd H2 s2.heap.objs.size (.lst [])) b := fun b hb => ⟨by rw [upd_ne (ne2 b hb)]; exact (f2 b hb).1, (f2 b hb).2⟩
  generalize hs3 : ({ s2 with heap := s2.heap.push { cls := .type "list", dict := none, data := .seq ([] : List Value).toArray } } : Shared) = s3 at I3 ⊢
  have st3' : tn 0 s3.heap := by rw [<- hs3]; exact st3
  generalize s2.heap.objs.size = p at *
  refine newEnv_cells ?_
  have hns : (pushCells (s3.heap.push { cls := .type "dict", data := .dict #[] }) scope.names).Ns s3.heap.objs.size fun _ => none := (Heap.Ns.new s3.heap (.type "dict")).keeps (pushCells_keeps _ _)
  have hkeep : ∀ b o, s3.heap.get? b = some o -> (pushCells (s3.heap.push { cls := .type "dict", data := .dict #[] }) scope.names).get? b = some o := fun b o e => pushCells_keeps _ _ b o (Heap.get?_push_of_some _ e)
  have hcl := cellsFrom_ok scope.names (s3.heap.push { cls := .type "dict", data := .dict #[] }) (s3.heap.objs.size + 1) [] ⟨fun _ _ hm => (nomatch hm), List.Pairwise.nil⟩ (by rw [Heap.size_push]; exact Nat.le_refl _)
  rw [Heap.size_push] at hcl
  generalize pushCells (s3.heap.push { cls := .type "dict", data := .dict #[] }) scope.names = h₁ at hns hkeep hcl ⊢
  have obj3 : ∀ b ∈ fp, ∃ o, s3.heap.get? b = some o := fun b hb => by
    obtain ⟨o, e, _⟩ := T.obj _ _ st3' b hb
    exact ⟨o, e⟩
  have J0 := I3.block (os := os) (t' := s3.toks) hk hok f3 obj3 (h₁ := h₁) hns hkeep hcl
  have ok0 := J0.ok
  have fpY : ∀ {H' : Hp}, (∀ b ∈ fp, H' b = none) -> ∀ b ∈ fp, FpOk (blk X os fr scope s3.heap.objs.size fp s3 (upd H2 p (.lst []))) [] H' b := fun hn b hb =>
    ⟨hn b hb, (ok0.exf b hb).1, ok0.exfs b hb, .inl hb, (ok0.exf b hb).2, fun q hq => nomatch hq⟩
  have st4 : tn 0 h₁ := T.keep _ _ _ st3' fun b hb o e => hkeep b o e
  have fr0 : ∀ b ∈ fp, upd H2 p (.lst []) b = none := fun b hb => (f3 b hb).1
  have loop : ∀ s4 : Shared, s4 = { s3 with heap := h₁, toks := s3.toks } →
      codeAny (model X.prog X.w) X.A (.compLoop (.ListComp elt [⟨tg, iter, ifs, 0⟩] scope pos) 0 (.ref it) (.ref p) (compEnvC scope (bcells X.env scope s3.heap.objs.size) s3.heap.objs.size X.env)) (RR (.ref p) s3.heap.objs.size) s4 := by
    rintro s4 rfl
    refine compLoop_any (fun n s' => ∃ i ys H', Inv (blk X os fr scope s3.heap.objs.size fp s3 (upd H2 p (.lst []))) [] (blkσ os.length fr σ) H' s' /\ tn i s'.heap /\ (∀ b ∈ fp, H' b = none) /\ W i n ys H') ?_ m0 ⟨0, [], _, J0, st4, fr0, w0⟩
    rintro n s5 ⟨i, ys, H5, I5, st5, fr5, w5⟩
    rcases turn i n ys H5 w5 with ⟨stop, qd⟩ | ⟨go, step⟩
    . refine thn (T.done (blk X os fr scope s3.heap.objs.size fp s3 (upd H2 p (.lst []))) rfl rfl rfl hc i [] s5 _ H5 (fun _ _ => False) I5 (fpY fr5) st5 stop) fun r s6 ⟨hr, I6⟩ => ?_
      subst hr
      exact hRR p _ s3 _ s6 H5 I3 rfl I6.free (I3.unblock f3 I6) (let ⟨m, hm, _⟩ := I6.loc; ⟨m, hm⟩) qd
    . refine thn (T.item (blk X os fr scope s3.heap.objs.size fp s3 (upd H2 p (.lst []))) rfl rfl rfl hc i [] s5 _ H5 (fun _ _ => False) I5 (fpY fr5) st5 go) fun r s6 ⟨u, hr, h6⟩ => ?_
      subst hr
      refine thn h6 fun _ s7 ⟨x, H7, I7, r7, y7, st7, fr7⟩ => ?_
      have I7' := I7.pinned (fpY fr7) (T.obj _ _ st7)
      refine thn (hg _ _ _ _ _ s7 _ H7 x u _ I7' r7 (step x H7 y7)) fun _ s8 ⟨σ8, H8, I8, wk8, q8⟩ => ?_
      have again : ∀ {H' : Hp} {s' : Shared} {zs : List V} {m' : Nat}, Inv (blk X os fr scope s3.heap.objs.size fp s3 (upd H2 p (.lst []))) ([] ++ pinsAt fp s7.heap) σ8 H' s' -> m' < n -> W (i + 1) m' zs H' →
          ∃ m, m < n /\ ∃ i ys H', Inv (blk X os fr scope s3.heap.objs.size fp s3 (upd H2 p (.lst []))) [] (blkσ os.length fr σ) H' s' /\ tn i s'.heap /\ (∀ b ∈ fp, H' b = none) /\ W i m ys H' := fun {H' s' zs m'} J' hm' w' => by
        refine ⟨m', hm', i + 1, zs, H', (J'.weak wk8.1.symm fun i v e => wk8.2 i v e).unpinned, T.keep _ _ _ st7 fun b hb o e => (J'.pin (b, o) (List.mem_append_right _ (List.mem_append_right _ (mem_pinsAt hb e)))).1, fun b hb => ?_, w'⟩
        obtain ⟨o, e, d⟩ := T.obj _ _ st7 b hb
        exact (J'.pin (b, o) (List.mem_append_right _ (List.mem_append_right _ (mem_pinsAt hb e)))).2.1
      refine thn (ht _ _ _ _ _ s8 σ8 H8 _ I8 q8) fun ok s9 ⟨H9, I9, q9⟩ => ?_
      cases ok with
      | false =>
        obtain ⟨m', hm', w9⟩ := q9
        exact again I9 hm' w9
      | true =>
        refine thn (he _ _ _ _ _ s9 σ8 H9 _ I9 q9) fun y s10 ⟨v, H10, I10, r10, hp10, hz10, m', hm', w10⟩ => ?_
        refine thn (mt_append (X := blk X os fr scope s3.heap.objs.size fp s3 (upd H2 p (.lst []))) _ s10 σ8 H10 (.ref p) [v] (.ref p) [y] (fun _ H' => H' = upd H10 p (.lst (ys ++ [v]))) I10 rfl (.cons r10 .nil) ⟨p, ys, v, rfl, rfl, hp10, hz10, rfl⟩) fun _ s11 ⟨_, H11, I11, _, e11⟩ => ?_
        subst e11
        exact again I11 hm' w10
  exact codeAny_compStart_list (loop _ rfl) (T.self _ 0 _ _ _ st4 (loop _ rfl))
theorem pe_lc (os : List Str) (fr : List Nat) (hc : X.calm = true) (hi : PI X tg iter wi) (hg : ∀ C fp s₀ H₀, PG (blk X os fr scope C fp s₀ H₀) tg g) (he : ∀ C fp s₀ H₀, PE (blk X os fr scope C fp s₀ H₀) elt te)
    (hk : scope.kind = .function := by rfl) (hok : lcOk X.env.scope scope X.N fr = true := by rfl) (hs : ∀ x, foldedSetIterable iter X.env x = pure x := by intro _; rfl) :
    PE X (.ListComp elt [⟨tg, iter, [], 0⟩] scope pos) (tLC os.length fr wi g te) := by
  intro pins s σ H Q I h
  unfold tLC at h
  simp only [<- lcI_true] at h
  rw [eval_ListComp]
  refine wpAny_comprehension_free (use := none) rfl hs (closureFor_clo (lc_clos I hok)) hk (fun x hx hl => by have := (lc_names hok x hx).1; rw [hl] at this; exact this) (thn (hi pins s σ H _ I h) fun v s1 h1 => thn h1 fun itv s2 h2 => ?_)
  refine lc_block (os := os) (D := fun p H' => Q (.ref p) H') (RR := fun acc C => compPost (model X.prog X.w) X.A X.xe none (EP X pins σ Q) acc C) hc hg (fun _ _ _ _ => pifs_nil) he hk hok h2 ?_
  intro p C s3 H3 s' H' I3 eC hn I' ⟨m, hm⟩ q
  refine ⟨m, hm, fun h' hs' => ⟨.ref p, H', I3.letgo I' hn (by omega) hs', rfl, q⟩⟩
theorem pe_lcI {c : Expr} {tc : TT} (os : List Str) (fr : List Nat) (hc : X.calm = true) (hi : PI X tg iter wi) (hg : ∀ C fp s₀ H₀, PG (blk X os fr scope C fp s₀ H₀) tg g) (ht : ∀ C fp s₀ H₀, PT (blk X os fr scope C fp s₀ H₀) c tc) (he : ∀ C fp s₀ H₀, PE (blk X os fr scope C fp s₀ H₀) elt te)
    (hk : scope.kind = .function := by rfl) (hok : lcOk X.env.scope scope X.N fr = true := by rfl) (hs : ∀ x, foldedSetIterable iter X.env x = pure x := by intro _; rfl) :
    PE X (.ListComp elt [⟨tg, iter, [c], 0⟩] scope pos) (tLCi os.length fr wi g tc te) := by
  intro pins s σ H Q I h
  rw [eval_ListComp]
  refine wpAny_comprehension_free (use := none) rfl hs (closureFor_clo (lc_clos I hok)) hk (fun x hx hl => by have := (lc_names hok x hx).1; rw [hl] at this; exact this) (thn (hi pins s σ H _ I h) fun v s1 h1 => thn h1 fun itv s2 h2 => ?_)
  refine lc_block (os := os) (D := fun p H' => Q (.ref p) H') (RR := fun acc C => compPost (model X.prog X.w) X.A X.xe none (EP X pins σ Q) acc C) hc hg (fun _ _ _ _ => pifs_one (ht _ _ _ _)) he hk hok h2 ?_
  intro p C s3 H3 s' H' I3 eC hn I' ⟨m, hm⟩ q
  refine ⟨m, hm, fun h' hs' => ⟨.ref p, H', I3.letgo I' hn (by omega) hs', rfl, q⟩⟩
theorem ps_lc {i : Nat} {x : Str} {pos' spos : Pos} (os : List Str) (fr : List Nat) (hN : X.N.Nodup) (hi' : X.N[i]? = some x) (hx : X.env.scope.names.lookup x = some .local)
    (hc : X.calm = true) (hi : PI X tg iter wi) (hg : ∀ C fp s₀ H₀, PG (blk X os fr scope C fp s₀ H₀) tg g) (he : ∀ C fp s₀ H₀, PE (blk X os fr scope C fp s₀ H₀) elt te)
    (hsw : swapsWith (.ListComp elt [⟨tg, iter, [], 0⟩] scope pos) (some (.Name x pos')) spos.line X.env = pure true := by rfl)
    (hk : scope.kind = .function := by rfl) (hok : lcOk X.env.scope scope X.N fr = true := by rfl) (hs : ∀ x, foldedSetIterable iter X.env x = pure x := by intro _; rfl) :
    PS X (.Assign [.Name x pos'] (.ListComp elt [⟨tg, iter, [], 0⟩] scope pos) spos) (tAsg (tLC os.length fr wi g te) (gName i)) := by
  intro pins s σ H D I h
  unfold tAsg tLC at h
  simp only [<- lcI_true] at h
  rw [exec_Assign_Name_used _ _ _ _ hsw]
  refine wpAny_bind (wpAny_standAt (wpAny_bind ?_))
  show wpAny _ X.A (do let _ <- comprehension (.ListComp elt [⟨tg, iter, [], 0⟩] scope pos) scope X.env _ (newList []) false (eval iter X.env) (some (assign (.Name x pos') X.env))) _ _ s
  refine wpAny_bind (wpAny_mono (wpAny_comprehension_free (use := some (assign (.Name x pos') X.env)) (Q := fun _ s' => SP X pins D .next s') rfl hs (closureFor_clo (lc_clos I hok)) hk (fun x hx hl => by have := (lc_names hok x hx).1; rw [hl] at this; exact this)
    (thn (hi pins s σ H _ I h) fun v s1 h1 => thn h1 fun itv s2 h2 => ?_)) (fun _ s' hq => wpAny_pure (wpAny_pure hq)) fun _ _ e => e)
  refine lc_block (os := os) (D := fun p H' => D.nx (σ.set i (some (.ref p))) H') (RR := fun acc C => compPost (model X.prog X.w) X.A X.xe (some (assign (.Name x pos') X.env)) (fun _ s' => SP X pins D .next s') acc C) hc hg (fun _ _ _ _ => pifs_nil) he hk hok h2 ?_
  intro p C s3 H3 s' H' I3 eC hn I' ⟨m, hm⟩ q
  show wpAny _ X.A (assign (.Name x pos') X.env (.ref p)) _ _ _
  refine wpAny_assign_Name (store_ok2 (v := .ref p) I' hN hi' (.inl hx) rfl (fun s'' I'' ⟨a, hsa, ha⟩ => ?_) (.inr hx))
  have hCa : C ≠ a := by
    rcases ha with e | e
    . rw [e]; exact Nat.ne_of_gt (by rw [<- eC]; exact I3.lt)
    . obtain ⟨v, z⟩ := I3.cell x a e
      exact Nat.ne_of_gt (by rw [<- eC]; exact z.lt)
  exact ⟨m, hm.sameBut hsa hCa, fun h' hs' => ⟨_, H', I3.letgo I'' hn (by omega) hs', q⟩⟩
end
end L2
namespace L2
open PySem PySem.Spec PyProof.Rows
section
variable {X : Cx} {pins : List (Addr × Obj)} {σ : St} {H : Hp} {s : Shared} {a : Addr} {xs : List V}
abbrev SqA (K : W.Frag) (H : Hp) (a : Addr) (xs : List V) : Prop := SqL K H a xs \/ SqT K H a xs
theorem kept_it {h' : Heap} {o : Obj} {h : Heap} (hk : ∀ b x, b ∉ [h.objs.size] -> (h.push o).get? b = some x -> h'.get? b = some x) : ∀ b x, h.get? b = some x -> h'.get? b = some x :=
  fun b x e => hk b x (fun hm => by rw [List.mem_singleton.mp hm] at e; exact Nat.lt_irrefl _ (Heap.lt_size e)) (Heap.get?_push_of_some _ e)
theorem seq_walk (hc : X.calm = true) (I : Inv X pins σ H s) (h : SqA X.K H a xs) : ∃ its : List Value, Vals xs its /\ ∀ (Q : Value -> Shared -> Prop) (E : Value -> Shared -> Prop),
    (∀ (o : Obj) (St : Nat -> Heap -> Prop), Walks X.prog X.w X.A.in1 s.heap.objs.size [s.heap.objs.size, a] [s.heap.objs.size] its.toArray.size (fun i v => its.toArray[i]? = some v) St -> St 0 (s.heap.push o) →
      (∀ b ∈ [s.heap.objs.size, a], b < (s.heap.push o).objs.size) -> Q (.ref s.heap.objs.size) { s with heap := s.heap.push o }) -> wpAny (model X.prog X.w) X.A.in1 (pyIter (.ref a)) Q E s := by
  have hh := I.ok.hd hc
  have lt2 : ∀ (o : Obj), a < s.heap.objs.size -> ∀ b ∈ [s.heap.objs.size, a], b < (s.heap.push o).objs.size := fun o hlt b hb => by
    rw [Heap.size_push]
    rcases List.mem_cons.mp hb with rfl | hb
    . exact Nat.lt_succ_self _
    . rw [List.mem_singleton.mp hb]; exact Nat.lt_succ_of_lt hlt
  rcases h with h | h
  . obtain ⟨its, r, p, hz⟩ := I.list h
    have hl := p.isList
    have hlt : a < s.heap.objs.size := by obtain ⟨_, e, _⟩ := hl; exact Heap.lt_size e
    refine ⟨its, r, fun Q E hQ => wpAny_pyIter_list hl ?_⟩
    exact hQ _ _ (Walks.list (A := X.A.in1) hh _ a (Nat.ne_of_lt hlt) its.toArray) ⟨⟨_, Heap.get?_push_size _ rfl, rfl, rfl⟩, hl.push _⟩ (lt2 _ hlt)
  . obtain ⟨its, r, p, hz⟩ := I.tuple h
    have hl : s.heap.IsTuple a its.toArray := p
    have hlt : a < s.heap.objs.size := by obtain ⟨_, e, _⟩ := hl; exact Heap.lt_size e
    refine ⟨its, r, fun Q E hQ => wpAny_pyIter_tuple hl ?_⟩
    exact hQ _ _ (Walks.tuple (A := X.A.in1) hh _ a (Nat.ne_of_lt hlt) its.toArray) ⟨⟨_, Heap.get?_push_size _ rfl, rfl, rfl⟩, hl.push _⟩ (lt2 _ hlt)
theorem vals_at {ys : List V} {its : List Value} (r : Vals ys its) {i : Nat} {v : Value} (e : its.toArray[i]? = some v) : ∃ y, ys[i]? = some y /\ RelV y v := by
  have e' : its[i]? = some v := by simpa using e
  cases q : ys[i]? with
  | none => rw [r.none_of q] at e'; cases e'
  | some y =>
    obtain ⟨u, h1, h2⟩ := r.get q
    rw [e'] at h1; cases h1
    exact ⟨y, rfl, h2⟩
end
section
variable {X : Cx}
theorem ints_at {ns : List Int} {its : List Value} (rv : Vals (ns.map V.int) its) : ∀ (i : Nat) (v : Value), its.toArray[i]? = some v -> ∃ t, v = Value.int (ns.getD i 0) t := fun i v hP => by
  obtain ⟨y, e, ry⟩ := vals_at rv hP
  rw [List.getElem?_map] at e
  cases en : ns[i]? with
  | none => rw [en] at e; cases e
  | some n =>
    rw [en] at e; cases e
    obtain ⟨t, rfl⟩ := ry
    exact ⟨t, by rw [List.getD_eq_getElem?_getD, en]; rfl⟩
theorem preSum_getD (ns : List Int) : ∀ j, preSum (fun i => ns.getD i 0) j = (ns.take j).sum
  | 0 => by simp [preSum]
  | j + 1 => by
    rw [preSum, preSum_getD ns j]
    by_cases hj : j < ns.length
    . rw [List.take_succ_eq_append_getElem hj, List.sum_append, List.getD_eq_getElem?_getD, List.getElem?_eq_getElem hj]; simp
    . rw [List.take_of_length_le (by omega), List.take_of_length_le (by omega), List.getD_eq_getElem?_getD, List.getElem?_eq_none (by omega)]; simp
theorem call_sum (hc : X.calm = true) : CallR X (.builtin "sum") (fun vs H Q => ∃ (a : Addr) (ns : List Int), vs = [.ref a] /\ SqA X.K H a (ns.map V.int) /\ Q (.int ns.sum) H) := by
  intro pins s σ H vs us Q I r h
  obtain ⟨a, ns, rfl, hs, q⟩ := h
  obtain ⟨u, rfl, ru⟩ := vals1 r
  cases ru
  obtain ⟨its, rv, walk⟩ := seq_walk hc I hs
  have hlen : its.toArray.size = ns.length := by rw [List.size_toArray, <- rv.length, List.length_map]
  refine call_sum_walkG (walk _ _ fun o St W st fp => ?_)
  refine ⟨_, _, _, _, _, _, fun i => ns.getD i 0, rfl, W, st, fp, ints_at rv, fun h' tk t' hk => ?_⟩
  rw [hlen, preSum_getD, List.take_of_length_le (Nat.le_refl _)]
  exact ⟨.int _, H, I.kept (kept_it hk), ⟨_, rfl⟩, q⟩
theorem getD_mem' {l : List Int} {j : Nat} (h : j < l.length) : l.getD j 0 ∈ l := by
  rw [List.getD_eq_getElem?_getD, List.getElem?_eq_getElem h]; exact List.getElem_mem h
theorem mem_getD' {l : List Int} {a : Int} (h : a ∈ l) : ∃ j, j < l.length /\ l.getD j 0 = a := by
  obtain ⟨j, hj, e⟩ := List.getElem_of_mem h
  exact ⟨j, hj, by rw [List.getD_eq_getElem?_getD, List.getElem?_eq_getElem hj]; exact e⟩
theorem call_max1 (hc : X.calm = true) : CallR X (.builtin "max") (fun vs H Q => ∃ (a : Addr) (ns : List Int), vs = [.ref a] /\ SqA X.K H a (ns.map V.int) /\ ns ≠ [] /\ ∀ M, M ∈ ns -> (∀ n ∈ ns, n <= M) -> Q (.int M) H) := by
  intro pins s σ H vs us Q I r h
  obtain ⟨a, ns, rfl, hs, hne, q⟩ := h
  obtain ⟨u, rfl, ru⟩ := vals1 r
  cases ru
  obtain ⟨its, rv, walk⟩ := seq_walk hc I hs
  have hlen : its.toArray.size = ns.length := by rw [List.size_toArray, <- rv.length, List.length_map]
  have hpos : 0 < ns.length := List.length_pos_iff.mpr hne
  refine call_max_walk (walk _ _ fun o St W st fp => ?_)
  refine ⟨_, _, _, _, _, _, _, rfl, W, st, fp, by rw [hlen]; exact hpos, CmpOf.ints_gt (fun i => ns.getD i 0) (ints_at rv), fun v h' tk hP hk => ?_⟩
  obtain ⟨h1, h2⟩ := argBest_gt (fun i => ns.getD i 0) (its.toArray.size - 1)
  obtain ⟨t, rfl⟩ := ints_at rv _ v hP
  refine ⟨.int _, H, I.kept (kept_it hk), ⟨_, rfl⟩, q _ (getD_mem' (by omega)) fun n hn => ?_⟩
  obtain ⟨j, hj, rfl⟩ := mem_getD' hn
  exact h2 j (by omega)
theorem call_min1 (hc : X.calm = true) : CallR X (.builtin "min") (fun vs H Q => ∃ (a : Addr) (ns : List Int), vs = [.ref a] /\ SqA X.K H a (ns.map V.int) /\ ns ≠ [] /\ ∀ M, M ∈ ns -> (∀ n ∈ ns, M <= n) -> Q (.int M) H) := by
  intro pins s σ H vs us Q I r h
  obtain ⟨a, ns, rfl, hs, hne, q⟩ := h
  obtain ⟨u, rfl, ru⟩ := vals1 r
  cases ru
  obtain ⟨its, rv, walk⟩ := seq_walk hc I hs
  have hlen : its.toArray.size = ns.length := by rw [List.size_toArray, <- rv.length, List.length_map]
  have hpos : 0 < ns.length := List.length_pos_iff.mpr hne
  refine call_min_walk (walk _ _ fun o St W st fp => ?_)
  refine ⟨_, _, _, _, _, _, _, rfl, W, st, fp, by rw [hlen]; exact hpos, CmpOf.ints_lt (fun i => ns.getD i 0) (ints_at rv), fun v h' tk hP hk => ?_⟩
  obtain ⟨h1, h2⟩ := argBest_lt (fun i => ns.getD i 0) (its.toArray.size - 1)
  obtain ⟨t, rfl⟩ := ints_at rv _ v hP
  refine ⟨.int _, H, I.kept (kept_it hk), ⟨_, rfl⟩, q _ (getD_mem' (by omega)) fun n hn => ?_⟩
  obtain ⟨j, hj, rfl⟩ := mem_getD' hn
  exact h2 j (by omega)
theorem call_isinst : CallR X (.builtin "isinstance") (fun vs H Q => ∃ x t n b, vs = [x, .ty n] /\ TyOf X.K H x t /\ W.kitOne X.K t (.type n) = some b /\ Q (.bl b) H) := by
  intro pins s σ H vs us Q I r h
  obtain ⟨x, t, n, b, rfl, ty, e, q⟩ := h
  obtain ⟨u, v, rfl, ru, rv⟩ := vals2 r
  cases rv
  exact isinst_ok I ru ty e fun tk => ⟨.bl b, H, I.tok _, rfl, q⟩
end
mutual
inductive Dp (K : W.Frag) (H : Hp) : V -> PyData -> Prop
  | non : Dp K H .non .none
  | bl (b : Bool) : Dp K H (.bl b) (.bool b)
  | int (i : Int) : Dp K H (.int i) (.int i)
  | str (x : Str) : Dp K H (.str x) (.str x)
  | lst {a : Addr} {xs : List V} {ds : List PyData} : SqL K H a xs -> Dps K H xs ds -> Dp K H (.ref a) (.list ds)
  | tup {a : Addr} {xs : List V} {ds : List PyData} : SqT K H a xs -> Dps K H xs ds -> Dp K H (.ref a) (.tuple ds)
inductive Dps (K : W.Frag) (H : Hp) : List V -> List PyData -> Prop
  | nil : Dps K H [] []
  | cons {x : V} {xs : List V} {d : PyData} {ds : List PyData} : Dp K H x d -> Dps K H xs ds -> Dps K H (x :: xs) (d :: ds)
end
theorem Same.tseq {K : W.Frag} {H H' : Hp} {a : Addr} {xs : List V} (e : Same H H') (h : SqT K H a xs) : SqT K H' a xs := by
  rcases h with (h | ⟨o, h⟩) | h
  . exact .inl (.inl (e _ _ h))
  . exact .inl (.inr ⟨o, e _ _ h⟩)
  . exact .inr h
mutual
theorem Dp.same {K : W.Frag} {H H' : Hp} (e : Same H H') : ∀ {x : V} {d : PyData}, Dp K H x d -> Dp K H' x d
  | _, _, .non => .non
  | _, _, .bl b => .bl b
  | _, _, .int i => .int i
  | _, _, .str x => .str x
  | _, _, .lst h r => .lst (e.seq h) (Dps.same e r)
  | _, _, .tup h r => .tup (e.tseq h) (Dps.same e r)
theorem Dps.same {K : W.Frag} {H H' : Hp} (e : Same H H') : ∀ {xs : List V} {ds : List PyData}, Dps K H xs ds -> Dps K H' xs ds
  | _, _, .nil => .nil
  | _, _, .cons a r => .cons (Dp.same e a) (Dps.same e r)
end
section
variable {X : Cx} {pins : List (Addr × Obj)} {σ : St} {H : Hp} {s : Shared}
mutual
theorem Dp.reads (I : Inv X pins σ H s) : ∀ {x : V} {d : PyData}, Dp X.K H x d -> ∀ {u : Value}, RelV x u -> ∃ as, Reads s.heap u d as
  | _, _, .non, u, r => by cases r; exact ⟨_, .none⟩
  | _, _, .bl b, u, r => by cases r; exact ⟨_, .bool b⟩
  | _, _, .int i, u, r => by obtain ⟨t, rfl⟩ := r; exact ⟨_, .int i t⟩
  | _, _, .str x, u, r => by obtain ⟨t, rfl⟩ := r; exact ⟨_, .str x t⟩
  | _, _, .lst h q, u, r => by
    cases r
    obtain ⟨its, rv, p, hz⟩ := I.list h
    obtain ⟨o, e1, e2, n, e3⟩ := p.isList
    obtain ⟨as, ra⟩ := Dps.reads I q rv
    exact ⟨_, .list e1 e2 e3 (by simpa using ra)⟩
  | _, _, .tup h q, u, r => by
    cases r
    obtain ⟨its, rv, p, hz⟩ := I.tuple h
    obtain ⟨o, e1, e2, n, e3⟩ := (show s.heap.IsTuple _ its.toArray from p)
    obtain ⟨as, ra⟩ := Dps.reads I q rv
    exact ⟨_, .tuple e1 e2 e3 (by simpa using ra)⟩
theorem Dps.reads (I : Inv X pins σ H s) : ∀ {xs : List V} {ds : List PyData}, Dps X.K H xs ds -> ∀ {us : List Value}, Vals xs us -> ∃ as, ReadsAll s.heap us ds as
  | _, _, .nil, us, r => by cases r; exact ⟨_, .nil⟩
  | _, _, .cons a q, us, r => by
    cases r with
    | cons r1 r2 =>
      obtain ⟨as, h1⟩ := Dp.reads I a r1
      obtain ⟨bs, h2⟩ := Dps.reads I q r2
      exact ⟨_, .cons h1 h2⟩
end
end
section
variable {X : Cx}
def rEqD (K : W.Frag) : R2 := fun x y H Q => ∃ d e, Dp K H x d /\ Dp K H y e /\ d.canLay0 = true /\ e.canLay0 = true /\ min d.depth e.depth <= 60 /\ Q (.bl (PyData.eqv d e)) H
def rNeD (K : W.Frag) : R2 := fun x y H Q => ∃ d e, Dp K H x d /\ Dp K H y e /\ d.canLay0 = true /\ e.canLay0 = true /\ min d.depth e.depth <= 60 /\ Q (.bl (!PyData.eqv d e)) H
theorem op_eqD {k : Nat} (hr : Room k X.A) : OpR X (compareOp .Eq) (rEqD X.K) := by
  intro pins s σ H x y v u Q I rx ry h
  obtain ⟨d, e, h1, h2, c1, c2, hd, q⟩ := h
  obtain ⟨as, r1⟩ := h1.reads I rx
  obtain ⟨bs, r2⟩ := h2.reads I ry
  exact SeqAt.compareEq_reads r1 r2 c1 c2 (by have := hr.units; omega) ⟨.bl _, H, I, rfl, q⟩
theorem op_neD {k : Nat} (hr : Room k X.A) : OpR X (compareOp .NotEq) (rNeD X.K) := by
  intro pins s σ H x y v u Q I rx ry h
  obtain ⟨d, e, h1, h2, c1, c2, hd, q⟩ := h
  obtain ⟨as, r1⟩ := h1.reads I rx
  obtain ⟨bs, r2⟩ := h2.reads I ry
  exact SeqAt.compareNe_reads r1 r2 c1 c2 (by have := hr.units; omega) ⟨.bl _, H, I, rfl, q⟩
end
theorem Same.new {H : Hp} {p : Addr} (h : H p = none) (o : HO) : Same H (upd H p o) := fun b u q => by rw [upd_ne (ne_of_none q h)]; exact q
theorem Wk.set {n : Nat} {fr : List Nat} {σ : St} {i : Nat} {v : V} (hi : i < n) : Wk (blkσ n fr σ) ((blkσ n fr σ).set i (some v)) := by
  refine ⟨by simp, fun j w e => ?_⟩
  by_cases hj : j = i
  . subst hj
    unfold blkσ at e
    rw [List.getElem?_append_left (by simpa using hi), List.getElem?_replicate] at e
    split at e <;> cases e
  . rw [List.getElem?_set_ne (Ne.symm hj)]; exact e
structure ItIs (J : It) (H1 : Hp) (xs : List V) : Prop where
  go : ∀ i H, Same H1 H -> i < xs.length -> J.go i H
  yld : ∀ i H x H', Same H1 H -> i < xs.length -> J.yld i H x H' -> H' = H /\ xs[i]? = some x
  stop : ∀ H, Same H1 H -> J.stop xs.length H
theorem itIs_list {K : W.Frag} {a : Addr} {xs : List V} {H1 : Hp} (h : SqL K H1 a xs) : ItIs (Itl K a) H1 xs :=
  ⟨fun i H e hi => ⟨xs, xs[i], e.seq h, List.getElem?_eq_getElem hi⟩, fun i H x H' e hi y => ⟨y.1, y.2 xs (e.seq h)⟩, fun H e => ⟨xs, e.seq h, Nat.le_refl _⟩⟩
theorem itIs_tup {K : W.Frag} {a : Addr} {xs : List V} {H1 : Hp} (h : SqT K H1 a xs) : ItIs (Itt K a) H1 xs :=
  ⟨fun i H e hi => ⟨xs, xs[i], e.tseq h, List.getElem?_eq_getElem hi⟩, fun i H x H' e hi y => ⟨y.1, y.2 xs (e.tseq h)⟩, fun H e => ⟨xs, e.tseq h, Nat.le_refl _⟩⟩
theorem itIs_range {lo : Int} {n : Nat} {H1 : Hp} : ItIs (Itr lo n) H1 ((List.range n).map fun (i : Nat) => V.int (lo + (i : Int))) :=
  ⟨fun i H e hi => (show i < n from by simpa using hi), fun i H x H' e hi y => ⟨y.1, by rw [y.2, List.getElem?_map, List.getElem?_range (by simpa using hi)]; rfl⟩, fun H e => by simp [Itr]⟩
theorem Paired.app {α β : Type} {F : α -> β -> Prop} : ∀ {a c : List α} {b d : List β}, Paired F a b -> Paired F c d -> Paired F (a ++ c) (b ++ d)
  | _, _, _, _, .nil, s => s
  | _, _, _, _, .cons r t, s => .cons r (Paired.app t s)
section
variable {xs : List V} {J : It} {n : Nat} {fr : List Nat} {g : TG} {te : TE} {σ : St} {H1 : Hp} {p : Addr} {D : Hp -> Prop}
theorem lc_map (hJ : ItIs J H1 xs) (hp : H1 p = none) (hz : xs.length < sizeLine) (F : V -> V)
    (step : ∀ (i : Nat) x H (N : VK), xs[i]? = some x -> Same H1 H -> N (F x) H -> g x (blkσ n fr σ) H fun σ2 H2 => Wk (blkσ n fr σ) σ2 /\ te σ2 H2 N)
    (hd : D (upd H1 p (.lst (xs.map F)))) : lcW n fr g te σ J H1 p D := by
  refine ⟨fun i m ys H => m = xs.length - i /\ i <= xs.length /\ ys = (xs.take i).map F /\ H = upd H1 p (.lst ys), ⟨xs.length, by simp, Nat.zero_le _, by simp, rfl⟩, ?_⟩
  rintro i m ys H ⟨rfl, hi, rfl, rfl⟩
  have e := Same.new (o := .lst ((xs.take i).map F)) hp
  by_cases hlt : i < xs.length
  . refine .inr ⟨hJ.go i _ e hlt, fun x H' y => ?_⟩
    obtain ⟨rfl, hx⟩ := hJ.yld i _ x H' e hlt y
    refine step i x _ _ hx e ⟨upd_same, by rw [List.length_map, List.length_take]; omega, xs.length - (i + 1), by omega, rfl, hlt, ?_, upd_upd⟩
    rw [List.take_succ, hx, List.map_append]; rfl
  . have : i = xs.length := by omega
    subst this
    refine .inl ⟨hJ.stop _ e, ?_⟩
    rw [List.take_of_length_le (Nat.le_refl _)]; exact hd
theorem lc_same (hJ : ItIs J H1 xs) (hp : H1 p = none) (hz : xs.length < sizeLine) (R : Nat -> V -> Hp -> Prop) (hR : ∀ i y H H', R i y H -> (∀ b o, b ≠ p -> H b = some o -> H' b = some o) -> R i y H')
    (step : ∀ (i : Nat) x H ys (N : VK), xs[i]? = some x -> Same H1 H -> H p = some (.lst ys) -> (∀ v H3, Same H H3 -> R i v H3 -> N v H3) -> g x (blkσ n fr σ) H fun σ2 H2 => Wk (blkσ n fr σ) σ2 /\ te σ2 H2 N)
    (hd : ∀ ys H, Same H1 H -> H p = some (.lst ys) -> ys.length = xs.length -> (∀ i y, ys[i]? = some y -> R i y H) -> D H) : lcW n fr g te σ J H1 p D := by
  refine ⟨fun i m ys H => m = xs.length - i /\ i <= xs.length /\ Same H1 H /\ H p = some (.lst ys) /\ ys.length = i /\ ∀ j y, ys[j]? = some y -> R j y H, ⟨xs.length, by simp, Nat.zero_le _, Same.new hp _, upd_same, rfl, fun j y e => by simp at e⟩, ?_⟩
  rintro i m ys H ⟨rfl, hi, e, hH, len, pr⟩
  by_cases hlt : i < xs.length
  . refine .inr ⟨hJ.go i _ e hlt, fun x H' y => ?_⟩
    obtain ⟨rfl, hx⟩ := hJ.yld i _ x H' e hlt y
    refine step i x _ ys _ hx e hH fun v H3 s3 r3 => ⟨s3 _ _ hH, by omega, xs.length - (i + 1), by omega, rfl, hlt, fun b o q => ?_, upd_same, by rw [List.length_append, len]; rfl, fun j y ey => ?_⟩
    . rw [upd_ne (ne_of_none q hp)]; exact s3 _ _ (e _ _ q)
    . have up : ∀ b o, b ≠ p -> H3 b = some o -> upd H3 p (.lst (ys ++ [v])) b = some o := fun b o hb q => by rw [upd_ne hb]; exact q
      by_cases hj : j < ys.length
      . rw [List.getElem?_append_left hj] at ey
        exact hR j y _ _ (pr j y ey) fun b o hb q => up b o hb (s3 _ _ q)
      . rw [List.getElem?_append_right (by omega)] at ey
        have hj' : j - ys.length = 0 := by
          cases q : j - ys.length with
          | zero => rfl
          | succ k => rw [q] at ey; simp at ey
        rw [hj'] at ey
        have : j = i := by omega
        subst this
        simp at ey
        subst ey
        exact hR j v _ _ r3 up
  . have : i = xs.length := by omega
    subst this
    exact .inl ⟨hJ.stop _ e, hd ys H e hH len pr⟩
end
end L2
namespace L2
open PySem PySem.Spec PyProof.Rows
theorem Inv.turnedLaid {X : Cx} {pins : List (Addr × Obj)} {σ : St} {H : Hp} {s : Shared} {h' : Heap} {fp : List Addr} {T : Addr} {xs : List V} {its : List Value} (I : Inv X pins σ H s) (hf : ∀ b ∈ fp, FpOk X pins H b)
    (k : ∀ b o, b ∉ fp -> s.heap.get? b = some o -> h'.get? b = some o) (ho : ∀ b ∈ fp, ∃ o, h'.get? b = some o) (hT : s.heap.objs.size <= T) (hz : xs.length <= sizeLine) (hv : Vals xs its) (ht : IsTup h' T its.toArray) :
    Inv X pins σ (upd H T (.tup xs)) { s with heap := h' } := by
  have hTn : H T = none := I.hok.fresh hT
  have neT : ∀ b o, s.heap.get? b = some o -> b ≠ T := fun b o e => Nat.ne_of_lt (Nat.lt_of_lt_of_le (Heap.lt_size e) hT)
  refine I.step (g' := s.gens) (t' := s.toks) (d' := s.drawn) (ch := fp) (fun b hb => ⟨(hf b hb).2.2.2.1, (hf b hb).2.1, (hf b hb).2.2.2.2.1, (hf b hb).2.2.2.2.2⟩) (fun b o _ _ hc e _ => k b o hc e) (fun b o _ _ hc e _ => ⟨o.slots, k b o hc e⟩)
    (fun b o hc e n => by rw [upd_ne (neT b o e)]; exact n) (fun b o hc e => ⟨o, k b o hc e⟩) (fun b ys e => by rw [upd_ne (ne_of_none e hTn)]; exact e) (fun b o u e => by rw [upd_ne (ne_of_none e hTn)]; exact e) (fun b ps e => ⟨#[], by rw [upd_ne (ne_of_none e hTn), e]; simp⟩)
    (fun m hm => ?_) (fun b u e => ?_) I.bare
  . obtain ⟨o, es, ep, e1, r⟩ := hm
    exact ⟨o, es, ep, k _ o (fun z => (hf _ z).2.1 rfl) e1, r⟩
  . by_cases hb : b = T
    . subst hb; rw [upd_same] at e; cases e
      exact ⟨hz, its, hv, ht⟩
    . rw [upd_ne hb] at e
      have nit : ∀ c u, H c = some u -> c ∉ fp := fun c u q z => by rw [(hf c z).1] at q; cases q
      refine (I.hok b u e).stay (fun c v hc q => k c v ?_ q) (fun c q => by rw [upd_ne (ne_of_none q hTn)]; exact q) fun c ys q => by rw [upd_ne (ne_of_none q hTn)]; exact q
      rcases hc with z | z
      . rw [z]; exact nit b u e
      . exact nit c _ z
theorem Inv.turnedAll {X : Cx} {pins : List (Addr × Obj)} {σ : St} {H : Hp} {s : Shared} {h' : Heap} {fp : List Addr} (I : Inv X pins σ H s) (hf : ∀ b ∈ fp, FpOk X pins H b)
    (k : ∀ b o, b ∉ fp -> s.heap.get? b = some o -> h'.get? b = some o) : Inv X pins σ H { s with heap := h' } := by
  refine I.step (g' := s.gens) (t' := s.toks) (d' := s.drawn) (ch := fp) (fun b hb => ⟨(hf b hb).2.2.2.1, (hf b hb).2.1, (hf b hb).2.2.2.2.1, (hf b hb).2.2.2.2.2⟩) (fun b o _ _ hc e _ => k b o hc e) (fun b o _ _ hc e _ => ⟨o.slots, k b o hc e⟩)
    (fun b o hc e n => n) (fun b o hc e => ⟨o, k b o hc e⟩) (fun b ys e => e) (fun b o u e => e) (fun b ps e => ⟨#[], by rw [e]; simp⟩)
    (fun m hm => ?_) (fun b u e => ?_) I.bare
  . obtain ⟨o, es, ep, e1, r⟩ := hm
    exact ⟨o, es, ep, k _ o (fun z => (hf _ z).2.1 rfl) e1, r⟩
  . have nit : ∀ c u, H c = some u -> c ∉ fp := fun c u q z => by rw [(hf c z).1] at q; cases q
    refine (I.hok b u e).stay (fun c v hc q => k c v ?_ q) (fun c q => q) fun c ys q => q
    rcases hc with z | z
    . rw [z]; exact nit b u e
    . exact nit c _ z
theorem zapart (n l1 l2 : Nat) (h1 : l1 < n) (h2 : l2 < n) : ZipApart (n + 4) (n + 2) (n + 3) n (n + 1) l1 l2 where
  TIz := (by omega : (n + 2 : Nat) ≠ n + 4)
  TOz := (by omega : (n + 3 : Nat) ≠ n + 4)
  i1z := (by omega : (n : Nat) ≠ n + 4)
  i2z := (by omega : (n + 1 : Nat) ≠ n + 4)
  TITO := (by omega : (n + 2 : Nat) ≠ n + 3)
  TIi1 := (by omega : (n + 2 : Nat) ≠ n)
  TIi2 := (by omega : (n + 2 : Nat) ≠ n + 1)
  TOi1 := (by omega : (n + 3 : Nat) ≠ n)
  TOi2 := (by omega : (n + 3 : Nat) ≠ n + 1)
  i12 := (by omega : (n : Nat) ≠ n + 1)
  l1z := (by omega : (l1 : Nat) ≠ n + 4)
  l1TO := (by omega : (l1 : Nat) ≠ n + 3)
  l1i1 := (by omega : (l1 : Nat) ≠ n)
  l1i2 := (by omega : (l1 : Nat) ≠ n + 1)
  l2z := (by omega : (l2 : Nat) ≠ n + 4)
  l2TO := (by omega : (l2 : Nat) ≠ n + 3)
  l2i1 := (by omega : (l2 : Nat) ≠ n)
  l2i2 := (by omega : (l2 : Nat) ≠ n + 1)
section
variable {X : Cx}
theorem log2_lt {y : Nat} (h : y < 2 ^ 8000) : y.log2 < 9000 := by
  by_cases h0 : y = 0
  . subst h0; decide
  . exact Nat.lt_of_lt_of_le ((Nat.log2_lt h0).mpr h) (by decide)
def Big (n : Nat) (i : Int) : Prop := i.natAbs < 2 ^ n
end
theorem Same.write {H H' : Hp} {p : Addr} {o : HO} (e : Same H H') (hp : H p = none) : Same H (upd H' p o) := fun b u q => by rw [upd_ne (ne_of_none q hp)]; exact e b u q
section
variable {xs : List V} {J : It} {fr : List Nat} {tc : TT} {σ : St} {H1 : Hp} {p : Addr} {D : Hp -> Prop}
end
end L2
namespace L2
open PySem PySem.W
theorem tyClassAttr : typeOf (.builtin "object.__class__") = pure (.type "getset_descriptor") := by kernel_rfl
theorem ownClassAttr : (".".intercalate ("object.__class__".cutAt '.').dropLast) = "object" := by
  have e0 : "object.__class__".cutAt '.' = ["object", "__class__"] := by decide +kernel
  rw [e0]
  decide +kernel
section
variable {prog : Program} {w : World} {A : Around} {E : Value -> Shared -> Prop} {s : Shared} {K : Frag} {x C D : Addr} {ox : Obj}
theorem exc_cget {R : Result -> Shared -> Prop} (X : K.In s.heap) (hx : s.heap.get? x = some ox) (hc : ox.cls = .ref D) (hm : mroIn K D (.type "object") = some true) (hq : R (.ok (.ret (.ref D))) s) :
    codeAny (model prog w) A (.call (.builtin "getset_descriptor.__get__") ⟨[.builtin "object.__class__", .ref x, .ref D], []⟩) R s := by
  obtain ⟨h, g, d, t, os⟩ := s
  have L1 := looks_mroIn (M := model prog w) X hm
  have hT5 : (⟨h, g, d, t, os⟩ : Shared).TypeIs (.builtin "object.__class__") "getset_descriptor" := tyClassAttr
  refine codeAny_call_builtin F.slot_gs_get.plain F.entry_gs_get (F.slot_gs_get.check _ _ _ _ _ _ _ _ hT5 (F.args_gs_get _ _ _) ?_)
  repeat (any_goals (first | assumption | (with_reducible refine wpAny_loadPart_at hx ?_; rw [hc]) | with_reducible refine L1.at ?_ | wp_step))
  rw [ownClassAttr]
  refine L1.at ?_
  repeat (any_goals (first | assumption | wp_step))
  refine ⟨Code.quiet_builtin _ (by decide +kernel), codeAny_builtin KF.entry_class ?_⟩
  unfold Builtin.«object.__class__»
  repeat (any_goals (first | assumption | (with_reducible refine wpAny_loadPart_at hx ?_; rw [hc]) | wp_step))
theorem exc_entry {tk : Tok} {Q : PySem.Fin -> Shared -> Prop} (X : K.In s.heap) (hx : s.heap.get? x = some ox) (hc : ox.cls = .ref D) (ha : findIn K (.ref D) "__class__" = some (some (.builtin "object.__class__")))
    (hm : mroIn K D (.type "object") = some true)
    (hq : Q (.done (.ret (.ref D))) s) :
    wpAny (model prog w) A (Builtin.«object.__getattribute__» ⟨[.ref x, .str "__class__" tk], []⟩) Q E s := by
  obtain ⟨h, g, d, t, os⟩ := s
  have L1 := looks_findIn (M := model prog w) X ha
  have hT5 : (⟨h, g, d, t, os⟩ : Shared).TypeIs (.builtin "object.__class__") "getset_descriptor" := tyClassAttr
  have f5 := tyClassAttr
  have f6 := F.slot_gs_get.lookup
  have f7 := F.slot_gs_set.lookup
  unfold Builtin.«object.__getattribute__»
  repeat (any_goals (first | assumption | (with_reducible refine wpAny_loadPart_at hx ?_; rw [hc]) | with_reducible refine L1.at ?_ | wp_step))
  refine exc_cget X hx hc hm ?_
  repeat (any_goals (first | assumption | wp_step))
theorem exc_check {nv : Value} {Q : Unit -> Shared -> Prop} (X : K.In s.heap) (hx : s.heap.get? x = some ox) (hc : ox.cls = .ref D) (hb : mroIn K D (.type "BaseException") = some true) (hq : Q () s) :
    wpAny (model prog w) A (checkBuiltinCall "BaseException.__getattribute__" ⟨[.ref x, nv], []⟩) Q E s := by
  have hk : builtinKind "BaseException.__getattribute__" = some .slot := by decide +kernel
  have hsplit : splitId "BaseException.__getattribute__" = some ("BaseException", "__getattribute__") := by decide +kernel
  have ag := F.args_bexc_ga (.ref x) nv
  obtain ⟨h, g, d, t, os⟩ := s
  have L1 := looks_mroIn (M := model prog w) X hb
  simp only [checkBuiltinCall, hk, hsplit]
  refine wpAny_bind ?_
  unfold isInstance
  repeat (first | (with_reducible refine wpAny_loadPart_at hx ?_; rw [hc]) | with_reducible refine L1.at ?_ | wp_step)
  exact hq
theorem exc_call {tk : Tok} {R : Result -> Shared -> Prop} (X : K.In s.heap) (hx : s.heap.get? x = some ox) (hc : ox.cls = .ref D) (ha : findIn K (.ref D) "__class__" = some (some (.builtin "object.__class__")))
    (hm : mroIn K D (.type "object") = some true) (hb : mroIn K D (.type "BaseException") = some true) (hq : R (.ok (.ret (.ref D))) s) :
    codeAny (model prog w) A (.call (.builtin "BaseException.__getattribute__") ⟨[.ref x, .str "__class__" tk], []⟩) R s :=
  codeAny_call_builtin F.excAttr_ValueError.ga.plain F.entry_bexc_ga (exc_check X hx hc hb (exc_entry X hx hc ha hm hq))
theorem exc_class {Q : Option Value -> Shared -> Prop} (X : K.In s.heap) (hx : s.heap.get? x = some ox) (hc : ox.cls = .ref D) (hga : findIn K (.ref D) "__getattribute__" = some (some (.builtin "BaseException.__getattribute__")))
    (hgn : findIn K (.ref D) "__getattr__" = some none) (ha : findIn K (.ref D) "__class__" = some (some (.builtin "object.__class__")))
    (hm : mroIn K D (.type "object") = some true) (hb : mroIn K D (.type "BaseException") = some true) (hq : Q (some (.ref D)) { s with toks := s.toks + 1 }) :
    wpAny (model prog w) A (getAttr? (.ref x) "__class__") Q E s := by
  obtain ⟨h, g, d, t, os⟩ := s
  have L1 := looks_findIn (M := model prog w) X hga
  have L2 := looks_findIn (M := model prog w) X hgn
  have f3 := F.excAttr_ValueError.ga.bind (.ref x)
  have hx2 : (Value.builtin "BaseException.__getattribute__" == Value.builtin "object.__getattribute__") = false := by decide +kernel
  have hx1 : (onTheHeap (Value.ref D) && Value.builtin "BaseException.__getattribute__" == Value.builtin "object.__getattribute__") = false := by rw [hx2]; rfl
  have hx0 : (false && onTheHeap (Value.builtin "BaseException.__getattribute__")) = false := rfl
  unfold getAttr?
  repeat (any_goals (first | assumption | (with_reducible refine wpAny_loadPart_at hx ?_; rw [hc]) | with_reducible refine L1.at ?_ | with_reducible refine L2.at ?_ | wp_step))
  refine exc_call X hx hc ha hm hb ?_
  repeat (any_goals (first | assumption | wp_step))
end
structure ExcK (K : Frag) (D : Addr) : Prop where
  ob : ∃ nm q N bs bm hdct sn sub ab col dd k0 k1 k2 k3 k5, K.lookup D = some (excClassObj nm q D N bs bm hdct sn sub ab col dd k0 k1 k2 k3 k5 "ValueError.__new__") /\ nsOkIn K N = true /\ nsIn K N "__init__" = some none ∧
    tailIn K [.type "ValueError", .type "Exception", .type "BaseException", .type "object"] bm = true
  ga : findIn K (.ref D) "__getattribute__" = some (some (.builtin "BaseException.__getattribute__"))
  gn : findIn K (.ref D) "__getattr__" = some none
  ca : findIn K (.ref D) "__class__" = some (some (.builtin "object.__class__"))
  mo : mroIn K D (.type "object") = some true
  mb : mroIn K D (.type "BaseException") = some true
def ExcAt (ea D : Addr) (h : Heap) : Prop := ∃ o, h.get? ea = some o /\ o.cls = .ref D
theorem kitx_exc {K : Frag} {D ea : Addr} (k : ExcK K D) : KitX K (.ref ea) (.ref D) (ExcAt ea D) where
  ty := fun M h X p => by
    obtain ⟨o, h1, h2⟩ := p
    exact h2 ▸ (Looks.ld h1).andThen .now
  it := fun M h X p => by
    obtain ⟨_, _, _, _, _, _, _, _, _, _, _, _, _, _, _, _, lk, _⟩ := k.ob
    intro A' Q' E' s' kk q
    unfold isType loadHead
    exact wpAny_bind (wpAny_loadPart (kk _ _ (X _ _ lk)) (wpAny_pure q))
  ne := fun h tp dd its n sl X htp => Bool.eq_false_iff.mpr fun q => by
    obtain ⟨_, _, _, _, _, _, _, _, _, _, _, _, _, _, _, _, lk, _⟩ := k.ob
    have e : D = tp := Value.ref.inj (beq_iff_eq.mp q)
    subst e
    have z := (X _ _ lk).symm.trans htp
    exact absurd (Value.type.inj (congrArg Obj.cls (Option.some.inj z))) (by decide)
  ca := fun {prog w A E Q s} X p kk => by
    obtain ⟨o, h1, h2⟩ := p
    exact exc_class X h1 h2 k.ga k.gn k.ca k.mo k.mb kk
def ExcO (ea D : Addr) : HO := .ext (ExcAt ea D)
theorem excO_ok {P : Program} {w : World} {H : Hp} {h : Heap} {ea D : Addr} (e : ExcAt ea D h) : ObjOk P w H h ea (ExcO ea D) :=
  ⟨e, let ⟨o, h1, _⟩ := e; ⟨o, h1⟩, fun h1 h2 ⟨o, a, b⟩ k => ⟨o, k o a, b⟩⟩
theorem call_isinstX {X : Cx} : CallR X (.builtin "isinstance") (fun vs H Q => ∃ (ea D : Addr) (c : V) (b : Bool), vs = [.ref ea, c] /\ H ea = some (ExcO ea D) /\ ExcK X.K D /\ (∀ u, RelV c u -> kitOne X.K (.ref D) u = some b) /\ Q (.bl b) H) := by
  intro pins s σ H vs us Q I r h
  obtain ⟨ea, D, c, b, rfl, he, k, e, q⟩ := h
  obtain ⟨u, v, rfl, ru, rv⟩ := vals2 r
  cases (show u = Value.ref ea from ru)
  have ho : ObjOk X.prog X.w H s.heap ea (ExcO ea D) := I.hok ea _ he
  exact kia_one (kitx_exc k) I.kIn ho.1 (e v rv) (fun z => nomatch z) fun tk => ⟨.bl b, H, I.tok _, rfl, q⟩
theorem exc_match {prog : Program} {w : World} {A : Around} {E : Value -> Shared -> Prop} {s : Shared} {K : Frag} {ea D R : Addr} {oe : Obj} {Q : Bool -> Shared -> Prop} (X : K.In s.heap) (hx : s.heap.get? ea = some oe) (hc : oe.cls = .ref D)
    (hs : mroIn K D (.ref R) = some true) (kR : ExcK K R) (hq : Q true s) : wpAny (model prog w) A (excMatches (.ref ea) (.ref R)) Q E s := by
  obtain ⟨h, g, d, t, os⟩ := s
  obtain ⟨_, _, _, _, _, _, _, _, _, _, _, _, _, _, _, _, lk, _⟩ := kR.ob
  have hR := X _ _ lk
  have L1 := looks_mroIn (M := model prog w) X hs
  have L2 := looks_mroIn (M := model prog w) X kR.mb
  have f := tc_notTuple
  unfold excMatches
  repeat (first | with_reducible refine L1.at ?_ | with_reducible refine L2.at ?_ | (with_reducible refine wpAny_loadPart_at hx ?_; rw [hc]) | with_reducible refine wpAny_loadPart_at hR ?_ | wp_step)
  exact hq
end L2
namespace L2
open PySem PySem.Spec PyProof.Rows
theorem ObjOk.got {P : Program} {w : World} {H : Hp} {h : Heap} {a : Addr} {o : HO} (x : ObjOk P w H h a o) : ∃ ob, h.get? a = some ob := by
  cases o with
  | lst xs => obtain ⟨_, _, _, _, e⟩ := x; exact ⟨_, e⟩
  | tup xs => obtain ⟨_, _, _, ob, e, _⟩ := x; exact ⟨ob, e⟩
  | dK kvs => obtain ⟨_, _, _, _, ob, _, _, e, _⟩ := x; exact ⟨ob, e⟩
  | dT kvs => obtain ⟨_, _, _, _, ob, _, _, e, _⟩ := x; exact ⟨ob, e⟩
  | set S n => obtain ⟨ob, _, _, _, e, _⟩ := x; exact ⟨ob, e⟩
  | ins C dx fs => obtain ⟨_, _, _, e, _⟩ := x; exact ⟨_, e⟩
  | own y => exact x
  | xd fs => obtain ⟨_, ⟨ob, _, _, e, _⟩, _⟩ := x; exact ⟨ob, e⟩
  | rng lo hi => obtain ⟨_, _, _, e⟩ := x; exact ⟨_, e⟩
  | frz ob u => obtain ⟨e, _⟩ := x; exact ⟨_, e⟩
  | tbl ps => exact ⟨_, (show h.get? a = some _ from x)⟩
  | met f y => exact ⟨_, (show h.get? a = some _ from x)⟩
  | ext φ => obtain ⟨_, e, _⟩ := x; exact e
theorem Un.slots {fs ex : List Addr} {H0 H' : Hp} {h0 h1 h2 : Heap} (u : Un fs ex H0 H' h0 h1) (hb : ∀ b o, h1.get? b = some o -> (∃ o0, h0.get? b = some o0) -> b ∉ fs -> h2.get? b = some o)
    (hf : ∀ b ∈ fs, ∀ o, h1.get? b = some o -> ∃ sl, h2.get? b = some { o with slots := sl }) : Un fs ex H0 H' h0 h2 where
  keep := fun b o q n hfs hx => hb b o (u.keep b o q n hfs hx) ⟨o, q⟩ hfs
  slot := fun b o q n hfs hx => by
    obtain ⟨sl, e⟩ := u.slot b o q n hfs hx
    obtain ⟨sl', e'⟩ := hf b hfs _ e
    exact ⟨sl', e'⟩
  free := u.free
  there := fun b o q hx => by
    obtain ⟨o', e⟩ := u.there b o q hx
    by_cases hm : b ∈ fs
    . obtain ⟨sl, e'⟩ := hf b hm _ e; exact ⟨_, e'⟩
    . exact ⟨_, hb b o' e ⟨o, q⟩ hm⟩
  tups := u.tups
  frzs := u.frzs
  tbls := u.tbls
theorem HOk.slots {P : Program} {w : World} {H : Hp} {h h' : Heap} (x : HOk P w H h) (k : ∀ b u o, H b = some u -> h.get? b = some o -> h'.get? b = some o) : HOk P w H h' := fun a o e =>
  (x a o e).stay (fun b u hb q => by
    rcases hb with rfl | hb
    . exact k b o u e q
    . exact k b _ u hb q) (fun _ q => q) fun _ _ q => q
structure Fly (P : Program) (w : World) (l : List Env) (H : Hp) (s : Shared) (ea t D : Addr) (B : Heap) (H' : Hp) (s' : Shared) : Prop where
  os : s'.os = s.os
  bare : AllBare s'.gens
  un : Un (frs l) [] H H' s.heap s'.heap
  hok : HOk P w H' s'.heap
  fly : Heap.FlyingW B l ea (.ref D) (.ref t) s'.heap
  inb : ∀ b o, s'.heap.get? b = some o -> ((∃ o0, s.heap.get? b = some o0) /\ b ∉ frs l) \/ H' b ≠ none -> B.get? b = some o
def CX1 (P : Program) (w : World) : CXT := fun l H s E e s' => ∃ (ea t D : Addr) (B : Heap) (H' : Hp), e = .ref ea /\ Fly P w l H s ea t D B H' s' /\ E (.ref D) none H'
section
variable {P : Program} {w : World} {l : List Env} {H : Hp} {s s' : Shared} {ea t D : Addr} {B h' : Heap} {H' : Hp}
theorem Fly.slots (F : Fly P w l H s ea t D B H' s') (fl : Heap.FlyingW B l ea (.ref D) (.ref t) h') (up : s'.heap.UpToSlots h') : Fly P w l H s ea t D B H' { s' with heap := h' } := by
  have st : ∀ b o, B.get? b = some o -> h'.get? b = some o := fl.1
  refine ⟨F.os, F.bare, F.un.slots (fun b o q z hn => st b o (F.inb b o q (.inl ⟨z, hn⟩))) (fun b hb o q => ?_), F.hok.slots (fun b u o e q => st b o (F.inb b o q (.inr (by rw [e]; simp)))), fl, fun b o q z => ?_⟩
  . obtain ⟨_, o', ho', hd⟩ := F.fly.2.2.1.mem hb
    rw [q] at ho'; cases ho'
    exact up b o q hd
  . have : ∃ o1, s'.heap.get? b = some o1 := by
      rcases z with ⟨⟨o0, z⟩, _⟩ | z
      . exact F.un.there b o0 z (by simp)
      . cases e : H' b with
        | none => exact absurd e z
        | some u => exact (F.hok b u e).got
    obtain ⟨o1, q1⟩ := this
    have b1 := F.inb b o1 q1 z
    have := st b o1 b1
    rw [show h'.get? b = some o from q] at this
    cases this
    exact b1
theorem Fly.new (F : Fly P w l H s ea t D B H' s') : s.heap.get? ea = none /\ H' ea = none := by
  obtain ⟨_, hb, hfr, oe, vs, T, oT, ts, he, hc, hd, _⟩ := F.fly
  have nb : ∀ o, B.get? ea ≠ some o := fun o z => by rw [hb] at z; cases z
  constructor
  . cases q : s.heap.get? ea with
    | none => rfl
    | some o0 =>
      refine absurd (F.inb ea oe he (.inl ⟨⟨o0, q⟩, fun hm => ?_⟩)) (nb _)
      obtain ⟨_, o, ho, hnf⟩ := hfr.mem hm
      rw [he] at ho; cases ho
      exact hnf vs hd
  . cases q : H' ea with
    | none => rfl
    | some u => exact absurd (F.inb ea oe he (.inr (by rw [q]; simp))) (nb _)
theorem Fly.at (F : Fly P w l H s ea t D B H' s') : ExcAt ea D s'.heap := by
  obtain ⟨o, h1, h2⟩ := F.fly.there
  exact ⟨o, h1, h2⟩
theorem Fly.inv {X : Cx} {pins : List (Addr × Obj)} {σ : St} (I : Inv X pins σ H s) (F : Fly X.prog X.w X.stack H s ea t D B H' s') : Inv X pins σ H' s' :=
  I.call' F.os F.un F.hok F.bare (fun b z => absurd z (by simp))
theorem Fly.track {X : Cx} {pins : List (Addr × Obj)} {σ : St} (I : Inv X pins σ H s) (F : Fly X.prog X.w X.stack H s ea t D B H' s') : Inv X pins σ (upd H' ea (ExcO ea D)) s' := by
  obtain ⟨n1, n2⟩ := F.new
  have u := F.un
  refine I.call' F.os (ch := []) ⟨u.keep, u.slot, fun b o q n hx => ?_, u.there, fun b xs q => ?_, fun b o xs q => ?_, fun b ps q => ?_⟩ (fun a o e => ?_) F.bare (fun b z => absurd z (by simp))
  . rw [upd_ne (fun z => by rw [z, n1] at q; cases q)]; exact u.free b o q n hx
  . have := u.tups b xs q
    rw [upd_ne (ne_of_none this n2)]; exact this
  . have := u.frzs b o xs q
    rw [upd_ne (ne_of_none this n2)]; exact this
  . obtain ⟨m, e⟩ := u.tbls b ps q
    exact ⟨m, by rw [upd_ne (ne_of_none e n2)]; exact e⟩
  . by_cases ha : a = ea
    . subst ha; rw [upd_same] at e; cases e
      exact excO_ok F.at
    . rw [upd_ne ha] at e
      exact (F.hok a o e).stay (fun _ _ _ q => q) (fun c q => by rw [upd_ne (ne_of_none q n2)]; exact q) fun c xs q => by rw [upd_ne (ne_of_none q n2)]; exact q
end
section
variable {P : Program} {w : World} {K : W.Frag} {mg : Str -> Option Value} {base : Heap} {N : List Str} {qual : Str} {scope : Scope} {f : Addr} {cd : Value} {A : Around} {outer : List Env} {s₀ : Shared} {H₀ : Hp} {E : XK}
theorem not_stack {b : Addr} {o : Obj} {X : Cx} {pins : List (Addr × Obj)} {σ : St} {H : Hp} {s : Shared} (I : Inv X pins σ H s) (e : X.s₀.heap.get? b = some o) (hb : b ∉ frs X.outer) : b ∉ frs X.stack := fun z => by
  rcases List.mem_cons.mp (I.stkSub b z) with q | q
  . have := Nat.lt_of_lt_of_le (Heap.lt_size e) I.ok.above
    rw [q] at this
    exact Nat.lt_irrefl _ this
  . exact hb q
theorem lets1 {pins : List (Addr × Obj)} {σ : St} {H : Hp} {s : Shared} {h1 : Heap} {ea D : Addr} {vs : List Value} (I : Inv (cxOf (CX1 P w) P w K mg base N qual scope f cd A outer s₀ H₀ E) pins σ H s) (hx : Heap.MadeExcOf s.heap h1 ea (.ref D) vs)
    (hE : E (.ref D) none H) : (cxOf (CX1 P w) P w K mg base N qual scope f cd A outer s₀ H₀ E).xe (.ref ea) { s with heap := h1 } := by
  have hin : ∀ env ∈ (envOfC qual scope s₀.heap.objs.size f cd :: outer), ∀ b, env.frame = some b -> b ∈ frs (envOfC qual scope s₀.heap.objs.size f cd :: outer) := fun env he b hb => List.mem_filterMap.mpr ⟨env, he, hb⟩
  refine wpAny_leaves_madeW (base := W.hideAll s.heap (frs (envOfC qual scope s₀.heap.objs.size f cd :: outer))) (h := s.heap) I.ok.frames rfl (fun b o q => W.of_hideAll _ q) (W.funFrames_hide I.stack hin) hx fun h' t fl _ _ up => ?_
  have st : ∀ b o, s.heap.get? b = some o -> b ∉ frs (envOfC qual scope s₀.heap.objs.size f cd :: outer) -> h'.get? b = some o := fun b o q hn => fl.1 b o (W.hideAll_get _ q hn)
  have trn : ∀ b u, H b = some u -> b ∉ frs (envOfC qual scope s₀.heap.objs.size f cd :: outer) := fun b u e z => by
    have := I.stkFree b z
    rw [e] at this; cases this
  refine ⟨ea, t, D, _, H, rfl, ⟨I.os, I.bare, I.base.slots (fun b o q ⟨o0, z⟩ hn => st b o q (not_stack I z hn)) (fun b hb o q => ?_), I.hok.slots (fun b u o e q => st b o q (trn b u e)), fl, fun b o q z => ?_⟩, hE⟩
  . obtain ⟨_, o', ho', hd⟩ := I.funs.mem hb
    rw [q] at ho'; cases ho'
    exact up b o (hx.keeps b o q) hd
  . have : ∃ o1, s.heap.get? b = some o1 /\ b ∉ frs (envOfC qual scope s₀.heap.objs.size f cd :: outer) := by
      rcases z with ⟨⟨o0, z⟩, hn⟩ | z
      . obtain ⟨o1, q1⟩ := I.base.there b o0 z (by show b ∉ ([] : List Addr); simp)
        exact ⟨o1, q1, not_stack I z hn⟩
      . cases e : H b with
        | none => exact absurd e z
        | some u =>
          obtain ⟨o1, q1⟩ := (I.hok b u e).got
          exact ⟨o1, q1, trn b u e⟩
    obtain ⟨o1, q1, hn⟩ := this
    have := st b o1 q1 hn
    rw [show h'.get? b = some o from q] at this
    cases this
    exact W.hideAll_get _ q1 hn
end
end L2
namespace L2
open PySem PySem.Spec PyProof.Rows
section
variable {X : Cx} {e : Expr} {te : TE} {a : Str} {j : Nat} {p1 p2 p3 : Pos}
def tFs (te : TE) : TE := fun σ H Q => te σ H fun v H1 => ∃ i : Int, v = .int i /\ i.natAbs.log2 < 1920 /\ ∀ x, Q (.str x) H1
theorem pe_fstr (he : PE X e te) (ha : a.length <= 1000) : PE X (.JoinedStr [.Constant (.str a) j p1, .FormattedValue e (-1) none p2] p3) (tFs te) := by
  intro pins s σ H Q I h
  refine JoinedStr_many (joinParts_cons ?_)
  refine thn (pe_str pins s σ H (fun v H' => v = .str a /\ H' = H) I ⟨rfl, rfl⟩) fun u s1 ⟨v, H1, I1, r, hv, hH⟩ => ?_
  subst hv; subst hH
  obtain ⟨tk, rfl⟩ := r
  have e0 : (Str.empty ++ a).length = a.length := by rw [strLen_append]; show 0 + a.length = a.length; omega
  refine ⟨by rw [e0]; exact Nat.le_trans ha (by decide), joinParts_cons (FormattedValue_plain ?_)⟩
  refine thn (he pins s1 σ H1 _ I1 h) fun u s2 ⟨v, H2, I2, r, i, hv, hi, q⟩ => ?_
  subst hv
  obtain ⟨tk2, rfl⟩ := r
  refine formatField_int_small hi ?_
  have hl : (Str.empty ++ a ++ Str.ofString (toString i)).length <= sizeLine := by
    rw [strLen_append, e0]
    have h1 := int_text_length_le (a := i) (k := 1920) (by decide) hi
    rw [PySem.ofString_length, sizeLine_eq]
    omega
  refine ⟨hl, joinParts_nil ?_ hl⟩
  exact ⟨.str _, H2, (I2.tok _).tok _, ⟨_, rfl⟩, q _⟩
end
section
variable {P : Program} {w : World} {K : W.Frag} {mg : Str -> Option Value} {base : Heap} {N : List Str} {qual : Str} {scope : Scope} {f : Addr} {cd : Value} {A : Around} {outer : List Env} {s₀ : Shared} {H₀ : Hp} {E : XK}
  {x : Str} {D : Addr} {e : Expr} {t : TA} {np cpos pos : Pos}
def tRaise (t : TA) (D : Addr) (E : XK) : TS := fun _ σ H => t σ H fun vs H1 => vs.length <= 1000 /\ E (.ref D) none H1
theorem ps_raise (k : ExcK K D) (hg : Gl (cxOf (CX1 P w) P w K mg base N qual scope f cd A outer s₀ H₀ E) x) (hm : mg x = some (.ref D)) (hh : A.handled = none)
    (ha : PA (cxOf (CX1 P w) P w K mg base N qual scope f cd A outer s₀ H₀ E) [e] t)
    (he : starEach [e] (envOfC qual scope s₀.heap.objs.size f cd) = [(false, eval e (envOfC qual scope s₀.heap.objs.size f cd))] := by rfl) (hdb : (x == ("__debug__" : Str)) = false := by decide) :
    PS (cxOf (CX1 P w) P w K mg base N qual scope f cd A outer s₀ H₀ E) (.Raise (some (.Call (.Name x np) [e] [] cpos)) none pos) (tRaise t D E) := by
  intro pins s σ H Dn I h
  obtain ⟨nm, q, Na, bs, bm, hdct, sn, sub, ab, col, dd, k0, k1, k2, k3, k5, lk, ok, ni, tl⟩ := k.ob
  have tb : ∀ h : Heap, K.In h -> OwnTail h [.type "ValueError", .type "Exception", .type "BaseException", .type "object"] bm := fun h X => W.tail_of_in X tl
  have nsf : ∀ h : Heap, K.In h -> h.Ns Na (h.nsMap Na) /\ h.nsMap Na "__init__" = none := fun h X => ⟨.of_isNs (W.isNs_of_in X ok), W.nsMap_none_of_in X ok ni⟩
  have hN0 := (nsf s.heap I.kIn).1
  refine wpAny_Raise_call_subT (C := D) (nm := nm) (q := q) (N := Na) (bs := bs) (bm := bm) (hdct := hdct) (sn := sn) (sub := sub) (ab := ab) (col := col) (dd := dd) (k0 := k0) (k1 := k1) (k2 := k2) (k3 := k3) (k5 := k5) (newId := "ValueError.__new__")
    F.excBase_ValueError (mN := base.nsMap Na) ((tb base I.mod.kin).hasType (by decide +kernel)) (by show (A.deeper _).handled = none; exact hh) (by rw [show starEach [e] (cxOf (CX1 P w) P w K mg base N qual scope f cd A outer s₀ H₀ E).env = _ from he]; rfl)
    (nsf base I.mod.kin).2 (ld_glob I hg hm ⟨rfl, ?_⟩ hdb)
  have h2 := ha cpos pins s σ H _ I h
  rw [show starEach [e] (cxOf (CX1 P w) P w K mg base N qual scope f cd A outer s₀ H₀ E).env = _ from he] at h2 ⊢
  refine Calls.evalArgs_plain (wpAny_mono h2 (fun us s2 ⟨vs, H2, I2, r, hl, hE⟩ => ⟨rfl, by rw [<- r.length]; exact Nat.le_of_lt (small1000 hl), I2.kIn _ _ lk, (nsf base I.mod.kin).1.keeps I2.bk, tb _ I2.kIn, fun h' ea hx => lets1 I2 hx hE⟩) fun _ _ z => z)
end
def PassesX (CX : CXT) (X : Cx) (EX : St -> XK) : Prop := ∀ (pins : List (Addr × Obj)) (σ : St) (H : Hp) (s : Shared) (e : Value) (s' : Shared), Inv X pins σ H s -> CX X.stack H s (EX σ) e s' -> X.xe e s'
def tCallX (sp : Sp) (EX : St -> XK) (t : TA) : TE := fun σ H Q => t σ H fun vs H1 => sp vs H1 Q (EX σ)
section
variable {X : Cx} {CX : CXT} {k : Nat} {f : Addr} {fd : FuncData} {ps : List Str} {sp : Sp} {EX : St -> XK} {x : Str} {p pos : Pos} {e : Expr} {es : List Expr} {t : TA}
theorem pe_callX (F : FnOk X.prog X.w X.K X.mg X.base CX k f fd ps sp) (hr : Room k X.A) (hg : Gl X x) (hm : X.mg x = some (.ref f)) (hk : W.keepIn X.K (.ref f) = true) (hb : Binds X.K fd ps []) (hx : PassesX CX X EX)
    (ha : PA X (e :: es) t) (hdb : (x == ("__debug__" : Str)) = false := by decide) (he : starEach (e :: es) X.env = (false, eval e X.env) :: starEach es X.env := by rfl) (hpl : (backTo pos (starEach es X.env)).any (·.1) = false := by rfl) :
    PE X (.Call (.Name x p) (e :: es) [] pos) (tCallX sp EX t) := by
  intro pins s σ H Q I h
  refine wpAny_Call_Name_kw (ld_glob I hg hm ?_ hdb)
  refine W.callWith_K (h₀ := X.base) I.ok.mod.kin hk (thn (ha pos pins s σ H _ I h) fun us s1 ⟨vs, H1, I1, r, q⟩ => ⟨I1.kIn, ?_⟩) he hpl
  have hl : (us ++ []).length = ps.length := by rw [List.append_nil, <- r.length]; exact F.len _ _ _ _ q
  have hb' := hb s1 us I1.kIn hl
  rw [List.append_nil] at hb'
  refine wpAny_call (codeAny_mono (F.run X.A X.stack s1 H1 ⟨us, []⟩ us vs Q (EX σ) hr I1.env0 hb' r q) fun rr s' hq => ?_)
  cases rr with
  | error e => exact hx pins σ H1 s1 e s' I1 hq
  | ok fl =>
    cases fl with
    | ret u => exact I1.after hq
    | next => exact False.elim hq
    | brk => exact False.elim hq
    | cont => exact False.elim hq
end
abbrev Cx.held (X : Cx) (ea : Addr) : Cx := { X with A := X.A.mark (some (.ref ea)), calm := false, xe := fun _ _ => False }
abbrev Cx.tried (X : Cx) (pn : List (Addr × Obj)) (E : Value -> Shared -> Prop) : Cx := { X with pn := pn, xe := E }
section
variable {X : Cx} {pins : List (Addr × Obj)} {σ : St} {H : Hp} {s : Shared} {ea : Addr}
theorem Cx.Ok.held (ok : X.Ok) : (X.held ea).Ok :=
  ⟨ok.mod, ok.kind, ok.glob, ok.blt, ok.above, ok.inj, ok.has, ok.cab, (fun z => Bool.noConfusion z), ok.frames, ok.stk, ok.exf, ok.bs, ok.bsz, ok.noex, ok.exfs, ok.funs, ok.frf⟩
theorem Inv.held (I : Inv X pins σ H s) (ea : Addr) : Inv (X.held ea) pins σ H s := ⟨I.ok.held, I.os, I.bare, I.base, I.loc, I.cell, I.free, I.freeC, I.pin, I.hok, I.len⟩
theorem Inv.unheld (ok : X.Ok) (I : Inv (X.held ea) pins σ H s) : Inv X pins σ H s := ⟨ok, I.os, I.bare, I.base, I.loc, I.cell, I.free, I.freeC, I.pin, I.hok, I.len⟩
theorem Cx.Ok.tried (ok : X.Ok) {pn : List (Addr × Obj)} {E : Value -> Shared -> Prop} : (X.tried pn E).Ok :=
  ⟨ok.mod, ok.kind, ok.glob, ok.blt, ok.above, ok.inj, ok.has, ok.cab, ok.hd, ok.frames, ok.stk, ok.exf, ok.bs, ok.bsz, ok.noex, ok.exfs, ok.funs, ok.frf⟩
theorem Inv.tried (I : Inv X pins σ H s) {E : Value -> Shared -> Prop} : Inv (X.tried (X.pn ++ pins) E) [] σ H s := ⟨I.ok.tried, I.os, I.bare, I.base, I.loc, I.cell, I.free, I.freeC, by rw [List.append_nil]; exact I.pin, I.hok, I.len⟩
theorem Inv.untried (ok : X.Ok) {E : Value -> Shared -> Prop} {pins' : List (Addr × Obj)} (I : Inv (X.tried (X.pn ++ pins) E) pins' σ H s) : Inv X pins σ H s :=
  ⟨ok, I.os, I.bare, I.base, I.loc, I.cell, I.free, I.freeC, fun p hp => I.pin p (List.mem_append_left _ hp), I.hok, I.len⟩
theorem unbind_ok {M : Model} {A : Around} {E : Value -> Shared -> Prop} {i : Nat} {n : Str} {pos : Pos} {Q : Unit -> Shared -> Prop} (I : Inv X pins σ H s) (hN : X.N.Nodup) (hi : X.N[i]? = some n) (hk : X.env.scope.names.lookup n = some .local)
    (h : ∀ s', Inv X pins (σ.set i none) H s' -> Q () s') : wpAny M A (do bindName X.env n .none; unbindBehindTheSuite X.env n pos) Q E s := by
  obtain ⟨m, hn, hl⟩ := id I.loc
  have hcls : (X.env.scope.kind == .class || (X.env.scope.kind == .module && X.env.locals != X.env.globals)) = false := by rw [I.ok.kind]; rfl
  have hiσ : i < σ.length := by rw [I.len]; exact (List.getElem?_eq_some_iff.mp hi).1
  have cne := I.cne
  refine wpAny_nameGoes_keeps hk hn hcls fun h' v hn' hs => ?_
  obtain ⟨oL, _, _, hoL, _⟩ := id hn
  have far : ∀ b o, X.s₀.heap.get? b = some o -> b ≠ X.env.locals := fun b o e => Nat.ne_of_lt (Nat.lt_of_lt_of_le (Heap.lt_size e) I.ok.above)
  refine h _ ⟨I.ok, I.os, I.bare, ⟨fun b o e n hb hx => ?_, fun b o e n hb hx => ?_, I.base.free, fun b o e hx => ?_, I.base.tups, I.base.frzs, I.base.tbls⟩, ⟨_, hn', fun j y v' e1 e2 e3 => ?_⟩, fun y c e => ?_, I.free, I.freeC, fun p hp => ?_, fun b ob e => ?_, by simpa using I.len⟩
  . exact (hs.2 b (far b o e)).trans (I.base.keep b o e n hb hx)
  . obtain ⟨sl, e1⟩ := I.base.slot b o e n hb hx
    exact ⟨sl, (hs.2 b (far b o e)).trans e1⟩
  . obtain ⟨o', e1⟩ := I.base.there b o e hx
    exact ⟨o', (hs.2 b (far b o e)).trans e1⟩
  . by_cases hj : j = i
    . subst hj
      rw [List.getElem?_set_self hiσ] at e2
      cases e2
    . rw [List.getElem?_set_ne (Ne.symm hj)] at e2
      obtain ⟨u', r', q⟩ := hl j y v' e1 e2 e3
      refine ⟨u', r', ?_⟩
      rcases q with ⟨k, e⟩ | ⟨k, c, e, z⟩
      . refine .inl ⟨k, ?_⟩
        have : y ≠ n := fun e => hj (nodup_ix hN e1 (e ▸ hi))
        simp [this, e]
      . exact .inr ⟨k, c, e, z.sameBut hs (cne y c e)⟩
  . obtain ⟨w', z⟩ := I.cell y c e
    exact ⟨w', z.sameBut hs (cne y c e)⟩
  . obtain ⟨e, n, ne, nf, d⟩ := I.pin p hp
    exact ⟨(hs.2 p.1 ne).trans e, n, ne, nf, d⟩
  . refine (I.hok b ob e).stay (fun c w' hc q => (hs.2 c ?_).trans q) (fun _ q => q) fun _ _ q => q
    rintro rfl
    rcases hc with z | hc
    . rw [<- z, I.free] at e; cases e
    . rw [I.free] at hc; cases hc
end
def Ends.less (D : Ends) (i : Nat) : Ends := { nx := fun σ H => D.nx (σ.set i none) H, rt := D.rt, bk := fun σ H => D.bk (σ.set i none) H, ct := fun σ H => D.ct (σ.set i none) H }
def tTry (K : W.Frag) (R : Addr) (tb : (St -> XK) -> TS) (i : Nat) (ts : TS) : TS := fun D σ H => ∃ EX : St -> XK, tb EX D σ H ∧
  ∀ σ' H' C ea d, EX σ' C d H' -> H' ea = none -> ∀ Da, C = .ref Da -> ExcK K Da /\ W.mroIn K Da (.ref R) = some true /\ ts (D.less i) (σ'.set i (some (.ref ea))) (upd H' ea (ExcO ea Da))
section
variable {X : Cx} {x n : Str} {R : Addr} {i : Nat} {tb : (St -> XK) -> TS} {ts : TS} {body suite : List Stmt} {b₀ : Stmt} {np hpos pos : Pos}
theorem ps_try (kR : ExcK X.K R) (hN : X.N.Nodup) (hi : X.N[i]? = some n) (hk : X.env.scope.names.lookup n = some .local) (hst : X.stack = X.env :: X.outer) (hgl : Gl X x) (hm : X.mg x = some (.ref R))
    (hb : ∀ (EX : St -> XK) (pn : List (Addr × Obj)) (E : Value -> Shared -> Prop), PassesX (CX1 X.prog X.w) (X.tried pn E) EX -> PSs (X.tried pn E) body (tb EX))
    (hs : ∀ ea, PSs (X.held ea) (b₀ :: suite) ts) (hdb : (x == ("__debug__" : Str)) = false := by decide) :
    PS X (.Try body [.ExceptHandler (some (.Name x np)) (some n) (b₀ :: suite) hpos] [] [] pos) (tTry X.K R tb i ts) := by
  intro pins s σ H D I ⟨EX, hq, hh⟩
  refine wpAny_Try_except ?_
  have pass : PassesX (CX1 X.prog X.w) (X.tried (X.pn ++ pins) fun e s' => ∃ σ' H0 s0, Inv X pins σ' H0 s0 /\ CX1 X.prog X.w X.stack H0 s0 (EX σ') e s') EX := fun pins' σ' H0 s0 e s' I0 q => ⟨σ', H0, s0, I0.untried I.ok, q⟩
  refine wpAny_mono (hb EX _ _ pass [] s σ H D I.tried hq) (fun f s1 q => ?_) fun e s1 ⟨σ', H0, s0, I0, cx⟩ => ?_
  . cases f with
    | next => obtain ⟨σ', H', J, q⟩ := q; exact wpAny_execs_nil ⟨σ', H', J.untried I.ok, q⟩
    | brk => obtain ⟨σ', H', J, q⟩ := q; exact ⟨σ', H', J.untried I.ok, q⟩
    | cont => obtain ⟨σ', H', J, q⟩ := q; exact ⟨σ', H', J.untried I.ok, q⟩
    | ret u => obtain ⟨v, σ', H', J, r, q⟩ := q; exact ⟨v, σ', H', J.untried I.ok, r, q⟩
  . obtain ⟨ea, t, Da, B, H', rfl, F, hE⟩ := cx
    have hfr : X.A.frames = some (X.env :: X.outer) := by rw [I.ok.frames, hst]
    have hf : X.env.frame = some X.env.locals := by
      rcases I.ok.stk with z | ⟨_, z⟩
      . rw [hst] at z
        have := congrArg List.length z
        simp at this
      . exact z
    have Ffly := F.fly
    rw [hst] at Ffly
    refine wpAny_looks_onW hfr hf Ffly fun h4 held4 up4 => wpAny_landsW held4 fun h5 fly5 up5 => ?_
    have F5 := F.slots (by rw [hst]; exact fly5) (up4.trans up5)
    refine wpAny_handleBy_cons (codeAny_handlers_test ?_) (by intro q; cases q)
    have I5 := (F5.inv I0).held ea
    refine ld_glob I5 hgl hm ?_ hdb
    obtain ⟨kD, hsub, hts⟩ := hh σ' H' _ ea none hE F.new.2 Da rfl
    obtain ⟨oe, he, hc⟩ := F5.at
    refine exc_match I5.kIn he hc hsub kR ?_
    refine codeAny_handlers_suite_as ?_
    refine lands_againW fly5 fun h6 fly6 up6 => ?_
    have F6 := F5.slots (by rw [hst]; exact fly6) up6
    have I6 := (F6.track I0).held ea
    refine store_ok (X := X.held ea) (v := .ref ea) I6 hN hi (Or.inl hk) (rfl : RelV (.ref ea) (.ref ea)) (fun s7 I7 => ?_) (.inr hk)
    refine wpAny_mono (hs ea pins s7 _ _ (D.less i) I7 hts) (fun f s8 q => ?_) fun _ _ z => z.elim
    cases f with
    | next => obtain ⟨σ2, H2, J, q⟩ := q; exact unbind_ok (J.unheld I.ok) hN hi hk fun s9 J9 => ⟨_, _, J9, q⟩
    | brk => obtain ⟨σ2, H2, J, q⟩ := q; exact unbind_ok (J.unheld I.ok) hN hi hk fun s9 J9 => ⟨_, _, J9, q⟩
    | cont => obtain ⟨σ2, H2, J, q⟩ := q; exact unbind_ok (J.unheld I.ok) hN hi hk fun s9 J9 => ⟨_, _, J9, q⟩
    | ret u => obtain ⟨v, σ2, H2, J, r, q⟩ := q; exact unbind_ok (J.unheld I.ok) hN hi hk fun s9 J9 => ⟨v, _, _, J9, r, q⟩
end
end L2
namespace L2
open PySem PySem.Spec PyProof.Rows
structure RoomU (k : Nat) (A : Around) : Prop where
  dp : A.depth + 3 * k + 5 < recursionLimit
  un : A.units + 16 * k + 200 < cLine
theorem Room.u {k : Nat} {A : Around} (r : Room k A) (e : Option Value) : RoomU k (A.mark e) := ⟨r.dp, r.un⟩
structure FnU (P : Program) (w : World) (K : W.Frag) (mg : Str -> Option Value) (base : Heap) (k : Nat) (f : Addr) (fd : FuncData) (ps : List Str) (sp : Sp) : Prop where
  len : ∀ vs H Q E, sp vs H Q E -> vs.length = ps.length
  run : ∀ (A : Around) (outer : List Env) (s : Shared) (H : Hp) (args : Args) (us : List Value) (vs : List V) (Q : VK) (E : XK), RoomU k A -> Env0 P w K mg base A outer s H -> BindsTo s fd args (ps.zip us) -> Vals vs us -> sp vs H Q E →
    codeAny (model P w) A (.call (.ref f) args) (CR CX0 outer P w H s Q E) s
abbrev cxOfU (P : Program) (w : World) (K : W.Frag) (mg : Str -> Option Value) (base : Heap) (N : List Str) (qual : Str) (scope : Scope) (f : Addr) (cd : Value) (A : Around) (outer : List Env) (s : Shared) (H : Hp) : Cx :=
  { cxOf CX0 P w K mg base N qual scope f cd A outer s H E0 with calm := false, xe := fun _ _ => False }
theorem inv_startU {P : Program} {w : World} {K : W.Frag} {mg : Str -> Option Value} {base : Heap} {N ps : List Str} {qual : Str} {scope : Scope} {f : Addr} {cd : Value} {A : Around} {outer : List Env} {s s1 : Shared} {H : Hp} {us : List Value} {vs : List V}
    (S : FnScope N ps scope) (e0 : Env0 P w K mg base A outer s H) (hl : vs.length = ps.length) (r : Vals vs us)
    (x : InCallC s s.heap.objs.size (bindL (envOfC qual scope s.heap.objs.size f cd).kindOf (ps.zip us) fun _ => none) (cellsFrom (s.heap.objs.size + 1) scope.names []) (bindC (envOfC qual scope s.heap.objs.size f cd).kindOf (ps.zip us) fun _ => none) s1) :
    Inv (cxOfU P w K mg base N qual scope f cd A outer s H) [] (start N vs) H s1 := by
  have e1 : Env0 P w K mg base ({ A with handled := none }) outer s H := ⟨e0.frames, e0.mod, e0.bs, e0.bsz, e0.funs, e0.frf, e0.hok, e0.bare⟩
  have I := inv_start (CX := CX0) (E := E0) (qual := qual) (f := f) (cd := cd) S (A := { A with handled := none }) rfl e1 hl r x
  have ok := I.ok
  exact ⟨⟨ok.mod, ok.kind, ok.glob, ok.blt, ok.above, ok.inj, ok.has, ok.cab, (fun z => Bool.noConfusion z), Around.frames_deeper e0.frames, .inr ⟨rfl, rfl⟩, ok.exf, ok.bs, ok.bsz, ok.noex, ok.exfs, ok.funs, ok.frf⟩, I.os, I.bare, I.base, I.loc, I.cell, I.free, I.freeC, I.pin, I.hok, I.len⟩
theorem fn_ofU {P : Program} {w : World} {K : W.Frag} {mg : Str -> Option Value} {base : Heap} {k : Nat} {f : Addr} {name qual : Str} {params : Arguments} {body : List Stmt} {scope : Scope} {dV kV doc pm cdv ct oc : Value} {an od : Option Addr}
    {osl : Array (Option Value)} {N ps : List Str} {sp : Sp} (lk : K.lookup f = some ⟨oc, od, .func (W.fnOf name qual params body scope dV kV doc pm an cdv ct), osl⟩) (hcd : W.codeIn K cdv qual = true) (S : FnScope N ps scope)
    (len : ∀ vs H Q E, sp vs H Q E -> vs.length = ps.length)
    (hbody : ∀ (A : Around) (outer : List Env) (s : Shared) (H : Hp) (vs : List V) (Q : VK) (E : XK), RoomU k (A.deeper (envOfC qual scope s.heap.objs.size f cdv)) -> sp vs H Q E →
      ∃ t, PSs (cxOfU P w K mg base N qual scope f cdv A outer s H) body t /\ t { nx := fun _ H' => Q .non H', rt := Q } (start N vs) H) :
    FnU P w K mg base (k + 1) f (W.fnOf name qual params body scope dV kV doc pm an cdv ct) ps sp := by
  refine ⟨len, fun A outer s H args us vs Q E hr e0 hb r hsp => ?_⟩
  have hl := len _ _ _ _ hsp
  have KX : K.In s.heap := e0.mod.kin.keeps fun b o e => (e0.bs b o e).1
  have lim : s.heap.NoLimit := e0.mod.nolimit.keeps fun b o e => (e0.bs b o e).1
  have hkind : ∀ y ∈ ps.zip us, scope.names.lookup y.1 = some .local \/ (scope.names.lookup y.1 = some .cell /\ ((cellsFrom (s.heap.objs.size + 1) scope.names []).lookup y.1).isSome = true) := fun ⟨n, v⟩ hy => by
    rcases S.par n (List.of_mem_zip hy).1 with q | q
    . exact .inl q
    . exact .inr ⟨q, W.cellsFrom_some _ _ _ (.inl q)⟩
  refine codeAny_call_function (by have := hr.dp; omega) (KX _ _ lk) rfl S.co S.gen rfl (W.codeRec_of KX hcd) (hb _ _ _ _ ?_)
  refine wpAny_newFunctionEnv_cells S.kind hkind fun env he s1 x => ?_
  subst he
  refine ⟨lim.keeps x.toInCall.keep, codeAny_func ?_⟩
  obtain ⟨t, ht, hq⟩ := hbody A outer s H vs Q E ⟨by have := hr.dp; show A.depth + 1 + 3 * k + 5 < _; omega, by have := hr.un; show A.units + 3 + 16 * k + 200 < _; omega⟩ hsp
  have I : Inv (cxOfU P w K mg base N qual scope f cdv A outer s H) [] (start N vs) H s1 := inv_startU S e0 hl r x
  refine wpAny_mono (ht [] s1 (start N vs) H _ I hq) (fun fl s' hs => ?_) fun e s' hs => hs.elim
  have fin : ∀ {σ' : St} {H' : Hp} {v : V} {u : Value}, Inv (cxOfU P w K mg base N qual scope f cdv A outer s H) [] σ' H' s' -> RelV v u -> Q v H' -> CE outer P w H s Q u s' :=
    fun {σ' H' v u} J rv q => ⟨v, H', J.os, J.bare, J.base, J.hok, rv, q⟩
  cases fl with
  | ret u =>
    obtain ⟨v, σ', H', J, rv, q⟩ := hs
    exact fin J rv q
  | next =>
    obtain ⟨σ', H', J, q⟩ := hs
    exact fin (v := V.non) (u := Value.none) J rfl q
  | brk =>
    obtain ⟨_, _, _, q⟩ := hs
    exact False.elim q
  | cont =>
    obtain ⟨_, _, _, q⟩ := hs
    exact False.elim q
section
variable {P : Program} {w : World} {K : W.Frag} {mg : Str -> Option Value} {base : Heap}
theorem Fun.okU {x qual : Str} {st : Stmt} {f : Addr} {fd : FuncData} {N ps : List Str} {k : Nat} {sp : Sp} (F : Fun K x qual st f fd) (S : FnScope N ps (defScope st)) (len : ∀ vs H Q E, sp vs H Q E -> vs.length = ps.length)
    (hbody : ∀ (cdv : Value) (A : Around) (outer : List Env) (s : Shared) (H : Hp) (vs : List V) (Q : VK) (E : XK), RoomU k (A.deeper (envOfC qual (defScope st) s.heap.objs.size f cdv)) -> sp vs H Q E →
      ∃ t, PSs (cxOfU P w K mg base N qual (defScope st) f cdv A outer s H) (defBody st) t /\ t { nx := fun _ H' => Q .non H', rt := Q } (start N vs) H) : FnU P w K mg base (k + 1) f fd ps sp := by
  obtain ⟨oc, od, kV, doc, pm, an, cdv, ct, osl, rfl, lk, hcd⟩ := F.ex
  exact fn_ofU lk hcd S len fun A outer s H vs Q E hr hsp => hbody cdv A outer s H vs Q E hr hsp
theorem Fun.ok1 {x qual : Str} {st : Stmt} {f : Addr} {fd : FuncData} {N ps : List Str} {k : Nat} {sp : Sp} (F : Fun K x qual st f fd) (S : FnScope N ps (defScope st)) (len : ∀ vs H Q E, sp vs H Q E -> vs.length = ps.length)
    (hbody : ∀ (cdv : Value) (A : Around) (outer : List Env) (s : Shared) (H : Hp) (vs : List V) (Q : VK) (E : XK), Room k (A.deeper (envOfC qual (defScope st) s.heap.objs.size f cdv)) -> sp vs H Q E →
      ∃ t, PSs (cxOf (CX1 P w) P w K mg base N qual (defScope st) f cdv A outer s H E) (defBody st) t /\ t { nx := fun _ H' => Q .non H', rt := Q } (start N vs) H) : FnOk P w K mg base (CX1 P w) (k + 1) f fd ps sp := by
  obtain ⟨oc, od, kV, doc, pm, an, cdv, ct, osl, rfl, lk, hcd⟩ := F.ex
  exact fn_of lk hcd S len fun A outer s H vs Q E hr hsp => hbody cdv A outer s H vs Q E hr hsp
end
section
variable {X : Cx} {k : Nat} {f : Addr} {fd : FuncData} {ps : List Str} {sp : Sp} {x : Str} {p pos : Pos} {e : Expr} {es : List Expr} {t : TA}
theorem pe_callU (F : FnU X.prog X.w X.K X.mg X.base k f fd ps sp) (hr : RoomU k X.A) (hg : Gl X x) (hm : X.mg x = some (.ref f)) (hk : W.keepIn X.K (.ref f) = true) (hb : Binds X.K fd ps [])
    (ha : PA X (e :: es) t) (hdb : (x == ("__debug__" : Str)) = false := by decide) (he : starEach (e :: es) X.env = (false, eval e X.env) :: starEach es X.env := by rfl) (hpl : (backTo pos (starEach es X.env)).any (·.1) = false := by rfl) :
    PE X (.Call (.Name x p) (e :: es) [] pos) (tCall sp [] E0 t) := by
  intro pins s σ H Q I h
  refine wpAny_Call_Name_kw (ld_glob I hg hm ?_ hdb)
  refine W.callWith_K (h₀ := X.base) I.ok.mod.kin hk (thn (ha pos pins s σ H _ I h) fun us s1 ⟨vs, H1, I1, r, q⟩ => ⟨I1.kIn, ?_⟩) he hpl
  replace q : sp (vs ++ []) H1 Q E0 := q
  rw [List.append_nil] at q
  have hl : (us ++ []).length = ps.length := by rw [List.append_nil, <- r.length]; exact F.len _ _ _ _ q
  have hb' := hb s1 us I1.kIn hl
  rw [List.append_nil] at hb'
  refine wpAny_call (codeAny_mono (F.run X.A X.stack s1 H1 ⟨us, []⟩ us vs Q E0 hr I1.env0 hb' r q) fun rr s' hq => ?_)
  cases rr with
  | error e => exact False.elim hq
  | ok fl =>
    cases fl with
    | ret u => exact I1.after hq
    | next => exact False.elim hq
    | brk => exact False.elim hq
    | cont => exact False.elim hq
end
end L2
namespace L2
open PySem PySem.Spec PyProof.Rows
section
variable {prog : Program} {w : World} {A : Around} {E : Value -> Shared -> Prop} {s : Shared}
theorem nx_item {j tp : Addr} {i : Nat} {vs : Array Value} {x : Value} {Q : Value -> Shared -> Prop} (q1 : IsTupIter s.heap j tp i) (q2 : IsTup s.heap tp vs) (q3 : vs[i]? = some x)
    (q : ∀ h', IsTupIter h' j tp (i + 1) -> Heap.SameBut j s.heap h' -> Q x { s with heap := h' }) : wpAny (model prog w) A (Builtin.SmallTypes.nextOf (.ref j)) Q E s := by
  obtain ⟨oj, g1, g2, g3⟩ := id q1
  obtain ⟨ot, g4, _, nt, g5⟩ := q2
  unfold Builtin.SmallTypes.nextOf
  refine wpAny_bind (wpAny_callSpecial?_slot (name := Str.ofString "__next__") q1.typeIs slot_tupleiter_next (wpAny_call_entry slot_tupleiter_next q1.typeIs entry_tupleiter_next ?_ (args_tupleiter_next _)))
  show wpAny _ _ (field (.ref j) 0 >>= _) _ _ s
  refine wpAny_bind (wpAny_field g1 g3 (x := .ref tp) rfl ?_)
  show wpAny _ _ (if (Value.ref tp == Value.none) = true then _ else _) _ _ s
  rw [if_neg (fun z => by cases z)]
  show wpAny _ _ (field (.ref j) 1 >>= _) _ _ s
  refine wpAny_bind (wpAny_field g1 g3 (x := .int i 0) rfl ?_)
  show wpAny _ _ (seqItems? (.ref tp) >>= _) _ _ s
  refine wpAny_bind (wpAny_seqItems g4 g5 ?_)
  simp only [Int.toNat_natCast, q3]
  refine wpAny_bind (wpAny_setField g1 g3 (by simp) (wpAny_pure ⟨x, rfl, wpAny_pure (q _ ?_ (Heap.SameBut.update ..))⟩))
  refine ⟨_, Heap.get?_update_self _ g1 (Obj.isFreed_of_fields (Obj.data_mapFields g3 _)), (Obj.cls_mapFields ..).trans g2, ?_⟩
  rw [Obj.data_mapFields g3]
  simp [rawInt]
theorem nx_end {j tp : Addr} {i : Nat} {vs : Array Value} {Q : Value -> Shared -> Prop} (hh : A.handled = none) (q1 : IsTupIter s.heap j tp i) (q2 : IsTup s.heap tp vs) (q3 : vs[i]? = none)
    (q : ∀ h' e, Heap.ExtBut j s.heap h' -> (∃ o, h'.get? e = some o /\ o.cls = .type "StopIteration") -> E (.ref e) { s with heap := h' }) : wpAny (model prog w) A (Builtin.SmallTypes.nextOf (.ref j)) Q E s := by
  obtain ⟨oj, g1, g2, g3⟩ := id q1
  obtain ⟨ot, g4, _, nt, g5⟩ := q2
  unfold Builtin.SmallTypes.nextOf
  refine wpAny_bind (wpAny_callSpecial?_slot (name := Str.ofString "__next__") q1.typeIs slot_tupleiter_next (wpAny_call_entry slot_tupleiter_next q1.typeIs entry_tupleiter_next ?_ (args_tupleiter_next _)))
  show wpAny _ _ (field (.ref j) 0 >>= _) _ _ s
  refine wpAny_bind (wpAny_field g1 g3 (x := .ref tp) rfl ?_)
  show wpAny _ _ (if (Value.ref tp == Value.none) = true then _ else _) _ _ s
  rw [if_neg (fun z => by cases z)]
  show wpAny _ _ (field (.ref j) 1 >>= _) _ _ s
  refine wpAny_bind (wpAny_field g1 g3 (x := .int i 0) rfl ?_)
  show wpAny _ _ (seqItems? (.ref tp) >>= _) _ _ s
  refine wpAny_bind (wpAny_seqItems g4 g5 ?_)
  simp only [Int.toNat_natCast, q3]
  refine wpAny_bind (wpAny_rule (wpAny_bind (wpAny_setField g1 g3 (by simp) ?_)))
  show wpAny _ _ (do let e <- newExc (.type "StopIteration") []; _) _ _ _
  simp only [newExc, newTuple]
  refine wpAny_bind (wpAny_bind (wpAny_newObj_type (wpAny_bind (m := firstArgMember _ _) (wpAny_of_eq (a := Value.none) (by first | rfl | (simp only [firstArgMember]; rfl)) (wpAny_newObj_type ?_ (by size_fits)))) (by size_fits)))
  simp only [raiseNew]
  refine wpAny_bind (wpAny_handled ?_)
  rw [show A.in1.handled = none from hh]
  exact wpAny_bind (wpAny_pure (wpAny_throw (q _ _ (((Heap.SameBut.update ..).extBut.push _).push _) ⟨_, Heap.get?_push_size _ rfl, rfl⟩)))
theorem IsTupIter.at' {h h' : Heap} {a t : Addr} {i : Nat} (x : IsTupIter h a t i) (e : ∀ o, h.get? a = some o -> h'.get? a = some o) : IsTupIter h' a t i := let ⟨o, ho, r⟩ := x; ⟨o, e _ ho, r⟩
end
def IsB : Bool -> Heap -> Addr -> Array Value -> Prop
  | true, h, t, xs => h.IsList t xs
  | false, h, t, xs => IsTup h t xs
def ItB : Bool -> Heap -> Addr -> Addr -> Nat -> Prop
  | true, h, j, t, k => h.IsListIter j t k
  | false, h, j, t, k => IsTupIter h j t k
def SqB : Bool -> W.Frag -> Hp -> Addr -> List V -> Prop
  | true, K, H, a, xs => SqL K H a xs
  | false, K, H, a, xs => SqT K H a xs
def itN : Bool -> String
  | true => "list_iterator"
  | false => "tuple_iterator"
section
variable {b : Bool} {h h' : Heap} {j t c : Addr} {k : Nat} {xs : Array Value}
theorem ItB.at' (x : ItB b h j t k) (e : ∀ o, h.get? j = some o -> h'.get? j = some o) : ItB b h' j t k := by
  cases b
  . exact IsTupIter.at' x e
  . exact Heap.IsListIter.at x e
theorem ItB.extBut (x : ItB b h j t k) (hs : Heap.ExtBut c h h') (n : j ≠ c) : ItB b h' j t k := x.at' fun o e => hs j o n e
theorem IsB.at' (x : IsB b h t xs) (e : ∀ o, h.get? t = some o -> h'.get? t = some o) : IsB b h' t xs := by
  cases b
  . obtain ⟨o, ho, r⟩ := x; exact ⟨o, e o ho, r⟩
  . obtain ⟨o, ho, r⟩ := x; exact ⟨o, e o ho, r⟩
theorem IsB.extBut (x : IsB b h t xs) (hs : Heap.ExtBut c h h') (n : t ≠ c) : IsB b h' t xs := x.at' fun o e => hs t o n e
theorem IsB.push (x : IsB b h t xs) (o : Obj) : IsB b (h.push o) t xs := x.at' fun _ e => Heap.get?_push_of_some _ e
theorem IsB.lt (x : IsB b h t xs) : t < h.objs.size := by
  cases b
  . obtain ⟨o, ho, _⟩ := x; exact Heap.lt_size ho
  . obtain ⟨o, ho, _⟩ := x; exact Heap.lt_size ho
theorem ItB.mk (e : h.get? j = some { cls := .type (itN b), data := .fields #[.ref t, .int 0 0] }) : ItB b h j t 0 := by
  cases b
  . exact ⟨_, e, rfl, rfl⟩
  . exact ⟨_, e, rfl, rfl⟩
theorem ItB.obj (x : ItB b h j t k) : ∃ o, h.get? j = some o /\ ∃ vs, o.data = .fields vs := by
  cases b
  . obtain ⟨o, ho, _, d⟩ := x; exact ⟨o, ho, _, d⟩
  . obtain ⟨o, ho, _, d⟩ := x; exact ⟨o, ho, _, d⟩
theorem Same.sqB {K : W.Frag} {H H' : Hp} {a : Addr} {ys : List V} (e : Same H H') (x : SqB b K H a ys) : SqB b K H' a ys := by
  cases b
  . exact e.tseq x
  . exact e.seq x
theorem Inv.sqB {X : Cx} {pins : List (Addr × Obj)} {σ : St} {H : Hp} {s : Shared} {a : Addr} {ys : List V} (I : Inv X pins σ H s) (x : SqB b X.K H a ys) : ∃ its : List Value, Vals ys its /\ IsB b s.heap a its.toArray /\ ys.length <= sizeLine := by
  cases b
  . exact I.tuple x
  . obtain ⟨i, r, p, z⟩ := I.list x
    exact ⟨i, r, p.isList, z⟩
theorem Inv.sqB_inj {X : Cx} {pins : List (Addr × Obj)} {σ : St} {H : Hp} {s : Shared} {a : Addr} {ys zs : List V} (I : Inv X pins σ H s) (x : SqB b X.K H a ys) (y : SqB b X.K H a zs) : ys = zs := by
  cases b
  . exact I.tuple_inj x y
  . exact I.list_inj x y
end
section
variable {prog : Program} {w : World} {A : Around} {E : Value -> Shared -> Prop} {s : Shared}
theorem nxB_item {b : Bool} {j tp : Addr} {i : Nat} {vs : Array Value} {x : Value} {Q : Value -> Shared -> Prop} (q1 : ItB b s.heap j tp i) (q2 : IsB b s.heap tp vs) (q3 : vs[i]? = some x)
    (q : ∀ h', ItB b h' j tp (i + 1) -> Heap.SameBut j s.heap h' -> Q x { s with heap := h' }) : wpAny (model prog w) A (Builtin.SmallTypes.nextOf (.ref j)) Q E s := by
  cases b
  . exact nx_item q1 q2 q3 q
  . exact wpAny_nextOf_list_item q1 q2 q3 q
theorem nxB_end {b : Bool} {j tp : Addr} {i : Nat} {vs : Array Value} {Q : Value -> Shared -> Prop} (hh : A.handled = none) (q1 : ItB b s.heap j tp i) (q2 : IsB b s.heap tp vs) (q3 : vs[i]? = none)
    (q : ∀ h' e, Heap.ExtBut j s.heap h' -> (∃ o, h'.get? e = some o /\ o.cls = .type "StopIteration") -> E (.ref e) { s with heap := h' }) : wpAny (model prog w) A (Builtin.SmallTypes.nextOf (.ref j)) Q E s := by
  cases b
  . exact nx_end hh q1 q2 q3 q
  . exact wpAny_nextOf_list_end hh q1 q2 q3 q
theorem iterB {b : Bool} {t : Addr} {xs : Array Value} {Q : Value -> Shared -> Prop} (m : IsB b s.heap t xs) (h : Q (.ref s.heap.objs.size) { s with heap := s.heap.push { cls := .type (itN b), data := .fields #[.ref t, .int 0 0] } }) : wpAny (model prog w) A (pyIter (.ref t)) Q E s := by
  cases b
  . exact iter_tuple m h
  . exact wpAny_pyIter_list m h
theorem zg_item {b1 b2 : Bool} {z ti to j1 j2 t1 t2 : Addr} {k1 k2 : Nat} {xs ys : Array Value} {x y a b : Value} {Q : Value -> Shared -> Prop} (D : ZipApart z ti to j1 j2 t1 t2)
    (q0 : IsZip s.heap z ti to .none) (p1 : IsPair s.heap ti (.ref j1) (.ref j2)) (p2 : IsPair s.heap to a b)
    (i1 : ItB b1 s.heap j1 t1 k1) (i2 : ItB b2 s.heap j2 t2 k2) (l1 : IsB b1 s.heap t1 xs) (l2 : IsB b2 s.heap t2 ys) (ex : xs[k1]? = some x) (ey : ys[k2]? = some y)
    (q : ∀ h', IsZip h' z ti to (rawInt s.heap.objs.size) -> IsPair h' to x y -> ItB b1 h' j1 t1 (k1 + 1) -> ItB b2 h' j2 t2 (k2 + 1) -> IsPair h' s.heap.objs.size x y →
      (∀ c o, c ≠ z -> c ≠ to -> c ≠ j1 -> c ≠ j2 -> s.heap.get? c = some o -> h'.get? c = some o) -> Q (.ref s.heap.objs.size) { s with heap := h' }) :
    wpAny (model prog w) A (Builtin.«zip.__next__» ⟨[.ref z], []⟩) (fun fin s' => ∃ v, fin = .done (.ret v) /\ Q v s') E s := by
  show wpAny _ _ (field (.ref z) 2 >>= _) _ _ _
  refine wpAny_bind (wpAny_field q0 rfl (x := .bool false) rfl (show wpAny _ _ (field (.ref z) 3 >>= _) _ _ _ from wpAny_bind (wpAny_field q0 rfl (x := .ref ti) rfl (wpAny_bind (wpAny_seqItems p1 rfl ?_)))))
  show wpAny _ _ (do let free <- Builtin.SmallTypes.ownedTupleIsFree (.ref z); _) _ _ _
  unfold Builtin.SmallTypes.ownedTupleIsFree
  refine wpAny_bind (wpAny_bind (wpAny_field q0 rfl (x := .none) rfl (wpAny_pure ?_)))
  simp only [if_true]
  refine wpAny_bind (wpAny_rule (wpAny_bind (wpAny_field q0 rfl (x := .ref to) rfl (wpAny_bind (wpAny_setField_rec q0 (by simp) fun u1 z1 s1 => ?_)))))
  have z1' : IsZip u1 z ti to .ellipsis := z1
  refine wpAny_bind ?_
  simp only [List.zipIdx_cons, List.zipIdx_nil, List.forIn_cons, List.forIn_nil]
  refine wpAny_bind (wpAny_bind (wpAny_onRaise (show wpAny _ _ (Builtin.SmallTypes.nextOf (.ref j1) >>= _) _ _ _ from wpAny_bind (nxB_item (i1.extBut s1.extBut D.i1z) (l1.extBut s1.extBut D.l1z) ex fun u2 j1' s2 => wpAny_pure ?_))))
  have to2 : IsPair u2 to a b := s2.extBut _ _ D.TOi1 (s1.extBut _ _ D.TOz p2)
  refine wpAny_bind (wpAny_seqItems to2 rfl (wpAny_bind (wpAny_updateSeq_pair to2 fun u3 to3 s3 => wpAny_bind (wpAny_letGo (wpAny_pure ?_)))))
  have to3' : IsPair u3 to x b := to3
  refine wpAny_bind (wpAny_bind (wpAny_onRaise (show wpAny _ _ (Builtin.SmallTypes.nextOf (.ref j2) >>= _) _ _ _ from wpAny_bind (nxB_item (((i2.extBut s1.extBut D.i2z).extBut s2.extBut D.i12.symm).extBut s3.extBut D.TOi2.symm)
    (((l2.extBut s1.extBut D.l2z).extBut s2.extBut D.l2i1).extBut s3.extBut D.l2TO) ey fun u4 j2' s4 => wpAny_pure ?_))))
  have to4 : IsPair u4 to x b := s4.extBut _ _ D.TOi2 to3'
  refine wpAny_bind (wpAny_seqItems to4 rfl (wpAny_bind (wpAny_updateSeq_pair to4 fun u5 to5 s5 => wpAny_bind (wpAny_letGo (wpAny_pure (wpAny_pure ?_))))))
  have to5' : IsPair u5 to x y := to5
  refine wpAny_bind (wpAny_seqItems to5' rfl (wpAny_bind (wpAny_newTuple ?_)))
  have sz : u5.objs.size = s.heap.objs.size := by rw [s5.1, s4.1, s3.1, s2.1, s1.1]
  have z5 : IsZip u5 z ti to .ellipsis := s5.extBut _ _ D.TOz.symm (s4.extBut _ _ D.i2z.symm (s3.extBut _ _ D.TOz.symm (s2.extBut _ _ D.i1z.symm z1')))
  have kp : ∀ c o, c ≠ z -> c ≠ to -> c ≠ j1 -> c ≠ j2 -> s.heap.get? c = some o -> u5.get? c = some o := fun c o n1 n2 n3 n4 e => s5.extBut _ _ n2 (s4.extBut _ _ n4 (s3.extBut _ _ n2 (s2.extBut _ _ n3 (s1.extBut _ _ n1 e))))
  have a1 : ItB b1 u5 j1 t1 (k1 + 1) := ((j1'.extBut s3.extBut D.TOi1.symm).extBut s4.extBut D.i12).extBut s5.extBut D.TOi1.symm
  have a2 : ItB b2 u5 j2 t2 (k2 + 1) := j2'.extBut s5.extBut D.TOi2.symm
  have zl : z < u5.objs.size := Heap.lt_size z5
  show wpAny _ _ (do let r <- Builtin.SmallTypes.ownedTupleHandOut (.ref z) (.ref u5.objs.size); _) _ _ _
  unfold Builtin.SmallTypes.ownedTupleHandOut
  have z6 : IsZip (u5.push { cls := .type "tuple", data := .seq #[x, y] }) z ti to .ellipsis := Heap.get?_push_of_some _ z5
  refine wpAny_bind (wpAny_bind (wpAny_setField_rec z6 (by simp) fun u7 z7 s7 => ?_))
  have z7' : IsZip u7 z ti to (rawInt u5.objs.size) := z7
  refine wpAny_setField_rec z7' (by simp) fun u8 z8 s8 => ?_
  have z8' : IsZip u8 z ti to (rawInt u5.objs.size) := z8
  have up : ∀ c o, c ≠ z -> u5.get? c = some o -> u8.get? c = some o := fun c o n1 e => s8.extBut _ _ n1 (s7.extBut _ _ n1 (Heap.get?_push_of_some _ e))
  have nt8 : IsPair u8 u5.objs.size x y := s8.extBut _ _ (Nat.ne_of_gt zl) (s7.extBut _ _ (Nat.ne_of_gt zl) (Heap.get?_push_size _ rfl))
  rw [sz] at z8' nt8
  refine wpAny_pure ⟨_, rfl, ?_⟩
  show Q (.ref u5.objs.size) _
  rw [sz]
  exact q u8 z8' (up _ _ D.TOz to5') (ItB.at' a1 fun o e => up _ o D.i1z e) (ItB.at' a2 fun o e => up _ o D.i2z e) nt8 fun c o n1 n2 n3 n4 e => up c o n1 (kp c o n1 n2 n3 n4 e)
theorem zg_end {b1 b2 : Bool} {z ti to j1 j2 t1 t2 : Addr} {k1 k2 : Nat} {xs ys : Array Value} {a b : Value} {Q : PySem.Fin -> Shared -> Prop} (hh : A.handled = none) (D : ZipApart z ti to j1 j2 t1 t2)
    (q0 : IsZip s.heap z ti to .none) (p1 : IsPair s.heap ti (.ref j1) (.ref j2)) (p2 : IsPair s.heap to a b)
    (i1 : ItB b1 s.heap j1 t1 k1) (i2 : ItB b2 s.heap j2 t2 k2) (l1 : IsB b1 s.heap t1 xs) (l2 : IsB b2 s.heap t2 ys) (en : xs[k1]? = none \/ ys[k2]? = none)
    (q : ∀ h' e, (∀ c o, c ≠ z -> c ≠ to -> c ≠ j1 -> c ≠ j2 -> s.heap.get? c = some o -> h'.get? c = some o) -> (∃ o, h'.get? e = some o /\ o.cls = .type "StopIteration") -> E (.ref e) { s with heap := h' }) :
    wpAny (model prog w) A (Builtin.«zip.__next__» ⟨[.ref z], []⟩) Q E s := by
  show wpAny _ _ (field (.ref z) 2 >>= _) _ _ _
  refine wpAny_bind (wpAny_field q0 rfl (x := .bool false) rfl (show wpAny _ _ (field (.ref z) 3 >>= _) _ _ _ from wpAny_bind (wpAny_field q0 rfl (x := .ref ti) rfl (wpAny_bind (wpAny_seqItems p1 rfl ?_)))))
  show wpAny _ _ (do let free <- Builtin.SmallTypes.ownedTupleIsFree (.ref z); _) _ _ _
  unfold Builtin.SmallTypes.ownedTupleIsFree
  refine wpAny_bind (wpAny_bind (wpAny_field q0 rfl (x := .none) rfl (wpAny_pure ?_)))
  simp only [if_true]
  refine wpAny_bind (wpAny_rule (wpAny_bind (wpAny_field q0 rfl (x := .ref to) rfl (wpAny_bind (wpAny_setField_rec q0 (by simp) fun u1 z1 s1 => ?_)))))
  have z1' : IsZip u1 z ti to .ellipsis := z1
  refine wpAny_bind ?_
  simp only [List.zipIdx_cons, List.zipIdx_nil, List.forIn_cons, List.forIn_nil]
  cases ex : xs[k1]? with
  | none =>
    refine wpAny_bind (wpAny_bind (wpAny_onRaise (show wpAny _ _ (Builtin.SmallTypes.nextOf (.ref j1) >>= _) _ _ _ from wpAny_bind (nxB_end hh (i1.extBut s1.extBut D.i1z) (l1.extBut s1.extBut D.l1z) ex fun u2 e s2 ⟨oe, e1, e2⟩ => ?_))))
    have z2 : IsZip u2 z ti to .ellipsis := s2 _ _ D.i1z.symm z1'
    have ne : e ≠ z := fun c => by subst c; rw [z2] at e1; cases e1; simp at e2
    exact wpAny_setField_rec z2 (by simp) fun u3 _ s3 => q u3 e (fun c o n1 _ n3 _ m => s3.extBut _ _ n1 (s2 _ _ n3 (s1.extBut _ _ n1 m))) ⟨oe, s3.extBut _ _ ne e1, e2⟩
  | some x =>
    have ey : ys[k2]? = none := by
      rcases en with m | m
      . rw [ex] at m; cases m
      . exact m
    refine wpAny_bind (wpAny_bind (wpAny_onRaise (show wpAny _ _ (Builtin.SmallTypes.nextOf (.ref j1) >>= _) _ _ _ from wpAny_bind (nxB_item (i1.extBut s1.extBut D.i1z) (l1.extBut s1.extBut D.l1z) ex fun u2 j1' s2 => wpAny_pure ?_))))
    have to2 : IsPair u2 to a b := s2.extBut _ _ D.TOi1 (s1.extBut _ _ D.TOz p2)
    refine wpAny_bind (wpAny_seqItems to2 rfl (wpAny_bind (wpAny_updateSeq_pair to2 fun u3 to3 s3 => wpAny_bind (wpAny_letGo (wpAny_pure ?_)))))
    refine wpAny_bind (wpAny_bind (wpAny_onRaise (show wpAny _ _ (Builtin.SmallTypes.nextOf (.ref j2) >>= _) _ _ _ from wpAny_bind (nxB_end hh (((i2.extBut s1.extBut D.i2z).extBut s2.extBut D.i12.symm).extBut s3.extBut D.TOi2.symm)
      (((l2.extBut s1.extBut D.l2z).extBut s2.extBut D.l2i1).extBut s3.extBut D.l2TO) ey fun u4 e s4 ⟨oe, e1, e2⟩ => ?_))))
    have z4 : IsZip u4 z ti to .ellipsis := s4 _ _ D.i2z.symm (s3.extBut _ _ D.TOz.symm (s2.extBut _ _ D.i1z.symm z1'))
    have ne : e ≠ z := fun c => by subst c; rw [z4] at e1; cases e1; simp at e2
    exact wpAny_setField_rec z4 (by simp) fun u5 _ s5 => q u5 e (fun c o n1 n2 n3 n4 m => s5.extBut _ _ n1 (s4 _ _ n4 (s3.extBut _ _ n2 (s2.extBut _ _ n3 (s1.extBut _ _ n1 m))))) ⟨oe, s5.extBut _ _ ne e1, e2⟩
theorem zg_next {b1 b2 : Bool} {z ti to j1 j2 t1 t2 : Addr} {k1 k2 : Nat} {xs ys : Array Value} {x y a b : Value} {Q : Option Value -> Shared -> Prop} (D : ZipApart z ti to j1 j2 t1 t2)
    (q0 : IsZip s.heap z ti to .none) (p1 : IsPair s.heap ti (.ref j1) (.ref j2)) (p2 : IsPair s.heap to a b)
    (i1 : ItB b1 s.heap j1 t1 k1) (i2 : ItB b2 s.heap j2 t2 k2) (l1 : IsB b1 s.heap t1 xs) (l2 : IsB b2 s.heap t2 ys) (ex : xs[k1]? = some x) (ey : ys[k2]? = some y)
    (q : ∀ h', IsZip h' z ti to (rawInt s.heap.objs.size) -> IsPair h' to x y -> ItB b1 h' j1 t1 (k1 + 1) -> ItB b2 h' j2 t2 (k2 + 1) -> IsPair h' s.heap.objs.size x y →
      (∀ c o, c ≠ z -> c ≠ to -> c ≠ j1 -> c ≠ j2 -> s.heap.get? c = some o -> h'.get? c = some o) -> Q (some (.ref s.heap.objs.size)) { s with heap := h' }) :
    wpAny (model prog w) A (pyNext (.ref z)) Q E s := by
  have ty : s.TypeIs (.ref z) "zip" := ⟨_, q0, rfl⟩
  unfold pyNext
  exact wpAny_bind (wpAny_attempt (wpAny_callSpecial?_slot (name := Str.ofString "__next__") ty F.slot_zip_next (wpAny_call_entry F.slot_zip_next ty F.entry_zip_next
    (zg_item D q0 p1 p2 i1 i2 l1 l2 ex ey fun h' b1 b2 b3 b4 b5 b6 => wpAny_pure (q h' b1 b2 b3 b4 b5 b6)) (F.args_zip_next_1 _))))
theorem zg_stop {b1 b2 : Bool} {z ti to j1 j2 t1 t2 : Addr} {k1 k2 : Nat} {xs ys : Array Value} {a b : Value} {Q : Option Value -> Shared -> Prop} (hh : A.handled = none) (D : ZipApart z ti to j1 j2 t1 t2)
    (q0 : IsZip s.heap z ti to .none) (p1 : IsPair s.heap ti (.ref j1) (.ref j2)) (p2 : IsPair s.heap to a b)
    (i1 : ItB b1 s.heap j1 t1 k1) (i2 : ItB b2 s.heap j2 t2 k2) (l1 : IsB b1 s.heap t1 xs) (l2 : IsB b2 s.heap t2 ys) (en : xs[k1]? = none \/ ys[k2]? = none)
    (q : ∀ h', (∀ c o, c ≠ z -> c ≠ to -> c ≠ j1 -> c ≠ j2 -> s.heap.get? c = some o -> h'.get? c = some o) -> Q none { s with heap := h' }) : wpAny (model prog w) A (pyNext (.ref z)) Q E s := by
  have ty : s.TypeIs (.ref z) "zip" := ⟨_, q0, rfl⟩
  unfold pyNext
  refine wpAny_bind (wpAny_attempt (wpAny_callSpecial?_slot (name := Str.ofString "__next__") ty F.slot_zip_next (wpAny_call_entry F.slot_zip_next ty F.entry_zip_next
    (zg_end hh D q0 p1 p2 i1 i2 l1 l2 en fun h' e kp ⟨o, e1, e2⟩ => wpAny_bind (wpAny_isInstance (T := "StopIteration") (b := true) ⟨o, e1, e2⟩ isSubtype_stop (wpAny_pure (q _ kp)))) (F.args_zip_next_1 _))))
end
abbrev zg1 (b1 : Bool) (h : Heap) (t1 : Addr) : Heap := h.push { cls := .type (itN b1), data := .fields #[.ref t1, .int 0 0] }
abbrev zg2 (b1 b2 : Bool) (h : Heap) (t1 t2 : Addr) : Heap := (zg1 b1 h t1).push { cls := .type (itN b2), data := .fields #[.ref t2, .int 0 0] }
abbrev zg3 (b1 b2 : Bool) (h : Heap) (t1 t2 : Addr) : Heap := (zg2 b1 b2 h t1 t2).push { cls := .type "tuple", data := .seq #[.ref h.objs.size, .ref (zg1 b1 h t1).objs.size] }
abbrev zg4 (b1 b2 : Bool) (h : Heap) (t1 t2 : Addr) : Heap := (zg3 b1 b2 h t1 t2).push { cls := .type "tuple", data := .seq #[.none, .none] }
abbrev zg5 (b1 b2 : Bool) (h : Heap) (t1 t2 : Addr) : Heap := (zg4 b1 b2 h t1 t2).push { cls := .type "zip", data := .fields #[.none, .bool false, .bool false, .ref (zg2 b1 b2 h t1 t2).objs.size, .ref (zg3 b1 b2 h t1 t2).objs.size] }
theorem zg_new (b1 b2 : Bool) (t1 t2 : Addr) (xs ys : Array Value) :
    Meets (Builtin.«zip.__new__» ⟨[.type "zip", .ref t1, .ref t2], []⟩) (fun _ R s => IsB b1 s.heap t1 xs /\ IsB b2 s.heap t2 ys /\ R (.ok (.ret (.ref (zg4 b1 b2 s.heap t1 t2).objs.size))) { s with heap := zg5 b1 b2 s.heap t1 t2 }) :=
  .of_wp fun prog w A R s h => by
    obtain ⟨hp, g, d, tk, os⟩ := s
    obtain ⟨e1, e2, h⟩ := h
    have hsub := sub_zip
    have m1 : IsB b1 (Shared.heap ⟨hp, g, d, tk, os⟩) t1 xs := e1
    have m2 : IsB b2 (Shared.heap ⟨hp.push { cls := .type (itN b1), data := .fields #[.ref t1, .int 0 0] }, g, d, tk, os⟩) t2 ys := IsB.push e2 _
    wp_walk using iterB m1, iterB m2
    exact ⟨_, rfl, h⟩
section
variable {prog : Program} {w : World} {A : Around} {E : Value -> Shared -> Prop} {s : Shared}
theorem zg_call {b1 b2 : Bool} {t1 t2 : Addr} {xs ys : Array Value} {Q : Value -> Shared -> Prop} (l1 : IsB b1 s.heap t1 xs) (l2 : IsB b2 s.heap t2 ys)
    (q : ∀ h', IsZip h' (s.heap.objs.size + 4) (s.heap.objs.size + 2) (s.heap.objs.size + 3) .none -> IsPair h' (s.heap.objs.size + 2) (.ref s.heap.objs.size) (.ref (s.heap.objs.size + 1)) -> IsPair h' (s.heap.objs.size + 3) .none .none →
      ItB b1 h' s.heap.objs.size t1 0 -> ItB b2 h' (s.heap.objs.size + 1) t2 0 -> (∀ c o, s.heap.get? c = some o -> h'.get? c = some o) -> Q (.ref (s.heap.objs.size + 4)) { s with heap := h' }) :
    wpAny (model prog w) A (call (.type "zip") [.ref t1, .ref t2]) Q E s := by
  refine callType_new F.called_zip (by decide) (F.typeCall_zip_2 _ _) (F.newCall_zip_2 _ _) (fun ob => F.args_object_init_3 ob _ _) F.entry_zip_new (zg_new b1 b2 t1 t2 xs ys) ⟨l1, l2, ?_⟩
  have n1 : (zg1 b1 s.heap t1).objs.size = s.heap.objs.size + 1 := Heap.size_push ..
  have n2 : (zg2 b1 b2 s.heap t1 t2).objs.size = s.heap.objs.size + 2 := by rw [Heap.size_push, n1]
  have n3 : (zg3 b1 b2 s.heap t1 t2).objs.size = s.heap.objs.size + 3 := by rw [Heap.size_push, n2]
  have n4 : (zg4 b1 b2 s.heap t1 t2).objs.size = s.heap.objs.size + 4 := by rw [Heap.size_push, n3]
  have p5 : (zg5 b1 b2 s.heap t1 t2).get? (zg4 b1 b2 s.heap t1 t2).objs.size = some _ := Heap.get?_push_size _ rfl
  have p4 : (zg5 b1 b2 s.heap t1 t2).get? (zg3 b1 b2 s.heap t1 t2).objs.size = some _ := Heap.get?_push_of_some _ (Heap.get?_push_size _ rfl)
  have p3 : (zg5 b1 b2 s.heap t1 t2).get? (zg2 b1 b2 s.heap t1 t2).objs.size = some _ := Heap.get?_push_of_some _ (Heap.get?_push_of_some _ (Heap.get?_push_size _ rfl))
  have p2 : (zg5 b1 b2 s.heap t1 t2).get? (zg1 b1 s.heap t1).objs.size = some _ := Heap.get?_push_of_some _ (Heap.get?_push_of_some _ (Heap.get?_push_of_some _ (Heap.get?_push_size _ rfl)))
  have p1 : (zg5 b1 b2 s.heap t1 t2).get? s.heap.objs.size = some _ := Heap.get?_push_of_some _ (Heap.get?_push_of_some _ (Heap.get?_push_of_some _ (Heap.get?_push_of_some _ (Heap.get?_push_size _ rfl))))
  rw [n2, n3, n4] at p5
  rw [n1, n2] at p3
  rw [n3] at p4
  rw [n1] at p2
  show _ /\ _
  rw [n4]
  refine ⟨⟨_, p5, rfl⟩, q _ p5 p3 p4 (ItB.mk p1) (ItB.mk p2) fun c o m => ?_⟩
  exact Heap.get?_push_of_some _ (Heap.get?_push_of_some _ (Heap.get?_push_of_some _ (Heap.get?_push_of_some _ (Heap.get?_push_of_some _ m))))
end
def Itg (b1 b2 : Bool) (K : W.Frag) (l1 l2 : Addr) : It :=
  ⟨fun i H => ∃ xs ys x y, SqB b1 K H l1 xs /\ SqB b2 K H l2 ys /\ xs[i]? = some x /\ ys[i]? = some y,
   fun i H x H' => ∃ p a b, H p = none /\ x = .ref p /\ H' = upd H p (.tup [a, b]) /\ ∀ xs ys, SqB b1 K H l1 xs -> SqB b2 K H l2 ys -> xs[i]? = some a /\ ys[i]? = some b,
   fun i H => ∃ xs ys, SqB b1 K H l1 xs /\ SqB b2 K H l2 ys /\ (xs.length <= i \/ ys.length <= i)⟩
theorem turn_zg {b1 b2 : Bool} {P : Program} {w : World} {K : W.Frag} {elts : List Expr} {x1 : Nat} {pos : Pos} {z ti to j1 j2 l1 l2 : Addr} (D : ZipApart z ti to j1 j2 l1 l2) :
    Turn P w K (.Tuple elts x1 pos) (Itg b1 b2 K l1 l2) [z, ti, to, j1, j2] z (fun i h => IsZip h z ti to .none /\ IsPair h ti (.ref j1) (.ref j2) /\ (∃ a b, IsPair h to a b) /\ ItB b1 h j1 l1 i /\ ItB b2 h j2 l2 i) where
  mem := by simp
  obj := fun i h st b hb => by
    obtain ⟨hz, hti, ⟨a, c, hto⟩, h1, h2⟩ := st
    obtain ⟨o1, e1, v1, d1⟩ := h1.obj
    obtain ⟨o2, e2, v2, d2⟩ := h2.obj
    simp only [List.mem_cons, List.not_mem_nil, or_false] at hb
    rcases hb with rfl | rfl | rfl | rfl | rfl
    . exact ⟨_, hz, fun v q => by cases q⟩
    . exact ⟨_, hti, fun v q => by cases q⟩
    . exact ⟨_, hto, fun v q => by cases q⟩
    . exact ⟨o1, e1, fun v q => by rw [d1] at q; cases q⟩
    . exact ⟨o2, e2, fun v q => by rw [d2] at q; cases q⟩
  keep := fun i h h' st k => by
    obtain ⟨hz, hti, ⟨a, c, hto⟩, h1, h2⟩ := st
    exact ⟨k z (by simp) _ hz, k ti (by simp) _ hti, ⟨a, c, k to (by simp) _ hto⟩, ItB.at' h1 fun o e => k j1 (by simp) o e, ItB.at' h2 fun o e => k j2 (by simp) o e⟩
  item := by
    intro X hP hw hK hc i pins s σ H E I hf st hg
    subst hP hw hK
    obtain ⟨xs, ys, x, y, hq1, hq2, hx, hy⟩ := hg
    obtain ⟨hz, hti, ⟨a, c, hto⟩, h1, h2⟩ := st
    obtain ⟨its1, rv1, p1, _⟩ := I.sqB hq1
    obtain ⟨its2, rv2, p2, _⟩ := I.sqB hq2
    obtain ⟨u1, hu1, ru1⟩ := rv1.get hx
    obtain ⟨u2, hu2, ru2⟩ := rv2.get hy
    refine zg_next D hz hti hto h1 h2 p1 p2 (x := u1) (y := u2) (by simpa using hu1) (by simpa using hu2) fun h' a1 a2 a3 a4 a5 a7 => ?_
    refine ⟨_, rfl, wpAny_letOwnedTupleGo_zip (s := { s with heap := h' }) a1 fun h'' hz'' hs'' => ?_⟩
    have neT : ∀ b ∈ [z, ti, to, j1, j2], b ≠ s.heap.objs.size := fun b hb e => by
      have : ∃ o, s.heap.get? b = some o := by
        obtain ⟨o1, e1, _⟩ := h1.obj
        obtain ⟨o2, e2, _⟩ := h2.obj
        simp only [List.mem_cons, List.not_mem_nil, or_false] at hb
        rcases hb with rfl | rfl | rfl | rfl | rfl
        . exact ⟨_, hz⟩
        . exact ⟨_, hti⟩
        . exact ⟨_, hto⟩
        . exact ⟨_, e1⟩
        . exact ⟨_, e2⟩
      obtain ⟨o, ho⟩ := this
      exact absurd (Heap.lt_size ho) (by rw [e]; exact Nat.lt_irrefl _)
    have kk : ∀ b o, b ∉ [z, ti, to, j1, j2] -> s.heap.get? b = some o -> h''.get? b = some o := fun b o hb e => by
      simp only [List.mem_cons, List.not_mem_nil, or_false, not_or] at hb
      exact hs''.extBut b o hb.1 (a7 b o hb.1 hb.2.2.1 hb.2.2.2.1 hb.2.2.2.2 e)
    have tti : h'.get? ti = _ := a7 ti _ D.TIz D.TITO D.TIi1 D.TIi2 hti
    have st' : IsZip h'' z ti to .none /\ IsPair h'' ti (.ref j1) (.ref j2) /\ (∃ a b, IsPair h'' to a b) /\ ItB b1 h'' j1 l1 (i + 1) /\ ItB b2 h'' j2 l2 (i + 1) :=
      ⟨hz'', hs''.extBut _ _ D.TIz tti, ⟨_, _, hs''.extBut _ _ D.TOz a2⟩, a3.extBut hs''.extBut D.i1z, a4.extBut hs''.extBut D.i2z⟩
    have hoF : ∀ b ∈ [z, ti, to, j1, j2], ∃ o, h''.get? b = some o := fun b hb => by
      obtain ⟨q1, q2, ⟨_, _, q3⟩, q4, q5⟩ := st'
      obtain ⟨o1, e1, _⟩ := q4.obj
      obtain ⟨o2, e2, _⟩ := q5.obj
      simp only [List.mem_cons, List.not_mem_nil, or_false] at hb
      rcases hb with rfl | rfl | rfl | rfl | rfl
      . exact ⟨_, q1⟩
      . exact ⟨_, q2⟩
      . exact ⟨_, q3⟩
      . exact ⟨_, e1⟩
      . exact ⟨_, e2⟩
    have zs : z ≠ s.heap.objs.size := neT z (by simp)
    have tup : IsTup h'' s.heap.objs.size [u1, u2].toArray := ⟨_, hs''.extBut _ _ (Ne.symm zs) a5, rfl, 0, rfl⟩
    refine ⟨.ref s.heap.objs.size, upd H s.heap.objs.size (.tup [x, y]), I.turnedLaid (h' := h'') hf kk hoF (Nat.le_refl _) (by show 2 <= sizeLine; decide) (.cons ru1 (.cons ru2 .nil)) tup, rfl, ⟨_, x, y, I.fresh, rfl, rfl, fun xs' ys' q1 q2 => ?_⟩, st', fun b hb => ?_⟩
    . rw [I.sqB_inj q1 hq1, I.sqB_inj q2 hq2]; exact ⟨hx, hy⟩
    . rw [upd_ne (neT b hb)]; exact (hf b hb).1
  done := by
    intro X hP hw hK hc i pins s σ H E I hf st hg
    subst hP hw hK
    obtain ⟨xs, ys, hq1, hq2, hend⟩ := hg
    obtain ⟨hz, hti, ⟨a, c, hto⟩, h1, h2⟩ := st
    obtain ⟨its1, rv1, p1, _⟩ := I.sqB hq1
    obtain ⟨its2, rv2, p2, _⟩ := I.sqB hq2
    have hl1 := rv1.length
    have hl2 := rv2.length
    refine zg_stop (I.ok.hd hc) D hz hti hto h1 h2 p1 p2 (by
      rcases hend with q | q
      . exact .inl (by simp; omega)
      . exact .inr (by simp; omega)) fun h' k => ⟨rfl, I.turnedAll hf fun b o hb e => ?_⟩
    simp only [List.mem_cons, List.not_mem_nil, or_false, not_or] at hb
    exact k b o hb.1 hb.2.2.1 hb.2.2.2.1 hb.2.2.2.2 e
  self := fun _ _ _ _ _ st h => wpAny_pyIter_zip st.1 h
def iZg (b1 b2 : Bool) (K : W.Frag) (ta : TA) : TI := fun σ H R => ta σ H fun vs H1 => ∃ l1 l2, vs = [.ref l1, .ref l2] /\ (∃ xs, SqB b1 K H1 l1 xs) /\ (∃ ys, SqB b2 K H1 l2 ys) /\ R (Itg b1 b2 K l1 l2) H1
theorem pi_zg (b1 b2 : Bool) (K : W.Frag) {X : Cx} {a b : Expr} {ta : TA} {p pos pos' : Pos} {elts : List Expr} {x1 : Nat} (hK : X.K = K) (hg : Gl X "zip") (hm : X.mg "zip" = none) (ha : PA X [a, b] ta) (hs : starEach [a, b] X.env = [(false, eval a X.env), (false, eval b X.env)] := by rfl) (hs2 : starEach [b] X.env = [(false, eval b X.env)] := by rfl) :
    PI X (.Tuple elts x1 pos') (.Call (.Name "zip" p) [a, b] [] pos) (iZg b1 b2 K ta) := by
  subst hK
  intro pins s σ H R I h
  refine Call_ (ld_blt I hg hm boot_zip (PyProof.Rows.callWith_type1 (thn (ha pos pins s σ H _ I h) fun us s1 ⟨vs, H1, I1, r1, q1⟩ => ?_) (by rw [hs, hs2]) (by rw [hs2]; rfl)))
  obtain ⟨l1, l2, e, ⟨xs, q1⟩, ⟨ys, q2⟩, q⟩ := q1
  subst e
  obtain ⟨u1, u2, rfl, ru1, ru2⟩ := vals2 r1
  cases ru1
  cases ru2
  obtain ⟨its1, rv1, p1, _⟩ := I1.sqB q1
  obtain ⟨its2, rv2, p2, _⟩ := I1.sqB q2
  refine zg_call p1 p2 fun h' z1 z2 z3 z4 z5 k => ?_
  have I2 : Inv X pins σ H1 { s1 with heap := h' } := I1.kept (t' := s1.toks) k
  refine wpAny_pyIter_zip z1 ?_
  have D : ZipApart (s1.heap.objs.size + 4) (s1.heap.objs.size + 2) (s1.heap.objs.size + 3) s1.heap.objs.size (s1.heap.objs.size + 1) l1 l2 := zapart _ _ _ p1.lt p2.lt
  refine ⟨s1.heap.objs.size + 4, [s1.heap.objs.size + 4, s1.heap.objs.size + 2, s1.heap.objs.size + 3, s1.heap.objs.size, s1.heap.objs.size + 1], _, _, H1, rfl, I2, turn_zg D, ⟨z1, z2, ⟨_, _, z3⟩, z4, z5⟩, fun b hb => ?_, q⟩
  have hb' : s1.heap.objs.size <= b := by
    simp only [List.mem_cons, List.not_mem_nil, or_false] at hb
    rcases hb with rfl | rfl | rfl | rfl | rfl
    . exact Nat.le_add_right _ _
    . exact Nat.le_add_right _ _
    . exact Nat.le_add_right _ _
    . exact Nat.le_refl _
    . exact Nat.le_add_right _ _
  exact I1.fpOk hb' (I1.hok.fresh hb')
section
variable {b1 b2 : Bool} {xs ys : List V} {K : W.Frag} {l1 l2 : Addr} {fr : List Nat} {te : TE} {σ : St} {H1 : Hp} {p : Addr} {D : Hp -> Prop}
theorem lc_zgS (h1 : SqB b1 K H1 l1 xs) (h2 : SqB b2 K H1 l2 ys) (hp : H1 p = none) (hz : xs.length < sizeLine) (R : Nat -> V -> Hp -> Prop) (hR : ∀ i y H H', R i y H -> (∀ b o, b ≠ p -> H b = some o -> H' b = some o) -> R i y H')
    (step : ∀ (i : Nat) x y H zs (N : VK), xs[i]? = some x -> ys[i]? = some y -> Same H1 H -> H p = some (.lst zs) -> (∀ v H3, Same H H3 -> R i v H3 -> N v H3) -> te (((blkσ 2 fr σ).set 0 (some x)).set 1 (some y)) H N)
    (hd : ∀ zs H, Same H1 H -> H p = some (.lst zs) -> zs.length = min xs.length ys.length -> (∀ i z, zs[i]? = some z -> R i z H) -> D H) : lcW 2 fr (gTup K 2 (gCons (gName 0) (gCons (gName 1) gNil))) te σ (Itg b1 b2 K l1 l2) H1 p D := by
  refine ⟨fun i m zs H => m = min xs.length ys.length - i /\ i <= min xs.length ys.length /\ Same H1 H /\ H p = some (.lst zs) /\ zs.length = i /\ ∀ j y, zs[j]? = some y -> R j y H, ⟨_, rfl, Nat.zero_le _, Same.new hp _, upd_same, rfl, fun j y e => by simp at e⟩, ?_⟩
  rintro i m zs H ⟨rfl, hi, e, hH, len, pr⟩
  by_cases hlt : i < min xs.length ys.length
  . have hx : i < xs.length := by omega
    have hy : i < ys.length := by omega
    refine .inr ⟨⟨xs, ys, xs[i], ys[i], e.sqB h1, e.sqB h2, List.getElem?_eq_getElem hx, List.getElem?_eq_getElem hy⟩, fun u H' y => ?_⟩
    obtain ⟨q, a, b, hq, rfl, rfl, hab⟩ := y
    obtain ⟨ha, hb⟩ := hab xs ys (e.sqB h1) (e.sqB h2)
    have s1 := Same.new hq (.tup [a, b])
    refine ⟨q, _, rfl, SqT.of upd_same, rfl, _, _, rfl, _, _, rfl, rfl, ?_, ?_⟩
    . refine ⟨by simp, fun k w ek => ?_⟩
      have : ¬ k < 2 := fun hk => by
        unfold blkσ at ek
        rw [List.getElem?_append_left (by simpa using hk), List.getElem?_replicate] at ek
        split at ek <;> cases ek
      rw [List.getElem?_set_ne (by omega), List.getElem?_set_ne (by omega)]; exact ek
    . refine step i a b _ zs _ ha hb (e.trans s1) (s1 _ _ hH) fun v H3 s3 r3 => ⟨s3 _ _ (s1 _ _ hH), by omega, min xs.length ys.length - (i + 1), by omega, rfl, hlt, fun b' o q' => ?_, upd_same, by rw [List.length_append, len]; rfl, fun j y ey => ?_⟩
      . rw [upd_ne (ne_of_none q' hp)]; exact s3 _ _ (s1 _ _ (e _ _ q'))
      . have up : ∀ b o, b ≠ p -> H3 b = some o -> upd H3 p (.lst (zs ++ [v])) b = some o := fun b o hb q => by rw [upd_ne hb]; exact q
        by_cases hj : j < zs.length
        . rw [List.getElem?_append_left hj] at ey
          exact hR j y _ _ (pr j y ey) fun b o hb q => up b o hb (s3 _ _ (s1 _ _ q))
        . rw [List.getElem?_append_right (by omega)] at ey
          have hj' : j - zs.length = 0 := by
            cases q : j - zs.length with
            | zero => rfl
            | succ k => rw [q] at ey; simp at ey
          rw [hj'] at ey
          have : j = i := by omega
          subst this
          simp at ey
          subst ey
          exact hR j v _ _ r3 up
  . have : i = min xs.length ys.length := by omega
    subst this
    exact .inl ⟨⟨xs, ys, e.sqB h1, e.sqB h2, by omega⟩, hd zs H e hH len pr⟩
end
section
variable {xs ys : List V} {K : W.Frag} {l1 l2 : Addr} {fr : List Nat} {te : TE} {σ : St} {H1 : Hp} {p : Addr} {D : Hp -> Prop}
end
end L2
namespace Fr
end Fr
namespace L2
open PySem PySem.Spec PyProof.Rows
section
variable {X : Cx} {pins : List (Addr × Obj)} {σ : St} {H : Hp} {s : Shared} {fr : List Nat} {scope : Scope} {col : Str} {qual : Str} {f : Addr} {cd : Value} {A' : Around}
end
end L2
namespace L2
open PySem PySem.Spec PyProof.Rows
abbrev codeO (c : Addr) (qual : Str) : HO := .ext fun h => h.CodeRec (.ref c) qual
def LamTab (P : Addr) (pos : Pos) (qual : Str) (H : Hp) : Prop :=
  H P = some (.tbl #[]) \/ ∃ c', H P = some (.tbl #[rawInt pos.line, rawInt pos.col, .ref c']) /\ H c' = some (codeO c' qual)
def Same1 (P : Addr) (H H' : Hp) : Prop := ∀ b o, b ≠ P -> H b = some o -> H' b = some o
section
variable {X : Cx} {pins : List (Addr × Obj)} {σ : St} {H : Hp} {s : Shared} {fr : List Nat} {scope : Scope} {qual : Str} {c P : Addr} {params : Arguments} {body : Expr} {pos : Pos}
end
end L2
namespace L2
open PySem PySem.Spec PyProof.Rows
section
variable {X : Cx} {pins : List (Addr × Obj)} {σ : St} {H : Hp} {l It S fq : Addr} {ns : List Int} {g : Int -> Int} {R : Result -> Shared -> Prop}
end
end L2
namespace L2
open PySem PySem.Spec PyProof.Rows
section
variable {X : Cx} {e body : Expr} {es : List Expr} {t : TA} {tb : TE} {fr : List Nat} {scope : Scope} {col : Str} {c P : Addr} {params : Arguments} {p pos lpos kp1 kp2 cp : Pos} {cj : Nat}
end
end L2
namespace L2
open PySem PySem.Spec PyProof.Rows
section
variable {X : Cx} {os : List Str} {fr : List Nat} {scope : Scope} {elt tg iter : Expr} {pos : Pos} {wi : TI} {g : TG} {te : TE}
end
section
variable {fr : List Nat} {tc : TT} {σ : St} {J : It} {H1 : Hp} {p : Addr} {D : Hp -> Prop} {xs : List V}
theorem lc_pick (hJ : ItIs J H1 xs) (hp : H1 p = none) (hz : xs.length < sizeLine) (F : V -> Bool)
    (step : ∀ (i : Nat) x H (N : Bool -> Hp -> Prop), xs[i]? = some x -> Same H1 H -> N (F x) H -> tc ((blkσ 1 fr σ).set 0 (some x)) H N)
    (hd : D (upd H1 p (.lst (xs.filter F)))) : lcI 1 fr (gName 0) tc (tVar 0) σ J H1 p D := by
  refine ⟨fun i m ys H => m = xs.length - i /\ i <= xs.length /\ ys = (xs.take i).filter F /\ H = upd H1 p (.lst ys), ⟨xs.length, by simp, Nat.zero_le _, by simp, rfl⟩, ?_⟩
  rintro i m ys H ⟨rfl, hi, rfl, rfl⟩
  have e := Same.new (o := .lst ((xs.take i).filter F)) hp
  by_cases hlt : i < xs.length
  . refine .inr ⟨hJ.go i _ e hlt, fun x H' y => ?_⟩
    obtain ⟨rfl, hx⟩ := hJ.yld i _ x H' e hlt y
    have tk : (xs.take (i + 1)).filter F = (xs.take i).filter F ++ [x].filter F := by rw [List.take_succ, hx, List.filter_append]; rfl
    refine ⟨Wk.set (by decide), step i x _ _ hx e ?_⟩
    cases hq : F x with
    | false =>
      rw [if_neg Bool.false_ne_true]
      refine ⟨xs.length - (i + 1), by omega, rfl, hlt, ?_, rfl⟩
      rw [tk]; simp [hq]
    | true =>
      rw [if_pos rfl]
      refine ⟨x, ?_, upd_same, ?_, xs.length - (i + 1), by omega, rfl, hlt, ?_, upd_upd⟩
      . show ((blkσ 1 fr σ).set 0 (some x))[0]? = some (some x)
        rw [List.getElem?_set_self (by simp [blkσ])]
      . have h1 := List.length_filter_le F (xs.take i)
        rw [List.length_take] at h1
        omega
      . rw [tk]; simp [hq]
  . have : i = xs.length := by omega
    subst this
    refine .inl ⟨hJ.stop _ e, ?_⟩
    rw [List.take_of_length_le (Nat.le_refl _)]; exact hd
end
section
variable {P : Program} {w : World} {K : W.Frag} {mg : Str -> Option Value} {base : Heap}
end
end L2
namespace L2
open PySem
section
variable {xs ys : List V} {K : W.Frag} {l1 l2 : Addr} {fr : List Nat} {te : TE} {σ : St} {H1 : Hp} {p : Addr} {D : Hp -> Prop}
end
end L2
namespace L2
open PySem
theorem gen2 {G0 : St -> Hp -> Prop} {σ : St} {H : Hp} (h : ∀ G : St -> Hp -> Prop, G = G0 -> G σ H) : G0 σ H := h G0 rfl
section
variable {X : Cx} {st : Stmt} {rest : List Stmt} {t u : TS}
def tCut (t u : TS) : TS := fun D σ H => ∃ M : St -> Hp -> Prop, t { D with nx := M } σ H /\ ∀ σ' H', M σ' H' -> u D σ' H'
theorem pss_cut (h1 : PS X st t) (h2 : PSs X rest u) : PSs X (st :: rest) (tCut t u) := by
  intro pins s σ H D I ⟨M, h, hM⟩
  refine wpAny_execs_cons (thn (h1 pins s σ H { D with nx := M } I h) fun f s1 q => ?_)
  cases f with
  | next =>
    obtain ⟨σ', H', I', q⟩ := q
    exact h2 pins s1 σ' H' D I' (hM _ _ q)
  | ret v => exact q
  | brk => exact q
  | cont => exact q
end
end L2
namespace Rim
open PySem L2
end Rim
namespace L2
open PySem PySem.Spec PyProof.Rows
section
variable {X : Cx}
theorem call_rng1 : CallR X (.type "range") (fun vs H Q => ∃ j : Int, vs = [.int j] /\ ∀ p, H p = none -> Q (.ref p) (upd H p (.rng 0 j))) := by
  intro pins s σ H vs us Q I r h
  obtain ⟨j, rfl, q⟩ := h
  obtain ⟨u, rfl, t, rfl⟩ := vals1 r
  refine call_range_1 ⟨.ref s.heap.objs.size, _, I.laid (o := .rng 0 j) (fun b u e => Heap.get?_push_of_some _ e) (Nat.le_refl _) ⟨_, _, _, Heap.get?_push_size _ rfl⟩, rfl, q _ (I.hok.fresh (Nat.le_refl _))⟩
theorem vals_items : ∀ (n : Nat) (acc : List Value) (F : Nat -> Int), acc.length = n -> (∀ j v, acc[j]? = some v -> ∃ t, v = Value.int (F j) t) -> Vals ((List.range n).map fun i => V.int (F i)) acc
  | 0, [], _, _, _ => .nil
  | n + 1, a :: acc, F, hl, h => by
    rw [List.range_succ_eq_map, List.map_cons, List.map_map]
    refine .cons (h 0 a rfl) ?_
    exact vals_items n acc (fun i => F (i + 1)) (by simpa using hl) fun j v e => h (j + 1) v (by simpa using e)
theorem call_list_rng (hc : X.calm = true) : CallR X (.type "list") (fun vs H Q => ∃ (p : Addr) (lo : Int) (n : Nat), vs = [.ref p] /\ H p = some (.rng lo (lo + n)) /\ -(2 ^ 60) <= lo /\ lo < 2 ^ 60 /\ n <= 1000 /\ ∀ l, H l = none -> Q (.ref l) (upd H l (.lst ((List.range n).map fun (i : Nat) => V.int (lo + (i : Int)))))) := by
  intro pins s σ H vs us Q I r h
  obtain ⟨p, lo, n, rfl, hp, h1, h2, hn, q⟩ := h
  obtain ⟨u, rfl, ru⟩ := vals1 r
  cases ru
  obtain ⟨t, u, v, e⟩ := I.hok p _ hp
  have hsz : Builtin.Range.rangeSize lo (lo + n) 1 = n := by rw [rangeSize_one]; split <;> omega
  refine call_list_range (I.ok.hd hc) e (small_one (by omega) (by omega) (by omega) (by omega)) hsz (by omega) fun h' tk acc' c' hk hS hacc => ?_
  have hv : Vals ((List.range n).map fun (i : Nat) => V.int (lo + (i : Int))) acc'.toList := vals_items n acc'.toList (fun i => lo + (i : Int)) (by simpa using hacc.1) fun j v e => by
    obtain ⟨t, et⟩ := hacc.2 j v (by simpa using e)
    exact ⟨t, by rw [et, Int.mul_one]⟩
  have h9 : n <= sizeLine := Nat.le_trans hn (by decide)
  refine ⟨.ref s.heap.objs.size, _, I.laid (o := .lst ((List.range n).map fun (i : Nat) => V.int (lo + (i : Int)))) (t' := tk) hk (Nat.le_refl _) ⟨by simpa using h9, acc'.toList, c', hv, by simpa using hS⟩, rfl, q _ (I.hok.fresh (Nat.le_refl _))⟩
end
end L2
namespace Lp
abbrev Vec := Nat -> Int
def tl (v : Vec) : Vec := fun i => v (i + 1)
def sumS (D : List Vec -> Int) : List Vec -> List Vec -> Int
  | _, [] => 0
  | pre, c :: rest => c 0 * D ((pre ++ rest).map tl) - sumS D (pre ++ [c]) rest
def det : Nat -> List Vec -> Int
  | 0, _ => 1
  | n + 1, cols => sumS (det n) [] cols
def bnd (M : Nat) : Nat -> Nat
  | 0 => 1
  | n + 1 => (n + 1) * (M * bnd M n)
end Lp
namespace Lp
def sumTo (g : Nat -> Int) : Nat -> Int
  | 0 => 0
  | n + 1 => sumTo g n + g n
def zv : Vec := fun _ => 0
def Cram (n : Nat) (B : List Vec) (u : Vec) : Prop := ∀ x, det n B * u x = sumTo (fun k => det n (B.set k u) * (B.getD k zv) x) n
end Lp
namespace Lp
structure Bo where
  d : Int
  T : Nat -> Nat -> Int
  ins : Nat -> Nat
  outs : Nat -> Nat
def upN (g : Nat -> Nat) (k v : Nat) : Nat -> Nat := fun i => if i = k then v else g i
def piv (S : Bo) (r c : Nat) : Bo where
  d := S.T r c
  T := fun i j => if i = r then (if j = c then S.d else S.T r j) else (if j = c then - S.T i c else (S.T i j * S.T r c - S.T i c * S.T r j) / S.d)
  ins := upN S.ins r (S.outs c)
  outs := upN S.outs c (S.ins r)
def Bs (m : Nat) (V : Nat -> Vec) (ins : Nat -> Nat) : List Vec := (List.range (m + 1)).map fun i => V (ins i)
structure Wf (m q : Nat) (V : Nat -> Vec) (S : Bo) : Prop where
  hd : S.d = det (m + 1) (Bs m V S.ins)
  hT : ∀ i j, i < m + 1 -> j < q + 1 -> S.T i j = det (m + 1) ((Bs m V S.ins).set i (V (S.outs j)))
  cr : ∀ j, j < q + 1 -> Cram (m + 1) (Bs m V S.ins) (V (S.outs j))
  pos : 0 < S.d
  feas : ∀ i, i < m -> 0 <= S.T i q
  im : S.ins m = q + m
  oq : S.outs q = q + m + 1
  ib : ∀ i, i < m -> S.ins i < q + m
  ob : ∀ j, j < q -> S.outs j < q + m
  ii : ∀ i k, i < m -> k < m -> S.ins i = S.ins k -> i = k
  oo : ∀ j k, j < q -> k < q -> S.outs j = S.outs k -> j = k
  io : ∀ i j, i < m -> j < q -> S.ins i ≠ S.outs j
  all : ∀ v, v < q + m -> (∃ i, i < m /\ S.ins i = v) \/ (∃ j, j < q /\ S.outs j = v)
section
variable {m q : Nat} {V : Nat -> Vec} {S : Bo}
def Ker (m q : Nat) (V : Nat -> Vec) (S : Bo) (z : Nat -> Int) : Prop := ∀ x, sumTo (fun k => z (S.ins k) * V (S.ins k) x) (m + 1) + sumTo (fun j => z (S.outs j) * V (S.outs j) x) (q + 1) = 0
end
end Lp
namespace Lp
structure Choice (m q : Nat) (S : Bo) (r c : Nat) : Prop where
  hc : c < q
  neg : S.T m c < 0
  minc : ∀ j, j < q -> S.T m j < 0 -> S.outs c <= S.outs j
  hr : r < m
  pos : 0 < S.T r c
  ratio : ∀ i, i < m -> 0 < S.T i c -> S.T r q * S.T i c <= S.T i q * S.T r c
  tie : ∀ i, i < m -> 0 < S.T i c -> S.T r q * S.T i c = S.T i q * S.T r c -> S.ins r <= S.ins i
section
variable {m q : Nat} {V : Nat -> Vec} {S S' : Bo}
end
structure Seq (m q : Nat) (V : Nat -> Vec) (S : Nat -> Bo) (R C : Nat -> Nat) : Prop where
  w : Wf m q V (S 0)
  ch : ∀ k, Choice m q (S k) (R k) (C k)
  st : ∀ k, S (k + 1) = piv (S k) (R k) (C k)
section
variable {m q : Nat} {V : Nat -> Vec} {S : Nat -> Bo} {R C : Nat -> Nat}
end
end Lp
namespace Lp
section
variable {m q : Nat} {V : Nat -> Vec} {S : Bo}
end
section
variable {m q : Nat} {V : Nat -> Vec} {S : Nat -> Bo} {R C : Nat -> Nat}
end
inductive Ends (m q : Nat) : Bo -> Nat -> Prop
  | stop {S : Bo} : (¬ ∃ r c, Choice m q S r c) -> Ends m q S 0
  | go {S : Bo} {r c k : Nat} : Choice m q S r c -> Ends m q (piv S r c) k -> Ends m q S (k + 1)
end Lp
namespace Lp
def Vv (m q : Nat) (A : Nat -> Nat -> Int) (b c : Nat -> Int) : Nat -> Vec := fun v x =>
  if v < q then (if x < m then A x v else if x = m then - c v else 0) else if v < q + m + 1 then (if x = v - q then 1 else 0) else (if x < m then b x else 0)
def S0 (m q : Nat) (A : Nat -> Nat -> Int) (b c : Nat -> Int) : Bo where
  d := 1
  T := fun i j => if j < q then (if i < m then A i j else - c j) else (if i < m then b i else 0)
  ins := fun i => q + i
  outs := fun j => if j < q then j else q + m + 1
section
variable {m q : Nat} {A : Nat -> Nat -> Int} {b c : Nat -> Int}
end
def valIn (m : Nat) (S : Bo) (q v : Nat) : Int := sumTo (fun i => if S.ins i = v then S.T i q else 0) m
def valOut (m q : Nat) (S : Bo) (v : Nat) : Int := sumTo (fun j => if S.outs j = v then S.T m j else 0) q
section
variable {m q : Nat} {A : Nat -> Nat -> Int} {b c : Nat -> Int} {S : Bo}
structure Of (m q : Nat) (A : Nat -> Nat -> Int) (b c : Nat -> Int) (S : Bo) : Prop where
  w : Wf m q (Vv m q A b c) S
  k : ∀ z, Ker m q (Vv m q A b c) S z ↔ Ker m q (Vv m q A b c) (S0 m q A b c) z
end
end Lp
namespace Rim
open PySem L2
def top (i : Nat) : Stmt := PySem.Challenge.pw_rimhouse_k26_merged_by_hand.main.body.getD i (.Pass ⟨0, 0, 0, 0⟩)
abbrev sHof : Stmt := top 10
abbrev sCell : Stmt := top 15
abbrev sDraws : Stmt := top 16
abbrev sNear : Stmt := top 18
abbrev sABook : Stmt := top 19
abbrev sLaw : Stmt := top 25
abbrev s_together : Stmt := top 12
abbrev s_merged : Stmt := top 13
abbrev s__law_a_kin : Stmt := top 20
abbrev s__law_due_kin : Stmt := top 21
abbrev s__law_told : Stmt := top 22
abbrev s__law_a_due : Stmt := top 23
abbrev s__law_a_some : Stmt := top 24
abbrev lamPos : Pos := ⟨0, 0, 0, 0⟩
end Rim
namespace Rim
open PySem L2
structure Nones (mg : Str -> Option Value) : Prop where
  len : mg "len" = none
  all : mg "all" = none
  any : mg "any" = none
  max : mg "max" = none
  min : mg "min" = none
  sum : mg "sum" = none
  tuple : mg "tuple" = none
  list : mg "list" = none
  int : mg "int" = none
  bool : mg "bool" = none
  range : mg "range" = none
  isi : mg "isinstance" = none
  abs : mg "abs" = none
  zip : mg "zip" = none
  enum : mg "enumerate" = none
  ve : mg "ValueError" = none
  so : mg "sorted" = none
def rLen (K : W.Frag) : List V -> Hp -> VK -> Prop := fun xs H Q => ∃ p ys, xs = [.ref p] /\ (SqL K H p ys \/ SqT K H p ys) /\ Q (.int (ys.length : Int)) H
theorem len_at (K : W.Frag) {X : Cx} (h : X.K = K) : CallR X (.builtin "len") (rLen K) := by subst h; exact call_len_seq
theorem pgt_at (K : W.Frag) {X : Cx} {es : List Expr} {k : Nat} {t : TGs} {n : Nat} {pos : Pos} (h : X.K = K) (hc : X.calm = true) (hp : PGs X es t) (hn : (assignEach es X.env).length = n := by rfl) (hst : (assignEach es X.env).findIdx? (·.1) = none := by rfl) : PG X (.Tuple es k pos) (gTup K n t) := by subst h; exact pg_tup hc hp hn hst
def vI : V -> Int
  | .int i => i
  | _ => 0
theorem map_int_at {ns : List Int} {i : Nat} {x : V} (h : (ns.map V.int)[i]? = some x) : ∃ k, x = .int k := by
  rw [List.getElem?_map] at h
  cases hn : ns[i]? with
  | none => rw [hn] at h; cases h
  | some k => rw [hn] at h; cases h; exact ⟨k, rfl⟩
abbrev House := List Int × List Int
def HS (K : W.Frag) (H : Hp) (v : V) (h : House) : Prop := ∃ a t g, v = .ref a /\ SqT K H a [.ref t, .ref g] /\ SqT K H t (h.1.map V.int) /\ SqT K H g (h.2.map V.int)
abbrev Bk (K : W.Frag) (H : Hp) : List V -> List House -> Prop := PySem.Paired (HS K H)
theorem HS.same {K : W.Frag} {H H' : Hp} {v : V} {h : House} (e : Same H H') (x : HS K H v h) : HS K H' v h := by
  obtain ⟨a, t, g, h0, h1, h2, h3⟩ := x
  exact ⟨a, t, g, h0, e.tseq h1, e.tseq h2, e.tseq h3⟩
theorem Bk.same {K : W.Frag} {H H' : Hp} {vs : List V} {hs : List House} (e : Same H H') (x : Bk K H vs hs) : Bk K H' vs hs := Paired.imp' (fun _ _ r => HS.same e r) x
theorem Paired.at {α β : Type} {F : α -> β -> Prop} : ∀ {l₁ : List α} {l₂ : List β}, PySem.Paired F l₁ l₂ -> ∀ {i : Nat} {x : α}, l₁[i]? = some x -> ∃ y, l₂[i]? = some y /\ F x y
  | _, _, .nil, _, _, e => by simp at e
  | _, _, .cons r _, 0, _, e => by simp at e; subst e; exact ⟨_, rfl, r⟩
  | _, _, .cons _ t, i + 1, x, e => by
    obtain ⟨y, h1, h2⟩ := Paired.at t (i := i) (x := x) (by simpa using e)
    exact ⟨y, by simpa using h1, h2⟩
end Rim
namespace Rim
open PySem L2
def rowL (q : Nat) (S : Lp.Bo) (i : Nat) : List Int := (List.range (q + 1)).map (S.T i)
def outsL (q : Nat) (S : Lp.Bo) : List Int := (List.range q).map fun j => (S.outs j : Int)
def insL (m : Nat) (S : Lp.Bo) : List Int := (List.range m).map fun i => (S.ins i : Int)
abbrev bdF (q : Nat) (d : Int) (ca oa ia : Addr) : List (Str × V) := [("many", .int q), ("scale", .int d), ("cells", .ref ca), ("outs", .ref oa), ("ins", .ref ia)]
structure Bd (C : Addr) (H : Hp) (p dx ca oa ia : Addr) (rs : List Addr) (m q : Nat) (S : Lp.Bo) : Prop where
  obj : H p = some (.ins C dx (bdF q S.d ca oa ia))
  cel : H ca = some (.lst (rs.map V.ref))
  len : rs.length = m + 1
  row : ∀ i r, rs[i]? = some r -> H r = some (.lst ((rowL q S i).map V.int))
  out : H oa = some (.lst ((outsL q S).map V.int))
  inn : H ia = some (.lst ((insL m S).map V.int))
  ne : oa ≠ ia
structure TB (K : W.Frag) (C : Addr) : Prop where
  cl : Cls K C
  nM : NoAttr K C "many"
  nS : NoAttr K C "scale"
  nC : NoAttr K C "cells"
  nO : NoAttr K C "outs"
  nI : NoAttr K C "ins"
section
variable {C : Addr} {H H' : Hp} {p dx ca oa ia : Addr} {rs : List Addr} {m q : Nat} {S : Lp.Bo}
def Sz (n m q : Nat) (S : Lp.Bo) : Prop := (∀ i j, i < m + 1 -> j < q + 1 -> Big n (S.T i j)) /\ Big n S.d
end
section
variable {P : Program} {w : World} {K : W.Frag} {mg : Str -> Option Value} {base : Heap} {f : Addr} {fd : FuncData} {n : Nat} {C : Addr}
end
end Rim
namespace Rim
open PySem L2
structure MCal (P : Program) (w : World) (K : W.Frag) (mg : Str -> Option Value) (base : Heap) (n : Nat) (C : Addr) (m : Str) (ps : List Str) (sp : Sp) (f : Addr) (fd : FuncData) : Prop where
  ok : FnOk P w K mg base CX0 n f fd ps sp
  bd : Binds K fd ps []
  me : Meth K C m f
def Bet (q : Nat) (S : Lp.Bo) (c r i : Nat) : Prop := S.T r q * S.T i c <= S.T i q * S.T r c /\ (S.T r q * S.T i c = S.T i q * S.T r c -> S.ins r <= S.ins i)
section
variable {P : Program} {w : World} {K : W.Frag} {mg : Str -> Option Value} {base : Heap} {f g : Addr} {fd gd : FuncData} {n : Nat} {C : Addr}
def spGoing (C : Addr) : Sp := fun vs H Q _ => ∃ (p dx ca oa ia : Addr) (rs : List Addr) (m q : Nat) (S : Lp.Bo) (c : Nat), vs = [.ref p, .int c] /\ Bd C H p dx ca oa ia rs m q S /\ Sz 4000 m q S /\ m < 1000 /\ c < q + 1 ∧
  ((∀ i, i < m -> ¬ 0 < S.T i c) -> Q .non H) /\ ∀ r, r < m -> 0 < S.T r c -> (∀ i, i < m -> 0 < S.T i c -> Bet q S c r i) -> Q (.int r) H
end
end Rim
namespace Rim
open PySem L2
abbrev lamQ : Str := ("Board.coming" ++ ".<locals>.") ++ "<lambda>"
abbrev LT (Pt : Addr) (H : Hp) : Prop := LamTab Pt lamPos lamQ H
section
variable {P : Program} {w : World} {K : W.Frag} {mg : Str -> Option Value} {base : Heap} {f g c Pt : Addr} {fd gd : FuncData} {n : Nat} {C : Addr}
def spComing (C Pt : Addr) : Sp := fun vs H Q _ => ∃ (p dx ca oa ia : Addr) (rs : List Addr) (m q : Nat) (S : Lp.Bo), vs = [.ref p] /\ Bd C H p dx ca oa ia rs m q S /\ q < 1000 /\ LT Pt H ∧
  ∀ H', Same1 Pt H H' -> LT Pt H' -> ((∀ j, j < q -> ¬ S.T m j < 0) -> Q .non H') /\ ∀ j, j < q -> S.T m j < 0 -> (∀ i, i < q -> S.T m i < 0 -> S.outs j <= S.outs i) -> Q (.int j) H'
end
end Rim
namespace Rim
open PySem L2
section
variable {P : Program} {w : World} {K : W.Frag} {mg : Str -> Option Value} {base : Heap} {f g c Pt : Addr} {fd gd : FuncData} {n : Nat} {C : Addr}
end
end Rim
namespace Rim
open PySem L2
structure SCal (P : Program) (w : World) (K : W.Frag) (mg : Str -> Option Value) (base : Heap) (n : Nat) (x : Str) (ps : List Str) (sp : Sp) (fa : Addr) (d : FuncData) : Prop where
  ok : FnOk P w K mg base CX0 n fa d ps sp
  b : Binds K d ps []
  k : W.keepIn K (.ref fa) = true
  m : mg x = some (.ref fa)
theorem ixN_at {n i : Nat} (h : i < n) : ixN n (i : Int) = some i := by
  unfold ixN
  rw [if_pos (by lia), if_pos (by lia), Int.toNat_natCast]
end Rim
namespace Rim
open PySem L2
section
variable {P : Program} {w : World} {K : W.Frag} {mg : Str -> Option Value} {base : Heap} {f g c Pt : Addr} {fd gd : FuncData} {n : Nat} {C : Addr}
def spExchange (C : Addr) : Sp := fun vs H Q _ => ∃ (p dx ca oa ia : Addr) (rs : List Addr) (m q : Nat) (S : Lp.Bo) (r c : Nat), vs = [.ref p, .int r, .int c] /\ Bd C H p dx ca oa ia rs m q S /\ Sz 4000 m q S /\ r < m /\ c < q /\ m < 900 /\ q < 900 /\ 0 < S.d ∧
  ∀ (H' : Hp) (ca' : Addr) (rs' : List Addr), Bd C H' p dx ca' oa ia rs' m q (Lp.piv S r c) -> (∀ b o, b ≠ p -> b ≠ oa -> b ≠ ia -> H b = some o -> H' b = some o) -> Q .non H'
end
end Rim
namespace Rim
open PySem L2
section
variable {P : Program} {w : World} {K : W.Frag} {mg : Str -> Option Value} {base : Heap} {f g c Pt : Addr} {fd gd : FuncData} {n : Nat} {C : Addr}
end
end Rim
namespace Rim
open PySem L2
def amtsL (m q : Nat) (S : Lp.Bo) : List Int := (List.range q).map fun v => Lp.valIn m S q v
def wtsL (m q : Nat) (S : Lp.Bo) : List Int := (List.range m).map fun i => Lp.valOut m q S (q + i)
section
variable {P : Program} {w : World} {K : W.Frag} {mg : Str -> Option Value} {base : Heap} {f g c Pt : Addr} {fd gd : FuncData} {n : Nat} {C : Addr}
def spAmts (C : Addr) : Sp := fun vs H Q _ => ∃ (p dx ca oa ia : Addr) (rs : List Addr) (m q : Nat) (S : Lp.Bo), vs = [.ref p] /\ Bd C H p dx ca oa ia rs m q S /\ m < 900 /\ q < 900 /\ (∀ i k, i < m -> k < m -> S.ins i = S.ins k -> i = k) ∧
  ∀ (r : Addr) (H' : Hp), Same H H' -> H r = none -> H' r = some (.lst ((amtsL m q S).map V.int)) -> Q (.ref r) H'
def spWts (C : Addr) : Sp := fun vs H Q _ => ∃ (p dx ca oa ia : Addr) (rs : List Addr) (m q : Nat) (S : Lp.Bo), vs = [.ref p] /\ Bd C H p dx ca oa ia rs m q S /\ m < 900 /\ q < 900 /\ (∀ j k, j < q -> k < q -> S.outs j = S.outs k -> j = k) /\ (∀ j, j < q -> S.outs j < q + m) ∧
  ∀ (r : Addr) (H' : Hp), Same H H' -> H r = none -> H' r = some (.lst ((wtsL m q S).map V.int)) -> Q (.ref r) H'
end
end Rim
namespace Rim
open PySem L2
def Arr (rows : List (List Int)) : Nat -> Nat -> Int := fun i j => (rows.getD i []).getD j 0
def vec (l : List Int) : Nat -> Int := fun i => l.getD i 0
abbrev RowsL (K : W.Frag) (H : Hp) : List V -> List (List Int) -> Prop := PySem.Paired fun v row => ∃ a, v = .ref a /\ SqL K H a (row.map V.int)
section
variable {P : Program} {w : World} {K : W.Frag} {mg : Str -> Option Value} {base : Heap} {f g c Pt : Addr} {fd gd : FuncData} {n : Nat} {C : Addr}
def spInit (K : W.Frag) (C : Addr) : Sp := fun vs H Q _ => ∃ (p dx ga ra ba : Addr) (goal : List Int) (rvs : List V) (rows : List (List Int)) (bounds : List Int) (m q : Nat), vs = [.ref p, .ref ga, .ref ra, .ref ba] /\ H p = some (.ins C dx []) /\ SqL K H ga (goal.map V.int) /\ SqL K H ra rvs ∧
  RowsL K H rvs rows /\ SqL K H ba (bounds.map V.int) /\ rows.length = m /\ bounds.length = m /\ goal.length = q /\ (∀ r ∈ rows, r.length = q) /\ m < 900 /\ q < 900 ∧
  ∀ (H' : Hp) (ca oa ia : Addr) (rs : List Addr), Bd C H' p dx ca oa ia rs m q (Lp.S0 m q (Arr rows) (vec bounds) (vec goal)) -> (∀ b o, b ≠ p -> H b = some o -> H' b = some o) -> H oa = none -> H ia = none -> Q .non H'
end
end Rim
namespace Rim
open PySem L2
section
variable {P : Program} {w : World} {K : W.Frag} {mg : Str -> Option Value} {base : Heap} {f g c Pt : Addr} {fd gd : FuncData} {n : Nat} {C : Addr}
end
end Rim
namespace Rim
open PySem L2
section
variable {P : Program} {w : World} {K : W.Frag} {mg : Str -> Option Value} {base : Heap} {f Pt : Addr} {fd : FuncData} {n : Nat} {C : Addr}
structure GCal (P : Program) (w : World) (K : W.Frag) (mg : Str -> Option Value) (base : Heap) (n : Nat) (C Pt : Addr) (f1 f2 f3 f4 f5 f6 : Addr) (d1 d2 d3 d4 d5 d6 : FuncData) : Prop where
  mak : Mk K C f1
  ini : FnOk P w K mg base CX0 n f1 d1 ["self", "goal", "rows", "bounds"] (spInit K C)
  inb : Binds K d1 ["self", "goal", "rows", "bounds"] []
  mC : mg "Board" = some (.ref C)
  com : MCal P w K mg base n C "coming" ["self"] (spComing C Pt) f2 d2
  goi : MCal P w K mg base n C "going" ["self", "column"] (spGoing C) f3 d3
  exc : MCal P w K mg base n C "exchange" ["self", "row", "column"] (spExchange C) f4 d4
  amt : MCal P w K mg base n C "amounts" ["self"] (spAmts C) f5 d5
  wts : MCal P w K mg base n C "weights" ["self"] (spWts C) f6 d6
end
end Rim
namespace Rim
open PySem L2
section
variable {P : Program} {w : World} {K : W.Frag} {mg : Str -> Option Value} {base : Heap} {f Pt : Addr} {fd : FuncData} {n : Nat} {C : Addr}
end
end Rim
namespace Rim
open PySem L2
section
variable {P : Program} {w : World} {K : W.Frag} {mg : Str -> Option Value} {base : Heap} {f g : Addr} {fd gd : FuncData}
def spCell (K : W.Frag) : Sp := fun vs H Q _ => ∃ (a : Addr) (ns : List Int) (k : Int), vs = [.ref a, .int k] /\ SqL K H a (ns.map V.int) /\ 0 <= k /\ ∀ c : Int, Q (.int c) H
theorem scCell : FnScope ["script", "k"] ["script", "k"] (defScope sCell) := ⟨rfl, rfl, rfl, by decide +kernel, rfl, by decide +kernel, by decide +kernel⟩
theorem int_at {ns : List Int} {k : Int} (h0 : 0 <= k) (h : k < ((ns.map V.int).length : Int)) : ∃ v : Int, atI (ns.map V.int) k = some (.int v) := by
  have hl : (ns.map V.int).length = ns.length := List.length_map _
  have hk : k.toNat < ns.length := by lia
  have ek : k = ((k.toNat : Nat) : Int) := by lia
  have q : atI (ns.map V.int) ((k.toNat : Nat) : Int) = some (.int ns[k.toNat]) := atI_nat (by rw [List.getElem?_map, List.getElem?_eq_getElem hk]; rfl)
  rw [<- ek] at q
  exact ⟨_, q⟩
theorem ok_cell {n : Nat} (F : Fun K "_law_cell_at" "_law_cell_at" sCell f fd) (T : Nones mg) : FnOk P w K mg base CX0 (n + 1) f fd ["script", "k"] (spCell K) := by
  refine F.ok scCell (fun vs H Q E h => ?_) (fun cdv A outer s H vs Q E hr h => ?_)
  . obtain ⟨a, ns, k, rfl, _⟩ := h
    rfl
  obtain ⟨a, ns, k, rfl, hS, h0, q⟩ := h
  refine ⟨_, pss_cons (ps_if (pt_cmpR op_lt (pv 1) (pe_callB call_len_seq rfl T.len PySem.boot_len (pa_cons (pv 0) pa_nil)) (nomark _)) (pss_one (ps_ret (pe_ix ix_list (pv 0) (pv 1) (fun _ _ => rfl)))) pss_nil)
    (pss_one (ps_ret pe_int)), ?_⟩
  refine ⟨_, rfl, _, rfl, a, _, rfl, .inl hS, _, _, rfl, rfl, _, rfl, ?_⟩
  refine ite2 (fun c => ?_) (fun c => ?_)
  . obtain ⟨v, hv⟩ := int_at h0 (of_decide_eq_true c)
    exact ⟨_, rfl, _, rfl, a, _, _, _, rfl, rfl, hS, hv, q v⟩
  . exact q 0
def spDraws (K : W.Frag) : Sp := fun vs H Q _ => ∃ (c : Int) (many : Nat) (b : Int), vs = [.int c, .int (many : Int), .int b] /\ many <= 900 /\ 0 < b /\ b < 1073741824 ∧
  ∀ (r : Addr) (H' : Hp) (ds : List Int), Same H H' -> H' r = some (.lst (ds.map V.int)) -> ds.length = many -> (∀ d ∈ ds, 0 <= d /\ d < b) -> Q (.ref r) H'
theorem scDraws : FnScope ["cell", "many", "base", "found", "rest", "stirred", "k"] ["cell", "many", "base"] (defScope sDraws) := ⟨rfl, rfl, rfl, by decide +kernel, rfl, by decide +kernel, by decide +kernel⟩
theorem ok_draws {n : Nat} (F : Fun K "_law_draws" "_law_draws" sDraws f fd) (T : Nones mg) : FnOk P w K mg base CX0 (n + 1) f fd ["cell", "many", "base"] (spDraws K) := by
  refine F.ok scDraws (fun vs H Q E h => ?_) (fun cdv A outer s H vs Q E hr h => ?_)
  . obtain ⟨a, ns, k, rfl, _⟩ := h
    rfl
  obtain ⟨c, many, b, rfl, hm, hb0, hb1, q⟩ := h
  refine ⟨_, pss_cons (ps_set (i := 3) scDraws.nd rfl (Or.inl rfl) (pe_lst pa_nil))
    (pss_cons (ps_set (i := 4) scDraws.nd rfl (Or.inl rfl) (pe_op op_mul (pv 0) (pe_callTy call_int1 rfl T.int PyProof.Rows.boot_int (pa_cons (pe_cmpR op_ge (pv 0) (pe_op op_pow pe_int pe_int) (nomark _)) pa_nil))))
    (pss_cons (ps_set (i := 5) scDraws.nd rfl (Or.inl rfl) (pe_op op_mod (pv 0) pe_int))
    (pss_cons (ps_for PassesOwn.never rfl (pi_range1 rfl T.range (pa_cons (pe_op op_add (pv 1) pe_int) pa_nil)) (pg_name (i := 6) scDraws.nd rfl (Or.inl rfl))
      (pss_cons (ps_set (i := 5) scDraws.nd rfl (Or.inl rfl) (pe_op op_mod (pe_op op_add (pe_op op_add (pe_op op_add (pe_op op_mul (pv 5) (pv 5)) (pe_op op_mul pe_int (pv 5))) (pv 6)) pe_int) pe_int))
        (pss_one (ps_if (PW.pt (pw_and (pt_cmpR op_gt (pv 6) pe_int (nomark _)) (pw_and1 (pt_cmpR op_gt (pv 4) pe_int (nomark _)))))
          (pss_cons (ps_expr (pe_bm PySem.F.plainAttrs_list PySem.F.slot_list_append PySem.F.type_list_append mt_append (pv 3) (pa_cons (pe_op op_mod (pv 4) (pv 2)) pa_nil))) (pss_one (ps_set (i := 4) scDraws.nd rfl (Or.inl rfl) (pe_op op_fdiv (pv 4) (pv 2)))))
          (pss_one (ps_if (pt_cmpR op_gt (pv 6) pe_int (nomark _)) (pss_one (ps_expr (pe_bm PySem.F.plainAttrs_list PySem.F.slot_list_append PySem.F.type_list_append mt_append (pv 3) (pa_cons (pe_op op_mod (pe_op op_fdiv (pv 5) pe_int) (pv 2)) pa_nil)))) pss_nil))))))
    (pss_one (ps_ret (pv 3)))))), ?_⟩
  refine ⟨(by show 0 <= sizeLine; decide), fun fl hfl => ?_⟩
  refine ⟨_, rfl, _, rfl, _, _, rfl, rfl, ⟨by decide, by decide, by decide⟩, _, _, rfl, rfl, .inr ⟨_, rfl, _, _, rfl, rfl, .inr ?_, ?_⟩⟩
  . constructor <;> (split <;> decide)
  refine ⟨_, rfl, _, _, rfl, rfl, (by show (0 : Int) < 2305843009213693951; decide), ?_⟩
  refine ⟨_, rfl, _, _, rfl, rfl, ((many : Int) + 3), rfl, by lia, by lia, ?_⟩
  have e3 : ((many : Int) + 3).toNat = many + 3 := by lia
  rw [e3]
  refine for_range (n := many + 3) (fun i σ H' => ∃ (r st : Int) (ds : List Int) (ks : Option V), σ = [some (.int c), some (.int (many : Int)), some (.int b), some (.ref fl), some (.int r), some (.int st), ks] /\ H' = upd H fl (.lst (ds.map V.int)) /\ ds.length = i - 3 /\ (∀ d ∈ ds, 0 <= d /\ d < b) /\ 0 <= st /\ st < 2305843009213693951)
    ⟨_, _, [], none, rfl, rfl, rfl, fun d hd => (by cases hd), Int.emod_nonneg _ (by decide), Int.emod_lt_of_pos _ (by decide)⟩ ?_ ?_
  . rintro i σ H' hi ⟨r, st, ds, ks, rfl, rfl, hl, hd, hs0, hs1⟩
    refine ⟨_, rfl, _, rfl, _, _, rfl, rfl, .inl ⟨by lia, by lia⟩, _, rfl, _, _, rfl, rfl, .inl ⟨by decide, by decide⟩, _, _, rfl, rfl, _, rfl, _, _, rfl, rfl, _, _, rfl, rfl, _, _, rfl, rfl, (by show (0 : Int) < 2305843009213693951; decide), ?_⟩
    have hs0' : 0 <= (st * st + 48271 * st + (0 + (i : Int)) + 1) % 2305843009213693951 := Int.emod_nonneg _ (by decide)
    have hs1' : (st * st + 48271 * st + (0 + (i : Int)) + 1) % 2305843009213693951 < 2305843009213693951 := Int.emod_lt_of_pos _ (by decide)
    refine ⟨_, rfl, _, _, rfl, rfl, _, rfl, ?_⟩
    have hz : (ds.map V.int).length < sizeLine := by rw [List.length_map]; exact small1000 (by lia)
    have more : ∀ d : Int, (ds.map V.int) ++ [V.int d] = (ds ++ [d]).map V.int := fun d => by rw [List.map_append]; rfl
    have mem : ∀ d : Int, 0 <= d -> d < b -> ∀ d' ∈ ds ++ [d], 0 <= d' /\ d' < b := fun d h0 h1 d' hd' => by
      rcases List.mem_append.mp hd' with z | z
      . exact hd d' z
      . rw [List.mem_singleton.mp z]; exact ⟨h0, h1⟩
    refine ite2 (fun c1 => ?_) (fun c1 => ?_)
    . have c1' : 2 < 0 + (i : Int) := of_decide_eq_true c1
      refine ⟨_, rfl, _, _, rfl, rfl, _, rfl, ?_⟩
      refine ite2 (fun c2 => ?_) (fun c2 => ?_)
      . refine ⟨_, rfl, .inl ⟨rfl, _, SqL.of upd_same⟩, _, rfl, _, rfl, _, _, rfl, rfl, hb0, fl, _, _, rfl, rfl, upd_same, hz, ?_⟩
        refine ⟨_, rfl, _, rfl, _, _, rfl, rfl, ⟨hb0, hb1⟩, ?_⟩
        refine ⟨_, _, ds ++ [r % b], _, rfl, ?_, ?_, mem _ (Int.emod_nonneg _ (by lia)) (Int.emod_lt_of_pos _ hb0), hs0', hs1'⟩
        . rw [upd_upd, more]
        . rw [List.length_append, List.length_singleton]; lia
      . refine ⟨_, rfl, _, _, rfl, rfl, _, rfl, ?_⟩
        refine ite2 (fun c3 => ?_) (fun c3 => absurd c1 c3)
        refine ⟨_, rfl, .inl ⟨rfl, _, SqL.of upd_same⟩, _, rfl, _, _, rfl, rfl, ⟨by decide, by decide⟩, _, rfl, _, _, rfl, rfl, hb0, fl, _, _, rfl, rfl, upd_same, hz, ?_⟩
        refine ⟨_, _, ds ++ [(st * st + 48271 * st + (0 + (i : Int)) + 1) % 2305843009213693951 / 4096 % b], _, rfl, ?_, ?_, mem _ (Int.emod_nonneg _ (by lia)) (Int.emod_lt_of_pos _ hb0), hs0', hs1'⟩
        . rw [upd_upd, more]
        . rw [List.length_append, List.length_singleton]; lia
    . have c1' : ¬ 2 < 0 + (i : Int) := of_decide_eq_false (Bool.eq_false_iff.mpr c1)
      refine iteF ?_
      refine ⟨_, rfl, _, _, rfl, rfl, _, rfl, ?_⟩
      refine ite2 (fun c3 => absurd c3 c1) (fun c3 => ?_)
      exact ⟨_, _, ds, _, rfl, rfl, by lia, hd, hs0', hs1'⟩
  . intro σ H' hM_; refine gen2 fun G_ hG_ => ?_; obtain ⟨r, st, ds, ks, rfl, rfl, hl, hd, _⟩ := hM_; subst hG_
    exact ⟨_, rfl, q fl _ ds (Same.new hfl _) upd_same (by lia) hd⟩
end
end Rim
namespace Rim
open PySem L2
theorem ixN_nat {n : Nat} {k : Int} (h0 : 0 <= k) (h1 : k < (n : Int)) : ixN n k = some k.toNat := by
  unfold ixN
  rw [if_pos h0, if_pos h1]
theorem atI_mem {α : Type} {xs : List α} {k : Int} (h0 : 0 <= k) (h1 : k < (xs.length : Int)) : ∃ v, v ∈ xs /\ atI xs k = some v := by
  have hk : k.toNat < xs.length := by lia
  refine ⟨xs[k.toNat], List.getElem_mem hk, ?_⟩
  unfold atI
  rw [ixN_nat h0 h1]
  exact List.getElem?_eq_getElem hk
theorem atI_int {ns : List Int} {k : Int} (h0 : 0 <= k) (h1 : k < (ns.length : Int)) : ∃ v, v ∈ ns /\ atI (ns.map V.int) k = some (.int v) := by
  obtain ⟨v, hv, e⟩ := atI_mem (xs := ns.map V.int) h0 (by rw [List.length_map]; exact h1)
  obtain ⟨n, hn, rfl⟩ := List.mem_map.mp hv
  exact ⟨n, hn, e⟩
theorem map_set {ns : List Int} {j : Nat} {v : Int} : (ns.map V.int).set j (.int v) = (ns.set j v).map V.int := by rw [List.map_set]
structure HG (far : Int) (kt kg : Nat) (h : House) : Prop where
  lt : h.1.length = kt
  lg : h.2.length = kg
  t : ∀ x ∈ h.1, 1 <= x /\ x <= far
  g : ∀ x ∈ h.2, 0 <= x /\ x <= far
  p : ∃ x ∈ h.2, 0 < x
section
variable {P : Program} {w : World} {K : W.Frag} {mg : Str -> Option Value} {base : Heap} {f g : Addr} {fd gd : FuncData}
def spNear (K : W.Frag) : Sp := fun vs H Q _ => ∃ (v : V) (p : Addr) (far : Int) (h : House) (ds : List Int) (kt kg : Nat), vs = [v, .ref p, .int far] /\ HS K H v h /\ HG far kt kg h /\ 1 <= kt /\ kt <= 4 /\ 1 <= kg /\ kg <= 4 /\ 1 <= far ∧
  SqL K H p (ds.map V.int) /\ ds.length = 12 /\ (∀ d ∈ ds, 0 <= d) /\ ∀ (r : V) (H' : Hp) (h' : House), Same H H' -> HS K H' r h' -> HG far kt kg h' -> Q r H'
theorem scNear : FnScope ["house", "picks", "far", "takes", "gives", "by", "at"] ["house", "picks", "far"] (defScope sNear) := ⟨rfl, rfl, rfl, by decide +kernel, rfl, by decide +kernel, by decide +kernel⟩
theorem ndNear1 : (["take", "by"] : List Str).Nodup := by decide +kernel
theorem ndNear2 : (["give", "by"] : List Str).Nodup := by decide +kernel
theorem ok_near {n : Nat} (F : Fun K "_law_near" "_law_near" sNear f fd) (T : Nones mg) : FnOk P w K mg base CX0 (n + 1) f fd ["house", "picks", "far"] (spNear K) := by
  refine F.ok scNear (fun vs H Q E h => ?_) (fun cdv A outer s H vs Q E hr h => ?_)
  . obtain ⟨v, p, far, h, ds, kt, kg, rfl, _⟩ := h
    rfl
  obtain ⟨v, pk, far, h, ds, kt, kg, rfl, ⟨a, t, gv, rfl, h0, h1, h2⟩, hG, kt1, kt4, kg1, kg4, hfar, hP, hd12, hd0, q⟩ := h
  refine ⟨_, pss_cons (ps_asg (pv 0) (pg_tup rfl (pgs_cons (pg_name (i := 3) scNear.nd rfl (Or.inl rfl)) (pgs_cons (pg_name (i := 4) scNear.nd rfl (Or.inl rfl)) pgs_nil))))
    (pss_cons (ps_set (i := 5) scNear.nd rfl (Or.inr rfl) (pe_ix ix_list (pe_lst (pa_cons pe_int (pa_cons pe_int (pa_cons pe_int (pa_cons pe_int pa_nil))))) (pe_op op_mod (pe_ix ix_list (pv 1) pe_int (fun _ _ => rfl)) pe_int) (fun _ _ => rfl)))
    (pss_cut (ps_if (pt_cmpR op_gt (pe_op op_mul (pe_callB (call_max1 rfl) rfl T.max PyProof.Rows.boot_max (pa_cons (pe_op op_catT (pv 3) (pv 4)) pa_nil)) (pv 5)) (pv 2) (nomark _)) (pss_one (ps_set (i := 5) scNear.nd rfl (Or.inr rfl) pe_int)) pss_nil)
    (pss_cons (ps_lc (i := 3) ["take"] [5] scNear.nd rfl rfl rfl (pi_tup (pv 3)) (fun _ _ _ _ => pg_name (i := 0) ndNear1 rfl (Or.inl rfl)) (fun _ _ _ _ => pe_op op_mul (pv 0) (pv 1)))
    (pss_cons (ps_lc (i := 4) ["give"] [5] scNear.nd rfl rfl rfl (pi_tup (pv 4)) (fun _ _ _ _ => pg_name (i := 0) ndNear2 rfl (Or.inl rfl)) (fun _ _ _ _ => pe_op op_mul (pv 0) (pv 1)))
    (pss_cut (ps_if (pt_cmpR op_eq (pe_op op_mod (pe_op op_fdiv (pe_ix ix_list (pv 1) pe_int (fun _ _ => rfl)) pe_int) pe_int) pe_int (nomark _))
      (pss_cons (ps_set (i := 6) scNear.nd rfl (Or.inl rfl) (pe_op op_mod (pe_ix ix_list (pv 1) pe_int (fun _ _ => rfl)) (pe_callB call_len_seq rfl T.len PySem.boot_len (pa_cons (pv 3) pa_nil))))
        (pss_one (ps_asg (pe_callB (call_min2 rfl) rfl T.min PyProof.Rows.boot_min (pa_cons (pv 2) (pa_cons (pe_op op_add (pe_op op_add (pe_ix ix_list (pv 3) (pv 6) (fun _ _ => rfl)) (pe_op op_mod (pe_op op_fdiv (pe_ix ix_list (pv 1) pe_int (fun _ _ => rfl)) pe_int) pe_int)) pe_int) pa_nil))) (pg_sub (pv 3) (pv 6) set_list)))) pss_nil)
    (pss_cut (ps_if (pt_cmpR op_eq (pe_op op_mod (pe_op op_fdiv (pe_ix ix_list (pv 1) pe_int (fun _ _ => rfl)) pe_int) pe_int) pe_int (nomark _))
      (pss_cons (ps_set (i := 6) scNear.nd rfl (Or.inl rfl) (pe_op op_mod (pe_ix ix_list (pv 1) pe_int (fun _ _ => rfl)) (pe_callB call_len_seq rfl T.len PySem.boot_len (pa_cons (pv 4) pa_nil))))
        (pss_one (ps_asg (pe_callB (call_min2 rfl) rfl T.min PyProof.Rows.boot_min (pa_cons (pv 2) (pa_cons (pe_op op_add (pe_ix ix_list (pv 4) (pv 6) (fun _ _ => rfl)) pe_int) pa_nil))) (pg_sub (pv 4) (pv 6) set_list)))) pss_nil)
    (pss_one (ps_ret (pe_tup (pa_cons (pe_callTy call_tuple_of rfl T.tuple PyProof.Rows.boot_tuple (pa_cons (pv 3) pa_nil)) (pa_cons (pe_callTy call_tuple_of rfl T.tuple PyProof.Rows.boot_tuple (pa_cons (pv 4) pa_nil)) pa_nil))))))))))), ?_⟩
  obtain ⟨d9, hd9, a9⟩ := atI_int (ns := ds) (k := 9) (by decide) (by lia)
  obtain ⟨d8, hd8, a8⟩ := atI_int (ns := ds) (k := 8) (by decide) (by lia)
  have p9 := hd0 d9 hd9
  have p8 := hd0 d8 hd8
  refine ⟨_, rfl, a, _, rfl, h0, rfl, _, _, rfl, _, _, rfl, rfl, ?_⟩
  refine ⟨(by show 4 <= sizeLine; decide), fun lp hlp => ?_⟩
  have s1 := Same.new hlp (.lst [V.int 1, V.int 1, V.int 2, V.int 3])
  obtain ⟨bv, hbv, abv⟩ := atI_int (ns := [1, 1, 2, 3]) (k := d9 % 4) (by lia) (by show d9 % 4 < 4; lia)
  have hb : 1 <= bv /\ bv <= 3 := by
    simp at hbv
    rcases hbv with rfl | rfl | rfl <;> decide
  refine ⟨_, rfl, pk, _, 9, _, rfl, rfl, s1.seq hP, a9, _, _, rfl, rfl, (by show (0 : Int) < 4; decide), lp, _, _, _, rfl, rfl, SqL.of upd_same, abv, ?_⟩
  have l1 : (h.1.map V.int).length = kt := by rw [List.length_map]; exact hG.lt
  have l2 : (h.2.map V.int).length = kg := by rw [List.length_map]; exact hG.lg
  have hne : h.1 ++ h.2 ≠ [] := fun z => by
    have := congrArg List.length z
    rw [List.length_append, hG.lt] at this
    simp at this
    lia
  refine ⟨fun σ' H' => ∃ b : Int, σ' = [some (.ref a), some (.ref pk), some (.int far), some (.ref t), some (.ref gv), some (.int b), none] /\ Same H H' /\ (1 <= b /\ b <= 3) /\ ∀ x ∈ h.1 ++ h.2, x * b <= far, ?_, ?_⟩
  . refine ⟨_, rfl, _, rfl, t, gv, _, _, rfl, rfl, s1.tseq h1, s1.tseq h2, ?_, ?_, ?_, ?_⟩
    . intro z; rw [z] at l1; simp at l1; lia
    . rw [l1, l2]; exact Nat.le_of_lt (small1000 (by lia))
    . intro z; rw [z] at l2; simp at l2; lia
    . intro _ pc hpc
      have s2 := Same.new hpc (.tup (h.1.map V.int ++ h.2.map V.int))
      refine ⟨pc, h.1 ++ h.2, rfl, .inr (SqT.of (by rw [upd_same, List.map_append])), hne, fun M hM hMx => ?_⟩
      refine ⟨_, rfl, _, _, rfl, rfl, .inr ⟨by lia, by lia⟩, _, rfl, _, _, rfl, rfl, _, rfl, ?_⟩
      refine ite2 (fun c => ?_) (fun c => ?_)
      . refine ⟨1, rfl, s1.trans s2, by decide, fun x hx => ?_⟩
        rcases List.mem_append.mp hx with z | z
        . have := hG.t x z; lia
        . have := hG.g x z; lia
      . have c' : ¬ far < M * bv := of_decide_eq_false (Bool.eq_false_iff.mpr c)
        refine ⟨bv, rfl, s1.trans s2, hb, fun x hx => ?_⟩
        have := Int.mul_le_mul_of_nonneg_right (hMx x hx) (show 0 <= bv by lia)
        lia
  intro σ' H2 hM_; refine gen2 fun G_ hG_ => ?_; obtain ⟨b, rfl, e2, hb, hbx⟩ := hM_; subst hG_
  have mulok : CMul = CMul := rfl
  refine ⟨_, rfl, t, rfl, ⟨_, e2.tseq h1⟩, fun tl htl => ?_⟩
  refine lc_map (itIs_tup (e2.tseq h1)) htl (by rw [l1]; exact small1000 (by lia)) (fun x => .int (vI x * b)) (fun i x H' N hx e hN => ?_) ?_
  . obtain ⟨k, rfl⟩ := map_int_at hx
    exact ⟨Wk.set (by decide), _, rfl, _, rfl, _, _, rfl, rfl, .inr ⟨by lia, by lia⟩, hN⟩
  have e3 := e2.write (o := .lst ((h.1.map V.int).map fun x => .int (vI x * b))) (e2.free htl)
  refine ⟨_, rfl, gv, rfl, ⟨_, e3.tseq h2⟩, fun gl hgl => ?_⟩
  refine lc_map (itIs_tup (e3.tseq h2)) hgl (by rw [l2]; exact small1000 (by lia)) (fun x => .int (vI x * b)) (fun i x H' N hx e hN => ?_) ?_
  . obtain ⟨k, rfl⟩ := map_int_at hx
    exact ⟨Wk.set (by decide), _, rfl, _, rfl, _, _, rfl, rfl, .inr ⟨by lia, by lia⟩, hN⟩
  have eA : (h.1.map V.int).map (fun x => V.int (vI x * b)) = (h.1.map (· * b)).map V.int := by rw [List.map_map, List.map_map]; rfl
  have eB : (h.2.map V.int).map (fun x => V.int (vI x * b)) = (h.2.map (· * b)).map V.int := by rw [List.map_map, List.map_map]; rfl
  have ftl : H tl = none := e2.free htl
  have fgl : H gl = none := e3.free hgl
  have ne1 : tl ≠ gl := fun z => by rw [<- z, upd_same] at hgl; cases hgl
  rw [eA, eB]
  rw [eA] at e3
  have e4 := e3.write (o := .lst ((h.2.map (· * b)).map V.int)) fgl
  have at4 : upd (upd H2 tl (.lst ((h.1.map (· * b)).map V.int))) gl (.lst ((h.2.map (· * b)).map V.int)) tl = some (.lst ((h.1.map (· * b)).map V.int)) := by rw [upd_ne ne1, upd_same]
  have ag4 : upd (upd H2 tl (.lst ((h.1.map (· * b)).map V.int))) gl (.lst ((h.2.map (· * b)).map V.int)) gl = some (.lst ((h.2.map (· * b)).map V.int)) := upd_same
  generalize upd (upd H2 tl (.lst ((h.1.map (· * b)).map V.int))) gl (.lst ((h.2.map (· * b)).map V.int)) = H4 at e4 at4 ag4 ⊢
  have tA : ∀ x ∈ h.1.map (· * b), 1 <= x /\ x <= far := fun x hx => by
    obtain ⟨y, hy, rfl⟩ := List.mem_map.mp hx
    have y1 := (hG.t y hy).1
    have y2 := hbx y (List.mem_append_left _ hy)
    have y3 := Int.mul_le_mul y1 hb.1 (by decide) (by lia)
    exact ⟨by simpa using y3, y2⟩
  have tB : ∀ x ∈ h.2.map (· * b), 0 <= x /\ x <= far := fun x hx => by
    obtain ⟨y, hy, rfl⟩ := List.mem_map.mp hx
    exact ⟨Int.mul_nonneg (hG.g y hy).1 (by lia), hbx y (List.mem_append_right _ hy)⟩
  have tP : ∃ x ∈ h.2.map (· * b), 0 < x := by
    obtain ⟨y, hy, y0⟩ := hG.p
    exact ⟨y * b, List.mem_map.mpr ⟨y, hy, rfl⟩, Int.mul_pos y0 (by lia)⟩
  have lA : (h.1.map (· * b)).length = kt := by rw [List.length_map]; exact hG.lt
  have lB : (h.2.map (· * b)).length = kg := by rw [List.length_map]; exact hG.lg
  generalize h.1.map (· * b) = A0 at tA lA at4
  generalize h.2.map (· * b) = B0 at tB lB tP ag4
  refine ⟨fun σ' H' => ∃ (A1 : List Int) (ks : Option V), σ' = [some (.ref a), some (.ref pk), some (.int far), some (.ref tl), some (.ref gl), some (.int b), ks] /\ Same H H' /\ H' tl = some (.lst (A1.map V.int)) /\ H' gl = some (.lst (B0.map V.int)) /\ A1.length = kt /\ ∀ x ∈ A1, 1 <= x /\ x <= far, ?_, ?_⟩
  . refine ⟨_, rfl, pk, _, 9, _, rfl, rfl, e4.seq hP, a9, _, _, rfl, rfl, ⟨by decide, by decide⟩, _, _, rfl, rfl, (by show (0 : Int) < 3; decide), rfl, _, rfl, ?_⟩
    refine ite2 (fun c => ?_) (fun c => ⟨A0, none, rfl, e4, at4, ag4, lA, tA⟩)
    have lA' : (A0.map V.int).length = kt := by rw [List.length_map]; exact lA
    refine ⟨_, rfl, pk, _, 8, _, rfl, rfl, e4.seq hP, a8, _, rfl, tl, _, rfl, .inl (SqL.of at4), _, _, rfl, rfl, (by show (0 : Int) < ((A0.map V.int).length : Int); rw [lA']; lia), ?_⟩
    have r0 : 0 <= d8 % ((A0.map V.int).length : Int) := Int.emod_nonneg _ (by rw [lA']; lia)
    have r1 : d8 % ((A0.map V.int).length : Int) < ((A0.map V.int).length : Int) := Int.emod_lt_of_pos _ (by rw [lA']; lia)
    obtain ⟨x, hx, ax⟩ := atI_int (ns := A0) (k := d8 % ((A0.map V.int).length : Int)) r0 (by rw [List.length_map] at r1 ⊢; exact r1)
    have hx1 := tA x hx
    refine ⟨_, rfl, _, rfl, _, rfl, tl, _, _, _, rfl, rfl, SqL.of at4, ax, _, rfl, pk, _, 9, _, rfl, rfl, e4.seq hP, a9, _, _, rfl, rfl, ⟨by decide, by decide⟩, _, _, rfl, rfl, (by show (0 : Int) < 2; decide), _, _, rfl, rfl, _, _, rfl, rfl, _, _, rfl, ?_⟩
    refine ⟨_, rfl, _, rfl, tl, _, _, _, rfl, rfl, at4, ixN_nat r0 r1, ?_⟩
    refine ⟨A0.set (d8 % ((A0.map V.int).length : Int)).toNat _, _, rfl, e4.write ftl, by rw [upd_same, map_set], by rw [upd_ne (Ne.symm ne1)]; exact ag4, by rw [List.length_set]; exact lA, fun y hy => ?_⟩
    rcases List.mem_or_eq_of_mem_set hy with z | z
    . exact tA y z
    . rw [z]
      split <;> lia
  intro σ' H5 hM_; refine gen2 fun G_ hG_ => ?_; obtain ⟨A1, ks, rfl, e5, at5, ag5, lA1, tA1⟩ := hM_; subst hG_
  refine ⟨fun σ' H' => ∃ (B1 : List Int) (ks : Option V), σ' = [some (.ref a), some (.ref pk), some (.int far), some (.ref tl), some (.ref gl), some (.int b), ks] /\ Same H H' /\ H' tl = some (.lst (A1.map V.int)) /\ H' gl = some (.lst (B1.map V.int)) /\ B1.length = kg /\ (∀ x ∈ B1, 0 <= x /\ x <= far) /\ ∃ x ∈ B1, 0 < x, ?_, ?_⟩
  . refine ⟨_, rfl, pk, _, 9, _, rfl, rfl, e5.seq hP, a9, _, _, rfl, rfl, ⟨by decide, by decide⟩, _, _, rfl, rfl, (by show (0 : Int) < 3; decide), rfl, _, rfl, ?_⟩
    refine ite2 (fun c => ?_) (fun c => ⟨B0, ks, rfl, e5, at5, ag5, lB, tB, tP⟩)
    have lB' : (B0.map V.int).length = kg := by rw [List.length_map]; exact lB
    refine ⟨_, rfl, pk, _, 8, _, rfl, rfl, e5.seq hP, a8, _, rfl, gl, _, rfl, .inl (SqL.of ag5), _, _, rfl, rfl, (by show (0 : Int) < ((B0.map V.int).length : Int); rw [lB']; lia), ?_⟩
    have r0 : 0 <= d8 % ((B0.map V.int).length : Int) := Int.emod_nonneg _ (by rw [lB']; lia)
    have r1 : d8 % ((B0.map V.int).length : Int) < ((B0.map V.int).length : Int) := Int.emod_lt_of_pos _ (by rw [lB']; lia)
    obtain ⟨x, hx, ax⟩ := atI_int (ns := B0) (k := d8 % ((B0.map V.int).length : Int)) r0 (by rw [List.length_map] at r1 ⊢; exact r1)
    have hx1 := tB x hx
    refine ⟨_, rfl, _, rfl, _, rfl, gl, _, _, _, rfl, rfl, SqL.of ag5, ax, _, _, rfl, rfl, _, _, rfl, ?_⟩
    refine ⟨_, rfl, _, rfl, gl, _, _, _, rfl, rfl, ag5, ixN_nat r0 r1, ?_⟩
    have rn : (d8 % ((B0.map V.int).length : Int)).toNat < B0.length := by rw [List.length_map] at r1 ⊢; lia
    refine ⟨B0.set (d8 % ((B0.map V.int).length : Int)).toNat _, _, rfl, e5.write fgl, by rw [upd_ne ne1]; exact at5, by rw [upd_same, map_set], by rw [List.length_set]; exact lB, fun y hy => ?_, _, List.mem_set rn _, ?_⟩
    . rcases List.mem_or_eq_of_mem_set hy with z | z
      . exact tB y z
      . rw [z]
        split <;> lia
    . split <;> lia
  intro σ' H6 hM_; refine gen2 fun G_ hG_ => ?_; obtain ⟨B1, ks, rfl, e6, at6, ag6, lB1, tB1, tP1⟩ := hM_; subst hG_
  refine ⟨_, rfl, tl, _, rfl, .inl ⟨SqL.of at6, fun pt hpt => ?_⟩⟩
  have f1 := Same.new hpt (.tup (A1.map V.int))
  refine ⟨_, rfl, gl, _, rfl, .inl ⟨SqL.of (f1 _ _ ag6), fun pg hpg => ?_⟩⟩
  have f2 := Same.new hpg (.tup (B1.map V.int))
  refine ⟨(by show 2 <= sizeLine; decide), fun pr hpr => ?_⟩
  have f3 := Same.new hpr (.tup [V.ref pt, V.ref pg])
  exact q _ _ (A1, B1) (e6.trans (f1.trans (f2.trans f3))) ⟨pr, pt, pg, rfl, SqT.of upd_same, SqT.of (f3 _ _ (f2 _ _ upd_same)), SqT.of (f3 _ _ upd_same)⟩ ⟨lA1, lB1, tA1, tB1, tP1⟩
end
end Rim
namespace L2
open PySem
def Keep (H H' : Hp) : Prop := ∀ b o, H b = some o -> (∀ xs, o ≠ .lst xs) -> H' b = some o
theorem Keep.upd {H : Hp} {b : Addr} {ys : List V} {o : HO} (h : H b = some (.lst ys)) : Keep H (upd H b o) := fun c u q n => by
  have : c ≠ b := fun z => by rw [z, h] at q; exact n ys (Option.some.inj q).symm
  rw [upd_ne this]; exact q
theorem Keep.tseq {K : W.Frag} {H H' : Hp} {a : Addr} {xs : List V} (e : Keep H H') (h : SqT K H a xs) : SqT K H' a xs := by
  rcases h with (h | ⟨o, h⟩) | h
  . exact .inl (.inl (e _ _ h (fun _ z => nomatch z)))
  . exact .inl (.inr ⟨o, e _ _ h (fun _ z => nomatch z)⟩)
  . exact .inr h
end L2
namespace Rim
open PySem L2
theorem HS.keep {K : W.Frag} {H H' : Hp} {v : V} {h : House} (e : Keep H H') (x : HS K H v h) : HS K H' v h := by
  obtain ⟨a, t, g, h0, h1, h2, h3⟩ := x
  exact ⟨a, t, g, h0, e.tseq h1, e.tseq h2, e.tseq h3⟩
theorem Bk.keep {K : W.Frag} {H H' : Hp} {vs : List V} {hs : List House} (e : Keep H H') (x : Bk K H vs hs) : Bk K H' vs hs := Paired.imp' (fun _ _ r => HS.keep e r) x
def dInts (ns : List Int) : PyData := .tuple (ns.map PyData.int)
def dHouse (h : House) : PyData := .tuple [dInts h.1, dInts h.2]
theorem dps_ints {K : W.Frag} {H : Hp} : ∀ ns : List Int, Dps K H (ns.map V.int) (ns.map PyData.int)
  | [] => .nil
  | n :: r => .cons (.int n) (dps_ints r)
theorem HS.dp {K : W.Frag} {H : Hp} {v : V} {h : House} (x : HS K H v h) : Dp K H v (dHouse h) := by
  obtain ⟨a, t, g, rfl, h1, h2, h3⟩ := x
  exact .tup h1 (.cons (.tup h2 (dps_ints _)) (.cons (.tup h3 (dps_ints _)) .nil))
theorem Bk.dps {K : W.Frag} {H : Hp} : ∀ {vs : List V} {hs : List House}, Bk K H vs hs -> Dps K H vs (hs.map dHouse)
  | _, _, .nil => .nil
  | _, _, .cons x r => .cons x.dp (Bk.dps r)
theorem lay_ints : ∀ ns : List Int, PyData.canLayAll0 (ns.map PyData.int) = true
  | [] => by rw [List.map_nil, PyData.canLayAll0]
  | n :: r => by rw [List.map_cons, PyData.canLayAll0, lay_ints r, PyData.canLay0]; rfl
theorem lay_house (h : House) : (dHouse h).canLay0 = true := by
  unfold dHouse dInts
  rw [PyData.canLay0, PyData.canLayAll0, PyData.canLay0, lay_ints, PyData.canLayAll0, PyData.canLay0, lay_ints, PyData.canLayAll0]; rfl
theorem lay_book : ∀ hs : List House, PyData.canLayAll0 (hs.map dHouse) = true
  | [] => by rw [List.map_nil, PyData.canLayAll0]
  | h :: r => by rw [List.map_cons, PyData.canLayAll0, lay_house, lay_book r]; rfl
section
variable {P : Program} {w : World} {K : W.Frag} {mg : Str -> Option Value} {base : Heap} {f g : Addr} {fd gd : FuncData}
def spABook (K : W.Frag) : Sp := fun vs H Q _ => ∃ (a : Addr) (ns : List Int) (at' most far : Int), vs = [.ref a, .int at', .int most, .int far] /\ SqL K H a (ns.map V.int) /\ 0 <= at' /\ 1 <= most /\ most <= 900 /\ 1 <= far ∧
  ∀ (r : Addr) (H' : Hp) (xs : List V) (hs : List House) (kt kg : Nat), Same H H' -> H' r = some (.lst xs) -> Bk K H' xs hs -> 1 <= hs.length -> (hs.length : Int) <= most -> 1 <= kt -> kt <= 4 -> 1 <= kg -> kg <= 4 -> (∀ h ∈ hs, HG far kt kg h) -> Q (.ref r) H'
theorem scABook : FnScope ["script", "at", "most", "far", "heads", "kinds", "many", "size", "book", "k", "picks", "takes", "some", "gives", "house"] ["script", "at", "most", "far"] (defScope sABook) := ⟨rfl, rfl, rfl, by decide +kernel, rfl, by decide +kernel, by decide +kernel⟩
theorem ndABook : (["pick", "size"] : List Str).Nodup := by decide +kernel
set_option maxHeartbeats 4000000 in
noncomputable def abT {n : Nat} {fc fw fn : Addr} {dc dw dn : FuncData} {cdv : Value} {A : Around} {outer : List Env} {s : Shared} {H : Hp} {E : XK} (T : Nones mg)
    (Gc : FnOk P w K mg base CX0 n fc dc ["script", "k"] (spCell K)) (bc : Binds K dc ["script", "k"] []) (kc : W.keepIn K (.ref fc) = true) (mc : mg "_law_cell_at" = some (.ref fc))
    (Gw : FnOk P w K mg base CX0 n fw dw ["cell", "many", "base"] (spDraws K)) (bw : Binds K dw ["cell", "many", "base"] []) (kw : W.keepIn K (.ref fw) = true) (mw : mg "_law_draws" = some (.ref fw))
    (Gn : FnOk P w K mg base CX0 n fn dn ["house", "picks", "far"] (spNear K)) (bn : Binds K dn ["house", "picks", "far"] []) (kn : W.keepIn K (.ref fn) = true) (mn : mg "_law_near" = some (.ref fn))
    (hr : Room n (A.deeper (PyProof.Rows.envOfC "_law_a_book" (defScope sABook) s.heap.objs.size f cdv))) :
    { t : TS // PSs (cxOf CX0 P w K mg base ["script", "at", "most", "far", "heads", "kinds", "many", "size", "book", "k", "picks", "takes", "some", "gives", "house"] "_law_a_book" (defScope sABook) f cdv A outer s H E).nox (defBody sABook) t } :=
  ⟨_, pss_cons (ps_set (i := 4) scABook.nd rfl (Or.inl rfl) (pe_call Gw hr rfl mw kw bw .nil pass0 (pa_cons (pe_call Gc hr rfl mc kc bc .nil pass0 (pa_cons (pv 0) (pa_cons (pv 1) pa_nil))) (pa_cons pe_int (pa_cons pe_int pa_nil)))))
    (pss_cut (ps_set (i := 5) scABook.nd rfl (Or.inl rfl) (pe_lst (pa_cons (pe_op op_add pe_int (pe_op op_mod (pe_ix ix_list (pv 4) pe_int (fun _ _ => rfl)) (pe_ix ix_list (pe_lst (pa_cons pe_int (pa_cons pe_int pa_nil))) (pe_op op_mod (pe_ix ix_list (pv 4) pe_int (fun _ _ => rfl)) pe_int) (fun _ _ => rfl))))
      (pa_cons (pe_op op_add pe_int (pe_op op_mod (pe_ix ix_list (pv 4) pe_int (fun _ _ => rfl)) (pe_ix ix_list (pe_lst (pa_cons pe_int (pa_cons pe_int pa_nil))) (pe_op op_mod (pe_ix ix_list (pv 4) pe_int (fun _ _ => rfl)) pe_int) (fun _ _ => rfl)))) pa_nil))))
    (pss_cut (ps_set (i := 6) scABook.nd rfl (Or.inl rfl) (pe_op op_add pe_int (pe_op op_mod (pe_ix ix_list (pv 4) pe_int (fun _ _ => rfl)) (pe_ix ix_list (pe_lst (pa_cons (pv 2) (pa_cons (pe_callB (call_min2 rfl) rfl T.min PyProof.Rows.boot_min (pa_cons (pv 2) (pa_cons pe_int pa_nil))) pa_nil))) (pe_op op_fdiv (pe_op op_mod (pe_ix ix_list (pv 4) pe_int (fun _ _ => rfl)) pe_int) pe_int) (fun _ _ => rfl)))))
    (pss_cut (ps_set (i := 7) scABook.nd rfl (Or.inr rfl) (pe_callB (call_min2 rfl) rfl T.min PyProof.Rows.boot_min (pa_cons (pv 3) (pa_cons (pe_ix ix_list (pe_lst (pa_cons pe_int (pa_cons pe_int (pa_cons pe_int (pa_cons pe_int (pa_cons (pe_op op_pow pe_int pe_int) pa_nil)))))) (pe_op op_mod (pe_ix ix_list (pv 4) pe_int (fun _ _ => rfl)) pe_int) (fun _ _ => rfl)) pa_nil))))
    (pss_cons (ps_set (i := 8) scABook.nd rfl (Or.inl rfl) (pe_lst pa_nil))
    (pss_cons (ps_for PassesOwn.never rfl (pi_range1 rfl T.range (pa_cons (pv 6) pa_nil)) (pg_name (i := 9) scABook.nd rfl (Or.inl rfl))
      (pss_cut (ps_set (i := 10) scABook.nd rfl (Or.inl rfl) (pe_call Gw hr rfl mw kw bw .nil pass0 (pa_cons (pe_op op_add (pe_call Gc hr rfl mc kc bc .nil pass0 (pa_cons (pv 0) (pa_cons (pe_op op_add (pv 1) pe_int) pa_nil))) (pe_op op_mul (pv 9) (pe_op op_add (pe_ix ix_list (pv 4) pe_int (fun _ _ => rfl)) pe_int))) (pa_cons pe_int (pa_cons (pe_op op_pow pe_int pe_int) pa_nil)))))
      (pss_cut (ps_set (i := 11) scABook.nd rfl (Or.inl rfl) (pe_callTy call_tuple_of rfl T.tuple PyProof.Rows.boot_tuple (pa_cons (pe_lc ["pick"] [7] rfl (pi_list (pe_slice sl_list (pv 10) po_none (po_some (pe_ix ix_list (pv 5) pe_int (fun _ _ => rfl))))) (fun _ _ _ _ => pg_name (i := 0) ndABook rfl (Or.inl rfl)) (fun _ _ _ _ => pe_op op_add pe_int (pe_op op_mod (pv 0) (pv 1)))) pa_nil)))
      (pss_cons (ps_set (i := 12) scABook.nd rfl (Or.inl rfl) (pe_slice sl_list (pv 10) (po_some pe_int) (po_some (pe_op op_add pe_int (pe_ix ix_list (pv 5) pe_int (fun _ _ => rfl))))))
      (pss_cut (ps_lc (i := 13) ["pick"] [7] scABook.nd rfl rfl rfl (pi_list (pv 12)) (fun _ _ _ _ => pg_name (i := 0) ndABook rfl (Or.inl rfl)) (fun _ _ _ _ => pe_op op_mul (pe_op op_mod (pv 0) (pe_op op_add (pv 1) pe_int)) (pe_callTy call_int1 rfl T.int PyProof.Rows.boot_int (pa_cons (pe_cmpR op_gt (pe_op op_mod (pv 0) pe_int) pe_int (nomark _)) pa_nil))))
      (pss_cut (ps_if (pt_cmpR op_eq (pe_callB (call_max1 rfl) rfl T.max PyProof.Rows.boot_max (pa_cons (pv 13) pa_nil)) pe_int (nomark _)) (pss_one (ps_asg (pe_op op_add pe_int (pe_op op_mod (pe_ix ix_list (pv 10) pe_int (fun _ _ => rfl)) (pv 7))) (pg_sub (pv 13) (pe_op op_mod (pe_ix ix_list (pv 10) pe_int (fun _ _ => rfl)) (pe_ix ix_list (pv 5) pe_int (fun _ _ => rfl))) set_list))) pss_nil)
      (pss_cut (ps_set (i := 14) scABook.nd rfl (Or.inl rfl) (pe_tup (pa_cons (pv 11) (pa_cons (pe_callTy call_tuple_of rfl T.tuple PyProof.Rows.boot_tuple (pa_cons (pv 13) pa_nil)) pa_nil))))
      (pss_cut (ps_if (PW.pt (pw_and (pt_cmpR (op_neD hr) (pv 8) (pe_lst pa_nil) (nomark _)) (pw_and1 (pt_cmpR op_eq (pe_op op_mod (pe_ix ix_list (pv 10) pe_int (fun _ _ => rfl)) pe_int) pe_int (nomark _)))))
        (pss_one (ps_set (i := 14) scABook.nd rfl (Or.inl rfl) (pe_call Gn hr rfl mn kn bn .nil pass0 (pa_cons (pe_ix ix_list (pv 8) (pe_op op_mod (pe_ix ix_list (pv 10) pe_int (fun _ _ => rfl)) (pe_callB call_len_seq rfl T.len PySem.boot_len (pa_cons (pv 8) pa_nil))) (fun _ _ => rfl)) (pa_cons (pv 10) (pa_cons (pv 3) pa_nil)))))) pss_nil)
      (pss_one (ps_expr (pe_bm PySem.F.plainAttrs_list PySem.F.slot_list_append PySem.F.type_list_append mt_append (pv 8) (pa_cons (pv 14) pa_nil))))))))))))
    (pss_one (ps_ret (pv 8))))))))⟩
end
end Rim
namespace Rim
open PySem L2
section
variable {P : Program} {w : World} {K : W.Frag} {mg : Str -> Option Value} {base : Heap} {f g : Addr} {fd gd : FuncData}
set_option maxHeartbeats 4000000 in
theorem ok_abook {n : Nat} {fc fw fn : Addr} {dc dw dn : FuncData} (F : Fun K "_law_a_book" "_law_a_book" sABook f fd) (T : Nones mg)
    (Gc : FnOk P w K mg base CX0 n fc dc ["script", "k"] (spCell K)) (bc : Binds K dc ["script", "k"] []) (kc : W.keepIn K (.ref fc) = true) (mc : mg "_law_cell_at" = some (.ref fc))
    (Gw : FnOk P w K mg base CX0 n fw dw ["cell", "many", "base"] (spDraws K)) (bw : Binds K dw ["cell", "many", "base"] []) (kw : W.keepIn K (.ref fw) = true) (mw : mg "_law_draws" = some (.ref fw))
    (Gn : FnOk P w K mg base CX0 n fn dn ["house", "picks", "far"] (spNear K)) (bn : Binds K dn ["house", "picks", "far"] []) (kn : W.keepIn K (.ref fn) = true) (mn : mg "_law_near" = some (.ref fn)) :
    FnOk P w K mg base CX0 (n + 1) f fd ["script", "at", "most", "far"] (spABook K) := by
  refine F.ok scABook (fun vs H Q E h => ?_) (fun cdv A outer s H vs Q E hr h => ?_)
  . obtain ⟨a, ns, at', most, far, rfl, _⟩ := h
    rfl
  obtain ⟨a, ns, at', most, far, rfl, hS, hat, hm1, hm2, hfar, q⟩ := h
  refine ⟨_, (abT T Gc bc kc mc Gw bw kw mw Gn bn kn mn hr).2, ?_⟩
  refine ⟨_, rfl, _, rfl, a, ns, at', rfl, hS, hat, fun c => ⟨c, 8, 1000, rfl, by decide, by decide, by decide, fun hl H1 hd e1 hH1 hlen hb => ?_⟩⟩
  have hd' : ∀ k : Int, 0 <= k -> k < 8 -> ∃ v, v ∈ hd /\ atI (hd.map V.int) k = some (.int v) := fun k k0 k1 => atI_int k0 (by lia)
  obtain ⟨x0, m0, a0⟩ := hd' 0 (by decide) (by decide)
  obtain ⟨x1, m1, a1⟩ := hd' 1 (by decide) (by decide)
  obtain ⟨x2, m2, a2⟩ := hd' 2 (by decide) (by decide)
  obtain ⟨x3, m3, a3⟩ := hd' 3 (by decide) (by decide)
  obtain ⟨x4, m4, a4⟩ := hd' 4 (by decide) (by decide)
  obtain ⟨x5, m5, a5⟩ := hd' 5 (by decide) (by decide)
  obtain ⟨x7, m7, a7⟩ := hd' 7 (by decide) (by decide)
  have b0 := hb x0 m0; have b1 := hb x1 m1; have b2 := hb x2 m2; have b3 := hb x3 m3; have b4 := hb x4 m4; have b5 := hb x5 m5; have b7 := hb x7 m7
  -- kinds
  refine ⟨fun σ' H' => ∃ (kl : Addr) (kt kg : Nat), σ' = [some (.ref a), some (.int at'), some (.int most), some (.int far), some (.ref hl), some (.ref kl), none, none, none, none, none, none, none, none, none] /\ Same H1 H' /\ H' kl = some (.lst [.int (kt : Int), .int (kg : Int)]) /\ 1 <= kt /\ kt <= 4 /\ 1 <= kg /\ kg <= 4, ?_, ?_⟩
  . have two : ∀ y : Int, 0 <= y -> ∃ z : Int, (z = 4 \/ z = 2) /\ atI [V.int 4, V.int 2] (y % 2) = some (.int z) := fun y hy => by
      obtain ⟨z, hz, az⟩ := atI_int (ns := [4, 2]) (k := y % 2) (by lia) (by show y % 2 < 2; lia)
      exact ⟨z, by simpa using hz, az⟩
    obtain ⟨z1, hz1, az1⟩ := two x2 b2.1
    refine ⟨_, rfl, hl, _, 0, _, rfl, rfl, SqL.of hH1, a0, (by show 2 <= sizeLine; decide), fun l1 hl1 => ?_⟩
    have s1 := Same.new hl1 (.lst [V.int 4, V.int 2])
    refine ⟨_, rfl, hl, _, 2, _, rfl, rfl, SqL.of (s1 _ _ hH1), a2, _, _, rfl, rfl, (by show (0 : Int) < 2; decide), l1, _, _, _, rfl, rfl, SqL.of upd_same, az1, _, _, rfl, rfl, (by show (0 : Int) < z1; lia), _, _, rfl, rfl, ?_⟩
    refine ⟨_, rfl, hl, _, 1, _, rfl, rfl, SqL.of (s1 _ _ hH1), a1, (by show 2 <= sizeLine; decide), fun l2 hl2 => ?_⟩
    have s2 := Same.new hl2 (.lst [V.int 4, V.int 2])
    refine ⟨_, rfl, hl, _, 2, _, rfl, rfl, SqL.of (s2 _ _ (s1 _ _ hH1)), a2, _, _, rfl, rfl, (by show (0 : Int) < 2; decide), l2, _, _, _, rfl, rfl, SqL.of upd_same, az1, _, _, rfl, rfl, (by show (0 : Int) < z1; lia), _, _, rfl, rfl, ?_⟩
    refine ⟨(by show 2 <= sizeLine; decide), fun kl hkl => ?_⟩
    have s3 := Same.new hkl (.lst [V.int (1 + x0 % z1), V.int (1 + x1 % z1)])
    have p0 : 0 <= x0 % z1 /\ x0 % z1 < z1 := ⟨Int.emod_nonneg _ (by lia), Int.emod_lt_of_pos _ (by lia)⟩
    have p1 : 0 <= x1 % z1 /\ x1 % z1 < z1 := ⟨Int.emod_nonneg _ (by lia), Int.emod_lt_of_pos _ (by lia)⟩
    refine ⟨kl, (1 + x0 % z1).toNat, (1 + x1 % z1).toNat, rfl, s1.trans (s2.trans s3), ?_, by lia, by lia, by lia, by lia⟩
    rw [upd_same, Int.toNat_of_nonneg (by lia), Int.toNat_of_nonneg (by lia)]
  intro σ' H2 hM_; refine gen2 fun G_ hG_ => ?_; obtain ⟨kl, kt, kg, rfl, e2, hkl, kt1, kt4, kg1, kg4⟩ := hM_; subst hG_
  have hh2 := e2 _ _ hH1
  -- many
  refine ⟨fun σ' H' => ∃ (many : Nat), σ' = [some (.ref a), some (.int at'), some (.int most), some (.int far), some (.ref hl), some (.ref kl), some (.int (many : Int)), none, none, none, none, none, none, none, none] /\ Same H2 H' /\ 1 <= many /\ (many : Int) <= most, ?_, ?_⟩
  . refine ⟨_, rfl, hl, _, 3, _, rfl, rfl, SqL.of hh2, a3, _, rfl, _, rfl, _, _, rfl, (by show 2 <= sizeLine; decide), fun l1 hl1 => ?_⟩
    have s1 := Same.new hl1 (.lst [V.int most, V.int (if 4 < most then 4 else most)])
    obtain ⟨z, hz, az⟩ := atI_int (ns := [most, if 4 < most then 4 else most]) (k := x4 % 3 / 2) (by lia) (by show x4 % 3 / 2 < 2; lia)
    have hz' : 1 <= z /\ z <= most := by
      simp only [List.mem_cons, List.not_mem_nil, or_false] at hz
      rcases hz with rfl | rfl
      . lia
      . split <;> lia
    refine ⟨_, rfl, hl, _, 4, _, rfl, rfl, SqL.of (s1 _ _ hh2), a4, _, _, rfl, rfl, (by show (0 : Int) < 3; decide), _, _, rfl, rfl, ⟨by decide, by decide⟩, l1, _, _, _, rfl, rfl, SqL.of upd_same, az, _, _, rfl, rfl, (by show (0 : Int) < z; lia), _, _, rfl, rfl, ?_⟩
    have p0 : 0 <= x3 % z /\ x3 % z < z := ⟨Int.emod_nonneg _ (by lia), Int.emod_lt_of_pos _ (by lia)⟩
    refine ⟨(1 + x3 % z).toNat, ?_, s1, by lia, by lia⟩
    rw [Int.toNat_of_nonneg (by lia)]
    rfl
  intro σ' H3 hM_; refine gen2 fun G_ hG_ => ?_; obtain ⟨many, rfl, e3, mn1, mn2⟩ := hM_; subst hG_
  have hh3 := e3 _ _ hh2
  have hk3 := e3 _ _ hkl
  -- size
  refine ⟨fun σ' H' => ∃ (size : Int), σ' = [some (.ref a), some (.int at'), some (.int most), some (.int far), some (.ref hl), some (.ref kl), some (.int (many : Int)), some (.int size), none, none, none, none, none, none, none] /\ Same H3 H' /\ 1 <= size /\ size <= far /\ size <= 1000000000, ?_, ?_⟩
  . refine ⟨_, rfl, _, _, rfl, rfl, ⟨by decide, by decide, by decide⟩, (by show 5 <= sizeLine; decide), fun l1 hl1 => ?_⟩
    have s1 := Same.new hl1 (.lst [V.int 4, V.int 9, V.int 50, V.int 1000, V.int (10 ^ (9 : Int).toNat)])
    obtain ⟨z, hz, az⟩ := atI_int (ns := [4, 9, 50, 1000, 10 ^ (9 : Int).toNat]) (k := x5 % 5) (by lia) (by show x5 % 5 < 5; lia)
    have hz' : 1 <= z /\ z <= 1000000000 := by
      have e9 : (10 : Int) ^ (9 : Int).toNat = 1000000000 := by decide
      rw [e9] at hz
      simp only [List.mem_cons, List.not_mem_nil, or_false] at hz
      rcases hz with rfl | rfl | rfl | rfl | rfl <;> decide
    refine ⟨_, rfl, hl, _, 5, _, rfl, rfl, SqL.of (s1 _ _ hh3), a5, _, _, rfl, rfl, (by show (0 : Int) < 5; decide), l1, _, _, _, rfl, rfl, SqL.of upd_same, az, _, _, rfl, ?_⟩
    refine ⟨_, rfl, s1, ?_, ?_, ?_⟩ <;> (split <;> lia)
  intro σ' H4 hM_; refine gen2 fun G_ hG_ => ?_; obtain ⟨size, rfl, e4, sz1, szf, sz9⟩ := hM_; subst hG_
  have hh4 := e4 _ _ hh3
  have hk4 := e4 _ _ hk3
  have e14 : Same H H4 := e1.trans (e2.trans (e3.trans e4))
  refine ⟨(by show 0 <= sizeLine; decide), fun bl hbl => ?_⟩
  refine ⟨_, rfl, (many : Int), rfl, by lia, by lia, ?_⟩
  rw [Int.toNat_natCast]
  refine for_range (n := many) (fun i σ H' => ∃ (xs : List V) (hs : List House) (o9 o10 o11 o12 o13 o14 : Option V), σ = [some (.ref a), some (.int at'), some (.int most), some (.int far), some (.ref hl), some (.ref kl), some (.int (many : Int)), some (.int size), some (.ref bl), o9, o10, o11, o12, o13, o14] ∧
      Same H4 H' /\ H' bl = some (.lst xs) /\ Bk K H' xs hs /\ hs.length = i /\ ∀ h ∈ hs, HG far kt kg h)
    ⟨[], [], _, _, _, _, _, _, rfl, Same.new hbl _, upd_same, .nil, rfl, fun h hh => (by cases hh)⟩ ?_ ?_
  . rintro i σ H5 hi ⟨xs, hs, o9, o10, o11, o12, o13, o14, rfl, e5, hb5, hB, hlen5, hG⟩
    have hh5 := e5 _ _ hh4
    have hk5 := e5 _ _ hk4
    have xlen : xs.length = hs.length := Paired.length hB
    have ak0 : atI [V.int (kt : Int), V.int (kg : Int)] 0 = some (.int (kt : Int)) := atI_nat (j := 0) rfl
    have ak1 : atI [V.int (kt : Int), V.int (kg : Int)] 1 = some (.int (kg : Int)) := atI_nat (j := 1) rfl
    -- picks
    refine ⟨fun σ' H' => ∃ (pl : Addr) (ds : List Int), σ' = [some (.ref a), some (.int at'), some (.int most), some (.int far), some (.ref hl), some (.ref kl), some (.int (many : Int)), some (.int size), some (.ref bl), some (.int (0 + (i : Int))), some (.ref pl), o11, o12, o13, o14] /\ Same H5 H' /\ H' pl = some (.lst (ds.map V.int)) /\ ds.length = 12 /\ ∀ d ∈ ds, 0 <= d, ?_, ?_⟩
    . refine ⟨_, rfl, _, rfl, _, _, rfl, rfl, a, ns, at' + 1, rfl, (e14.trans e5).seq hS, by lia, fun c => ?_⟩
      refine ⟨_, rfl, _, rfl, hl, _, 7, _, rfl, rfl, SqL.of hh5, a7, _, _, rfl, rfl, _, _, rfl, rfl, .inl ⟨by lia, by lia⟩, _, _, rfl, rfl, _, _, rfl, rfl, ⟨by decide, by decide, by decide⟩, ?_⟩
      exact ⟨_, 12, _, rfl, by decide, by decide, by decide, fun pl H6 ds e6 hp6 l6 d6 => ⟨pl, ds, rfl, e6, hp6, l6, fun d hd => (d6 d hd).1⟩⟩
    intro σ' H6 hM_; refine gen2 fun G_ hG_ => ?_; obtain ⟨pl, ds, rfl, e6, hp6, l6, d6⟩ := hM_; subst hG_
    have hh6 := e6 _ _ hh5
    have hk6 := e6 _ _ hk5
    have hb6 := e6 _ _ hb5
    have pk : ∀ k : Int, 0 <= k -> k < 12 -> ∃ v, v ∈ ds /\ atI (ds.map V.int) k = some (.int v) := fun k k0 k1 => atI_int k0 (by lia)
    obtain ⟨y8, n8, c8⟩ := pk 8 (by decide) (by decide)
    obtain ⟨y9, n9, c9⟩ := pk 9 (by decide) (by decide)
    obtain ⟨y10, n10, c10⟩ := pk 10 (by decide) (by decide)
    obtain ⟨y11, n11, c11⟩ := pk 11 (by decide) (by decide)
    have g8 := d6 _ n8; have g9 := d6 _ n9; have g10 := d6 _ n10; have g11 := d6 _ n11
    have dl : (ds.map V.int).length = 12 := by rw [List.length_map]; exact l6
    -- takes
    refine ⟨fun σ' H' => ∃ (tp : Addr) (At : List Int), σ' = [some (.ref a), some (.int at'), some (.int most), some (.int far), some (.ref hl), some (.ref kl), some (.int (many : Int)), some (.int size), some (.ref bl), some (.int (0 + (i : Int))), some (.ref pl), some (.ref tp), o12, o13, o14] /\ Same H6 H' /\ H' tp = some (.tup (At.map V.int)) /\ At.length = kt /\ ∀ x ∈ At, 1 <= x /\ x <= far, ?_, ?_⟩
    . have ec : cutV (ds.map V.int) none (some (kt : Int)) = (ds.take kt).map V.int := by
        unfold cutV
        rw [HT.sIx_none, HT.sIx_nat, dl, List.drop_zero, List.map_take]
        congr 1
        lia
      refine ⟨_, rfl, _, rfl, kl, _, 0, _, rfl, rfl, SqL.of hk6, ak0, _, rfl, pl, _, rfl, SqL.of hp6, fun cp hcp => ?_⟩
      rw [ec]
      have s1 := Same.new hcp (.lst ((ds.take kt).map V.int))
      refine ⟨cp, rfl, ⟨_, SqL.of upd_same⟩, fun lp hlp => ?_⟩
      refine lc_map (itIs_list (SqL.of upd_same)) hlp (by rw [List.length_map, List.length_take]; exact small1000 (by lia)) (fun x => .int (1 + vI x % size)) (fun j x H' N hx e hN => ?_) ?_
      . obtain ⟨k, rfl⟩ := map_int_at hx
        exact ⟨Wk.set (by decide), _, rfl, _, rfl, _, _, rfl, rfl, (by show (0 : Int) < size; lia), _, _, rfl, rfl, hN⟩
      . have eA : ((ds.take kt).map V.int).map (fun x => V.int (1 + vI x % size)) = ((ds.take kt).map fun d => 1 + d % size).map V.int := by rw [List.map_map, List.map_map]; rfl
        rw [eA]
        have s2 := Same.new hlp (.lst (((ds.take kt).map fun d => 1 + d % size).map V.int))
        refine ⟨lp, _, rfl, .inl ⟨SqL.of upd_same, fun tp htp => ?_⟩⟩
        refine ⟨tp, (ds.take kt).map fun d => 1 + d % size, rfl, s1.trans (s2.trans (Same.new htp _)), upd_same, by rw [List.length_map, List.length_take]; lia, fun x hx => ?_⟩
        obtain ⟨d, _, rfl⟩ := List.mem_map.mp hx
        have p0 : 0 <= d % size /\ d % size < size := ⟨Int.emod_nonneg _ (by lia), Int.emod_lt_of_pos _ (by lia)⟩
        lia
    intro σ' H7 hM_; refine gen2 fun G_ hG_ => ?_; obtain ⟨tp, At, rfl, e7, ht7, lAt, tAt⟩ := hM_; subst hG_
    have hp7 := e7 _ _ hp6
    have hk7 := e7 _ _ hk6
    have hb7 := e7 _ _ hb6
    -- some
    have ec : cutV (ds.map V.int) (some 4) (some (4 + (kg : Int))) = ((ds.drop 4).take kg).map V.int := by
      unfold cutV
      have z1 : HT.sIx (ds.map V.int).length 0 (some 4) = 4 := by
        have := HT.sIx_nat (ds.map V.int).length 0 4
        rw [dl] at this ⊢
        exact this
      have z2 : HT.sIx (ds.map V.int).length (ds.map V.int).length (some (4 + (kg : Int))) = 4 + kg := by
        have := HT.sIx_nat (ds.map V.int).length (ds.map V.int).length (4 + kg)
        rw [dl] at this ⊢
        rw [show (4 : Int) + (kg : Int) = ((4 + kg : Nat) : Int) by lia, this]
        lia
      rw [z1, z2, List.map_take, List.map_drop]
      congr 1
      lia
    refine ⟨_, rfl, _, rfl, _, rfl, kl, _, 1, _, rfl, rfl, SqL.of hk7, ak1, _, _, rfl, rfl, _, rfl, pl, _, rfl, SqL.of hp7, fun sp hsp => ?_⟩
    rw [ec]
    have s7 := Same.new hsp (.lst (((ds.drop 4).take kg).map V.int))
    -- gives
    refine ⟨fun σ' H' => ∃ (gp : Addr) (Bs : List Int) (o12 : Option V), σ' = [some (.ref a), some (.int at'), some (.int most), some (.int far), some (.ref hl), some (.ref kl), some (.int (many : Int)), some (.int size), some (.ref bl), some (.int (0 + (i : Int))), some (.ref pl), some (.ref tp), o12, some (.ref gp), o14] /\ Same H7 H' /\ H7 gp = none /\ H' gp = some (.lst (Bs.map V.int)) /\ Bs.length = kg /\ ∀ x ∈ Bs, 0 <= x /\ x <= far, ?_, ?_⟩
    . refine ⟨_, rfl, sp, rfl, ⟨_, SqL.of upd_same⟩, fun gp hgp => ?_⟩
      refine lc_map (itIs_list (SqL.of upd_same)) hgp (by rw [List.length_map, List.length_take]; exact small1000 (by lia)) (fun x => .int (vI x % (size + 1) * (if decide (0 < vI x % 7) = true then 1 else 0))) (fun j x H' N hx e hN => ?_) ?_
      . obtain ⟨k, rfl⟩ := map_int_at hx
        refine ⟨Wk.set (by decide), _, rfl, _, rfl, _, _, rfl, rfl, _, _, rfl, rfl, (by show (0 : Int) < size + 1; lia), _, rfl, _, _, rfl, rfl, (by show (0 : Int) < 7; decide), _, _, rfl, rfl, .inr ⟨_, rfl, _, _, rfl, rfl, .inr ?_, hN⟩⟩
        constructor <;> (split <;> decide)
      . have eB : (((ds.drop 4).take kg).map V.int).map (fun x => V.int (vI x % (size + 1) * (if decide (0 < vI x % 7) = true then 1 else 0))) = (((ds.drop 4).take kg).map fun d => d % (size + 1) * (if decide (0 < d % 7) = true then 1 else 0)).map V.int := by rw [List.map_map, List.map_map]; rfl
        rw [eB]
        refine ⟨gp, _, _, rfl, s7.trans (Same.new hgp _), s7.free hgp, upd_same, by rw [List.length_map, List.length_take, List.length_drop]; lia, fun x hx => ?_⟩
        obtain ⟨d, _, rfl⟩ := List.mem_map.mp hx
        have p0 : 0 <= d % (size + 1) /\ d % (size + 1) < size + 1 := ⟨Int.emod_nonneg _ (by lia), Int.emod_lt_of_pos _ (by lia)⟩
        split <;> lia
    intro σ' H8 hM_; refine gen2 fun G_ hG_ => ?_; obtain ⟨gp, Bs, o12', rfl, e8, f8, hg8, lBs, tBs⟩ := hM_; subst hG_
    have hp8 := e8 _ _ hp7
    have hk8 := e8 _ _ hk7
    have lB' : (Bs.map V.int).length = kg := by rw [List.length_map]; exact lBs
    -- a give above 0
    refine ⟨fun σ' H' => ∃ (Bs : List Int) (o12 : Option V), σ' = [some (.ref a), some (.int at'), some (.int most), some (.int far), some (.ref hl), some (.ref kl), some (.int (many : Int)), some (.int size), some (.ref bl), some (.int (0 + (i : Int))), some (.ref pl), some (.ref tp), o12, some (.ref gp), o14] /\ Same H7 H' /\ H' gp = some (.lst (Bs.map V.int)) /\ Bs.length = kg /\ (∀ x ∈ Bs, 0 <= x /\ x <= far) /\ ∃ x ∈ Bs, 0 < x, ?_, ?_⟩
    . refine ⟨_, rfl, gp, Bs, rfl, .inl (SqL.of hg8), (fun z => by rw [z] at lBs; simp at lBs; lia), fun M hM hMx => ⟨rfl, _, rfl, ?_⟩⟩
      refine ite2 (fun c => ?_) (fun c => ?_)
      . refine ⟨_, rfl, pl, _, 9, _, rfl, rfl, SqL.of hp8, c9, _, rfl, _, _, rfl, rfl, (by show (0 : Int) < size; lia), _, _, rfl, rfl, ?_⟩
        refine ⟨_, rfl, _, rfl, pl, _, 8, _, rfl, rfl, SqL.of hp8, c8, _, rfl, kl, _, 1, _, rfl, rfl, SqL.of hk8, ak1, _, _, rfl, rfl, (by show (0 : Int) < (kg : Int); lia), ?_⟩
        have r0 : 0 <= y8 % (kg : Int) := Int.emod_nonneg _ (by lia)
        have r1 : y8 % (kg : Int) < ((Bs.map V.int).length : Int) := by rw [lB']; exact Int.emod_lt_of_pos _ (by lia)
        have rn : (y8 % (kg : Int)).toNat < Bs.length := by rw [lB'] at r1; lia
        have p0 : 0 <= y9 % size /\ y9 % size < size := ⟨Int.emod_nonneg _ (by lia), Int.emod_lt_of_pos _ (by lia)⟩
        refine ⟨gp, _, _, _, rfl, rfl, hg8, ixN_nat r0 r1, ?_⟩
        refine ⟨Bs.set (y8 % (kg : Int)).toNat _, _, rfl, e8.write f8, by rw [upd_same, map_set], by rw [List.length_set]; exact lBs, fun x hx => ?_, _, List.mem_set rn _, by lia⟩
        rcases List.mem_or_eq_of_mem_set hx with z | z
        . exact tBs x z
        . lia
      . have c' : ¬ M = 0 := fun z => c (decide_eq_true (by rw [z]))
        have := tBs M hM
        exact ⟨Bs, _, rfl, e8, hg8, lBs, tBs, M, hM, by lia⟩
    intro σ' H9 hM_; refine gen2 fun G_ hG_ => ?_; obtain ⟨Bt, o12'', rfl, e9, hg9, lBt, tBt, tPt⟩ := hM_; subst hG_
    -- house
    refine ⟨fun σ' H' => ∃ (v : V) (h : House) (o12 : Option V), σ' = [some (.ref a), some (.int at'), some (.int most), some (.int far), some (.ref hl), some (.ref kl), some (.int (many : Int)), some (.int size), some (.ref bl), some (.int (0 + (i : Int))), some (.ref pl), some (.ref tp), o12, some (.ref gp), some v] /\ Same H7 H' /\ HS K H' v h /\ HG far kt kg h, ?_, ?_⟩
    . refine ⟨_, rfl, _, rfl, gp, _, rfl, .inl ⟨SqL.of hg9, fun pg hpg => ?_⟩⟩
      have f1 := Same.new hpg (.tup (Bt.map V.int))
      refine ⟨(by show 2 <= sizeLine; decide), fun pr hpr => ?_⟩
      have f2 := Same.new hpr (.tup [V.ref tp, V.ref pg])
      exact ⟨_, (At, Bt), _, rfl, e9.trans (f1.trans f2), ⟨pr, tp, pg, rfl, SqT.of upd_same, SqT.of (f2 _ _ (f1 _ _ (e9 _ _ ht7))), SqT.of (f2 _ _ upd_same)⟩, ⟨lAt, lBt, tAt, tBt, tPt⟩⟩
    intro σ' H10 hM_; refine gen2 fun G_ hG_ => ?_; obtain ⟨v, h, o12'', rfl, e10, hv, hvG⟩ := hM_; subst hG_
    have e57 : Same H5 H7 := e6.trans e7
    have e510 : Same H5 H10 := e57.trans e10
    -- or one near another one
    refine ⟨fun σ' H' => ∃ (v : V) (h : House) (o12 : Option V), σ' = [some (.ref a), some (.int at'), some (.int most), some (.int far), some (.ref hl), some (.ref kl), some (.int (many : Int)), some (.int size), some (.ref bl), some (.int (0 + (i : Int))), some (.ref pl), some (.ref tp), o12, some (.ref gp), some v] /\ Same H5 H' /\ HS K H' v h /\ HG far kt kg h, ?_, ?_⟩
    . refine ⟨_, rfl, (by show 0 <= sizeLine; decide), fun ep hep => ?_⟩
      have f1 := Same.new hep (.lst [])
      have e511 := e510.trans f1
      refine ⟨.list (hs.map dHouse), .list [], .lst (SqL.of (e511 _ _ hb5)) (Bk.dps (Bk.same e511 hB)), .lst (SqL.of upd_same) .nil, lay_book hs, rfl, Nat.le_trans (Nat.min_le_right _ _) (by decide), _, rfl, ?_⟩
      refine ite2 (fun c => ?_) (fun c => iteF ⟨v, h, _, rfl, e511, hv.same f1, hvG⟩)
      have hpos : 0 < hs.length := by
        cases hs with
        | nil => exact absurd c (by simp [PyData.eqv, PyData.eqvAll])
        | cons _ _ => simp
      have hp11 : upd H10 ep (.lst []) pl = some (.lst (ds.map V.int)) := f1 _ _ (e10 _ _ hp7)
      have hb11 := e511 _ _ hb5
      refine ⟨_, rfl, pl, _, 10, _, rfl, rfl, SqL.of hp11, c10, _, _, rfl, rfl, (by show (0 : Int) < 4; decide), rfl, _, rfl, ?_⟩
      refine ite2 (fun c => ?_) (fun c => ⟨v, h, _, rfl, e511, hv.same f1, hvG⟩)
      have r0 : 0 <= y11 % (xs.length : Int) := Int.emod_nonneg _ (by lia)
      have r1 : y11 % (xs.length : Int) < (xs.length : Int) := Int.emod_lt_of_pos _ (by lia)
      have hk : (y11 % (xs.length : Int)).toNat < xs.length := by lia
      have ax : atI xs (y11 % (xs.length : Int)) = some xs[(y11 % (xs.length : Int)).toNat] := by
        unfold atI
        rw [ixN_nat r0 r1]
        exact List.getElem?_eq_getElem hk
      obtain ⟨h', hh', hs'⟩ := Paired.at hB (List.getElem?_eq_getElem hk)
      refine ⟨_, rfl, _, rfl, pl, _, 11, _, rfl, rfl, SqL.of hp11, c11, _, rfl, bl, _, rfl, .inl (SqL.of hb11), _, _, rfl, rfl, (by show (0 : Int) < (xs.length : Int); lia), bl, _, _, _, rfl, rfl, SqL.of hb11, ax, _, rfl, _, rfl, ?_⟩
      refine ⟨_, pl, far, h', ds, kt, kg, rfl, hs'.same e511, hG h' (List.mem_of_getElem? hh'), kt1, kt4, kg1, kg4, hfar, SqL.of hp11, l6, d6, fun r H12 h'' e12 hs'' hg'' => ⟨r, h'', _, rfl, e511.trans e12, hs'', hg''⟩⟩
    intro σ' H11 hM_; refine gen2 fun G_ hG_ => ?_; obtain ⟨v, h, o12'', rfl, e11, hv, hvG⟩ := hM_; subst hG_
    have hb11 := e11 _ _ hb5
    refine ⟨_, rfl, .inl ⟨rfl, _, SqL.of hb11⟩, _, rfl, bl, xs, v, rfl, rfl, hb11, small1000 (by lia), ?_⟩
    have kp : Keep H11 (upd H11 bl (.lst (xs ++ [v]))) := Keep.upd hb11
    refine ⟨xs ++ [v], hs ++ [h], _, _, _, _, _, _, rfl, (e5.trans e11).write hbl, upd_same, Paired.app (Bk.keep kp (Bk.same e11 hB)) (.cons (HS.keep kp hv) .nil), by rw [List.length_append, hlen5]; rfl, fun h' hm => ?_⟩
    rcases List.mem_append.mp hm with z | z
    . exact hG h' z
    . rw [List.mem_singleton.mp z]; exact hvG
  . intro σ H' hM_; refine gen2 fun G_ hG_ => ?_; obtain ⟨xs, hs, o9, o10, o11, o12, o13, o14, rfl, e5, hb5, hB, hlen5, hG⟩ := hM_; subst hG_
    exact ⟨_, rfl, q bl H' xs hs kt kg (e14.trans e5) hb5 hB (by lia) (by lia) kt1 kt4 kg1 kg4 hG⟩
end
end Rim
namespace Rim
open PySem L2 Fr
def rSum (K : W.Frag) : List V -> Hp -> VK -> Prop := fun vs H Q => ∃ (a : Addr) (ns : List Int), vs = [.ref a] /\ SqA K H a (ns.map V.int) /\ Q (.int ns.sum) H
theorem sum_at (K : W.Frag) {X : Cx} (h : X.K = K) (hc : X.calm = true) : CallR X (.builtin "sum") (rSum K) := by subst h; exact call_sum hc
theorem ixt_at (K : W.Frag) {X : Cx} (h : X.K = K) : IxR X (rIxT K) := by subst h; exact ix_tup
section
variable {P : Program} {w : World} {K : W.Frag} {mg : Str -> Option Value} {base : Heap} {f g : Addr} {fd gd : FuncData}
structure Cal (P : Program) (w : World) (K : W.Frag) (mg : Str -> Option Value) (base : Heap) (n : Nat) (x : Str) (ps : List Str) (sp : Sp) (fa : Addr) (d : FuncData) : Prop where
  ok : FnOk P w K mg base CX0 n fa d ps sp
  b : Binds K d ps []
  k : W.keepIn K (.ref fa) = true
  m : mg x = some (.ref fa)
end
end Rim
namespace Rim
open PySem L2 Fr
section
variable {P : Program} {w : World} {K : W.Frag} {mg : Str -> Option Value} {base : Heap} {f g : Addr} {fd gd : FuncData} {n : Nat}
theorem pair0 {α : Type} (a b : α) : atI [a, b] 0 = some a := atI_nat (j := 0) rfl
theorem pair1 {α : Type} (a b : α) : atI [a, b] 1 = some b := atI_nat (j := 1) rfl
theorem kit_same {K : W.Frag} (t : Value) : W.kitOne K t t = some true := by unfold W.kitOne; rw [if_pos (beq_self_eq_true _)]
end
end Rim
namespace Rim
open PySem L2 Fr
section
variable {P : Program} {w : World} {K : W.Frag} {mg : Str -> Option Value} {base : Heap} {f g : Addr} {fd gd : FuncData} {n : Nat}
def Good (k : Nat) (m : Int) : Prop := 0 <= m /\ m < (k : Int)
def spHof (K : W.Frag) (CN : Addr) : Sp := fun vs H Q E => ∃ (a : Addr) (xs : List V) (m : Int), vs = [.ref a, .int m] /\ SqL K H a xs /\ m.natAbs.log2 < 1920 /\ (∀ (i : Nat) x, m = (i : Int) -> xs[i]? = some x -> Q x H) /\ (¬ Good xs.length m -> E (.ref CN) none H)
theorem scHof : FnScope ["book", "number"] ["book", "number"] (defScope sHof) := ⟨rfl, rfl, rfl, by decide +kernel, rfl, by decide +kernel, by decide +kernel⟩
theorem ok_hof {CN : Addr} (F : Fun K "house_of" "house_of" sHof f fd) (T : Nones mg) (kN : ExcK K CN) (mN : mg "NoHouse" = some (.ref CN)) : FnOk P w K mg base (CX1 P w) (n + 1) f fd ["book", "number"] (spHof K CN) := by
  refine F.ok1 scHof (fun vs H Q E h => ?_) (fun cdv A outer s H vs Q E hr h => ?_)
  . obtain ⟨a, xs, m, rfl, _⟩ := h
    rfl
  obtain ⟨a, xs, m, rfl, hS, hm, q, hE⟩ := h
  refine ⟨_, pss_cons (ps_if (pt_not (pt_chain op_le op_lt pe_int (pv 1) (pe_callB call_len_seq rfl T.len PySem.boot_len (pa_cons (pv 0) pa_nil)))) (pss_one (ps_raise kN rfl mN hr.hd (pa_cons (pe_fstr (pv 1) (by decide)) pa_nil))) pss_nil)
    (pss_one (ps_ret (pe_ix ix_list (pv 0) (pv 1) (fun _ _ => rfl)))), ?_⟩
  refine ⟨_, rfl, _, _, rfl, rfl, _, rfl, ?_⟩
  have bad : ¬ Good xs.length m -> tRaise (tCons (tFs (tVar 1)) tNil) CN E { nx := fun _ H' => Q .non H', rt := Q } (start ["book", "number"] [.ref a, .int m]) H := fun hb => ⟨_, rfl, m, rfl, hm, fun x => ⟨(by show 1 <= 1000; decide), hE hb⟩⟩
  refine ite2 (fun c => ?_) (fun c => ?_)
  . have c' : 0 <= m := of_decide_eq_true c
    refine ⟨_, rfl, a, _, rfl, .inl hS, _, _, rfl, rfl, _, rfl, ?_⟩
    refine ite2 (fun d => ?_) (fun d => ?_)
    . have d' : ¬ m < (xs.length : Int) := of_decide_eq_false (by simpa using d)
      exact bad fun z => d' z.2
    . have d' : m < (xs.length : Int) := of_decide_eq_true (by simpa using d)
      obtain ⟨j, rfl⟩ : ∃ j : Nat, m = (j : Int) := ⟨m.toNat, by lia⟩
      have hi : j < xs.length := by lia
      exact ⟨_, rfl, _, rfl, a, _, _, _, rfl, rfl, hS, atI_nat (List.getElem?_eq_getElem hi), q j xs[j] rfl (List.getElem?_eq_getElem hi)⟩
  . have c' : ¬ 0 <= m := of_decide_eq_false (Bool.eq_false_iff.mpr c)
    exact ⟨_, rfl, iteT (bad fun z => c' z.1)⟩
end
end Rim
namespace L2
open PySem PySem.Spec PyProof.Rows
structure KDict (K : W.Frag) (P : Params) (d : Addr) : Prop where
  ex : ∃ es n, K.lookup d = some ⟨.type "dict", none, .dict es n, #[]⟩ /\ W.KeysLit P es.toList
end L2
namespace L2
open PySem
end L2
namespace Rim
open PySem L2 Fr
def Szw (z : Str) : Prop := z = "any" \/ z = "one" \/ z = "less" \/ z = "more"
def sgn (z : Str) : List Int := if z = "any" then [] else if z = "one" then [1, -1] else if z = "less" then [-1] else [1]
structure Sg (K : W.Frag) (Pm : Params) (mg : Str -> Option Value) (d : Addr) : Prop where
  m : mg "SIZE_SIGNS" = some (.ref d)
  k : KDict K Pm d
  tt : ∀ z, Szw z -> ∃ t, W.nsIn K d z = some (some (.ref t)) /\ ∀ H, SqT K H t ((sgn z).map V.int)
section
variable {P : Program} {w : World} {K : W.Frag} {mg : Str -> Option Value} {base : Heap} {f Pt d : Addr} {fd : FuncData} {n : Nat} {C : Addr}
end
end Rim
namespace Rim
open PySem L2 Fr
section
variable {P : Program} {w : World} {K : W.Frag} {mg : Str -> Option Value} {base : Heap} {f Pt d : Addr} {fd : FuncData} {n : Nat} {C : Addr}
end
end Rim
namespace Rim
open PySem L2 Fr
section
variable {P : Program} {w : World} {K : W.Frag} {mg : Str -> Option Value} {base : Heap} {f Pt d : Addr} {fd : FuncData} {n : Nat} {C : Addr}
end
end Rim
namespace Rim
open PySem L2 Fr
section
variable {P : Program} {w : World} {K : W.Frag} {mg : Str -> Option Value} {base : Heap} {f Pt d : Addr} {fd : FuncData} {n : Nat} {C : Addr}
end
end Rim
namespace Lp
section
variable {m q : Nat} {A : Nat -> Nat -> Int} {b c : Nat -> Int} {S : Bo}
end
end Lp
namespace Rim
open PySem L2 Fr
section
variable {P : Program} {w : World} {K : W.Frag} {mg : Str -> Option Value} {base : Heap} {f Pt d : Addr} {fd : FuncData} {n : Nat} {C : Addr}
end
end Rim
namespace Rim
open PySem L2 Fr
section
variable {P : Program} {w : World} {K : W.Frag} {mg : Str -> Option Value} {base : Heap} {f Pt d : Addr} {fd : FuncData} {n : Nat} {C : Addr}
theorem cut_mid (xs : List V) (a b : Nat) (h : a <= b) (hb : b <= xs.length) : cutV xs (some (a : Int)) (some (b : Int)) = (xs.drop a).take (b - a) := by
  unfold cutV
  rw [HT.sIx_nat, HT.sIx_nat, Nat.min_eq_left hb, Nat.min_eq_left (by lia)]
end
end Rim
namespace Rim
open PySem L2 Fr
section
variable {P : Program} {w : World} {K : W.Frag} {mg : Str -> Option Value} {base : Heap} {f Pt d CN : Addr} {fd : FuncData} {n : Nat} {C : Addr}
structure Cal1 (P : Program) (w : World) (K : W.Frag) (mg : Str -> Option Value) (base : Heap) (n : Nat) (x : Str) (ps : List Str) (sp : Sp) (fa : Addr) (d : FuncData) : Prop where
  ok : FnOk P w K mg base (CX1 P w) n fa d ps sp
  b : Binds K d ps []
  k : W.keepIn K (.ref fa) = true
  m : mg x = some (.ref fa)
abbrev mE (hs : List House) : Nat := hs.length + 1
abbrev qE (z : Str) (h : House) : Nat := h.1.length + h.2.length + (sgn z).length
structure BookIn (K : W.Frag) (H : Hp) (ba : Addr) (xs : List V) (hs : List House) (far : Int) (kt kg : Nat) : Prop where
  l : SqL K H ba xs
  b : Bk K H xs hs
  g : ∀ h ∈ hs, HG far kt kg h
  far : far <= 2 ^ 60
  few : hs.length <= 16
  t : kt <= 20
  k : kg <= 20
end
end Rim
namespace L2
open PySem
end L2
namespace Fr
end Fr
namespace Rim
open PySem L2 Fr
section
variable {P : Program} {w : World} {K : W.Frag} {mg : Str -> Option Value} {base : Heap} {f : Addr} {fd : FuncData} {n : Nat}
end
end Rim
namespace Rim
open PySem L2 Fr
section
variable {P : Program} {w : World} {K : W.Frag} {mg : Str -> Option Value} {base : Heap} {f : Addr} {fd : FuncData} {n : Nat}
def SizeOk (z : Str) (s D : Int) : Prop := ((z = "one" \/ z = "less") -> s <= D) /\ ((z = "one" \/ z = "more") -> D <= s)
end
end Rim
namespace Rim
open PySem L2 Fr
def col (rows : List (List Int)) (i : Nat) : List Int := rows.map fun r => r.getD i 0
section
variable {P : Program} {w : World} {K : W.Frag} {mg : Str -> Option Value} {base : Heap} {f g : Addr} {fd gd : FuncData} {n : Nat}
def sideJ (j : Nat) (h : House) : List Int := if j = 0 then h.1 else h.2
end
end Rim
namespace L2
open PySem PySem.Spec PyProof.Rows
section
variable {xs ys : List V} {K : W.Frag} {l1 l2 : Addr} {σ : St}
end
end L2
namespace Rim
open PySem L2 Fr
section
variable {P : Program} {w : World} {K : W.Frag} {mg : Str -> Option Value} {base : Heap} {f : Addr} {fd : FuncData} {n : Nat}
def colS (hs : List House) (ws : List Int) (j i : Nat) : Int := (List.zipWith (· * ·) (col (hs.map (sideJ j)) i) ws).sum
end
end Rim
namespace Rim
open PySem L2 Fr
section
variable {P : Program} {w : World} {K : W.Frag} {mg : Str -> Option Value} {base : Heap} {f : Addr} {fd : FuncData} {n : Nat}
end
end Rim
namespace Rim
open PySem L2 Fr
section
variable {P : Program} {w : World} {K : W.Frag} {mg : Str -> Option Value} {base : Heap} {f : Addr} {fd : FuncData} {n : Nat}
structure PrN (pt pg : List Int) (ps D : Int) (kt kg : Nat) : Prop where
  lt : pt.length = kt
  lg : pg.length = kg
  bt : ∀ x ∈ pt, 0 <= x /\ Big 5000 x
  bg : ∀ x ∈ pg, 0 <= x /\ Big 5000 x
  bs : Big 5000 ps
  d : 0 < D
  d2 : D < 2 ^ 4000
def earn (h : House) (pg : List Int) (ps : Int) : Int := (List.zipWith (· * ·) h.2 pg).sum + ps
def pay (h : House) (pt : List Int) : Int := (List.zipWith (· * ·) h.1 pt).sum
end
end Rim
namespace Rim
open PySem L2 Fr
section
variable {P : Program} {w : World} {K : W.Frag} {mg : Str -> Option Value} {base : Heap} {f : Addr} {fd : FuncData} {n : Nat}
def SignOk (z : Str) (ps : Int) : Prop := ((z = "any" \/ z = "less") -> ps <= 0) /\ ((z = "any" \/ z = "more") -> 0 <= ps)
end
end Rim
namespace Rim
open PySem L2 Fr
mutual
theorem eqv_refl : ∀ d : PyData, d.canLay0 = true -> PyData.eqv d d = true
  | .none, _ => by rw [PyData.eqv]
  | .bool b, _ => by rw [PyData.eqv]; simp
  | .int i, _ => by rw [PyData.eqv]; simp
  | .str x, _ => by rw [PyData.eqv]; simp
  | .list xs, h => by rw [PyData.eqv]; exact eqvAll_refl xs (by rw [PyData.canLay0] at h; exact h)
  | .tuple xs, h => by rw [PyData.eqv]; exact eqvAll_refl xs (by rw [PyData.canLay0] at h; exact h)
  | .dict kvs, h => by rw [PyData.canLay0] at h; cases h
theorem eqvAll_refl : ∀ ds : List PyData, PyData.canLayAll0 ds = true -> PyData.eqvAll ds ds = true
  | [], _ => by rw [PyData.eqvAll]
  | d :: r, h => by
    rw [PyData.canLayAll0, Bool.and_eq_true] at h
    rw [PyData.eqvAll, eqv_refl d h.1, eqvAll_refl r h.2]; rfl
end
section
variable {P : Program} {w : World} {K : W.Frag} {mg : Str -> Option Value} {base : Heap} {f : Addr} {fd : FuncData} {n : Nat}
end
end Rim
namespace Rim
open PySem L2 Fr
section
variable {P : Program} {w : World} {K : W.Frag} {mg : Str -> Option Value} {base : Heap} {f : Addr} {fd : FuncData} {n : Nat}
end
end Rim
namespace Lp
section
variable {m q : Nat} {A : Nat -> Nat -> Int} {b c : Nat -> Int} {S S' : Bo}
end
end Lp
namespace Rim
open PySem L2 Fr
abbrev dot (l x : List Int) : Int := (List.zipWith (· * ·) l x).sum
section
variable {m q : Nat} {rows : List (List Int)} {bnd goal : List Int} {S : Lp.Bo}
end
end Rim
namespace Rim
open PySem L2 Fr
abbrev ptA (h : House) (xs : List Int) : List Int := xs.take h.1.length
abbrev pgA (h : House) (xs : List Int) : List Int := (xs.drop h.1.length).take h.2.length
abbrev psA (z : Str) (h : House) (xs : List Int) : Int := dot (xs.drop (h.1.length + h.2.length)) (sgn z)
section
variable {z : Str} {hs : List House} {h : House} {kt kg : Nat} (hk : ∀ g ∈ hs, g.1.length = kt /\ g.2.length = kg)
include hk
end
structure Told (z : Str) (hs : List House) (h : House) (S : Lp.Bo) (kt kg : Nat) (ws : List Int) : Prop where
  lw : ws.length = hs.length
  nn : ∀ x ∈ ws, 0 <= x /\ Big 20000 x
  size : SizeOk z ws.sum S.d
  takes : ∀ j, j < kt -> colS hs ws 0 j <= h.1.getD j 0 * S.T (mE hs) (qE z h)
  gives : ∀ j, j < kg -> h.2.getD j 0 * S.d <= colS hs ws 1 j
  pos : 0 < S.T (mE hs) (qE z h)
  le : h ∈ hs -> S.T (mE hs) (qE z h) <= S.d
  fair : ∀ g ∈ hs, earn g (pgA h (amtsL (mE hs) (qE z h) S)) (psA z h (amtsL (mE hs) (qE z h) S)) <= pay g (ptA h (amtsL (mE hs) (qE z h) S))
  pays : pay h (ptA h (amtsL (mE hs) (qE z h) S)) = S.d
  earns : earn h (pgA h (amtsL (mE hs) (qE z h) S)) (psA z h (amtsL (mE hs) (qE z h) S)) = S.T (mE hs) (qE z h)
  pr : PrN (ptA h (amtsL (mE hs) (qE z h) S)) (pgA h (amtsL (mE hs) (qE z h) S)) (psA z h (amtsL (mE hs) (qE z h) S)) S.d kt kg
  sign : SignOk z (psA z h (amtsL (mE hs) (qE z h) S))
end Rim
namespace L2
open PySem PySem.Spec PyProof.Rows
end L2
namespace L2
open PySem
theorem pass10 {X : Cx} {P : Program} {w : World} : Passes (CX1 P w) X E0 := fun _ _ _ _ _ _ _ ⟨_, _, _, _, _, _, _, h⟩ => h.elim
end L2
namespace L2
open PySem
end L2
namespace Rim
open PySem L2 Fr
theorem depth_ints : ∀ ns : List Int, PyData.depthAll (ns.map PyData.int) <= 3
  | [] => by simp [PyData.depthAll]
  | n :: r => by
    rw [List.map_cons, PyData.depthAll]
    exact Nat.max_le.mpr ⟨by simp [PyData.depth], depth_ints r⟩
theorem depth_house (h : House) : (dHouse h).depth <= 8 := by
  unfold dHouse dInts
  have h1 := depth_ints h.1
  have h2 := depth_ints h.2
  rw [PyData.depth, PyData.depthAll, PyData.depth, PyData.depthAll, PyData.depth, PyData.depthAll]
  lia
theorem depth_book : ∀ hs : List House, PyData.depthAll (hs.map dHouse) <= 8
  | [] => by simp [PyData.depthAll]
  | h :: r => by
    rw [List.map_cons, PyData.depthAll]
    exact Nat.max_le.mpr ⟨depth_house h, depth_book r⟩
theorem log_nat {j : Nat} (h : j <= 1000) : ((j : Int)).natAbs.log2 < 1920 := by
  rw [Int.natAbs_natCast]
  by_cases h0 : j = 0
  . subst h0; decide
  . exact Nat.lt_trans ((Nat.log2_lt h0).mpr (Nat.lt_of_le_of_lt h (show 1000 < 2 ^ 10 by decide))) (by decide)
end Rim
namespace Rim
open PySem L2 Fr
section
variable {P : Program} {w : World} {K : W.Frag} {mg : Str -> Option Value} {base : Heap} {f Pt d : Addr} {fd : FuncData} {n : Nat} {C : Addr}
end
end Rim
namespace Rim
open PySem L2 Fr
section
variable {P : Program} {w : World} {K : W.Frag} {mg : Str -> Option Value} {base : Heap} {f Pt d : Addr} {fd : FuncData} {n : Nat} {C : Addr}
end
end Rim
namespace Rim
open PySem L2 Fr
structure ToldG (z : Str) (hs : List House) (h : House) (S : Lp.Bo) (kt kg : Nat) (ws : List Int) : Prop where
  lw : ws.length = hs.length
  nn : ∀ x ∈ ws, 0 <= x /\ Big 20000 x
  size : SizeOk z ws.sum (S.T (mE hs) (qE z h))
  takes : ∀ j, j < kt -> colS hs ws 0 j <= h.1.getD j 0 * S.T (mE hs) (qE z h)
  gives : ∀ j, j < kg -> h.2.getD j 0 * S.d <= colS hs ws 1 j
  pos : 0 < S.T (mE hs) (qE z h)
  le : S.T (mE hs) (qE z h) <= S.d
  fair : ∀ g ∈ hs, earn g (pgA h (amtsL (mE hs) (qE z h) S)) (psA z h (amtsL (mE hs) (qE z h) S)) <= pay g (ptA h (amtsL (mE hs) (qE z h) S))
  pays : pay h (ptA h (amtsL (mE hs) (qE z h) S)) - psA z h (amtsL (mE hs) (qE z h) S) = S.d
  gvs : dot h.2 (pgA h (amtsL (mE hs) (qE z h) S)) = S.T (mE hs) (qE z h)
  pr : PrN (ptA h (amtsL (mE hs) (qE z h) S)) (pgA h (amtsL (mE hs) (qE z h) S)) (psA z h (amtsL (mE hs) (qE z h) S)) (S.T (mE hs) (qE z h)) kt kg
  sign : SignOk z (psA z h (amtsL (mE hs) (qE z h) S))
end Rim
namespace Rim
open PySem L2 Fr
section
variable {P : Program} {w : World} {K : W.Frag} {mg : Str -> Option Value} {base : Heap} {f Pt d CN : Addr} {fd : FuncData} {n : Nat} {C : Addr}
end
end Rim
namespace Lp
section
variable {m q : Nat} {A : Nat -> Nat -> Int} {b c : Nat -> Int} {S : Bo}
end
end Lp
namespace Rim
open PySem L2 Fr
section
variable {P : Program} {w : World} {K : W.Frag} {mg : Str -> Option Value} {base : Heap} {f Pt d : Addr} {fd : FuncData} {n : Nat} {C : Addr}
end
end Rim
namespace Rim
open PySem L2 Fr
section
variable {P : Program} {w : World} {K : W.Frag} {mg : Str -> Option Value} {base : Heap} {f Pt d : Addr} {fd : FuncData} {n : Nat} {C : Addr}
end
end Rim
namespace Rim
open PySem L2 Fr
structure RimAt (z : Str) (hs : List House) (h : House) (pt pg : List Int) (ps : Int) : Prop where
  lt : pt.length = h.1.length
  lg : pg.length = h.2.length
  tp : ∀ x ∈ pt, 0 < x
  gp : ∀ x ∈ pg, 0 < x
  sign : SignOk z ps
  fair : ∀ g ∈ hs, earn g pg ps <= pay g pt
  firm : earn h pg ps = pay h pt
section
variable {z : Str} {hs : List House} {h : House} {S : Lp.Bo} {kt kg i : Nat}
end
end Rim
namespace L2
open PySem
section
variable {fr : List Nat} {tc : TT} {σ : St} {H1 : Hp} {p : Addr} {D : Hp -> Prop} {P : Addr} {pos : Pos} {qual : Str} {n : Nat}
end
end L2
namespace Rim
open PySem L2 Fr
open Classical in
section
variable {P : Program} {w : World} {K : W.Frag} {mg : Str -> Option Value} {base : Heap} {f Pt d : Addr} {fd : FuncData} {n : Nat} {C : Addr}
end
end Rim
namespace Rim
open PySem L2 Fr
structure Mx (z : Str) (hs : List House) (ws : List Int) (D : Int) : Prop where
  lw : ws.length = hs.length
  nn : ∀ x ∈ ws, 0 <= x
  d : 0 < D
  size : SizeOk z ws.sum D
structure Px (z : Str) (hs : List House) (kt kg : Nat) (pt pg : List Int) (ps : Int) : Prop where
  lt : pt.length = kt
  lg : pg.length = kg
  tn : ∀ x ∈ pt, 0 <= x
  gn : ∀ x ∈ pg, 0 <= x
  sign : SignOk z ps
  fair : ∀ g ∈ hs, earn g pg ps <= pay g pt
section
variable {z : Str} {hs : List House} {h : House} {kt kg : Nat} {ws pt pg : List Int} {D ps : Int}
structure Shr (z : Str) (hs : List House) (h : House) (kt kg : Nat) (A B : Int) (ws : List Int) (D : Int) : Prop where
  m : Mx z hs ws D
  t : ∀ j, j < kt -> colS hs ws 0 j * B <= h.1.getD j 0 * A * D
  g : ∀ j, j < kg -> h.2.getD j 0 * D <= colS hs ws 1 j
structure Gro (z : Str) (hs : List House) (h : House) (kt kg : Nat) (A B : Int) (ws : List Int) (D : Int) : Prop where
  m : Mx z hs ws D
  t : ∀ j, j < kt -> colS hs ws 0 j <= h.1.getD j 0 * D
  g : ∀ j, j < kg -> h.2.getD j 0 * A * D <= colS hs ws 1 j * B
def IsShare (z : Str) (hs : List House) (h : House) (kt kg : Nat) (A B : Int) : Prop := 0 < B /\ (∃ ws D, Shr z hs h kt kg A B ws D) /\ ∃ pt pg ps, Px z hs kt kg pt pg ps /\ 0 < pay h pt /\ earn h pg ps * B = A * pay h pt
end
end Rim
namespace Rim
open PySem L2 Fr
section
variable {z : Str} {hs : List House} {h : House} {kt kg i : Nat}
end
end Rim
namespace Rim
open PySem L2 Fr
section
variable {z : Str} {hs hs' : List House} {h : House} {kt kg : Nat} {far : Int}
end
end Rim
namespace Rim
open PySem L2 Fr
theorem pss_dead {X : Cx} {l : List Stmt} : PSs X l fun _ _ _ => False := fun _ _ _ _ _ _ h => h.elim
structure ShU (z : Str) (hs : List House) (h : House) (kt kg : Nat) (A B : Int) : Prop where
  s : IsShare z hs h kt kg A B
  a : Big 20000 A
  p : 0 < A
  b : 0 < B
  c : B < 2 ^ 8000
section
variable {P : Program} {w : World} {K : W.Frag} {mg : Str -> Option Value} {base : Heap} {f Pt d CN CB : Addr} {fd : FuncData} {n : Nat} {C : Addr}
end
end Rim
namespace Rim
open PySem L2 Fr
end Rim
namespace L2
open PySem PySem.W
theorem exc_of {K : Frag} {C : Addr} {B : List Value} {nid : String} (q : excIn K C B nid = true) : ∃ nm qn N bs bm hdct sn sub ab col dd k0 k1 k2 k3 k5, K.lookup C = some (excClassObj nm qn C N bs bm hdct sn sub ab col dd k0 k1 k2 k3 k5 nid) /\ nsOkIn K N = true /\ nsIn K N "__init__" = some none /\ tailIn K B bm = true := by
  unfold excIn at q
  split at q
  . rename_i e1 e2 e3 lk
    split at q
    . rename_i C' bm w0 w1 w2 w3 nn w5 em es
      simp only [Bool.and_eq_true, beq_iff_eq, Bool.not_eq_true'] at q
      obtain ⟨⟨⟨⟨⟨u1, u2⟩, u3⟩, u4⟩, u5⟩, u6⟩ := q
      cases u1
      cases u2
      obtain ⟨n1, n2, n3, n4, n5, n6, n7, n8, n9, n10, n11⟩ := e2
      obtain ⟨ls⟩ := e3
      replace em : n3 = _ := em
      replace u3 : n11 = false := u3
      replace es : ls = _ := es
      subst em u3 es
      exact ⟨n1, n5, n4, n2, bm, n6, n7, n8, n9, n10, e1, w0, w1, w2, w3, w5, lk, u5, u6, u4⟩
    . cases q
  . cases q
def FunI (K : Frag) (x qual : Str) (st : Stmt) (f : Addr) (cd : Value) : Prop := ∃ oc od kV dc pm an ct sl, K.lookup f = some ⟨oc, od, .func (fnOf x qual (defArgs st) (defBody st) (defScope st) .none kV dc pm an cd ct), sl⟩ /\ codeIn K cd qual = true /\ keepIn K (.ref f) = true
theorem fun_in {K : Frag} {x qual : Str} {st : Stmt} {f : Addr} {cd oc kV dc pm ct : Value} {od an : Option Addr} {sl : Array (Option Value)} (l : K.lookup f = some ⟨oc, od, .func (fnOf x qual (defArgs st) (defBody st) (defScope st) .none kV dc pm an cd ct), sl⟩) (c : codeIn K cd qual = true) (k : keepIn K (.ref f) = true) : FunI K x qual st f cd := ⟨_, _, _, _, _, _, _, _, l, c, k⟩
theorem FunI.fn {K : Frag} {x qual : Str} {st : Stmt} {f : Addr} {cd : Value} (h : FunI K x qual st f cd) : ∃ fd, Fun K x qual st f fd /\ fd.code = cd /\ keepIn K (.ref f) = true := by
  obtain ⟨_, _, _, _, _, _, _, _, l, c, k⟩ := h
  exact ⟨_, fun_mk l c k, rfl, k⟩
theorem Fun.b1 {K : Frag} {x qual : Str} {st : Stmt} {f : Addr} {fd : FuncData} {p0 : Str} (F : Fun K x qual st f fd) (h : ∀ (kV doc pm : Value) (an : Option Addr) (cdv ct v0 : Value), bindArgs (fnOf x qual (defArgs st) (defBody st) (defScope st) .none kV doc pm an cdv ct) ⟨[v0], []⟩ = pure [(p0, v0)]) : Binds K fd [p0] [] :=
  F.binds fun a b c d e g us hl => match us, hl with | [v0], _ => h a b c d e g v0
theorem Fun.b2 {K : Frag} {x qual : Str} {st : Stmt} {f : Addr} {fd : FuncData} {p0 p1 : Str} (F : Fun K x qual st f fd) (h : ∀ (kV doc pm : Value) (an : Option Addr) (cdv ct v0 v1 : Value), bindArgs (fnOf x qual (defArgs st) (defBody st) (defScope st) .none kV doc pm an cdv ct) ⟨[v0, v1], []⟩ = pure [(p0, v0), (p1, v1)]) : Binds K fd [p0, p1] [] :=
  F.binds fun a b c d e g us hl => match us, hl with | [v0, v1], _ => h a b c d e g v0 v1
theorem Fun.b3 {K : Frag} {x qual : Str} {st : Stmt} {f : Addr} {fd : FuncData} {p0 p1 p2 : Str} (F : Fun K x qual st f fd) (h : ∀ (kV doc pm : Value) (an : Option Addr) (cdv ct v0 v1 v2 : Value), bindArgs (fnOf x qual (defArgs st) (defBody st) (defScope st) .none kV doc pm an cdv ct) ⟨[v0, v1, v2], []⟩ = pure [(p0, v0), (p1, v1), (p2, v2)]) : Binds K fd [p0, p1, p2] [] :=
  F.binds fun a b c d e g us hl => match us, hl with | [v0, v1, v2], _ => h a b c d e g v0 v1 v2
theorem Fun.b4 {K : Frag} {x qual : Str} {st : Stmt} {f : Addr} {fd : FuncData} {p0 p1 p2 p3 : Str} (F : Fun K x qual st f fd) (h : ∀ (kV doc pm : Value) (an : Option Addr) (cdv ct v0 v1 v2 v3 : Value), bindArgs (fnOf x qual (defArgs st) (defBody st) (defScope st) .none kV doc pm an cdv ct) ⟨[v0, v1, v2, v3], []⟩ = pure [(p0, v0), (p1, v1), (p2, v2), (p3, v3)]) : Binds K fd [p0, p1, p2, p3] [] :=
  F.binds fun a b c d e g us hl => match us, hl with | [v0, v1, v2, v3], _ => h a b c d e g v0 v1 v2 v3
end L2
namespace Rim
open PySem L2 Fr
structure ErrM (K : W.Frag) (mg : Str -> Option Value) (cE cB cH cR cT cM cL : Addr) : Prop where
  mE : mg "RimError" = some (.ref cE)
  mB : mg "NoBook" = some (.ref cB)
  mH : mg "NoHouse" = some (.ref cH)
  mR : mg "NoRow" = some (.ref cR)
  mT : mg "NoText" = some (.ref cT)
  mM : mg "TooMany" = some (.ref cM)
  mL : mg "NothingLeft" = some (.ref cL)
  kE : ExcK K cE
structure KinOf (K : W.Frag) (c cE cB cH cR cT cM cL : Addr) (b1 b2 b3 b4 b5 b6 : Bool) : Prop where
  k : ExcK K c
  sub : W.mroIn K c (.ref cE) = some true
  i1 : W.kitOne K (.ref c) (.ref cB) = some b1
  i2 : W.kitOne K (.ref c) (.ref cH) = some b2
  i3 : W.kitOne K (.ref c) (.ref cR) = some b3
  i4 : W.kitOne K (.ref c) (.ref cT) = some b4
  i5 : W.kitOne K (.ref c) (.ref cM) = some b5
  i6 : W.kitOne K (.ref c) (.ref cL) = some b6
  v : W.kitOne K (.ref c) (.type "ValueError") = some true
abbrev kinL (b1 b2 b3 b4 b5 b6 : Bool) : List V := [.bl b1, .bl b2, .bl b3, .bl b4, .bl b5, .bl b6, .bl true]
section
variable {P : Program} {w : World} {K : W.Frag} {mg : Str -> Option Value} {base : Heap} {f g : Addr} {fd gd : FuncData} {n : Nat}
def spKinG (K : W.Frag) (cE cB cH cR cT cM cL : Addr) : Sp := fun vs H Q _ => ∃ (ea c : Addr) (b1 b2 b3 b4 b5 b6 : Bool), vs = [.ref ea] /\ H ea = some (ExcO ea c) /\ KinOf K c cE cB cH cR cT cM cL b1 b2 b3 b4 b5 b6 /\ ∀ (r : Addr) (H' : Hp), Same H H' -> H' r = some (.lst (kinL b1 b2 b3 b4 b5 b6)) -> Q (.ref r) H'
theorem scKin : FnScope ["e", "kin"] ["e"] (defScope s__law_a_kin) := ⟨rfl, rfl, rfl, by decide +kernel, rfl, by decide +kernel, by decide +kernel⟩
theorem boot_ve : bootBuiltins "ValueError" = some (.type "ValueError") := by decide +kernel
set_option maxHeartbeats 4000000 in
theorem ok_kinG {cE cB cH cR cT cM cL : Addr} (F : Fun K "_law_a_kin" "_law_a_kin" s__law_a_kin f fd) (T : Nones mg) (R : ErrM K mg cE cB cH cR cT cM cL) : FnU P w K mg base (n + 1) f fd ["e"] (spKinG K cE cB cH cR cT cM cL) := by
  refine F.okU scKin (fun vs H Q E h => ?_) (fun cdv A outer s H vs Q E hr h => ?_)
  . obtain ⟨ea, c, b1, b2, b3, b4, b5, b6, rfl, _⟩ := h
    rfl
  obtain ⟨ea, c, b1, b2, b3, b4, b5, b6, rfl, he, M, q⟩ := h
  refine ⟨_, pss_cons (ps_set (i := 1) scKin.nd rfl (Or.inl rfl) (pe_lst (pa_cons (pe_callB call_isinstX rfl T.isi PyProof.Rows.boot_isinstance (pa_cons (pv 0) (pa_cons (pe_glob (v := .ref cB) rfl R.mB rfl) pa_nil)))
      (pa_cons (pe_callB call_isinstX rfl T.isi PyProof.Rows.boot_isinstance (pa_cons (pv 0) (pa_cons (pe_glob (v := .ref cH) rfl R.mH rfl) pa_nil)))
      (pa_cons (pe_callB call_isinstX rfl T.isi PyProof.Rows.boot_isinstance (pa_cons (pv 0) (pa_cons (pe_glob (v := .ref cR) rfl R.mR rfl) pa_nil)))
      (pa_cons (pe_callB call_isinstX rfl T.isi PyProof.Rows.boot_isinstance (pa_cons (pv 0) (pa_cons (pe_glob (v := .ref cT) rfl R.mT rfl) pa_nil))) pa_nil))))))
    (pss_one (ps_ret (pe_op op_cat (pv 1) (pe_lst (pa_cons (pe_callB call_isinstX rfl T.isi PyProof.Rows.boot_isinstance (pa_cons (pv 0) (pa_cons (pe_glob (v := .ref cM) rfl R.mM rfl) pa_nil)))
      (pa_cons (pe_callB call_isinstX rfl T.isi PyProof.Rows.boot_isinstance (pa_cons (pv 0) (pa_cons (pe_glob (v := .ref cL) rfl R.mL rfl) pa_nil)))
      (pa_cons (pe_callB call_isinstX rfl T.isi PyProof.Rows.boot_isinstance (pa_cons (pv 0) (pa_cons (pe_bltn (v := .ty "ValueError") rfl T.ve boot_ve rfl) pa_nil))) pa_nil))))))), ?_⟩
  refine ⟨_, rfl, ea, c, _, b1, rfl, he, M.k, fun u ru => by cases ru; exact M.i1, _, rfl, ea, c, _, b2, rfl, he, M.k, fun u ru => by cases ru; exact M.i2, _, rfl, ea, c, _, b3, rfl, he, M.k, fun u ru => by cases ru; exact M.i3,
    _, rfl, ea, c, _, b4, rfl, he, M.k, fun u ru => by cases ru; exact M.i4, (by show 4 <= sizeLine; decide), fun l1 hl1 => ?_⟩
  have s1 := Same.new hl1 (.lst [V.bl b1, V.bl b2, V.bl b3, V.bl b4])
  have he1 := s1 _ _ he
  refine ⟨_, rfl, _, rfl, ea, c, _, b5, rfl, he1, M.k, fun u ru => by cases ru; exact M.i5, _, rfl, ea, c, _, b6, rfl, he1, M.k, fun u ru => by cases ru; exact M.i6, _, rfl, ea, c, _, true, rfl, he1, M.k, fun u ru => by cases ru; exact M.v, (by show 3 <= sizeLine; decide), fun l2 hl2 => ?_⟩
  have s2 := Same.new hl2 (.lst [V.bl b5, V.bl b6, V.bl true])
  refine ⟨l1, l2, _, _, rfl, rfl, s2 _ _ upd_same, upd_same, (by show 7 <= sizeLine; decide), fun l3 hl3 => ?_⟩
  exact q l3 _ (s1.trans (s2.trans (Same.new hl3 _))) upd_same
abbrev dueL (x : Str) : List V := kinL (decide (V.str "NoBook" = V.str x)) (decide (V.str "NoHouse" = V.str x)) (decide (V.str "NoRow" = V.str x)) (decide (V.str "NoText" = V.str x)) (decide (V.str "TooMany" = V.str x)) (decide (V.str "NothingLeft" = V.str x))
def spDueG : Sp := fun vs H Q _ => ∃ x : Str, vs = [.str x] /\ ∀ (r : Addr) (H' : Hp), Same H H' -> H' r = some (.lst (dueL x)) -> Q (.ref r) H'
theorem scDue : FnScope ["name", "names"] ["name"] (defScope s__law_due_kin) := ⟨rfl, rfl, rfl, by decide +kernel, rfl, by decide +kernel, by decide +kernel⟩
theorem ndDue : (["one", "name"] : List Str).Nodup := by decide +kernel
theorem ok_dueG (F : Fun K "_law_due_kin" "_law_due_kin" s__law_due_kin f fd) (T : Nones mg) : FnOk P w K mg base CX0 (n + 1) f fd ["name"] spDueG := by
  refine F.ok scDue (fun vs H Q E h => ?_) (fun cdv A outer s H vs Q E hr h => ?_)
  . obtain ⟨x, rfl, _⟩ := h
    rfl
  obtain ⟨nm, rfl, q⟩ := h
  refine ⟨_, pss_cons (ps_set (i := 1) scDue.nd rfl (Or.inl rfl) (pe_lst (pa_cons pe_str (pa_cons pe_str (pa_cons pe_str (pa_cons pe_str (pa_cons pe_str (pa_cons pe_str pa_nil))))))))
    (pss_one (ps_ret (pe_op op_cat (pe_lc ["one"] [0] rfl (pi_list (pv 1)) (fun _ _ _ _ => pg_name (i := 0) ndDue rfl (Or.inl rfl)) (fun _ _ _ _ => pe_cmpR op_eq (pv 0) (pv 1) (nomark _))) (pe_lst (pa_cons pe_bl pa_nil))))), ?_⟩
  refine ⟨(by show 6 <= sizeLine; decide), fun l1 hl1 => ?_⟩
  have s1 := Same.new hl1 (.lst [.str "NoBook", .str "NoHouse", .str "NoRow", .str "NoText", .str "TooMany", .str "NothingLeft"])
  refine ⟨_, rfl, l1, rfl, ⟨_, SqL.of upd_same⟩, fun p hp => ?_⟩
  refine lc_map (itIs_list (SqL.of upd_same)) hp (by decide) (fun x => .bl (decide (x = .str nm))) (fun i x H' N hx e hN => ?_) ?_
  . have hy : ∃ y, x = .str y := by
      have := List.mem_of_getElem? hx
      simp only [List.mem_cons, List.not_mem_nil, or_false] at this
      rcases this with rfl | rfl | rfl | rfl | rfl | rfl <;> exact ⟨_, rfl⟩
    obtain ⟨y, rfl⟩ := hy
    exact ⟨Wk.set (by decide), _, rfl, _, rfl, rfl, hN⟩
  . have s2 := Same.new hp (.lst (List.map (fun x => V.bl (decide (x = V.str nm))) [.str "NoBook", .str "NoHouse", .str "NoRow", .str "NoText", .str "TooMany", .str "NothingLeft"]))
    refine ⟨(by show 1 <= sizeLine; decide), fun l2 hl2 => ?_⟩
    have s3 := Same.new hl2 (.lst [V.bl true])
    refine ⟨p, l2, _, _, rfl, rfl, s3 _ _ upd_same, upd_same, (by show 7 <= sizeLine; decide), fun l3 hl3 => ?_⟩
    exact q l3 _ (s1.trans (s2.trans (s3.trans (Same.new hl3 _)))) (by rw [upd_same]; congr 2)
structure CalU (P : Program) (w : World) (K : W.Frag) (mg : Str -> Option Value) (base : Heap) (n : Nat) (x : Str) (ps : List Str) (sp : Sp) (fa : Addr) (d : FuncData) : Prop where
  ok : FnU P w K mg base n fa d ps sp
  b : Binds K d ps []
  k : W.keepIn K (.ref fa) = true
  m : mg x = some (.ref fa)
def dKinG (b1 b2 b3 b4 b5 b6 : Bool) : PyData := .list [.bool b1, .bool b2, .bool b3, .bool b4, .bool b5, .bool b6, .bool true]
theorem kin_dpG {K : W.Frag} {H : Hp} {a : Addr} {b1 b2 b3 b4 b5 b6 : Bool} (h : H a = some (.lst (kinL b1 b2 b3 b4 b5 b6))) : Dp K H (.ref a) (dKinG b1 b2 b3 b4 b5 b6) :=
  .lst (SqL.of h) (.cons (.bl _) (.cons (.bl _) (.cons (.bl _) (.cons (.bl _) (.cons (.bl _) (.cons (.bl _) (.cons (.bl _) .nil)))))))
end
end Rim
namespace L2
open PySem PySem.Spec PyProof.Rows
section
variable {M : Model} {A : Around} {E : Value -> Shared -> Prop} {s : Shared} {B : Heap} {l outer : List Env} {env : Env} {L e : Addr} {cls a0 fl : Value} {Q : Unit -> Shared -> Prop}
theorem UpToSlots.refl (h : Heap) : h.UpToSlots h := fun _ o e _ => ⟨o.slots, e⟩
theorem rec_other {h : Heap} {T : Addr} {oT : Obj} {ts : Array Value} {g : Obj -> Obj} (hT : h.get? T = some oT) (hd : oT.data = .fields ts) {b : Addr} {o : Obj} (q : h.get? b = some o) (hn : ∀ vs, o.data ≠ .fields vs) : (h.update T g).get? b = some o := by
  have : T ≠ b := fun z => by
    rw [<- z, hT] at q
    cases q
    exact hn ts hd
  rw [Heap.get?_update_other _ _ this]; exact q
theorem rec_stays {h : Heap} {T : Addr} {g : Obj -> Obj} (k : B.StaysIn h) (hn : B.get? T = none) : B.StaysIn (h.update T g) := fun b o q => by
  have : T ≠ b := fun z => by rw [<- z, hn] at q; cases q
  rw [Heap.get?_update_other _ _ this]; exact k b o q
theorem flight_any (fr : Option Addr) (k1 : B.StaysIn s.heap) (k2 : s.heap.FunFrames B l) (k3 : s.heap.TracedAtW B e cls a0 fl)
    (h : ∀ h', B.StaysIn h' -> h'.FunFrames B l -> h'.TracedAtW B e cls a0 (fr.elim Value.none fun f => rawInt f) -> s.heap.UpToSlots h' -> Q () { s with heap := h' }) : wpAny M A (setFlight (.ref e) fr) Q E s := by
  obtain ⟨oe, vs, T, oT, ts, he, hc, hd, h1, hn, ne, hT, hdT, h3⟩ := k3
  have sz : 3 < ts.size := (Array.getElem?_eq_some_iff.mp h3).1
  unfold setFlight
  refine wpAny_bind (wpAny_field he hd h1 ?_)
  rw [if_pos (by simp)]
  refine wpAny_setField hT hdT sz (h _ (rec_stays k1 hn) (k2.of_keeps fun b o q z => ⟨o, rec_other hT hdT q z, rfl⟩) ?_ fun b o q z => ⟨o.slots, rec_other hT hdT q z⟩)
  refine ⟨oe, vs, T, _, _, ?_, hc, hd, h1, hn, ne, Heap.get?_update_self _ hT (Obj.isFreed_of_fields (Obj.data_mapFields hdT _)), Obj.data_mapFields hdT _, by simp [sz]⟩
  rw [Heap.get?_update_other _ _ ne]; exact he
theorem note_any (hfr : A.frames = some (env :: outer)) (hf : env.frame = some L) (k1 : B.StaysIn s.heap) (kn : B.get? e = none) (k2 : s.heap.FunFrames B (env :: outer)) (k3 : s.heap.TracedAtW B e cls a0 fl)
    (h : ∀ h', Heap.HeldW B (env :: outer) e cls a0 L h' -> s.heap.UpToSlots h' -> Q () { s with heap := h' }) : wpAny M A (noteFrame (.ref e) env) Q E s := by
  by_cases ef : (fl == rawInt L) = true
  . have ef' : fl = rawInt L := by
      simpa using ef
    subst ef'
    exact wpAny_noteFrame_againW hf k3 (h s.heap ⟨k1, kn, k2, k3⟩ (UpToSlots.refl _))
  obtain ⟨oe, vs, T, oT, ts, he, ⟨hc, h0⟩, hd, h1, hn, ne, hT, hdT, h3⟩ := k3
  subst hc
  have sz : 3 < ts.size := (Array.getElem?_eq_some_iff.mp h3).1
  unfold noteFrame
  simp only [hf]
  refine wpAny_bind (wpAny_field he hd h1 ?_)
  rw [if_pos (by simp)]
  refine wpAny_bind (wpAny_field hT hdT h3 ?_)
  rw [if_neg ef]
  refine wpAny_bind (wpAny_setField hT hdT sz ?_)
  refine wpAny_entryW hfr (k2.of_keeps fun b o q z => ⟨o, rec_other hT hdT q z, rfl⟩) hf (by rw [Heap.get?_update_other _ _ ne]; exact he) (rec_stays k1 hn) kn hd (Array.getElem?_eq_some_iff.mp h1).1 h0 fun h' N => ?_
  exact h h' ⟨N.1, kn, N.2.1, N.2.2.1⟩ fun b o q z => N.2.2.2 b o (rec_other hT hdT q z) z
theorem leave_any (hfr : A.frames = some (env :: outer)) (hf : env.frame = some L) (k1 : B.StaysIn s.heap) (kn : B.get? e = none) (k2 : s.heap.FunFrames B (env :: outer)) (k3 : s.heap.TracedAtW B e cls a0 fl)
    (h : ∀ h', B.FlyingW outer e cls a0 h' -> s.heap.UpToSlots h' -> Q () { s with heap := h' }) : wpAny M A (leaving env (.ref e)) Q E s := by
  unfold leaving
  refine wpAny_bind (note_any hfr hf k1 kn k2 k3 fun h1 ⟨c1, c2, c3, c4⟩ u1 => ?_)
  refine flight_any (s := { s with heap := h1 }) none c1 c3 c4 fun h2 d1 d2 d3 u2 => h h2 ⟨d1, kn, d2.2.2, d3⟩ fun b o q z => ?_
  obtain ⟨sl, q1⟩ := u1 b o q z
  obtain ⟨sl2, q2⟩ := u2 b { o with slots := sl } q1 z
  exact ⟨sl2, q2⟩
theorem passOn_any {what : String} {cenv : Env} (k1 : B.StaysIn s.heap) (k2 : s.heap.FunFrames B l) (k3 : s.heap.TracedAtW B e cls a0 fl)
    (h : ∀ h' fl', B.StaysIn h' -> h'.FunFrames B l -> h'.TracedAtW B e cls a0 fl' -> s.heap.UpToSlots h' -> E (.ref e) { s with heap := h' }) : wpAny M A (PySem.passOn (α := Value) what (.ref e) cenv) (fun _ _ => False) E s := by
  obtain ⟨oe, vs, T, oT, ts, he, hc, hd, h1, hn, ne, hT, hdT, h3⟩ := id k3
  unfold PySem.passOn
  refine wpAny_bind (wpAny_field he hd h1 ?_)
  rw [if_neg (by simp)]
  exact wpAny_bind (flight_any cenv.frame k1 k2 k3 fun h' d1 d2 d3 u => wpAny_throw (h h' _ d1 d2 d3 u))
end
theorem compLoop_X {prog : Program} {w : World} {A : Around} {R : Result -> Shared -> Prop} {s : Shared} {elt target iter : Expr} {scope : Scope} {pos : Pos} {it acc : Value} {env : Env} (I : Nat -> Shared -> Prop)
    (turn : ∀ n s, I n s -> wpAny (model prog w) A (pyNext it) (fun r s₁ => match r with
      | none => R (.ok .next) s₁
      | some v => wpAny (model prog w) A (letOwnedTupleGo target it v) (fun _ s₀ => wpAny (model prog w) A (assign target env v) (fun _ s₂ =>
          wpAny (model prog w) A (eval elt env) (fun x s₄ =>
              wpAny (model prog w) A (call (.builtin "list.append") [acc, x]) (fun _ s₅ => ∃ m, m < n /\ I m s₅) (fun _ _ => False) s₄) (notedBy (model prog w) A env fun x s' => R (.error x) s') s₂) (fun _ _ => False) s₀) (fun _ _ => False) s₁) (fun _ _ => False) s)
    (n : Nat) (h : I n s) :
    codeAny (model prog w) A (.compLoop (.ListComp elt [⟨target, iter, [], 0⟩] scope pos) 0 it acc env) R s := by
  refine codeAny_loop rfl I (fun n s hI => ?_) n h
  show wpAny _ A ((compTurn (.ListComp elt [⟨target, iter, [], 0⟩] scope pos) 0 it acc env).onRaise (fun x => do noteFrame x env; theTreesLotGoes x)) _ _ s
  refine wpAny_noted ?_
  rw [compTurn_list]
  refine wpAny_bind (wpAny_standAt (wpAny_bind (wpAny_mono (turn n s hI) (fun r s₁ h₁ => ?_) fun _ _ h' => h'.elim)))
  cases r with
  | none => exact wpAny_pure h₁
  | some v =>
    refine wpAny_bind (wpAny_mono h₁ (fun _ s₀ h₀ => ?_) fun _ _ h' => h'.elim)
    refine wpAny_bind (wpAny_mono h₀ (fun _ s₂ h₂ => ?_) fun _ _ h' => h'.elim)
    refine wpAny_bind (wpAny_tests_nil ?_)
    exact wpAny_bind (wpAny_bind (wpAny_mono h₂ (fun x s₄ h₄ => wpAny_bind (wpAny_mono h₄ (fun _ s₅ h₅ => wpAny_pure (wpAny_pure ⟨rfl, h₅⟩)) fun _ _ h' => h'.elim)) fun _ _ h' => h'))
section
variable {X : Cx} {os : List Str} {fr : List Nat} {scope : Scope} {elt tg iter : Expr} {pos : Pos} {wi : TI} {g : TG} {te : TE} {E : XK}
structure Leaves (X : Cx) (E : XK) : Prop where
  st : X.stack = X.env :: X.outer
  fr : X.env.frame = some X.env.locals
  ex : X.ex = []
  xe : ∀ e s', wpAny (model X.prog X.w) X.A (leaving X.env e) (fun _ s'' => CX1 X.prog X.w X.outer X.H₀ X.s₀ E e s'') (fun e' s'' => CX1 X.prog X.w X.outer X.H₀ X.s₀ E e' s'') s' -> X.xe e s'
theorem out_of_block {pins : List (Addr × Obj)} {σ : St} {H H' : Hp} {s s' : Shared} {ea t D C : Addr} {B : Heap} {acc : Value} {use : Option (Value -> Sem Unit)} {Q : Value -> Shared -> Prop} {m0 : Str -> Option Value} (Lv : Leaves X E) (I : Inv X pins σ H s) (hC : X.s₀.heap.objs.size <= C) (hCf : C ∉ frs X.stack) (hCH : H' C = none) (hCs : ∃ o, s.heap.get? C = some o) (hN : s'.heap.Ns C m0)
    (F : Fly X.prog X.w X.stack H s ea t D B H' s') (hE : E (.ref D) none H') {cenv : Env} (hce : cenv.frame = X.env.frame) :
    notedBy (model X.prog X.w) X.A cenv (fun x s'' => compPost (model X.prog X.w) X.A X.xe use Q acc C (.error x) s'') (.ref ea) s' := by
  have hfr : X.A.frames = some (X.env :: X.outer) := by rw [<- Lv.st]; exact I.ok.frames
  have Ff := F.fly
  rw [Lv.st] at Ff
  show wpAny _ _ (noteFrame (.ref ea) cenv) _ _ s'
  have en : noteFrame (.ref ea) cenv = noteFrame (.ref ea) X.env := by
    unfold noteFrame PySem.frameOf
    rw [hce]
  rw [en]
  refine wpAny_looks_onW hfr Lv.fr Ff fun h1 Hd1 u1 => ?_
  obtain ⟨c1, c2, c3, c4⟩ := Hd1
  obtain ⟨oC, es, ep, gC, dC, kC, fC⟩ := hN
  obtain ⟨slC, gC1⟩ := u1 C oC gC (fun vs z => by rw [dC] at z; cases z)
  refine ⟨m0, ⟨_, es, ep, gC1, dC, kC, fC⟩, fun h2 sb cenv2 _ => ?_⟩
  have toB2 : ∀ {b o}, B.get? b = some o -> b ≠ C -> (W.hideAll B [C]).get? b = some o := fun q z => W.hideAll_get [C] q (by simpa using z)
  have ofB2 : ∀ {b o}, (W.hideAll B [C]).get? b = some o -> B.get? b = some o := fun q => W.of_hideAll [C] q
  have noC : (W.hideAll B [C]).get? C = none := W.hideAll_none [C] (by simp)
  have neC : ∀ {b o}, (W.hideAll B [C]).get? b = some o -> b ≠ C := fun q z => by rw [z, noC] at q; cases q
  have kn : (W.hideAll B [C]).get? ea = none := by
    cases q : (W.hideAll B [C]).get? ea with
    | none => rfl
    | some o => have := ofB2 q; rw [c2] at this; cases this
  have h2of : ∀ {b o}, h1.get? b = some o -> b ≠ C -> h2.get? b = some o := fun q z => (sb.2 _ z).trans q
  have mem1 : ∀ {b}, b ∈ frs (X.env :: X.outer) -> b ≠ C := fun hb z => hCf (by rw [Lv.st, <- z]; exact hb)
  have k1 : (W.hideAll B [C]).StaysIn h2 := fun b o q => h2of (c1 b o (ofB2 q)) (neC q)
  have k2 : h2.FunFrames (W.hideAll B [C]) (X.env :: X.outer) := by
    have mv : ∀ l : List Env, (∀ b ∈ frs l, b ≠ C) -> h1.FunFrames B l -> h2.FunFrames (W.hideAll B [C]) l := by
      intro l
      induction l with
      | nil => intro _ _; rw [Heap.FunFrames]; trivial
      | cons e0 r ih =>
        intro hm hx
        rw [Heap.FunFrames] at hx ⊢
        obtain ⟨x1, ⟨L0, o0, y1, y2, y3, y4⟩, x3⟩ := hx
        have hL : L0 ∈ frs (e0 :: r) := List.mem_filterMap.mpr ⟨e0, List.mem_cons_self, y1⟩
        refine ⟨x1, ⟨L0, o0, y1, ?_, h2of y3 (hm L0 hL), y4⟩, ih (fun b hb => hm b ?_) x3⟩
        . cases q : (W.hideAll B [C]).get? L0 with
          | none => rfl
          | some o => have := ofB2 q; rw [y2] at this; cases this
        . obtain ⟨e1, z1, z2⟩ := List.mem_filterMap.mp hb
          exact List.mem_filterMap.mpr ⟨e1, List.mem_cons_of_mem _ z1, z2⟩
    exact mv _ (fun b hb => mem1 hb) c3
  have eaC : ea ≠ C := fun z => by
    obtain ⟨oe, vs, T, oT, ts, he, hc, hd, _⟩ := Ff.2.2.2
    rw [z, gC] at he; cases he
    rw [dC] at hd; cases hd
  have k3 : h2.TracedAtW (W.hideAll B [C]) ea (.ref D) (.ref t) (rawInt X.env.locals) := by
    obtain ⟨oe, vs, T, oT, ts, he, hc, hd, x1, hn, ne, hT, hdT, h3⟩ := c4
    have TC : T ≠ C := fun z => by
      rw [z, gC1] at hT; cases hT
      rw [show ({ oC with slots := slC } : Obj).data = oC.data from rfl, dC] at hdT; cases hdT
    refine ⟨oe, vs, T, oT, ts, h2of he eaC, hc, hd, x1, ?_, ne, h2of hT TC, hdT, h3⟩
    cases q : (W.hideAll B [C]).get? T with
    | none => rfl
    | some o => have := ofB2 q; rw [hn] at this; cases this
  refine passOn_any k1 k2 k3 fun h3 fl' d1 d2 d3 u3 => Lv.xe _ _ ?_
  refine leave_any hfr Lv.fr d1 kn d2 d3 fun h4 fl u4 => ?_
  have I' := F.inv I
  have st : ∀ b o, B.get? b = some o -> b ≠ C -> h4.get? b = some o := fun b o q z => fl.1 b o (toB2 q z)
  have s0C : ∀ {b o0}, X.s₀.heap.get? b = some o0 -> b ≠ C := fun q z => by
    have := Heap.lt_size q
    rw [z] at this
    exact absurd this (Nat.not_lt.mpr hC)
  have bin : ∀ b o, s'.heap.get? b = some o -> (∃ o0, X.s₀.heap.get? b = some o0) -> b ∉ frs X.outer -> B.get? b = some o := fun b o q ⟨o0, z⟩ hn => by
    obtain ⟨o1, q1⟩ := I.base.there b o0 z (by rw [Lv.ex]; simp)
    exact F.inb b o q (.inl ⟨⟨o1, q1⟩, not_stack I z hn⟩)
  have hHC : ∀ {b u}, H' b = some u -> b ≠ C := fun q z => by rw [z, hCH] at q; cases q
  have un := I'.base
  rw [Lv.ex] at un
  refine ⟨ea, t, D, W.hideAll B [C], H', rfl, ⟨I'.os, F.bare, un.slots (fun b o q z hn => st b o (bin b o q z hn) (s0C z.choose_spec)) (fun b hb o q => ?_), F.hok.slots (fun b u o e q => st b o (F.inb b o q (.inr (by rw [e]; simp))) (hHC e)), fl, fun b o q z => ?_⟩, hE⟩
  . have hb' : b ∈ frs (X.env :: X.outer) := by
      obtain ⟨e1, z1, z2⟩ := List.mem_filterMap.mp hb
      exact List.mem_filterMap.mpr ⟨e1, List.mem_cons_of_mem _ z1, z2⟩
    obtain ⟨_, o', ho', hd⟩ := Ff.2.2.1.mem hb'
    rw [q] at ho'; cases ho'
    obtain ⟨sl1, q1⟩ := u1 b o q hd
    obtain ⟨sl3, q3⟩ := u3 b _ (h2of q1 (mem1 hb')) hd
    obtain ⟨sl4, q4⟩ := u4 b _ q3 hd
    exact ⟨sl4, q4⟩
  . have : ∃ o1, B.get? b = some o1 /\ b ≠ C := by
      rcases z with ⟨⟨o0, z⟩, hn⟩ | z
      . obtain ⟨o1, q1⟩ := I'.base.there b o0 z (by rw [Lv.ex]; simp)
        exact ⟨o1, bin b o1 q1 ⟨o0, z⟩ hn, s0C z⟩
      . cases e : H' b with
        | none => exact absurd e z
        | some u =>
          obtain ⟨o1, q1⟩ := (F.hok b u e).got
          exact ⟨o1, F.inb b o1 q1 (.inr z), hHC e⟩
    obtain ⟨o1, b1, nc⟩ := this
    have := st b o1 b1 nc
    rw [show h4.get? b = some o from q] at this
    cases this
    exact toB2 b1 nc
theorem lc_blockX {pins : List (Addr × Obj)} {σ : St} {s2 : Shared} {D : Addr -> Hp -> Prop} {itv : Value} {use : Option (Value -> Sem Unit)} {QQ : Value -> Shared -> Prop}
    (Lv : Leaves X E) (hc : X.calm = true) (hg : ∀ C fp s₀ H₀, PG (blk X os fr scope C fp s₀ H₀) tg g) (he : ∀ C fp s₀ H₀ xe, Passes (CX1 X.prog X.w) ((blk X os fr scope C fp s₀ H₀).wish xe) E -> PE ((blk X os fr scope C fp s₀ H₀).wish xe) elt te)
    (hk : scope.kind = .function) (hok : lcOk X.env.scope scope X.N fr = true)
    (h2 : PIE X pins σ tg (fun J H1 => ∀ p, H1 p = none -> lcW os.length fr g te σ J H1 p (D p)) itv s2)
    (hRR : ∀ p C s3 H3 s' H', Inv X pins σ H3 s3 -> s3.heap.objs.size = C -> H' C = none -> Inv X pins σ H' s' -> (∃ m, s'.heap.Ns C m) -> D p H' -> compPost (model X.prog X.w) X.A X.xe use QQ (.ref p) C (.ok .next) s') :
    wpAny (model X.prog X.w) X.A (newList []) (fun acc s₃ => wpAny (model X.prog X.w) X.A (newFunctionEnv scope X.env.globals (clo X.env scope.names []) [] X.env.qual none .none (some X.env)) (fun cenv s₄ =>
      codeAny (model X.prog X.w) X.A (.compStart (.ListComp elt [⟨tg, iter, [], 0⟩] scope pos) 0 itv acc { cenv with scope := relabel scope X.env }) (compPost (model X.prog X.w) X.A X.xe use QQ acc cenv.locals) s₄) X.xe s₃) X.xe s2 := by
  obtain ⟨it, fp, tn, J, H2, e, I2, T, st2, f2, hR⟩ := h2
  subst e
  refine wpAny_newObj_type ?_
  have fresh : H2 s2.heap.objs.size = none := I2.fresh
  obtain ⟨W, ⟨m0, w0⟩, turn⟩ := hR s2.heap.objs.size fresh
  have I3 : Inv X pins σ (upd H2 s2.heap.objs.size (.lst [])) { s2 with heap := s2.heap.push { cls := .type "list", dict := none, data := .seq ([] : List Value).toArray } } := I2.lnew (ys := []) (its := []) (t' := s2.toks) .nil (Nat.zero_le _)
  have obj2 := T.obj _ _ st2
  have ne2 : ∀ b ∈ fp, b ≠ s2.heap.objs.size := fun b hb => by
    obtain ⟨o, e, _⟩ := obj2 b hb
    exact Nat.ne_of_lt (Heap.lt_size e)
  have st3 : tn 0 (s2.heap.push { cls := .type "list", dict := none, data := .seq ([] : List Value).toArray }) := T.keep _ _ _ st2 fun b hb o e => Heap.get?_push_of_some _ e
  have f3 : ∀ b ∈ fp, FpOk X pins (upd H2 s2.heap.objs.size (.lst [])) b := fun b hb => ⟨by rw [upd_ne (ne2 b hb)]; exact (f2 b hb).1, (f2 b hb).2⟩
  generalize hs3 : ({ s2 with heap := s2.heap.push { cls := .type "list", dict := none, data := .seq ([] : List Value).toArray } } : Shared) = s3 at I3 ⊢
  have st3' : tn 0 s3.heap := by rw [<- hs3]; exact st3
  generalize s2.heap.objs.size = p at *
  refine newEnv_cells ?_
  have hns : (pushCells (s3.heap.push { cls := .type "dict", data := .dict #[] }) scope.names).Ns s3.heap.objs.size fun _ => none := (Heap.Ns.new s3.heap (.type "dict")).keeps (pushCells_keeps _ _)
  have hkeep : ∀ b o, s3.heap.get? b = some o -> (pushCells (s3.heap.push { cls := .type "dict", data := .dict #[] }) scope.names).get? b = some o := fun b o e => pushCells_keeps _ _ b o (Heap.get?_push_of_some _ e)
  have hcl := cellsFrom_ok scope.names (s3.heap.push { cls := .type "dict", data := .dict #[] }) (s3.heap.objs.size + 1) [] ⟨fun _ _ hm => (nomatch hm), List.Pairwise.nil⟩ (by rw [Heap.size_push]; exact Nat.le_refl _)
  rw [Heap.size_push] at hcl
  generalize pushCells (s3.heap.push { cls := .type "dict", data := .dict #[] }) scope.names = h₁ at hns hkeep hcl ⊢
  have obj3 : ∀ b ∈ fp, ∃ o, s3.heap.get? b = some o := fun b hb => by
    obtain ⟨o, e, _⟩ := T.obj _ _ st3' b hb
    exact ⟨o, e⟩
  have J0 := I3.block (os := os) (t' := s3.toks) hk hok f3 obj3 (h₁ := h₁) hns hkeep hcl
  have ok0 := J0.ok
  have fpY : ∀ {H' : Hp}, (∀ b ∈ fp, H' b = none) -> ∀ b ∈ fp, FpOk (blk X os fr scope s3.heap.objs.size fp s3 (upd H2 p (.lst []))) [] H' b := fun hn b hb =>
    ⟨hn b hb, (ok0.exf b hb).1, ok0.exfs b hb, .inl hb, (ok0.exf b hb).2, fun q hq => nomatch hq⟩
  have st4 : tn 0 h₁ := T.keep _ _ _ st3' fun b hb o e => hkeep b o e
  have fr0 : ∀ b ∈ fp, upd H2 p (.lst []) b = none := fun b hb => (f3 b hb).1
  have hC0 : X.s₀.heap.objs.size <= s3.heap.objs.size := I3.sz
  -- an exception out of the element
  have pass : Passes (CX1 X.prog X.w) ((blk X os fr scope s3.heap.objs.size fp s3 (upd H2 p (.lst []))).wish (notedBy (model X.prog X.w) X.A (compEnvC scope (bcells X.env scope s3.heap.objs.size) s3.heap.objs.size X.env) fun x s'' => compPost (model X.prog X.w) X.A X.xe use QQ (.ref p) s3.heap.objs.size (.error x) s'')) E := by
    intro pins' σ' H s e s' J' h
    obtain ⟨ea, t, D', B, H', rfl, Fl, hE⟩ := h
    have J := J'.unwish
    have JF : Inv (blk X os fr scope s3.heap.objs.size fp s3 (upd H2 p (.lst []))) pins' σ' H' s' := Fl.inv J
    obtain ⟨mC, nC, _⟩ := JF.loc
    obtain ⟨mC0, nC0, _⟩ := J.loc
    have J0' : Inv (blk X os fr scope s3.heap.objs.size fp s3 (upd H2 p (.lst []))) [] σ' H s := ⟨J.ok, J.os, J.bare, J.base, J.loc, J.cell, J.free, J.freeC, fun q hq => (nomatch hq), J.hok, J.len⟩
    obtain ⟨oC, _, _, gC, _⟩ := nC0
    exact out_of_block Lv (I3.unblock f3 J0') hC0 (fun hm => by
      obtain ⟨_, o, ho, _⟩ := I3.stack.mem hm
      exact Nat.lt_irrefl _ (Heap.lt_size ho)) JF.free ⟨oC, gC⟩ nC Fl hE rfl
  have loop : ∀ s4 : Shared, s4 = { s3 with heap := h₁, toks := s3.toks } →
      codeAny (model X.prog X.w) X.A (.compLoop (.ListComp elt [⟨tg, iter, [], 0⟩] scope pos) 0 (.ref it) (.ref p) (compEnvC scope (bcells X.env scope s3.heap.objs.size) s3.heap.objs.size X.env)) (compPost (model X.prog X.w) X.A X.xe use QQ (.ref p) s3.heap.objs.size) s4 := by
    rintro s4 rfl
    refine compLoop_X (fun n s' => ∃ i ys H', Inv (blk X os fr scope s3.heap.objs.size fp s3 (upd H2 p (.lst []))) [] (blkσ os.length fr σ) H' s' /\ tn i s'.heap /\ (∀ b ∈ fp, H' b = none) /\ W i n ys H') ?_ m0 ⟨0, [], _, J0, st4, fr0, w0⟩
    rintro n s5 ⟨i, ys, H5, I5, st5, fr5, w5⟩
    rcases turn i n ys H5 w5 with ⟨stop', qd⟩ | ⟨go, step⟩
    . refine thn (T.done (blk X os fr scope s3.heap.objs.size fp s3 (upd H2 p (.lst []))) rfl rfl rfl hc i [] s5 _ H5 (fun _ _ => False) I5 (fpY fr5) st5 stop') fun r s6 ⟨hr, I6⟩ => ?_
      subst hr
      exact hRR p _ s3 _ s6 H5 I3 rfl I6.free (I3.unblock f3 I6) (let ⟨m, hm, _⟩ := I6.loc; ⟨m, hm⟩) qd
    . refine thn (T.item (blk X os fr scope s3.heap.objs.size fp s3 (upd H2 p (.lst []))) rfl rfl rfl hc i [] s5 _ H5 (fun _ _ => False) I5 (fpY fr5) st5 go) fun r s6 ⟨u, hr, h6⟩ => ?_
      subst hr
      refine thn h6 fun _ s7 ⟨x, H7, I7, r7, y7, st7, fr7⟩ => ?_
      have I7' := I7.pinned (fpY fr7) (T.obj _ _ st7)
      refine thn (hg _ _ _ _ _ s7 _ H7 x u _ I7' r7 (step x H7 y7)) fun _ s8 ⟨σ8, H8, I8, wk8, q8⟩ => ?_
      have again : ∀ {H' : Hp} {s' : Shared} {zs : List V} {m' : Nat}, Inv (blk X os fr scope s3.heap.objs.size fp s3 (upd H2 p (.lst []))) ([] ++ pinsAt fp s7.heap) σ8 H' s' -> m' < n -> W (i + 1) m' zs H' →
          ∃ m, m < n /\ ∃ i ys H', Inv (blk X os fr scope s3.heap.objs.size fp s3 (upd H2 p (.lst []))) [] (blkσ os.length fr σ) H' s' /\ tn i s'.heap /\ (∀ b ∈ fp, H' b = none) /\ W i m ys H' := fun {H' s' zs m'} J' hm' w' => by
        refine ⟨m', hm', i + 1, zs, H', (J'.weak wk8.1.symm fun i v e => wk8.2 i v e).unpinned, T.keep _ _ _ st7 fun b hb o e => (J'.pin (b, o) (List.mem_append_right _ (List.mem_append_right _ (mem_pinsAt hb e)))).1, fun b hb => ?_, w'⟩
        obtain ⟨o, e, d⟩ := T.obj _ _ st7 b hb
        exact (J'.pin (b, o) (List.mem_append_right _ (List.mem_append_right _ (mem_pinsAt hb e)))).2.1
      refine wpAny_mono (he _ _ _ _ _ pass _ s8 σ8 H8 _ (I8.wish _) q8) (fun y s10 ⟨v, H10, I10', r10, hp10, hz10, m', hm', w10⟩ => ?_) fun _ _ z => z
      have I10 := I10'.unwish
      refine thn (mt_append (X := blk X os fr scope s3.heap.objs.size fp s3 (upd H2 p (.lst []))) _ s10 σ8 H10 (.ref p) [v] (.ref p) [y] (fun _ H' => H' = upd H10 p (.lst (ys ++ [v]))) I10 rfl (.cons r10 .nil) ⟨p, ys, v, rfl, rfl, hp10, hz10, rfl⟩) fun _ s11 ⟨_, H11, I11, _, e11⟩ => ?_
      subst e11
      exact again I11 hm' w10
  exact codeAny_compStart_list (loop _ rfl) (wpAny_mono (T.self _ 0 _ _ _ st4 (loop _ rfl)) (fun _ _ z => z) fun _ _ z => z)
theorem ps_lcX {i : Nat} {x : Str} {pos' spos : Pos} (os : List Str) (fr : List Nat) (Lv : Leaves X E) (hN : X.N.Nodup) (hi' : X.N[i]? = some x) (hx : X.env.scope.names.lookup x = some .local)
    (hc : X.calm = true) (hi : PI X tg iter wi) (hg : ∀ C fp s₀ H₀, PG (blk X os fr scope C fp s₀ H₀) tg g) (he : ∀ C fp s₀ H₀ xe, Passes (CX1 X.prog X.w) ((blk X os fr scope C fp s₀ H₀).wish xe) E -> PE ((blk X os fr scope C fp s₀ H₀).wish xe) elt te)
    (hsw : swapsWith (.ListComp elt [⟨tg, iter, [], 0⟩] scope pos) (some (.Name x pos')) spos.line X.env = pure true := by rfl)
    (hk : scope.kind = .function := by rfl) (hok : lcOk X.env.scope scope X.N fr = true := by rfl) (hs : ∀ x, foldedSetIterable iter X.env x = pure x := by intro _; rfl) :
    PS X (.Assign [.Name x pos'] (.ListComp elt [⟨tg, iter, [], 0⟩] scope pos) spos) (tAsg (tLC os.length fr wi g te) (gName i)) := by
  intro pins s σ H D I h
  unfold tAsg tLC at h
  rw [exec_Assign_Name_used _ _ _ _ hsw]
  refine wpAny_bind (wpAny_standAt (wpAny_bind ?_))
  show wpAny _ X.A (do let _ <- comprehension (.ListComp elt [⟨tg, iter, [], 0⟩] scope pos) scope X.env _ (newList []) false (eval iter X.env) (some (assign (.Name x pos') X.env))) _ _ s
  refine wpAny_bind (wpAny_mono (wpAny_comprehension_free (use := some (assign (.Name x pos') X.env)) (Q := fun _ s' => SP X pins D .next s') rfl hs (closureFor_clo (lc_clos I hok)) hk (fun x hx hl => by have := (lc_names hok x hx).1; rw [hl] at this; exact this)
    (thn (hi pins s σ H _ I h) fun v s1 h1 => thn h1 fun itv s2 h2 => ?_)) (fun _ s' hq => wpAny_pure (wpAny_pure hq)) fun _ _ e => e)
  refine lc_blockX (os := os) (D := fun p H' => D.nx (σ.set i (some (.ref p))) H') (use := some (assign (.Name x pos') X.env)) (QQ := fun _ s' => SP X pins D .next s') Lv hc hg he hk hok h2 ?_
  intro p C s3 H3 s' H' I3 eC hn I' ⟨m, hm⟩ q
  show wpAny _ X.A (assign (.Name x pos') X.env (.ref p)) _ _ _
  refine wpAny_assign_Name (store_ok2 (v := .ref p) I' hN hi' (.inl hx) rfl (fun s'' I'' ⟨a, hsa, ha⟩ => ?_) (.inr hx))
  have hCa : C ≠ a := by
    rcases ha with e | e
    . rw [e]; exact Nat.ne_of_gt (by rw [<- eC]; exact I3.lt)
    . obtain ⟨v, z⟩ := I3.cell x a e
      exact Nat.ne_of_gt (by rw [<- eC]; exact z.lt)
  exact ⟨m, hm.sameBut hsa hCa, fun h' hs' => ⟨_, H', I3.letgo I'' hn (by omega) hs', q⟩⟩
theorem leaves1 {P : Program} {w : World} {K : W.Frag} {mg : Str -> Option Value} {base : Heap} {N : List Str} {qual : Str} {scope : Scope} {f : Addr} {cd : Value} {A : Around} {outer : List Env} {s₀ : Shared} {H₀ : Hp} {E : XK} : Leaves (cxOf (CX1 P w) P w K mg base N qual scope f cd A outer s₀ H₀ E) E := ⟨rfl, rfl, rfl, fun _ _ h => h⟩
end
end L2
namespace Rim
open PySem L2 Fr
abbrev RowsT (K : W.Frag) (H : Hp) : List V -> List (List Int) -> Prop := PySem.Paired fun v row => ∃ a, v = .ref a /\ SqT K H a (row.map V.int)
theorem pi_listK (K : W.Frag) {X : Cx} {tg l : Expr} {tl : TE} (h : X.K = K) (hl : PE X l tl) : PI X tg l (iList K tl) := by subst h; exact pi_list hl
def togL (rows : List (List Int)) (k : Nat) : List Int := (List.range k).map fun i => (col rows i).sum
section
variable {P : Program} {w : World} {K : W.Frag} {mg : Str -> Option Value} {base : Heap} {f : Addr} {fd : FuncData} {n : Nat} {CN : Addr}
def spTog (K : W.Frag) : Sp := fun vs H Q _ => ∃ (rl : Addr) (rvs : List V) (rows : List (List Int)) (k : Nat), vs = [.ref rl] /\ SqL K H rl rvs /\ RowsT K H rvs rows /\ 1 <= rows.length /\ rows.length <= 100 /\ k <= 100 /\ (∀ r ∈ rows, r.length = k) ∧
  ∀ (r : Addr) (H' : Hp), Same H H' -> H' r = some (.tup ((togL rows k).map V.int)) -> Q (.ref r) H'
theorem scTog : FnScope ["rows"] ["rows"] (defScope s_together) := ⟨rfl, rfl, rfl, by decide +kernel, rfl, by decide +kernel, by decide +kernel⟩
theorem ndTg1 : (["kind", "rows"] : List Str).Nodup := by decide +kernel
theorem ndTg2 : (["row", "kind"] : List Str).Nodup := by decide +kernel
set_option maxHeartbeats 4000000 in
theorem ok_tog (F : Fun K "together" "together" s_together f fd) (T : Nones mg) : FnOk P w K mg base CX0 (n + 1) f fd ["rows"] (spTog K) := by
  refine F.ok scTog (fun vs H Q E h => ?_) (fun cdv A outer s H vs Q E hr h => ?_)
  . obtain ⟨rl, rvs, rows, k, rfl, _⟩ := h
    rfl
  obtain ⟨rl, rvs, rows, k, rfl, hR, hRw, h1, h100, hk, hrow, q⟩ := h
  refine ⟨_, pss_one (ps_ret (pe_callTy call_tuple_of rfl T.tuple PyProof.Rows.boot_tuple (pa_cons (pe_lc ["kind"] [0] rfl (pi_range1 rfl T.range (pa_cons (pe_callB call_len_seq rfl T.len PySem.boot_len (pa_cons (pe_ix ix_list (pv 0) pe_int (fun _ _ => rfl)) pa_nil)) pa_nil)) (fun _ _ _ _ => pg_name (i := 0) ndTg1 rfl (Or.inr rfl))
      (fun _ _ _ _ => pe_callB (sum_at K rfl rfl) rfl T.sum PyProof.Rows.boot_sum (pa_cons (pe_lc ["row"] [0] rfl (pi_listK K rfl (pv 1)) (fun _ _ _ _ => pg_name (i := 0) ndTg2 rfl (Or.inl rfl)) (fun _ _ _ _ => pe_ix (ixt_at K rfl) (pv 0) (pv 1) (fun _ _ => rfl))) pa_nil))) pa_nil))), ?_⟩
  have rl' : rvs.length = rows.length := Paired.length hRw
  have h0v : 0 < rvs.length := by omega
  obtain ⟨row0, hrow0, ⟨a0, ha0, hS0⟩⟩ := Paired.at hRw (List.getElem?_eq_getElem h0v)
  have hr0 := hrow row0 (List.mem_of_getElem? hrow0)
  have at0 : atI rvs 0 = some (.ref a0) := by
    rw [<- ha0]
    exact atI_nat (j := 0) (List.getElem?_eq_getElem h0v)
  have l0 : (row0.map V.int).length = k := by rw [List.length_map]; exact hr0
  refine ⟨_, rfl, rl, _, 0, _, rfl, rfl, hR, at0, a0, _, rfl, .inr hS0, _, rfl, by omega, by omega, fun p hp => ?_⟩
  refine lc_same (xs := (List.range k).map fun (i : Nat) => V.int (0 + (i : Int))) (by rw [l0, Int.toNat_natCast]; exact itIs_range) hp (by rw [List.length_map, List.length_range]; exact small1000 (by omega))
      (fun i y _ => y = .int (col rows i).sum) (fun _ _ _ _ r _ => r) (fun i x H' ys N hx e hp' hN => ?_) (fun ys H' e hp' len pr => ?_)
  . rw [List.getElem?_map] at hx
    cases hri : (List.range k)[i]? with
    | none => rw [hri] at hx; cases hx
    | some i' =>
      obtain ⟨hik, hi'⟩ := List.getElem?_eq_some_iff.mp hri
      rw [List.getElem_range] at hi'
      subst hi'
      rw [List.length_range] at hik
      rw [hri] at hx
      cases hx
      refine ⟨Wk.set (by decide), ?_⟩
      refine ⟨_, rfl, rl, rfl, ⟨_, e.seq hR⟩, fun p2 hp2 => ?_⟩
      refine lc_same (itIs_list (e.seq hR : SqL K _ _ _)) hp2 (small1000 (by omega)) (fun j y _ => y = .int ((col rows i).getD j 0)) (fun _ _ _ _ r _ => r) (fun j u H2 zs N2 hu e2 hp2' hN2 => ?_) (fun zs H2 e2 hp2' len2 pr2 => ?_)
      . obtain ⟨row, hrowj, ⟨b, rfl, hb⟩⟩ := Paired.at hRw hu
        have hki : i < row.length := by rw [hrow row (List.mem_of_getElem? hrowj)]; exact hik
        have ar : atI (row.map V.int) (0 + (i : Int)) = some (.int row[i]) := by
          rw [Int.zero_add]
          exact atI_nat (by rw [List.getElem?_map, List.getElem?_eq_getElem hki]; rfl)
        have ec : (col rows i).getD j 0 = row[i] := by
          unfold col
          rw [List.getD_eq_getElem?_getD, List.getElem?_map, hrowj, Option.map_some, Option.getD_some, List.getD_eq_getElem?_getD, List.getElem?_eq_getElem hki]; rfl
        refine ⟨Wk.set (by decide), _, rfl, _, rfl, b, _, _, _, rfl, rfl, (e.trans e2).tseq hb, ar, hN2 _ _ (Same.refl _) ?_⟩
        rw [ec]
      . have ez : zs = (col rows i).map V.int := by
          have hcl : (col rows i).length = rows.length := List.length_map _
          refine List.ext_getElem? fun j => ?_
          by_cases hj : j < zs.length
          . rw [List.getElem?_eq_getElem hj, pr2 j _ (List.getElem?_eq_getElem hj), List.getElem?_map, List.getElem?_eq_getElem (by omega), List.getD_eq_getElem?_getD, List.getElem?_eq_getElem (by omega)]; rfl
          . rw [List.getElem?_eq_none (by omega), List.getElem?_eq_none (by rw [List.length_map]; omega)]
        rw [ez] at hp2'
        exact ⟨p2, _, rfl, .inl (SqL.of hp2'), hN _ _ e2 rfl⟩
  . have ey : ys = (togL rows k).map V.int := by
      rw [List.length_map, List.length_range] at len
      unfold togL
      refine List.ext_getElem? fun i => ?_
      by_cases hi : i < ys.length
      . rw [List.getElem?_eq_getElem hi, pr i _ (List.getElem?_eq_getElem hi), List.getElem?_map, List.getElem?_map, List.getElem?_range (by omega)]; rfl
      . rw [List.getElem?_eq_none (by omega), List.getElem?_eq_none (by rw [List.length_map, List.length_map, List.length_range]; omega)]
    rw [ey] at hp'
    refine ⟨p, _, rfl, .inl ⟨SqL.of hp', fun l hl => ?_⟩⟩
    exact q l _ (e.trans (Same.new hl _)) upd_same
end
end Rim
namespace L2
open PySem PySem.Spec PyProof.Rows
abbrev en2 (b : Bool) (h : Heap) (t : Addr) : Heap := (zg1 b h t).push { cls := .type "enumerate", data := .fields #[.none, .bool false, .ref h.objs.size, rawInt 0, .none, .none] }
theorem ctt_any {prog : Program} {w : World} {A : Around} {E : Value -> Shared -> Prop} {s : Shared} {c : Value} {Q : Bool -> Shared -> Prop} (h : ∀ b, Q b s) : wpAny (model prog w) A (Builtin.SmallTypes.calledThroughType c) Q E s := by
  unfold Builtin.SmallTypes.calledThroughType
  exact wpAny_bind (wpAny_stack_any fun st => wpAny_pure (h _))
theorem en_new (b : Bool) (t : Addr) (xs : Array Value) :
    Meets (Builtin.«enumerate.__new__» ⟨[.type "enumerate", .ref t], []⟩) (fun _ R s => IsB b s.heap t xs /\ R (.ok (.ret (.ref (zg1 b s.heap t).objs.size))) { s with heap := en2 b s.heap t }) :=
  .of_wp fun prog w A R s h => by
    obtain ⟨hp, g, d, tk, os⟩ := s
    obtain ⟨e1, h⟩ := h
    have hsub := sub_enumerate
    have m1 : IsB b (Shared.heap ⟨hp, g, d, tk, os⟩) t xs := e1
    wp_walk using iterB m1, ctt_any
    intro c
    cases c
    . wp_walk using iterB m1
      exact ⟨_, rfl, h⟩
    . wp_walk using iterB m1
      exact ⟨_, rfl, h⟩
section
variable {prog : Program} {w : World} {A : Around} {E : Value -> Shared -> Prop} {s : Shared}
theorem en_call {b : Bool} {t : Addr} {xs : Array Value} {Q : Value -> Shared -> Prop} (l1 : IsB b s.heap t xs)
    (q : ∀ h', IsEnum h' (s.heap.objs.size + 1) s.heap.objs.size 0 .none -> ItB b h' s.heap.objs.size t 0 -> (∀ c o, s.heap.get? c = some o -> h'.get? c = some o) -> Q (.ref (s.heap.objs.size + 1)) { s with heap := h' }) :
    wpAny (model prog w) A (call (.type "enumerate") [.ref t]) Q E s := by
  refine callType_new F.called_enumerate (by decide) (F.typeCall_enumerate_1 _) (F.newCall_enumerate_1 _) (fun ob => F.args_object_init_2 ob _) F.entry_enumerate_new (en_new b t xs) ⟨l1, ?_⟩
  have n1 : (zg1 b s.heap t).objs.size = s.heap.objs.size + 1 := Heap.size_push ..
  have p2 : (en2 b s.heap t).get? (zg1 b s.heap t).objs.size = some _ := Heap.get?_push_size _ rfl
  have p1 : (en2 b s.heap t).get? s.heap.objs.size = some _ := Heap.get?_push_of_some _ (Heap.get?_push_size _ rfl)
  rw [n1] at p2
  show _ /\ _
  rw [n1]
  exact ⟨⟨_, p2, rfl⟩, q _ p2 (ItB.mk p1) fun c o m => Heap.get?_push_of_some _ (Heap.get?_push_of_some _ m)⟩
theorem drawsB {b : Bool} (hh : A.handled = none) (it t : Addr) (hne : t ≠ it) (xs : Array Value) : Draws prog w A it [it, t] xs.size (fun i v => xs[i]? = some v) (fun i h => ItB b h it t i /\ IsB b h t xs) where
  live := fun i h st => by obtain ⟨o, e, _⟩ := st.1.obj; exact ⟨o, e⟩
  frame := fun i h h' st k => ⟨st.1.at' fun o e => k it (by simp) o e, st.2.at' fun o e => k t (by simp) o e⟩
  item := fun i s Q E hi st q => by
    refine nxB_item st.1 st.2 (x := xs[i]) (Array.getElem?_eq_getElem hi) fun h' a1 a2 => ?_
    exact q _ h' s.toks (Array.getElem?_eq_getElem hi) ⟨a1, st.2.extBut a2.extBut hne⟩ a2
  done := fun s Q E st q => nxB_end hh st.1 st.2 (by simp) fun h' e a1 a2 => q h' e a1 a2
end
def Itn (b : Bool) (K : W.Frag) (l : Addr) : It :=
  ⟨fun i H => ∃ xs x, SqB b K H l xs /\ xs[i]? = some x,
   fun i H x H' => ∃ p a, H p = none /\ x = .ref p /\ H' = upd H p (.tup [.int (i : Int), a]) /\ ∀ xs, SqB b K H l xs -> xs[i]? = some a,
   fun i H => ∃ xs, SqB b K H l xs /\ xs.length <= i⟩
theorem turn_en {b : Bool} {P : Program} {w : World} {K : W.Frag} {elts : List Expr} {x1 : Nat} {pos : Pos} {e it l : Addr} (hne : e ≠ it) (hle : l ≠ e) (hli : l ≠ it) :
    Turn P w K (.Tuple elts x1 pos) (Itn b K l) [e, it] e (fun i h => (∃ old, IsEnum h e it (i : Int) old) /\ ItB b h it l i) where
  mem := by simp
  obj := fun i h st c hb => by
    obtain ⟨⟨old, he⟩, h1⟩ := st
    obtain ⟨o1, e1, v1, d1⟩ := h1.obj
    simp only [List.mem_cons, List.not_mem_nil, or_false] at hb
    rcases hb with rfl | rfl
    . exact ⟨_, he, fun v q => by cases q⟩
    . exact ⟨o1, e1, fun v q => by rw [d1] at q; cases q⟩
  keep := fun i h h' st k => by
    obtain ⟨⟨old, he⟩, h1⟩ := st
    exact ⟨⟨old, k e (by simp) _ he⟩, h1.at' fun o q => k it (by simp) o q⟩
  item := by
    intro X hP hw hK hc i pins s σ H E I hf st hg
    subst hP hw hK
    obtain ⟨xs, x, hq, hx⟩ := hg
    obtain ⟨⟨old, he⟩, h1⟩ := st
    obtain ⟨its, rv, p, _⟩ := I.sqB hq
    obtain ⟨u, hu, ru⟩ := rv.get hx
    have hu' : its.toArray[i]? = some u := by simpa using hu
    have il : i < its.toArray.size := (Array.getElem?_eq_some_iff.mp hu').1
    refine wpAny_pyNext_enum_itemD (drawsB (A := X.A.in1) (b := b) (show X.A.in1.handled = none from I.ok.hd hc) it l hli its.toArray) he ⟨h1, p⟩ il hne (by simp; exact ⟨hne, Ne.symm hle⟩) fun v h' tk hv a1 a2 a3 a4 a5 => ?_
    rw [hu'] at hv
    cases hv
    refine ⟨_, rfl, wpAny_letOwnedTupleGo_enum (s := { s with heap := h', toks := tk + 1 }) a1 fun h'' he'' hs'' => ?_⟩
    have ie : s.heap.get? e = _ := he
    obtain ⟨o1, ei, _⟩ := h1.obj
    have neT : ∀ c ∈ [e, it], c ≠ s.heap.objs.size := fun c hb q => by
      have : ∃ o, s.heap.get? c = some o := by
        simp only [List.mem_cons, List.not_mem_nil, or_false] at hb
        rcases hb with rfl | rfl
        . exact ⟨_, ie⟩
        . exact ⟨_, ei⟩
      obtain ⟨o, ho⟩ := this
      exact absurd (Heap.lt_size ho) (by rw [q]; exact Nat.lt_irrefl _)
    have kk : ∀ c o, c ∉ [e, it] -> s.heap.get? c = some o -> h''.get? c = some o := fun c o hb q => by
      simp only [List.mem_cons, List.not_mem_nil, or_false, not_or] at hb
      exact hs''.extBut c o hb.1 (a5 c o hb.1 hb.2 q)
    have it'' : ItB b h'' it l (i + 1) := a2.1.extBut hs''.extBut (Ne.symm hne)
    have hoF : ∀ c ∈ [e, it], ∃ o, h''.get? c = some o := fun c hb => by
      obtain ⟨o2, e2, _⟩ := it''.obj
      simp only [List.mem_cons, List.not_mem_nil, or_false] at hb
      rcases hb with rfl | rfl
      . exact ⟨_, he''⟩
      . exact ⟨_, e2⟩
    have es : e ≠ s.heap.objs.size := neT e (by simp)
    have tup : IsTup h'' s.heap.objs.size [Value.int (i : Int) tk, u].toArray := ⟨_, hs''.extBut _ _ (Ne.symm es) a3, rfl, 0, rfl⟩
    refine ⟨.ref s.heap.objs.size, upd H s.heap.objs.size (.tup [.int (i : Int), x]), (I.turnedLaid (h' := h'') hf kk hoF (Nat.le_refl _) (by show 2 <= sizeLine; decide) (show Vals [.int (i : Int), x] [Value.int (i : Int) tk, u] from .cons ⟨_, rfl⟩ (.cons ru .nil)) tup).tok _, rfl, ⟨_, x, I.fresh, rfl, rfl, fun xs' q1 => ?_⟩, ⟨⟨_, he''⟩, it''⟩, fun c hb => ?_⟩
    . rw [I.sqB_inj q1 hq]; exact hx
    . rw [upd_ne (neT c hb)]; exact (hf c hb).1
  done := by
    intro X hP hw hK hc i pins s σ H E I hf st hg
    subst hP hw hK
    obtain ⟨xs, hq, hend⟩ := hg
    obtain ⟨⟨old, he⟩, h1⟩ := st
    obtain ⟨its, rv, p, _⟩ := I.sqB hq
    have hl := rv.length
    by_cases hi : i = its.length
    . subst hi
      refine wpAny_pyNext_enum_endD (drawsB (A := X.A.in1) (b := b) (show X.A.in1.handled = none from I.ok.hd hc) it l hli its.toArray) he ⟨by simpa using h1, p⟩ fun h' k => ⟨rfl, I.turnedAll hf fun c o hb q => ?_⟩
      simp only [List.mem_cons, List.not_mem_nil, or_false, not_or] at hb
      exact k c o hb.2 q
    . have d : Draws X.prog X.w X.A.in1 it [it, l] 0 (fun _ _ => True) (fun _ h => ItB b h it l i /\ IsB b h l its.toArray) := ⟨fun j h st => by obtain ⟨o, e, _⟩ := st.1.obj; exact ⟨o, e⟩, fun j h h' st k => ⟨st.1.at' fun o e => k it (by simp) o e, st.2.at' fun o e => k l (by simp) o e⟩, fun j s Q E hj => absurd hj (Nat.not_lt_zero _), fun s Q E st q => nxB_end (show X.A.in1.handled = none from I.ok.hd hc) st.1 st.2 (by simp; omega) fun h' e a1 a2 => q h' e a1 a2⟩
      refine wpAny_pyNext_enum_endD d he ⟨h1, p⟩ fun h' k => ⟨rfl, I.turnedAll hf fun c o hb q => ?_⟩
      simp only [List.mem_cons, List.not_mem_nil, or_false, not_or] at hb
      exact k c o hb.2 q
  self := fun _ _ _ _ _ st h => by
    obtain ⟨⟨old, he⟩, _⟩ := st
    exact wpAny_pyIter_enum he h
def iEn (b : Bool) (K : W.Frag) (ta : TA) : TI := fun σ H R => ta σ H fun vs H1 => ∃ l, vs = [.ref l] /\ (∃ xs, SqB b K H1 l xs) /\ R (Itn b K l) H1
theorem pi_en (b : Bool) (K : W.Frag) {X : Cx} {a : Expr} {ta : TA} {p pos pos' : Pos} {elts : List Expr} {x1 : Nat} (hK : X.K = K) (hg : Gl X "enumerate") (hm : X.mg "enumerate" = none) (ha : PA X [a] ta) (hs : starEach [a] X.env = [(false, eval a X.env)] := by rfl) (hs2 : starEach ([] : List Expr) X.env = [] := by rfl) :
    PI X (.Tuple elts x1 pos') (.Call (.Name "enumerate" p) [a] [] pos) (iEn b K ta) := by
  subst hK
  intro pins s σ H R I h
  refine Call_ (ld_blt I hg hm boot_enumerate (PyProof.Rows.callWith_type1 (thn (ha pos pins s σ H _ I h) fun us s1 ⟨vs, H1, I1, r1, q1⟩ => ?_) (by rw [hs, hs2]) (by rw [hs2]; rfl)))
  obtain ⟨l, e, ⟨xs, q1⟩, q⟩ := q1
  subst e
  obtain ⟨u, rfl, ru⟩ := vals1 r1
  cases ru
  obtain ⟨its, rv, p, _⟩ := I1.sqB q1
  have lt1 : l < s1.heap.objs.size := p.lt
  refine en_call p fun h' z1 z2 k => ?_
  have I2 : Inv X pins σ H1 { s1 with heap := h' } := I1.kept (t' := s1.toks) k
  refine wpAny_pyIter_enum z1 ?_
  refine ⟨s1.heap.objs.size + 1, [s1.heap.objs.size + 1, s1.heap.objs.size], _, _, H1, rfl, I2, turn_en (b := b) (l := l) (e := s1.heap.objs.size + 1) (it := s1.heap.objs.size) (Nat.succ_ne_self _) (Nat.ne_of_lt (Nat.lt_succ_of_lt lt1)) (Nat.ne_of_lt lt1), ⟨⟨_, z1⟩, z2⟩, fun b hb => ?_, q⟩
  have hb' : s1.heap.objs.size <= b := by
    simp only [List.mem_cons, List.not_mem_nil, or_false] at hb
    rcases hb with rfl | rfl
    . exact Nat.le_succ _
    . exact Nat.le_refl _
  exact I1.fpOk hb' (I1.hok.fresh hb')
section
variable {b : Bool} {xs : List V} {K : W.Frag} {l : Addr} {fr : List Nat} {te : TE} {σ : St} {H1 : Hp} {p : Addr} {D : Hp -> Prop}
end
end L2
namespace L2
open PySem PySem.Spec PyProof.Rows
def picked (q : Nat -> Bool) (F : Nat -> V -> V) (xs : List V) (n : Nat) : List V := ((List.range n).filter q).filterMap fun i => (xs[i]?).map (F i)
theorem picked_len (q : Nat -> Bool) (F : Nat -> V -> V) (xs : List V) (n : Nat) : (picked q F xs n).length <= n := by
  unfold picked
  have h1 := List.length_filterMap_le (fun i => (xs[i]?).map (F i)) ((List.range n).filter q)
  have h2 := List.length_filter_le q (List.range n)
  rw [List.length_range] at h2
  omega
theorem picked_succ {q : Nat -> Bool} {F : Nat -> V -> V} {xs : List V} {n : Nat} {x : V} (h : xs[n]? = some x) : picked q F xs (n + 1) = picked q F xs n ++ (if q n = true then [F n x] else []) := by
  unfold picked
  rw [List.range_succ, List.filter_append, List.filterMap_append]
  congr 1
  cases e : q n with
  | true => simp [e, h]
  | false => simp [e]
section
variable {b : Bool} {xs : List V} {K : W.Frag} {l : Addr} {fr : List Nat} {tc : TT} {te : TE} {σ : St} {H1 : Hp} {p : Addr} {D : Hp -> Prop}
theorem lc_enP (hl : SqB b K H1 l xs) (hp : H1 p = none) (hz : xs.length < sizeLine) (q : Nat -> Bool) (F : Nat -> V -> V)
    (test : ∀ (i : Nat) x H ys (N : Bool -> Hp -> Prop), xs[i]? = some x -> Same H1 H -> H p = some (.lst ys) -> (∀ H3, Same H H3 -> N (q i) H3) -> tc (((blkσ 2 fr σ).set 0 (some (.int (i : Int)))).set 1 (some x)) H N)
    (step : ∀ (i : Nat) x H (N : VK), xs[i]? = some x -> q i = true -> Same H1 H -> N (F i x) H -> te (((blkσ 2 fr σ).set 0 (some (.int (i : Int)))).set 1 (some x)) H N)
    (hd : ∀ H, Same H1 H -> H p = some (.lst (picked q F xs xs.length)) -> D H) : lcI 2 fr (gTup K 2 (gCons (gName 0) (gCons (gName 1) gNil))) tc te σ (Itn b K l) H1 p D := by
  refine ⟨fun i m ys H => m = xs.length - i /\ i <= xs.length /\ Same H1 H /\ H p = some (.lst ys) /\ ys = picked q F xs i, ⟨xs.length, by simp, Nat.zero_le _, Same.new hp _, upd_same, rfl⟩, ?_⟩
  rintro i m ys H ⟨rfl, hi, e, hH, rfl⟩
  by_cases hlt : i < xs.length
  . refine .inr ⟨⟨xs, xs[i], e.sqB hl, List.getElem?_eq_getElem hlt⟩, fun u H' y => ?_⟩
    obtain ⟨z, a, hz', rfl, rfl, hab⟩ := y
    have ha := hab xs (e.sqB hl)
    have s1 := Same.new hz' (.tup [.int (i : Int), a])
    refine ⟨z, _, rfl, SqT.of upd_same, rfl, _, _, rfl, _, _, rfl, rfl, ?_, ?_⟩
    . refine ⟨by simp, fun k w ek => ?_⟩
      have : ¬ k < 2 := fun hk => by
        unfold blkσ at ek
        rw [List.getElem?_append_left (by simpa using hk), List.getElem?_replicate] at ek
        split at ek <;> cases ek
      rw [List.getElem?_set_ne (by omega), List.getElem?_set_ne (by omega)]; exact ek
    . refine test i a _ _ _ ha (e.trans s1) (s1 _ _ hH) fun H3 s3 => ?_
      have hH3 := s3 _ _ (s1 _ _ hH)
      cases hq : q i with
      | false =>
        rw [if_neg Bool.false_ne_true]
        exact ⟨xs.length - (i + 1), by omega, rfl, hlt, e.trans (s1.trans s3), hH3, by rw [picked_succ ha, hq]; simp⟩
      | true =>
        rw [if_pos rfl]
        refine step i a _ _ ha hq (e.trans (s1.trans s3)) ⟨hH3, ?_, xs.length - (i + 1), by omega, rfl, hlt, (e.trans (s1.trans s3)).write hp, upd_same, by rw [picked_succ ha, hq]; simp⟩
        have := picked_len q F xs i
        omega
  . have : i = xs.length := by omega
    subst this
    exact .inl ⟨⟨xs, e.sqB hl, by omega⟩, hd H e hH⟩
end
end L2
namespace HT
open PySem PySem.Spec PyProof.Rows L2
section
variable {prog : Program} {w : World} {A : Around} {E : Value -> Shared -> Prop} {s : Shared}
end
end HT
namespace L2
open PySem PySem.Spec PyProof.Rows
section
variable {X : Cx}
end
end L2
namespace Rim
open PySem L2 Fr
theorem notIn_at (K : W.Frag) {X : Cx} (h : X.K = K) : OpR X (compareOp .NotIn) (rIn K true) := by subst h; exact op_notIn_seq
def hsOf (hs : List House) (ns : List Int) : List House := ns.map fun m => hs.getD m.toNat ([], [])
def mgH (hs : List House) (ns : List Int) (kt kg : Nat) : House := (togL ((hsOf hs ns).map Prod.fst) kt, togL ((hsOf hs ns).map Prod.snd) kg)
def stays (ns : List Int) (place : Int) (i : Nat) : Bool := decide ((i : Int) = place) || !ns.contains (i : Int)
def mrgL (hs : List House) (ns : List Int) (kt kg : Nat) (place : Int) : List House := ((List.range hs.length).filter (stays ns place)).filterMap fun i => (hs.set place.toNat (mgH hs ns kt kg))[i]?
structure Least (ns : List Int) (p : Int) : Prop where
  m : p ∈ ns
  le : ∀ x ∈ ns, p <= x
section
variable {P : Program} {w : World} {K : W.Frag} {mg : Str -> Option Value} {base : Heap} {f : Addr} {fd : FuncData} {n : Nat} {CN CM : Addr}
def spMrg (K : W.Frag) (CN CM : Addr) : Sp := fun vs H Q E => ∃ (ba nl : Addr) (xs : List V) (hs : List House) (ns : List Int) (far : Int) (kt kg : Nat), vs = [.ref ba, .ref nl] /\ BookIn K H ba xs hs far kt kg /\ 1 <= kt /\ 1 <= kg /\ SqL K H nl (ns.map V.int) /\ 1 <= ns.length /\ ns.length <= 100 /\ (∀ m ∈ ns, m.natAbs.log2 < 1920) ∧
  (∀ H', Same H H' -> (∃ m ∈ ns, ¬ Good xs.length m) -> E (.ref CN) none H') ∧
  (∀ H', Same H H' -> (∀ m ∈ ns, Good xs.length m) -> (∃ v ∈ (mgH hs ns kt kg).1 ++ (mgH hs ns kt kg).2, 1000000000 < v) -> E (.ref CM) none H') ∧
  (∀ (r : Addr) (ys : List V) (place : Int) (H' : Hp), Same H H' -> H r = none -> (∀ m ∈ ns, Good xs.length m) -> (∀ v ∈ (mgH hs ns kt kg).1 ++ (mgH hs ns kt kg).2, v <= 1000000000) -> Least ns place -> H' r = some (.lst ys) -> Bk K H' ys (mrgL hs ns kt kg place) -> Q (.ref r) H')
theorem scMrg : FnScope ["book", "numbers", "houses", "takes", "gives", "place", "told"] ["book", "numbers"] (defScope s_merged) := ⟨rfl, rfl, rfl, by decide +kernel, rfl, by decide +kernel, by decide +kernel⟩
theorem ndMg1 : (["number", "book"] : List Str).Nodup := by decide +kernel
theorem ndMg2 : (["house"] : List Str).Nodup := by decide +kernel
theorem ndMg3 : (["number", "house", "place", "numbers"] : List Str).Nodup := by decide +kernel
set_option maxHeartbeats 8000000 in
noncomputable def mrgT {cdv : Value} {A : Around} {outer : List Env} {s : Shared} {H : Hp} {E : XK} {f1 f2 : Addr} {d1 d2 : FuncData} {tm : Tok} (T : Nones mg) (kM : ExcK K CM) (mM : mg "TooMany" = some (.ref CM)) (hma : mg "MOST_AMOUNT" = some (.int 1000000000 tm)) (Ch : Cal1 P w K mg base n "house_of" ["book", "number"] (spHof K CN) f1 d1) (Ct : SCal P w K mg base n "together" ["rows"] (spTog K) f2 d2)
    (hr : Room n (A.deeper (PyProof.Rows.envOfC "merged" (defScope s_merged) s.heap.objs.size f cdv))) :
    { t : TS // PSs (cxOf (CX1 P w) P w K mg base ["book", "numbers", "houses", "takes", "gives", "place", "told"] "merged" (defScope s_merged) f cdv A outer s H E) (defBody s_merged) t } :=
  ⟨_, pss_cut (ps_lcX (i := 2) ["number"] [0] leaves1 scMrg.nd rfl rfl rfl (pi_list (pv 1)) (fun _ _ _ _ => pg_name (i := 0) ndMg1 rfl (Or.inl rfl)) (fun _ _ _ _ _ hx => pe_call Ch.ok hr rfl Ch.m Ch.k Ch.b .nil hx (pa_cons (pv 1) (pa_cons (pv 0) pa_nil))))
    (pss_cut (ps_set (i := 3) scMrg.nd rfl (Or.inl rfl) (pe_call Ct.ok hr rfl Ct.m Ct.k Ct.b .nil pass0 (pa_cons (pe_lc ["house"] [] rfl (pi_list (pv 2)) (fun _ _ _ _ => pg_name (i := 0) ndMg2 rfl (Or.inl rfl)) (fun _ _ _ _ => pe_ix (ixt_at K rfl) (pv 0) pe_int (fun _ _ => rfl))) pa_nil)))
    (pss_cut (ps_set (i := 4) scMrg.nd rfl (Or.inl rfl) (pe_call Ct.ok hr rfl Ct.m Ct.k Ct.b .nil pass0 (pa_cons (pe_lc ["house"] [] rfl (pi_list (pv 2)) (fun _ _ _ _ => pg_name (i := 0) ndMg2 rfl (Or.inl rfl)) (fun _ _ _ _ => pe_ix (ixt_at K rfl) (pv 0) pe_int (fun _ _ => rfl))) pa_nil)))
    (pss_cut (ps_if (pt_cmpR op_gt (pe_callB (call_max1 rfl) rfl T.max PyProof.Rows.boot_max (pa_cons (pe_op op_catT (pv 3) (pv 4)) pa_nil)) (pe_glob (v := .int 1000000000) rfl hma ⟨_, rfl⟩) (nomark _)) (pss_one (ps_raise kM rfl mM hr.hd (pa_cons pe_str pa_nil))) pss_nil)
    (PSs.nox (pss_cons (ps_set (i := 5) scMrg.nd rfl (Or.inr rfl) (pe_callB (call_min1 rfl) rfl T.min PyProof.Rows.boot_min (pa_cons (pv 1) pa_nil)))
    (pss_cons (ps_set (i := 6) scMrg.nd rfl (Or.inl rfl) (pe_callTy call_list_of rfl T.list PyProof.Rows.boot_list (pa_cons (pv 0) pa_nil)))
    (pss_cons (ps_asg (pe_tup (pa_cons (pv 3) (pa_cons (pv 4) pa_nil))) (pg_sub (pv 6) (pv 5) set_list))
    (pss_one (ps_ret (pe_lcI ["number", "house"] [5, 1] rfl (pi_en true K rfl rfl T.enum (pa_cons (pv 6) pa_nil)) (fun _ _ _ _ => pgt_at K (n := 2) rfl rfl (pgs_cons (pg_name (i := 0) ndMg3 rfl (Or.inl rfl)) (pgs_cons (pg_name (i := 1) ndMg3 rfl (Or.inl rfl)) pgs_nil)))
      (fun _ _ _ _ => PW.pt (pw_or (pt_cmpR op_eq (pv 0) (pv 2) (nomark _)) (pw_or1 (pt_cmpR (notIn_at K rfl) (pv 0) (pv 3) rfl)))) (fun _ _ _ _ => pv 1)))))))))))⟩
theorem intAt {ns : List Int} {i : Nat} {x : V} (h : (ns.map V.int)[i]? = some x) : ∃ k, x = .int k /\ ns[i]? = some k := by
  rw [List.getElem?_map] at h
  cases e : ns[i]? with
  | none => rw [e] at h; cases h
  | some k => rw [e] at h; cases h; exact ⟨k, rfl, rfl⟩
theorem paired_set {α β : Type} {R : α -> β -> Prop} {x : α} {y : β} (r : R x y) : ∀ {xs : List α} {ys : List β} (i : Nat), Paired R xs ys -> Paired R (xs.set i x) (ys.set i y)
  | _, _, _, .nil => .nil
  | _, _, 0, .cons _ t => .cons r t
  | _, _, i + 1, .cons q t => .cons q (paired_set r i t)
theorem paired_pick {α β : Type} {R : α -> β -> Prop} {xs : List α} {ys : List β} (h : Paired R xs ys) : ∀ l : List Nat, Paired R (l.filterMap fun i => xs[i]?) (l.filterMap fun i => ys[i]?)
  | [] => .nil
  | i :: l => by
    rw [List.filterMap_cons, List.filterMap_cons]
    cases e : xs[i]? with
    | none =>
      have : ys[i]? = none := List.getElem?_eq_none (by have := List.getElem?_eq_none_iff.mp e; have := Paired.length h; omega)
      rw [this]; exact paired_pick h l
    | some x =>
      obtain ⟨y, hy, r⟩ := Paired.at h e
      rw [hy]; exact .cons r (paired_pick h l)
theorem flat_ints (ns : List Int) : (ns.map V.int).all flatV = true := by
  rw [List.all_map]
  exact List.all_eq_true.mpr fun _ _ => rfl
theorem inV_ints (x : Int) : ∀ ns : List Int, inV (.int x) (ns.map V.int) = ns.contains x
  | [] => rfl
  | y :: r => by
    have ih := inV_ints x r
    unfold inV at ih ⊢
    rw [List.map_cons, List.any_cons, ih, List.contains_cons]
    show (y == x || _) = _
    rw [show (y == x) = (x == y) from Bool.beq_comm]
theorem tog_len (rows : List (List Int)) (k : Nat) : (togL rows k).length = k := by unfold togL; rw [List.length_map, List.length_range]
theorem rowsT_of {H : Hp} {j : Nat} : ∀ (zs : List V) (gs : List House), zs.length = gs.length -> (∀ (i : Nat) (z : V), zs[i]? = some z -> ∃ h a, gs[i]? = some h /\ z = .ref a /\ SqT K H a ((sideJ j h).map V.int)) -> RowsT K H zs (gs.map (sideJ j))
  | [], [], _, _ => .nil
  | [], _ :: _, h, _ => by simp at h
  | _ :: _, [], h, _ => by simp at h
  | z :: zs, g :: gs, hl, h => by
    obtain ⟨h', a, e, rfl, hs⟩ := h 0 z rfl
    cases e
    exact .cons ⟨a, rfl, hs⟩ (rowsT_of zs gs (by simpa using hl) fun i z hz => h (i + 1) z (by simpa using hz))
set_option maxHeartbeats 8000000 in
theorem ok_mrg {f1 f2 : Addr} {d1 d2 : FuncData} (F : Fun K "merged" "merged" s_merged f fd) (T : Nones mg) (kM : ExcK K CM) (mM : mg "TooMany" = some (.ref CM)) (hC : ∃ t, mg "MOST_AMOUNT" = some (.int 1000000000 t)) (Ch : Cal1 P w K mg base n "house_of" ["book", "number"] (spHof K CN) f1 d1) (Ct : SCal P w K mg base n "together" ["rows"] (spTog K) f2 d2) :
    FnOk P w K mg base (CX1 P w) (n + 1) f fd ["book", "numbers"] (spMrg K CN CM) := by
  refine F.ok1 scMrg (fun vs H Q E h => ?_) (fun cdv A outer s H vs Q E hr h => ?_)
  . obtain ⟨ba, nl, xs, hs, ns, far, kt, kg, rfl, _⟩ := h
    rfl
  obtain ⟨ba, nl, xs, hs, ns, far, kt, kg, rfl, B, kt1, kg1, hNl, n1, n100, lm, qN, qM, q⟩ := h
  obtain ⟨tm, hma⟩ := hC
  refine ⟨_, (mrgT T kM mM hma Ch Ct hr).2, ?_⟩
  have xl : xs.length = hs.length := Paired.length B.b
  have few := B.few
  have bt := B.t
  have bk := B.k
  have small := small1000 (show (1000 : Nat) <= 1000 from Nat.le_refl _)
  have hol : (hsOf hs ns).length = ns.length := by unfold hsOf; rw [List.length_map]
  -- houses
  refine ⟨fun σ' H' => ∃ (hl : Addr) (ys : List V), σ' = [some (.ref ba), some (.ref nl), some (.ref hl), none, none, none, none] /\ Same H H' /\ H' hl = some (.lst ys) /\ ys.length = ns.length /\ (∀ m ∈ ns, Good xs.length m) /\ ∀ (i : Nat) y, ys[i]? = some y -> ∃ h, (hsOf hs ns)[i]? = some h /\ HS K H' y h /\ h ∈ hs, ?_, ?_⟩
  . refine ⟨_, rfl, nl, rfl, ⟨_, hNl⟩, fun p hp => ?_⟩
    refine lc_same (itIs_list hNl) hp (by rw [List.length_map]; exact small1000 (by omega)) (fun i y _ => ∃ k : Nat, ns[i]? = some (k : Int) /\ xs[k]? = some y) (fun _ _ _ _ r _ => r) (fun i x H' ys N hx e hp' hN => ?_) (fun ys H' e hp' len pr => ?_)
    . obtain ⟨m, rfl, hm⟩ := intAt hx
      have hmm := List.mem_of_getElem? hm
      exact ⟨Wk.set (by decide), _, rfl, _, rfl, ba, xs, m, rfl, e.seq B.l, lm m hmm, fun k x hk hx => hN _ _ (Same.refl _) ⟨k, by rw [hm, hk], hx⟩, fun bad => qN _ e ⟨m, hmm, bad⟩⟩
    . rw [List.length_map] at len
      have gd : ∀ m ∈ ns, Good xs.length m := fun m hm => by
        obtain ⟨i, hi⟩ := List.getElem?_of_mem hm
        have hil := (List.getElem?_eq_some_iff.mp hi).1
        obtain ⟨k, hk, hx⟩ := pr i _ (List.getElem?_eq_getElem (show i < ys.length by omega))
        rw [hi] at hk; cases hk
        have := (List.getElem?_eq_some_iff.mp hx).1
        exact ⟨by omega, by omega⟩
      refine ⟨p, ys, rfl, e, hp', len, gd, fun i y hy => ?_⟩
      obtain ⟨k, hk, hx⟩ := pr i y hy
      obtain ⟨h, hh, hs'⟩ := Paired.at B.b hx
      refine ⟨h, ?_, hs'.same e, List.mem_of_getElem? hh⟩
      unfold hsOf
      rw [List.getElem?_map, hk, Option.map_some, Int.toNat_natCast, List.getD_eq_getElem?_getD, hh]; rfl
  intro σ1 H1 hM_; refine gen2 fun G_ hG_ => ?_; obtain ⟨hl, ys, rfl, e1, hhl, yl, gd, pr⟩ := hM_; subst hG_
  have row : ∀ (j : Nat) (hj : j < 2) {H2 : Hp} (p : Addr) (zs : List V), Same H1 H2 -> H2 p = some (.lst zs) -> zs.length = ys.length -> (∀ (i : Nat) (z : V), zs[i]? = some z -> ∃ h a, (hsOf hs ns)[i]? = some h /\ z = V.ref a /\ SqT K H1 a ((sideJ j h).map V.int)) -> RowsT K H2 zs ((hsOf hs ns).map (sideJ j)) := fun j _ {H2} p zs e2 _ len pz =>
    rowsT_of zs _ (by omega) fun i z hz => by
      obtain ⟨h, a, z1, z2, z3⟩ := pz i z hz
      exact ⟨h, a, z1, z2, e2.tseq z3⟩
  have inh : ∀ h ∈ hsOf hs ns, h ∈ hs := fun h hh => by
    obtain ⟨i, hi⟩ := List.getElem?_of_mem hh
    have hil := (List.getElem?_eq_some_iff.mp hi).1
    obtain ⟨h', z1, _, z3⟩ := pr i _ (List.getElem?_eq_getElem (show i < ys.length by omega))
    rw [hi] at z1; cases z1; exact z3
  -- takes
  refine ⟨fun σ' H' => ∃ (ta : Addr), σ' = [some (.ref ba), some (.ref nl), some (.ref hl), some (.ref ta), none, none, none] /\ Same H1 H' /\ H' ta = some (.tup ((mgH hs ns kt kg).1.map V.int)), ?_, ?_⟩
  . refine ⟨_, rfl, hl, rfl, ⟨_, SqL.of hhl⟩, fun p hp => ?_⟩
    refine lc_same (itIs_list (SqL.of hhl)) hp (small1000 (by omega)) (fun i y _ => ∃ h a, (hsOf hs ns)[i]? = some h /\ y = .ref a /\ SqT K H1 a ((sideJ 0 h).map V.int)) (fun _ _ _ _ r _ => r) (fun i x H' zs N hx e hp' hN => ?_) (fun zs H' e hp' len pz => ?_)
    . obtain ⟨h, z1, ⟨a, t0, g0, rfl, p1, p2, p3⟩, _⟩ := pr i x hx
      exact ⟨Wk.set (by decide), _, rfl, a, _, 0, _, rfl, rfl, e.tseq p1, pair0 _ _, hN _ _ (Same.refl _) ⟨h, t0, z1, rfl, p2⟩⟩
    . refine ⟨p, zs, _, kt, rfl, SqL.of hp', row 0 (by decide) p zs e hp' len pz, by rw [List.length_map]; omega, by rw [List.length_map]; omega, by omega, fun r hr => ?_, fun r H2 e2 hr2 => ⟨r, rfl, e.trans e2, hr2⟩⟩
      obtain ⟨h, hh, rfl⟩ := List.mem_map.mp hr
      exact (B.g h (inh h hh)).lt
  intro σ2 H2 hM_; refine gen2 fun G_ hG_ => ?_; obtain ⟨ta, rfl, e2, hta⟩ := hM_; subst hG_
  have hhl2 := e2 _ _ hhl
  -- gives
  refine ⟨fun σ' H' => ∃ (ga : Addr), σ' = [some (.ref ba), some (.ref nl), some (.ref hl), some (.ref ta), some (.ref ga), none, none] /\ Same H2 H' /\ H' ga = some (.tup ((mgH hs ns kt kg).2.map V.int)), ?_, ?_⟩
  . refine ⟨_, rfl, hl, rfl, ⟨_, SqL.of hhl2⟩, fun p hp => ?_⟩
    refine lc_same (itIs_list (SqL.of hhl2)) hp (small1000 (by omega)) (fun i y _ => ∃ h a, (hsOf hs ns)[i]? = some h /\ y = .ref a /\ SqT K H1 a ((sideJ 1 h).map V.int)) (fun _ _ _ _ r _ => r) (fun i x H' zs N hx e hp' hN => ?_) (fun zs H' e hp' len pz => ?_)
    . obtain ⟨h, z1, ⟨a, t0, g0, rfl, p1, p2, p3⟩, _⟩ := pr i x hx
      exact ⟨Wk.set (by decide), _, rfl, a, _, 1, _, rfl, rfl, (e2.trans e).tseq p1, pair1 _ _, hN _ _ (Same.refl _) ⟨h, g0, z1, rfl, p3⟩⟩
    . refine ⟨p, zs, _, kg, rfl, SqL.of hp', row 1 (by decide) p zs (e2.trans e) hp' len pz, by rw [List.length_map]; omega, by rw [List.length_map]; omega, by omega, fun r hr => ?_, fun r H3 e3 hr3 => ⟨r, rfl, e.trans e3, hr3⟩⟩
      obtain ⟨h, hh, rfl⟩ := List.mem_map.mp hr
      exact (B.g h (inh h hh)).lg
  intro σ3 H3 hM_; refine gen2 fun G_ hG_ => ?_; obtain ⟨ga, rfl, e3, hga⟩ := hM_; subst hG_
  have hta3 := e3 _ _ hta
  have e03 := e1.trans (e2.trans e3)
  have l1 : (mgH hs ns kt kg).1.length = kt := tog_len _ _
  have l2 : (mgH hs ns kt kg).2.length = kg := tog_len _ _
  -- too many
  refine ⟨fun σ' H' => σ' = [some (.ref ba), some (.ref nl), some (.ref hl), some (.ref ta), some (.ref ga), none, none] /\ Same H3 H' /\ ∀ v ∈ (mgH hs ns kt kg).1 ++ (mgH hs ns kt kg).2, v <= 1000000000, ?_, ?_⟩
  . refine ⟨_, rfl, _, rfl, ta, ga, _, _, rfl, rfl, SqT.of hta3, SqT.of hga, fun z => ?_, ?_, fun z => ?_, fun _ p hp => ?_⟩
    . have := congrArg List.length z
      rw [List.length_map] at this
      simp only [List.length_nil] at this
      omega
    . rw [List.length_map, List.length_map]; show _ <= sizeLine; omega
    . have := congrArg List.length z
      rw [List.length_map] at this
      simp only [List.length_nil] at this
      omega
    have s1 := Same.new hp (.tup ((mgH hs ns kt kg).1.map V.int ++ (mgH hs ns kt kg).2.map V.int))
    rw [<- List.map_append] at s1 ⊢
    refine ⟨p, _, rfl, .inr (SqT.of upd_same), fun z => ?_, fun M hM hle => ⟨_, _, rfl, rfl, _, rfl, ite2 (fun c => ?_) (fun c => ⟨rfl, s1, fun v hv => ?_⟩)⟩⟩
    . have := congrArg List.length z
      simp only [List.length_append, List.length_nil] at this
      omega
    . exact ⟨(by show 1 <= 1000; decide), qM _ (e03.trans s1) gd ⟨M, hM, of_decide_eq_true c⟩⟩
    . have c' : ¬ M > 1000000000 := of_decide_eq_false (by simpa using c)
      have := hle v hv
      omega
  intro σ4 H4 hM_; refine gen2 fun G_ hG_ => ?_; obtain ⟨rfl, e4, fit⟩ := hM_; subst hG_
  have e04 := e03.trans e4
  have hta4 := e4 _ _ hta3
  have hga4 := e4 _ _ hga
  refine ⟨_, rfl, nl, ns, rfl, .inl (e04.seq hNl), fun z => by rw [z] at n1; simp at n1, fun pl hpl hle => ?_⟩
  have gp := gd pl hpl
  refine ⟨_, rfl, ba, _, rfl, .inl (e04.seq B.l), fun tl htl => ?_⟩
  have s5 := Same.new htl (.lst xs)
  refine ⟨_, rfl, _, rfl, (by show 2 <= sizeLine; decide), fun hv hhv => ?_⟩
  have s6 := Same.new hhv (.tup [V.ref ta, V.ref ga])
  have tlv : tl ≠ hv := ne_of_none upd_same hhv
  have htl2 : H tl = none := by
    cases e : H tl with
    | none => rfl
    | some o => rw [e04 _ _ e] at htl; cases htl
  have hH6 : (upd (upd H4 tl (.lst xs)) hv (.tup [V.ref ta, V.ref ga])) tl = some (.lst xs) := s6 _ _ upd_same
  have e06 := e04.trans (s5.trans s6)
  have hv6 : (upd (upd H4 tl (.lst xs)) hv (.tup [V.ref ta, V.ref ga])) hv = some (.tup [V.ref ta, V.ref ga]) := upd_same
  have ta6 := (s5.trans s6) _ _ hta4
  have ga6 := (s5.trans s6) _ _ hga4
  generalize upd (upd H4 tl (.lst xs)) hv (.tup [V.ref ta, V.ref ga]) = H6 at *
  refine ⟨_, rfl, _, rfl, tl, xs, pl, _, rfl, rfl, hH6, ixN_nat gp.1 gp.2, ?_⟩
  have e07 : Same H (upd H6 tl (.lst (xs.set pl.toNat (.ref hv)))) := e06.write htl2
  have nt : ∀ {b o}, H6 b = some o -> (∀ l, o ≠ .lst l) -> b ≠ tl := fun hb hn z => by rw [z, hH6] at hb; exact hn _ (Option.some.inj hb).symm
  have hv7 : (upd H6 tl (.lst (xs.set pl.toNat (.ref hv)))) hv = some (.tup [V.ref ta, V.ref ga]) := by rw [upd_ne (nt hv6 nofun)]; exact hv6
  have ta7 : (upd H6 tl (.lst (xs.set pl.toNat (.ref hv)))) ta = _ := (upd_ne (nt ta6 nofun)).trans ta6
  have ga7 : (upd H6 tl (.lst (xs.set pl.toNat (.ref hv)))) ga = _ := (upd_ne (nt ga6 nofun)).trans ga6
  have tl7 : (upd H6 tl (.lst (xs.set pl.toNat (.ref hv)))) tl = some (.lst (xs.set pl.toNat (.ref hv))) := upd_same
  generalize upd H6 tl (.lst (xs.set pl.toNat (.ref hv))) = H7 at *
  refine ⟨_, rfl, tl, rfl, ⟨_, SqL.of tl7⟩, fun p hp => ?_⟩
  have hp0 : H p = none := by
    cases e : H p with
    | none => rfl
    | some o => rw [e07 _ _ e] at hp; cases hp
  refine lc_enP (b := true) (SqL.of tl7) hp (by rw [List.length_set]; exact small1000 (by omega)) (stays ns pl) (fun _ y => y) (fun i y H2 zs N hy e hp' hNN => ?_) (fun i y H2 N hy hq e hNN => ⟨_, rfl, hNN⟩) (fun H2 e hp' => ?_)
  . refine ⟨_, rfl, _, rfl, rfl, _, rfl, ite2 (fun c => ?_) (fun c => ?_)⟩
    . have st : stays ns pl i = true := by unfold stays; rw [decide_eq_true (V.int.inj (of_decide_eq_true c))]; rfl
      have := hNN _ (Same.refl _)
      rw [st] at this
      exact this
    . refine ⟨_, rfl, _, rfl, nl, _, rfl, .inl ((e07.trans e).seq hNl), rfl, flat_ints ns, _, rfl, ?_⟩
      have st : stays ns pl i = !inV (.int (i : Int)) (ns.map V.int) := by
        unfold stays
        rw [inV_ints, decide_eq_false (fun z => (of_decide_eq_false (Bool.eq_false_iff.mpr c)) (by rw [z])), Bool.false_or]
      have := hNN _ (Same.refl _)
      rw [st] at this
      exact this
  . refine q p _ pl H2 (e07.trans e) hp0 gd fit ⟨hpl, hle⟩ hp' ?_
    have hb : Bk K H2 (xs.set pl.toNat (.ref hv)) (hs.set pl.toNat (mgH hs ns kt kg)) := paired_set ⟨hv, ta, ga, rfl, SqT.of (e _ _ hv7), SqT.of (e _ _ ta7), SqT.of (e _ _ ga7)⟩ _ (Bk.same (e07.trans e) B.b)
    have := paired_pick hb ((List.range hs.length).filter (stays ns pl))
    unfold mrgL picked
    rw [List.length_set, xl]
    simpa using this
end
end Rim
namespace L2
open PySem PySem.Spec PyProof.Rows
section
variable {X : Cx}
def rInsert : V -> List V -> Hp -> VK -> Prop := fun x vs H Q => ∃ (l : Addr) (xs : List V) (k : Nat) (y : V), x = .ref l /\ vs = [.int (k : Int), y] /\ H l = some (.lst xs) /\ k <= xs.length /\ xs.length < sizeLine /\ Q .non (upd H l (.lst (xs.take k ++ [y] ++ xs.drop k)))
theorem mt_insert : MtM X "list.insert" rInsert := by
  intro pins s σ H x vs v us Q I rx rv h
  obtain ⟨l, xs, k, y, rfl, rfl, hH, hk, hz, q⟩ := h
  cases rx
  obtain ⟨u1, u2, rfl, ru1, ru2⟩ : ∃ u1 u2, us = [u1, u2] /\ RelV (.int (k : Int)) u1 /\ RelV y u2 := by
    cases rv with
    | cons r1 t1 =>
      cases t1 with
      | cons r2 t2 =>
        cases t2 with
        | nil => exact ⟨_, _, rfl, r1, r2⟩
  obtain ⟨t, rfl⟩ := ru1
  obtain ⟨z, its, n, r, hl, e⟩ := I.lstM hH
  have hsl : sizeLine = 16777216 := sizeLine_eq
  have fit : Builtin.List.listFitsIndex (k : Int) = true := fitsIndex_both (Int.le_trans (show -(2 ^ 63 : Int) <= 0 by decide) (Int.natCast_nonneg k)) (Int.lt_of_lt_of_le (show (k : Int) < 16777216 by rw [hsl] at hz; omega) (by decide))
  have h1 : ¬ (!Builtin.List.listFitsIndex (k : Int)) = true := by rw [fit]; exact Bool.false_ne_true
  have h2 : its.toArray.size <= sizeLine := by rw [List.size_toArray]; omega
  clear rv fit
  generalize hi : (k : Int) = i at *
  refine call_meets F.slot_list_insert ⟨_, e, rfl⟩ F.entry_list_insert (F.args_list_insert_3 _ _ _) (AutoSeq1.list_insert_list_int_val_1 l its.toArray n i t u2 h1 h2) ⟨e, ?_⟩
  refine ⟨.non, _, I.lset (its' := its.take k ++ [u2] ++ its.drop k) hH e ?_ (((r.take k).append (.cons ru2 .nil)).append (r.drop k)) ?_, rfl, q⟩
  . have ek : (if i < 0 then (i + (its.toArray.size : Int)).toNat else min i.toNat its.toArray.size) = k := by
      rw [if_neg (by omega), <- hi, Int.toNat_natCast, List.size_toArray]; omega
    show (its.toArray.extract 0 (if i < 0 then (i + (its.toArray.size : Int)).toNat else min i.toNat its.toArray.size)).push u2 ++ its.toArray.extract (if i < 0 then (i + (its.toArray.size : Int)).toNat else min i.toNat its.toArray.size) = _
    rw [ek]
    simp
    rw [List.take_of_length_le (by rw [List.length_drop]; omega)]
  . rw [List.length_append, List.length_append, List.length_take, List.length_drop]
    simp only [List.length_cons, List.length_nil]
    omega
end
end L2
namespace Rim
open PySem L2 Fr
section
variable {P : Program} {w : World} {K : W.Frag} {mg : Str -> Option Value} {base : Heap} {f : Addr} {fd : FuncData} {n : Nat}
def spTold26 (K : W.Frag) : Sp := fun vs H Q _ => ∃ (ba nl : Addr) (xs : List V) (hs : List House) (ns : List Int) (far : Int) (kt kg : Nat), vs = [.ref ba, .ref nl] /\ BookIn K H ba xs hs far kt kg /\ 1 <= kt /\ 1 <= kg /\ SqL K H nl (ns.map V.int) /\ 1 <= ns.length /\ ns.length <= 100 /\ (∀ m ∈ ns, m.natAbs.log2 < 1920) ∧
  (∀ (r kl : Addr) (H' : Hp), Same H H' -> (∃ m ∈ ns, ¬ Good xs.length m) -> H' r = some (.tup [.non, .ref kl]) -> H' kl = some (.lst (kinL false true false false false false)) -> Q (.ref r) H') ∧
  (∀ (r kl : Addr) (H' : Hp), Same H H' -> (∀ m ∈ ns, Good xs.length m) -> (∃ v ∈ (mgH hs ns kt kg).1 ++ (mgH hs ns kt kg).2, 1000000000 < v) -> H' r = some (.tup [.non, .ref kl]) -> H' kl = some (.lst (kinL false false false false true false)) -> Q (.ref r) H') ∧
  (∀ (r kl m : Addr) (ys : List V) (place : Int) (H' : Hp), Same H H' -> H m = none -> (∀ m ∈ ns, Good xs.length m) -> (∀ v ∈ (mgH hs ns kt kg).1 ++ (mgH hs ns kt kg).2, v <= 1000000000) -> Least ns place -> H' m = some (.lst ys) -> Bk K H' ys (mrgL hs ns kt kg place) -> H' r = some (.tup [.ref m, .ref kl]) -> H' kl = some (.lst []) -> Q (.ref r) H')
theorem scTo26 : FnScope ["book", "numbers", "found", "kin", "e"] ["book", "numbers"] (defScope s__law_told) := ⟨rfl, rfl, rfl, by decide +kernel, rfl, by decide +kernel, by decide +kernel⟩
set_option maxHeartbeats 8000000 in
theorem ok_told26 {cE cB cH cR cT cM cL fa fc : Addr} {da dc : FuncData} (F : Fun K "_law_told" "_law_told" s__law_told f fd) (R : ErrM K mg cE cB cH cR cT cM cL) (MH : KinOf K cH cE cB cH cR cT cM cL false true false false false false) (MM : KinOf K cM cE cB cH cR cT cM cL false false false false true false)
    (Cc : Cal1 P w K mg base n "merged" ["book", "numbers"] (spMrg K cH cM) fa da) (Ck : CalU P w K mg base n "_law_a_kin" ["e"] (spKinG K cE cB cH cR cT cM cL) fc dc) : FnOk P w K mg base CX0 (n + 1) f fd ["book", "numbers"] (spTold26 K) := by
  refine F.ok scTo26 (fun vs H Q E h => ?_) (fun cdv A outer s H vs Q E hr h => ?_)
  . obtain ⟨ba, nl, xs, hs, ns, far, kt, kg, rfl, _⟩ := h
    rfl
  obtain ⟨ba, nl, xs, hs, ns, far, kt, kg, rfl, B, kt1, kg1, hNl, n1, n100, lm, qN, qM, q⟩ := h
  refine ⟨_, pss_cons (ps_set (i := 2) scTo26.nd rfl (Or.inl rfl) pe_non)
    (pss_cons (ps_set (i := 3) scTo26.nd rfl (Or.inl rfl) (pe_lst pa_nil))
    (pss_cons (ps_try (i := 4) R.kE scTo26.nd rfl rfl rfl rfl R.mE
      (fun EX pn WE hx => pss_one (ps_set (i := 2) scTo26.nd rfl (Or.inl rfl) (pe_callX Cc.ok hr rfl Cc.m Cc.k Cc.b hx (pa_cons (pv 0) (pa_cons (pv 1) pa_nil)))))
      (fun ea => pss_one (ps_set (i := 3) scTo26.nd rfl (Or.inl rfl) (pe_callU Ck.ok (hr.u _) rfl Ck.m Ck.k Ck.b (pa_cons (pv 4) pa_nil)))))
    (pss_one (ps_ret (pe_tup (pa_cons (pv 2) (pa_cons (pv 3) pa_nil))))))), ?_⟩
  refine ⟨(by show 0 <= sizeLine; decide), fun kl hkl => ?_⟩
  have s1 := Same.new hkl (.lst [])
  have hkl1 : (upd H kl (.lst [])) kl = some (.lst []) := upd_same
  generalize upd H kl (.lst []) = H1 at *
  have no : ∀ {b : Addr}, H1 b = none -> H b = none := fun {b} h => by
    cases e : H b with
    | none => rfl
    | some o => rw [s1 _ _ e] at h; cases h
  refine ⟨fun σ' C _ H' => σ' = [some (.ref ba), some (.ref nl), some .non, some (.ref kl), none] /\ Same H H' /\ ((C = .ref cH /\ ∃ m ∈ ns, ¬ Good xs.length m) \/ (C = .ref cM /\ (∀ m ∈ ns, Good xs.length m) /\ ∃ v ∈ (mgH hs ns kt kg).1 ++ (mgH hs ns kt kg).2, 1000000000 < v)), ?_, ?_⟩
  . refine ⟨_, rfl, _, rfl, ba, nl, xs, hs, ns, far, kt, kg, rfl, ⟨s1.seq B.l, Bk.same s1 B.b, B.g, B.far, B.few, B.t, B.k⟩, kt1, kg1, s1.seq hNl, n1, n100, lm, fun H2 e2 bad => ⟨rfl, s1.trans e2, .inl ⟨rfl, bad⟩⟩, fun H2 e2 gd big => ⟨rfl, s1.trans e2, .inr ⟨rfl, gd, big⟩⟩, fun m ys pl H2 e2 hm gd fit le hm2 hb => ?_⟩
    refine ⟨_, rfl, _, rfl, (by show 2 <= sizeLine; decide), fun r hr' => ?_⟩
    have s3 := Same.new hr' (.tup [V.ref m, V.ref kl])
    exact q r kl m ys pl _ (s1.trans (e2.trans s3)) (no hm) gd fit le (s3 _ _ hm2) (Bk.same s3 hb) upd_same ((e2.trans s3) _ _ hkl1)
  . rintro σ' H' C ea d' ⟨rfl, e2, hc⟩ hea Da hC
    cases hC
    rcases hc with ⟨hc, bad⟩ | ⟨hc, gd, big⟩
    . cases hc
      refine ⟨MH.k, MH.sub, ?_⟩
      refine ⟨_, rfl, ea, _, _, _, _, _, _, _, rfl, upd_same, MH, fun r2 H3 e3 hr2 => ?_⟩
      refine ⟨_, rfl, _, rfl, (by show 2 <= sizeLine; decide), fun r hr' => ?_⟩
      have s3 := Same.new hr' (.tup [V.non, V.ref r2])
      exact qN r r2 _ (e2.trans ((Same.new hea _).trans (e3.trans s3))) bad upd_same (s3 _ _ hr2)
    . cases hc
      refine ⟨MM.k, MM.sub, ?_⟩
      refine ⟨_, rfl, ea, _, _, _, _, _, _, _, rfl, upd_same, MM, fun r2 H3 e3 hr2 => ?_⟩
      refine ⟨_, rfl, _, rfl, (by show 2 <= sizeLine; decide), fun r hr' => ?_⟩
      have s3 := Same.new hr' (.tup [V.non, V.ref r2])
      exact qM r r2 _ (e2.trans ((Same.new hea _).trans (e3.trans s3))) gd big upd_same (s3 _ _ hr2)
theorem erase_map {α β : Type} (f : α -> β) : ∀ (l : List α) (k : Nat), (l.map f).eraseIdx k = (l.eraseIdx k).map f
  | [], _ => by simp
  | _ :: _, 0 => by simp
  | x :: r, k + 1 => by simp [erase_map f r k]
def spSome (K : W.Frag) : Sp := fun vs H Q _ => ∃ (many : Nat) (pk : Addr) (ds : List Int), vs = [.int (many : Int), .ref pk] /\ 1 <= many /\ many <= 16 /\ SqL K H pk (ds.map V.int) /\ ds.length = 20 /\ (∀ d ∈ ds, 0 <= d) ∧
  ∀ (r : Addr) (ns : List Int) (H' : Hp), Same H H' -> H r = none -> H' r = some (.lst (ns.map V.int)) -> 1 <= ns.length -> ns.length <= 20 -> (∀ m ∈ ns, m.natAbs.log2 < 1920) -> Q (.ref r) H'
theorem scSome : FnScope ["many", "picks", "left", "found", "pick"] ["many", "picks"] (defScope s__law_a_some) := ⟨rfl, rfl, rfl, by decide +kernel, rfl, by decide +kernel, by decide +kernel⟩
set_option maxHeartbeats 8000000 in
noncomputable def someT {cdv : Value} {A : Around} {outer : List Env} {s : Shared} {H : Hp} {E : XK} (T : Nones mg)
    (hr : Room n (A.deeper (PyProof.Rows.envOfC "_law_a_some" (defScope s__law_a_some) s.heap.objs.size f cdv))) :
    { t : TS // PSs (cxOf CX0 P w K mg base ["many", "picks", "left", "found", "pick"] "_law_a_some" (defScope s__law_a_some) f cdv A outer s H E).nox (defBody s__law_a_some) t } :=
  ⟨_, pss_cons (ps_set (i := 2) scSome.nd rfl (Or.inl rfl) (pe_callTy (call_list_rng rfl) rfl T.list PyProof.Rows.boot_list (pa_cons (pe_callTy call_rng1 rfl T.range PyProof.Rows.boot_range (pa_cons (pv 0) pa_nil)) pa_nil)))
    (pss_cons (ps_set (i := 3) scSome.nd rfl (Or.inl rfl) (pe_lst pa_nil))
    (pss_cut (ps_for PassesOwn.never rfl (pi_list (pe_slice sl_list (pv 1) (po_some pe_int) (po_some (pe_op op_add pe_int (pe_op op_mod (pe_ix ix_list (pv 1) pe_int (fun _ _ => rfl)) (pv 0)))))) (pg_name (i := 4) scSome.nd rfl (Or.inl rfl))
      (pss_one (ps_expr (pe_bm PySem.F.plainAttrs_list PySem.F.slot_list_append PySem.F.type_list_append mt_append (pv 3) (pa_cons (pe_bm PySem.F.plainAttrs_list PySem.F.slot_list_pop PySem.F.type_list_pop mt_popAt (pv 2) (pa_cons (pe_op op_mod (pv 4) (pe_callB call_len_seq rfl T.len PySem.boot_len (pa_cons (pv 2) pa_nil))) pa_nil)) pa_nil)))))
    (pss_cut (ps_if (pt_cmpR op_eq (pe_op op_mod (pe_ix ix_list (pv 1) pe_int (fun _ _ => rfl)) pe_int) pe_int (nomark _)) (pss_one (ps_expr (pe_bm PySem.F.plainAttrs_list PySem.F.slot_list_insert PySem.F.type_list_insert mt_insert (pv 3) (pa_cons (pe_op op_mod (pe_ix ix_list (pv 1) pe_int (fun _ _ => rfl)) (pe_op op_add (pe_callB call_len_seq rfl T.len PySem.boot_len (pa_cons (pv 3) pa_nil)) pe_int)) (pa_cons (pe_ix ix_list (pe_lst (pa_cons (pe_un un_neg pe_int) (pa_cons (pv 0) (pa_cons (pe_op op_pow pe_int pe_int) (pa_cons (pe_un un_neg pe_int) pa_nil))))) (pe_op op_mod (pe_ix ix_list (pv 1) pe_int (fun _ _ => rfl)) pe_int) (fun _ _ => rfl)) pa_nil))))) pss_nil)
    (pss_one (ps_ret (pv 3))))))⟩
set_option maxHeartbeats 8000000 in
theorem ok_some (F : Fun K "_law_a_some" "_law_a_some" s__law_a_some f fd) (T : Nones mg) : FnOk P w K mg base CX0 (n + 1) f fd ["many", "picks"] (spSome K) := by
  refine F.ok scSome (fun vs H Q E h => ?_) (fun cdv A outer s H vs Q E hr h => ?_)
  . obtain ⟨many, pk, ds, rfl, _⟩ := h
    rfl
  obtain ⟨many, pk, ds, rfl, m1, m16, hP, dl, d0, q⟩ := h
  refine ⟨_, (someT T hr).2, ?_⟩
  have small := small1000 (show (1000 : Nat) <= 1000 from Nat.le_refl _)
  have at_ : ∀ j : Nat, j < 20 -> ∃ d, ds[j]? = some d /\ 0 <= d := fun j hj => ⟨_, List.getElem?_eq_getElem (by omega), d0 _ (List.getElem_mem _)⟩
  have atV : ∀ {j : Nat} {d : Int}, ds[j]? = some d -> (ds.map V.int)[j]? = some (.int d) := fun h => by rw [List.getElem?_map, h]; rfl
  obtain ⟨p0, hp0, p00⟩ := at_ 0 (by decide)
  obtain ⟨p17, hp17, p170⟩ := at_ 17 (by decide)
  obtain ⟨p18, hp18, p180⟩ := at_ 18 (by decide)
  obtain ⟨p19, hp19, p190⟩ := at_ 19 (by decide)
  refine ⟨_, rfl, _, rfl, fun rg hrg => ?_⟩
  have s1 := Same.new hrg (.rng 0 (many : Int))
  refine ⟨rg, 0, many, rfl, by rw [upd_same, Int.zero_add], by decide, by decide, by omega, fun la hla => ?_⟩
  have s2 := Same.new hla (.lst ((List.range many).map fun (i : Nat) => V.int (0 + (i : Int))))
  refine ⟨(by show 0 <= sizeLine; decide), fun fo hfo => ?_⟩
  have s3 := Same.new hfo (.lst [])
  have lf : la ≠ fo := ne_of_none upd_same hfo
  have e3 := s1.trans (s2.trans s3)
  have hH : ∀ {b : Addr} {H' : Hp} , Same H H' -> H' b = none -> H b = none := fun {b H'} e h => by
    cases z : H b with
    | none => rfl
    | some o => rw [e _ _ z] at h; cases h
  have la0 : H la = none := hH s1 hla
  have fo0 : H fo = none := hH (s1.trans s2) hfo
  have gla : (upd (upd (upd H rg (.rng 0 (many : Int))) la (.lst ((List.range many).map fun (i : Nat) => V.int (0 + (i : Int))))) fo (.lst [])) la = some (.lst (((List.range many).map fun (i : Nat) => (0 + (i : Int))).map V.int)) := by
    rw [List.map_map]; exact s3 _ _ upd_same
  have gfo : (upd (upd (upd H rg (.rng 0 (many : Int))) la (.lst ((List.range many).map fun (i : Nat) => V.int (0 + (i : Int))))) fo (.lst [])) fo = some (.lst []) := upd_same
  generalize upd (upd (upd H rg (.rng 0 (many : Int))) la (.lst ((List.range many).map fun (i : Nat) => V.int (0 + (i : Int))))) fo (.lst []) = G at *
  obtain ⟨c, hc⟩ : ∃ c : Nat, p0 % (many : Int) = (c : Int) := ⟨(p0 % (many : Int)).toNat, by have := Int.emod_nonneg p0 (show (many : Int) ≠ 0 by omega); omega⟩
  have hcm : c < many := by have := Int.emod_lt_of_pos p0 (show (0 : Int) < (many : Int) by omega); omega
  -- the picks
  refine ⟨fun σ' H' => ∃ (o4 : Option V) (ns : List Int), σ' = [some (.int (many : Int)), some (.ref pk), some (.ref la), some (.ref fo), o4] /\ Same H H' /\ H' fo = some (.lst (ns.map V.int)) /\ 1 <= ns.length /\ ns.length <= 16 /\ ∀ m ∈ ns, 0 <= m /\ m < 16, ?_, ?_⟩
  . refine ⟨_, rfl, _, rfl, _, rfl, pk, _, 0, _, rfl, rfl, e3.seq hP, atI_nat (atV hp0), _, rfl, _, _, rfl, rfl, (by show (0 : Int) < (many : Int); omega), _, _, rfl, rfl, _, rfl, pk, _, rfl, e3.seq hP, fun l1 hl1 => ?_⟩
    have ec : cutV (ds.map V.int) (some 1) (some (2 + p0 % (many : Int))) = ((ds.drop 1).take (c + 1)).map V.int := by
      rw [hc, show (2 + (c : Int)) = ((c + 2 : Nat) : Int) by omega, show (1 : Int) = ((1 : Nat) : Int) from rfl, cut_mid _ 1 (c + 2) (by omega) (by rw [List.length_map]; omega), List.map_take, List.map_drop]
      congr 1
    rw [ec]
    have cl : ((ds.drop 1).take (c + 1)).length = c + 1 := by rw [List.length_take, List.length_drop]; omega
    have cd : ∀ d ∈ (ds.drop 1).take (c + 1), 0 <= d := fun d hd => d0 d (List.mem_of_mem_drop (List.mem_of_mem_take hd))
    generalize (ds.drop 1).take (c + 1) = cs at *
    have s4 := Same.new hl1 (.lst (cs.map V.int))
    have nl : ∀ {b o}, G b = some o -> b ≠ l1 := fun hb => ne_of_none hb hl1
    refine ⟨l1, rfl, ⟨_, SqL.of upd_same⟩, ?_⟩
    refine for_list (xs := cs.map V.int) (fun i σ H' => ∃ (o4 : Option V) (lf' ns : List Int), σ = [some (.int (many : Int)), some (.ref pk), some (.ref la), some (.ref fo), o4] /\ Same H H' /\ H' l1 = some (.lst (cs.map V.int)) /\ H' la = some (.lst (lf'.map V.int)) /\ H' fo = some (.lst (ns.map V.int)) /\ lf'.length = many - i /\ ns.length = i /\ (∀ m ∈ lf', 0 <= m /\ m < 16) /\ ∀ m ∈ ns, 0 <= m /\ m < 16)
      ⟨none, _, [], rfl, e3.trans s4, upd_same, s4 _ _ gla, s4 _ _ gfo, by rw [List.length_map, List.length_range]; rfl, rfl, fun m hm => ?_, fun m hm => by cases hm⟩ (fun i σ H' _ ⟨_, _, _, _, _, h, _⟩ => SqL.of h) ?_ ?_
    . obtain ⟨j, hj, rfl⟩ := List.mem_map.mp hm
      have := List.mem_range.mp hj
      omega
    . rintro i x σ H5 hx ⟨o4, lf', ns, rfl, e5, h1, h2, h3, len1, len2, b1, b2⟩
      obtain ⟨d, rfl, hd⟩ := intAt hx
      have hdi := (List.getElem?_eq_some_iff.mp hd).1
      have d0' := cd d (List.mem_of_getElem? hd)
      have lp : 0 < lf'.length := by omega
      refine ⟨_, rfl, ?_⟩
      refine ⟨.inl ⟨rfl, _, SqL.of h3⟩, _, rfl, .inl ⟨rfl, _, SqL.of h2⟩, _, rfl, _, rfl, la, _, rfl, .inl (SqL.of h2), _, _, rfl, rfl, (by show (0 : Int) < ((lf'.map V.int).length : Int); rw [List.length_map]; omega), ?_⟩
      have ll : ((lf'.map V.int).length : Int) = (lf'.length : Int) := by rw [List.length_map]
      have r0 := Int.emod_nonneg d (show (lf'.length : Int) ≠ 0 by omega)
      have r1 := Int.emod_lt_of_pos d (show (0 : Int) < (lf'.length : Int) by omega)
      obtain ⟨k, hk⟩ : ∃ k : Nat, d % (lf'.length : Int) = (k : Int) := ⟨(d % (lf'.length : Int)).toNat, by omega⟩
      rw [hk] at r1
      have hk' : d % ((lf'.map V.int).length : Int) = (k : Int) := by rw [ll]; exact hk
      have kl : k < lf'.length := by omega
      have ix : seqIndex? (k : Int) (lf'.map V.int).length = some k := by
        have := (ixN_seq (ixN_at (n := (lf'.map V.int).length) (i := k) (by rw [List.length_map]; exact kl))).1
        exact this
      have yk : (lf'.map V.int)[k]? = some (.int lf'[k]) := by rw [List.getElem?_map, List.getElem?_eq_getElem kl]; rfl
      have lafo : fo ≠ la := Ne.symm lf
      refine ⟨la, _, d % ((lf'.map V.int).length : Int), k, _, rfl, rfl, h2, by rw [hk']; omega, by rw [hk']; omega, by rw [hk']; exact ix, yk, ?_⟩
      have h3' : (upd H5 la (.lst ((lf'.map V.int).eraseIdx k))) fo = some (.lst (ns.map V.int)) := by rw [upd_ne lafo]; exact h3
      refine ⟨fo, _, _, rfl, rfl, h3', by rw [List.length_map]; exact small1000 (by omega), ?_⟩
      have n1 : l1 ≠ la := Ne.symm (nl gla)
      have n2 : l1 ≠ fo := Ne.symm (nl gfo)
      refine ⟨_, lf'.eraseIdx k, ns ++ [lf'[k]], rfl, (e5.write la0).write fo0, ?_, ?_, ?_, ?_, ?_, fun m hm => b1 m (List.mem_of_mem_eraseIdx hm), fun m hm => ?_⟩
      . rw [upd_ne n2, upd_ne n1]; exact h1
      . rw [upd_ne lf, upd_same, erase_map]
      . rw [upd_same, List.map_append]; rfl
      . rw [List.length_eraseIdx, if_pos kl]; omega
      . rw [List.length_append, len2]; rfl
      . rcases List.mem_append.mp hm with z | z
        . exact b2 m z
        . rw [List.mem_singleton.mp z]; exact b1 _ (List.getElem_mem kl)
    . rintro σ H' ⟨o4, lf', ns, rfl, e, _, _, h3, _, len2, _, b2⟩
      rw [List.length_map, cl] at len2
      exact ⟨o4, ns, rfl, e, h3, by omega, by omega, b2⟩
  intro σ6 H6 hM_; refine gen2 fun G_ hG_ => ?_; obtain ⟨o4, ns, rfl, e6, hfo6, n1, n16, bn⟩ := hM_; subst hG_
  have lgs : ∀ m ∈ ns, m.natAbs.log2 < 1920 := fun m hm => by
    obtain ⟨z0, z1⟩ := bn m hm
    have := log_nat (j := m.toNat) (by omega)
    rwa [Int.toNat_of_nonneg z0] at this
  -- one that is none
  refine ⟨fun σ' H' => ∃ (o4 : Option V) (ns : List Int), σ' = [some (.int (many : Int)), some (.ref pk), some (.ref la), some (.ref fo), o4] /\ Same H H' /\ H' fo = some (.lst (ns.map V.int)) /\ 1 <= ns.length /\ ns.length <= 20 /\ ∀ m ∈ ns, m.natAbs.log2 < 1920, ?_, ?_⟩
  . refine ⟨_, rfl, pk, _, 18, _, rfl, rfl, e6.seq hP, atI_nat (j := 18) (atV hp18), _, _, rfl, rfl, (by show (0 : Int) < 5; decide), rfl, _, rfl, ite2 (fun _ => ?_) (fun _ => ⟨o4, ns, rfl, e6, hfo6, n1, by omega, lgs⟩)⟩
    refine ⟨_, rfl, .inl ⟨rfl, _, SqL.of hfo6⟩, _, rfl, pk, _, 19, _, rfl, rfl, e6.seq hP, atI_nat (j := 19) (atV hp19), _, rfl, fo, _, rfl, .inl (SqL.of hfo6), _, _, rfl, rfl, _, _, rfl, rfl, (by show (0 : Int) < ((ns.map V.int).length : Int) + 1; omega), ?_⟩
    refine ⟨_, rfl, _, rfl, _, _, rfl, rfl, ⟨by decide, by decide, by decide⟩, _, rfl, (by show 4 <= sizeLine; decide), fun l4 hl4 => ?_⟩
    dsimp only
    generalize hnv : [V.int (-1), V.int (many : Int), V.int (10 ^ (30 : Int).toNat), V.int (-7)] = nv at *
    have s1' := Same.new hl4 (.lst nv)
    obtain ⟨m, hm⟩ : ∃ m : Nat, p17 % 4 = (m : Int) := ⟨(p17 % 4).toNat, by omega⟩
    have hm4 : m < 4 := by omega
    obtain ⟨v, hv⟩ : ∃ v, nv[m]? = some v := ⟨_, List.getElem?_eq_getElem (by rw [<- hnv]; exact hm4)⟩
    have key : ∃ x : Int, v = .int x /\ x.natAbs.log2 < 1920 := by
      have := List.mem_of_getElem? hv
      rw [<- hnv] at this
      simp only [List.mem_cons, List.not_mem_nil, or_false] at this
      rcases this with rfl | rfl | rfl | rfl
      . exact ⟨_, rfl, by decide⟩
      . exact ⟨_, rfl, log_nat (by omega)⟩
      . exact ⟨_, rfl, by decide +kernel⟩
      . exact ⟨_, rfl, by decide⟩
    obtain ⟨x, rfl, lx⟩ := key
    have lnn : ((ns.map V.int).length : Int) = (ns.length : Int) := by rw [List.length_map]
    have r0 := Int.emod_nonneg p19 (show ((ns.length : Int) + 1) ≠ 0 by omega)
    have r1 := Int.emod_lt_of_pos p19 (show (0 : Int) < (ns.length : Int) + 1 by omega)
    obtain ⟨k, hk⟩ : ∃ k : Nat, p19 % ((ns.length : Int) + 1) = (k : Int) := ⟨(p19 % ((ns.length : Int) + 1)).toNat, by omega⟩
    rw [hk] at r1
    have hk' : p19 % (((ns.map V.int).length : Int) + 1) = (k : Int) := by rw [lnn]; exact hk
    have fo8 := s1' _ _ hfo6
    refine ⟨_, rfl, pk, _, 17, _, rfl, rfl, (e6.trans s1').seq hP, atI_nat (j := 17) (atV hp17), _, _, rfl, rfl, (by show (0 : Int) < 4; decide), l4, nv, _, _, rfl, rfl, SqL.of upd_same, (by rw [hm]; exact atI_nat hv), ?_⟩
    refine ⟨fo, _, k, .int x, rfl, (by rw [hk']), fo8, by rw [List.length_map]; omega, by rw [List.length_map]; exact small1000 (by omega), ?_⟩
    refine ⟨o4, ns.take k ++ [x] ++ ns.drop k, rfl, (e6.trans s1').write fo0, ?_, ?_, ?_, fun m hm => ?_⟩
    . rw [upd_same]; simp
    . simp; omega
    . simp; omega
    . rcases List.mem_append.mp hm with z | z
      . rcases List.mem_append.mp z with z | z
        . exact lgs m (List.mem_of_mem_take z)
        . rw [List.mem_singleton.mp z]; exact lx
      . exact lgs m (List.mem_of_mem_drop z)
  rintro σ7 H7 ⟨o4, ns, rfl, e7, hfo7, n1, n20, lg⟩
  exact ⟨_, rfl, q fo ns H7 e7 fo0 hfo7 n1 n20 lg⟩
end
end Rim
namespace Rim
open PySem L2 Fr
section
variable {b1 b2 : Bool} {xs ys : List V} {K : W.Frag} {l1 l2 : Addr} {fr : List Nat} {te : TE} {σ : St} {H1 : Hp} {p : Addr} {D : Hp -> Prop}
theorem lc_zgI (h1 : SqB b1 K H1 l1 xs) (h2 : SqB b2 K H1 l2 ys) (hp : H1 p = none) (hz : xs.length < sizeLine) (F : Nat -> V)
    (step : ∀ (i : Nat) x y H (N : VK), xs[i]? = some x -> ys[i]? = some y -> Same H1 H -> N (F i) H -> te (((blkσ 2 fr σ).set 0 (some x)).set 1 (some y)) H N)
    (hd : ∀ H, Same H1 H -> H p = some (.lst ((List.range (min xs.length ys.length)).map F)) -> D H) : lcW 2 fr (gTup K 2 (gCons (gName 0) (gCons (gName 1) gNil))) te σ (Itg b1 b2 K l1 l2) H1 p D := by
  refine lc_zgS h1 h2 hp hz (fun i v _ => v = F i) (fun _ _ _ _ r _ => r) (fun i x y H zs N hx hy e _ hN => step i x y H N hx hy e (hN _ _ (Same.refl _) rfl)) fun zs H e hH hl hr => hd H e ?_
  rw [hH]
  congr 2
  refine List.ext_getElem? fun i => ?_
  by_cases hi : i < min xs.length ys.length
  . rw [List.getElem?_eq_getElem (by omega), List.getElem?_map, List.getElem?_range hi, hr i _ (List.getElem?_eq_getElem (by omega))]; rfl
  . rw [List.getElem?_eq_none (by omega), List.getElem?_eq_none (by rw [List.length_map, List.length_range]; omega)]
end
section
variable {P : Program} {w : World} {K : W.Frag} {mg : Str -> Option Value} {base : Heap} {f : Addr} {fd : FuncData} {n : Nat}
def spDue26 (K : W.Frag) : Sp := fun vs H Q _ => ∃ (ba nl : Addr) (xs : List V) (hs : List House) (ns : List Int) (far : Int) (kt kg : Nat), vs = [.ref ba, .ref nl] /\ BookIn K H ba xs hs far kt kg /\ 1 <= hs.length /\ 1 <= kt /\ 1 <= kg /\ SqL K H nl (ns.map V.int) /\ 1 <= ns.length /\ ns.length <= 100 ∧
  (∀ (H' : Hp), Same H H' -> (∃ m ∈ ns, ¬ Good xs.length m) -> Q (.str "NoHouse") H') ∧
  (∀ (H' : Hp), Same H H' -> (∀ m ∈ ns, Good xs.length m) -> (∃ v ∈ (mgH hs ns kt kg).1 ++ (mgH hs ns kt kg).2, 1000000000 < v) -> Q (.str "TooMany") H') ∧
  (∀ (r : Addr) (ys : List V) (place : Int) (H' : Hp), Same H H' -> (∀ m ∈ ns, Good xs.length m) -> (∀ v ∈ (mgH hs ns kt kg).1 ++ (mgH hs ns kt kg).2, v <= 1000000000) -> Least ns place -> H' r = some (.lst ys) -> Bk K H' ys (mrgL hs ns kt kg place) -> Q (.ref r) H')
theorem scDue26 : FnScope ["book", "numbers", "both", "side", "sums", "k", "found"] ["book", "numbers"] (defScope s__law_a_due) := ⟨rfl, rfl, rfl, by decide +kernel, rfl, by decide +kernel, by decide +kernel⟩
theorem ndDu1 : (["k", "book"] : List Str).Nodup := by decide +kernel
theorem ndDu2 : (["one", "other"] : List Str).Nodup := by decide +kernel
set_option maxHeartbeats 8000000 in
noncomputable def dueT {cdv : Value} {A : Around} {outer : List Env} {s : Shared} {H : Hp} {E : XK} (T : Nones mg)
    (hr : Room n (A.deeper (PyProof.Rows.envOfC "_law_a_due" (defScope s__law_a_due) s.heap.objs.size f cdv))) :
    { t : TS // PSs (cxOf CX0 P w K mg base ["book", "numbers", "both", "side", "sums", "k", "found"] "_law_a_due" (defScope s__law_a_due) f cdv A outer s H E).nox (defBody s__law_a_due) t } :=
  ⟨_, pss_cut (ps_if (pt_cmpR (op_neD hr) (pe_lcI ["k"] [0] rfl (pi_list (pv 1)) (fun _ _ _ _ => pg_name (i := 0) ndDu1 rfl (Or.inl rfl)) (fun _ _ _ _ => PW.pt (pw_or (pt_cmpR op_lt (pv 0) pe_int (nomark _)) (pw_or1 (pt_cmpR op_ge (pv 0) (pe_callB (len_at K rfl) rfl T.len PySem.boot_len (pa_cons (pv 1) pa_nil)) (nomark _))))) (fun _ _ _ _ => pv 0)) (pe_lst pa_nil) (nomark _)) (pss_one (ps_ret pe_str)) pss_nil)
    (pss_cons (ps_set (i := 2) scDue26.nd rfl (Or.inl rfl) (pe_lst pa_nil))
    (pss_cut (ps_for PassesOwn.never rfl (pi_range1 rfl T.range (pa_cons pe_int pa_nil)) (pg_name (i := 3) scDue26.nd rfl (Or.inl rfl))
      (pss_cons (ps_set (i := 4) scDue26.nd rfl (Or.inl rfl) (pe_op op_rep (pe_lst (pa_cons pe_int pa_nil)) (pe_callB call_len_seq rfl T.len PySem.boot_len (pa_cons (pe_ix ix_tup (pe_ix ix_list (pv 0) pe_int (fun _ _ => rfl)) (pv 3) (fun _ _ => rfl)) pa_nil))))
      (pss_cut (ps_for PassesOwn.never rfl (pi_list (pv 1)) (pg_name (i := 5) scDue26.nd rfl (Or.inl rfl))
        (pss_one (ps_lc (i := 4) ["one", "other"] [] scDue26.nd rfl rfl rfl (pi_zg true false K rfl rfl T.zip (pa_cons (pv 4) (pa_cons (pe_ix ix_tup (pe_ix ix_list (pv 0) (pv 5) (fun _ _ => rfl)) (pv 3) (fun _ _ => rfl)) pa_nil)))
          (fun _ _ _ _ => pgt_at K (n := 2) rfl rfl (pgs_cons (pg_name (i := 0) ndDu2 rfl (Or.inl rfl)) (pgs_cons (pg_name (i := 1) ndDu2 rfl (Or.inl rfl)) pgs_nil))) (fun _ _ _ _ => pe_op op_add (pv 0) (pv 1)))))
      (pss_one (ps_expr (pe_bm PySem.F.plainAttrs_list PySem.F.slot_list_append PySem.F.type_list_append mt_append (pv 2) (pa_cons (pe_callTy call_tuple_of rfl T.tuple PyProof.Rows.boot_tuple (pa_cons (pv 4) pa_nil)) pa_nil)))))))
    (pss_cut (ps_if (pt_cmpR op_gt (pe_callB (call_max1 rfl) rfl T.max PyProof.Rows.boot_max (pa_cons (pe_op op_catT (pe_ix ix_list (pv 2) pe_int (fun _ _ => rfl)) (pe_ix ix_list (pv 2) pe_int (fun _ _ => rfl))) pa_nil)) (pe_op op_pow pe_int pe_int) (nomark _)) (pss_one (ps_ret pe_str)) pss_nil)
    (pss_cons (ps_set (i := 6) scDue26.nd rfl (Or.inl rfl) (pe_lst pa_nil))
    (pss_cons (ps_for PassesOwn.never rfl (pi_range1 rfl T.range (pa_cons (pe_callB call_len_seq rfl T.len PySem.boot_len (pa_cons (pv 0) pa_nil)) pa_nil)) (pg_name (i := 5) scDue26.nd rfl (Or.inl rfl))
      (pss_one (ps_if (pt_cmpR op_eq (pv 5) (pe_callB (call_min1 rfl) rfl T.min PyProof.Rows.boot_min (pa_cons (pv 1) pa_nil)) (nomark _))
        (pss_one (ps_expr (pe_bm PySem.F.plainAttrs_list PySem.F.slot_list_append PySem.F.type_list_append mt_append (pv 6) (pa_cons (pe_tup (pa_cons (pe_ix ix_list (pv 2) pe_int (fun _ _ => rfl)) (pa_cons (pe_ix ix_list (pv 2) pe_int (fun _ _ => rfl)) pa_nil))) pa_nil))))
        (pss_one (ps_if (pt_cmpR op_notIn_seq (pv 5) (pv 1) rfl) (pss_one (ps_expr (pe_bm PySem.F.plainAttrs_list PySem.F.slot_list_append PySem.F.type_list_append mt_append (pv 6) (pa_cons (pe_ix ix_list (pv 0) (pv 5) (fun _ _ => rfl)) pa_nil)))) pss_nil)))))
    (pss_one (ps_ret (pv 6))))))))⟩
theorem flat_one' {α : Type} (x : α) : ∀ k : Nat, (List.replicate k [x]).flatten = List.replicate k x
  | 0 => rfl
  | k + 1 => by rw [List.replicate_succ, List.flatten_cons, flat_one' x k, List.replicate_succ]; rfl
def badI (k : Nat) (m : Int) : Bool := decide (m < 0) || decide ((k : Int) <= m)
def badV (k : Nat) : V -> Bool
  | .int m => badI k m
  | _ => false
theorem bad_filter (k : Nat) : ∀ ns : List Int, (ns.map V.int).filter (badV k) = (ns.filter (badI k)).map V.int
  | [] => rfl
  | x :: r => by
    rw [List.map_cons, List.filter_cons, List.filter_cons, bad_filter k r]
    show (if badI k x = true then _ else _) = _
    split <;> rfl
theorem good_iff (k : Nat) (m : Int) : badI k m = false ↔ Good k m := by
  unfold badI Good
  simp only [Bool.or_eq_false_iff, decide_eq_false_iff_not]
  omega
theorem side_at {H : Hp} {v : V} {h : House} {i : Nat} (x : HS K H v h) (hi : i < 2) : ∃ (a sa : Addr) (vs : List V), v = .ref a /\ SqT K H a vs /\ atI vs (0 + (i : Int)) = some (.ref sa) /\ SqT K H sa ((sideJ i h).map V.int) := by
  obtain ⟨a, t0, g0, rfl, p1, p2, p3⟩ := x
  rw [Int.zero_add]
  match i, hi with
  | 0, _ => exact ⟨a, t0, _, rfl, p1, pair0 _ _, p2⟩
  | 1, _ => exact ⟨a, g0, _, rfl, p1, pair1 _ _, p3⟩
theorem tog_zero (rows : List (List Int)) (k : Nat) : (togL (rows.take 0) k).map V.int = List.replicate k (V.int 0) := by
  unfold togL col
  rw [List.take_zero]
  refine List.ext_getElem? fun i => ?_
  rw [List.getElem?_map, List.getElem?_map, List.getElem?_replicate]
  by_cases h : i < k
  . rw [List.getElem?_range h, if_pos h]; rfl
  . rw [List.getElem?_eq_none (by rw [List.length_range]; omega), if_neg h]; rfl
theorem paired_snoc {α β : Type} {R : α -> β -> Prop} {x : α} {y : β} (r : R x y) : ∀ {xs : List α} {ys : List β}, Paired R xs ys -> Paired R (xs ++ [x]) (ys ++ [y])
  | _, _, .nil => .cons r .nil
  | _, _, .cons q t => .cons q (paired_snoc r t)
theorem tog_succ {rows : List (List Int)} {k j : Nat} {row : List Int} (h : rows[j]? = some row) (hl : row.length = k) (i : Nat) (hi : i < k) : (togL (rows.take (j + 1)) k).getD i 0 = (togL (rows.take j) k).getD i 0 + row.getD i 0 := by
  have hj := (List.getElem?_eq_some_iff.mp h)
  unfold togL
  rw [List.getD_eq_getElem?_getD, List.getD_eq_getElem?_getD, List.getElem?_map, List.getElem?_map, List.getElem?_range hi]
  show (col (rows.take (j + 1)) i).sum = (col (rows.take j) i).sum + row.getD i 0
  unfold col
  rw [List.take_succ, h, List.map_append, List.sum_append]
  simp
set_option maxHeartbeats 8000000 in
theorem ok_due26 (F : Fun K "_law_a_due" "_law_a_due" s__law_a_due f fd) (T : Nones mg) : FnOk P w K mg base CX0 (n + 1) f fd ["book", "numbers"] (spDue26 K) := by
  refine F.ok scDue26 (fun vs H Q E h => ?_) (fun cdv A outer s H vs Q E hr h => ?_)
  . obtain ⟨ba, nl, xs, hs, ns, far, kt, kg, rfl, _⟩ := h
    rfl
  obtain ⟨ba, nl, xs, hs, ns, far, kt, kg, rfl, B, h1, kt1, kg1, hNl, n1, n100, qN, qM, q⟩ := h
  refine ⟨_, (dueT T hr).2, ?_⟩
  have xl : xs.length = hs.length := Paired.length B.b
  have few := B.few
  have bt := B.t
  have bk := B.k
  have small := small1000 (show (1000 : Nat) <= 1000 from Nat.le_refl _)
  have le0 : PyData.canLay0 (.list []) = true := by rw [PyData.canLay0, PyData.canLayAll0]
  have dp0 : (PyData.list []).depth <= 60 := by rw [PyData.depth, PyData.depthAll]; decide
  -- none
  refine ⟨fun σ' H' => σ' = [some (.ref ba), some (.ref nl), none, none, none, none, none] /\ Same H H' /\ ∀ m ∈ ns, Good xs.length m, ?_, ?_⟩
  . refine ⟨_, rfl, nl, rfl, ⟨_, hNl⟩, fun p hp => ?_⟩
    refine lc_pick (itIs_list hNl) hp (by rw [List.length_map]; exact small1000 (by omega)) (badV xs.length) (fun i x H' N hx e hN => ?_) ?_
    . obtain ⟨m, rfl, hm⟩ := intAt hx
      have eb : badV xs.length (.int m) = (decide (m < 0) || decide ((xs.length : Int) <= m)) := rfl
      rw [eb] at hN
      refine ⟨_, rfl, _, _, rfl, rfl, _, rfl, ite2 (fun c => ?_) (fun c => ?_)⟩
      . have : decide (m < 0) = true := c
        rw [this] at hN; exact hN
      . have : decide (m < 0) = false := Bool.eq_false_iff.mpr c
        rw [this, Bool.false_or] at hN
        exact ⟨_, rfl, _, rfl, ba, _, rfl, .inl (e.seq B.l), _, _, rfl, rfl, _, rfl, hN⟩
    rw [bad_filter]
    have s1 := Same.new hp (.lst ((ns.filter (badI xs.length)).map V.int))
    refine ⟨(by show 0 <= sizeLine; decide), fun el hel => ?_⟩
    have s2 := Same.new hel (.lst [])
    refine ⟨.list ((ns.filter (badI xs.length)).map PyData.int), .list [], .lst (SqL.of (s2 _ _ upd_same)) (dps_ints _), .lst (SqL.of upd_same) .nil, by rw [PyData.canLay0]; exact lay_ints _, le0, Nat.le_trans (Nat.min_le_right _ _) dp0, _, rfl, ?_⟩
    have s12 := s1.trans s2
    generalize upd (upd H p (.lst ((ns.filter (badI xs.length)).map V.int))) el (.lst []) = H2 at *
    cases hb : ns.filter (badI xs.length) with
    | nil =>
      rw [List.map_nil, eqv_refl _ le0]
      refine iteF ⟨rfl, s12, fun m hm => ?_⟩
      rw [<- good_iff]
      cases e : badI xs.length m with
      | false => rfl
      | true =>
        have : m ∈ ns.filter (badI xs.length) := List.mem_filter.mpr ⟨hm, e⟩
        rw [hb] at this; cases this
    | cons m r =>
      have hm : m ∈ ns.filter (badI xs.length) := by rw [hb]; exact List.mem_cons_self
      obtain ⟨hm1, hm2⟩ := List.mem_filter.mp hm
      have ef : PyData.eqv (.list (((m :: r)).map PyData.int)) (.list []) = false := by
        rw [List.map_cons]; rfl
      rw [ef]
      exact iteT (qN _ s12 ⟨m, hm1, fun z => by rw [(good_iff _ _).mpr z] at hm2; cases hm2⟩)
  rintro σ1 H1 ⟨rfl, e1, gd⟩
  have hol : (hsOf hs ns).length = ns.length := by unfold hsOf; rw [List.length_map]
  have ofg : ∀ {j : Nat} {m : Int}, ns[j]? = some m -> ∃ (k : Nat) (v : V) (h : House), m = (k : Int) /\ xs[k]? = some v /\ HS K H v h /\ (hsOf hs ns)[j]? = some h /\ h ∈ hs := fun {j m} hm => by
    have g := gd m (List.mem_of_getElem? hm)
    obtain ⟨k, rfl⟩ : ∃ k : Nat, m = (k : Int) := ⟨m.toNat, by have := g.1; omega⟩
    have hk : k < xs.length := by have := g.2; omega
    obtain ⟨h, hh, hs'⟩ := Paired.at B.b (List.getElem?_eq_getElem hk)
    refine ⟨k, _, h, rfl, List.getElem?_eq_getElem hk, hs', ?_, List.mem_of_getElem? hh⟩
    unfold hsOf
    rw [List.getElem?_map, hm, Option.map_some, Int.toNat_natCast, List.getD_eq_getElem?_getD, hh]; rfl
  have kkl : ∀ (i : Nat) (h : House), h ∈ hs -> (sideJ i h).length = if i = 0 then kt else kg := fun i h hh => by
    unfold sideJ
    split
    . exact (B.g h hh).lt
    . exact (B.g h hh).lg
  obtain ⟨v0, hv0⟩ : ∃ v, xs[0]? = some v := ⟨_, List.getElem?_eq_getElem (by omega)⟩
  obtain ⟨h0, hh0, hs0⟩ := Paired.at B.b hv0
  refine ⟨(by show 0 <= sizeLine; decide), fun bo hbo => ?_⟩
  have s2 := Same.new hbo (.lst [])
  have bo0 : H bo = none := by
    cases z : H bo with
    | none => rfl
    | some o => rw [e1 _ _ z] at hbo; cases hbo
  have gbo : (upd H1 bo (.lst [])) bo = some (.lst []) := upd_same
  have e2 := e1.trans s2
  generalize upd H1 bo (.lst []) = H2 at *
  -- the sums
  refine ⟨fun σ' H' => ∃ (o3 o4 o5 : Option V) (t g : Addr), σ' = [some (.ref ba), some (.ref nl), some (.ref bo), o3, o4, o5, none] /\ Same H H' /\ H' bo = some (.lst [.ref t, .ref g]) /\ H' t = some (.tup ((mgH hs ns kt kg).1.map V.int)) /\ H' g = some (.tup ((mgH hs ns kt kg).2.map V.int)), ?_, ?_⟩
  . refine ⟨_, rfl, by decide, by decide, ?_⟩
    refine for_range (n := 2) (fun i σ H' => ∃ (o3 o4 o5 : Option V) (ts : List V), σ = [some (.ref ba), some (.ref nl), some (.ref bo), o3, o4, o5, none] /\ Same H H' /\ H' bo = some (.lst ts) /\ ts.length = i /\ ∀ (j : Nat) v, ts[j]? = some v -> ∃ a, v = .ref a /\ H' a = some (.tup ((togL ((hsOf hs ns).map (sideJ j)) (if j = 0 then kt else kg)).map V.int)))
      ⟨_, _, _, [], rfl, e2, gbo, rfl, fun j v hv => by simp at hv⟩ ?_ ?_
    . rintro i σ H3 hi ⟨o3, o4, o5, ts, rfl, e3, hbo3, tl, pt⟩
      obtain ⟨a0, sa0, vs0, rfl, w1, w2, w3⟩ := side_at (i := i) hs0 hi
      have l0 : (sideJ i h0).length = if i = 0 then kt else kg := kkl i h0 (List.mem_of_getElem? hh0)
      have kk20 : (if i = 0 then kt else kg) <= 20 := by split <;> omega
      generalize hkk : (if i = 0 then kt else kg) = kk at *
      refine ⟨(by show 1 <= sizeLine; decide), fun l1 hl1 => ?_⟩
      have s4 := Same.new hl1 (.lst [V.int 0])
      have e4 := e3.trans s4
      refine ⟨_, rfl, ba, _, 0, _, rfl, rfl, e4.seq B.l, atI_nat (j := 0) hv0, _, rfl, a0, _, _, _, rfl, rfl, e4.tseq w1, w2, sa0, _, rfl, .inr (e4.tseq w3), l1, _, _, rfl, rfl, upd_same, by simp <;> omega, by simp <;> omega, by simp <;> omega, fun sl hsl => ?_⟩
      rw [Int.toNat_natCast, flat_one', List.length_map, l0]
      have s5 := Same.new hsl (.lst (List.replicate kk (V.int 0)))
      have s35 := s4.trans s5
      have gsl : (upd (upd H3 l1 (.lst [V.int 0])) sl (.lst (List.replicate kk (V.int 0)))) sl = some (.lst (List.replicate kk (V.int 0))) := upd_same
      generalize upd (upd H3 l1 (.lst [V.int 0])) sl (.lst (List.replicate kk (V.int 0))) = H5 at *
      have hrl : ((hsOf hs ns).map (sideJ i)).length = ns.length := by rw [List.length_map]; exact hol
      have hrow : ∀ {j : Nat} {h : House}, (hsOf hs ns)[j]? = some h -> ((hsOf hs ns).map (sideJ i))[j]? = some (sideJ i h) := fun hh => by rw [List.getElem?_map, hh]; rfl
      generalize hrs : (hsOf hs ns).map (sideJ i) = rows at *
      refine ⟨fun σ' H' => ∃ (sl : Addr) (o5 : Option V), σ' = [some (.ref ba), some (.ref nl), some (.ref bo), some (.int (0 + (i : Int))), some (.ref sl), o5, none] /\ Same H3 H' /\ H' sl = some (.lst ((togL rows kk).map V.int)), ?_, ?_⟩
      . refine ⟨_, rfl, nl, rfl, ⟨_, (e3.trans s35).seq hNl⟩, ?_⟩
        refine for_list (xs := ns.map V.int) (fun j σ H' => ∃ (sl : Addr) (o5 : Option V), σ = [some (.ref ba), some (.ref nl), some (.ref bo), some (.int (0 + (i : Int))), some (.ref sl), o5, none] /\ Same H3 H' /\ H' sl = some (.lst ((togL (rows.take j) kk).map V.int)))
          ⟨sl, _, rfl, s35, by rw [tog_zero]; exact gsl⟩ (fun j σ H' _ ⟨_, _, _, e, _⟩ => (e3.trans e).seq hNl) ?_ ?_
        . rintro j x σ H6 hx ⟨sl, o5, rfl, e6, g6⟩
          obtain ⟨m, rfl, hm⟩ := intAt hx
          obtain ⟨k, v, h, rfl, hxv, hHS, hho, hhm⟩ := ofg hm
          obtain ⟨a, sa, vs, rfl, x1, x2, x3⟩ := side_at (i := i) hHS hi
          have e06 := e3.trans e6
          have lr : (sideJ i h).length = kk := by rw [<- hkk]; exact kkl i h hhm
          refine ⟨_, rfl, _, rfl, _, rfl, ba, _, _, _, rfl, rfl, e06.seq B.l, atI_nat hxv, _, rfl, a, _, _, _, rfl, rfl, e06.tseq x1, x2, sl, sa, rfl, ⟨_, SqL.of g6⟩, ⟨_, e06.tseq x3⟩, fun p hp => ?_⟩
          refine lc_zgI (b1 := true) (b2 := false) (SqL.of g6) (e06.tseq x3) hp (by rw [List.length_map, tog_len]; exact small1000 (by omega)) (fun y => .int ((togL (rows.take j) kk).getD y 0 + (sideJ i h).getD y 0)) (fun y u v' H7 N hu hv' e7 hN => ?_) (fun H7 e7 hp7 => ?_)
          . obtain ⟨u1, rfl, hu1⟩ := intAt hu
            obtain ⟨u2, rfl, hu2⟩ := intAt hv'
            have q1 : (togL (rows.take j) kk).getD y 0 = u1 := by rw [List.getD_eq_getElem?_getD, hu1]; rfl
            have q2 : (sideJ i h).getD y 0 = u2 := by rw [List.getD_eq_getElem?_getD, hu2]; rfl
            rw [q1, q2] at hN
            exact ⟨_, rfl, _, rfl, _, _, rfl, rfl, hN⟩
          . refine ⟨p, _, rfl, e6.trans e7, ?_⟩
            rw [hp7]
            congr 2
            refine List.ext_getElem? fun y => ?_
            rw [List.length_map, List.length_map, tog_len, lr, Nat.min_self, List.getElem?_map, List.getElem?_map]
            by_cases hy : y < kk
            . rw [List.getElem?_range hy]
              have := tog_succ (hrow hho) lr y hy
              rw [List.getElem?_eq_getElem (by rw [tog_len]; exact hy)]
              rw [List.getD_eq_getElem?_getD, List.getElem?_eq_getElem (by rw [tog_len]; exact hy)] at this
              show some (V.int _) = some (V.int _)
              rw [<- this]; rfl
            . rw [List.getElem?_eq_none (by rw [List.length_range]; omega), List.getElem?_eq_none (by rw [tog_len]; omega)]; rfl
        . rintro σ H' ⟨sl, o5, rfl, e, g⟩
          refine ⟨sl, o5, rfl, e, ?_⟩
          rw [g, List.length_map, <- hrl, List.take_length]
      intro σ6 H6 hM_; refine gen2 fun G_ hG_ => ?_; obtain ⟨sl', o5', rfl, e6, g6⟩ := hM_; subst hG_
      have bo6 := e6 _ _ hbo3
      refine ⟨_, rfl, .inl ⟨rfl, _, SqL.of bo6⟩, _, rfl, sl', _, rfl, .inl ⟨SqL.of g6, fun l hl => ?_⟩⟩
      have s7 := Same.new hl (.tup ((togL rows kk).map V.int))
      refine ⟨bo, ts, .ref l, rfl, rfl, s7 _ _ bo6, by rw [tl]; exact small1000 (by omega), ?_⟩
      have nbo : ∀ {b o}, (upd H6 l (.tup ((togL rows kk).map V.int))) b = some o -> (∀ z, o ≠ .lst z) -> b ≠ bo := fun hb hn z => by rw [z, s7 _ _ bo6] at hb; exact hn _ (Option.some.inj hb).symm
      refine ⟨_, _, _, ts ++ [.ref l], rfl, ((e3.trans e6).trans s7).write bo0, upd_same, by rw [List.length_append, tl]; rfl, fun j v hv => ?_⟩
      by_cases hj : j < ts.length
      . rw [List.getElem?_append_left hj] at hv
        obtain ⟨a, rfl, ha⟩ := pt j v hv
        have ha7 := (e6.trans s7) _ _ ha
        exact ⟨a, rfl, by rw [upd_ne (nbo ha7 nofun)]; exact ha7⟩
      . rw [List.getElem?_append_right (by omega)] at hv
        have : j = ts.length := by
          by_cases z : j - ts.length = 0
          . omega
          . rw [List.getElem?_eq_none (by simp; omega)] at hv; cases hv
        subst this
        rw [Nat.sub_self] at hv; cases hv
        refine ⟨l, rfl, ?_⟩
        rw [upd_ne (nbo upd_same nofun), upd_same, tl, hkk, hrs]
    . rintro σ H' ⟨o3, o4, o5, ts, rfl, e, hb, tl, pt⟩
      match ts, tl with
      | [v1, v2], _ =>
        obtain ⟨t, rfl, ht⟩ := pt 0 _ rfl
        obtain ⟨g, rfl, hg⟩ := pt 1 _ rfl
        exact ⟨o3, o4, o5, t, g, rfl, e, hb, ht, hg⟩
  intro σ3 H3 hM_; refine gen2 fun G_ hG_ => ?_; obtain ⟨o3, o4, o5, t, g, rfl, e3, hbo3, ht3, hg3⟩ := hM_; subst hG_
  have l1 : (mgH hs ns kt kg).1.length = kt := tog_len _ _
  have l2 : (mgH hs ns kt kg).2.length = kg := tog_len _ _
  have ten9 : (10 : Int) ^ (9 : Int).toNat = 1000000000 := by decide +kernel
  refine ⟨fun σ' H' => σ' = [some (.ref ba), some (.ref nl), some (.ref bo), o3, o4, o5, none] /\ Same H3 H' /\ ∀ v ∈ (mgH hs ns kt kg).1 ++ (mgH hs ns kt kg).2, v <= 1000000000, ?_, ?_⟩
  . refine ⟨_, rfl, bo, _, 0, _, rfl, rfl, SqL.of hbo3, pair0 _ _, _, rfl, bo, _, 1, _, rfl, rfl, SqL.of hbo3, pair1 _ _, t, g, _, _, rfl, rfl, SqT.of ht3, SqT.of hg3, fun z => ?_, ?_, fun z => ?_, fun _ p hp => ?_⟩
    . have := congrArg List.length z
      rw [List.length_map] at this
      simp only [List.length_nil] at this
      omega
    . rw [List.length_map, List.length_map]; show _ <= sizeLine; omega
    . have := congrArg List.length z
      rw [List.length_map] at this
      simp only [List.length_nil] at this
      omega
    have s1 := Same.new hp (.tup ((mgH hs ns kt kg).1.map V.int ++ (mgH hs ns kt kg).2.map V.int))
    rw [<- List.map_append] at s1 ⊢
    refine ⟨p, _, rfl, .inr (SqT.of upd_same), fun z => ?_, fun M hM hle => ⟨_, _, rfl, rfl, ⟨by decide, by decide, by decide⟩, _, _, rfl, rfl, _, rfl, ?_⟩⟩
    . have := congrArg List.length z
      simp only [List.length_append, List.length_nil] at this
      omega
    rw [ten9]
    refine ite2 (fun c => qM _ (e3.trans s1) gd ⟨M, hM, of_decide_eq_true c⟩) (fun c => ⟨rfl, s1, fun v hv => ?_⟩)
    have c' : ¬ (1000000000 : Int) < M := of_decide_eq_false (by simpa using c)
    have := hle v hv
    omega
  intro σ4 H4 hM_; refine gen2 fun G_ hG_ => ?_; obtain ⟨rfl, e4, fit⟩ := hM_; subst hG_
  have hbo4 := e4 _ _ hbo3
  have ht4 := e4 _ _ ht3
  have hg4 := e4 _ _ hg3
  have e04 := e3.trans e4
  obtain ⟨pl, lp⟩ : ∃ pl, Least ns pl := by
    have : ∀ l : List Int, l ≠ [] -> ∃ p, p ∈ l /\ ∀ x ∈ l, p <= x := by
      intro l
      induction l with
      | nil => intro h; exact absurd rfl h
      | cons x r ih =>
        intro _
        by_cases hr0 : r = []
        . subst hr0; exact ⟨x, List.mem_cons_self, fun y hy => by rw [List.mem_singleton.mp hy]; omega⟩
        . obtain ⟨p, hp, hl⟩ := ih hr0
          by_cases hx : x <= p
          . exact ⟨x, List.mem_cons_self, fun y hy => by
              rcases List.mem_cons.mp hy with rfl | hy
              . omega
              . have := hl y hy; omega⟩
          . exact ⟨p, List.mem_cons_of_mem _ hp, fun y hy => by
              rcases List.mem_cons.mp hy with rfl | hy
              . omega
              . exact hl y hy⟩
    obtain ⟨p, h1, h2⟩ := this ns (fun z => by rw [z] at n1; simp at n1)
    exact ⟨p, h1, h2⟩
  have gp := gd pl lp.m
  refine ⟨(by show 0 <= sizeLine; decide), fun fo hfo => ?_⟩
  have s5 := Same.new hfo (.lst [])
  have fo0 : H fo = none := by
    cases z : H fo with
    | none => rfl
    | some o => rw [e04 _ _ z] at hfo; cases hfo
  have gfo : (upd H4 fo (.lst [])) fo = some (.lst []) := upd_same
  have fo4 : ∀ {b o}, H4 b = some o -> b ≠ fo := fun hb => ne_of_none hb hfo
  generalize upd H4 fo (.lst []) = H5 at *
  have e05 := e04.trans s5
  refine ⟨_, rfl, ba, _, rfl, .inl (e05.seq B.l), _, rfl, by omega, by omega, ?_⟩
  refine for_range (n := xs.length) (fun i σ H' => ∃ (o5 : Option V) (ys : List V), σ = [some (.ref ba), some (.ref nl), some (.ref bo), o3, o4, o5, some (.ref fo)] /\ Same H4 H' /\ H' fo = some (.lst ys) /\ ys.length <= i /\ Bk K H' ys (((List.range i).filter (stays ns pl)).filterMap fun i => (hs.set pl.toNat (mgH hs ns kt kg))[i]?))
    ⟨_, [], rfl, s5, gfo, Nat.le_refl _, .nil⟩ ?_ ?_
  rotate_left
  . rintro σ H' ⟨o5, ys, rfl, e, hf, _, hb⟩
    refine ⟨_, rfl, q fo ys pl H' (e04.trans e) gd fit lp hf ?_⟩
    unfold mrgL
    rw [<- xl]; exact hb
  rintro i σ H6 hi ⟨o5', ys, rfl, e6, hf6, yl, hb6⟩
  rw [Int.zero_add]
  have e06 := e04.trans e6
  have hsl : i < (hs.set pl.toNat (mgH hs ns kt kg)).length := by rw [List.length_set]; omega
  have step : ∀ {H7 : Hp} {v : V} {h : House}, Same H6 H7 -> stays ns pl i = true -> (hs.set pl.toNat (mgH hs ns kt kg))[i]? = some h -> HS K H7 v h →
      Bk K (upd H7 fo (.lst (ys ++ [v]))) (ys ++ [v]) (((List.range (i + 1)).filter (stays ns pl)).filterMap fun i => (hs.set pl.toNat (mgH hs ns kt kg))[i]?) := fun {H7 v h} e7 st hh hv => by
    have kp : Keep H7 (upd H7 fo (.lst (ys ++ [v]))) := Keep.upd (e7 _ _ hf6)
    rw [List.range_succ, List.filter_append, List.filterMap_append]
    have e1' : ([i].filter (stays ns pl)).filterMap (fun i => (hs.set pl.toNat (mgH hs ns kt kg))[i]?) = [h] := by
      rw [List.filter_cons, if_pos st, List.filter_nil, List.filterMap_cons, hh]; rfl
    rw [e1']
    exact paired_snoc (HS.keep kp hv) (Bk.keep kp (Bk.same e7 hb6))
  refine ⟨_, rfl, _, rfl, nl, ns, rfl, .inl (e06.seq hNl), fun z => by rw [z] at n1; simp at n1, fun M hM hle => ?_⟩
  have eM : M = pl := by have := hle pl lp.m; have := lp.le M hM; omega
  subst eM
  have bo6 := e6 _ _ hbo4
  have le6 : ys.length < sizeLine := small1000 (by omega)
  refine ⟨rfl, _, rfl, ite2 (fun c => ?_) (fun c => ?_)⟩
  . have ci : (i : Int) = M := V.int.inj (of_decide_eq_true c)
    have st : stays ns M i = true := by unfold stays; rw [decide_eq_true ci]; rfl
    refine ⟨_, rfl, .inl ⟨rfl, _, SqL.of hf6⟩, _, rfl, bo, _, 0, _, rfl, rfl, SqL.of bo6, pair0 _ _, _, rfl, bo, _, 1, _, rfl, rfl, SqL.of bo6, pair1 _ _, (by show 2 <= sizeLine; decide), fun tp htp => ?_⟩
    have s7 := Same.new htp (.tup [V.ref t, V.ref g])
    have e67 := e6.trans s7
    refine ⟨fo, ys, _, rfl, rfl, s7 _ _ hf6, le6, ?_⟩
    refine ⟨_, ys ++ [.ref tp], rfl, e67.write hfo, upd_same, by simp; omega, step s7 st ?_ ⟨tp, t, g, rfl, SqT.of upd_same, SqT.of (e67 _ _ ht4), SqT.of (e67 _ _ hg4)⟩⟩
    rw [show M.toNat = i by omega, List.getElem?_set_self (by omega)]
  . have ci : ¬ (i : Int) = M := fun z => c (by rw [z]; simp)
    refine ⟨_, rfl, _, rfl, nl, _, rfl, .inl (e06.seq hNl), rfl, flat_ints ns, _, rfl, ite2 (fun d => ?_) (fun d => ?_)⟩
    . have st : stays ns M i = true := by
        unfold stays
        rw [decide_eq_false ci, Bool.false_or, <- inV_ints]
        exact d
      obtain ⟨v, hxv⟩ : ∃ v, xs[i]? = some v := ⟨_, List.getElem?_eq_getElem hi⟩
      obtain ⟨h, hh, hHS⟩ := Paired.at B.b hxv
      refine ⟨_, rfl, .inl ⟨rfl, _, SqL.of hf6⟩, _, rfl, _, rfl, ba, _, _, _, rfl, rfl, e06.seq B.l, atI_nat hxv, fo, ys, _, rfl, rfl, hf6, le6, ?_⟩
      refine ⟨_, ys ++ [v], rfl, e6.write hfo, upd_same, by simp; omega, step (Same.refl _) st ?_ (hHS.same e06)⟩
      rw [List.getElem?_set_ne (by have := gp.1; omega)]; exact hh
    . have st : stays ns M i = false := by
        unfold stays
        rw [decide_eq_false ci, Bool.false_or, <- inV_ints]
        exact Bool.eq_false_iff.mpr d
      refine ⟨_, ys, rfl, e6, hf6, by omega, ?_⟩
      rw [List.range_succ, List.filter_append, List.filterMap_append]
      have e1' : ([i].filter (stays ns M)).filterMap (fun i => (hs.set M.toNat (mgH hs ns kt kg))[i]?) = [] := by
        rw [List.filter_cons, if_neg (by rw [st]; decide)]; rfl
      rw [e1', List.append_nil]
      exact hb6
end
end Rim
namespace Rim
open PySem L2 Fr
theorem boot_st : bootBuiltins "str" = some (.type "str") := by decide +kernel
section
variable {P : Program} {w : World} {K : W.Frag} {mg : Str -> Option Value} {base : Heap} {f : Addr} {fd : FuncData} {n : Nat} {cH cM : Addr}
theorem scLaw : FnScope ["script", "book", "cell", "numbers", "handed", "due", "found", "kin"] ["script"] (defScope sLaw) := ⟨rfl, rfl, rfl, by decide +kernel, rfl, by decide +kernel, by decide +kernel⟩
structure Calls (P : Program) (w : World) (K : W.Frag) (mg : Str -> Option Value) (base : Heap) (n : Nat) (cH cM : Addr) (a1 a2 a3 a4 a5 a6 a7 a8 : Addr) (d1 d2 d3 d4 d5 d6 d7 d8 : FuncData) : Prop where
  ab : Cal P w K mg base n "_law_a_book" ["script", "at", "most", "far"] (spABook K) a1 d1
  ce : Cal P w K mg base n "_law_cell_at" ["script", "k"] (spCell K) a2 d2
  dr : Cal P w K mg base n "_law_draws" ["cell", "many", "base"] (spDraws K) a3 d3
  so : SCal P w K mg base n "_law_a_some" ["many", "picks"] (spSome K) a4 d4
  du : SCal P w K mg base n "_law_a_due" ["book", "numbers"] (spDue26 K) a5 d5
  to : SCal P w K mg base n "_law_told" ["book", "numbers"] (spTold26 K) a6 d6
  dk : Cal P w K mg base n "_law_due_kin" ["name"] spDueG a7 d7
  me : Cal1 P w K mg base n "merged" ["book", "numbers"] (spMrg K cH cM) a8 d8
set_option maxHeartbeats 16000000 in
noncomputable def lawT {cdv : Value} {A : Around} {outer : List Env} {s : Shared} {H : Hp} {E : XK} {a1 a2 a3 a4 a5 a6 a7 a8 : Addr} {d1 d2 d3 d4 d5 d6 d7 d8 : FuncData} (T : Nones mg) (hst : mg "str" = none) (C : Calls P w K mg base n cH cM a1 a2 a3 a4 a5 a6 a7 a8 d1 d2 d3 d4 d5 d6 d7 d8)
    (hr : Room n (A.deeper (PyProof.Rows.envOfC "law" (defScope sLaw) s.heap.objs.size f cdv))) :
    { t : TS // PSs (cxOf CX0 P w K mg base ["script", "book", "cell", "numbers", "handed", "due", "found", "kin"] "law" (defScope sLaw) f cdv A outer s H E).nox (defBody sLaw) t } :=
  ⟨_, pss_cons (ps_set (i := 1) scLaw.nd rfl (Or.inl rfl) (pe_call C.ab.ok hr rfl C.ab.m C.ab.k C.ab.b .nil pass0 (pa_cons (pv 0) (pa_cons pe_int (pa_cons pe_int (pa_cons (pe_op op_pow pe_int pe_int) pa_nil))))))
    (pss_cut (ps_for PassesOwn.never rfl (pi_list (pe_op op_cat (pe_lst (pa_cons (pe_call C.ce.ok hr rfl C.ce.m C.ce.k C.ce.b .nil pass0 (pa_cons (pv 0) (pa_cons pe_int pa_nil))) pa_nil)) (pe_slice sl_list (pv 0) (po_some pe_int) (po_some pe_int)))) (pg_name (i := 2) scLaw.nd rfl (Or.inl rfl))
      (pss_cons (ps_set (i := 3) scLaw.nd rfl (Or.inl rfl) (pe_call C.so.ok hr rfl C.so.m C.so.k C.so.b .nil pass0 (pa_cons (pe_callB call_len_seq rfl T.len PySem.boot_len (pa_cons (pv 1) pa_nil)) (pa_cons (pe_call C.dr.ok hr rfl C.dr.m C.dr.k C.dr.b .nil pass0 (pa_cons (pv 2) (pa_cons pe_int (pa_cons pe_int pa_nil)))) pa_nil))))
      (pss_cut (ps_set (i := 4) scLaw.nd rfl (Or.inl rfl) (pe_tup (pa_cons (pe_callTy call_list_of rfl T.list PyProof.Rows.boot_list (pa_cons (pv 1) pa_nil)) (pa_cons (pe_callTy call_list_of rfl T.list PyProof.Rows.boot_list (pa_cons (pv 3) pa_nil)) pa_nil))))
      (pss_cons (ps_set (i := 5) scLaw.nd rfl (Or.inl rfl) (pe_call C.du.ok hr rfl C.du.m C.du.k C.du.b .nil pass0 (pa_cons (pv 1) (pa_cons (pv 3) pa_nil))))
      (pss_cons (ps_asg (pe_call C.to.ok hr rfl C.to.m C.to.k C.to.b .nil pass0 (pa_cons (pe_ix ix_tup (pv 4) pe_int (fun _ _ => rfl)) (pa_cons (pe_ix ix_tup (pv 4) pe_int (fun _ _ => rfl)) pa_nil))) (pg_tup rfl (pgs_cons (pg_name (i := 6) scLaw.nd rfl (Or.inl rfl)) (pgs_cons (pg_name (i := 7) scLaw.nd rfl (Or.inl rfl)) pgs_nil))))
      (pss_cut (ps_if (pt_cmpR (op_neD hr) (pv 4) (pe_tup (pa_cons (pv 1) (pa_cons (pv 3) pa_nil))) (nomark _)) pss_dead pss_nil)
      (pss_one (ps_if (pt_val (pe_callB call_isinst rfl T.isi PyProof.Rows.boot_isinstance (pa_cons (pv 5) (pa_cons (pe_bltn (v := .ty "str") rfl hst boot_st rfl) pa_nil))))
        (pss_one (ps_if (pt_cmpR (op_neD hr) (pv 7) (pe_call C.dk.ok hr rfl C.dk.m C.dk.k C.dk.b .nil pass0 (pa_cons (pv 5) pa_nil)) (nomark _)) pss_dead pss_nil))
        (pss_one (ps_if (PW.pt (pw_or (pt_cmpR (op_neD hr) (pv 7) (pe_lst pa_nil) (nomark _)) (pw_or (pt_not (pt_val (pe_callB call_isinst rfl T.isi PyProof.Rows.boot_isinstance (pa_cons (pv 6) (pa_cons (pe_bltn (v := .ty "list") rfl T.list PyProof.Rows.boot_list rfl) pa_nil))))) (pw_or1 (pt_cmpR (op_neD hr) (pv 6) (pv 5) (nomark _)))))) pss_dead
          (pss_cons (ps_expr (pe_bm PySem.F.plainAttrs_list PySem.F.slot_list_append PySem.F.type_list_append mt_append (pv 6) (pa_cons (pe_tup pa_nil) pa_nil)))
          (pss_one (ps_if (pt_cmpR (op_neD hr) (pe_call C.me.ok hr rfl C.me.m C.me.k C.me.b .nil pass10 (pa_cons (pv 1) (pa_cons (pv 3) pa_nil))) (pv 5) (nomark _)) pss_dead pss_nil)))))))))))))
    (pss_one (ps_ret (pe_cmpR (op_eqD hr) (pe_call C.me.ok hr rfl C.me.m C.me.k C.me.b .nil pass10 (pa_cons (pv 1) (pa_cons (pe_lst (pa_cons (pe_op op_sub (pe_callB call_len_seq rfl T.len PySem.boot_len (pa_cons (pv 1) pa_nil)) pe_int) pa_nil)) pa_nil))) (pv 1) (nomark _)))))⟩
end
end Rim
namespace Rim
open PySem L2 Fr
theorem mem_cut {xs : List V} {lo hi : Option Int} {v : V} (h : v ∈ cutV xs lo hi) : v ∈ xs := List.mem_of_mem_drop (List.mem_of_mem_take h)
theorem kit_ls {K : W.Frag} : W.kitOne K (.type "list") (.type "str") = some false := by
  unfold W.kitOne
  rw [if_neg (by decide)]
  rfl
theorem lay_bk (hs : List House) : (PyData.list (hs.map dHouse)).canLay0 = true := by rw [PyData.canLay0]; exact lay_book hs
theorem dep_bk (hs : List House) : (PyData.list (hs.map dHouse)).depth <= 50 := by
  have := depth_book hs
  rw [PyData.depth]; omega
theorem lay_pair (hs : List House) (ns : List Int) : (PyData.tuple [.list (hs.map dHouse), .list (ns.map PyData.int)]).canLay0 = true := by
  rw [PyData.canLay0, PyData.canLayAll0, PyData.canLayAll0, PyData.canLayAll0, lay_bk, PyData.canLay0, lay_ints]; rfl
theorem dep_ints : ∀ ns : List Int, PyData.depthAll (ns.map PyData.int) <= 4
  | [] => by rw [List.map_nil, PyData.depthAll]; decide
  | x :: r => by
    have := dep_ints r
    rw [List.map_cons, PyData.depthAll, PyData.depth]; omega
theorem dep_pair (hs : List House) (ns : List Int) : (PyData.tuple [.list (hs.map dHouse), .list (ns.map PyData.int)]).depth <= 60 := by
  have h1 := depth_book hs
  have h2 := dep_ints ns
  simp only [PyData.depth, PyData.depthAll]
  omega
theorem Least.eq {ns : List Int} {a b : Int} (x : Least ns a) (y : Least ns b) : a = b := by
  have := x.le b y.m
  have := y.le a x.m
  omega
theorem tog_one {r : List Int} {k : Nat} (h : r.length = k) : togL [r] k = r := by
  unfold togL col
  refine List.ext_getElem? fun i => ?_
  rw [List.getElem?_map]
  by_cases hi : i < k
  . rw [List.getElem?_range hi, List.getElem?_eq_getElem (by omega)]
    show some (([r].map fun r => r.getD i 0).sum) = _
    simp [List.getD_eq_getElem?_getD, List.getElem?_eq_getElem (show i < r.length by omega)]
  . rw [List.getElem?_eq_none (by rw [List.length_range]; omega), List.getElem?_eq_none (by omega)]; rfl
theorem mg_one {hs : List House} {k kt kg : Nat} {h : House} (hh : hs[k]? = some h) (l1 : h.1.length = kt) (l2 : h.2.length = kg) : mgH hs [(k : Int)] kt kg = h := by
  have e : hsOf hs [(k : Int)] = [h] := by
    unfold hsOf
    rw [List.map_cons, Int.toNat_natCast, List.getD_eq_getElem?_getD, hh]; rfl
  unfold mgH
  rw [e]
  show (togL [h.1] kt, togL [h.2] kg) = h
  rw [tog_one l1, tog_one l2]
theorem pick_all (hs : List House) : ∀ n, n <= hs.length -> (List.range n).filterMap (fun i => hs[i]?) = hs.take n
  | 0, _ => rfl
  | n + 1, h => by
    rw [List.range_succ, List.filterMap_append, pick_all hs n (by omega), List.take_succ, List.getElem?_eq_getElem (by omega)]
    simp [List.getElem?_eq_getElem (show n < hs.length by omega)]
theorem mrg_one {hs : List House} {k kt kg : Nat} {h : House} (hh : hs[k]? = some h) (l1 : h.1.length = kt) (l2 : h.2.length = kg) : mrgL hs [(k : Int)] kt kg (k : Int) = hs := by
  unfold mrgL
  rw [mg_one hh l1 l2, Int.toNat_natCast]
  have es : hs.set k h = hs := by
    refine List.ext_getElem? fun i => ?_
    by_cases hi : k = i
    . subst hi
      rw [List.getElem?_set_self (List.getElem?_eq_some_iff.mp hh).1, hh]
    . rw [List.getElem?_set_ne hi]
  rw [es]
  have ef : (List.range hs.length).filter (stays [(k : Int)] (k : Int)) = List.range hs.length := by
    refine List.filter_eq_self.mpr fun i _ => ?_
    unfold stays
    by_cases hi : (i : Int) = (k : Int)
    . rw [decide_eq_true hi]; rfl
    . rw [decide_eq_false hi]
      simp [hi]
  rw [ef, pick_all hs _ (Nat.le_refl _), List.take_length]
theorem mrg_len (hs : List House) (ns : List Int) (kt kg : Nat) (p : Int) : (mrgL hs ns kt kg p).length <= hs.length := by
  unfold mrgL
  refine Nat.le_trans (List.length_filterMap_le _ _) (Nat.le_trans (List.length_filter_le _ _) ?_)
  rw [List.length_range]; exact Nat.le_refl _
section
variable {P : Program} {w : World} {K : W.Frag} {mg : Str -> Option Value} {base : Heap} {f : Addr} {fd : FuncData} {n : Nat} {cH cM : Addr}
def spLaw (K : W.Frag) : Sp := fun vs H Q _ => ∃ (a : Addr) (ns : List Int), vs = [.ref a] /\ SqL K H a (ns.map V.int) /\ ns.length <= 63 /\ ∀ H', Q (.bl true) H'
set_option maxHeartbeats 16000000 in
theorem ok_law {a1 a2 a3 a4 a5 a6 a7 a8 : Addr} {d1 d2 d3 d4 d5 d6 d7 d8 : FuncData} (F : Fun K "law" "law" sLaw f fd) (T : Nones mg) (hst : mg "str" = none) (C : Calls P w K mg base n cH cM a1 a2 a3 a4 a5 a6 a7 a8 d1 d2 d3 d4 d5 d6 d7 d8) :
    FnOk P w K mg base CX0 (n + 1) f fd ["script"] (spLaw K) := by
  refine F.ok scLaw (fun vs H Q E h => ?_) (fun cdv A outer s H vs Q E hr h => ?_)
  . obtain ⟨a, ns, rfl, _⟩ := h
    rfl
  obtain ⟨a, ns, rfl, hS, h63, q⟩ := h
  refine ⟨_, (lawT T hst C hr).2, ?_⟩
  refine ⟨_, rfl, _, _, rfl, rfl, ⟨by decide, by decide, by decide⟩, a, ns, 0, 16, _, rfl, hS, by decide, by decide, by decide, by decide, fun bl H1 xs hs kt kg e1 hbl hB hn1 hn16 kt1 kt4 kg1 kg4 hG => ?_⟩
  have xlen : xs.length = hs.length := Paired.length hB
  have small := small1000 (show (1000 : Nat) <= 1000 from Nat.le_refl _)
  have bin : ∀ {H' : Hp} {b : Addr}, Same H1 H' -> H' b = some (.lst xs) -> BookIn K H' b xs hs (10 ^ 9) kt kg := fun e g => ⟨SqL.of g, Bk.same e hB, hG, by decide, by omega, by omega, by omega⟩
  have le0 : PyData.canLay0 (.list []) = true := by rw [PyData.canLay0, PyData.canLayAll0]
  have dp0 : (PyData.list []).depth <= 60 := by rw [PyData.depth, PyData.depthAll]; decide
  refine ⟨fun σ' H' => ∃ o2 o3 o4 o5 o6 o7, σ' = [some (.ref a), some (.ref bl), o2, o3, o4, o5, o6, o7] /\ Same H1 H', ?_, ?_⟩
  rotate_left
  . intro σ2 H2 hM_; refine gen2 fun G_ hG_ => ?_; obtain ⟨o2, o3, o4, o5, o6, o7, rfl, e2⟩ := hM_; subst hG_
    have hbl2 := e2 _ _ hbl
    refine ⟨_, rfl, _, rfl, bl, _, rfl, .inl (SqL.of hbl2), _, _, rfl, rfl, (by show 1 <= sizeLine; decide), fun nl hnl => ?_⟩
    have s3 := Same.new hnl (.lst [V.int ((xs.length : Int) - 1)])
    obtain ⟨k, hk⟩ : ∃ k : Nat, (xs.length : Int) - 1 = (k : Int) := ⟨xs.length - 1, by omega⟩
    have hkl : k < hs.length := by omega
    have gh : HG (1000000000 : Int) kt kg hs[k] := by
      have := hG hs[k] (List.getElem_mem hkl)
      rwa [show (10 : Int) ^ (9 : Int).toNat = 1000000000 by decide +kernel] at this
    have hh : hs[k]? = some hs[k] := List.getElem?_eq_getElem hkl
    have gd : ∀ m ∈ [(k : Int)], Good xs.length m := fun m hm => by rw [List.mem_singleton.mp hm]; exact ⟨by omega, by omega⟩
    refine ⟨bl, nl, xs, hs, [(k : Int)], 10 ^ 9, kt, kg, rfl, bin (e2.trans s3) (s3 _ _ hbl2), kt1, kg1, SqL.of (by rw [upd_same]; show some (HO.lst [V.int ((xs.length : Int) - 1)]) = _; rw [hk]; rfl), (show 1 <= 1 by decide), (show 1 <= 100 by decide), fun m hm => by rw [List.mem_singleton.mp hm]; exact log_nat (by omega), fun H' _ ⟨m, hm, b⟩ => absurd (gd m hm) b, fun H' _ _ ⟨v, hv, b⟩ => ?_, fun r ys pl H4 e4 _ _ _ lp hr4 hb4 => ?_⟩
    . rw [mg_one hh gh.lt gh.lg] at hv
      exfalso
      rcases List.mem_append.mp hv with z | z
      . have := (gh.t v z).2; omega
      . have := (gh.g v z).2; omega
    . have epl : pl = (k : Int) := List.mem_singleton.mp lp.m
      rw [epl, mrg_one hh gh.lt gh.lg] at hb4
      refine ⟨_, rfl, .list (hs.map dHouse), .list (hs.map dHouse), .lst (SqL.of hr4) (Bk.dps hb4), .lst (SqL.of ((s3.trans e4) _ _ hbl2)) (Bk.dps (Bk.same (e2.trans (s3.trans e4)) hB)), lay_bk hs, lay_bk hs, Nat.le_trans (Nat.min_le_right _ _) (Nat.le_trans (dep_bk hs) (by decide)), ?_⟩
      rw [eqv_refl _ (lay_bk hs)]
      exact q _
  refine ⟨_, rfl, a, ns, 2, rfl, e1.seq hS, by decide, fun c0 => ?_⟩
  refine ⟨(by show 1 <= sizeLine; decide), fun l0 hl0 => ?_⟩
  have f0 := Same.new hl0 (.lst [V.int c0])
  refine ⟨_, rfl, _, rfl, _, rfl, a, _, rfl, f0.seq (e1.seq hS), fun l1 hl1 => ?_⟩
  have lc := cutV_length (ns.map V.int) (some 3) (some 10)
  rw [List.length_map] at lc
  have mc : ∀ v ∈ cutV (ns.map V.int) (some 3) (some 10), ∃ c, v = .int c := fun v hv => by
    obtain ⟨c, _, rfl⟩ := List.mem_map.mp (mem_cut hv)
    exact ⟨c, rfl⟩
  generalize cutV (ns.map V.int) (some 3) (some 10) = cs at *
  have f1 := Same.new hl1 (.lst cs)
  refine ⟨l0, l1, _, _, rfl, rfl, f1 _ _ upd_same, upd_same, by show 1 + cs.length <= sizeLine; omega, fun l2 hl2 => ?_⟩
  have f2 := Same.new hl2 (.lst ([V.int c0] ++ cs))
  refine ⟨l2, rfl, ⟨_, SqL.of upd_same⟩, ?_⟩
  have e2 : Same H1 _ := f0.trans (f1.trans f2)
  have itn : ∀ (i : Nat) (x : V), ([V.int c0] ++ cs)[i]? = some x -> ∃ c, x = .int c := fun i x hx => by
    rcases List.mem_append.mp (List.mem_of_getElem? hx) with z | z
    . exact ⟨c0, List.mem_singleton.mp z⟩
    . exact mc x z
  generalize [V.int c0] ++ cs = cl at *
  refine for_list (xs := cl) (fun i σ H' => ∃ o2 o3 o4 o5 o6 o7, σ = [some (.ref a), some (.ref bl), o2, o3, o4, o5, o6, o7] /\ Same H1 H' /\ H' l2 = some (.lst cl))
    ⟨_, _, _, _, _, _, rfl, e2, upd_same⟩ (fun i σ H' _ ⟨_, _, _, _, _, _, _, _, h2⟩ => SqL.of h2) ?_ ?_
  rotate_left
  . rintro σ H3 ⟨o2, o3, o4, o5, o6, o7, rfl, e3, hl3⟩
    exact ⟨_, _, _, _, _, _, rfl, e3⟩
  rintro i x σ H3 hx ⟨o2, o3, o4, o5, o6, o7, rfl, e3, hl3⟩
  obtain ⟨c, rfl⟩ := itn i x hx
  have hbl3 := e3 _ _ hbl
  refine ⟨_, rfl, bl, _, rfl, .inl (SqL.of hbl3), _, rfl, c, 20, 1000, rfl, by decide, by decide, by decide, fun pk H4 ds e4 hpk ld bd => ?_⟩
  refine ⟨xs.length, pk, ds, rfl, by omega, by omega, SqL.of hpk, ld, fun d hd => (bd d hd).1, fun nl ms H5 e5 _ hnl5 m1 m20 mlog => ?_⟩
  have e35 := e4.trans e5
  have hbl5 := e35 _ _ hbl3
  -- handed
  refine ⟨fun σ' H' => ∃ hd hb hn : Addr, σ' = [some (.ref a), some (.ref bl), some (.int c), some (.ref nl), some (.ref hd), o5, o6, o7] /\ Same H5 H' /\ H' hd = some (.tup [.ref hb, .ref hn]) /\ H' hb = some (.lst xs) /\ H' hn = some (.lst (ms.map V.int)), ?_, ?_⟩
  . refine ⟨_, rfl, bl, _, rfl, .inl (SqL.of hbl5), fun hb hhb => ?_⟩
    have s1 := Same.new hhb (.lst xs)
    refine ⟨_, rfl, nl, _, rfl, .inl (SqL.of (s1 _ _ hnl5)), fun hn hhn => ?_⟩
    have s2 := Same.new hhn (.lst (ms.map V.int))
    refine ⟨(by show 2 <= sizeLine; decide), fun hd hhd => ?_⟩
    have s3 := Same.new hhd (.tup [V.ref hb, V.ref hn])
    exact ⟨hd, hb, hn, rfl, s1.trans (s2.trans s3), upd_same, (s2.trans s3) _ _ upd_same, s3 _ _ upd_same⟩
  intro σ6 H6 hM_; refine gen2 fun G_ hG_ => ?_; obtain ⟨hd, hb, hn, rfl, s6, hhd, hhb, hhn⟩ := hM_; subst hG_
  have e6 : Same H1 H6 := e3.trans (e35.trans s6)
  have hl6 := (e35.trans s6) _ _ hl3
  have hbl6 := s6 _ _ hbl5
  have hnl6 := s6 _ _ hnl5
  have pr : ∀ {H8 : Hp}, Same H6 H8 -> Dp K H8 (.ref hd) (.tuple [.list (hs.map dHouse), .list (ms.map PyData.int)]) /\ Dps K H8 [.ref bl, .ref nl] [.list (hs.map dHouse), .list (ms.map PyData.int)] := fun e =>
    ⟨.tup (SqT.of (e _ _ hhd)) (.cons (.lst (SqL.of (e _ _ hhb)) (Bk.dps (Bk.same (e6.trans e) hB))) (.cons (.lst (SqL.of (e _ _ hhn)) (dps_ints _)) .nil)), .cons (.lst (SqL.of (e _ _ hbl6)) (Bk.dps (Bk.same (e6.trans e) hB))) (.cons (.lst (SqL.of (e _ _ hnl6)) (dps_ints _)) .nil)⟩
  -- due
  refine ⟨_, rfl, _, rfl, bl, nl, xs, hs, ms, 10 ^ 9, kt, kg, rfl, bin e6 hbl6, by omega, kt1, kg1, SqL.of hnl6, m1, by omega, fun H7 s7 bad => ?_, fun H7 s7 gd big => ?_, fun du ys7 pl7 H7 s7 gd fit lp7 hdu hb7 => ?_⟩
  . -- NoHouse
    refine ⟨_, rfl, hd, _, 0, _, rfl, rfl, SqT.of (s7 _ _ hhd), pair0 _ _, _, rfl, hd, _, 1, _, rfl, rfl, SqT.of (s7 _ _ hhd), pair1 _ _, hb, hn, xs, hs, ms, 10 ^ 9, kt, kg, rfl, bin (e6.trans s7) (s7 _ _ hhb), kt1, kg1, SqL.of (s7 _ _ hhn), m1, by omega, mlog, fun r kl H8 s8 _ hr8 hkl => ?_, fun r kl H8 s8 gd _ _ _ => by obtain ⟨m, hm, b⟩ := bad; exact absurd (gd m hm) b, fun r kl m ys pl H8 s8 _ gd _ _ _ _ _ _ => by obtain ⟨m, hm, b⟩ := bad; exact absurd (gd m hm) b⟩
    have e8 := s7.trans s8
    refine ⟨r, _, rfl, SqT.of hr8, rfl, _, _, rfl, _, _, rfl, rfl, ?_⟩
    refine ⟨fun σ' H' => σ' = [some (.ref a), some (.ref bl), some (.int c), some (.ref nl), some (.ref hd), some (.str "NoHouse"), some (.non), some (.ref kl)] /\ Same H8 H', ?_, ?_⟩
    . refine ⟨_, rfl, _, rfl, _, rfl, (by show 2 <= sizeLine; decide), fun tp htp => ?_⟩
      have s9 := Same.new htp (.tup [V.ref bl, V.ref nl])
      obtain ⟨dA, dB⟩ := pr (e8.trans s9)
      refine ⟨_, _, dA, .tup (SqT.of upd_same) dB, lay_pair _ _, lay_pair _ _, Nat.le_trans (Nat.min_le_right _ _) (dep_pair _ _), _, rfl, ?_⟩
      rw [eqv_refl _ (lay_pair _ _)]
      exact iteF ⟨rfl, s9⟩
    rintro σ9 H9 ⟨rfl, s9⟩
    have e9 := e8.trans s9
    refine ⟨_, rfl, _, _, _, true, rfl, .str _, kit_same _, _, rfl, iteT ?_⟩
    refine ⟨_, rfl, _, rfl, _, rfl, fun r2 H10 s10 hr10 => ?_⟩
    refine ⟨dKinG false true false false false false, dKinG false true false false false false, kin_dpG ((s9.trans s10) _ _ hkl), kin_dpG hr10, by decide, by decide, by decide, _, rfl, ?_⟩
    rw [eqv_refl _ (by decide)]
    exact iteF ⟨_, _, _, _, _, _, rfl, e6.trans (e9.trans s10), (e9.trans s10) _ _ hl6⟩
  . -- TooMany
    refine ⟨_, rfl, hd, _, 0, _, rfl, rfl, SqT.of (s7 _ _ hhd), pair0 _ _, _, rfl, hd, _, 1, _, rfl, rfl, SqT.of (s7 _ _ hhd), pair1 _ _, hb, hn, xs, hs, ms, 10 ^ 9, kt, kg, rfl, bin (e6.trans s7) (s7 _ _ hhb), kt1, kg1, SqL.of (s7 _ _ hhn), m1, by omega, mlog, fun r kl H8 s8 bad _ _ => by obtain ⟨m, hm, b⟩ := bad; exact absurd (gd m hm) b, fun r kl H8 s8 _ _ hr8 hkl => ?_, fun r kl m ys pl H8 s8 _ _ fit _ _ _ _ _ => by obtain ⟨v, hv, b⟩ := big; have := fit v hv; omega⟩
    have e8 := s7.trans s8
    refine ⟨r, _, rfl, SqT.of hr8, rfl, _, _, rfl, _, _, rfl, rfl, ?_⟩
    refine ⟨fun σ' H' => σ' = [some (.ref a), some (.ref bl), some (.int c), some (.ref nl), some (.ref hd), some (.str "TooMany"), some (.non), some (.ref kl)] /\ Same H8 H', ?_, ?_⟩
    . refine ⟨_, rfl, _, rfl, _, rfl, (by show 2 <= sizeLine; decide), fun tp htp => ?_⟩
      have s9 := Same.new htp (.tup [V.ref bl, V.ref nl])
      obtain ⟨dA, dB⟩ := pr (e8.trans s9)
      refine ⟨_, _, dA, .tup (SqT.of upd_same) dB, lay_pair _ _, lay_pair _ _, Nat.le_trans (Nat.min_le_right _ _) (dep_pair _ _), _, rfl, ?_⟩
      rw [eqv_refl _ (lay_pair _ _)]
      exact iteF ⟨rfl, s9⟩
    rintro σ9 H9 ⟨rfl, s9⟩
    have e9 := e8.trans s9
    refine ⟨_, rfl, _, _, _, true, rfl, .str _, kit_same _, _, rfl, iteT ?_⟩
    refine ⟨_, rfl, _, rfl, _, rfl, fun r2 H10 s10 hr10 => ?_⟩
    refine ⟨dKinG false false false false true false, dKinG false false false false true false, kin_dpG ((s9.trans s10) _ _ hkl), kin_dpG hr10, by decide, by decide, by decide, _, rfl, ?_⟩
    rw [eqv_refl _ (by decide)]
    exact iteF ⟨_, _, _, _, _, _, rfl, e6.trans (e9.trans s10), (e9.trans s10) _ _ hl6⟩
  . -- a book
    refine ⟨_, rfl, hd, _, 0, _, rfl, rfl, SqT.of (s7 _ _ hhd), pair0 _ _, _, rfl, hd, _, 1, _, rfl, rfl, SqT.of (s7 _ _ hhd), pair1 _ _, hb, hn, xs, hs, ms, 10 ^ 9, kt, kg, rfl, bin (e6.trans s7) (s7 _ _ hhb), kt1, kg1, SqL.of (s7 _ _ hhn), m1, by omega, mlog, fun r kl H8 s8 bad _ _ => by obtain ⟨m, hm, b⟩ := bad; exact absurd (gd m hm) b, fun r kl H8 s8 _ big _ _ => by obtain ⟨v, hv, b⟩ := big; have := fit v hv; omega, fun r kl m ys pl H8 s8 hm0 _ _ lp hm8 hb8 hr8 hkl => ?_⟩
    have e8 := s7.trans s8
    have epl := lp.eq lp7
    subst epl
    refine ⟨r, _, rfl, SqT.of hr8, rfl, _, _, rfl, _, _, rfl, rfl, ?_⟩
    refine ⟨fun σ' H' => σ' = [some (.ref a), some (.ref bl), some (.int c), some (.ref nl), some (.ref hd), some (.ref du), some (.ref m), some (.ref kl)] /\ Same H8 H', ?_, ?_⟩
    . refine ⟨_, rfl, _, rfl, _, rfl, (by show 2 <= sizeLine; decide), fun tp htp => ?_⟩
      have s9 := Same.new htp (.tup [V.ref bl, V.ref nl])
      obtain ⟨dA, dB⟩ := pr (e8.trans s9)
      refine ⟨_, _, dA, .tup (SqT.of upd_same) dB, lay_pair _ _, lay_pair _ _, Nat.le_trans (Nat.min_le_right _ _) (dep_pair _ _), _, rfl, ?_⟩
      rw [eqv_refl _ (lay_pair _ _)]
      exact iteF ⟨rfl, s9⟩
    rintro σ9 H9 ⟨rfl, s9⟩
    have e9 := e8.trans s9
    have du9 := (s8.trans s9) _ _ hdu
    have m9 := s9 _ _ hm8
    have db7 := Bk.same (s8.trans s9) hb7
    have db8 := Bk.same s9 hb8
    have yl : ys.length <= hs.length := by rw [show ys.length = _ from Paired.length hb8]; exact mrg_len _ _ _ _ _
    refine ⟨_, rfl, _, _, _, false, rfl, .lst du9, kit_ls, _, rfl, iteF ?_⟩
    refine ⟨_, rfl, (by show 0 <= sizeLine; decide), fun el hel => ?_⟩
    have s10 := Same.new hel (.lst [])
    have e10 := e9.trans s10
    have du10 := s10 _ _ du9
    have m10 := s10 _ _ m9
    refine ⟨.list [], .list [], .lst (SqL.of ((s9.trans s10) _ _ hkl)) .nil, .lst (SqL.of upd_same) .nil, le0, le0, Nat.le_trans (Nat.min_le_right _ _) dp0, _, rfl, ?_⟩
    rw [eqv_refl _ le0]
    refine iteF ?_
    refine ⟨_, rfl, _, _, _, true, rfl, .lst m10, kit_same _, _, rfl, iteF ?_⟩
    refine ⟨_, rfl, _, rfl, .list ((mrgL hs ms kt kg pl).map dHouse), .list ((mrgL hs ms kt kg pl).map dHouse), .lst (SqL.of m10) (Bk.dps (Bk.same s10 db8)), .lst (SqL.of du10) (Bk.dps (Bk.same s10 db7)), lay_bk _, lay_bk _, Nat.le_trans (Nat.min_le_right _ _) (Nat.le_trans (dep_bk _) (by decide)), _, rfl, ?_⟩
    rw [eqv_refl _ (lay_bk _)]
    refine iteF ?_
    generalize upd H9 el (.lst []) = HA at *
    refine ⟨_, rfl, .inl ⟨rfl, _, SqL.of m10⟩, (by show 0 <= sizeLine; decide), fun et het => ?_⟩
    have s11 := Same.new het (.tup [])
    refine ⟨m, ys, .ref et, rfl, rfl, s11 _ _ m10, small1000 (by omega), ?_⟩
    have m6 : H7 m = none := hm0
    have e7B : Same H7 (upd (upd HA et (.tup [])) m (.lst (ys ++ [.ref et]))) := ((s8.trans (s9.trans s10)).trans s11).write hm0
    generalize upd (upd HA et (.tup [])) m (.lst (ys ++ [.ref et])) = HB at *
    have e6B := s7.trans e7B
    refine ⟨_, rfl, _, rfl, bl, nl, xs, hs, ms, 10 ^ 9, kt, kg, rfl, bin (e6.trans e6B) (e6B _ _ hbl6), kt1, kg1, SqL.of (e6B _ _ hnl6), m1, by omega, mlog, fun H' _ ⟨m, hm, b⟩ => absurd (gd m hm) b, fun H' _ _ ⟨v, hv, b⟩ => ?_, fun r2 zs plC HC sC _ _ _ lpC hrC hbC => ?_⟩
    . have := fit v hv
      exfalso; omega
    . have epc := lpC.eq lp
      subst epc
      refine ⟨_, rfl, .list ((mrgL hs ms kt kg plC).map dHouse), .list ((mrgL hs ms kt kg plC).map dHouse), .lst (SqL.of hrC) (Bk.dps hbC), .lst (SqL.of ((e7B.trans sC) _ _ hdu)) (Bk.dps (Bk.same (e7B.trans sC) hb7)), lay_bk _, lay_bk _, Nat.le_trans (Nat.min_le_right _ _) (Nat.le_trans (dep_bk _) (by decide)), _, rfl, ?_⟩
      rw [eqv_refl _ (lay_bk _)]
      exact iteF ⟨_, _, _, _, _, _, rfl, e6.trans (e6B.trans sC), (e6B.trans sC) _ _ hl6⟩
end
end Rim
namespace Rim
open PySem L2 Fr
set_option maxHeartbeats 16000000 in
theorem all_mk {l : W.OpenLaw} {w : World} {K : W.Frag} {h : Heap} {mg : Str -> Option Value} {fa : Addr} (X : K.In h) (G : h.Ns mainGlobals mg) (hfa : mg "law" = some (.ref fa))
    {f1 f2 f3 f4 f5 f6 f7 f8 f9 f10 f11 f12 f13 cE_NoHouse cE_NoBook cE_RimError cE_NoRow cE_NoText cE_TooMany cE_NothingLeft : Addr} {cd1 cd2 cd3 cd4 cd5 cd6 cd7 cd8 cd9 cd10 cd11 cd12 ocL kVL dcL pmL cdL ctL : Value} {odL anL : Option Addr} {slL : Array (Option Value)} {tkC_MOST_AMOUNT : Tok}
    (a1 : W.nsIn K mainGlobals "_law_cell_at" = some (some (.ref f1)))
    (l1 : FunI K "_law_cell_at" "_law_cell_at" sCell f1 cd1)
    (a2 : W.nsIn K mainGlobals "_law_draws" = some (some (.ref f2)))
    (l2 : FunI K "_law_draws" "_law_draws" sDraws f2 cd2)
    (a3 : W.nsIn K mainGlobals "_law_near" = some (some (.ref f3)))
    (l3 : FunI K "_law_near" "_law_near" sNear f3 cd3)
    (a4 : W.nsIn K mainGlobals "_law_a_book" = some (some (.ref f4)))
    (l4 : FunI K "_law_a_book" "_law_a_book" sABook f4 cd4)
    (a5 : W.nsIn K mainGlobals "_law_a_some" = some (some (.ref f5)))
    (l5 : FunI K "_law_a_some" "_law_a_some" s__law_a_some f5 cd5)
    (a6 : W.nsIn K mainGlobals "_law_a_due" = some (some (.ref f6)))
    (l6 : FunI K "_law_a_due" "_law_a_due" s__law_a_due f6 cd6)
    (a7 : W.nsIn K mainGlobals "house_of" = some (some (.ref f7)))
    (l7 : FunI K "house_of" "house_of" sHof f7 cd7)
    (a8 : W.nsIn K mainGlobals "together" = some (some (.ref f8)))
    (l8 : FunI K "together" "together" s_together f8 cd8)
    (a9 : W.nsIn K mainGlobals "merged" = some (some (.ref f9)))
    (l9 : FunI K "merged" "merged" s_merged f9 cd9)
    (a10 : W.nsIn K mainGlobals "_law_a_kin" = some (some (.ref f10)))
    (l10 : FunI K "_law_a_kin" "_law_a_kin" s__law_a_kin f10 cd10)
    (a11 : W.nsIn K mainGlobals "_law_told" = some (some (.ref f11)))
    (l11 : FunI K "_law_told" "_law_told" s__law_told f11 cd11)
    (a12 : W.nsIn K mainGlobals "_law_due_kin" = some (some (.ref f12)))
    (l12 : FunI K "_law_due_kin" "_law_due_kin" s__law_due_kin f12 cd12)
    (a13 : W.nsIn K mainGlobals "law" = some (some (.ref f13)))
    (l13 : K.lookup f13 = some ⟨ocL, odL, .func (W.fnOf "law" "law" (defArgs sLaw) (defBody sLaw) (defScope sLaw) .none kVL dcL pmL anL cdL ctL), slL⟩)
    (c13 : W.codeIn K cdL "law" = true)
    (k13 : W.keepIn K (.ref f13) = true)
    (z1 : W.nsIn K mainGlobals "len" = some none)
    (z2 : W.nsIn K mainGlobals "all" = some none)
    (z3 : W.nsIn K mainGlobals "any" = some none)
    (z4 : W.nsIn K mainGlobals "max" = some none)
    (z5 : W.nsIn K mainGlobals "min" = some none)
    (z6 : W.nsIn K mainGlobals "sum" = some none)
    (z7 : W.nsIn K mainGlobals "tuple" = some none)
    (z8 : W.nsIn K mainGlobals "list" = some none)
    (z9 : W.nsIn K mainGlobals "int" = some none)
    (z10 : W.nsIn K mainGlobals "bool" = some none)
    (z11 : W.nsIn K mainGlobals "range" = some none)
    (z12 : W.nsIn K mainGlobals "isinstance" = some none)
    (z13 : W.nsIn K mainGlobals "abs" = some none)
    (z14 : W.nsIn K mainGlobals "zip" = some none)
    (z15 : W.nsIn K mainGlobals "enumerate" = some none)
    (z16 : W.nsIn K mainGlobals "ValueError" = some none)
    (z17 : W.nsIn K mainGlobals "sorted" = some none)
    (xmNoHouse : W.nsIn K mainGlobals "NoHouse" = some (some (.ref cE_NoHouse)))
    (xoNoHouse : W.excIn K cE_NoHouse [.type "ValueError", .type "Exception", .type "BaseException", .type "object"] "ValueError.__new__" = true)
    (xgaNoHouse : W.findIn K (.ref cE_NoHouse) "__getattribute__" = some (some (.builtin "BaseException.__getattribute__")))
    (xgnNoHouse : W.findIn K (.ref cE_NoHouse) "__getattr__" = some none)
    (xcaNoHouse : W.findIn K (.ref cE_NoHouse) "__class__" = some (some (.builtin "object.__class__")))
    (xmoNoHouse : W.mroIn K cE_NoHouse (.type "object") = some true)
    (xmbNoHouse : W.mroIn K cE_NoHouse (.type "BaseException") = some true)
    (xmNoBook : W.nsIn K mainGlobals "NoBook" = some (some (.ref cE_NoBook)))
    (xoNoBook : W.excIn K cE_NoBook [.type "ValueError", .type "Exception", .type "BaseException", .type "object"] "ValueError.__new__" = true)
    (xgaNoBook : W.findIn K (.ref cE_NoBook) "__getattribute__" = some (some (.builtin "BaseException.__getattribute__")))
    (xgnNoBook : W.findIn K (.ref cE_NoBook) "__getattr__" = some none)
    (xcaNoBook : W.findIn K (.ref cE_NoBook) "__class__" = some (some (.builtin "object.__class__")))
    (xmoNoBook : W.mroIn K cE_NoBook (.type "object") = some true)
    (xmbNoBook : W.mroIn K cE_NoBook (.type "BaseException") = some true)
    (xmRimError : W.nsIn K mainGlobals "RimError" = some (some (.ref cE_RimError)))
    (xoRimError : W.excIn K cE_RimError [.type "ValueError", .type "Exception", .type "BaseException", .type "object"] "ValueError.__new__" = true)
    (xgaRimError : W.findIn K (.ref cE_RimError) "__getattribute__" = some (some (.builtin "BaseException.__getattribute__")))
    (xgnRimError : W.findIn K (.ref cE_RimError) "__getattr__" = some none)
    (xcaRimError : W.findIn K (.ref cE_RimError) "__class__" = some (some (.builtin "object.__class__")))
    (xmoRimError : W.mroIn K cE_RimError (.type "object") = some true)
    (xmbRimError : W.mroIn K cE_RimError (.type "BaseException") = some true)
    (xmNoRow : W.nsIn K mainGlobals "NoRow" = some (some (.ref cE_NoRow)))
    (xoNoRow : W.excIn K cE_NoRow [.type "ValueError", .type "Exception", .type "BaseException", .type "object"] "ValueError.__new__" = true)
    (xgaNoRow : W.findIn K (.ref cE_NoRow) "__getattribute__" = some (some (.builtin "BaseException.__getattribute__")))
    (xgnNoRow : W.findIn K (.ref cE_NoRow) "__getattr__" = some none)
    (xcaNoRow : W.findIn K (.ref cE_NoRow) "__class__" = some (some (.builtin "object.__class__")))
    (xmoNoRow : W.mroIn K cE_NoRow (.type "object") = some true)
    (xmbNoRow : W.mroIn K cE_NoRow (.type "BaseException") = some true)
    (xmNoText : W.nsIn K mainGlobals "NoText" = some (some (.ref cE_NoText)))
    (xoNoText : W.excIn K cE_NoText [.type "ValueError", .type "Exception", .type "BaseException", .type "object"] "ValueError.__new__" = true)
    (xgaNoText : W.findIn K (.ref cE_NoText) "__getattribute__" = some (some (.builtin "BaseException.__getattribute__")))
    (xgnNoText : W.findIn K (.ref cE_NoText) "__getattr__" = some none)
    (xcaNoText : W.findIn K (.ref cE_NoText) "__class__" = some (some (.builtin "object.__class__")))
    (xmoNoText : W.mroIn K cE_NoText (.type "object") = some true)
    (xmbNoText : W.mroIn K cE_NoText (.type "BaseException") = some true)
    (xmTooMany : W.nsIn K mainGlobals "TooMany" = some (some (.ref cE_TooMany)))
    (xoTooMany : W.excIn K cE_TooMany [.type "ValueError", .type "Exception", .type "BaseException", .type "object"] "ValueError.__new__" = true)
    (xgaTooMany : W.findIn K (.ref cE_TooMany) "__getattribute__" = some (some (.builtin "BaseException.__getattribute__")))
    (xgnTooMany : W.findIn K (.ref cE_TooMany) "__getattr__" = some none)
    (xcaTooMany : W.findIn K (.ref cE_TooMany) "__class__" = some (some (.builtin "object.__class__")))
    (xmoTooMany : W.mroIn K cE_TooMany (.type "object") = some true)
    (xmbTooMany : W.mroIn K cE_TooMany (.type "BaseException") = some true)
    (xmNothingLeft : W.nsIn K mainGlobals "NothingLeft" = some (some (.ref cE_NothingLeft)))
    (xoNothingLeft : W.excIn K cE_NothingLeft [.type "ValueError", .type "Exception", .type "BaseException", .type "object"] "ValueError.__new__" = true)
    (xgaNothingLeft : W.findIn K (.ref cE_NothingLeft) "__getattribute__" = some (some (.builtin "BaseException.__getattribute__")))
    (xgnNothingLeft : W.findIn K (.ref cE_NothingLeft) "__getattr__" = some none)
    (xcaNothingLeft : W.findIn K (.ref cE_NothingLeft) "__class__" = some (some (.builtin "object.__class__")))
    (xmoNothingLeft : W.mroIn K cE_NothingLeft (.type "object") = some true)
    (xmbNothingLeft : W.mroIn K cE_NothingLeft (.type "BaseException") = some true)
    (cmMOST_AMOUNT : W.nsIn K mainGlobals "MOST_AMOUNT" = some (some (.int 1000000000 tkC_MOST_AMOUNT)))
    (zstr : W.nsIn K mainGlobals "str" = some none)
    (eSub_NoHouse : W.mroIn K cE_NoHouse (.ref cE_RimError) = some true)
    (eI_NoHouse_NoBook : W.kitOne K (.ref cE_NoHouse) (.ref cE_NoBook) = some false)
    (eI_NoHouse_NoRow : W.kitOne K (.ref cE_NoHouse) (.ref cE_NoRow) = some false)
    (eI_NoHouse_NoText : W.kitOne K (.ref cE_NoHouse) (.ref cE_NoText) = some false)
    (eI_NoHouse_TooMany : W.kitOne K (.ref cE_NoHouse) (.ref cE_TooMany) = some false)
    (eI_NoHouse_NothingLeft : W.kitOne K (.ref cE_NoHouse) (.ref cE_NothingLeft) = some false)
    (eIV_NoHouse : W.kitOne K (.ref cE_NoHouse) (.type "ValueError") = some true)
    (eSub_TooMany : W.mroIn K cE_TooMany (.ref cE_RimError) = some true)
    (eI_TooMany_NoBook : W.kitOne K (.ref cE_TooMany) (.ref cE_NoBook) = some false)
    (eI_TooMany_NoHouse : W.kitOne K (.ref cE_TooMany) (.ref cE_NoHouse) = some false)
    (eI_TooMany_NoRow : W.kitOne K (.ref cE_TooMany) (.ref cE_NoRow) = some false)
    (eI_TooMany_NoText : W.kitOne K (.ref cE_TooMany) (.ref cE_NoText) = some false)
    (eI_TooMany_NothingLeft : W.kitOne K (.ref cE_TooMany) (.ref cE_NothingLeft) = some false)
    (eIV_TooMany : W.kitOne K (.ref cE_TooMany) (.type "ValueError") = some true)
    : ∃ fd : FuncData, (∀ (s : Shared) (v : Value), BindsTo s fd ⟨[v], []⟩ [("script", v)]) /\ ∀ base : Heap, K.In base -> base.Ns mainGlobals mg -> FnOk l.prog w K mg base CX0 4 fa fd ["script"] (spLaw K) := by
  have e := hfa.symm.trans (W.mg_of X G a13)
  cases e
  obtain ⟨_, F1, hc1, k1⟩ := l1.fn
  obtain ⟨_, F2, hc2, k2⟩ := l2.fn
  obtain ⟨_, F3, hc3, k3⟩ := l3.fn
  obtain ⟨_, F4, hc4, k4⟩ := l4.fn
  obtain ⟨_, F5, hc5, k5⟩ := l5.fn
  obtain ⟨_, F6, hc6, k6⟩ := l6.fn
  obtain ⟨_, F7, hc7, k7⟩ := l7.fn
  obtain ⟨_, F8, hc8, k8⟩ := l8.fn
  obtain ⟨_, F9, hc9, k9⟩ := l9.fn
  obtain ⟨_, F10, hc10, k10⟩ := l10.fn
  obtain ⟨_, F11, hc11, k11⟩ := l11.fn
  obtain ⟨_, F12, hc12, k12⟩ := l12.fn
  have F13 := fun_mk (st := sLaw) l13 c13 k13
  have b1 : Binds K _ ["script", "k"] [] := F1.b2 fun _ _ _ _ _ _ _ _ => rfl
  have b2 : Binds K _ ["cell", "many", "base"] [] := F2.b3 fun _ _ _ _ _ _ _ _ _ => rfl
  have b3 : Binds K _ ["house", "picks", "far"] [] := F3.b3 fun _ _ _ _ _ _ _ _ _ => rfl
  have b4 : Binds K _ ["script", "at", "most", "far"] [] := F4.b4 fun _ _ _ _ _ _ _ _ _ _ => rfl
  have b5 : Binds K _ ["many", "picks"] [] := F5.b2 fun _ _ _ _ _ _ _ _ => rfl
  have b6 : Binds K _ ["book", "numbers"] [] := F6.b2 fun _ _ _ _ _ _ _ _ => rfl
  have b7 : Binds K _ ["book", "number"] [] := F7.b2 fun _ _ _ _ _ _ _ _ => rfl
  have b8 : Binds K _ ["rows"] [] := F8.b1 fun _ _ _ _ _ _ _ => rfl
  have b9 : Binds K _ ["book", "numbers"] [] := F9.b2 fun _ _ _ _ _ _ _ _ => rfl
  have b10 : Binds K _ ["e"] [] := F10.b1 fun _ _ _ _ _ _ _ => rfl
  have b11 : Binds K _ ["book", "numbers"] [] := F11.b2 fun _ _ _ _ _ _ _ _ => rfl
  have b12 : Binds K _ ["name"] [] := F12.b1 fun _ _ _ _ _ _ _ => rfl
  have T : Nones mg := ⟨W.mg_none_of X G z1, W.mg_none_of X G z2, W.mg_none_of X G z3, W.mg_none_of X G z4, W.mg_none_of X G z5, W.mg_none_of X G z6, W.mg_none_of X G z7, W.mg_none_of X G z8, W.mg_none_of X G z9, W.mg_none_of X G z10, W.mg_none_of X G z11, W.mg_none_of X G z12, W.mg_none_of X G z13, W.mg_none_of X G z14, W.mg_none_of X G z15, W.mg_none_of X G z16, W.mg_none_of X G z17⟩
  have C_MOST_AMOUNT : ∃ t, mg "MOST_AMOUNT" = some (.int 1000000000 t) := ⟨_, W.mg_of X G cmMOST_AMOUNT⟩
  have k_NoHouse : ExcK K cE_NoHouse := ⟨exc_of xoNoHouse, xgaNoHouse, xgnNoHouse, xcaNoHouse, xmoNoHouse, xmbNoHouse⟩
  have m_NoHouse := W.mg_of X G xmNoHouse
  have k_NoBook : ExcK K cE_NoBook := ⟨exc_of xoNoBook, xgaNoBook, xgnNoBook, xcaNoBook, xmoNoBook, xmbNoBook⟩
  have m_NoBook := W.mg_of X G xmNoBook
  have k_RimError : ExcK K cE_RimError := ⟨exc_of xoRimError, xgaRimError, xgnRimError, xcaRimError, xmoRimError, xmbRimError⟩
  have m_RimError := W.mg_of X G xmRimError
  have k_NoRow : ExcK K cE_NoRow := ⟨exc_of xoNoRow, xgaNoRow, xgnNoRow, xcaNoRow, xmoNoRow, xmbNoRow⟩
  have m_NoRow := W.mg_of X G xmNoRow
  have k_NoText : ExcK K cE_NoText := ⟨exc_of xoNoText, xgaNoText, xgnNoText, xcaNoText, xmoNoText, xmbNoText⟩
  have m_NoText := W.mg_of X G xmNoText
  have k_TooMany : ExcK K cE_TooMany := ⟨exc_of xoTooMany, xgaTooMany, xgnTooMany, xcaTooMany, xmoTooMany, xmbTooMany⟩
  have m_TooMany := W.mg_of X G xmTooMany
  have k_NothingLeft : ExcK K cE_NothingLeft := ⟨exc_of xoNothingLeft, xgaNothingLeft, xgnNothingLeft, xcaNothingLeft, xmoNothingLeft, xmbNothingLeft⟩
  have m_NothingLeft := W.mg_of X G xmNothingLeft
  have R : ErrM K mg cE_RimError cE_NoBook cE_NoHouse cE_NoRow cE_NoText cE_TooMany cE_NothingLeft := ⟨m_RimError, m_NoBook, m_NoHouse, m_NoRow, m_NoText, m_TooMany, m_NothingLeft, k_RimError⟩
  have M_NoHouse : KinOf K cE_NoHouse cE_RimError cE_NoBook cE_NoHouse cE_NoRow cE_NoText cE_TooMany cE_NothingLeft false true false false false false := ⟨k_NoHouse, eSub_NoHouse, eI_NoHouse_NoBook, kit_same _, eI_NoHouse_NoRow, eI_NoHouse_NoText, eI_NoHouse_TooMany, eI_NoHouse_NothingLeft, eIV_NoHouse⟩
  have M_TooMany : KinOf K cE_TooMany cE_RimError cE_NoBook cE_NoHouse cE_NoRow cE_NoText cE_TooMany cE_NothingLeft false false false false true false := ⟨k_TooMany, eSub_TooMany, eI_TooMany_NoBook, eI_TooMany_NoHouse, eI_TooMany_NoRow, eI_TooMany_NoText, kit_same _, eI_TooMany_NothingLeft, eIV_TooMany⟩
  refine ⟨W.fnOf "law" "law" (defArgs sLaw) (defBody sLaw) (defScope sLaw) .none kVL dcL pmL anL cdL ctL, fun s v => .of_eq rfl, fun base _ _ => ?_⟩
  have g1 := fun n : Nat => ok_cell (mg := mg) (P := l.prog) (w := w) (base := base) (n := n) F1 T
  have g2 := fun n : Nat => ok_draws (mg := mg) (P := l.prog) (w := w) (base := base) (n := n) F2 T
  have g3 := fun n : Nat => ok_near (mg := mg) (P := l.prog) (w := w) (base := base) (n := n) F3 T
  have g4 := fun n : Nat => ok_abook (mg := mg) (P := l.prog) (w := w) (base := base) F4 T (g1 (n + 0)) b1 k1 (W.mg_of X G a1) (g2 (n + 0)) b2 k2 (W.mg_of X G a2) (g3 (n + 0)) b3 k3 (W.mg_of X G a3)
  have g5 := fun n : Nat => ok_some (mg := mg) (P := l.prog) (w := w) (base := base) (n := n) F5 T
  have g6 := fun n : Nat => ok_due26 (mg := mg) (P := l.prog) (w := w) (base := base) (n := n) F6 T
  have g7 := fun n : Nat => ok_hof (mg := mg) (P := l.prog) (w := w) (base := base) (n := n) F7 T k_NoHouse m_NoHouse
  have g8 := fun n : Nat => ok_tog (mg := mg) (P := l.prog) (w := w) (base := base) (n := n) F8 T
  have g9 := fun n : Nat => ok_mrg (mg := mg) (P := l.prog) (w := w) (base := base) F9 T k_TooMany m_TooMany C_MOST_AMOUNT ⟨g7 (n + 0), b7, k7, (W.mg_of X G a7)⟩ ⟨g8 (n + 0), b8, k8, (W.mg_of X G a8)⟩
  have g10 := fun n : Nat => ok_kinG (mg := mg) (P := l.prog) (w := w) (base := base) (n := n) F10 T R
  have g11 := fun n : Nat => ok_told26 (mg := mg) (P := l.prog) (w := w) (base := base) F11 R M_NoHouse M_TooMany ⟨g9 (n + 0), b9, k9, (W.mg_of X G a9)⟩ ⟨g10 (n + 1), b10, k10, (W.mg_of X G a10)⟩
  have g12 := fun n : Nat => ok_dueG (mg := mg) (P := l.prog) (w := w) (base := base) (n := n) F12 T
  exact ok_law F13 T (W.mg_none_of X G zstr) ⟨⟨g4 1, b4, k4, (W.mg_of X G a4)⟩, ⟨g1 2, b1, k1, (W.mg_of X G a1)⟩, ⟨g2 2, b2, k2, (W.mg_of X G a2)⟩, ⟨g5 2, b5, k5, (W.mg_of X G a5)⟩, ⟨g6 2, b6, k6, (W.mg_of X G a6)⟩, ⟨g11 0, b11, k11, (W.mg_of X G a11)⟩, ⟨g12 2, b12, k12, (W.mg_of X G a12)⟩, ⟨g9 1, b9, k9, (W.mg_of X G a9)⟩⟩
end Rim
namespace Rim
open PySem L2 Fr
theorem walk {l : W.OpenLaw} {q : Program} {loose : List Str} {XP : (Str -> Option Value) -> Heap -> Prop} {YP : World -> Heap -> Prop} {d : DefRec} {K : Params -> W.Frag} (hn : l.most = some 63) (hdf : d.params.defaults = [])
    (hY : ∀ (w : World) (h : Heap), YP w h -> (K w.params).In h)
    (F : ∀ (w : World) (mg : Str -> Option Value) (fa : Addr) (h : Heap), (K w.params).In h -> h.Ns mainGlobals mg -> mg d.name = some (.ref fa) →
      ∃ fd : FuncData, (∀ (s : Shared) (u : Value), BindsTo s fd ⟨[u], []⟩ [("script", u)]) /\ ∀ base : Heap, (K w.params).In base -> base.Ns mainGlobals mg -> FnOk l.prog w (K w.params) mg base CX0 4 fa fd ["script"] (spLaw (K w.params))) :
    W.WalkO q loose XP YP l.row.toRowW d [] (fun f vs => PySem.call f vs) :=
  L2.walk_of (n := 63) (k := 4) (x := "script") (CX := fun _ => CX0) (sp := fun w => spLaw (K w.params)) hn (by decide) hdf ⟨rfl, by decide, by decide⟩ hY F (fun _ _ a ns hl _ hS => ⟨a, ns, rfl, hS, hl, fun _ => rfl⟩) fun _ _ _ _ _ z => z
end Rim
open PySem PySem.W PyProof.Rows
set_option maxRecDepth 100000 in
set_option maxHeartbeats 0 in
theorem PySem.Challenge.cw_rimhouse_k26_merged_by_hand_holds : PySem.Challenge.rw_rimhouse_k26_merged_by_hand.Holds := by
  w_on; o_law; k_head; (case hw => w_witness2)
  k_fill
  refine Rim.walk (l := PySem.Challenge.rw_rimhouse_k26_merged_by_hand) rfl rfl (fun w h Y => W.kIn_of Y) ?F
  case F =>
    intro w mg fa h KX G hmg
    refine' Rim.all_mk KX G hmg ?a1 ?l1 ?a2 ?l2 ?a3 ?l3 ?a4 ?l4 ?a5 ?l5 ?a6 ?l6 ?a7 ?l7 ?a8 ?l8 ?a9 ?l9 ?a10 ?l10 ?a11 ?l11 ?a12 ?l12 ?a13 ?l13 ?c13 ?k13 ?z1 ?z2 ?z3 ?z4 ?z5 ?z6 ?z7 ?z8 ?z9 ?z10 ?z11 ?z12 ?z13 ?z14 ?z15 ?z16 ?z17 ?xmNoHouse ?xoNoHouse ?xgaNoHouse ?xgnNoHouse ?xcaNoHouse ?xmoNoHouse ?xmbNoHouse ?xmNoBook ?xoNoBook ?xgaNoBook ?xgnNoBook ?xcaNoBook ?xmoNoBook ?xmbNoBook ?xmRimError ?xoRimError ?xgaRimError ?xgnRimError ?xcaRimError ?xmoRimError ?xmbRimError ?xmNoRow ?xoNoRow ?xgaNoRow ?xgnNoRow ?xcaNoRow ?xmoNoRow ?xmbNoRow ?xmNoText ?xoNoText ?xgaNoText ?xgnNoText ?xcaNoText ?xmoNoText ?xmbNoText ?xmTooMany ?xoTooMany ?xgaTooMany ?xgnTooMany ?xcaTooMany ?xmoTooMany ?xmbTooMany ?xmNothingLeft ?xoNothingLeft ?xgaNothingLeft ?xgnNothingLeft ?xcaNothingLeft ?xmoNothingLeft ?xmbNothingLeft ?cmMOST_AMOUNT ?zstr ?eSub_NoHouse ?eI_NoHouse_NoBook ?eI_NoHouse_NoRow ?eI_NoHouse_NoText ?eI_NoHouse_TooMany ?eI_NoHouse_NothingLeft ?eIV_NoHouse ?eSub_TooMany ?eI_TooMany_NoBook ?eI_TooMany_NoHouse ?eI_TooMany_NoRow ?eI_TooMany_NoText ?eI_TooMany_NothingLeft ?eIV_TooMany
    (case a1 => k_is)
    (case l1 => (refine' L2.fun_in ?l ?c ?k; (case l => k_is); (case c => k_is); (case k => k_is)))
    (case a2 => k_is)
    (case l2 => (refine' L2.fun_in ?l ?c ?k; (case l => k_is); (case c => k_is); (case k => k_is)))
    (case a3 => k_is)
    (case l3 => (refine' L2.fun_in ?l ?c ?k; (case l => k_is); (case c => k_is); (case k => k_is)))
    (case a4 => k_is)
    (case l4 => (refine' L2.fun_in ?l ?c ?k; (case l => k_is); (case c => k_is); (case k => k_is)))
    (case a5 => k_is)
    (case l5 => (refine' L2.fun_in ?l ?c ?k; (case l => k_is); (case c => k_is); (case k => k_is)))
    (case a6 => k_is)
    (case l6 => (refine' L2.fun_in ?l ?c ?k; (case l => k_is); (case c => k_is); (case k => k_is)))
    (case a7 => k_is)
    (case l7 => (refine' L2.fun_in ?l ?c ?k; (case l => k_is); (case c => k_is); (case k => k_is)))
    (case a8 => k_is)
    (case l8 => (refine' L2.fun_in ?l ?c ?k; (case l => k_is); (case c => k_is); (case k => k_is)))
    (case a9 => k_is)
    (case l9 => (refine' L2.fun_in ?l ?c ?k; (case l => k_is); (case c => k_is); (case k => k_is)))
    (case a10 => k_is)
    (case l10 => (refine' L2.fun_in ?l ?c ?k; (case l => k_is); (case c => k_is); (case k => k_is)))
    (case a11 => k_is)
    (case l11 => (refine' L2.fun_in ?l ?c ?k; (case l => k_is); (case c => k_is); (case k => k_is)))
    (case a12 => k_is)
    (case l12 => (refine' L2.fun_in ?l ?c ?k; (case l => k_is); (case c => k_is); (case k => k_is)))
    (case a13 => k_is)
    (case l13 => k_is)
    (case c13 => k_is)
    (case k13 => k_is)
    (case z1 => k_is)
    (case z2 => k_is)
    (case z3 => k_is)
    (case z4 => k_is)
    (case z5 => k_is)
    (case z6 => k_is)
    (case z7 => k_is)
    (case z8 => k_is)
    (case z9 => k_is)
    (case z10 => k_is)
    (case z11 => k_is)
    (case z12 => k_is)
    (case z13 => k_is)
    (case z14 => k_is)
    (case z15 => k_is)
    (case z16 => k_is)
    (case z17 => k_is)
    (case xmNoHouse => k_is)
    (case xoNoHouse => k_exc)
    (case xgaNoHouse => k_is)
    (case xgnNoHouse => k_is)
    (case xcaNoHouse => k_is)
    (case xmoNoHouse => k_is)
    (case xmbNoHouse => k_is)
    (case xmNoBook => k_is)
    (case xoNoBook => k_exc)
    (case xgaNoBook => k_is)
    (case xgnNoBook => k_is)
    (case xcaNoBook => k_is)
    (case xmoNoBook => k_is)
    (case xmbNoBook => k_is)
    (case xmRimError => k_is)
    (case xoRimError => k_exc)
    (case xgaRimError => k_is)
    (case xgnRimError => k_is)
    (case xcaRimError => k_is)
    (case xmoRimError => k_is)
    (case xmbRimError => k_is)
    (case xmNoRow => k_is)
    (case xoNoRow => k_exc)
    (case xgaNoRow => k_is)
    (case xgnNoRow => k_is)
    (case xcaNoRow => k_is)
    (case xmoNoRow => k_is)
    (case xmbNoRow => k_is)
    (case xmNoText => k_is)
    (case xoNoText => k_exc)
    (case xgaNoText => k_is)
    (case xgnNoText => k_is)
    (case xcaNoText => k_is)
    (case xmoNoText => k_is)
    (case xmbNoText => k_is)
    (case xmTooMany => k_is)
    (case xoTooMany => k_exc)
    (case xgaTooMany => k_is)
    (case xgnTooMany => k_is)
    (case xcaTooMany => k_is)
    (case xmoTooMany => k_is)
    (case xmbTooMany => k_is)
    (case xmNothingLeft => k_is)
    (case xoNothingLeft => k_exc)
    (case xgaNothingLeft => k_is)
    (case xgnNothingLeft => k_is)
    (case xcaNothingLeft => k_is)
    (case xmoNothingLeft => k_is)
    (case xmbNothingLeft => k_is)
    (case cmMOST_AMOUNT => k_is)
    (case zstr => k_is)
    (case eSub_NoHouse => k_is)
    (case eI_NoHouse_NoBook => kit_is)
    (case eI_NoHouse_NoRow => kit_is)
    (case eI_NoHouse_NoText => kit_is)
    (case eI_NoHouse_TooMany => kit_is)
    (case eI_NoHouse_NothingLeft => kit_is)
    (case eIV_NoHouse => kit_is)
    (case eSub_TooMany => k_is)
    (case eI_TooMany_NoBook => kit_is)
    (case eI_TooMany_NoHouse => kit_is)
    (case eI_TooMany_NoRow => kit_is)
    (case eI_TooMany_NoText => kit_is)
    (case eI_TooMany_NothingLeft => kit_is)
    (case eIV_TooMany => kit_is)
