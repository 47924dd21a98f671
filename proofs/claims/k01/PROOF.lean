import PyProof.Rows.All
import Wide.All
import OpenK.AllK
import Wide.FinOn
import Lean
import PyProof.EqAt
import PyProof.EqKinds
import PyProof.TupleCall
import PyProof.NeData
import PySem.Challenge.RW_rimhouse_k01_what_is_a_book
set_option Elab.async false
set_option linter.all false
set_option maxRecDepth 100000
namespace L2
open PySem PySem.Spec PyProof.Rows
abbrev Key := Sum Int Str
def keyIs : Key -> Value -> Bool
  | .inl k, v => Value.isInt k v
  | .inr x, v => Value.isStrOf x v
def keyH (w : World) : Key -> Int
  | .inl k => hashInt k
  | .inr x => hashStr w x
theorem keyIs_shape : ∀ {k : Key} {v : Value}, keyIs k v = true -> (∃ i t, k = Sum.inl i /\ v = Value.int i t) \/ (∃ x t, k = Sum.inr x /\ v = Value.str x t)
  | .inl i, v, h => by
    obtain ⟨t, e⟩ := Value.isInt_shape (k := i) (v := v) h
    exact .inl ⟨i, t, rfl, e⟩
  | .inr x, v, h => by
    obtain ⟨t, e⟩ := Value.isStrOf_shape (x := x) (v := v) h
    exact .inr ⟨x, t, rfl, e⟩
theorem key_ll (a b : Int) : decide ((Sum.inl a : Key) = Sum.inl b) = (a == b) := by
  by_cases e : a = b
  . subst e; simp
  . have h : ¬ (Sum.inl a : Key) = Sum.inl b := fun q => e (Sum.inl.inj q)
    rw [decide_eq_false h]
    exact (beq_eq_false_iff_ne.mpr e).symm
theorem key_rr (a b : Str) : decide ((Sum.inr a : Key) = Sum.inr b) = decide (a = b) := by
  by_cases e : a = b
  . subst e; simp
  . have h : ¬ (Sum.inr a : Key) = Sum.inr b := fun q => e (Sum.inr.inj q)
    rw [decide_eq_false h, decide_eq_false e]
theorem key_lr (a : Int) (b : Str) : decide ((Sum.inl a : Key) = Sum.inr b) = false := decide_eq_false (fun q => nomatch q)
theorem key_rl (a : Str) (b : Int) : decide ((Sum.inr a : Key) = Sum.inl b) = false := decide_eq_false (fun q => nomatch q)
def mixKind (prog : Program) (w : World) : PySem.KeyKind prog w Key where
  is := keyIs
  hash := keyH w
  inj := fun v a b ha hb => by
    rcases keyIs_shape ha with ⟨i, t, rfl, rfl⟩ | ⟨x, t, rfl, rfl⟩
    . rcases keyIs_shape hb with ⟨j, u, rfl, e⟩ | ⟨y, u, rfl, e⟩
      . injection e with e1 _; rw [e1]
      . exact nomatch e
    . rcases keyIs_shape hb with ⟨j, u, rfl, e⟩ | ⟨y, u, rfl, e⟩
      . exact nomatch e
      . injection e with e1 _; rw [e1]
  byValue := fun k v h => by
    rcases keyIs_shape h with ⟨i, t, rfl, rfl⟩ | ⟨x, t, rfl, rfl⟩ <;> rfl
  pyHash := fun hv h => by
    rcases keyIs_shape hv with ⟨i, t, rfl, rfl⟩ | ⟨x, t, rfl, rfl⟩
    . exact wpAny_pyHash_int h
    . exact wpAny_pyHash_str h
  eqBool := fun hu hv h => by
    rcases keyIs_shape hu with ⟨i, t, rfl, rfl⟩ | ⟨x, t, rfl, rfl⟩
    . rcases keyIs_shape hv with ⟨j, u, rfl, rfl⟩ | ⟨y, u, rfl, rfl⟩
      . rw [key_ll] at h; exact wpAny_eqBool_int h
      . rw [key_lr] at h; exact SeqAt.EqAt.int_str i t y u _ _ _ _ h
    . rcases keyIs_shape hv with ⟨j, u, rfl, rfl⟩ | ⟨y, u, rfl, rfl⟩
      . rw [key_rl] at h; exact SeqAt.EqAt.str_int x t j u _ _ _ _ h
      . rw [key_rr] at h; exact wpAny_eqBool_str h
  «strs» := fun k x t v h => by
    rcases keyIs_shape h with ⟨i, u, rfl, e⟩ | ⟨y, u, rfl, e⟩
    . exact nomatch e
    . injection e with e1 _
      subst e1
      cases v <;> rfl
end L2
namespace L2
open PySem PySem.Spec PyProof.Rows
inductive V where
  | non | bl (b : Bool) | int (i : Int) | str (x : Str) | byt (b : Array UInt8) | flt (b : UInt64) | ref (a : Addr) | ty (n : String)
  deriving DecidableEq
def RelV : V -> Value -> Prop
  | .non, u => u = Value.none
  | .bl b, u => u = Value.bool b
  | .int i, u => ∃ t, u = Value.int i t
  | .str x, u => ∃ t, u = Value.str x t
  | .byt b, u => ∃ t, u = Value.bytes b t
  | .flt b, u => ∃ t, u = Value.float b t
  | .ref a, u => u = Value.ref a
  | .ty n, u => u = Value.type n
abbrev Vals : List V -> List Value -> Prop := Paired RelV
theorem Vals.length {xs : List V} {us : List Value} (r : Vals xs us) : xs.length = us.length := Paired.length r
theorem Vals.get : ∀ {xs : List V} {us : List Value} {i : Nat} {x : V}, Vals xs us -> xs[i]? = some x -> ∃ u, us[i]? = some u /\ RelV x u
  | _, _, _, _, .nil, e => by simp at e
  | _, _, 0, _, .cons r _, e => by simp at e; subst e; exact ⟨_, rfl, r⟩
  | _, _, i + 1, x, .cons _ t, e => by
    obtain ⟨u, h1, h2⟩ := Vals.get (i := i) (x := x) t (by simpa using e)
    exact ⟨u, by simpa using h1, h2⟩
theorem Vals.set {x : V} {u : Value} (r : RelV x u) : ∀ {xs : List V} {us : List Value} (i : Nat), Vals xs us -> Vals (xs.set i x) (us.set i u)
  | _, _, _, .nil => .nil
  | _, _, 0, .cons _ t => .cons r t
  | _, _, i + 1, .cons q t => .cons q (Vals.set r i t)
theorem Vals.append : ∀ {xs ys : List V} {us ws : List Value}, Vals xs us -> Vals ys ws -> Vals (xs ++ ys) (us ++ ws)
  | _, _, _, _, .nil, s => s
  | _, _, _, _, .cons r t, s => .cons r (Vals.append t s)
theorem Vals.take : ∀ {xs : List V} {us : List Value} (n : Nat), Vals xs us -> Vals (xs.take n) (us.take n)
  | _, _, 0, _ => .nil
  | _, _, _ + 1, .nil => .nil
  | _, _, n + 1, .cons r t => .cons r (Vals.take n t)
theorem Vals.drop : ∀ {xs : List V} {us : List Value} (n : Nat), Vals xs us -> Vals (xs.drop n) (us.drop n)
  | _, _, 0, r => r
  | _, _, _ + 1, .nil => .nil
  | _, _, n + 1, .cons _ t => Vals.drop n t
theorem Vals.none_of : ∀ {xs : List V} {us : List Value} {i : Nat}, Vals xs us -> xs[i]? = none -> us[i]? = none := fun {xs us i} r e => by
  have h1 := r.length
  have h2 : xs.length <= i := List.getElem?_eq_none_iff.mp e
  exact List.getElem?_eq_none_iff.mpr (by omega)
def RelO : Option V -> Option Value -> Prop
  | some v, some u => RelV v u
  | none, none => True
  | _, _ => False
def KV {κ : Type} : List (κ × V) -> List (κ × Value) -> Prop := Paired fun (p : κ × V) (q : κ × Value) => p.1 = q.1 /\ RelV p.2 q.2
def kV : Key -> V
  | .inl i => .int i
  | .inr x => .str x
inductive HO where
  /-- a list -/
  | lst (xs : List V)
  /-- a tuple (never changes) -/
  | tup (xs : List V)
  /-- a dict whose keys are ints and texts; one whose keys are tuples of ints and texts (the empty one is both) -/
  | dK (kvs : List (Key × V)) | dT (kvs : List (List Key × V))
  /-- a set of ints: its members, its size -/
  | set (S : Int -> Bool) (n : Nat)
  /-- an instance of the class at C, its dict at dx, its attributes -/
  | ins (C dx : Addr) (fs : List (Str × V))
  /-- the dict of the instance at x -/
  | own (x : Addr)
  /-- the dict of an exception -/
  | xd (fs : List (Str × V))
  /-- a bound method, f of x -/
  | met (f x : Addr)
  /-- a range object lo, lo + 1, .. below hi -/
  | rng (lo hi : Int)
  /-- a thing that is known to the object (the script; a dict while a loop walks it): read, never written while it is so -/
  | frz (o : Obj) (u : HO)
  /-- a code object's table -/
  | tbl (ps : Array Value)
  /-- any other thing, by what is true of its one object (a def of one's own: SetO a S n := HO.ext fun h => ..) -/
  | ext (φ : Heap -> Prop)
abbrev Hp := Addr -> Option HO
def upd (H : Hp) (a : Addr) (o : HO) : Hp := fun b => if b = a then some o else H b
theorem upd_same {H : Hp} {a : Addr} {o : HO} : upd H a o a = some o := by unfold upd; rw [if_pos rfl]
theorem upd_ne {H : Hp} {a b : Addr} {o : HO} (h : b ≠ a) : upd H a o b = H b := by unfold upd; rw [if_neg h]
theorem upd_upd {H : Hp} {a : Addr} {o u : HO} : upd (upd H a o) a u = upd H a u := by
  funext b; unfold upd; split <;> rfl
theorem ne_of_none {H : Hp} {a b : Addr} {o : HO} (h : H a = some o) (h' : H b = none) : a ≠ b := by
  intro e; subst e; rw [h] at h'; cases h'
section
variable (P : Program) (w : World)
def ObjOk (H : Hp) (h : Heap) (a : Addr) : HO -> Prop
  | .lst xs => xs.length <= sizeLine /\ ∃ (its : List Value) (n : Nat), Vals xs its /\ h.get? a = some { cls := .type "list", data := .seq its.toArray n }
  | .tup xs => xs.length <= sizeLine /\ ∃ its : List Value, Vals xs its /\ IsTup h a its.toArray
  | .dK kvs => kvs.length <= sizeLine /\ (a == sysModules) = false /\ ∃ vs, KV kvs vs /\ h.DictOf (mixKind P w) a vs
  | .dT kvs => kvs.length <= sizeLine /\ (a == sysModules) = false /\ ∃ xs : List (List Key × Addr × Value),
      Paired (fun (p : List Key × V) (q : List Key × Addr × Value) => p.1 = q.1 /\ H q.2.1 = some (.tup (p.1.map kV)) /\ RelV p.2 q.2.2) kvs xs ∧
      ∃ o es ep, h.get? a = some o /\ o.ExactDict /\ o.data = .dict es ep /\ es.toList = xs.map (entryOfKey (tupleKind (mixKind P w))) /\ (xs.map (·.1)).Nodup
  | .set S n => h.SetOf (intKind P w) a S n
  | .ins C dx fs => H dx = some (.own a) /\ fs.length <= 1000 /\ dx ≠ a /\ h.get? a = some (W.instObj C dx) ∧
      ∃ mA, h.Ns1 dx mA /\ (∀ f, RelO (fs.lookup f) (mA f)) /\ PySem.Within mA (fs.map (·.1))
  | .own _ => ∃ o, h.get? a = some o
  | .xd fs => ∃ mA, h.Ns1 a mA /\ ∀ f, RelO (fs.lookup f) (mA f)
  | .rng lo hi => ∃ t u v, h.get? a = some { cls := .type "range", data := .fields #[.int lo t, .int hi u, .int 1 v] }
  | .frz o u => h.get? a = some o /\ ObjOk H h a u
  | .tbl ps => h.get? a = some { cls := .none, data := .fields ps }
  | .met f x => h.get? a = some (W.methodObj (.ref f) (.ref x))
  | .ext φ => φ h /\ (∃ o, h.get? a = some o) /\ ∀ h1 h2 : Heap, φ h1 -> (∀ o, h1.get? a = some o -> h2.get? a = some o) -> φ h2
def HOk (H : Hp) (h : Heap) : Prop := ∀ a o, H a = some o -> ObjOk P w H h a o
end
section
variable {P : Program} {w : World} {H H' : Hp} {h h' : Heap} {a : Addr} {o : HO}
theorem ObjOk.lt (x : ObjOk P w H h a o) : a < h.objs.size := by
  cases o with
  | lst xs => obtain ⟨_, _, _, _, e⟩ := x; exact Heap.lt_size e
  | tup xs => obtain ⟨_, _, _, p⟩ := x; exact p.lt
  | dK kvs => obtain ⟨_, _, _, _, o, _, _, e, _⟩ := x; exact Heap.lt_size e
  | dT kvs => obtain ⟨_, _, _, _, o, _, _, e, _⟩ := x; exact Heap.lt_size e
  | set S n => obtain ⟨o, _, _, _, e, _⟩ := x; exact Heap.lt_size e
  | ins C dx fs => obtain ⟨_, _, _, e, _⟩ := x; exact Heap.lt_size e
  | own y => obtain ⟨_, e⟩ := x; exact Heap.lt_size e
  | xd fs => obtain ⟨_, ⟨_, _, _, e, _⟩, _⟩ := x; exact Heap.lt_size e
  | rng lo hi => obtain ⟨_, _, _, e⟩ := x; exact Heap.lt_size e
  | frz ob u => obtain ⟨e, _⟩ := x; exact Heap.lt_size e
  | tbl ps => exact Heap.lt_size (show h.get? a = some _ from x)
  | met f y => exact Heap.lt_size (show h.get? a = some _ from x)
  | ext φ => obtain ⟨_, ⟨_, e⟩, _⟩ := x; exact Heap.lt_size e
theorem Paired.mapP {α β : Type} {F G : α -> β -> Prop} : ∀ {l₁ : List α} {l₂ : List β}, Paired F l₁ l₂ -> (∀ a b, F a b -> G a b) -> Paired G l₁ l₂
  | _, _, .nil, _ => .nil
  | _, _, .cons r t, f => .cons (f _ _ r) (Paired.mapP t f)
theorem Paired.imp' {α β : Type} {F G : α -> β -> Prop} (f : ∀ a b, F a b -> G a b) {l₁ : List α} {l₂ : List β} (r : Paired F l₁ l₂) : Paired G l₁ l₂ := Paired.mapP r f
theorem ObjOk.stay (x : ObjOk P w H h a o) (k : ∀ b u, (b = a \/ H b = some (.own a)) -> h.get? b = some u -> h'.get? b = some u)
    (ho : ∀ b, H b = some (.own a) -> H' b = some (.own a)) (ht : ∀ b xs, H b = some (.tup xs) -> H' b = some (.tup xs)) : ObjOk P w H' h' a o := by
  induction o with
  | lst xs => obtain ⟨z, its, n, r, e⟩ := x; exact ⟨z, its, n, r, k _ _ (.inl rfl) e⟩
  | tup xs => obtain ⟨z, its, r, ob, e, c⟩ := x; exact ⟨z, its, r, ob, k _ _ (.inl rfl) e, c⟩
  | dK kvs => obtain ⟨z, y, vs, r, ob, es, ep, e, c⟩ := x; exact ⟨z, y, vs, r, ob, es, ep, k _ _ (.inl rfl) e, c⟩
  | dT kvs =>
    obtain ⟨z, y, xs, r, ob, es, ep, e, c⟩ := x
    exact ⟨z, y, xs, Paired.mapP r fun p q z => ⟨z.1, ht _ _ z.2.1, z.2.2⟩, ob, es, ep, k _ _ (.inl rfl) e, c⟩
  | set S n => obtain ⟨ob, es, ep, t, e, c⟩ := x; exact ⟨ob, es, ep, t, k _ _ (.inl rfl) e, c⟩
  | ins C dx fs =>
    obtain ⟨d, z, ne, e, mA, ⟨od, es, ep, e2, c⟩, r⟩ := x
    exact ⟨ho _ d, z, ne, k _ _ (.inl rfl) e, mA, ⟨od, es, ep, k _ _ (.inr d) e2, c⟩, r⟩
  | own y => obtain ⟨ob, e⟩ := x; exact ⟨ob, k _ _ (.inl rfl) e⟩
  | xd fs => obtain ⟨mA, ⟨od, es, ep, e, c⟩, r⟩ := x; exact ⟨mA, ⟨od, es, ep, k _ _ (.inl rfl) e, c⟩, r⟩
  | rng lo hi => obtain ⟨t, u, v, e⟩ := x; exact ⟨t, u, v, k _ _ (.inl rfl) e⟩
  | frz ob u ih => obtain ⟨e, q⟩ := x; exact ⟨k _ _ (.inl rfl) e, ih q⟩
  | tbl ps =>
    have e : h.get? a = some { cls := .none, data := .fields ps } := x
    show h'.get? a = some { cls := .none, data := .fields ps }
    exact k a _ (.inl rfl) e
  | met f y =>
    have e : h.get? a = some (W.methodObj (.ref f) (.ref y)) := x
    show h'.get? a = some (W.methodObj (.ref f) (.ref y))
    exact k a _ (.inl rfl) e
  | ext φ => obtain ⟨p, ⟨o, e⟩, st⟩ := x; exact ⟨st _ _ p fun o q => k _ _ (.inl rfl) q, ⟨o, k _ _ (.inl rfl) e⟩, st⟩
theorem HOk.lt (x : HOk P w H h) (e : H a = some o) : a < h.objs.size := (x a o e).lt
theorem HOk.fresh (x : HOk P w H h) (e : h.objs.size <= a) : H a = none := by
  cases q : H a with
  | none => rfl
  | some u => exact absurd (Nat.lt_of_lt_of_le (x.lt q) e) (Nat.lt_irrefl _)
theorem HOk.kept (x : HOk P w H h) (k : ∀ b u, h.get? b = some u -> h'.get? b = some u) : HOk P w H h' := fun a o e =>
  (x a o e).stay (fun b u _ q => k b u q) (fun _ q => q) fun _ _ q => q
theorem HOk.laid (x : HOk P w H h) (k : ∀ b u, h.get? b = some u -> h'.get? b = some u) (hp : h.objs.size <= a) (new : ObjOk P w (upd H a o) h' a o) : HOk P w (upd H a o) h' := fun b u e => by
  have hn := x.fresh hp
  by_cases hb : b = a
  . subst hb; rw [upd_same] at e; cases e; exact new
  . rw [upd_ne hb] at e
    exact (x b u e).stay (fun c v _ q => k c v q) (fun c q => by rw [upd_ne (ne_of_none q hn)]; exact q) fun c xs q => by rw [upd_ne (ne_of_none q hn)]; exact q
end
def Rd (H : Hp) (a : Addr) (u : HO) : Prop := H a = some u \/ ∃ o, H a = some (.frz o u)
theorem Rd.of {H : Hp} {a : Addr} {u : HO} (h : H a = some u) : Rd H a u := .inl h
theorem Rd.ok {P : Program} {w : World} {H : Hp} {h : Heap} {a : Addr} {u : HO} (r : Rd H a u) (x : HOk P w H h) : ObjOk P w H h a u := by
  rcases r with r | ⟨o, r⟩
  . exact x a u r
  . obtain ⟨_, q⟩ := x a _ r
    exact q
def Mut : Option HO -> Prop
  | some (.lst _) => True
  | some (.dK _) => True
  | some (.dT _) => True
  | some (.set _ _) => True
  | some (.ins _ _ _) => True
  | some (.ext _) => True
  | _ => False
section
variable {P : Program} {w : World} {H : Hp} {h h' : Heap} {x e : Addr} {o' : HO}
theorem HOk.write (ok : HOk P w H h) (mu : Mut (H x)) (he : e = x \/ H e = some (.own x)) (k : ∀ b u, b ≠ e -> h.get? b = some u -> h'.get? b = some u) (heo : ∃ u, h'.get? e = some u)
    (new : ObjOk P w (upd H x o') h' x o') : HOk P w (upd H x o') h' := fun b u q => by
  have nown : ∀ c y, H c = some (.own y) -> c ≠ x := fun c y r z => by subst z; rw [r] at mu; exact mu
  have ntup : ∀ c xs, H c = some (.tup xs) -> c ≠ x := fun c xs r z => by subst z; rw [r] at mu; exact mu
  by_cases hb : b = x
  . subst hb; rw [upd_same] at q; cases q; exact new
  . rw [upd_ne hb] at q
    by_cases hbe : b = e
    . have q' : H b = some (.own x) := by
        rcases he with z | z
        . exact absurd (hbe.trans z) hb
        . rw [hbe]; exact z
      rw [q] at q'; cases q'
      obtain ⟨v, hv⟩ := heo
      exact ⟨v, by rw [hbe]; exact hv⟩
    . refine (ok b u q).stay (fun c v hc r => k c v ?_ r) (fun c r => by rw [upd_ne (nown c b r)]; exact r) fun c xs r => by rw [upd_ne (ntup c xs r)]; exact r
      rcases hc with rfl | hc
      . exact hbe
      . rintro rfl
        rcases he with z | z
        . exact nown c b hc z
        . rw [hc] at z; cases z; exact hb rfl
end
structure Un (fs ex : List Addr) (H H' : Hp) (h h' : Heap) : Prop where
  keep : ∀ b o, h.get? b = some o -> H b = none -> b ∉ fs -> b ∉ ex -> h'.get? b = some o
  slot : ∀ b o, h.get? b = some o -> H b = none -> b ∈ fs -> b ∉ ex -> ∃ sl, h'.get? b = some { o with slots := sl }
  free : ∀ b o, h.get? b = some o -> H b = none -> b ∉ ex -> H' b = none
  there : ∀ b o, h.get? b = some o -> b ∉ ex -> ∃ o', h'.get? b = some o'
  tups : ∀ b xs, H b = some (.tup xs) -> H' b = some (.tup xs)
  frzs : ∀ b o u, H b = some (.frz o u) -> H' b = some (.frz o u)
  tbls : ∀ b ps, H b = some (.tbl ps) -> ∃ more, H' b = some (.tbl (ps ++ more))
section
variable {fs fs' ex ex' : List Addr} {H H1 H2 : Hp} {h h1 h2 h' : Heap} {a x e : Addr} {o : HO}
theorem Un.any (u : Un fs ex H H1 h h1) {b : Addr} {ob : Obj} (q : h.get? b = some ob) (n : H b = none) (hx : b ∉ ex) : ∃ sl, h1.get? b = some { ob with slots := sl } := by
  by_cases hb : b ∈ fs
  . exact u.slot b ob q n hb hx
  . exact ⟨ob.slots, u.keep b ob q n hb hx⟩
theorem Un.trans (a : Un fs ex H H1 h h1) (b : Un fs ex H1 H2 h1 h2) : Un fs ex H H2 h h2 where
  keep := fun c ob q n hc hx => b.keep c ob (a.keep c ob q n hc hx) (a.free c ob q n hx) hc hx
  slot := fun c ob q n hc hx => by
    obtain ⟨sl, e1⟩ := a.slot c ob q n hc hx
    obtain ⟨sl', e2⟩ := b.slot c _ e1 (a.free c ob q n hx) hc hx
    exact ⟨sl', e2⟩
  free := fun c ob q n hx => by
    obtain ⟨o', e1⟩ := a.there c ob q hx
    exact b.free c o' e1 (a.free c ob q n hx) hx
  there := fun c ob q hx => by
    obtain ⟨o', e1⟩ := a.there c ob q hx
    exact b.there c o' e1 hx
  tups := fun c xs q => b.tups c xs (a.tups c xs q)
  frzs := fun c ob xs q => b.frzs c ob xs (a.frzs c ob xs q)
  tbls := fun c ps q => by
    obtain ⟨m1, e1⟩ := a.tbls c ps q
    obtain ⟨m2, e2⟩ := b.tbls c _ e1
    exact ⟨m1 ++ m2, by rw [e2, Array.append_assoc]⟩
theorem Un.kept (k : ∀ b u, h.get? b = some u -> h'.get? b = some u) : Un fs ex H H h h' :=
  ⟨fun b ob q _ _ _ => k b ob q, fun b ob q _ _ _ => ⟨ob.slots, k b ob q⟩, fun _ _ _ n _ => n, fun b ob q _ => ⟨ob, k b ob q⟩, fun _ _ q => q, fun _ _ _ q => q, fun _ ps q => ⟨#[], by rw [q]; simp⟩⟩
theorem Un.refl : Un fs ex H H h h := Un.kept fun _ _ q => q
theorem Un.laid (k : ∀ b u, h.get? b = some u -> h'.get? b = some u) (hp : h.objs.size <= a) (hn : H a = none) : Un fs ex H (upd H a o) h h' where
  keep := fun b u q _ _ _ => k b u q
  slot := fun b u q _ _ _ => ⟨u.slots, k b u q⟩
  free := fun b u q n _ => by rw [upd_ne (Nat.ne_of_lt (Nat.lt_of_lt_of_le (Heap.lt_size q) hp))]; exact n
  there := fun b u q _ => ⟨u, k b u q⟩
  tups := fun b xs q => by rw [upd_ne (ne_of_none q hn)]; exact q
  frzs := fun b u xs q => by rw [upd_ne (ne_of_none q hn)]; exact q
  tbls := fun b ps q => ⟨#[], by rw [upd_ne (ne_of_none q hn), q]; simp⟩
theorem Un.write (mu : Mut (H x)) (he : e = x \/ H e = some (.own x)) (k : ∀ b u, b ≠ e -> h.get? b = some u -> h'.get? b = some u) (heo : ∃ u, h'.get? e = some u) : Un fs ex H (upd H x o) h h' := by
  have hx : ∀ b, H b = none -> b ≠ x := fun b n z => by subst z; rw [n] at mu; exact mu
  have hb : ∀ b, H b = none -> b ≠ e := fun b n z => by
    subst z
    rcases he with r | r
    . exact hx b n r
    . rw [n] at r; cases r
  have hm : ∀ b u, H b = some u -> ¬ Mut (some u) -> b ≠ x := fun b u q nm z => by subst z; rw [q] at mu; exact nm mu
  refine ⟨fun b u q n _ _ => k b u (hb b n) q, fun b u q n _ _ => ⟨u.slots, k b u (hb b n) q⟩, fun b u q n _ => by rw [upd_ne (hx b n)]; exact n, fun b u q _ => ?_,
    fun b xs q => by rw [upd_ne (hm b _ q fun z => z)]; exact q, fun b u xs q => by rw [upd_ne (hm b _ q fun z => z)]; exact q, fun b ps q => ⟨#[], by rw [upd_ne (hm b _ q fun z => z), q]; simp⟩⟩
  by_cases hbe : b = e
  . subst hbe; exact heo
  . exact ⟨u, k b u hbe q⟩
end
def trk (h : Heap) (H : Hp) : List Addr := (List.range h.objs.size).filter fun a => (H a).isSome
def hidT (h : Heap) (H : Hp) : Heap := W.hideAll h (trk h H)
theorem hidT_size (h : Heap) (H : Hp) : (hidT h H).objs.size = h.objs.size := W.hideAll_size _ _
theorem hidT_get {h : Heap} {H : Hp} {b : Addr} {o : Obj} (e : h.get? b = some o) (n : H b = none) : (hidT h H).get? b = some o :=
  W.hideAll_get _ e fun hm => by
    have q : (H b).isSome = true := (List.mem_filter.mp hm).2
    rw [n] at q; simp at q
theorem of_hidT {h : Heap} {H : Hp} {b : Addr} {o : Obj} (e : (hidT h H).get? b = some o) : h.get? b = some o /\ H b = none := by
  have e' : h.get? b = some o := W.of_hideAll (trk h H) e
  refine ⟨e', ?_⟩
  cases q : H b with
  | none => rfl
  | some x =>
    have hm : b ∈ trk h H := List.mem_filter.mpr ⟨List.mem_range.mpr (Heap.lt_size e'), by simp [q]⟩
    have z : (hidT h H).get? b = none := W.hideAll_none (trk h H) hm
    rw [z] at e; cases e
def allNews (g h : Heap) (L : Addr) : List (Addr × Obj) := (List.range h.objs.size).filterMap fun a => if a = L \/ (g.get? a).isSome = true then none else (h.get? a).map fun o => (a, o)
def rest (g h : Heap) (L d : Addr) : List (Addr × Obj) := (allNews g h L).filter fun p => decide (p.1 ≠ d)
end L2
namespace L2
open PySem PySem.Spec PyProof.Rows
structure Mod (K : W.Frag) (mg : Str -> Option Value) (base : Heap) : Prop where
  kin : K.In base
  glob : base.Ns mainGlobals mg
  blt : ∃ mb, base.Ns builtinsNs mb /\ ∀ x : Str, x ≠ "__name__" -> mb x = bootBuiltins x
  nolimit : base.NoLimit
structure Cx where
  prog : Program
  w : World
  K : W.Frag
  mg : Str -> Option Value
  base : Heap
  A : Around
  N : List Str
  s₀ : Shared
  H₀ : Hp
  env : Env
  outer : List Env
  stack : List Env
  ex : List Addr
  fn : Str -> Bool
  calm : Bool
  pn : List (Addr × Obj)
  xe : Value -> Shared -> Prop
def frs (l : List Env) : List Addr := l.filterMap (·.frame)
abbrev Cx.fs (X : Cx) : List Addr := frs X.outer
def Vis (sc : Scope) (x : Str) : Prop := sc.names.lookup x = some .local \/ sc.names.lookup x = some .cell \/ sc.names.lookup x = some .free
def Loc (sc : Scope) (x : Str) : Prop := sc.names.lookup x = some .local \/ sc.names.lookup x = some .cell
def Look (env : Env) (h : Heap) (m : Str -> Option Value) (x : Str) (u : Value) : Prop :=
  (env.kindOf x = some .local /\ m x = some u) \/ ((env.kindOf x = some .cell \/ env.kindOf x = some .free) /\ ∃ c, env.cells.lookup x = some c /\ h.IsCell c (some u))
structure Cx.Ok (X : Cx) : Prop where
  mod : Mod X.K X.mg X.base
  kind : X.env.scope.kind = .function
  glob : X.env.globals = mainGlobals
  blt : X.env.builtins = builtinsNs
  above : X.s₀.heap.objs.size <= X.env.locals
  inj : ∀ x y c, X.env.cells.lookup x = some c -> X.env.cells.lookup y = some c -> x = y
  has : ∀ x, (X.env.kindOf x = some .cell \/ X.env.kindOf x = some .free) -> ∃ c, X.env.cells.lookup x = some c
  cab : ∀ x c, X.fn x = true -> X.env.cells.lookup x = some c -> X.s₀.heap.objs.size <= c
  hd : X.calm = true -> X.A.handled = none
  frames : X.A.frames = some X.stack
  stk : X.stack = X.outer \/ (X.stack = X.env :: X.outer /\ X.env.frame = some X.env.locals)
  exf : ∀ b ∈ X.ex, b ≠ X.env.locals /\ ∀ x c, X.env.cells.lookup x = some c -> c ≠ b
  bs : ∀ b o, X.base.get? b = some o -> X.s₀.heap.get? b = some o /\ X.H₀ b = none
  bsz : X.base.objs.size <= X.s₀.heap.objs.size
  noex : ∀ b o, X.base.get? b = some o -> b ∉ X.ex
  exfs : ∀ b ∈ X.ex, b ∉ X.fs
  funs : X.s₀.heap.FunFrames X.base X.outer
  frf : ∀ b ∈ X.fs, X.H₀ b = none
structure Inv (X : Cx) (pins : List (Addr × Obj)) (σ : List (Option V)) (H : Hp) (s : Shared) : Prop where
  ok : X.Ok
  os : s.os = X.s₀.os
  bare : AllBare s.gens
  base : Un X.fs X.ex X.H₀ H X.s₀.heap s.heap
  loc : ∃ m, s.heap.Ns X.env.locals m /\ ∀ (i : Nat) (x : Str) (v : V), X.N[i]? = some x -> σ[i]? = some (some v) -> Vis X.env.scope x -> ∃ u, RelV v u /\ Look X.env s.heap m x u
  cell : ∀ x c, X.env.cells.lookup x = some c -> ∃ v, s.heap.IsCell c v
  free : H X.env.locals = none
  freeC : ∀ x c, X.env.cells.lookup x = some c -> H c = none
  pin : ∀ p ∈ X.pn ++ pins, s.heap.get? p.1 = some p.2 /\ H p.1 = none /\ p.1 ≠ X.env.locals /\ p.1 ∉ X.fs /\ ∀ v, p.2.data ≠ .cell v
  hok : HOk X.prog X.w H s.heap
  len : σ.length = X.N.length
section
variable {X : Cx} {pins : List (Addr × Obj)} {σ : List (Option V)} {H H' : Hp} {s : Shared} {h' : Heap}
theorem Cx.Ok.nofr (ok : X.Ok) {b : Addr} {o : Obj} (e : X.base.get? b = some o) : b ∉ X.fs := fun hb => by
  have := (ok.funs.mem hb).1
  rw [e] at this; cases this
theorem Inv.bs (I : Inv X pins σ H s) : ∀ b o, X.base.get? b = some o -> s.heap.get? b = some o /\ H b = none := fun b o e =>
  ⟨I.base.keep b o (I.ok.bs b o e).1 (I.ok.bs b o e).2 (I.ok.nofr e) (I.ok.noex b o e), I.base.free b o (I.ok.bs b o e).1 (I.ok.bs b o e).2 (I.ok.noex b o e)⟩
theorem Inv.bk (I : Inv X pins σ H s) : ∀ b o, X.base.get? b = some o -> s.heap.get? b = some o := fun b o e => (I.bs b o e).1
theorem Inv.mod (I : Inv X pins σ H s) : Mod X.K X.mg X.base := I.ok.mod
theorem Inv.kIn (I : Inv X pins σ H s) : X.K.In s.heap := I.ok.mod.kin.keeps I.bk
theorem Inv.nolimit (I : Inv X pins σ H s) : s.heap.NoLimit := I.ok.mod.nolimit.keeps I.bk
theorem Inv.lt (I : Inv X pins σ H s) : X.env.locals < s.heap.objs.size := let ⟨_, hn, _⟩ := I.loc; hn.lt
theorem Inv.sz (I : Inv X pins σ H s) : X.s₀.heap.objs.size <= s.heap.objs.size := Nat.le_trans I.ok.above (Nat.le_of_lt I.lt)
theorem Inv.nofs (I : Inv X pins σ H s) {a : Addr} (h : s.heap.objs.size <= a) : a ∉ X.fs := fun hb => by
  obtain ⟨_, o, ho, _⟩ := I.ok.funs.mem hb
  exact absurd (Nat.lt_of_lt_of_le (Heap.lt_size ho) (Nat.le_trans I.sz h)) (Nat.lt_irrefl _)
theorem Inv.cne (I : Inv X pins σ H s) : ∀ x c, X.env.cells.lookup x = some c -> c ≠ X.env.locals := fun x c e z => by
  obtain ⟨v, o, ho, hd⟩ := I.cell x c e
  obtain ⟨m, ⟨o', es, ep, ho', hd', _⟩, _⟩ := I.loc
  rw [z, ho'] at ho; cases ho; rw [hd'] at hd; cases hd
theorem Inv.funs (I : Inv X pins σ H s) : s.heap.FunFrames X.base X.outer := by
  have all : ∀ (l : List Env), (∀ b ∈ frs l, b ∈ X.fs) -> X.s₀.heap.FunFrames X.base l -> s.heap.FunFrames X.base l := by
    intro l
    induction l with
    | nil => intro _ _; trivial
    | cons env r ih =>
      intro hs hl
      obtain ⟨hk, ⟨L, o, hf, hn, ho, hd⟩, hr⟩ := hl
      have hL : L ∈ X.fs := hs L (by unfold frs; rw [List.filterMap_cons, hf]; exact List.mem_cons_self)
      obtain ⟨sl, e⟩ := I.base.slot L o ho (I.ok.frf L hL) hL fun z => I.ok.exfs L z hL
      exact ⟨hk, ⟨L, _, hf, hn, e, hd⟩, ih (fun b hb => hs b (by unfold frs; rw [List.filterMap_cons, hf]; exact List.mem_cons_of_mem _ hb)) hr⟩
  exact all X.outer (fun _ hb => hb) I.ok.funs
theorem Inv.stack (I : Inv X pins σ H s) : s.heap.FunFrames X.base X.stack := by
  rcases I.ok.stk with e | ⟨e, hf⟩
  . rw [e]; exact I.funs
  . rw [e]
    obtain ⟨m, hn, _⟩ := I.loc
    refine .cons (by rw [I.ok.kind]; decide) hf hn ?_ I.funs
    exact Heap.get?_none_of_le (Nat.le_trans I.ok.bsz I.ok.above)
theorem Inv.stkSub (I : Inv X pins σ H s) : ∀ b ∈ frs X.stack, b ∈ X.env.locals :: X.fs := fun b hb => by
  rcases I.ok.stk with e | ⟨e, hf⟩
  . rw [e] at hb; exact List.mem_cons_of_mem _ hb
  . rw [e] at hb
    unfold frs at hb
    rw [List.filterMap_cons, hf] at hb
    exact hb
theorem Inv.stkFree (I : Inv X pins σ H s) : ∀ b ∈ frs X.stack, H b = none := fun b hb => by
  rcases List.mem_cons.mp (I.stkSub b hb) with e | hb
  . rw [e]; exact I.free
  . obtain ⟨_, o, ho, _⟩ := I.ok.funs.mem hb
    exact I.base.free b o ho (I.ok.frf b hb) fun z => I.ok.exfs b z hb
theorem Inv.step {g' : Array GenState} {t' : Nat} {d' : Drawn} {ch : List Addr} (I : Inv X pins σ H s)
    (hch : ∀ b ∈ ch, (b ∈ X.ex \/ X.s₀.heap.objs.size <= b) /\ b ≠ X.env.locals /\ (∀ x c, X.env.cells.lookup x = some c -> c ≠ b) /\ ∀ p ∈ X.pn ++ pins, p.1 ≠ b)
    (keep : ∀ b o, b ≠ X.env.locals -> b ∉ X.fs -> b ∉ ch -> s.heap.get? b = some o -> H b = none -> h'.get? b = some o)
    (slot : ∀ b o, b ≠ X.env.locals -> b ∈ X.fs -> b ∉ ch -> s.heap.get? b = some o -> H b = none -> ∃ sl, h'.get? b = some { o with slots := sl }) (free : ∀ b o, b ∉ ch -> s.heap.get? b = some o -> H b = none -> H' b = none)
    (there : ∀ b o, b ∉ ch -> s.heap.get? b = some o -> ∃ o', h'.get? b = some o')
    (tups : ∀ b xs, H b = some (.tup xs) -> H' b = some (.tup xs)) (frzs : ∀ b o u, H b = some (.frz o u) -> H' b = some (.frz o u)) (tbls : ∀ b ps, H b = some (.tbl ps) -> ∃ more, H' b = some (.tbl (ps ++ more)))
    (ns : ∀ m, s.heap.Ns X.env.locals m -> h'.Ns X.env.locals m) (hok : HOk X.prog X.w H' h') (hg : AllBare g') :
    Inv X pins σ H' { s with heap := h', gens := g', drawn := d', toks := t' } := by
  have neL : ∀ b o, X.s₀.heap.get? b = some o -> b ≠ X.env.locals := fun b o e => Nat.ne_of_lt (Nat.lt_of_lt_of_le (Heap.lt_size e) I.ok.above)
  have neC : ∀ b o, X.s₀.heap.get? b = some o -> b ∉ X.ex -> b ∉ ch := fun b o e hx hb => by
    rcases (hch b hb).1 with z | z
    . exact hx z
    . exact absurd (Nat.lt_of_lt_of_le (Heap.lt_size e) z) (Nat.lt_irrefl _)
  have cellK : ∀ x c, X.env.cells.lookup x = some c -> ∀ v, s.heap.IsCell c v -> h'.IsCell c v := fun x c e v ⟨o, ho, hd⟩ => by
    have nch : c ∉ ch := fun z => (hch c z).2.2.1 x c e rfl
    by_cases hc : c ∈ X.fs
    . obtain ⟨sl, q⟩ := slot c o (I.cne x c e) hc nch ho (I.freeC x c e)
      exact ⟨_, q, hd⟩
    . exact ⟨o, keep c o (I.cne x c e) hc nch ho (I.freeC x c e), hd⟩
  refine ⟨I.ok, I.os, hg, ⟨fun b o e n hb hx => ?_, fun b o e n hb hx => ?_, fun b o e n hx => ?_, fun b o e hx => ?_, fun b xs e => tups b xs (I.base.tups b xs e), fun b o xs e => frzs b o xs (I.base.frzs b o xs e), fun b ps e => ?_⟩, ?_, fun x c e => ?_, ?_, fun x c e => ?_, fun p hp => ?_, hok, I.len⟩
  . exact keep b o (neL b o e) hb (neC b o e hx) (I.base.keep b o e n hb hx) (I.base.free b o e n hx)
  . obtain ⟨sl, e1⟩ := I.base.slot b o e n hb hx
    obtain ⟨sl', e2⟩ := slot b _ (neL b o e) hb (neC b o e hx) e1 (I.base.free b o e n hx)
    exact ⟨sl', e2⟩
  . obtain ⟨o', e1⟩ := I.base.there b o e hx
    exact free b o' (neC b o e hx) e1 (I.base.free b o e n hx)
  . obtain ⟨o', e1⟩ := I.base.there b o e hx
    exact there b o' (neC b o e hx) e1
  . obtain ⟨m1, e1⟩ := I.base.tbls b ps e
    obtain ⟨m2, e2⟩ := tbls b _ e1
    exact ⟨m1 ++ m2, by rw [e2, Array.append_assoc]⟩
  . obtain ⟨m, hn, hl⟩ := I.loc
    refine ⟨m, ns m hn, fun i x v e1 e2 e3 => ?_⟩
    obtain ⟨u, r, l⟩ := hl i x v e1 e2 e3
    refine ⟨u, r, ?_⟩
    rcases l with l | ⟨k, c, e, z⟩
    . exact .inl l
    . exact .inr ⟨k, c, e, cellK x c e _ z⟩
  . obtain ⟨v, z⟩ := I.cell x c e
    exact ⟨v, cellK x c e v z⟩
  . obtain ⟨m, ⟨o, _, _, ho, _⟩, _⟩ := I.loc
    exact free _ o (fun z => (hch _ z).2.1 rfl) ho I.free
  . obtain ⟨v, o, ho, hd⟩ := I.cell x c e
    exact free c o (fun z => (hch c z).2.2.1 x c e rfl) ho (I.freeC x c e)
  . obtain ⟨e, n, ne, nf, d⟩ := I.pin p hp
    have nch : p.1 ∉ ch := fun z => (hch p.1 z).2.2.2 p hp rfl
    exact ⟨keep p.1 p.2 ne nf nch e n, free p.1 p.2 nch e n, ne, nf, d⟩
theorem Inv.un {t' : Nat} (I : Inv X pins σ H s) (u : Un X.fs [] H H' s.heap h') (hok : HOk X.prog X.w H' h') : Inv X pins σ H' { s with heap := h', toks := t' } := by
  obtain ⟨m, ⟨o, es, ep, ho, r⟩, _⟩ := id I.loc
  obtain ⟨sl, hL⟩ := u.any ho I.free (by simp)
  exact I.step (g' := s.gens) (d' := s.drawn) (ch := []) (fun _ z => nomatch z) (fun b o _ hb _ e n => u.keep b o e n hb (by simp)) (fun b o _ hb _ e n => u.slot b o e n hb (by simp)) (fun b o _ e n => u.free b o e n (by simp)) (fun b o _ e => u.there b o e (by simp)) u.tups u.frzs u.tbls (fun m' hm => by
    obtain ⟨o', es', ep', ho', r'⟩ := hm
    rw [ho] at ho'; cases ho'
    exact ⟨_, es', ep', hL, r'⟩) hok I.bare
theorem Inv.call {g' : Array GenState} {t' : Nat} {d' : Drawn} {ch : List Addr} (I : Inv X pins σ H s) (u : Un (frs X.stack) ch H H' s.heap h') (hok : HOk X.prog X.w H' h') (hg : AllBare g')
    (hch : ∀ b ∈ ch, (b ∈ X.ex \/ X.s₀.heap.objs.size <= b) /\ b ≠ X.env.locals /\ (∀ x c, X.env.cells.lookup x = some c -> c ≠ b) /\ ∀ p ∈ X.pn ++ pins, p.1 ≠ b) :
    Inv X pins σ H' { s with heap := h', gens := g', drawn := d', toks := t' } := by
  obtain ⟨m, ⟨o, es, ep, ho, r⟩, _⟩ := id I.loc
  obtain ⟨sl, hL⟩ := u.any ho I.free fun z => (hch _ z).2.1 rfl
  exact I.step (ch := ch) hch (fun b o hL hb hc e n => u.keep b o e n (fun z => (List.mem_cons.mp (I.stkSub b z)).elim hL hb) hc) (fun b o _ _ hc e n => u.any e n hc) (fun b o hc e n => u.free b o e n hc) (fun b o hc e => u.there b o e hc) u.tups u.frzs u.tbls (fun m' hm => by
    obtain ⟨o', es', ep', ho', r'⟩ := hm
    rw [ho] at ho'; cases ho'
    exact ⟨_, es', ep', hL, r'⟩) hok hg
theorem Inv.turned {t' : Nat} {it : Addr} (I : Inv X pins σ H s) (k : ∀ b o, b ≠ it -> s.heap.get? b = some o -> h'.get? b = some o) (hn : H it = none) (hL : it ≠ X.env.locals)
    (h1 : it ∈ X.ex \/ X.s₀.heap.objs.size <= it) (h2 : ∀ x c, X.env.cells.lookup x = some c -> c ≠ it) (h3 : ∀ p ∈ X.pn ++ pins, p.1 ≠ it) : Inv X pins σ H { s with heap := h', toks := t' } := by
  have nit : ∀ b u, H b = some u -> b ≠ it := fun b u e z => by rw [z, hn] at e; cases e
  refine I.step (g' := s.gens) (d' := s.drawn) (ch := [it]) (fun b hb => ?_) (fun b o _ _ hc e _ => k b o (fun z => hc (by simp [z])) e) (fun b o _ _ hc e _ => ⟨o.slots, k b o (fun z => hc (by simp [z])) e⟩) (fun _ _ _ _ n => n)
    (fun b o hc e => ⟨o, k b o (fun z => hc (by simp [z])) e⟩) (fun _ _ e => e) (fun _ _ _ e => e) (fun b ps e => ⟨#[], by rw [e]; simp⟩) (fun m hm => ?_) (fun b u e => ?_) I.bare
  . have e : b = it := by simpa using hb
    subst e
    exact ⟨h1, hL, h2, h3⟩
  . obtain ⟨o, es, ep, ho, r⟩ := hm
    exact ⟨o, es, ep, k _ o (Ne.symm hL) ho, r⟩
  . refine (I.hok b u e).stay (fun c v hc q => k c v ?_ q) (fun _ q => q) fun _ _ q => q
    rcases hc with z | z
    . rw [z]; exact nit b u e
    . exact nit c _ z
theorem Inv.tok (I : Inv X pins σ H s) (t : Nat) : Inv X pins σ H { s with toks := t } := I.un (h' := s.heap) (t' := t) Un.refl I.hok
theorem Inv.kept {t' : Nat} (I : Inv X pins σ H s) (k : ∀ b u, s.heap.get? b = some u -> h'.get? b = some u) : Inv X pins σ H { s with heap := h', toks := t' } := I.un (Un.kept k) (I.hok.kept k)
theorem Inv.laid {a : Addr} {o : HO} {t' : Nat} (I : Inv X pins σ H s) (k : ∀ b u, s.heap.get? b = some u -> h'.get? b = some u) (hp : s.heap.objs.size <= a) (new : ObjOk X.prog X.w (upd H a o) h' a o) :
    Inv X pins σ (upd H a o) { s with heap := h', toks := t' } := I.un (Un.laid k hp (I.hok.fresh hp)) (I.hok.laid k hp new)
theorem Inv.write {x e : Addr} {o : HO} {t' : Nat} (I : Inv X pins σ H s) (mu : Mut (H x)) (he : e = x \/ H e = some (.own x)) (k : ∀ b u, b ≠ e -> s.heap.get? b = some u -> h'.get? b = some u) (heo : ∃ u, h'.get? e = some u)
    (new : ObjOk X.prog X.w (upd H x o) h' x o) : Inv X pins σ (upd H x o) { s with heap := h', toks := t' } := I.un (Un.write mu he k heo) (I.hok.write mu he k heo new)
theorem Inv.weak {σ' : List (Option V)} (I : Inv X pins σ H s) (hl : σ'.length = σ.length) (w : ∀ (i : Nat) v, σ'[i]? = some (some v) -> σ[i]? = some (some v)) : Inv X pins σ' H s :=
  ⟨I.ok, I.os, I.bare, I.base, let ⟨m, hn, hl'⟩ := I.loc; ⟨m, hn, fun i x v e1 e2 e3 => hl' i x v e1 (w i v e2) e3⟩, I.cell, I.free, I.freeC, I.pin, I.hok, hl.trans I.len⟩
theorem Inv.pins_of {pins' : List (Addr × Obj)} (I : Inv X pins σ H s) (h : ∀ p ∈ pins', s.heap.get? p.1 = some p.2 /\ H p.1 = none /\ p.1 ≠ X.env.locals /\ p.1 ∉ X.fs /\ ∀ v, p.2.data ≠ .cell v) : Inv X pins' σ H s :=
  ⟨I.ok, I.os, I.bare, I.base, I.loc, I.cell, I.free, I.freeC, fun p hp => (List.mem_append.mp hp).elim (fun z => I.pin p (List.mem_append_left _ z)) (h p), I.hok, I.len⟩
theorem nodup_ix {N : List Str} (hN : N.Nodup) {i j : Nat} {x : Str} (a : N[i]? = some x) (b : N[j]? = some x) : i = j := by
  obtain ⟨h1, e1⟩ := List.getElem?_eq_some_iff.mp a
  obtain ⟨h2, e2⟩ := List.getElem?_eq_some_iff.mp b
  exact (List.getElem_inj hN).mp (e1.trans e2.symm)
theorem store_ok2 {M : Model} {A : Around} {E : Value -> Shared -> Prop} {i : Nat} {x : Str} {v : V} {u : Value} {Q : Unit -> Shared -> Prop} (I : Inv X pins σ H s) (hN : X.N.Nodup) (hi : X.N[i]? = some x) (hx : Loc X.env.scope x) (r : RelV v u)
    (h : ∀ s', Inv X pins (σ.set i (some v)) H s' -> (∃ a, Heap.SameBut a s.heap s'.heap /\ (a = X.env.locals \/ X.env.cells.lookup x = some a)) -> Q () s') (hf : X.fn x = true \/ X.env.scope.names.lookup x = some .local := by first | exact .inl rfl | exact .inr rfl | assumption) : wpAny M A (storeName X.env x u) Q E s := by
  obtain ⟨m, hn, hl⟩ := id I.loc
  have hcls : (X.env.scope.kind == .class || (X.env.scope.kind == .module && X.env.locals != X.env.globals)) = false := by rw [I.ok.kind]; rfl
  have hiσ : i < σ.length := by rw [I.len]; exact (List.getElem?_eq_some_iff.mp hi).1
  have cne := I.cne
  have tracked : ∀ {a : Addr} {h' : Heap}, (∃ o, s.heap.get? a = some o /\ H a = none) -> Heap.SameBut a s.heap h' -> HOk X.prog X.w H h' := fun {a h'} ha hs b ob e => by
    obtain ⟨_, _, hfree⟩ := ha
    refine (I.hok b ob e).stay (fun c w' hc q => (hs.2 c ?_).trans q) (fun _ q => q) fun _ _ q => q
    rintro rfl
    rcases hc with rfl | hc
    . rw [hfree] at e; cases e
    . rw [hfree] at hc; cases hc
  rcases hx with hk | hk
  . refine wpAny_storeName_local hk hn (fun h' hn' hs => ?_) hcls
    obtain ⟨oL, _, _, hoL, _⟩ := id hn
    refine h _ ⟨I.ok, I.os, I.bare, ⟨fun b o e n hb hx => ?_, fun b o e n hb hx => ?_, I.base.free, fun b o e hx => ?_, I.base.tups, I.base.frzs, I.base.tbls⟩, ⟨_, hn', fun j y v' e1 e2 e3 => ?_⟩, fun y c e => ?_, I.free, I.freeC, fun p hp => ?_, tracked ⟨oL, hoL, I.free⟩ hs, by simpa using I.len⟩ ⟨_, hs, .inl rfl⟩
    . exact (hs.2 b (Nat.ne_of_lt (Nat.lt_of_lt_of_le (Heap.lt_size e) I.ok.above))).trans (I.base.keep b o e n hb hx)
    . obtain ⟨sl, e1⟩ := I.base.slot b o e n hb hx
      exact ⟨sl, (hs.2 b (Nat.ne_of_lt (Nat.lt_of_lt_of_le (Heap.lt_size e) I.ok.above))).trans e1⟩
    . obtain ⟨o', e1⟩ := I.base.there b o e hx
      exact ⟨o', (hs.2 b (Nat.ne_of_lt (Nat.lt_of_lt_of_le (Heap.lt_size e) I.ok.above))).trans e1⟩
    . by_cases hj : j = i
      . subst hj
        rw [hi] at e1; cases e1
        rw [List.getElem?_set_self hiσ] at e2
        cases e2
        exact ⟨u, r, .inl ⟨hk, by simp⟩⟩
      . rw [List.getElem?_set_ne (Ne.symm hj)] at e2
        obtain ⟨u', r', q⟩ := hl j y v' e1 e2 e3
        refine ⟨u', r', ?_⟩
        rcases q with ⟨k, e⟩ | ⟨k, c, e, z⟩
        . refine .inl ⟨k, ?_⟩
          have : y ≠ x := fun e => hj (nodup_ix hN e1 (e ▸ hi))
          simp [this, e]
        . exact .inr ⟨k, c, e, z.sameBut hs (cne y c e)⟩
    . obtain ⟨w', z⟩ := I.cell y c e
      exact ⟨w', z.sameBut hs (cne y c e)⟩
    . obtain ⟨e, n, ne, nf, d⟩ := I.pin p hp
      exact ⟨(hs.2 p.1 ne).trans e, n, ne, nf, d⟩
  . have hfn : X.fn x = true := by
      rcases hf with z | z
      . exact z
      . rw [z] at hk; cases hk
    obtain ⟨c, hc⟩ := I.ok.has x (.inl hk)
    obtain ⟨w', z⟩ := I.cell x c hc
    refine wpAny_storeName_cell I.ok.kind hk hc z (fun h' hc' hs => ?_)
    obtain ⟨oc, hoc, hocd⟩ := id z
    refine h { s with heap := h' } ⟨I.ok, I.os, I.bare, ⟨fun b o e n hb hx => ?_, fun b o e n hb hx => ?_, I.base.free, fun b o e hx => ?_, I.base.tups, I.base.frzs, I.base.tbls⟩, ⟨m, hn.sameBut hs (Ne.symm (cne x c hc)), fun j y v' e1 e2 e3 => ?_⟩, fun y c' e => ?_, I.free, I.freeC, fun p hp => ?_, tracked ⟨oc, hoc, I.freeC x c hc⟩ hs, by simpa using I.len⟩ ⟨c, hs, .inr hc⟩
    . exact (hs.2 b (Nat.ne_of_lt (Nat.lt_of_lt_of_le (Heap.lt_size e) (I.ok.cab x c hfn hc)))).trans (I.base.keep b o e n hb hx)
    . obtain ⟨sl, e1⟩ := I.base.slot b o e n hb hx
      exact ⟨sl, (hs.2 b (Nat.ne_of_lt (Nat.lt_of_lt_of_le (Heap.lt_size e) (I.ok.cab x c hfn hc)))).trans e1⟩
    . obtain ⟨o', e1⟩ := I.base.there b o e hx
      exact ⟨o', (hs.2 b (Nat.ne_of_lt (Nat.lt_of_lt_of_le (Heap.lt_size e) (I.ok.cab x c hfn hc)))).trans e1⟩
    . by_cases hj : j = i
      . subst hj
        rw [hi] at e1; cases e1
        rw [List.getElem?_set_self hiσ] at e2
        cases e2
        exact ⟨u, r, .inr ⟨.inl hk, c, hc, hc'⟩⟩
      . rw [List.getElem?_set_ne (Ne.symm hj)] at e2
        obtain ⟨u', r', q⟩ := hl j y v' e1 e2 e3
        refine ⟨u', r', ?_⟩
        rcases q with q | ⟨k, c', e, z'⟩
        . exact .inl q
        . refine .inr ⟨k, c', e, z'.sameBut hs ?_⟩
          rintro rfl
          exact hj (nodup_ix hN e1 (I.ok.inj _ _ _ e hc ▸ hi))
    . by_cases hcc : c' = c
      . subst hcc; exact ⟨_, hc'⟩
      . obtain ⟨w2, z2⟩ := I.cell y c' e
        exact ⟨w2, z2.sameBut hs hcc⟩
    . obtain ⟨e, n, ne, nf, d⟩ := I.pin p hp
      refine ⟨(hs.2 p.1 ?_).trans e, n, ne, nf, d⟩
      intro q
      rw [q, hoc] at e
      have q' : oc = p.2 := Option.some.inj e
      exact d w' (by rw [<- q']; exact hocd)
theorem store_ok {M : Model} {A : Around} {E : Value -> Shared -> Prop} {i : Nat} {x : Str} {v : V} {u : Value} {Q : Unit -> Shared -> Prop} (I : Inv X pins σ H s) (hN : X.N.Nodup) (hi : X.N[i]? = some x) (hx : Loc X.env.scope x) (r : RelV v u)
    (h : ∀ s', Inv X pins (σ.set i (some v)) H s' -> Q () s') (hf : X.fn x = true \/ X.env.scope.names.lookup x = some .local := by first | exact .inl rfl | exact .inr rfl | assumption) : wpAny M A (storeName X.env x u) Q E s :=
  store_ok2 I hN hi hx r (fun s' I' _ => h s' I') hf
theorem Inv.call' {s' : Shared} {ch : List Addr} (I : Inv X pins σ H s) (ho : s'.os = s.os) (u : Un (frs X.stack) ch H H' s.heap s'.heap) (hok : HOk X.prog X.w H' s'.heap) (hg : AllBare s'.gens)
    (hch : ∀ b ∈ ch, (b ∈ X.ex \/ X.s₀.heap.objs.size <= b) /\ b ≠ X.env.locals /\ (∀ x c, X.env.cells.lookup x = some c -> c ≠ b) /\ ∀ p ∈ X.pn ++ pins, p.1 ≠ b) : Inv X pins σ H' s' := by
  obtain ⟨h', g', d', t', o'⟩ := s'
  have e : o' = s.os := ho
  subst e
  exact I.call (g' := g') (t' := t') (d' := d') u hok hg hch
end
abbrev XK := Value -> Option Addr -> Hp -> Prop
abbrev St := List (Option V)
abbrev VK := V -> Hp -> Prop
abbrev TE := St -> Hp -> VK -> Prop
abbrev TT := St -> Hp -> (Bool -> Hp -> Prop) -> Prop
abbrev TA := St -> Hp -> (List V -> Hp -> Prop) -> Prop
structure Ends where
  nx : St -> Hp -> Prop
  rt : VK
  bk : St -> Hp -> Prop := fun _ _ => False
  ct : St -> Hp -> Prop := fun _ _ => False
abbrev TS := Ends -> St -> Hp -> Prop
def EP (X : Cx) (pins : List (Addr × Obj)) (σ : St) (Q : VK) (u : Value) (s' : Shared) : Prop := ∃ v H', Inv X pins σ H' s' /\ RelV v u /\ Q v H'
def TP (X : Cx) (pins : List (Addr × Obj)) (σ : St) (Q : Bool -> Hp -> Prop) (b : Bool) (s' : Shared) : Prop := ∃ H', Inv X pins σ H' s' /\ Q b H'
def AP (X : Cx) (pins : List (Addr × Obj)) (σ : St) (Q : List V -> Hp -> Prop) (us : List Value) (s' : Shared) : Prop := ∃ vs H', Inv X pins σ H' s' /\ Vals vs us /\ Q vs H'
def SP (X : Cx) (pins : List (Addr × Obj)) (D : Ends) (f : Flow) (s' : Shared) : Prop :=
  match f with
  | .next => ∃ σ' H', Inv X pins σ' H' s' /\ D.nx σ' H'
  | .brk => ∃ σ' H', Inv X pins σ' H' s' /\ D.bk σ' H'
  | .cont => ∃ σ' H', Inv X pins σ' H' s' /\ D.ct σ' H'
  | .ret u => ∃ v σ' H', Inv X pins σ' H' s' /\ RelV v u /\ D.rt v H'
def PE (X : Cx) (e : Expr) (t : TE) : Prop :=
  ∀ (pins : List (Addr × Obj)) (s : Shared) (σ : St) (H : Hp) (Q : VK), Inv X pins σ H s -> t σ H Q -> wpAny (model X.prog X.w) X.A (eval e X.env) (EP X pins σ Q) X.xe s
def PT (X : Cx) (e : Expr) (t : TT) : Prop :=
  ∀ (pins : List (Addr × Obj)) (s : Shared) (σ : St) (H : Hp) (Q : Bool -> Hp -> Prop), Inv X pins σ H s -> t σ H Q -> wpAny (model X.prog X.w) X.A (isTrue e X.env (eval e X.env)) (TP X pins σ Q) X.xe s
def PW (X : Cx) (e : Expr) (t : TT) : Prop :=
  ∀ (whole : Sem Value) (pins : List (Addr × Obj)) (s : Shared) (σ : St) (H : Hp) (Q : Bool -> Hp -> Prop), Inv X pins σ H s -> t σ H Q -> wpAny (model X.prog X.w) X.A (isTrue e X.env whole) (TP X pins σ Q) X.xe s
theorem PW.pt {X : Cx} {e : Expr} {t : TT} (h : PW X e t) : PT X e t := h _
def PA (X : Cx) (es : List Expr) (t : TA) : Prop :=
  ∀ (pos : Pos) (pins : List (Addr × Obj)) (s : Shared) (σ : St) (H : Hp) (Q : List V -> Hp -> Prop), Inv X pins σ H s -> t σ H Q -> wpAny (model X.prog X.w) X.A (spliced (backTo pos (starEach es X.env))) (AP X pins σ Q) X.xe s
def PS (X : Cx) (st : Stmt) (t : TS) : Prop :=
  ∀ (pins : List (Addr × Obj)) (s : Shared) (σ : St) (H : Hp) (D : Ends), Inv X pins σ H s -> t D σ H -> wpAny (model X.prog X.w) X.A (exec st X.env) (SP X pins D) X.xe s
def PSs (X : Cx) (st : List Stmt) (t : TS) : Prop :=
  ∀ (pins : List (Addr × Obj)) (s : Shared) (σ : St) (H : Hp) (D : Ends), Inv X pins σ H s -> t D σ H -> wpAny (model X.prog X.w) X.A (execs st X.env) (SP X pins D) X.xe s
theorem thn {α : Type} {t : Sem α} {Q Q' : α -> Shared -> Prop} {M : Model} {A : Around} {E : Value -> Shared -> Prop} {s : Shared} (h : wpAny M A t Q E s) (hQ : ∀ a s, Q a s -> Q' a s) : wpAny M A t Q' E s := wpAny_mono h hQ fun _ _ x => x
end L2
namespace L2
open PySem PySem.Spec PyProof.Rows
section
variable {X : Cx}
def tVar (i : Nat) : TE := fun σ H Q => ∃ v, σ[i]? = some (some v) /\ Q v H
def tC (v : V) : TE := fun _ H Q => Q v H
theorem pe_var {i : Nat} {x : Str} {pos : Pos} (hN : X.N[i]? = some x) (hv : Vis X.env.scope x) (hd : (x == ("__debug__" : Str)) = false := by decide) (hcd : (x == ("__classdict__" : Str)) = false := by decide) : PE X (.Name x pos) (tVar i) := by
  intro pins s σ H Q I h
  obtain ⟨v, e, h⟩ := h
  obtain ⟨m, hn, hl⟩ := I.loc
  obtain ⟨u, r, l⟩ := hl i x v hN e hv
  have fin : EP X pins σ Q u s := ⟨v, H, I, r, h⟩
  rcases l with ⟨hk, hm⟩ | ⟨hk, c, hc, hcell⟩
  . exact wpAny_Name (wpAny_loadName_local I.ok.kind hk hn hm fin) hd
  . rcases hk with hk | hk
    . exact wpAny_Name (wpAny_loadName_cell I.ok.kind hk hc hcell fin) hd
    . exact wpAny_Name (wpAny_loadName_free I.ok.kind hk hc hcell fin hcd) hd
theorem pe_int {i j pos} : PE X (.Constant (.int i) j pos) (tC (.int i)) := fun _ _ _ H _ I h => wpAny_Constant_int ⟨.int i, H, I.tok _, ⟨_, rfl⟩, h⟩
theorem pe_bl {b j pos} : PE X (.Constant (.bool b) j pos) (tC (.bl b)) := fun _ _ _ H _ I h => Constant_bool ⟨.bl b, H, I, rfl, h⟩
def Gl (X : Cx) (x : Str) : Prop := X.env.kindOf x = some .globalImplicit
theorem ld_glob {E : Value -> Shared -> Prop} {pins : List (Addr × Obj)} {s : Shared} {σ : St} {H : Hp} {x : Str} {u : Value} {pos : Pos} {Q : Value -> Shared -> Prop} (I : Inv X pins σ H s) (hg : Gl X x) (hm : X.mg x = some u) (h : Q u s)
    (hd : (x == ("__debug__" : Str)) = false := by decide) : wpAny (model X.prog X.w) X.A (eval (.Name x pos) X.env) Q E s :=
  Calls.Name_function_global I.ok.kind hg (Calls.loadGlobal_global (by rw [I.ok.glob]; exact I.mod.glob.keeps I.bk) hm h) hd
theorem ld_blt {E : Value -> Shared -> Prop} {pins : List (Addr × Obj)} {s : Shared} {σ : St} {H : Hp} {x : Str} {u : Value} {pos : Pos} {Q : Value -> Shared -> Prop} (I : Inv X pins σ H s) (hg : Gl X x) (hm : X.mg x = none) (hv : bootBuiltins x = some u) (h : Q u s)
    (hn : x ≠ "__name__" := by decide) (hd : (x == ("__debug__" : Str)) = false := by decide) : wpAny (model X.prog X.w) X.A (eval (.Name x pos) X.env) Q E s := by
  obtain ⟨mb, h1, h2⟩ := I.mod.blt
  exact Calls.Name_function_global I.ok.kind hg (Calls.loadGlobal_builtin (by rw [I.ok.glob]; exact I.mod.glob.keeps I.bk) hm (by rw [I.ok.blt]; exact h1.keeps I.bk) ((h2 x hn).trans hv) h) hd
theorem pe_glob {x : Str} {v : V} {u : Value} {pos : Pos} (hg : Gl X x) (hm : X.mg x = some u) (r : RelV v u) (hd : (x == ("__debug__" : Str)) = false := by decide) : PE X (.Name x pos) (tC v) :=
  fun _ _ _ H _ I h => ld_glob I hg hm ⟨v, H, I, r, h⟩ hd
theorem pe_bltn {x : Str} {v : V} {u : Value} {pos : Pos} (hg : Gl X x) (hm : X.mg x = none) (hv : bootBuiltins x = some u) (r : RelV v u) (hn : x ≠ "__name__" := by decide) (hd : (x == ("__debug__" : Str)) = false := by decide) : PE X (.Name x pos) (tC v) :=
  fun _ _ _ H _ I h => ld_blt I hg hm hv ⟨v, H, I, r, h⟩ hn hd
variable {a b : Expr} {ta tb : TE} {pos : Pos}
def tB (t : TE) : TT := fun σ H Q => t σ H fun x H1 => ∃ c, x = .bl c /\ Q c H1
theorem pt_val {e : Expr} {t : TE} (h : PE X e t) (he : ∀ whole, isTrue e X.env whole = (do let v <- whole; standAt e.pos; holding [v] (truthy v)) := by intro _; rfl) : PT X e (tB t) := by
  intro pins s σ H Q I hw
  refine isTrue_plain (thn (h pins s σ H _ I hw) fun v s1 ⟨x, H1, I1, r1, q1⟩ => ?_) (he _)
  obtain ⟨d, rfl, q⟩ := q1
  cases r1
  exact wpAny_truthy_bool ⟨H1, I1, q⟩
variable {tA tB' : TT} {rest : List Expr}
def tAnd (t u : TT) : TT := fun σ H Q => t σ H fun c H1 => if c = true then u σ H1 Q else Q false H1
def tOr (t u : TT) : TT := fun σ H Q => t σ H fun c H1 => if c = true then Q true H1 else u σ H1 Q
def tNot (t : TT) : TT := fun σ H Q => t σ H fun c H1 => Q (!c) H1
theorem pw_and1 (ha : PT X a tA) : PW X (.BoolOp .And [a] pos) tA := by
  intro wh pins s σ H Q I h
  refine isTrue_and (thn (ha pins s σ H Q I h) fun c s1 e => ?_)
  cases c with
  | true => exact isTrue_and_nil e
  | false => exact e
theorem pw_or1 (ha : PT X a tA) : PW X (.BoolOp .Or [a] pos) tA := by
  intro wh pins s σ H Q I h
  refine isTrue_or (thn (ha pins s σ H Q I h) fun c s1 e => ?_)
  cases c with
  | false => exact isTrue_or_nil e
  | true => exact e
theorem pw_and (ha : PT X a tA) (hb : PW X (.BoolOp .And (b :: rest) pos) tB') : PW X (.BoolOp .And (a :: b :: rest) pos) (tAnd tA tB') := by
  intro wh pins s σ H Q I h
  refine isTrue_and (thn (ha pins s σ H _ I h) fun c s1 ⟨H1, I1, q1⟩ => ?_)
  cases c with
  | true => exact hb wh pins s1 σ H1 Q I1 q1
  | false => exact ⟨H1, I1, q1⟩
theorem pw_or (ha : PT X a tA) (hb : PW X (.BoolOp .Or (b :: rest) pos) tB') : PW X (.BoolOp .Or (a :: b :: rest) pos) (tOr tA tB') := by
  intro wh pins s σ H Q I h
  refine isTrue_or (thn (ha pins s σ H _ I h) fun c s1 ⟨H1, I1, q1⟩ => ?_)
  cases c with
  | true => exact ⟨H1, I1, q1⟩
  | false => exact hb wh pins s1 σ H1 Q I1 q1
theorem pt_not (ha : PT X a tA) : PT X (.UnaryOp .Not a pos) (tNot tA) := by
  intro pins s σ H Q I h
  exact isTrue_not (ha pins s σ H (fun c H1 => Q (!c) H1) I h)
def tAndV (ta tb : TE) : TE := fun σ H Q => ta σ H fun x H1 => ∃ c, x = .bl c /\ if c = true then tb σ H1 Q else Q (.bl false) H1
def tNotV (ta : TE) : TE := fun σ H Q => ta σ H fun x H1 => ∃ c, x = .bl c /\ Q (.bl (!c)) H1
theorem pe_one {op} {t : TE} (h : PE X a t) : PE X (.BoolOp op [a] pos) t := fun pins s σ H Q I hw => BoolOp_one (h pins s σ H Q I hw)
theorem pe_and (ha : PE X a ta) (hb : PE X (.BoolOp .And (b :: rest) pos) tb) : PE X (.BoolOp .And (a :: b :: rest) pos) (tAndV ta tb) := by
  intro pins s σ H Q I h
  refine BoolOp_and (thn (ha pins s σ H _ I h) fun v s1 ⟨x, H1, I1, r1, q1⟩ => ?_)
  obtain ⟨c, rfl, q1⟩ := q1
  cases r1
  refine wpAny_truthy_bool ?_
  cases c with
  | true => exact hb pins s1 σ H1 Q I1 q1
  | false => exact ⟨.bl false, H1, I1, rfl, q1⟩
theorem pe_not (ha : PE X a ta) : PE X (.UnaryOp .Not a pos) (tNotV ta) := by
  intro pins s σ H Q I h
  refine UnaryOp_ (thn (ha pins s σ H _ I h) fun v s1 ⟨x, H1, I1, r1, q1⟩ => ?_)
  obtain ⟨c, rfl, q1⟩ := q1
  cases r1
  exact not_of (wpAny_truthy_bool ⟨.bl (!c), H1, I1, rfl, q1⟩)
end
end L2
namespace L2
open PySem PySem.Spec PyProof.Rows
def SqL (K : W.Frag) (H : Hp) (a : Addr) (xs : List V) : Prop :=
  Rd H a (.lst xs) ∨
    ∃ (o : Obj) (its : Array Value) (n : Nat), K.lookup a = some o /\ o.cls = .type "list" /\ o.dict = none /\ o.data = .seq its n /\ its.size <= sizeLine /\ Vals xs its.toList
def SqT (K : W.Frag) (H : Hp) (a : Addr) (xs : List V) : Prop :=
  Rd H a (.tup xs) ∨
    ∃ (o : Obj) (its : Array Value) (n : Nat), K.lookup a = some o /\ o.cls = .type "tuple" /\ o.data = .seq its n /\ its.size <= sizeLine /\ Vals xs its.toList
def absV : Value -> Option V
  | .none => some .non
  | .bool b => some (.bl b)
  | .int i _ => some (.int i)
  | .str x _ => some (.str x)
  | .bytes b _ => some (.byt b)
  | .float b _ => some (.flt b)
  | .ref a => some (.ref a)
  | .type n => some (.ty n)
  | _ => none
theorem RelV.abs {x : V} {u : Value} (r : RelV x u) : absV u = some x := by
  cases x with
  | non => cases r; rfl
  | bl _ => cases r; rfl
  | int _ => obtain ⟨t, rfl⟩ := r; rfl
  | str _ => obtain ⟨t, rfl⟩ := r; rfl
  | byt _ => obtain ⟨t, rfl⟩ := r; rfl
  | flt _ => obtain ⟨t, rfl⟩ := r; rfl
  | ref _ => cases r; rfl
  | ty _ => cases r; rfl
theorem RelV.inj {x y : V} {u : Value} (r : RelV x u) (q : RelV y u) : x = y := Option.some.inj (r.abs.symm.trans q.abs)
theorem Vals.inj : ∀ {xs ys : List V} {us : List Value}, Vals xs us -> Vals ys us -> xs = ys
  | _, _, _, .nil, .nil => rfl
  | _, _, _, .cons r t, .cons r' t' => by rw [r.inj r', Vals.inj t t']
section
variable {X : Cx} {pins : List (Addr × Obj)} {σ : St} {H : Hp} {s : Shared} {a : Addr} {xs ys : List V}
theorem SqL.of {K : W.Frag} (h : H a = some (.lst xs)) : SqL K H a xs := .inl (.inl h)
theorem SqT.of {K : W.Frag} (h : H a = some (.tup xs)) : SqT K H a xs := .inl (.inl h)
theorem Inv.list (I : Inv X pins σ H s) (h : SqL X.K H a xs) : ∃ its : List Value, Vals xs its /\ PlainL s.heap a its.toArray /\ xs.length <= sizeLine := by
  rcases h with h | ⟨o, its, n, hk, hc, hd, hs, hz, r⟩
  . obtain ⟨z, its, n, r, e⟩ := h.ok I.hok
    exact ⟨its, r, ⟨_, n, e, rfl, rfl, rfl⟩, z⟩
  . refine ⟨its.toList, r, ⟨o, n, I.kIn a o hk, hc, hd, by simpa using hs⟩, ?_⟩
    have e := r.length
    simp only [Array.length_toList] at e
    omega
theorem Inv.tuple (I : Inv X pins σ H s) (h : SqT X.K H a xs) : ∃ its : List Value, Vals xs its /\ IsTup s.heap a its.toArray /\ xs.length <= sizeLine := by
  rcases h with h | ⟨o, its, n, hk, hc, hs, hz, r⟩
  . obtain ⟨z, its, r, p⟩ := h.ok I.hok
    exact ⟨its, r, p, z⟩
  . refine ⟨its.toList, r, ⟨o, I.kIn a o hk, hc, n, by simpa using hs⟩, ?_⟩
    have e := r.length
    simp only [Array.length_toList] at e
    omega
theorem Inv.list_inj (I : Inv X pins σ H s) (h : SqL X.K H a xs) (h' : SqL X.K H a ys) : xs = ys := by
  obtain ⟨its, r, ⟨o, n, e, _, _, d⟩, _⟩ := I.list h
  obtain ⟨its', r', ⟨o', n', e', _, _, d'⟩, _⟩ := I.list h'
  rw [e] at e'; cases e'
  rw [d] at d'
  injection d' with d1 _
  have : its = its' := by simpa using congrArg Array.toList d1
  subst this
  exact r.inj r'
theorem Inv.tuple_inj (I : Inv X pins σ H s) (h : SqT X.K H a xs) (h' : SqT X.K H a ys) : xs = ys := by
  obtain ⟨its, r, ⟨o, e, _, n, d⟩, _⟩ := I.tuple h
  obtain ⟨its', r', ⟨o', e', _, n', d'⟩, _⟩ := I.tuple h'
  rw [e] at e'; cases e'
  rw [d] at d'
  injection d' with d1 _
  have : its = its' := by simpa using congrArg Array.toList d1
  subst this
  exact r.inj r'
end
abbrev Cx.wish (X : Cx) (E : Value -> Shared -> Prop) : Cx := { X with xe := E }
abbrev Cx.nox (X : Cx) : Cx := X.wish fun _ _ => False
theorem Cx.Ok.wish {X : Cx} (ok : X.Ok) (E : Value -> Shared -> Prop) : (X.wish E).Ok :=
  ⟨ok.mod, ok.kind, ok.glob, ok.blt, ok.above, ok.inj, ok.has, ok.cab, ok.hd, ok.frames, ok.stk, ok.exf, ok.bs, ok.bsz, ok.noex, ok.exfs, ok.funs, ok.frf⟩
theorem Cx.Ok.unwish {X : Cx} {E : Value -> Shared -> Prop} (ok : (X.wish E).Ok) : X.Ok :=
  ⟨ok.mod, ok.kind, ok.glob, ok.blt, ok.above, ok.inj, ok.has, ok.cab, ok.hd, ok.frames, ok.stk, ok.exf, ok.bs, ok.bsz, ok.noex, ok.exfs, ok.funs, ok.frf⟩
section
variable {X : Cx} {pins : List (Addr × Obj)} {σ : St} {H : Hp} {s : Shared} {E : Value -> Shared -> Prop}
theorem Inv.wish (I : Inv X pins σ H s) (E : Value -> Shared -> Prop) : Inv (X.wish E) pins σ H s := ⟨I.ok.wish E, I.os, I.bare, I.base, I.loc, I.cell, I.free, I.freeC, I.pin, I.hok, I.len⟩
theorem Inv.unwish (I : Inv (X.wish E) pins σ H s) : Inv X pins σ H s := ⟨I.ok.unwish, I.os, I.bare, I.base, I.loc, I.cell, I.free, I.freeC, I.pin, I.hok, I.len⟩
theorem SP.unwish {D : Ends} {f : Flow} {s' : Shared} (h : SP (X.wish E) pins D f s') : SP X pins D f s' := by
  cases f with
  | next => obtain ⟨σ', H', I, q⟩ := h; exact ⟨σ', H', I.unwish, q⟩
  | brk => obtain ⟨σ', H', I, q⟩ := h; exact ⟨σ', H', I.unwish, q⟩
  | cont => obtain ⟨σ', H', I, q⟩ := h; exact ⟨σ', H', I.unwish, q⟩
  | ret u => obtain ⟨v, σ', H', I, r, q⟩ := h; exact ⟨v, σ', H', I.unwish, r, q⟩
theorem PE.nox {e : Expr} {t : TE} (h : PE X.nox e t) : PE X e t := fun pins s σ H Q I hw =>
  wpAny_mono (h pins s σ H Q (I.wish _) hw) (fun _ _ ⟨v, H', I', r, q⟩ => ⟨v, H', I'.unwish, r, q⟩) fun _ _ z => False.elim z
theorem PT.nox {e : Expr} {t : TT} (h : PT X.nox e t) : PT X e t := fun pins s σ H Q I hw =>
  wpAny_mono (h pins s σ H Q (I.wish _) hw) (fun _ _ ⟨H', I', q⟩ => ⟨H', I'.unwish, q⟩) fun _ _ z => False.elim z
theorem PSs.nox {st : List Stmt} {t : TS} (h : PSs X.nox st t) : PSs X st t := fun pins s σ H D I hw =>
  wpAny_mono (h pins s σ H D (I.wish _) hw) (fun _ _ q => q.unwish) fun _ _ z => False.elim z
end
section
variable {X : Cx} {st : Stmt} {rest : List Stmt} {t u : TS} {e : Expr} {te : TE} {pos : Pos}
def tNext : TS := fun D σ H => D.nx σ H
def tSeq (t u : TS) : TS := fun D σ H => t { D with nx := u D } σ H
theorem pss_nil : PSs X [] tNext := fun _ _ σ H _ I h => wpAny_execs_nil ⟨σ, H, I, h⟩
theorem pss_cons (h1 : PS X st t) (h2 : PSs X rest u) : PSs X (st :: rest) (tSeq t u) := by
  intro pins s σ H D I h
  refine wpAny_execs_cons (thn (h1 pins s σ H { D with nx := u D } I h) fun f s1 q => ?_)
  cases f with
  | next =>
    obtain ⟨σ', H', I', q⟩ := q
    exact h2 pins s1 σ' H' D I' q
  | ret v => exact q
  | brk => exact q
  | cont => exact q
theorem pss_one (h1 : PS X st t) : PSs X [st] t := by
  intro pins s σ H D I h
  refine wpAny_execs_cons (thn (h1 pins s σ H D I h) fun f s1 q => ?_)
  cases f with
  | next => exact wpAny_execs_nil q
  | ret v => exact q
  | brk => exact q
  | cont => exact q
theorem Inv.quiet {pins : List (Addr × Obj)} {σ : St} {H : Hp} {s : Shared} (I : Inv X pins σ H s) : interactive X.env = false := by simp [interactive, I.ok.kind]
def tDrop (te : TE) : TS := fun D σ H => te σ H fun _ H1 => D.nx σ H1
theorem ps_expr (he : PE X e te) (hs : swapsWith e none pos.line X.env = pure false := by rfl) : PS X (.Expr e pos) (tDrop te) := by
  intro pins s σ H D I h
  exact wpAny_Expr_any (thn (he pins s σ H _ I h) fun v s1 ⟨x, H1, I1, r1, q1⟩ => ⟨σ, H1, I1, q1⟩) I.quiet hs
def tRet (te : TE) : TS := fun D σ H => te σ H D.rt
theorem ps_ret (he : PE X e te) : PS X (.Return (some e) pos) (tRet te) := by
  intro pins s σ H D I h
  exact wpAny_Return_some (thn (he pins s σ H _ I h) fun v s1 ⟨x, H1, I1, r1, q1⟩ => ⟨x, σ, H1, I1, r1, q1⟩)
def tIfS (c : TT) (t u : TS) : TS := fun D σ H => c σ H fun b H1 => if b = true then t D σ H1 else u D σ H1
theorem ps_if {c : Expr} {a b : List Stmt} {tc : TT} (hc : PT X c tc) (ha : PSs X a t) (hb : PSs X b u) : PS X (.If c a b pos) (tIfS tc t u) := by
  intro pins s σ H D I h
  refine wpAny_If (thn (hc pins s σ H _ I h) fun d s1 ⟨H1, I1, q1⟩ => ?_)
  cases d with
  | true => exact ha pins s1 σ H1 D I1 q1
  | false => exact hb pins s1 σ H1 D I1 q1
end
abbrev TG := V -> St -> Hp -> (St -> Hp -> Prop) -> Prop
abbrev TGs := List V -> St -> Hp -> (St -> Hp -> Prop) -> Prop
def PG (X : Cx) (target : Expr) (t : TG) : Prop :=
  ∀ (pins : List (Addr × Obj)) (s : Shared) (σ : St) (H : Hp) (v : V) (u : Value) (Q : St -> Hp -> Prop), Inv X pins σ H s -> RelV v u -> t v σ H Q →
    wpAny (model X.prog X.w) X.A (assign target X.env u) (fun _ s' => ∃ σ' H', Inv X pins σ' H' s' /\ Q σ' H') X.xe s
def PGs (X : Cx) (ts : List Expr) (t : TGs) : Prop :=
  ∀ (pins : List (Addr × Obj)) (s : Shared) (σ : St) (H : Hp) (vs : List V) (us : List Value) (Q : St -> Hp -> Prop), Inv X pins σ H s -> Vals vs us -> t vs σ H Q →
    wpAny (model X.prog X.w) X.A (assignInOrder ((assignEach ts X.env).map (·.2)) us) (fun _ s' => ∃ σ' H', Inv X pins σ' H' s' /\ Q σ' H') X.xe s
abbrev TSet := V -> V -> V -> Hp -> (Hp -> Prop) -> Prop
def PSet (X : Cx) (t : TSet) : Prop :=
  ∀ (pins : List (Addr × Obj)) (s : Shared) (σ : St) (H : Hp) (o i v : V) (ov iv u : Value) (Q : Hp -> Prop), Inv X pins σ H s -> RelV o ov -> RelV i iv -> RelV v u -> t o i v H Q →
    wpAny (model X.prog X.w) X.A (setItem ov iv u) (fun _ s' => ∃ H', Inv X pins σ H' s' /\ Q H') X.xe s
section
variable {X : Cx} {pos : Pos}
def gName (i : Nat) : TG := fun v σ H Q => Q (σ.set i (some v)) H
theorem pg_name {i : Nat} {x : Str} (hN : X.N.Nodup) (hi : X.N[i]? = some x) (hx : Loc X.env.scope x) (hf : X.fn x = true \/ X.env.scope.names.lookup x = some .local := by first | exact .inl rfl | exact .inr rfl | assumption) : PG X (.Name x pos) (gName i) := by
  intro pins s σ H v u Q I r h
  exact wpAny_assign_Name (store_ok I hN hi hx r (fun s' I' => ⟨_, H, I', h⟩) hf)
def gNil : TGs := fun vs σ H Q => vs = [] /\ Q σ H
def gCons (t : TG) (u : TGs) : TGs := fun vs σ H Q => ∃ v r, vs = v :: r /\ t v σ H fun σ' H' => u r σ' H' Q
theorem pgs_nil : PGs X [] gNil := by
  intro pins s σ H vs us Q I r h
  obtain ⟨e, h⟩ := h
  subst e
  cases r
  exact assignInOrder_nil ⟨σ, H, I, h⟩
theorem pgs_cons {e : Expr} {es : List Expr} {t : TG} {u : TGs} (h1 : PG X e t) (h2 : PGs X es u)
    (hs : (assignEach (e :: es) X.env).map (·.2) = assign e X.env :: (assignEach es X.env).map (·.2) := by rfl) : PGs X (e :: es) (gCons t u) := by
  intro pins s σ H vs us Q I r h
  obtain ⟨v, vr, e1, h⟩ := h
  subst e1
  cases r with
  | cons r rr =>
    rw [hs]
    refine assignInOrder_cons (thn (h1 pins s σ H _ _ _ I r h) fun _ s1 ⟨σ1, H1, I1, q1⟩ => ?_)
    exact h2 pins s1 σ1 H1 _ _ Q I1 rr q1
def gTup (K : W.Frag) (n : Nat) (t : TGs) : TG := fun v σ H Q => ∃ a xs, v = .ref a /\ SqT K H a xs /\ xs.length = n /\ t xs σ H Q
theorem pg_tup {es : List Expr} {k : Nat} {t : TGs} {n : Nat} (hc : X.calm = true) (h : PGs X es t)
    (hn : (assignEach es X.env).length = n := by rfl) (hst : (assignEach es X.env).findIdx? (·.1) = none := by rfl) : PG X (.Tuple es k pos) (gTup X.K n t) := by
  intro pins s σ H v u Q I r hw
  obtain ⟨a, xs, e1, hq, hl, hw⟩ := hw
  subst e1
  cases r
  obtain ⟨its, rv, ht, hz⟩ := I.tuple hq
  refine assign_Tuple_tuple (I.ok.hd hc) ht (by simp [hn, <- hl, rv.length]) hst fun h' hx => ?_
  have I1 : Inv X pins σ H { s with heap := h' } := I.kept (t' := s.toks) fun b o e => hx b o (Nat.ne_of_lt (Heap.lt_size e)) e
  exact h pins _ σ H xs _ Q I1 (by simpa using rv) hw
def gSub (to ti : TE) (t : TSet) : TG := fun v σ H Q => to σ H fun o H1 => ti σ H1 fun i H2 => t o i v H2 fun H3 => Q σ H3
theorem pg_sub {o i : Expr} {to ti : TE} {t : TSet} (ho : PE X o to) (hi : PE X i ti) (hs : PSet X t)
    (ha : ∀ v, assign (.Subscript o i pos) X.env v = (do
      let ov <- holding [v] (eval o X.env)
      let iv <- holding [v, ov] (eval i X.env)
      standAt pos
      holding [v, ov, iv] (setItem ov iv v)
      release [v, ov, iv] []) := by intro _; rfl) : PG X (.Subscript o i pos) (gSub to ti t) := by
  intro pins s σ H v u Q I r h
  rw [ha]
  refine wpAny_bind (wpAny_holding (thn (ho pins s σ H _ I h) fun ov s1 ⟨x, H1, I1, r1, q1⟩ => ?_))
  refine wpAny_bind (wpAny_holding (thn (hi pins s1 σ H1 _ I1 q1) fun iv s2 ⟨y, H2, I2, r2, q2⟩ => ?_))
  refine wpAny_bind (wpAny_standAt (wpAny_bind (wpAny_holding (thn (hs pins s2 σ H2 x y v ov iv u _ I2 r1 r2 r q2) fun _ s3 ⟨H3, I3, q3⟩ => ?_))))
  exact wpAny_release ⟨σ, H3, I3, q3⟩
def tAsg (te : TE) (g : TG) : TS := fun D σ H => te σ H fun x H1 => g x σ H1 D.nx
theorem ps_asg {tg e : Expr} {te : TE} {g : TG} (he : PE X e te) (hg : PG X tg g) (hs : swapsWithSole [tg] e pos.line X.env = pure false := by rfl) (hw : swappedStores [tg] e X.env = pure none := by rfl)
    (h1 : (assignEach [tg] X.env).map (·.2) = [assign tg X.env] := by rfl) : PS X (.Assign [tg] e pos) (tAsg te g) := by
  intro pins s σ H D I h
  refine wpAny_Assign_stores (thn (he pins s σ H _ I h) fun v s1 ⟨x, H1, I1, r1, q1⟩ => ?_) hs hw
  rw [h1]
  exact thn (hg pins s1 σ H1 x v _ I1 r1 q1) fun _ s2 q => q
theorem ps_set {i : Nat} {x : Str} {e : Expr} {te : TE} {pos' : Pos} (hN : X.N.Nodup) (hi : X.N[i]? = some x) (hx : Loc X.env.scope x) (he : PE X e te) (hs : swapsWith e (some (.Name x pos')) pos.line X.env = pure false := by rfl) (hf : X.fn x = true \/ X.env.scope.names.lookup x = some .local := by first | exact .inl rfl | exact .inr rfl | assumption) :
    PS X (.Assign [.Name x pos'] e pos) (tAsg te (gName i)) := by
  intro pins s σ H D I h
  refine wpAny_Assign_Name (thn (he pins s σ H _ I h) fun v s1 ⟨y, H1, I1, r1, q1⟩ => ?_) hs
  exact store_ok I1 hN hi hx r1 (fun s2 I2 => ⟨_, H1, I2, q1⟩) hf
end
section
variable {X : Cx} {pos : Pos}
end
structure It where
  go : Nat -> Hp -> Prop
  yld : Nat -> Hp -> V -> Hp -> Prop
  stop : Nat -> Hp -> Prop
def FpOk (X : Cx) (pins : List (Addr × Obj)) (H : Hp) (b : Addr) : Prop :=
  H b = none /\ b ≠ X.env.locals /\ b ∉ X.fs /\ (b ∈ X.ex \/ X.s₀.heap.objs.size <= b) /\ (∀ x c, X.env.cells.lookup x = some c -> c ≠ b) /\ ∀ p ∈ X.pn ++ pins, p.1 ≠ b
theorem Inv.fpOk {X : Cx} {pins : List (Addr × Obj)} {σ : St} {H H' : Hp} {s : Shared} {b : Addr} (I : Inv X pins σ H s) (hb : s.heap.objs.size <= b) (hn : H' b = none) : FpOk X pins H' b := by
  refine ⟨hn, Nat.ne_of_gt (Nat.lt_of_lt_of_le I.lt hb), I.nofs hb, .inr (Nat.le_trans I.sz hb), fun x c e z => ?_, fun p hp z => ?_⟩
  . obtain ⟨v, q⟩ := I.cell x c e
    exact absurd (Nat.lt_of_lt_of_le q.lt (by rw [z]; exact hb)) (Nat.lt_irrefl _)
  . exact absurd (Nat.lt_of_lt_of_le (Heap.lt_size (I.pin p hp).1) (by rw [z]; exact hb)) (Nat.lt_irrefl _)
structure Turn (P : Program) (w : World) (K : W.Frag) (tg : Expr) (J : It) (fp : List Addr) (it : Addr) (tn : Nat -> Heap -> Prop) : Prop where
  mem : it ∈ fp
  obj : ∀ i h, tn i h -> ∀ b ∈ fp, ∃ o, h.get? b = some o /\ ∀ v, o.data ≠ .cell v
  keep : ∀ i h h', tn i h -> (∀ b ∈ fp, ∀ o, h.get? b = some o -> h'.get? b = some o) -> tn i h'
  item : ∀ (X : Cx), X.prog = P -> X.w = w -> X.K = K -> X.calm = true -> ∀ (i : Nat) (pins : List (Addr × Obj)) (s : Shared) (σ : St) (H : Hp) (E : Value -> Shared -> Prop), Inv X pins σ H s -> (∀ b ∈ fp, FpOk X pins H b) -> tn i s.heap -> J.go i H →
    wpAny (model P w) X.A (pyNext (.ref it)) (fun r s1 => ∃ u, r = some u ∧
      wpAny (model P w) X.A (letOwnedTupleGo tg (.ref it) u) (fun _ s2 => ∃ x H', Inv X pins σ H' s2 /\ RelV x u /\ J.yld i H x H' /\ tn (i + 1) s2.heap /\ ∀ b ∈ fp, H' b = none) E s1) E s
  done : ∀ (X : Cx), X.prog = P -> X.w = w -> X.K = K -> X.calm = true -> ∀ (i : Nat) (pins : List (Addr × Obj)) (s : Shared) (σ : St) (H : Hp) (E : Value -> Shared -> Prop), Inv X pins σ H s -> (∀ b ∈ fp, FpOk X pins H b) -> tn i s.heap -> J.stop i H →
    wpAny (model P w) X.A (pyNext (.ref it)) (fun r s1 => r = none /\ Inv X pins σ H s1) E s
  self : ∀ (A : Around) (i : Nat) (s : Shared) (Q : Value -> Shared -> Prop) (E : Value -> Shared -> Prop), tn i s.heap -> Q (.ref it) s -> wpAny (model P w) A (pyIter (.ref it)) Q E s
abbrev TI := St -> Hp -> (It -> Hp -> Prop) -> Prop
def PIE (X : Cx) (pins : List (Addr × Obj)) (σ : St) (tg : Expr) (R : It -> Hp -> Prop) (itv : Value) (s2 : Shared) : Prop :=
  ∃ (it : Addr) (fp : List Addr) (tn : Nat -> Heap -> Prop) (J : It) (H' : Hp), itv = .ref it /\ Inv X pins σ H' s2 /\ Turn X.prog X.w X.K tg J fp it tn /\ tn 0 s2.heap /\ (∀ b ∈ fp, FpOk X pins H' b) /\ R J H'
def PI (X : Cx) (tg iter : Expr) (wi : TI) : Prop :=
  ∀ (pins : List (Addr × Obj)) (s : Shared) (σ : St) (H : Hp) (R : It -> Hp -> Prop), Inv X pins σ H s -> wi σ H R →
    wpAny (model X.prog X.w) X.A (eval iter X.env) (fun v s1 => wpAny (model X.prog X.w) X.A (pyIter v) (PIE X pins σ tg R) X.xe s1) X.xe s
theorem go_of {M : Model} {A : Around} {E : Value -> Shared -> Prop} {s : Shared} {tg : Expr} {it : Addr} {u : Value} {o : Obj} {n : String} {vs : Array Value} {Q : Unit -> Shared -> Prop} (ho : s.heap.get? it = some o) (hc : o.cls = .type n) (hd : o.data = .fields vs)
    (hn : ["enumerate", "zip", "dict_itemiterator", "dict_reverseitemiterator", "odict_iterator", "itertools.zip_longest", "itertools.pairwise"].contains n = false) (hQ : Q () s) : wpAny M A (letOwnedTupleGo tg (.ref it) u) Q E s := by
  unfold letOwnedTupleGo
  cases tg <;> first
    | exact wpAny_pure hQ
    | (cases u <;> first
        | exact wpAny_pure hQ
        | (refine wpAny_bind (wpAny_load ho ?_)
           rw [hc, hd]
           show wpAny M A (if (["enumerate", "zip", "dict_itemiterator", "dict_reverseitemiterator", "odict_iterator", "itertools.zip_longest", "itertools.pairwise"].contains n && vs[0]? == some (rawInt _)) = true then _ else _) Q E s
           rw [if_neg (by intro h; rw [hn, Bool.false_and] at h; cases h)]
           exact wpAny_pure hQ))
def Itl (K : W.Frag) (a : Addr) : It :=
  ⟨fun i H => ∃ xs x, SqL K H a xs /\ xs[i]? = some x, fun i H x H' => H' = H /\ ∀ xs, SqL K H a xs -> xs[i]? = some x, fun i H => ∃ xs, SqL K H a xs /\ xs.length <= i⟩
def Itt (K : W.Frag) (a : Addr) : It :=
  ⟨fun i H => ∃ xs x, SqT K H a xs /\ xs[i]? = some x, fun i H x H' => H' = H /\ ∀ xs, SqT K H a xs -> xs[i]? = some x, fun i H => ∃ xs, SqT K H a xs /\ xs.length <= i⟩
def Itr (lo : Int) (n : Nat) : It := ⟨fun i _ => i < n, fun i H x H' => H' = H /\ x = .int (lo + i), fun i _ => n <= i⟩
theorem turn_list {P : Program} {w : World} {K : W.Frag} {tg : Expr} (a it : Addr) : Turn P w K tg (Itl K a) [it] it (fun i h => h.IsListIter it a i) where
  mem := by simp
  obj := fun i h st b hb => by
    have e : b = it := by simpa using hb
    subst e
    obtain ⟨o, e, c, d⟩ := st
    exact ⟨o, e, fun v z => by rw [d] at z; cases z⟩
  keep := fun i h h' st k => st.at fun o e => k it (by simp) o e
  item := by
    intro X hP hw hK hc i pins s σ H E I hf st hg
    subst hP hw hK
    obtain ⟨xs, x, hq, hx⟩ := hg
    obtain ⟨its, rv, p, hz⟩ := I.list hq
    obtain ⟨u, hu, ru⟩ := rv.get hx
    obtain ⟨f0, f1, f2, f3, f4, f5⟩ := hf it (by simp)
    refine wpAny_pyNext_list_item st p.isList (x := u) (by simpa using hu) fun h' st' sb => ?_
    have I1 : Inv X pins σ H { s with heap := h' } := I.turned (t' := s.toks) (fun b o hb e => (sb.2 b hb).trans e) f0 f1 f3 f4 f5
    obtain ⟨o, e, c, d⟩ := id st'
    exact ⟨u, rfl, go_of (s := { s with heap := h' }) e c d (by decide) ⟨x, H, I1, ru, ⟨rfl, fun ys hy => by rw [I.list_inj hy hq]; exact hx⟩, st', fun b hb => (hf b hb).1⟩⟩
  done := by
    intro X hP hw hK hc i pins s σ H E I hf st hg
    subst hP hw hK
    obtain ⟨xs, hq, hx⟩ := hg
    obtain ⟨its, rv, p, hz⟩ := I.list hq
    obtain ⟨f0, f1, f2, f3, f4, f5⟩ := hf it (by simp)
    have hl := rv.length
    exact wpAny_pyNext_list_end (I.ok.hd hc) st p.isList (by simp; omega) fun h' eb => ⟨rfl, I.turned (t' := s.toks) (fun b o hb e => eb b o hb e) f0 f1 f3 f4 f5⟩
  self := fun _ _ _ _ _ st h => wpAny_pyIter_listiter st h
theorem turn_tuple {P : Program} {w : World} {K : W.Frag} {tg : Expr} (a it : Addr) : Turn P w K tg (Itt K a) [it] it (fun i h => h.IsTupleIter it a i) where
  mem := by simp
  obj := fun i h st b hb => by
    have e : b = it := by simpa using hb
    subst e
    obtain ⟨o, e, c, d⟩ := st
    exact ⟨o, e, fun v z => by rw [d] at z; cases z⟩
  keep := fun i h h' st k => st.at fun o e => k it (by simp) o e
  item := by
    intro X hP hw hK hc i pins s σ H E I hf st hg
    subst hP hw hK
    obtain ⟨xs, x, hq, hx⟩ := hg
    obtain ⟨its, rv, p, hz⟩ := I.tuple hq
    obtain ⟨u, hu, ru⟩ := rv.get hx
    obtain ⟨f0, f1, f2, f3, f4, f5⟩ := hf it (by simp)
    refine wpAny_pyNext_tuple_item st (show s.heap.IsTuple a its.toArray from p) (x := u) (by simpa using hu) fun h' st' sb => ?_
    have I1 : Inv X pins σ H { s with heap := h' } := I.turned (t' := s.toks) (fun b o hb e => (sb.2 b hb).trans e) f0 f1 f3 f4 f5
    obtain ⟨o, e, c, d⟩ := id st'
    exact ⟨u, rfl, go_of (s := { s with heap := h' }) e c d (by decide) ⟨x, H, I1, ru, ⟨rfl, fun ys hy => by rw [I.tuple_inj hy hq]; exact hx⟩, st', fun b hb => (hf b hb).1⟩⟩
  done := by
    intro X hP hw hK hc i pins s σ H E I hf st hg
    subst hP hw hK
    obtain ⟨xs, hq, hx⟩ := hg
    obtain ⟨its, rv, p, hz⟩ := I.tuple hq
    obtain ⟨f0, f1, f2, f3, f4, f5⟩ := hf it (by simp)
    have hl := rv.length
    exact wpAny_pyNext_tuple_end (I.ok.hd hc) st (show s.heap.IsTuple a its.toArray from p) (by simp; omega) fun h' eb => ⟨rfl, I.turned (t' := s.toks) (fun b o hb e => eb b o hb e) f0 f1 f3 f4 f5⟩
  self := fun _ _ _ _ _ st h => wpAny_pyIter_tupleiter st h
theorem turn_range {P : Program} {w : World} {K : W.Frag} {tg : Expr} (it : Addr) (lo : Int) (n : Nat) : Turn P w K tg (Itr lo n) [it] it (fun i h => IsRangeIter h it (lo + (i : Nat) * 1) ((n : Int) - (i : Nat)) 1) where
  mem := by simp
  obj := fun i h st b hb => by
    have e : b = it := by simpa using hb
    subst e
    exact ⟨_, st, fun v z => by
      have z' : Data.fields _ = Data.cell v := z
      cases z'⟩
  keep := fun i h h' st k => k it (by simp) _ st
  item := by
    intro X hP hw hK hc i pins s σ H E I hf st hg
    subst hP hw hK
    obtain ⟨f0, f1, f2, f3, f4, f5⟩ := hf it (by simp)
    have W := Walks.range (prog := X.prog) (w := X.w) (I.ok.hd hc) it lo 1 n
    refine W.item i s _ _ hg st fun v h' tk hv st' kk => ?_
    obtain ⟨t, rfl⟩ := hv
    have I1 : Inv X pins σ H { s with heap := h', toks := tk } := I.turned (fun b o hb e => kk b o (by simpa using hb) e) f0 f1 f3 f4 f5
    refine ⟨_, rfl, go_of (s := { s with heap := h', toks := tk }) (n := "range_iterator") st' rfl rfl (by decide) ⟨.int (lo + i), H, I1, ⟨t, ?_⟩, ⟨rfl, rfl⟩, st', fun b hb => (hf b hb).1⟩⟩
    rw [Int.mul_one]
  done := by
    intro X hP hw hK hc i pins s σ H E I hf st hg
    subst hP hw hK
    obtain ⟨f0, f1, f2, f3, f4, f5⟩ := hf it (by simp)
    exact wpAny_pyNext_range_end (I.ok.hd hc) st (by have : n <= i := hg; omega) fun h' eb => ⟨rfl, I.turned (t' := s.toks) (fun b o hb e => eb b o hb e) f0 f1 f3 f4 f5⟩
  self := fun _ _ _ _ _ st h => wpAny_pyIter_rangeiter st h
end L2
namespace L2
open PySem PySem.Spec PyProof.Rows
section
variable {X : Cx} {tg : Expr}
def iList (K : W.Frag) (tl : TE) : TI := fun σ H R => tl σ H fun x H1 => ∃ a, x = .ref a /\ (∃ xs, SqL K H1 a xs) /\ R (Itl K a) H1
def iTup (K : W.Frag) (tl : TE) : TI := fun σ H R => tl σ H fun x H1 => ∃ a, x = .ref a /\ (∃ xs, SqT K H1 a xs) /\ R (Itt K a) H1
theorem pi_list {l : Expr} {tl : TE} (hl : PE X l tl) : PI X tg l (iList X.K tl) := by
  intro pins s σ H R I h
  refine thn (hl pins s σ H _ I h) fun v s1 ⟨x, H1, I1, r1, q1⟩ => ?_
  obtain ⟨a, e, ⟨xs, hq⟩, q⟩ := q1
  subst e
  cases r1
  obtain ⟨its, rv, p, hz⟩ := I1.list hq
  refine wpAny_pyIter_list p.isList ?_
  refine ⟨s1.heap.objs.size, [s1.heap.objs.size], _, _, H1, rfl, I1.kept (t' := s1.toks) fun b o e => Heap.get?_push_of_some _ e, turn_list a _, ⟨_, Heap.get?_push_size _ rfl, rfl, rfl⟩, fun b hb => ?_, q⟩
  have e : b = s1.heap.objs.size := by simpa using hb
  subst e
  exact I1.fpOk (Nat.le_refl _) (I1.hok.fresh (Nat.le_refl _))
theorem pi_tup {l : Expr} {tl : TE} (hl : PE X l tl) : PI X tg l (iTup X.K tl) := by
  intro pins s σ H R I h
  refine thn (hl pins s σ H _ I h) fun v s1 ⟨x, H1, I1, r1, q1⟩ => ?_
  obtain ⟨a, e, ⟨xs, hq⟩, q⟩ := q1
  subst e
  cases r1
  obtain ⟨its, rv, p, hz⟩ := I1.tuple hq
  refine wpAny_pyIter_tuple (show s1.heap.IsTuple a its.toArray from p) ?_
  refine ⟨s1.heap.objs.size, [s1.heap.objs.size], _, _, H1, rfl, I1.kept (t' := s1.toks) fun b o e => Heap.get?_push_of_some _ e, turn_tuple a _, ⟨_, Heap.get?_push_size _ rfl, rfl, rfl⟩, fun b hb => ?_, q⟩
  have e : b = s1.heap.objs.size := by simpa using hb
  subst e
  exact I1.fpOk (Nat.le_refl _) (I1.hok.fresh (Nat.le_refl _))
theorem range_it {pins : List (Addr × Obj)} {σ : St} {H : Hp} {s : Shared} {R : It -> Hp -> Prop} {E : Value -> Shared -> Prop} {lo hi : Int} {t u v : Tok} {tk : Nat} (I : Inv X pins σ H s) (h1 : -(2 ^ 62) <= lo) (h2 : lo < 2 ^ 62) (h3 : -(2 ^ 62) <= hi) (h4 : hi < 2 ^ 62)
    (q : R (Itr lo (hi - lo).toNat) H) : wpAny (model X.prog X.w) X.A (pyIter (.ref s.heap.objs.size)) (PIE X pins σ tg R) E { s with heap := s.heap.push { cls := .type "range", data := .fields #[.int lo t, .int hi u, .int 1 v] }, toks := tk } := by
  refine wpAny_pyIter_range (IsRange.new ..) (small_one h1 h2 h3 h4) ?_
  have I1 : Inv X pins σ H { s with heap := s.heap.push { cls := .type "range", data := .fields #[.int lo t, .int hi u, .int 1 v] }, toks := tk } := I.kept fun b o e => Heap.get?_push_of_some _ e
  refine ⟨(s.heap.push { cls := .type "range", data := .fields #[.int lo t, .int hi u, .int 1 v] }).objs.size, [(s.heap.push { cls := .type "range", data := .fields #[.int lo t, .int hi u, .int 1 v] }).objs.size], _, _, H, rfl,
    I1.kept (t' := tk) fun b o e => Heap.get?_push_of_some _ e, turn_range _ lo (hi - lo).toNat, ?_, fun b hb => ?_, q⟩
  . have e1 : lo + ((0 : Nat) : Int) * 1 = lo := by simp
    have e2 : (((hi - lo).toNat : Nat) : Int) - ((0 : Nat) : Int) = Builtin.Range.rangeSize lo hi 1 := by rw [rangeSize_one]; split <;> omega
    show IsRangeIter _ _ (lo + ((0 : Nat) : Int) * 1) ((((hi - lo).toNat : Nat) : Int) - ((0 : Nat) : Int)) 1
    rw [e1, e2]
    exact Heap.get?_push_size _ rfl
  . have e : b = (s.heap.push { cls := .type "range", data := .fields #[.int lo t, .int hi u, .int 1 v] }).objs.size := by simpa using hb
    subst e
    exact I1.fpOk (Nat.le_refl _) (I1.hok.fresh (Nat.le_refl _))
def iRng1 (ta : TA) : TI := fun σ H R => ta σ H fun vs H1 => ∃ j : Int, vs = [.int j] /\ -(2 ^ 62) <= j /\ j < 2 ^ 62 /\ R (Itr 0 j.toNat) H1
theorem pi_range1 {a : Expr} {ta : TA} {p pos : Pos} (hg : Gl X "range") (hm : X.mg "range" = none) (ha : PA X [a] ta) (hs : starEach [a] X.env = [(false, eval a X.env)] := by rfl) : PI X tg (.Call (.Name "range" p) [a] [] pos) (iRng1 ta) := by
  intro pins s σ H R I h
  refine Call_ (ld_blt I hg hm boot_range (PyProof.Rows.callWith_type1 (thn (ha pos pins s σ H _ I h) fun us s1 ⟨vs, H1, I1, r1, q1⟩ => ?_) hs rfl))
  obtain ⟨j, e, q1, q2, q⟩ := q1
  subst e
  cases r1 with
  | cons r rr =>
    cases rr
    obtain ⟨t, rfl⟩ := r
    exact call_range_1 (range_it I1 (by omega) (by omega) q1 q2 (by simpa using q))
def tFor (wi : TI) (g : TG) (tb : TS) : TS := fun D σ H => wi σ H fun J H1 => ∃ W : Nat -> Nat -> St -> Hp -> Prop, (∃ m, W 0 m σ H1) /\ ∀ i m σ H, W i m σ H →
  (J.stop i H /\ D.nx σ H) \/ (J.go i H /\ ∃ N : St -> Hp -> Prop, (∀ σ' H', N σ' H' -> ∃ m', m' < m /\ W (i + 1) m' σ' H') /\ ∀ x H', J.yld i H x H' -> g x σ H' fun σ2 H2 => tb { D with nx := N, ct := N, bk := D.nx } σ2 H2)
def pinsAt (fp : List Addr) (h : Heap) : List (Addr × Obj) := fp.filterMap fun b => (h.get? b).map fun o => (b, o)
theorem mem_pinsAt {fp : List Addr} {h : Heap} {b : Addr} {o : Obj} (hb : b ∈ fp) (e : h.get? b = some o) : (b, o) ∈ pinsAt fp h := List.mem_filterMap.mpr ⟨b, hb, by rw [e]; rfl⟩
theorem of_pinsAt {fp : List Addr} {h : Heap} {p : Addr × Obj} (hp : p ∈ pinsAt fp h) : p.1 ∈ fp /\ h.get? p.1 = some p.2 := by
  obtain ⟨b, hb, e⟩ := List.mem_filterMap.mp hp
  cases q : h.get? b with
  | none => rw [q] at e; cases e
  | some o =>
    rw [q] at e
    have e' : (b, o) = p := Option.some.inj e
    subst e'
    exact ⟨hb, q⟩
theorem Inv.pinned {pins : List (Addr × Obj)} {σ : St} {H : Hp} {s : Shared} {fp : List Addr} (I : Inv X pins σ H s) (hf : ∀ b ∈ fp, FpOk X pins H b) (ho : ∀ b ∈ fp, ∃ o, s.heap.get? b = some o /\ ∀ v, o.data ≠ .cell v) : Inv X (pins ++ pinsAt fp s.heap) σ H s :=
  I.pins_of fun p hp => (List.mem_append.mp hp).elim (fun z => I.pin p (List.mem_append_right _ z)) fun z => by
    obtain ⟨hb, e⟩ := of_pinsAt z
    obtain ⟨f0, f1, f2, _⟩ := hf p.1 hb
    obtain ⟨o, e', d⟩ := ho p.1 hb
    rw [e] at e'; cases e'
    exact ⟨e, f0, f1, f2, d⟩
theorem Inv.unpinned {pins pl : List (Addr × Obj)} {σ : St} {H : Hp} {s : Shared} (I : Inv X (pins ++ pl) σ H s) : Inv X pins σ H s := I.pins_of fun p hp => I.pin p (List.mem_append_right _ (List.mem_append_left _ hp))
theorem ps_for {iter : Expr} {body : List Stmt} {wi : TI} {g : TG} {tb : TS} {pos : Pos} (hp : PassesOwn (model X.prog X.w) X.A X.env X.xe) (hc : X.calm = true) (hi : PI X tg iter wi) (hg : PG X tg g) (hb : PSs X body tb)
    (hs : ∀ x, foldedSetIterable iter X.env x = pure x := by intro _; rfl) : PS X (.For tg iter body [] pos) (tFor wi g tb) := by
  intro pins s σ H D I h
  refine wpAny_For (thn (hi pins s σ H _ I h) fun v s1 h1 => thn h1 fun itv s2 h2 => ?_) hs
  obtain ⟨it, fp, tn, J, H2, e, I2, T, st2, f2, W, ⟨m0, w0⟩, turn⟩ := h2
  subst e
  -- what stays true of the iterator's objects through the loop
  have stat : ∀ {H' : Hp}, (∀ b ∈ fp, H' b = none) -> ∀ b ∈ fp, FpOk X pins H' b := fun hn b hb => ⟨hn b hb, (f2 b hb).2⟩
  refine codeAny_forLoop_any (fun n s' => ∃ i σ' H', Inv X pins σ' H' s' /\ tn i s'.heap /\ (∀ b ∈ fp, H' b = none) /\ W i n σ' H') ?_ m0 ⟨0, σ, H2, I2, st2, fun b hb => (f2 b hb).1, w0⟩
  rintro n s3 ⟨i, σ3, H3, I3, st3, fr3, w3⟩
  rcases turn i n σ3 H3 w3 with ⟨stop, qn⟩ | ⟨go, N, hN, step⟩
  . refine wpAny_passesOwn hp (thn (T.done X rfl rfl rfl hc i pins s3 σ3 H3 X.xe I3 (stat fr3) st3 stop) fun r s4 ⟨hr, I4⟩ => ?_)
    subst hr
    exact wpAny_execs_nil ⟨σ3, H3, I4, qn⟩
  . refine wpAny_passesOwn hp (thn (T.item X rfl rfl rfl hc i pins s3 σ3 H3 X.xe I3 (stat fr3) st3 go) fun r s4 ⟨u, hr, h4⟩ => ?_)
    subst hr
    refine wpAny_passesOwn hp (thn h4 fun _ s5 ⟨x, H5, I5, r5, y5, st5, fr5⟩ => ?_)
    have I5' := I5.pinned (stat fr5) (T.obj _ _ st5)
    refine wpAny_passesOwn hp (thn (hg _ s5 σ3 H5 x u _ I5' r5 (step x H5 y5)) fun _ s6 ⟨σ6, H6, I6, q6⟩ => ?_)
    refine wpAny_passesOwn hp (thn (hb _ s6 σ6 H6 _ I6 q6) fun f s7 q7 => ?_)
    have again : ∀ {σ7 : St} {H7 : Hp}, Inv X (pins ++ pinsAt fp s5.heap) σ7 H7 s7 -> N σ7 H7 -> ∃ m, m < n /\ ∃ i σ' H', Inv X pins σ' H' s7 /\ tn i s7.heap /\ (∀ b ∈ fp, H' b = none) /\ W i m σ' H' := fun {σ7 H7} I7 n7 => by
      obtain ⟨m', hm, w7⟩ := hN σ7 H7 n7
      refine ⟨m', hm, i + 1, σ7, H7, I7.unpinned, T.keep _ _ _ st5 fun b hb o e => (I7.pin (b, o) (List.mem_append_right _ (List.mem_append_right _ (mem_pinsAt hb e)))).1, fun b hb => ?_, w7⟩
      obtain ⟨o, e, d⟩ := T.obj _ _ st5 b hb
      exact (I7.pin (b, o) (List.mem_append_right _ (List.mem_append_right _ (mem_pinsAt hb e)))).2.1
    cases f with
    | next => obtain ⟨σ7, H7, I7, n7⟩ := q7; exact again I7 n7
    | cont => obtain ⟨σ7, H7, I7, n7⟩ := q7; exact again I7 n7
    | brk => obtain ⟨σ7, H7, I7, q7⟩ := q7; exact ⟨σ7, H7, I7.unpinned, q7⟩
    | ret v => obtain ⟨x7, σ7, H7, I7, r7, q7⟩ := q7; exact ⟨x7, σ7, H7, I7.unpinned, r7, q7⟩
end
theorem for_list {K : W.Frag} {a : Addr} {xs : List V} {g : TG} {tb : TS} {D : Ends} {σ : St} {H : Hp} (Pv : Nat -> St -> Hp -> Prop) (h0 : Pv 0 σ H) (hl : ∀ i σ H, i <= xs.length -> Pv i σ H -> SqL K H a xs)
    (hs : ∀ i x σ H, xs[i]? = some x -> Pv i σ H -> g x σ H fun σ2 H2 => tb { D with nx := Pv (i + 1), ct := Pv (i + 1), bk := D.nx } σ2 H2) (hd : ∀ σ H, Pv xs.length σ H -> D.nx σ H) :
    ∃ W : Nat -> Nat -> St -> Hp -> Prop, (∃ m, W 0 m σ H) /\ ∀ i m σ H, W i m σ H →
      ((Itl K a).stop i H /\ D.nx σ H) \/ ((Itl K a).go i H /\ ∃ N : St -> Hp -> Prop, (∀ σ' H', N σ' H' -> ∃ m', m' < m /\ W (i + 1) m' σ' H') /\ ∀ x H', (Itl K a).yld i H x H' -> g x σ H' fun σ2 H2 => tb { D with nx := N, ct := N, bk := D.nx } σ2 H2) := by
  refine ⟨fun i m σ H => m = xs.length - i /\ i <= xs.length /\ Pv i σ H, ⟨xs.length, by simp, Nat.zero_le _, h0⟩, ?_⟩
  rintro i m σ H ⟨rfl, hi, p⟩
  have q := hl i σ H hi p
  by_cases hlt : i < xs.length
  . refine .inr ⟨⟨xs, xs[i], q, by simp [hlt]⟩, Pv (i + 1), fun σ' H' p' => ⟨xs.length - (i + 1), by omega, rfl, hlt, p'⟩, fun x H' y => ?_⟩
    obtain ⟨e, y⟩ := y
    subst e
    exact hs i x σ _ (y xs q) p
  . have e : i = xs.length := by omega
    subst e
    exact .inl ⟨⟨xs, q, Nat.le_refl _⟩, hd σ H p⟩
theorem for_range {lo : Int} {n : Nat} {g : TG} {tb : TS} {D : Ends} {σ : St} {H : Hp} (Pv : Nat -> St -> Hp -> Prop) (h0 : Pv 0 σ H)
    (hs : ∀ i σ H, i < n -> Pv i σ H -> g (.int (lo + i)) σ H fun σ2 H2 => tb { D with nx := Pv (i + 1), ct := Pv (i + 1), bk := D.nx } σ2 H2) (hd : ∀ σ H, Pv n σ H -> D.nx σ H) :
    ∃ W : Nat -> Nat -> St -> Hp -> Prop, (∃ m, W 0 m σ H) /\ ∀ i m σ H, W i m σ H →
      ((Itr lo n).stop i H /\ D.nx σ H) \/ ((Itr lo n).go i H /\ ∃ N : St -> Hp -> Prop, (∀ σ' H', N σ' H' -> ∃ m', m' < m /\ W (i + 1) m' σ' H') /\ ∀ x H', (Itr lo n).yld i H x H' -> g x σ H' fun σ2 H2 => tb { D with nx := N, ct := N, bk := D.nx } σ2 H2) := by
  refine ⟨fun i m σ H => m = n - i /\ i <= n /\ Pv i σ H, ⟨n, by simp, Nat.zero_le _, h0⟩, ?_⟩
  rintro i m σ H ⟨rfl, hi, p⟩
  by_cases hlt : i < n
  . refine .inr ⟨hlt, Pv (i + 1), fun σ' H' p' => ⟨n - (i + 1), by omega, rfl, hlt, p'⟩, fun x H' y => ?_⟩
    obtain ⟨e, y⟩ := y
    subst e y
    exact hs i σ _ hlt p
  . have e : i = n := by omega
    subst e
    exact .inl ⟨Nat.le_refl _, hd σ H p⟩
end L2
namespace L2
open PySem PySem.Spec PyProof.Rows
abbrev R2 := V -> V -> Hp -> VK -> Prop
def OpR (X : Cx) (f : Value -> Value -> Sem Value) (r : R2) : Prop :=
  ∀ (pins : List (Addr × Obj)) (s : Shared) (σ : St) (H : Hp) (x y : V) (v u : Value) (Q : VK), Inv X pins σ H s -> RelV x v -> RelV y u -> r x y H Q →
    wpAny (model X.prog X.w) X.A (f v u) (EP X pins σ Q) X.xe s
def UnR (X : Cx) (f : Value -> Sem Value) (r : V -> Hp -> VK -> Prop) : Prop :=
  ∀ (pins : List (Addr × Obj)) (s : Shared) (σ : St) (H : Hp) (x : V) (v : Value) (Q : VK), Inv X pins σ H s -> RelV x v -> r x H Q →
    wpAny (model X.prog X.w) X.A (f v) (EP X pins σ Q) X.xe s
def CallR (X : Cx) (f : Value) (r : List V -> Hp -> VK -> Prop) : Prop :=
  ∀ (pins : List (Addr × Obj)) (s : Shared) (σ : St) (H : Hp) (xs : List V) (us : List Value) (Q : VK), Inv X pins σ H s -> Vals xs us -> r xs H Q →
    wpAny (model X.prog X.w) X.A (call f us) (EP X pins σ Q) X.xe s
def tOp (r : R2) (ta tb : TE) : TE := fun σ H Q => ta σ H fun x H1 => tb σ H1 fun y H2 => r x y H2 Q
def tUn (r : V -> Hp -> VK -> Prop) (ta : TE) : TE := fun σ H Q => ta σ H fun x H1 => r x H1 Q
def rI (C : Int -> Int -> Prop) (g : Int -> Int -> V) : R2 := fun x y H Q => ∃ i j, x = .int i /\ y = .int j /\ C i j /\ Q (g i j) H
def rI0 (g : Int -> Int -> V) : R2 := fun x y H Q => ∃ i j, x = .int i /\ y = .int j /\ Q (g i j) H
def rU (g : Int -> V) : V -> Hp -> VK -> Prop := fun x H Q => ∃ i, x = .int i /\ Q (g i) H
section
variable {X : Cx} {a b c : Expr} {ta tb tc : TE} {pos : Pos}
theorem binT (ha : PE X a ta) (hb : PE X b tb) {pins : List (Addr × Obj)} {s : Shared} {σ : St} {H : Hp} {R : V -> V -> Hp -> Prop} (I : Inv X pins σ H s)
    (h : ta σ H fun x H1 => tb σ H1 fun y H2 => R x y H2) {Q : Value -> Shared -> Prop} {f : Value -> Value -> Sem Value}
    (hf : ∀ v u s2 x y H2, Inv X pins σ H2 s2 -> RelV x v -> RelV y u -> R x y H2 -> wpAny (model X.prog X.w) X.A (f v u) Q X.xe s2) :
    wpAny (model X.prog X.w) X.A (eval a X.env) (fun v s₁ => wpAny (model X.prog X.w) X.A (eval b X.env) (fun u s₂ => wpAny (model X.prog X.w) X.A (f v u) Q X.xe s₂) X.xe s₁) X.xe s := by
  refine thn (ha pins s σ H _ I h) fun v s1 ⟨x, H1, I1, r1, q1⟩ => ?_
  refine thn (hb pins s1 σ H1 _ I1 q1) fun u s2 ⟨y, H2, I2, r2, q2⟩ => ?_
  exact hf v u s2 x y H2 I2 r1 r2 q2
theorem pe_op {op : Operator} {r : R2} (ho : OpR X (binaryOp op) r) (ha : PE X a ta) (hb : PE X b tb) : PE X (.BinOp a op b pos) (tOp r ta tb) := by
  intro pins s σ H Q I h
  exact wpAny_BinOp (binT ha hb I h fun v u s2 x y H2 I2 rx ry q => ho pins s2 σ H2 x y v u Q I2 rx ry q)
theorem pe_un {op : UnaryOp} {r : V -> Hp -> VK -> Prop} (ho : UnR X (unaryOp op) r) (ha : PE X a ta) : PE X (.UnaryOp op a pos) (tUn r ta) := by
  intro pins s σ H Q I h
  exact UnaryOp_ (thn (ha pins s σ H _ I h) fun v s1 ⟨x, H1, I1, r1, q1⟩ => ho pins s1 σ H1 x v Q I1 r1 q1)
theorem opI {f : Value -> Value -> Sem Value} {C : Int -> Int -> Prop} {g : Int -> Int -> Int}
    (rule : ∀ (i j : Int) (t u : Tok) (s : Shared) (Q : Value -> Shared -> Prop) (E : Value -> Shared -> Prop), C i j -> Q (.int (g i j) s.toks) { s with toks := s.toks + 1 } -> wpAny (model X.prog X.w) X.A (f (.int i t) (.int j u)) Q E s) :
    OpR X f (rI C fun i j => .int (g i j)) := by
  intro pins s σ H x y v u Q I rx ry h
  obtain ⟨i, j, rfl, rfl, hc, q⟩ := h
  obtain ⟨t, rfl⟩ := rx
  obtain ⟨t', rfl⟩ := ry
  exact rule i j t t' s _ _ hc ⟨.int (g i j), H, I.tok _, ⟨_, rfl⟩, q⟩
theorem opI0 {f : Value -> Value -> Sem Value} {g : Int -> Int -> Int}
    (rule : ∀ (i j : Int) (t u : Tok) (s : Shared) (Q : Value -> Shared -> Prop) (E : Value -> Shared -> Prop), Q (.int (g i j) s.toks) { s with toks := s.toks + 1 } -> wpAny (model X.prog X.w) X.A (f (.int i t) (.int j u)) Q E s) :
    OpR X f (rI0 fun i j => .int (g i j)) := by
  intro pins s σ H x y v u Q I rx ry h
  obtain ⟨i, j, rfl, rfl, q⟩ := h
  obtain ⟨t, rfl⟩ := rx
  obtain ⟨t', rfl⟩ := ry
  exact rule i j t t' s _ _ ⟨.int (g i j), H, I.tok _, ⟨_, rfl⟩, q⟩
theorem opB0 {f : Value -> Value -> Sem Value} {g : Int -> Int -> Bool}
    (rule : ∀ (i j : Int) (t u : Tok) (s : Shared) (Q : Value -> Shared -> Prop) (E : Value -> Shared -> Prop), Q (.bool (g i j)) s -> wpAny (model X.prog X.w) X.A (f (.int i t) (.int j u)) Q E s) :
    OpR X f (rI0 fun i j => .bl (g i j)) := by
  intro pins s σ H x y v u Q I rx ry h
  obtain ⟨i, j, rfl, rfl, q⟩ := h
  obtain ⟨t, rfl⟩ := rx
  obtain ⟨t', rfl⟩ := ry
  exact rule i j t t' s _ _ ⟨.bl (g i j), H, I, rfl, q⟩
def CDiv (i j : Int) : Prop := 0 < j /\ j < 1073741824
def CPow (i j : Int) : Prop := 0 <= j /\ j <= 1000000 /\ i.natAbs < 2 ^ 64
def CMul (i j : Int) : Prop := (-(2 ^ 64) < i /\ i < 2 ^ 64) \/ (-(2 ^ 64) < j /\ j < 2 ^ 64)
theorem CMul.ok {i j : Int} (h : CMul i j) : IntMulOk i j := by
  rcases h with ⟨h1, h2⟩ | ⟨h1, h2⟩
  . exact .of_left (intBits_le_64 h1 h2)
  . exact .of_right (intBits_le_64 h1 h2)
theorem op_add : OpR X (binaryOp .Add) (rI0 fun i j => .int (i + j)) := opI0 fun _ _ _ _ _ _ _ q => add_int q
theorem op_mul : OpR X (binaryOp .Mult) (rI CMul fun i j => .int (i * j)) := opI fun _ _ _ _ _ _ _ hc q => mul_int q hc.ok
theorem op_fdiv : OpR X (binaryOp .FloorDiv) (rI CDiv fun i j => .int (i / j)) := opI fun i j _ _ _ _ _ hc q => by
  have h1 : (0 : Int) < j := hc.1
  have h2 : j < 1073741824 := hc.2
  exact floordiv_int (by omega) (by rw [Int.fdiv_eq_ediv_of_nonneg i (by omega)]; exact q) (.inl (PyProof.noPylong_small (by omega)))
theorem op_mod : OpR X (binaryOp .Mod) (rI (fun _ j => 0 < j) fun i j => .int (i % j)) := opI fun i j _ _ _ _ _ hc q => by
  have h1 : (0 : Int) < j := hc
  exact mod_int' (by omega) (by rw [Int.fmod_eq_emod_of_nonneg i (by omega)]; exact q)
theorem op_pow : OpR X (binaryOp .Pow) (rI CPow fun i j => .int (i ^ j.toNat)) := opI fun _ _ _ _ _ _ _ hc q => pow_int_small hc.1 hc.2.1 hc.2.2 q
theorem unI {f : Value -> Sem Value} {g : Int -> Int}
    (rule : ∀ (i : Int) (t : Tok) (s : Shared) (Q : Value -> Shared -> Prop) (E : Value -> Shared -> Prop), Q (.int (g i) s.toks) { s with toks := s.toks + 1 } -> wpAny (model X.prog X.w) X.A (f (.int i t)) Q E s) :
    UnR X f (rU fun i => .int (g i)) := by
  intro pins s σ H x v Q I rx h
  obtain ⟨i, rfl, q⟩ := h
  obtain ⟨t, rfl⟩ := rx
  exact rule i t s _ _ ⟨.int (g i), H, I.tok _, ⟨_, rfl⟩, q⟩
theorem un_neg : UnR X (unaryOp .USub) (rU fun i => .int (-i)) := unI fun _ _ _ _ _ q => neg_int q
end
def scal : V -> V -> Bool
  | .non, .non => true | .non, .int _ => true | .int _, .non => true | .non, .bl _ => true | .bl _, .non => true | .non, .str _ => true | .str _, .non => true
  | .int _, .int _ => true | .bl _, .bl _ => true | .str _, .str _ => true | .byt _, .byt _ => true
  | .int _, .str _ => true | .str _, .int _ => true | .bl _, .str _ => true | .str _, .bl _ => true
  | _, _ => false
def rEq : R2 := fun x y H Q => scal x y = true /\ Q (.bl (decide (x = y))) H
def rNe : R2 := fun x y H Q => scal x y = true /\ Q (.bl (!decide (x = y))) H
theorem dec_int {i j : Int} : decide (V.int i = V.int j) = (i == j) := by
  rw [Bool.eq_iff_iff]
  simp
theorem dec_bl {i j : Bool} : decide (V.bl i = V.bl j) = (i == j) := by
  rw [Bool.eq_iff_iff]
  simp
theorem dec_str {i j : Str} : decide (V.str i = V.str j) = (i == j) := by
  rw [Bool.eq_iff_iff]
  simp
theorem dec_byt {i j : Array UInt8} : decide (V.byt i = V.byt j) = (i.toList == j.toList) := by
  rw [Bool.eq_iff_iff]
  cases i
  cases j
  simp
section
variable {X : Cx} {a b c : Expr} {ta tb tc : TE} {pos : Pos}
theorem fin_bl {pins : List (Addr × Obj)} {σ : St} {H : Hp} {s : Shared} {Q : VK} {k k' : Bool} (I : Inv X pins σ H s) (q : Q (.bl k) H) (e : k = k') : EP X pins σ Q (.bool k') s := by
  subst e
  exact ⟨.bl k, H, I, rfl, q⟩
theorem op_eq : OpR X (compareOp .Eq) rEq := by
  intro pins s σ H x y v u Q I rx ry h
  obtain ⟨hs, q⟩ := h
  cases x with
  | non =>
    cases rx
    cases y with
    | non => cases ry; exact PySem.EqNone.eq_none_none (fin_bl I q (by simp))
    | bl j => cases ry; exact PySem.EqNone.eq_none_bool (fin_bl I q (by simp))
    | int j => obtain ⟨t', rfl⟩ := ry; exact PySem.EqNone.eq_none_int (fin_bl I q (by simp))
    | str j => obtain ⟨t', rfl⟩ := ry; exact PySem.EqNone.eq_none_str (fin_bl I q (by simp))
    | _ => exact absurd (show false = true from hs) Bool.false_ne_true
  | bl i =>
    cases rx
    cases y with
    | non => cases ry; exact PySem.EqNone.eq_bool_none (fin_bl I q (by simp))
    | bl j => cases ry; exact eq_bool (fin_bl I q dec_bl)
    | str j => obtain ⟨t', rfl⟩ := ry; exact PySem.EqMixed.eq_bool_str (fin_bl I q (by simp))
    | _ => exact absurd (show false = true from hs) Bool.false_ne_true
  | int i =>
    obtain ⟨t, rfl⟩ := rx
    cases y with
    | non => cases ry; exact PySem.EqNone.eq_int_none (fin_bl I q (by simp))
    | int j => obtain ⟨t', rfl⟩ := ry; exact eq_int (fin_bl I q dec_int)
    | str j => obtain ⟨t', rfl⟩ := ry; exact PySem.EqMixed.eq_int_str (fin_bl I q (by simp))
    | _ => exact absurd (show false = true from hs) Bool.false_ne_true
  | str i =>
    obtain ⟨t, rfl⟩ := rx
    cases y with
    | non => cases ry; exact PySem.EqNone.eq_str_none (fin_bl I q (by simp))
    | bl j => cases ry; exact PySem.EqMixed.eq_str_bool (fin_bl I q (by simp))
    | int j => obtain ⟨t', rfl⟩ := ry; exact PySem.EqMixed.eq_str_int (fin_bl I q (by simp))
    | str j => obtain ⟨t', rfl⟩ := ry; exact eq_str (fin_bl I q dec_str)
    | _ => exact absurd (show false = true from hs) Bool.false_ne_true
  | byt i =>
    obtain ⟨t, rfl⟩ := rx
    cases y with
    | byt j => obtain ⟨t', rfl⟩ := ry; exact W.eq_bytes (fin_bl I q dec_byt)
    | _ => exact absurd (show false = true from hs) Bool.false_ne_true
  | _ => cases y <;> exact absurd (show false = true from hs) Bool.false_ne_true
theorem op_ne : OpR X (compareOp .NotEq) rNe := by
  intro pins s σ H x y v u Q I rx ry h
  obtain ⟨hs, q⟩ := h
  cases x with
  | non =>
    cases rx
    cases y with
    | non => cases ry; exact PySem.EqNone.ne_none_none (fin_bl I q (by simp))
    | bl j => cases ry; exact PySem.EqNone.ne_none_bool (fin_bl I q (by simp))
    | int j => obtain ⟨t', rfl⟩ := ry; exact PySem.EqNone.ne_none_int (fin_bl I q (by simp))
    | str j => obtain ⟨t', rfl⟩ := ry; exact PySem.EqNone.ne_none_str (fin_bl I q (by simp))
    | _ => exact absurd (show false = true from hs) Bool.false_ne_true
  | bl i =>
    cases rx
    cases y with
    | non => cases ry; exact PySem.EqNone.ne_bool_none (fin_bl I q (by simp))
    | bl j => cases ry; exact ne_bool (fin_bl I q (congrArg not dec_bl))
    | str j => obtain ⟨t', rfl⟩ := ry; exact PySem.EqMixed.ne_bool_str (fin_bl I q (by simp))
    | _ => exact absurd (show false = true from hs) Bool.false_ne_true
  | int i =>
    obtain ⟨t, rfl⟩ := rx
    cases y with
    | non => cases ry; exact PySem.EqNone.ne_int_none (fin_bl I q (by simp))
    | int j => obtain ⟨t', rfl⟩ := ry; exact ne_int (fin_bl I q (congrArg not dec_int))
    | str j => obtain ⟨t', rfl⟩ := ry; exact PySem.EqMixed.ne_int_str (fin_bl I q (by simp))
    | _ => exact absurd (show false = true from hs) Bool.false_ne_true
  | str i =>
    obtain ⟨t, rfl⟩ := rx
    cases y with
    | non => cases ry; exact PySem.EqNone.ne_str_none (fin_bl I q (by simp))
    | bl j => cases ry; exact PySem.EqMixed.ne_str_bool (fin_bl I q (by simp))
    | int j => obtain ⟨t', rfl⟩ := ry; exact PySem.EqMixed.ne_str_int (fin_bl I q (by simp))
    | str j => obtain ⟨t', rfl⟩ := ry; exact ne_str (fin_bl I q (congrArg not dec_str))
    | _ => exact absurd (show false = true from hs) Bool.false_ne_true
  | byt i =>
    obtain ⟨t, rfl⟩ := rx
    cases y with
    | byt j => obtain ⟨t', rfl⟩ := ry; exact W.ne_bytes (fin_bl I q (congrArg not dec_byt))
    | _ => exact absurd (show false = true from hs) Bool.false_ne_true
  | _ => cases y <;> exact absurd (show false = true from hs) Bool.false_ne_true
theorem op_lt : OpR X (compareOp .Lt) (rI0 fun i j => .bl (decide (i < j))) := opB0 fun _ _ _ _ _ _ _ q => lt_int q
theorem op_le : OpR X (compareOp .LtE) (rI0 fun i j => .bl (decide (i <= j))) := opB0 fun _ _ _ _ _ _ _ q => le_int q
theorem op_gt : OpR X (compareOp .Gt) (rI0 fun i j => .bl (decide (j < i))) := opB0 fun _ _ _ _ _ _ _ q => gt_int q
theorem op_ge : OpR X (compareOp .GtE) (rI0 fun i j => .bl (decide (j <= i))) := opB0 fun _ _ _ _ _ _ _ q => ge_int q
theorem nomark (b : Expr) {op : CmpOp} (h : op ≠ .In := by decide) (h2 : op ≠ .NotIn := by decide) : behindInMarks op b = false := by
  have e1 : (op == CmpOp.In) = false := by cases op <;> first | rfl | exact absurd rfl h
  have e2 : (op == CmpOp.NotIn) = false := by cases op <;> first | rfl | exact absurd rfl h2
  cases b <;> simp [behindInMarks, e1, e2]
theorem pe_cmpR {op : CmpOp} {r : R2} (ho : OpR X (compareOp op) r) (ha : PE X a ta) (hb : PE X b tb) (hm : behindInMarks op b = false) : PE X (.Compare a [op] [b] pos) (tOp r ta tb) := by
  intro pins s σ H Q I h
  exact wpAny_Compare1 (binT ha hb I h fun v u s2 x y H2 I2 rx ry q => ho pins s2 σ H2 x y v u Q I2 rx ry q) hm
def tTest (t : TE) : TT := fun σ H Q => t σ H fun x H' => ∃ k, x = .bl k /\ Q k H'
theorem pt_cmpR {op : CmpOp} {r : R2} (ho : OpR X (compareOp op) r) (ha : PE X a ta) (hb : PE X b tb) (hm : behindInMarks op b = false) : PT X (.Compare a [op] [b] pos) (tTest (tOp r ta tb)) := by
  intro pins s σ H Q I h
  refine wpAny_isTrue_Compare1 (thn (ha pins s σ H _ I h) fun v s1 ⟨x, H1, I1, r1, q1⟩ => thn (hb pins s1 σ H1 _ I1 q1) fun u s2 ⟨y, H2, I2, r2, q2⟩ =>
    thn (ho pins s2 σ H2 x y v u _ I2 r1 r2 q2) fun c s3 ⟨z, H3, I3, r3, k, e, q3⟩ => ?_) hm
  subst e
  cases r3
  exact wpAny_truthy_bool ⟨H3, I3, q3⟩
def tChain (r r' : R2) (ta tb tc : TE) : TE := fun σ H Q => ta σ H fun x H1 => tb σ H1 fun y H2 => r x y H2 fun z H3 => ∃ k, z = .bl k ∧
  (if k = true then tc σ H3 fun w' H4 => r' y w' H4 Q else Q (.bl false) H3)
theorem pe_chain {op op' : CmpOp} {r r' : R2} (ho : OpR X (compareOp op) r) (ho' : OpR X (compareOp op') r') (ha : PE X a ta) (hb : PE X b tb) (hc : PE X c tc)
    (hm : lastMarks [op, op'] [b, c] = false := by with_unfolding_all rfl) : PE X (.Compare a [op, op'] [b, c] pos) (tChain r r' ta tb tc) := by
  intro pins s σ H Q I h
  refine Compare_chain (thn (ha pins s σ H _ I h) fun v s1 ⟨x, H1, I1, r1, q1⟩ => chain_link (thn (hb pins s1 σ H1 _ I1 q1) fun u s2 ⟨y, H2, I2, r2, q2⟩ =>
    thn (ho pins s2 σ H2 x y v u _ I2 r1 r2 q2) fun d s3 ⟨z, H3, I3, r3, k, e, q3⟩ => ?_)) hm
  subst e
  cases r3
  refine wpAny_truthy_bool ?_
  cases k with
  | false => exact ite_ff ⟨.bl false, H3, I3, rfl, q3⟩
  | true => exact ite_tt (chain_last (thn (hc pins s3 σ H3 _ I3 q3) fun w' s4 ⟨z', H4, I4, r4, q4⟩ => ho' pins s4 σ H4 y z' u w' Q I4 r2 r4 q4))
theorem pt_chain {op op' : CmpOp} {r r' : R2} (ho : OpR X (compareOp op) r) (ho' : OpR X (compareOp op') r') (ha : PE X a ta) (hb : PE X b tb) (hc : PE X c tc)
    (hm : lastMarks [op, op'] [b, c] = false := by with_unfolding_all rfl) : PT X (.Compare a [op, op'] [b, c] pos) (tTest (tChain r r' ta tb tc)) := by
  intro pins s σ H Q I h
  refine isTrue_chain (thn (ha pins s σ H _ I h) fun v s1 ⟨x, H1, I1, r1, q1⟩ => test_link (thn (hb pins s1 σ H1 _ I1 q1) fun u s2 ⟨y, H2, I2, r2, q2⟩ =>
    thn (ho pins s2 σ H2 x y v u _ I2 r1 r2 q2) fun d s3 ⟨z, H3, I3, r3, k, e, q3⟩ => ?_)) hm
  subst e
  cases r3
  refine wpAny_truthy_bool ?_
  cases k with
  | false =>
    obtain ⟨k', e', q'⟩ := q3
    cases e'
    exact ite_ff ⟨H3, I3, q'⟩
  | true =>
    refine ite_tt (test_last (thn (hc pins s3 σ H3 _ I3 q3) fun w' s4 ⟨z', H4, I4, r4, q4⟩ => thn (ho' pins s4 σ H4 y z' u w' _ I4 r2 r4 q4) fun d' s5 ⟨z2, H5, I5, r5, k2, e2, q5⟩ => ?_))
    subst e2
    cases r5
    exact wpAny_truthy_bool ⟨H5, I5, q5⟩
theorem line63 : (sizeLine : Nat) < 2 ^ 63 := by rw [sizeLine_eq]; decide
theorem vals1 {x : V} {us : List Value} (r : Vals [x] us) : ∃ u, us = [u] /\ RelV x u := by
  cases r with
  | cons r1 r2 => cases r2; exact ⟨_, rfl, r1⟩
theorem vals2 {x y : V} {us : List Value} (r : Vals [x, y] us) : ∃ u w', us = [u, w'] /\ RelV x u /\ RelV y w' := by
  cases r with
  | cons r1 r2 =>
    cases r2 with
    | cons r3 r4 => cases r4; exact ⟨_, _, rfl, r1, r3⟩
theorem call_min2 (hc : X.calm = true) : CallR X (.builtin "min") (fun xs H Q => ∃ i j, xs = [.int i, .int j] /\ Q (.int (if j < i then j else i)) H) := by
  intro pins s σ H xs us Q I r h
  obtain ⟨i, j, rfl, q⟩ := h
  obtain ⟨u, w', rfl, ⟨t, rfl⟩, ⟨t', rfl⟩⟩ := vals2 r
  refine min_two_ints (I.ok.hd hc) fun h' tk k => ⟨_, H, I.kept k, ?_, q⟩
  by_cases hj : j < i
  . rw [if_pos hj, if_pos hj]; exact ⟨_, rfl⟩
  . rw [if_neg hj, if_neg hj]; exact ⟨_, rfl⟩
theorem call_int1 : CallR X (.type "int") (fun xs H Q => (∃ i, xs = [.int i] /\ Q (.int i) H) \/ ∃ k, xs = [.bl k] /\ Q (.int (if k then 1 else 0)) H) := by
  intro pins s σ H xs us Q I r h
  rcases h with ⟨i, rfl, q⟩ | ⟨k, rfl, q⟩
  . obtain ⟨u, rfl, t, rfl⟩ := vals1 r
    exact call_int_int ⟨.int i, H, I, ⟨_, rfl⟩, q⟩
  . obtain ⟨u, rfl, r1⟩ := vals1 r
    cases r1
    exact call_int_bool ⟨.int (if k then 1 else 0), H, I.tok _, ⟨_, rfl⟩, q⟩
end
end L2
namespace L2
open PySem PySem.Spec PyProof.Rows
structure ObjM (h : Heap) (x dx C : Addr) (mA : Str -> Option Value) : Prop where
  obj : h.get? x = some (W.instObj C dx)
  ns : h.Ns1 dx mA
  ne : dx ≠ x
theorem lookIn_ns {h : Heap} {dx : Addr} {mA : Str -> Option Value} (n : h.Ns1 dx mA) : ∃ od, h.get? dx = some od /\ ∀ name, W.lookIn name od = some (mA name) := by
  obtain ⟨o, es, ep, ho, hd, hk, _, hm⟩ := n
  refine ⟨o, ho, fun name => ?_⟩
  have e := hm name
  unfold nsFind findBy at e
  rw [<- Array.find?_toList] at e
  unfold W.lookIn
  rw [hd]
  dsimp only
  split
  . rename_i y q
    rw [q] at e
    exact congrArg some e
  . rename_i q
    rw [q] at e
    have a : es.toList.any (·.refKey) = false := by
      rw [List.any_eq_false]
      intro y hy
      obtain ⟨z, t, hkey⟩ := hk y (Array.mem_toList_iff.mp hy)
      simp [DictEntry.refKey, hkey]
    have a' : ¬ es.toList.any (·.refKey) = true := by rw [a]; exact Bool.false_ne_true
    rw [if_neg a']
    exact congrArg some e
theorem ObjM.look {h : Heap} {x dx C : Addr} {mA : Str -> Option Value} (I : ObjM h x dx C mA) : ∃ od, W.InstAt h x (W.instObj C dx) C (some od) /\ ∀ name, W.lookIn name od = some (mA name) :=
  let ⟨od, ho, hl⟩ := lookIn_ns I.ns
  ⟨od, ⟨I.obj, rfl, rfl, ho⟩, hl⟩
section
variable {prog : Program} {w : World} {A : Around} {E : Value -> Shared -> Prop} {s : Shared} {K : W.Frag} {x dx C f : Addr} {mA : Str -> Option Value} {name : Str} {v : Value}
end
theorem RelO.none_of {o : Option Value} (r : RelO none o) : o = none := by
  cases o with
  | none => rfl
  | some u => exact (show False from r).elim
section
variable {P : Program} {w : World} {H H' : Hp} {h h' : Heap} {a C dx : Addr} {fs fs' : List (Str × V)}
theorem ins_get (hok : HOk P w H h) (e : H a = some (.ins C dx fs)) : ∃ mA, ObjM h a dx C mA /\ (∀ f, RelO (fs.lookup f) (mA f)) /\ PySem.Within mA (fs.map (·.1)) /\ fs.length <= 1000 /\ H dx = some (.own a) := by
  obtain ⟨d, z, ne, ob, mA, n, r, q⟩ := (show ObjOk P w H h a (.ins C dx fs) from hok a _ e)
  exact ⟨mA, ⟨ob, n, ne⟩, r, q, z, d⟩
end
structure Cls (K : W.Frag) (C : Addr) : Prop where
  pg : W.plainGet K C Str.empty = true
  hd : W.hasDictIn K C = true
  po : W.plainOver K C = true
  sa : W.findIn K (.ref C) "__setattr__" = some (some (.builtin "object.__setattr__"))
theorem Cls.get {K : W.Frag} {C : Addr} (c : Cls K C) (f : Str) : W.plainGet K C f = true := c.pg
structure Con (K : W.Frag) (C : Addr) (f : Str) (v : V) (u : Value) : Prop where
  at_ : W.findIn K (.ref C) f = some (some u)
  rel : RelV v u
  get : W.specialIn K u "__get__" = some none
  cp : W.copiedNames.contains f = false
structure Meth (K : W.Frag) (C : Addr) (m : Str) (f : Addr) : Prop where
  at_ : W.findIn K (.ref C) m = some (some (.ref f))
  fn : W.isFn K (.ref f) = true
  kp : W.keepIn K (.ref f) = true
section
variable {X : Cx} {pins : List (Addr × Obj)} {σ : St} {H : Hp} {s : Shared} {a C dx : Addr} {fs : List (Str × V)} {f : Str} {v : V} {A : Around} {E : Value -> Shared -> Prop}
end
section
variable {X : Cx} {o e value : Expr} {f : Str} {pos pos' tpos : Pos} {ta tv : TE}
end
section
variable {X : Cx} {pins : List (Addr × Obj)} {σ : St} {H : Hp} {s : Shared} {A : Around} {E : Value -> Shared -> Prop} {Q : Value -> Shared -> Prop} {c : Value} {b : Bool}
inductive TyOf (K : W.Frag) (H : Hp) : V -> Value -> Prop where
  | non : TyOf K H .non (.type "NoneType")
  | bl (x : Bool) : TyOf K H (.bl x) (.type "bool")
  | int (i : Int) : TyOf K H (.int i) (.type "int")
  | str (x : Str) : TyOf K H (.str x) (.type "str")
  | flt (x : UInt64) : TyOf K H (.flt x) (.type "float")
  | lst {a : Addr} {xs : List V} (e : H a = some (.lst xs)) : TyOf K H (.ref a) (.type "list")
  | frz {a : Addr} {o : Obj} {xs : List V} (e : H a = some (.frz o (.lst xs))) : TyOf K H (.ref a) (.type "list")
  | tup {a : Addr} {xs : List V} (e : H a = some (.tup xs)) : TyOf K H (.ref a) (.type "tuple")
  | dK {a : Addr} {kvs : List (Key × V)} (e : H a = some (.dK kvs)) : TyOf K H (.ref a) (.type "dict")
  | dT {a : Addr} {kvs : List (List Key × V)} (e : H a = some (.dT kvs)) : TyOf K H (.ref a) (.type "dict")
  | ins {a C dx : Addr} {fs : List (Str × V)} (e : H a = some (.ins C dx fs)) (cl : Cls K C) (ha : W.findIn K (.ref C) "__class__" = some (some (.builtin "object.__class__")))
      (hn : W.specialIn K (.builtin "object.__class__") "__get__" = some (some (.builtin "getset_descriptor.__get__"))) (htk : W.takesIn K (.builtin "object.__class__") = some true)
      (hm : W.mroIn K C (.type "object") = some true) : TyOf K H (.ref a) (.ref C)
theorem isinst_ok {x : V} {u t : Value} (I : Inv X pins σ H s) (rx : RelV x u) (ty : TyOf X.K H x t) (e : W.kitOne X.K t c = some b) (h : ∀ tk, Q (.bool b) { s with toks := tk }) :
    wpAny (model X.prog X.w) A (call (.builtin "isinstance") [u, c]) Q E s := by
  cases ty with
  | non => cases (show u = Value.none from rx); exact W.kia_one W.kitx_none I.kIn True.intro e (fun z => nomatch z) h
  | bl y => cases (show u = Value.bool y from rx); exact W.kia_one W.kitx_bool I.kIn True.intro e (fun z => nomatch z) h
  | int i => obtain ⟨t, q⟩ := (show ∃ t, u = Value.int i t from rx); cases q; exact W.kia_one W.kitx_int I.kIn True.intro e (fun z => nomatch z) h
  | str y => obtain ⟨t, q⟩ := (show ∃ t, u = Value.str y t from rx); cases q; exact W.kia_one W.kitx_str I.kIn True.intro e (fun z => nomatch z) h
  | flt y => obtain ⟨t, q⟩ := (show ∃ t, u = Value.float y t from rx); cases q; exact W.kia_one W.kitx_float I.kIn True.intro e (fun z => nomatch z) h
  | @lst a xs ea =>
    cases (show u = Value.ref a from rx)
    obtain ⟨_, _, n, _, h1⟩ := (show ObjOk X.prog X.w H s.heap a (.lst xs) from I.hok a _ ea)
    exact W.kia_one W.kitx_list I.kIn ⟨_, h1, rfl⟩ e (fun z => nomatch z) h
  | @frz a ob xs ea =>
    cases (show u = Value.ref a from rx)
    obtain ⟨_, _, _, n, _, h1⟩ := (show ObjOk X.prog X.w H s.heap a (.frz ob (.lst xs)) from I.hok a _ ea)
    exact W.kia_one W.kitx_list I.kIn ⟨_, h1, rfl⟩ e (fun z => nomatch z) h
  | @tup a xs ea =>
    cases (show u = Value.ref a from rx)
    obtain ⟨_, _, _, p⟩ := (show ObjOk X.prog X.w H s.heap a (.tup xs) from I.hok a _ ea)
    obtain ⟨o, h1, h2, _⟩ := p
    exact W.kia_one W.kitx_tuple I.kIn ⟨o, h1, h2⟩ e (fun z => nomatch z) h
  | @dK a kvs ea =>
    cases (show u = Value.ref a from rx)
    obtain ⟨_, _, vs, _, p⟩ := (show ObjOk X.prog X.w H s.heap a (.dK kvs) from I.hok a _ ea)
    obtain ⟨o, es, ep, h1, h2, _⟩ := p
    exact W.kia_one W.kitx_dict I.kIn ⟨o, h1, h2.1⟩ e (fun z => nomatch z) h
  | @dT a kvs ea =>
    cases (show u = Value.ref a from rx)
    obtain ⟨_, _, xs, _, o, es, ep, h1, h2, _⟩ := (show ObjOk X.prog X.w H s.heap a (.dT kvs) from I.hok a _ ea)
    exact W.kia_one W.kitx_dict I.kIn ⟨o, h1, h2.1⟩ e (fun z => nomatch z) h
  | @ins a C dx fs ea cl ha hn htk hm =>
    cases (show u = Value.ref a from rx)
    obtain ⟨mA, O, _⟩ := ins_get I.hok ea
    obtain ⟨od, J, _⟩ := O.look
    exact W.kia_one (W.kitx_own (cl.get _) cl.hd ha hn htk hm) I.kIn J e (fun z => nomatch z) h
end
end L2
namespace L2
open PySem PySem.Spec PyProof.Rows
structure Room (k : Nat) (A : Around) : Prop where
  hd : A.handled = none
  dp : A.depth + 3 * k + 5 < recursionLimit
  un : A.units + 16 * k + 200 < cLine
theorem Room.deeper {k : Nat} {A : Around} (r : Room (k + 1) A) (env : Env) : Room k (A.deeper env) :=
  ⟨r.hd, by have := r.dp; show A.depth + 1 + 3 * k + 5 < _; omega, by have := r.un; show A.units + 3 + 16 * k + 200 < _; omega⟩
theorem Room.in1 {k : Nat} {A : Around} (r : Room (k + 1) A) : Room k A.in1 :=
  ⟨r.hd, by have := r.dp; show A.depth + 3 * k + 5 < _; omega, by have := r.un; show A.units + 1 + 16 * k + 200 < _; omega⟩
theorem Room.depth {k : Nat} {A : Around} (r : Room k A) : A.depth < recursionLimit := by have := r.dp; omega
theorem Room.units {k : Nat} {A : Around} (r : Room k A) : A.units + 64 < cLine := by have := r.un; omega
def tNil : TA := fun _ H Q => Q [] H
def tCons (ta : TE) (tr : TA) : TA := fun σ H Q => ta σ H fun x H1 => tr σ H1 fun xs H2 => Q (x :: xs) H2
section
variable {X : Cx} {e : Expr} {es : List Expr} {te : TE} {t : TA} {pos : Pos}
theorem pa_nil : PA X [] tNil := fun _ _ _ _ H Q I h => Calls.spliced_nil ⟨[], H, I, .nil, h⟩
theorem pa_cons (ha : PE X e te) (hr : PA X es t) (hs : starEach (e :: es) X.env = (false, eval e X.env) :: starEach es X.env := by rfl) : PA X (e :: es) (tCons te t) := by
  intro pos pins s σ H Q I h
  rw [hs]
  show wpAny _ _ (spliced ((false, eval e X.env) :: backTo pos (starEach es X.env))) _ _ s
  refine Calls.spliced_cons (thn (ha pins s σ H _ I h) fun u s1 ⟨x, H1, I1, r1, q1⟩ => ?_)
  exact thn (hr pos pins s1 σ H1 _ I1 q1) fun us s2 ⟨xs, H2, I2, r2, q2⟩ => ⟨x :: xs, H2, I2, .cons r1 r2, q2⟩
def tTup (t : TA) : TE := fun σ H Q => t σ H fun xs H1 => xs.length <= sizeLine /\ ∀ p, H1 p = none -> Q (.ref p) (upd H1 p (.tup xs))
def tLst (t : TA) : TE := fun σ H Q => t σ H fun xs H1 => xs.length <= sizeLine /\ ∀ p, H1 p = none -> Q (.ref p) (upd H1 p (.lst xs))
theorem pe_tup {x1} (h : PA X es t) : PE X (.Tuple es x1 pos) (tTup t) := by
  intro pins s σ H Q I hq
  refine wpAny_Tuple_spliced (thn (h pos pins s σ H _ I hq) fun us s1 ⟨xs, H1, I1, r, z, q⟩ => ⟨by rw [<- r.length]; exact z, ?_⟩)
  have hf : H1 s1.heap.objs.size = none := I1.hok.fresh (Nat.le_refl _)
  refine ⟨.ref s1.heap.objs.size, upd H1 s1.heap.objs.size (.tup xs), I1.laid (t' := s1.toks) (fun b u e => Heap.get?_push_of_some _ e) (Nat.le_refl _) ?_, rfl, q _ hf⟩
  exact ⟨z, us, r, ⟨_, Heap.get?_push_size _ rfl, rfl, _, rfl⟩⟩
theorem pe_lst (h : PA X es t) : PE X (.List es pos) (tLst t) := by
  intro pins s σ H Q I hq
  refine wpAny_List_spliced (thn (h pos pins s σ H _ I hq) fun us s1 ⟨xs, H1, I1, r, z, q⟩ => ⟨by rw [<- r.length]; exact z, ?_⟩)
  have hf : H1 s1.heap.objs.size = none := I1.hok.fresh (Nat.le_refl _)
  refine ⟨.ref s1.heap.objs.size, upd H1 s1.heap.objs.size (.lst xs), I1.laid (t' := s1.toks) (fun b u e => Heap.get?_push_of_some _ e) (Nat.le_refl _) ?_, rfl, q _ hf⟩
  exact ⟨z, us, 0, r, Heap.get?_push_size _ rfl⟩
end
abbrev Sp := List V -> Hp -> VK -> XK -> Prop
abbrev CXT := List Env -> Hp -> Shared -> XK -> Value -> Shared -> Prop
structure Env0 (P : Program) (w : World) (K : W.Frag) (mg : Str -> Option Value) (base : Heap) (A : Around) (outer : List Env) (s : Shared) (H : Hp) : Prop where
  frames : A.frames = some outer
  mod : Mod K mg base
  bs : ∀ b o, base.get? b = some o -> s.heap.get? b = some o /\ H b = none
  bsz : base.objs.size <= s.heap.objs.size
  funs : s.heap.FunFrames base outer
  frf : ∀ b ∈ frs outer, H b = none
  hok : HOk P w H s.heap
  bare : AllBare s.gens
def CE (outer : List Env) (P : Program) (w : World) (H : Hp) (s : Shared) (Q : VK) (u : Value) (s' : Shared) : Prop :=
  ∃ v H', s'.os = s.os /\ AllBare s'.gens /\ Un (frs outer) [] H H' s.heap s'.heap /\ HOk P w H' s'.heap /\ RelV v u /\ Q v H'
def CR (CX : CXT) (outer : List Env) (P : Program) (w : World) (H : Hp) (s : Shared) (Q : VK) (E : XK) (r : Result) (s' : Shared) : Prop :=
  match r with
  | .ok (.ret u) => CE outer P w H s Q u s'
  | .ok _ => False
  | .error e => CX outer H s E e s'
structure FnOk (P : Program) (w : World) (K : W.Frag) (mg : Str -> Option Value) (base : Heap) (CX : CXT) (k : Nat) (f : Addr) (fd : FuncData) (ps : List Str) (sp : Sp) : Prop where
  len : ∀ vs H Q E, sp vs H Q E -> vs.length = ps.length
  run : ∀ (A : Around) (outer : List Env) (s : Shared) (H : Hp) (args : Args) (us : List Value) (vs : List V) (Q : VK) (E : XK), Room k A -> Env0 P w K mg base A outer s H -> BindsTo s fd args (ps.zip us) -> Vals vs us -> sp vs H Q E →
    codeAny (model P w) A (.call (.ref f) args) (CR CX outer P w H s Q E) s
theorem FnOk.imp {P : Program} {w : World} {K : W.Frag} {mg : Str -> Option Value} {base : Heap} {CX : CXT} {k : Nat} {f : Addr} {fd : FuncData} {ps : List Str} {sp sp' : Sp} (F : FnOk P w K mg base CX k f fd ps sp)
    (h : ∀ vs H Q E, sp' vs H Q E -> sp vs H Q E) : FnOk P w K mg base CX k f fd ps sp' :=
  ⟨fun vs H Q E q => F.len vs H Q E (h _ _ _ _ q), fun A outer s H args us vs Q E hr he hb hv hs => F.run A outer s H args us vs Q E hr he hb hv (h _ _ _ _ hs)⟩
theorem Env0.in1 {P : Program} {w : World} {K : W.Frag} {mg : Str -> Option Value} {base : Heap} {A : Around} {outer : List Env} {s : Shared} {H : Hp} (e : Env0 P w K mg base A outer s H) :
    Env0 P w K mg base A.in1 outer s H := ⟨e.frames, e.mod, e.bs, e.bsz, e.funs, e.frf, e.hok, e.bare⟩
section
variable {X : Cx} {pins : List (Addr × Obj)} {σ : St} {H : Hp} {s s' : Shared}
theorem Inv.env0 (I : Inv X pins σ H s) : Env0 X.prog X.w X.K X.mg X.base X.A X.stack s H :=
  ⟨I.ok.frames, I.ok.mod, I.bs, Nat.le_trans I.ok.bsz I.sz, I.stack, I.stkFree, I.hok, I.bare⟩
theorem Inv.after {Q : VK} {u : Value} (I : Inv X pins σ H s) (h : CE X.stack X.prog X.w H s Q u s') : EP X pins σ Q u s' := by
  obtain ⟨v, H', os, bare, un, hok, r, q⟩ := h
  obtain ⟨hh, g, d, t, os'⟩ := s'
  obtain rfl : os' = s.os := os
  exact ⟨v, H', I.call (h' := hh) (g' := g) (d' := d) (t' := t) (ch := []) un hok bare (fun b z => absurd z (by simp)), r, q⟩
end
def tCall (sp : Sp) (dvs : List V) (E : XK) (t : TA) : TE := fun σ H Q => t σ H fun vs H1 => sp (vs ++ dvs) H1 Q E
def Binds (K : W.Frag) (fd : FuncData) (ps : List Str) (ds : List Value) : Prop :=
  ∀ (s : Shared) (us : List Value), K.In s.heap -> (us ++ ds).length = ps.length -> BindsTo s fd ⟨us, []⟩ (ps.zip (us ++ ds))
theorem Binds.all {K : W.Frag} {fd : FuncData} {ps : List Str} (h : ∀ us : List Value, us.length = ps.length -> bindArgs fd ⟨us, []⟩ = pure (ps.zip us)) : Binds K fd ps [] := fun s us _ hl => by
  rw [List.append_nil] at hl ⊢
  exact .of_eq (h us hl)
def Passes (CX : CXT) (X : Cx) (E : XK) : Prop := ∀ (pins : List (Addr × Obj)) (σ : St) (H : Hp) (s : Shared) (e : Value) (s' : Shared), Inv X pins σ H s -> CX X.stack H s E e s' -> X.xe e s'
section
variable {X : Cx} {CX : CXT} {k : Nat} {f C : Addr} {fd : FuncData} {ps : List Str} {sp : Sp} {dvs : List V} {ds : List Value} {E : XK} {x m : Str} {p pos apos : Pos} {e o : Expr} {es : List Expr} {ta : TE} {t : TA}
theorem run_fn {pins : List (Addr × Obj)} {σ : St} {H : Hp} {s : Shared} {Q : VK} {us : List Value} {vs : List V} (F : FnOk X.prog X.w X.K X.mg X.base CX k f fd ps sp) (hr : Room k X.A) (hb : Binds X.K fd ps ds) (hd : Vals dvs ds) (hx : Passes CX X E)
    (I : Inv X pins σ H s) (r : Vals vs us) (h : sp (vs ++ dvs) H Q E) : wpAny (model X.prog X.w) X.A (call (.ref f) us) (EP X pins σ Q) X.xe s := by
  have r2 : Vals (vs ++ dvs) (us ++ ds) := r.append hd
  have hl : (us ++ ds).length = ps.length := by rw [<- r2.length]; exact F.len _ _ _ _ h
  refine wpAny_call (codeAny_mono (F.run X.A X.stack s H ⟨us, []⟩ (us ++ ds) (vs ++ dvs) Q E hr I.env0 (hb s us I.kIn hl) r2 h) fun r s' hq => ?_)
  cases r with
  | error e => exact hx pins σ H s e s' I hq
  | ok fl =>
    cases fl with
    | ret u => exact I.after hq
    | next => exact False.elim hq
    | brk => exact False.elim hq
    | cont => exact False.elim hq
theorem pe_call (F : FnOk X.prog X.w X.K X.mg X.base CX k f fd ps sp) (hr : Room k X.A) (hg : Gl X x) (hm : X.mg x = some (.ref f)) (hk : W.keepIn X.K (.ref f) = true) (hb : Binds X.K fd ps ds) (hd : Vals dvs ds) (hx : Passes CX X E)
    (ha : PA X (e :: es) t) (hdb : (x == ("__debug__" : Str)) = false := by decide) (he : starEach (e :: es) X.env = (false, eval e X.env) :: starEach es X.env := by rfl) (hpl : (backTo pos (starEach es X.env)).any (·.1) = false := by rfl) :
    PE X (.Call (.Name x p) (e :: es) [] pos) (tCall sp dvs E t) := by
  intro pins s σ H Q I h
  refine wpAny_Call_Name_kw (ld_glob I hg hm ?_ hdb)
  refine W.callWith_K (h₀ := X.base) I.ok.mod.kin hk (thn (ha pos pins s σ H _ I h) fun us s1 ⟨vs, H1, I1, r, q⟩ => ⟨I1.kIn, ?_⟩) he hpl
  exact run_fn F hr hb hd hx I1 r q
structure Mk (K : W.Frag) (C f : Addr) : Prop where
  makes : W.makesIn K C = true
  init : W.findIn K (.ref C) "__init__" = some (some (.ref f))
  fn : W.isFn K (.ref f) = true
  kp : W.keepIn K (.ref C) = true
end
section
variable {X : Cx} {CX : CXT} {k : Nat} {f C : Addr} {fd : FuncData} {ps ks : List Str} {sp : Sp} {E : XK} {x m : Str} {p pos apos kpos : Pos} {e o : Expr} {es : List Expr} {kws : List Keyword} {te ta : TE} {t tk : TA} {nm : Option Str}
structure KBinds (K : W.Frag) (fd : FuncData) (ps ks : List Str) (g : List Value -> List Value -> List Value) (gV : List V -> List V -> List V) : Prop where
  to : ∀ (s : Shared) (us ws : List Value), K.In s.heap -> (g us ws).length = ps.length -> BindsTo s fd ⟨us, ks.zip ws⟩ (ps.zip (g us ws))
  rel : ∀ {vs : List V} {us : List Value} {zs : List V} {ws : List Value}, Vals vs us -> Vals zs ws -> Vals (gV vs zs) (g us ws)
variable {g : List Value -> List Value -> List Value} {gV : List V -> List V -> List V}
end
structure FnScope (N P : List Str) (sc : Scope) : Prop where
  kind : sc.kind = .function
  co : sc.isCoroutine = false
  gen : sc.isGenerator = false
  nd : N.Nodup
  pre : N.take P.length = P
  par : ∀ x ∈ P, sc.names.lookup x = some .local \/ sc.names.lookup x = some .cell
  nofree : ∀ y ∈ sc.names, y.2 ≠ .free
theorem bindL_out {kindOf : Str -> Option NameKind} {x : Str} : ∀ {binds : List (Str × Value)} {m : Str -> Option Value}, (∀ v, (x, v) ∉ binds) -> bindL kindOf binds m x = m x
  | [], _, _ => rfl
  | (n, v) :: r, m, h => by
    unfold bindL
    rw [bindL_out fun w hw => h w (List.mem_cons_of_mem _ hw)]
    split
    . have : x ≠ n := by rintro rfl; exact h v List.mem_cons_self
      simp [this]
    . rfl
theorem bindC_out {kindOf : Str -> Option NameKind} {x : Str} : ∀ {binds : List (Str × Value)} {m : Str -> Option Value}, (∀ v, (x, v) ∉ binds) -> bindC kindOf binds m x = m x
  | [], _, _ => rfl
  | (n, v) :: r, m, h => by
    unfold bindC
    rw [bindC_out fun w hw => h w (List.mem_cons_of_mem _ hw)]
    split
    . rfl
    . have : x ≠ n := by rintro rfl; exact h v List.mem_cons_self
      simp [this]
theorem bindL_get {kindOf : Str -> Option NameKind} {x : Str} {v : Value} : ∀ {P : List Str} {vs : List Value} {i : Nat} {m : Str -> Option Value}, P.Nodup -> P[i]? = some x -> vs[i]? = some v -> kindOf x = some .local →
    bindL kindOf (P.zip vs) m x = some v
  | [], _, _, _, _, h, _, _ => by simp at h
  | _ :: _, [], _, _, _, _, h, _ => by simp at h
  | p :: P, w :: vs, 0, m, nd, h1, h2, hk => by
    simp at h1 h2; subst h1; subst h2
    show bindL kindOf ((p, w) :: P.zip vs) m p = _
    unfold bindL
    rw [bindL_out fun v hv => (List.nodup_cons.mp nd).1 (List.of_mem_zip hv).1, if_pos hk]
    simp
  | p :: P, w :: vs, i + 1, m, nd, h1, h2, hk => by
    show bindL kindOf ((p, w) :: P.zip vs) m x = _
    unfold bindL
    exact bindL_get (i := i) (List.nodup_cons.mp nd).2 (by simpa using h1) (by simpa using h2) hk
theorem bindC_get {kindOf : Str -> Option NameKind} {x : Str} {v : Value} : ∀ {P : List Str} {vs : List Value} {i : Nat} {m : Str -> Option Value}, P.Nodup -> P[i]? = some x -> vs[i]? = some v -> kindOf x ≠ some .local →
    bindC kindOf (P.zip vs) m x = some v
  | [], _, _, _, _, h, _, _ => by simp at h
  | _ :: _, [], _, _, _, _, h, _ => by simp at h
  | p :: P, w :: vs, 0, m, nd, h1, h2, hk => by
    simp at h1 h2; subst h1; subst h2
    show bindC kindOf ((p, w) :: P.zip vs) m p = _
    unfold bindC
    rw [bindC_out fun v hv => (List.nodup_cons.mp nd).1 (List.of_mem_zip hv).1, if_neg hk]
    simp
  | p :: P, w :: vs, i + 1, m, nd, h1, h2, hk => by
    show bindC kindOf ((p, w) :: P.zip vs) m x = _
    unfold bindC
    exact bindC_get (i := i) (List.nodup_cons.mp nd).2 (by simpa using h1) (by simpa using h2) hk
def start (N : List Str) (vs : List V) : St := vs.map some ++ List.replicate (N.length - vs.length) none
def cxOf (CX : CXT) (P : Program) (w : World) (K : W.Frag) (mg : Str -> Option Value) (base : Heap) (N : List Str) (qual : Str) (scope : Scope) (f : Addr) (cd : Value) (A : Around) (outer : List Env) (s : Shared) (H : Hp) (E : XK) : Cx where
  prog := P
  w := w
  K := K
  mg := mg
  base := base
  A := A.deeper (envOfC qual scope s.heap.objs.size f cd)
  N := N
  s₀ := s
  H₀ := H
  env := envOfC qual scope s.heap.objs.size f cd
  outer := outer
  stack := envOfC qual scope s.heap.objs.size f cd :: outer
  ex := []
  calm := true
  fn := fun _ => true
  pn := []
  xe := fun e s' => wpAny (model P w) (A.deeper (envOfC qual scope s.heap.objs.size f cd)) (leaving (envOfC qual scope s.heap.objs.size f cd) e) (fun _ s'' => CX outer H s E e s'') (fun e' s'' => CX outer H s E e' s'') s'
theorem cell_has {sc : Scope} {n : Nat} {x : Str} (h : sc.names.lookup x = some .cell) : ∃ c, (cellsFrom n sc.names []).lookup x = some c := by
  have q := W.cellsFrom_some sc.names n [] (.inl h)
  exact Option.isSome_iff_exists.mp q
theorem inv_start {CX : CXT} {P : Program} {w : World} {K : W.Frag} {mg : Str -> Option Value} {base : Heap} {N ps : List Str} {qual : Str} {scope : Scope} {f : Addr} {cd : Value} {A : Around} {outer : List Env} {s s1 : Shared} {H : Hp} {E : XK} {us : List Value} {vs : List V}
    (S : FnScope N ps scope) (hd : A.handled = none) (e0 : Env0 P w K mg base A outer s H) (hl : vs.length = ps.length) (r : Vals vs us)
    (x : InCallC s s.heap.objs.size (bindL (envOfC qual scope s.heap.objs.size f cd).kindOf (ps.zip us) fun _ => none) (cellsFrom (s.heap.objs.size + 1) scope.names []) (bindC (envOfC qual scope s.heap.objs.size f cd).kindOf (ps.zip us) fun _ => none) s1) :
    Inv (cxOf CX P w K mg base N qual scope f cd A outer s H E) [] (start N vs) H s1 := by
  have hpl : ps.length <= N.length := by have := congrArg List.length S.pre; rw [List.length_take] at this; omega
  obtain ⟨h1, tk, rfl, hk⟩ := x.done
  have noA : ∀ b : Addr, b ∉ (cxOf CX P w K mg base N qual scope f cd A outer s H E).ex := fun b z => absurd (show b ∈ ([] : List Addr) from z) (by simp)
  refine ⟨⟨e0.mod, S.kind, rfl, rfl, Nat.le_refl _, fun y z c h1 h2 => ?_, fun y hy => ?_, fun y c _ h => ?_, fun _ => hd, Around.frames_deeper e0.frames, .inr ⟨rfl, rfl⟩, fun b z => absurd z (noA b), e0.bs, e0.bsz, fun b _ _ => noA b, fun b z => absurd z (noA b), e0.funs, e0.frf⟩,
    rfl, e0.bare, Un.kept hk, ⟨_, x.toInCall.ns, fun i y v h1 h2 h3 => ?_⟩, fun y c h => ⟨_, x.cell y c h⟩, e0.hok.fresh (Nat.le_refl _), fun y c h => ?_, fun p hp => absurd (show p ∈ ([] : List (Addr × Obj)) from hp) (by simp), e0.hok.kept hk, ?_⟩
  . exact name_of_addr x.apart (PySem.mem_of_lookup h1) (PySem.mem_of_lookup h2)
  . have hy : scope.names.lookup y = some .cell \/ scope.names.lookup y = some .free := hy
    rcases hy with hy | hy
    . exact cell_has hy
    . exact absurd rfl (S.nofree _ (PySem.mem_of_lookup hy))
  . exact Nat.le_of_lt (x.above y c (PySem.mem_of_lookup h))
  . have hi : i < vs.length := by
      unfold start at h2
      by_cases hi : i < vs.length
      . exact hi
      . rw [List.getElem?_append_right (by simpa using hi)] at h2
        rw [List.getElem?_replicate] at h2
        split at h2 <;> cases h2
    have ha : vs[i]? = some v := by
      unfold start at h2
      rw [List.getElem?_append_left (by simpa using hi), List.getElem?_map] at h2
      cases e : vs[i]? with
      | none => rw [e] at h2; cases h2
      | some a => rw [e] at h2; cases h2; rfl
    obtain ⟨u, hu, rv⟩ := r.get ha
    have hp : ps[i]? = some y := by
      rw [<- S.pre, List.getElem?_take_of_lt (by omega)]; exact h1
    have ndP : ps.Nodup := by rw [<- S.pre]; exact S.nd.sublist (List.take_sublist _ _)
    refine ⟨u, rv, ?_⟩
    rcases S.par y (List.mem_of_getElem? hp) with k | k
    . exact .inl ⟨k, bindL_get ndP hp hu k⟩
    . obtain ⟨c, e⟩ := cell_has (n := s.heap.objs.size + 1) k
      refine .inr ⟨.inl k, c, e, ?_⟩
      have q := x.cell y c e
      rw [bindC_get ndP hp hu (by show scope.names.lookup y ≠ _; rw [k]; decide)] at q
      exact q
  . exact e0.hok.fresh (Nat.le_of_lt (x.above y c (PySem.mem_of_lookup h)))
  . unfold start
    show _ = N.length
    rw [List.length_append, List.length_map, List.length_replicate]
    omega
theorem fn_of {CX : CXT} {P : Program} {w : World} {K : W.Frag} {mg : Str -> Option Value} {base : Heap} {k : Nat} {f : Addr} {name qual : Str} {params : Arguments} {body : List Stmt} {scope : Scope} {dV kV doc pm cdv ct oc : Value} {an od : Option Addr}
    {osl : Array (Option Value)} {N ps : List Str} {sp : Sp} (lk : K.lookup f = some ⟨oc, od, .func (W.fnOf name qual params body scope dV kV doc pm an cdv ct), osl⟩) (hcd : W.codeIn K cdv qual = true) (S : FnScope N ps scope)
    (len : ∀ vs H Q E, sp vs H Q E -> vs.length = ps.length)
    (hbody : ∀ (A : Around) (outer : List Env) (s : Shared) (H : Hp) (vs : List V) (Q : VK) (E : XK), Room k (A.deeper (envOfC qual scope s.heap.objs.size f cdv)) -> sp vs H Q E →
      ∃ t, PSs (cxOf CX P w K mg base N qual scope f cdv A outer s H E) body t /\ t { nx := fun _ H' => Q .non H', rt := Q } (start N vs) H) :
    FnOk P w K mg base CX (k + 1) f (W.fnOf name qual params body scope dV kV doc pm an cdv ct) ps sp := by
  refine ⟨len, fun A outer s H args us vs Q E hr e0 hb r hsp => ?_⟩
  have hl := len _ _ _ _ hsp
  have KX : K.In s.heap := e0.mod.kin.keeps fun b o e => (e0.bs b o e).1
  have lim : s.heap.NoLimit := e0.mod.nolimit.keeps fun b o e => (e0.bs b o e).1
  have hkind : ∀ y ∈ ps.zip us, scope.names.lookup y.1 = some .local \/ (scope.names.lookup y.1 = some .cell /\ ((cellsFrom (s.heap.objs.size + 1) scope.names []).lookup y.1).isSome = true) := fun ⟨n, v⟩ hy => by
    rcases S.par n (List.of_mem_zip hy).1 with q | q
    . exact .inl q
    . exact .inr ⟨q, W.cellsFrom_some _ _ _ (.inl q)⟩
  refine codeAny_call_function hr.depth (KX _ _ lk) rfl S.co S.gen rfl (W.codeRec_of KX hcd) (hb _ _ _ _ ?_)
  refine wpAny_newFunctionEnv_cells S.kind hkind fun env he s1 x => ?_
  subst he
  refine ⟨lim.keeps x.toInCall.keep, codeAny_func ?_⟩
  obtain ⟨t, ht, hq⟩ := hbody A outer s H vs Q E (hr.deeper _) hsp
  have I : Inv (cxOf CX P w K mg base N qual scope f cdv A outer s H E) [] (start N vs) H s1 := inv_start S hr.hd e0 hl r x
  refine wpAny_mono (ht [] s1 (start N vs) H _ I hq) (fun fl s' hs => ?_) fun e s' hs => hs
  have fin : ∀ {σ' : St} {H' : Hp} {v : V} {u : Value}, Inv (cxOf CX P w K mg base N qual scope f cdv A outer s H E) [] σ' H' s' -> RelV v u -> Q v H' -> CE outer P w H s Q u s' :=
    fun {σ' H' v u} J rv q => ⟨v, H', J.os, J.bare, J.base, J.hok, rv, q⟩
  cases fl with
  | ret u =>
    obtain ⟨v, σ', H', J, rv, q⟩ := hs
    exact fin J rv q
  | next =>
    obtain ⟨σ', H', J, q⟩ := hs
    exact fin (v := V.non) (u := Value.none) J rfl q
  | brk =>
    obtain ⟨_, _, _, q⟩ := hs
    exact False.elim q
  | cont =>
    obtain ⟨_, _, _, q⟩ := hs
    exact False.elim q
end L2
namespace L2
open PySem PySem.Spec PyProof.Rows
section
variable {X : Cx} {x : Str} {p pos : Pos} {e : Expr} {es : List Expr} {t : TA} {id T : String} {r : List V -> Hp -> VK -> Prop}
def tCB (r : List V -> Hp -> VK -> Prop) (t : TA) : TE := fun σ H Q => t σ H fun vs H1 => r vs H1 Q
theorem pe_callB (hc : CallR X (.builtin id) r) (hg : Gl X x) (hm : X.mg x = none) (hv : bootBuiltins x = some (.builtin id)) (ha : PA X (e :: es) t) (hn : x ≠ "__name__" := by decide) (hdb : (x == ("__debug__" : Str)) = false := by decide)
    (he : starEach (e :: es) X.env = (false, eval e X.env) :: starEach es X.env := by rfl) (hpl : (backTo pos (starEach es X.env)).any (·.1) = false := by rfl) : PE X (.Call (.Name x p) (e :: es) [] pos) (tCB r t) := by
  intro pins s σ H Q I h
  refine wpAny_Call_Name_kw (ld_blt I hg hm hv ?_ hn hdb)
  exact PyProof.Rows.callWith_builtin1 (thn (ha pos pins s σ H _ I h) fun us s1 ⟨vs, H1, I1, r1, q1⟩ => hc pins s1 σ H1 vs us Q I1 r1 q1) he hpl
theorem pe_callTy (hc : CallR X (.type T) r) (hg : Gl X x) (hm : X.mg x = none) (hv : bootBuiltins x = some (.type T)) (ha : PA X (e :: es) t) (hn : x ≠ "__name__" := by decide) (hdb : (x == ("__debug__" : Str)) = false := by decide)
    (he : starEach (e :: es) X.env = (false, eval e X.env) :: starEach es X.env := by rfl) (hpl : (backTo pos (starEach es X.env)).any (·.1) = false := by rfl) : PE X (.Call (.Name x p) (e :: es) [] pos) (tCB r t) := by
  intro pins s σ H Q I h
  refine wpAny_Call_Name_kw (ld_blt I hg hm hv ?_ hn hdb)
  exact PyProof.Rows.callWith_type1 (thn (ha pos pins s σ H _ I h) fun us s1 ⟨vs, H1, I1, r1, q1⟩ => hc pins s1 σ H1 vs us Q I1 r1 q1) he hpl
end
end L2
namespace HT
open PySem PyProof.Rows
section
open PySem.SeqAt
open PySem.AutoSeq1 (wpAny_loadPart')
open PySem.MeetsSeq PySem.MeetsSeq2 PySem.MeetsSeq3
end
section
variable {prog : Program} {w : World} {A : Around} {E : Value -> Shared -> Prop} {s : Shared}
theorem cat_tup {t b : Addr} {vs ws : List Value} {Q : Value -> Shared -> Prop} (ht : IsTup s.heap t vs.toArray) (hb : IsTup s.heap b ws.toArray) (hv : vs ≠ [])
    (h1 : ws = [] -> Q (.ref t) s) (h2 : ws ≠ [] -> Q (.ref s.heap.objs.size) { s with heap := s.heap.push { cls := .type "tuple", data := .seq (vs ++ ws).toArray } })
    (hsz : vs.length + ws.length <= sizeLine) : wpAny (model prog w) A (binaryOp .Add (.ref t) (.ref b)) Q E s := by
  obtain ⟨⟨cls, dd, data, sl⟩, ho, hc, n, hd⟩ := id ht
  obtain ⟨⟨cls2, dd2, data2, sl2⟩, ho2, hc2, n2, hd2⟩ := id hb
  simp only at hc hd hc2 hd2
  subst hc hd hc2 hd2
  have e : vs.toArray ++ ws.toArray = (vs ++ ws).toArray := by simp
  by_cases hw : ws = []
  . exact concat_meets ⟨_, ho, rfl⟩ ⟨_, ho2, rfl⟩ noFill_tuple_add seq_tuple_add PySem.F.slot_tuple_add PySem.F.entry_tuple_add (PySem.F.args_tuple_add_2 _ _)
      (tuple_addW1 t b vs.toArray ws.toArray n n2 dd dd2 sl sl2 (by simpa using hv) (by simp [hw])) ⟨ho, ho2, h1 hw⟩
  . refine concat_meets ⟨_, ho, rfl⟩ ⟨_, ho2, rfl⟩ noFill_tuple_add seq_tuple_add PySem.F.slot_tuple_add PySem.F.entry_tuple_add (PySem.F.args_tuple_add_2 _ _)
      (tuple_addW2 t b vs.toArray ws.toArray n n2 dd dd2 sl sl2 (by simpa using hv) (by simpa using hw) (by rw [List.size_toArray, List.size_toArray]; exact hsz)) ⟨ho, ho2, ?_⟩
    rw [e]
    exact h2 hw
def sIx (n d : Nat) : Option Int -> Nat
  | none => d
  | some v => if v < 0 then (v + (n : Int)).toNat else min v.toNat n
theorem sIx_none (n d : Nat) : sIx n d none = d := rfl
theorem sIx_nat (n d k : Nat) : sIx n d (some (k : Int)) = min k n := by
  show (if (k : Int) < 0 then ((k : Int) + (n : Int)).toNat else min (k : Int).toNat n) = min k n
  rw [if_neg (by omega), Int.toNat_natCast]
end
end HT
namespace L2
open PySem PySem.Spec PyProof.Rows
abbrev TO := St -> Hp -> (Option Int -> Hp -> Prop) -> Prop
def PO (X : Cx) (e : Option Expr) (t : TO) : Prop :=
  ∀ (pins : List (Addr × Obj)) (s : Shared) (σ : St) (H : Hp) (Q : Option Int -> Hp -> Prop), Inv X pins σ H s -> t σ H Q →
    wpAny (model X.prog X.w) X.A (evalPart e X.env) (fun u s' => ∃ o H', Inv X pins σ H' s' /\ IsPart u o /\ Q o H') X.xe s
def tNoPart : TO := fun _ H Q => Q none H
def tPart (t : TE) : TO := fun σ H Q => t σ H fun x H1 => ∃ i, x = .int i /\ Q (some i) H1
section
variable {X : Cx} {e : Expr} {te : TE} {lo hi : Option Expr} {tl th : TO} {pos p2 : Pos}
theorem po_none : PO X none tNoPart := by
  intro pins s σ H Q I h
  rw [evalPart_none]
  exact wpAny_pure ⟨none, H, I, .none, h⟩
theorem po_some (h : PE X e te) : PO X (some e) (tPart te) := by
  intro pins s σ H Q I hw
  rw [evalPart_some]
  refine thn (h pins s σ H _ I hw) fun u s1 ⟨x, H1, I1, r1, q1⟩ => ?_
  obtain ⟨i, rfl, q⟩ := q1
  obtain ⟨t, rfl⟩ := r1
  exact ⟨some i, H1, I1, .int i t, q⟩
def SlR (X : Cx) (r : V -> Option Int -> Option Int -> Hp -> VK -> Prop) : Prop :=
  ∀ (pins : List (Addr × Obj)) (s : Shared) (σ : St) (H : Hp) (x : V) (v vl vu : Value) (lo hi : Option Int) (sl : Addr) (Q : VK), Inv X pins σ H s -> RelV x v -> s.heap.IsSliceOf sl vl vu .none -> IsPart vl lo -> IsPart vu hi -> r x lo hi H Q →
    ∃ T id, typeLookup (.type T) "__getitem__" = pure (some (.builtin id)) /\ s.TypeIs v T /\ wpAny (model X.prog X.w) X.A (getItem v (.ref sl)) (EP X pins σ Q) X.xe s
def tSl (r : V -> Option Int -> Option Int -> Hp -> VK -> Prop) (te : TE) (tl th : TO) : TE := fun σ H Q => te σ H fun x H1 => tl σ H1 fun l H2 => th σ H2 fun u H3 => r x l u H3 Q
theorem pe_slice {r : V -> Option Int -> Option Int -> Hp -> VK -> Prop} (hr : SlR X r) (he : PE X e te) (hl : PO X lo tl) (hu : PO X hi th) : PE X (.Subscript e (.Slice lo hi none p2) pos) (tSl r te tl th) := by
  intro pins s σ H Q I h
  refine Subscript_ (thn (he pins s σ H _ I h) fun v s1 ⟨x, H1, I1, r1, q1⟩ => ?_)
  refine wpAny_Slice (thn (hl pins s1 σ H1 _ I1 q1) fun vl s2 ⟨l, H2, I2, pl, q2⟩ => thn (hu pins s2 σ H2 _ I2 q2) fun vu s3 ⟨u, H3, I3, pu, q3⟩ => ?_)
  rw [evalPart_none]
  refine wpAny_pure ?_
  have I4 : Inv X pins σ H3 { s3 with heap := s3.heap.push { cls := .type "slice", data := .fields #[vl, vu, .none] } } := I3.kept (t' := s3.toks) fun b ob q => Heap.get?_push_of_some _ q
  obtain ⟨T, id, hT, ht, hg⟩ := hr pins { s3 with heap := s3.heap.push { cls := .type "slice", data := .fields #[vl, vu, .none] } } σ H3 x v vl vu l u s3.heap.objs.size Q I4 r1 (Heap.IsSliceOf.new ..) pl pu q3
  show wpAny (model X.prog X.w) X.A (subscriptTail e (.Slice lo hi none p2) v (.ref s3.heap.objs.size)) (EP X pins σ Q) X.xe { s3 with heap := s3.heap.push { cls := .type "slice", data := .fields #[vl, vu, .none] } }
  exact tail_any (ops := [.ref s3.heap.objs.size, v]) ht hT hg (by with_unfolding_all rfl)
def cutV (xs : List V) (lo hi : Option Int) : List V := (xs.drop (HT.sIx xs.length 0 lo)).take (HT.sIx xs.length xs.length hi - HT.sIx xs.length 0 lo)
theorem cutV_length (xs : List V) (lo hi : Option Int) : (cutV xs lo hi).length <= xs.length := by
  unfold cutV
  rw [List.length_take, List.length_drop]
  omega
def rCatT (K : W.Frag) : R2 := fun x y H Q => ∃ a b xs ys, x = .ref a /\ y = .ref b /\ SqT K H a xs /\ SqT K H b ys /\ xs ≠ [] /\ xs.length + ys.length <= sizeLine ∧
  (ys = [] -> Q (.ref a) H) /\ (ys ≠ [] -> ∀ p, H p = none -> Q (.ref p) (upd H p (.tup (xs ++ ys))))
theorem Vals.nil_iff {xs : List V} {us : List Value} (r : Vals xs us) : us = [] ↔ xs = [] := by
  cases r with
  | nil => simp
  | cons _ _ => simp
theorem op_catT : OpR X (binaryOp .Add) (rCatT X.K) := by
  intro pins s σ H x y v u Q I rx ry h
  obtain ⟨a, b, xs, ys, rfl, rfl, ha, hb, hx, hz, q1, q2⟩ := h
  cases rx
  cases ry
  obtain ⟨its, r1, p1, _⟩ := I.tuple ha
  obtain ⟨its2, r2, p2, _⟩ := I.tuple hb
  refine HT.cat_tup p1 p2 (fun z => hx (r1.nil_iff.mp z)) (fun z => ⟨.ref a, H, I, rfl, q1 (r2.nil_iff.mp z)⟩) (fun z => ?_) (by rw [<- r1.length, <- r2.length]; exact hz)
  refine ⟨.ref s.heap.objs.size, _, I.laid (t' := s.toks) (o := .tup (xs ++ ys)) (fun b ob q => Heap.get?_push_of_some _ q) (Nat.le_refl _) ?_, rfl, q2 (fun w => z (r2.nil_iff.mpr w)) _ (I.hok.fresh (Nat.le_refl _))⟩
  exact ⟨by rw [List.length_append]; exact hz, _, r1.append r2, IsTup.new _ _⟩
end
end L2
namespace L2
open PySem PySem.Spec PyProof.Rows
def ixN (n : Nat) (i : Int) : Option Nat := if 0 <= i then (if i < n then some i.toNat else none) else if -(n : Int) <= i then some (i + n).toNat else none
def atI {α : Type} (xs : List α) (i : Int) : Option α := (ixN xs.length i).bind fun j => xs[j]?
theorem ixN_seq {n : Nat} {i : Int} {j : Nat} (h : ixN n i = some j) : seqIndex? i n = some j /\ j < n /\ -(n : Int) <= i /\ i < n := by
  unfold ixN at h
  by_cases h0 : 0 <= i
  . rw [if_pos h0] at h
    by_cases h1 : i < n
    . rw [if_pos h1] at h
      have e : i.toNat = j := Option.some.inj h
      exact ⟨by rw [seqIndex_of h0 h1, e], by omega, by omega, h1⟩
    . rw [if_neg h1] at h; cases h
  . rw [if_neg h0] at h
    by_cases h1 : -(n : Int) <= i
    . rw [if_pos h1] at h
      have e : (i + n).toNat = j := Option.some.inj h
      exact ⟨by rw [seqIndex_neg (by omega) h1, e], by omega, h1, by omega⟩
    . rw [if_neg h1] at h; cases h
theorem atI_get {α : Type} {xs : List α} {i : Int} {v : α} (h : atI xs i = some v) : ∃ j, seqIndex? i xs.length = some j /\ xs[j]? = some v /\ j < xs.length /\ -(xs.length : Int) <= i /\ i < xs.length := by
  unfold atI at h
  cases e : ixN xs.length i with
  | none => rw [e] at h; cases h
  | some j =>
    rw [e] at h
    obtain ⟨h1, h2, h3, h4⟩ := ixN_seq e
    exact ⟨j, h1, h, h2, h3, h4⟩
theorem atI_nat {α : Type} {xs : List α} {j : Nat} {v : α} (h : xs[j]? = some v) : atI xs (j : Int) = some v := by
  have hj : j < xs.length := (List.getElem?_eq_some_iff.mp h).1
  have e : ixN xs.length (j : Int) = some j := by
    unfold ixN
    rw [if_pos (by omega), if_pos (by omega)]; simp
  unfold atI; rw [e]; exact h
def PlainIx (b : Expr) : Prop := ∀ o i, subscripted b false o i = operate [o, i] (getItem o i)
def IxR (X : Cx) (r : R2) : Prop :=
  ∀ (value slice : Expr) (pins : List (Addr × Obj)) (s : Shared) (σ : St) (H : Hp) (x y : V) (v u : Value) (Q : VK), Inv X pins σ H s -> RelV x v -> RelV y u -> r x y H Q →
    subscripted slice false v u = operate [v, u] (getItem v u) -> wpAny (model X.prog X.w) X.A (subscriptTail value slice v u) (EP X pins σ Q) X.xe s
def MtR (X : Cx) (id : String) (r : V -> List V -> Hp -> VK -> Prop) : Prop :=
  ∀ (pins : List (Addr × Obj)) (s : Shared) (σ : St) (H : Hp) (x : V) (xs : List V) (v : Value) (us : List Value) (Q : VK), Inv X pins σ H s -> RelV x v -> Vals xs us -> r x xs H Q →
    wpAny (model X.prog X.w) X.A (call (.builtin id) (v :: us)) (EP X pins σ Q) X.xe s
section
variable {X : Cx} {a b : Expr} {ta tb : TE} {pos : Pos}
theorem pe_ix {r : R2} (hr : IxR X r) (ha : PE X a ta) (hb : PE X b tb) (hs : PlainIx b) : PE X (.Subscript a b pos) (tOp r ta tb) := by
  intro pins s σ H Q I h
  exact Subscript_ (binT ha hb I h fun v u s2 x y H2 I2 rx ry q => hr a b pins s2 σ H2 x y v u Q I2 rx ry q (hs _ _))
def rIxL (K : W.Frag) : R2 := fun x y H Q => ∃ p xs i v, x = .ref p /\ y = .int i /\ SqL K H p xs /\ atI xs i = some v /\ Q v H
theorem ix_list : IxR X (rIxL X.K) := by
  intro value slice pins s σ H x y v u Q I rx ry h hs
  obtain ⟨p, xs, i, z, rfl, rfl, hq, he, q⟩ := h
  cases rx
  obtain ⟨t, rfl⟩ := ry
  obtain ⟨its, r, pl, hz⟩ := I.list hq
  obtain ⟨j, h1, h2, h3, h4, h5⟩ := atI_get he
  obtain ⟨w, ew, rw'⟩ := r.get h2
  have hl := r.length
  have hn := line63
  have fin : EP X pins σ Q w s := ⟨z, H, I, rw', q⟩
  by_cases h0 : 0 <= i
  . have hj : i.toNat = j := by
      rw [seqIndex_of h0 h5] at h1
      exact Option.some.inj h1
    exact item_listR pl.isList h0 (by omega) (by rw [hj]; simpa using ew) fin hs
  . have hj : (i + (its.toArray.size : Int)).toNat = j := by
      rw [seqIndex_neg (by omega) h4] at h1
      rw [List.size_toArray, <- hl]
      exact Option.some.inj h1
    exact subscriptTail_builtinR (x := w) pl.isList.typeIs slot_list_getitem.lookup
      (wpAny_getItem_list_neg (Q := fun r s' => r = w /\ EP X pins σ Q r s') pl.isList (by omega) (by rw [List.size_toArray] <;> omega) (by omega) (by rw [hj]; simpa using ew) ⟨rfl, fin⟩) hs
theorem mapSeq_set (its : List Value) (n j : Nat) (u : Value) : Obj.mapSeq (·.setIfInBounds j u) { cls := .type "list", data := .seq its.toArray n } = { cls := .type "list", data := .seq (its.set j u).toArray n } := by
  simp [Obj.mapSeq]
theorem Inv.lst {pins : List (Addr × Obj)} {σ : St} {H : Hp} {s : Shared} {p : Addr} {xs : List V} (I : Inv X pins σ H s) (h : H p = some (.lst xs)) :
    ∃ (its : List Value) (n : Nat), Vals xs its /\ s.heap.get? p = some { cls := .type "list", data := .seq its.toArray n } /\ xs.length <= sizeLine := by
  obtain ⟨z, its, n, r, e⟩ := I.hok p _ h
  exact ⟨its, n, r, e, z⟩
theorem Inv.lstUpd {pins : List (Addr × Obj)} {σ : St} {H : Hp} {s : Shared} {p : Addr} {xs ys : List V} {its its' : List Value} {n n' : Nat} {f : Obj -> Obj} (I : Inv X pins σ H s) (h : H p = some (.lst xs))
    (ho : s.heap.get? p = some { cls := .type "list", data := .seq its.toArray n }) (hf : f { cls := .type "list", data := .seq its.toArray n } = { cls := .type "list", data := .seq its'.toArray n' }) (r : Vals ys its') (hz : ys.length <= sizeLine) (t : Nat) :
    Inv X pins σ (upd H p (.lst ys)) { s with heap := s.heap.update p f, toks := t } := by
  have e : (s.heap.update p f).get? p = some { cls := .type "list", data := .seq its'.toArray n' } := by
    rw [Heap.get?_update_self f ho (by rw [hf] <;> rfl), hf]
  refine I.write (x := p) (e := p) (by rw [h]; trivial) (.inl rfl) (fun b u hb q => (Heap.get?_update_other _ _ (Ne.symm hb)).trans q) ⟨_, e⟩ ?_
  exact ⟨hz, its', n', r, e⟩
def rSetL : V -> V -> V -> Hp -> (Hp -> Prop) -> Prop := fun o i v H Q => ∃ p xs k j, o = .ref p /\ i = .int k /\ H p = some (.lst xs) /\ ixN xs.length k = some j /\ Q (upd H p (.lst (xs.set j v)))
theorem set_list : PSet X rSetL := by
  intro pins s σ H o i v ov iv u Q I ro ri rv h
  obtain ⟨p, xs, k, j, rfl, rfl, hp, hj, q⟩ := h
  cases ro
  obtain ⟨t, rfl⟩ := ri
  obtain ⟨its, n, r, ho, hz⟩ := I.lst hp
  obtain ⟨h1, h2, h3, h4⟩ := ixN_seq hj
  have hl := r.length
  have hn := line63
  have I' : Inv X pins σ (upd H p (.lst (xs.set j v))) { s with heap := s.heap.update p (Obj.mapSeq (·.setIfInBounds j u)) } :=
    I.lstUpd hp ho (mapSeq_set its n j u) (r.set rv j) (by rw [List.length_set]; exact hz) s.toks
  by_cases h0 : 0 <= k
  . have hk : k.toNat = j := by
      rw [seqIndex_of h0 h4] at h1
      exact Option.some.inj h1
    exact W.ki_setAt ho h0 (by omega) (by rw [List.size_toArray, <- hl]; exact h4) (by rw [hk]; exact ⟨_, I', q⟩)
  . have hk : (k + (its.toArray.size : Int)).toNat = j := by
      rw [seqIndex_neg (by omega) h3] at h1
      rw [List.size_toArray, <- hl]
      exact Option.some.inj h1
    exact W.ki_setBack ho (by omega) (by rw [List.size_toArray, <- hl]; exact h3) (by omega) (by rw [hk]; exact ⟨_, I', q⟩)
theorem slice_bounds (lo hi : Option Int) (n : Nat) : (sliceBounds lo hi none n).1 = ((HT.sIx n 0 lo : Nat) : Int) /\ (sliceBounds lo hi none n).2.1 = ((HT.sIx n n hi : Nat) : Int) /\ (sliceBounds lo hi none n).2.2 = 1 := by
  refine ⟨?_, ?_, rfl⟩
  . cases lo with
    | none => simp [sliceBounds, HT.sIx]
    | some i =>
      simp only [sliceBounds, HT.sIx, Option.getD_none, show (1 : Int) > 0 by decide, if_true]
      by_cases h : i < 0
      . simp only [h, if_true] <;> omega
      . simp only [h, if_false] <;> omega
  . cases hi with
    | none => simp [sliceBounds, HT.sIx]
    | some i =>
      simp only [sliceBounds, HT.sIx, Option.getD_none, show (1 : Int) > 0 by decide, if_true]
      by_cases h : i < 0
      . simp only [h, if_true] <;> omega
      . simp only [h, if_false] <;> omega
theorem slicePick_cut (its : List Value) (lo hi : Option Int) : slicePick its.toArray lo hi none = ((its.drop (HT.sIx its.length 0 lo)).take (HT.sIx its.length its.length hi - HT.sIx its.length 0 lo)).toArray := by
  obtain ⟨h1, h2, h3⟩ := slice_bounds lo hi its.toArray.size
  unfold slicePick
  rw [h1, h2, h3]
  simp only [sliceRange_one, pick_run, List.size_toArray] <;> rfl
def rSlL (K : W.Frag) : V -> Option Int -> Option Int -> Hp -> VK -> Prop := fun x lo hi H Q => ∃ a xs, x = .ref a /\ SqL K H a xs /\ ∀ p, H p = none -> Q (.ref p) (upd H p (.lst (cutV xs lo hi)))
theorem sl_list : SlR X (rSlL X.K) := by
  intro pins s σ H x v vl vu lo hi sl Q I rx hs pl pu h
  obtain ⟨a, xs, rfl, hx, q⟩ := h
  cases rx
  obtain ⟨its, r, ht, hz⟩ := I.list hx
  have hlen := r.length
  refine ⟨"list", _, slot_list_getitem.lookup, ht.isList.typeIs, ?_⟩
  refine wpAny_getItem_list_slice ht.isList hs pl pu .none (by simp) ?_ (by rw [List.size_toArray] <;> omega)
  rw [slicePick_cut, <- hlen]
  refine ⟨.ref s.heap.objs.size, _, I.laid (t' := s.toks) (o := .lst (cutV xs lo hi)) (fun b ob q => Heap.get?_push_of_some _ q) (Nat.le_refl _) ?_, rfl, q _ (I.hok.fresh (Nat.le_refl _))⟩
  exact ⟨Nat.le_trans (cutV_length xs lo hi) hz, _, 0, (r.drop (HT.sIx xs.length 0 lo)).take (HT.sIx xs.length xs.length hi - HT.sIx xs.length 0 lo), Heap.get?_push_size _ rfl⟩
theorem call_len_seq : CallR X (.builtin "len") (fun xs H Q => ∃ p ys, xs = [.ref p] /\ (SqL X.K H p ys \/ SqT X.K H p ys) /\ Q (.int ys.length) H) := by
  intro pins s σ H xs us Q I r h
  obtain ⟨p, ys, rfl, hq, q⟩ := h
  obtain ⟨u, rfl, rx⟩ := vals1 r
  cases rx
  have hn := line63
  rcases hq with hq | hq
  . obtain ⟨its, r', pl, hz⟩ := I.list hq
    have hlen := r'.length
    exact Calls.call_len_list pl.isList (by simp only [List.size_toArray] <;> omega) ⟨.int ys.length, H, I.tok _, ⟨s.toks + 1, by rw [List.size_toArray, hlen]⟩, q⟩
  . obtain ⟨its, r', pl, hz⟩ := I.tuple hq
    have hlen := r'.length
    exact len_tuple pl (by simp only [List.size_toArray] <;> omega) ⟨.int ys.length, H, I.tok _, ⟨s.toks + 1, by rw [List.size_toArray, hlen]⟩, q⟩
theorem call_list_of : CallR X (.type "list") (fun xs H Q => ∃ p ys, xs = [.ref p] /\ (SqL X.K H p ys \/ SqT X.K H p ys) /\ ∀ l, H l = none -> Q (.ref l) (upd H l (.lst ys))) := by
  intro pins s σ H xs us Q I r h
  obtain ⟨p, ys, rfl, hq, q⟩ := h
  obtain ⟨u, rfl, rx⟩ := vals1 r
  cases rx
  have fin : ∀ (its : List Value), Vals ys its -> ys.length <= sizeLine -> ∀ (h' : Heap) (c' : Nat), (∀ b o', s.heap.get? b = some o' -> h'.get? b = some o') →
      h'.get? s.heap.objs.size = some { cls := .type "list", dict := none, data := .seq its.toArray c', slots := #[] } -> EP X pins σ Q (.ref s.heap.objs.size) { s with heap := h' } := fun its r' hz h' c' kp e =>
    ⟨.ref s.heap.objs.size, _, I.laid (t' := s.toks) kp (Nat.le_refl _) (show ObjOk X.prog X.w _ h' _ (.lst ys) from ⟨hz, its, c', r', e⟩), rfl, q _ (I.hok.fresh (Nat.le_refl _))⟩
  rcases hq with hq | hq
  . obtain ⟨its, r', pl, hz⟩ := I.list hq
    have hlen := r'.length
    obtain ⟨o, ho, hc, n, hd⟩ := pl.isList
    exact call_list_seq p (.inl rfl) ho hc hd (fun h' c' kp e => fin its r' hz h' c' kp e) (by simp only [List.size_toArray] <;> omega)
  . obtain ⟨its, r', pl, hz⟩ := I.tuple hq
    have hlen := r'.length
    obtain ⟨o, ho, hc, n, hd⟩ := pl
    exact call_list_seq p (.inr rfl) ho hc hd (fun h' c' kp e => fin its r' hz h' c' kp e) (by simp only [List.size_toArray] <;> omega)
theorem call_tuple_of : CallR X (.type "tuple") (fun xs H Q => ∃ p ys, xs = [.ref p] /\ ((SqL X.K H p ys /\ ∀ l, H l = none -> Q (.ref l) (upd H l (.tup ys))) \/ (SqT X.K H p ys /\ Q (.ref p) H))) := by
  intro pins s σ H xs us Q I r h
  obtain ⟨p, ys, rfl, h⟩ := h
  obtain ⟨u, rfl, rx⟩ := vals1 r
  cases rx
  rcases h with ⟨hq, q⟩ | ⟨hq, q⟩
  . obtain ⟨its, r', pl, hz⟩ := I.list hq
    have hlen := r'.length
    refine call_tuple_list pl.isList (fun h' kp => ?_) (by simp only [List.size_toArray] <;> omega)
    have I1 : Inv X pins σ H { s with heap := h' } := I.kept (t' := s.toks) kp
    have I2 : Inv X pins σ (upd H h'.objs.size (.tup ys)) { s with heap := h'.push { cls := .type "tuple", data := .seq its.toArray } } :=
      I1.laid (t' := s.toks) (fun b o e => Heap.get?_push_of_some _ e) (Nat.le_refl _) (show ObjOk X.prog X.w _ _ _ (.tup ys) from ⟨hz, its, r', IsTup.new _ _⟩)
    exact ⟨.ref h'.objs.size, _, I2, rfl, q _ (I1.hok.fresh (Nat.le_refl _))⟩
  . obtain ⟨its, r', pl, hz⟩ := I.tuple hq
    exact call_tuple_same pl ⟨.ref p, H, I, rfl, q⟩
def tyV (K : W.Frag) (T : String) (x : V) (H : Hp) : Prop := match x with
  | .str _ => T = "str"
  | .int _ => T = "int"
  | .ref p => (T = "list" /\ ∃ xs, SqL K H p xs) \/ (T = "tuple" /\ ∃ o, K.lookup p = some o /\ o.cls = .type "tuple" /\ o.dict = none) ∨
      (T = "dict" /\ ((∃ kvs, H p = some (.dK kvs)) \/ ∃ kvs, H p = some (.dT kvs))) \/ (T = "set" /\ ∃ S n, H p = some (.set S n))
  | _ => False
theorem tyV_is {pins : List (Addr × Obj)} {σ : St} {H : Hp} {s : Shared} {T : String} {x : V} {v : Value} (I : Inv X pins σ H s) (r : RelV x v) (ty : tyV X.K T x H) :
    s.TypeIs v T /\ ∀ a, v = .ref a -> ∃ ob, s.heap.get? a = some ob /\ ob.dict = none := by
  cases x with
  | str z =>
    obtain ⟨t, rfl⟩ := r
    cases (show T = "str" from ty)
    exact ⟨typeIs_str s z t, fun _ e => nomatch e⟩
  | int i =>
    obtain ⟨t, rfl⟩ := r
    cases (show T = "int" from ty)
    exact ⟨typeIs_int s i t, fun _ e => nomatch e⟩
  | ref p =>
    cases r
    rcases ty with ⟨rfl, xs, hq⟩ | ⟨rfl, o, hk, hc, hd⟩ | ⟨rfl, hk⟩ | ⟨rfl, S, n, hk⟩
    . obtain ⟨its, _, pl, _⟩ := I.list hq
      refine ⟨pl.isList.typeIs, fun a e => ?_⟩
      cases e
      obtain ⟨o, n, e, c, hd, _⟩ := pl
      exact ⟨o, e, hd⟩
    . refine ⟨⟨o, I.kIn p o hk, hc⟩, fun a e => ?_⟩
      cases e
      exact ⟨o, I.kIn _ o hk, hd⟩
    . have z : ∃ o, s.heap.get? p = some o /\ o.ExactDict := by
        rcases hk with ⟨kvs, hk⟩ | ⟨kvs, hk⟩
        . obtain ⟨_, _, _, _, o, _, _, e, ex, _⟩ := I.hok p _ hk
          exact ⟨o, e, ex⟩
        . obtain ⟨_, _, _, _, o, _, _, e, ex, _⟩ := I.hok p _ hk
          exact ⟨o, e, ex⟩
      obtain ⟨o, e, ex⟩ := z
      refine ⟨⟨o, e, ex.1⟩, fun a e2 => ?_⟩
      cases e2
      exact ⟨o, e, ex.2.1⟩
    . obtain ⟨o, _, _, _, e, ex, _⟩ := I.hok p _ hk
      refine ⟨⟨o, e, ex.1⟩, fun a e2 => ?_⟩
      cases e2
      exact ⟨o, e, ex.2.1⟩
  | _ => exact False.elim ty
def tBM (K : W.Frag) (T : String) (r : V -> List V -> Hp -> VK -> Prop) (to : TE) (t : TA) : TE := fun σ H Q => to σ H fun x H1 => tyV K T x H1 /\ t σ H1 fun xs H2 => r x xs H2 Q
variable {o e : Expr} {es : List Expr} {to : TE} {t : TA} {name : Str} {apos cpos : Pos} {T id : String} {r : V -> List V -> Hp -> VK -> Prop}
theorem pe_bm (pa : PlainAttrs T) (slot : Slot T name id) (hty : typeOf (.builtin id) = pure (.type "method_descriptor")) (hm : MtR X id r) (ho : PE X o to) (ha : PA X (e :: es) t)
    (hbase : attributeBase o name X.env (eval o X.env) = eval o X.env := by rfl)
    (hfew : ((backTo cpos (starEach (e :: es) X.env)).all (fun x => !x.1) && (backToKw cpos (keywordEach [] X.env)).all (fun x => x.1.isSome)
      && decide ((e :: es).length + ([] : List Keyword).length + (if ([] : List Keyword).isEmpty then 0 else 1) < 30)) = true := by rfl)
    (hline : (apos.endLine == cpos.line) = true := by rfl) (hs : starEach (e :: es) X.env = (false, eval e X.env) :: starEach es X.env := by rfl) (hplain : (backTo cpos (starEach es X.env)).any (·.1) = false := by rfl) :
    PE X (.Call (.Attribute o name apos) (e :: es) [] cpos) (tBM X.K T r to t) := by
  intro pins s σ H Q I h
  refine wpAny_Call_method_late hbase hfew hline rfl (thn (ho pins s σ H _ I h) fun v s1 ⟨x, H1, I1, r1, ty, q1⟩ => ?_)
  obtain ⟨h1, h2⟩ := tyV_is I1 r1 ty
  refine ⟨T, id, pa, slot, hty, h1, h2, ?_⟩
  have hA := ha cpos pins s1 σ H1 _ I1 q1
  rw [hs] at hA ⊢
  refine Calls.callWith_builtin (by show (false || (backTo cpos (starEach es X.env)).any (·.1)) = false; rw [hplain] <;> rfl) (Calls.evalArgs_plain ?_)
  exact thn hA fun us s2 ⟨vs, H2, I2, r2, q2⟩ => hm pins s2 σ H2 x vs v us Q I2 r1 r2 q2
/- xs.append(e), list.index on a module's tuple .. are MtR facts of 06m -/
end
end L2
namespace L2
open PySem PySem.Spec PyProof.Rows
def MtM (X : Cx) (id : String) (r : V -> List V -> Hp -> VK -> Prop) : Prop :=
  ∀ (pins : List (Addr × Obj)) (s : Shared) (σ : St) (H : Hp) (x : V) (xs : List V) (v : Value) (us : List Value) (Q : VK), Inv X pins σ H s -> RelV x v -> Vals xs us -> r x xs H Q →
    wpAny (model X.prog X.w) X.A (call (.builtin id) (v :: us)) (EP X pins σ Q) X.xe s
theorem Vals.one : ∀ {x : V} {us : List Value}, Vals [x] us -> ∃ u, us = [u] /\ RelV x u
  | _, _, .cons r .nil => ⟨_, rfl, r⟩
theorem Vals.eraseIdx : ∀ {xs : List V} {us : List Value} (i : Nat), Vals xs us -> Vals (xs.eraseIdx i) (us.eraseIdx i)
  | _, _, _, .nil => .nil
  | _, _, 0, .cons _ t => t
  | _, _, i + 1, .cons r t => .cons r (Vals.eraseIdx i t)
theorem Vals.rep {xs : List V} {us : List Value} (h : Vals xs us) : ∀ k : Nat, Vals (List.replicate k xs).flatten (List.replicate k us).flatten
  | 0 => .nil
  | k + 1 => by
    rw [List.replicate_succ, List.replicate_succ, List.flatten_cons, List.flatten_cons]
    exact Vals.append h (Vals.rep h k)
theorem len_erase {α : Type} : ∀ (l : List α) (i : Nat), (l.eraseIdx i).length <= l.length
  | [], _ => Nat.le_refl _
  | _ :: _, 0 => Nat.le_succ _
  | _ :: r, i + 1 => Nat.succ_le_succ (len_erase r i)
theorem foldl_rep (its : List Value) : ∀ (k : Nat) (acc : List Value),
    List.foldl (fun x1 x2 => x1 ++ x2) acc.toArray (List.replicate k its.toArray) = (acc ++ (List.replicate k its).flatten).toArray
  | 0, acc => by simp
  | k + 1, acc => by
    have e : acc.toArray ++ its.toArray = (acc ++ its).toArray := by simp
    have e2 : (acc ++ its) ++ (List.replicate k its).flatten = acc ++ (List.replicate (k + 1) its).flatten := by
      rw [List.replicate_succ, List.flatten_cons, List.append_assoc]
    rw [<- e2, <- foldl_rep its k (acc ++ its), <- e, List.replicate_succ, List.foldl_cons]
section
variable {X : Cx} {pins : List (Addr × Obj)} {σ : St} {H : Hp} {s : Shared} {l b : Addr} {xs ys zs : List V}
theorem Inv.lset {its its' : List Value} {n : Nat} {f : Array Value -> Array Value} {t' : Nat} (I : Inv X pins σ H s) (hH : H l = some (.lst xs))
    (e : s.heap.get? l = some { cls := .type "list", data := .seq its.toArray n }) (hf : f its.toArray = its'.toArray) (hv : Vals ys its') (hz : ys.length <= sizeLine) :
    Inv X pins σ (upd H l (.lst ys)) { s with heap := s.heap.update l (Obj.mapSeq f), toks := t' } := by
  have q := PySem.IsL.update e f
  rw [hf] at q
  refine I.write (x := l) (e := l) (by rw [hH]; exact trivial) (.inl rfl) (fun b' u hb hu => (Heap.get?_update_other s.heap (Obj.mapSeq f) (Ne.symm hb)).trans hu) ⟨_, q⟩ ?_
  exact ⟨hz, its', _, hv, q⟩
theorem Inv.lnew {its : List Value} {t' : Nat} (I : Inv X pins σ H s) (hv : Vals ys its) (hz : ys.length <= sizeLine) :
    Inv X pins σ (upd H s.heap.objs.size (.lst ys)) { s with heap := s.heap.push { cls := .type "list", data := .seq its.toArray }, toks := t' } :=
  I.laid (fun _ _ q => Heap.get?_push_of_some _ q) (Nat.le_refl _) ⟨hz, its, 0, hv, Heap.get?_push_size _ rfl⟩
theorem Inv.fresh (I : Inv X pins σ H s) : H s.heap.objs.size = none := I.hok.fresh (Nat.le_refl _)
theorem Inv.lstM (I : Inv X pins σ H s) (hH : H l = some (.lst xs)) : xs.length <= sizeLine /\ ∃ (its : List Value) (n : Nat), Vals xs its /\ xs.length = its.length /\ s.heap.get? l = some { cls := .type "list", data := .seq its.toArray n } := by
  obtain ⟨z, its, n, r, e⟩ := I.hok l _ hH
  exact ⟨z, its, n, r, r.length, e⟩
theorem notLongL {n : Nat} (h : n <= sizeLine) : Builtin.List.listTooLong n = false := by
  unfold Builtin.List.listTooLong
  exact decide_eq_false (by omega)
end
section
variable {X : Cx}
def rAppend : V -> List V -> Hp -> VK -> Prop := fun x vs H Q => ∃ l xs y, x = .ref l /\ vs = [y] /\ H l = some (.lst xs) /\ xs.length < sizeLine /\ Q .non (upd H l (.lst (xs ++ [y])))
theorem mt_append : MtM X "list.append" rAppend := by
  intro pins s σ H x vs v us Q I rx rv h
  obtain ⟨l, xs, y, rfl, rfl, hH, hz, q⟩ := h
  cases rx
  obtain ⟨u, rfl, ru⟩ := rv.one
  obtain ⟨z, its, n, r, hl, e⟩ := I.lstM hH
  refine call_meets F.slot_list_append ⟨_, e, rfl⟩ F.entry_list_append (F.args_list_append_2 _ _) (PySem.list_append l its.toArray n u (by rw [List.size_toArray]; omega)) ⟨e, ?_⟩
  refine ⟨.non, _, I.lset (its' := its ++ [u]) hH e (by simp) (r.append (.cons ru .nil)) ?_, rfl, q⟩
  rw [List.length_append, List.length_singleton]
  omega
def rPopAt : V -> List V -> Hp -> VK -> Prop := fun x vs H Q => ∃ l xs i k y, x = .ref l /\ vs = [.int i] /\ H l = some (.lst xs) /\ -(2 ^ 63) <= i /\ i < 2 ^ 63 /\ seqIndex? i xs.length = some k /\ xs[k]? = some y /\ Q y (upd H l (.lst (xs.eraseIdx k)))
theorem mt_popAt : MtM X "list.pop" rPopAt := by
  intro pins s σ H x vs v us Q I rx rv h
  obtain ⟨l, xs, i, k, y, rfl, rfl, hH, h1, h2, hk, hy, q⟩ := h
  cases rx
  obtain ⟨u, rfl, ru⟩ := rv.one
  obtain ⟨t, rfl⟩ := ru
  obtain ⟨z, its, n, r, hl, e⟩ := I.lstM hH
  obtain ⟨w, hw, rw'⟩ := r.get hy
  refine call_meets F.slot_list_pop ⟨_, e, rfl⟩ F.entry_list_pop (F.args_list_pop_2 _ _)
    (MeetsSeq.list_pop_at l its.toArray n i t k w (fitsIndex_both h1 h2) (by rw [List.size_toArray, <- hl]; exact hk) (by rw [<- Array.getElem?_toList]; exact hw) (by rw [List.size_toArray]; omega)) ⟨e, ?_⟩
  refine ⟨y, _, I.lset (its' := its.eraseIdx k) hH e ?_ (r.eraseIdx k) ?_, rw', q⟩
  . show its.toArray.eraseIdxIfInBounds k = (its.eraseIdx k).toArray
    rw [List.eraseIdxIfInBounds_toArray]
  . have := len_erase xs k
    omega
def rCat : R2 := fun x y H Q => ∃ l b xs zs, x = .ref l /\ y = .ref b /\ H l = some (.lst xs) /\ H b = some (.lst zs) /\ xs.length + zs.length <= sizeLine /\ ∀ p, H p = none -> Q (.ref p) (upd H p (.lst (xs ++ zs)))
theorem op_cat : OpR X (binaryOp .Add) rCat := by
  intro pins s σ H x y v u Q I rx ry h
  obtain ⟨l, b, xs, zs, rfl, rfl, hH, hB, hz, q⟩ := h
  cases rx
  cases ry
  obtain ⟨z, its, n, r, hl, e⟩ := I.lstM hH
  obtain ⟨z2, its2, n2, r2, hl2, e2⟩ := I.lstM hB
  refine PySem.P.add_list e e2 ?_ (by rw [List.size_toArray, List.size_toArray]; omega)
  have ea : its.toArray ++ its2.toArray = (its ++ its2).toArray := by simp
  rw [ea]
  exact ⟨.ref _, _, I.lnew (t' := s.toks) (r.append r2) (by rw [List.length_append]; omega), rfl, q _ I.fresh⟩
def rRep : R2 := fun x y H Q => ∃ l k xs, x = .ref l /\ y = .int k /\ H l = some (.lst xs) /\ -(2 ^ 63) <= k /\ k < 2 ^ 63 /\ xs.length * k.toNat <= sizeLine ∧
  ∀ p, H p = none -> Q (.ref p) (upd H p (.lst (List.replicate k.toNat xs).flatten))
theorem len_rep {α : Type} (xs : List α) (k : Nat) : (List.replicate k xs).flatten.length = k * xs.length := by
  induction k with
  | zero => simp
  | succ k ih => rw [List.replicate_succ, List.flatten_cons, List.length_append, ih, Nat.succ_mul, Nat.add_comm]
theorem op_rep : OpR X (binaryOp .Mult) rRep := by
  intro pins s σ H x y v u Q I rx ry h
  obtain ⟨l, k, xs, rfl, rfl, hH, h1, h2, hz, q⟩ := h
  cases rx
  obtain ⟨t, rfl⟩ := ry
  obtain ⟨z, its, n, r, hl, e⟩ := I.lstM hH
  have hlen : its.toArray.size * k.toNat <= sizeLine := by rw [List.size_toArray, <- hl]; exact hz
  have hcap : ¬ its.toArray.size * k.toNat > (2 ^ 63 - 1) / 8 := by
    have : (sizeLine : Nat) <= (2 ^ 63 - 1) / 8 := by decide
    omega
  have hfit : ¬ (!Builtin.List.listFitsIndex k) = true := by
    rw [fitsIndex_both h1 h2]
    exact Bool.false_ne_true
  have hlong : ¬ Builtin.List.listTooLong (its.toArray.size * k.toNat) = true := by
    rw [notLongL hlen]
    exact Bool.false_ne_true
  have hnew : List.foldl (fun x1 x2 => x1 ++ x2) #[] (List.replicate (if its.toArray.isEmpty = true then 0 else k.toNat) its.toArray) = (List.replicate k.toNat its).flatten.toArray := by
    have f0 : ∀ m : Nat, List.foldl (fun x1 x2 => x1 ++ x2) #[] (List.replicate m its.toArray) = (List.replicate m its).flatten.toArray := fun m => by
      have := foldl_rep its m []
      rw [List.nil_append] at this
      exact this
    rw [f0]
    cases its with
    | nil => simp
    | cons a r' => rw [if_neg (by simp)]
  refine wpAny_binaryOp_repeat_ref (T := "list") (U := "int") (by decide) ⟨_, e, rfl⟩ (fun s' => typeIs_int s' k t) noFill_list_mul F.fills_int_mul F.slot_int_rmul repeat_list F.slot_int_index.lookup
    (call_meets F.slot_int_rmul (typeIs_int s k t) F.entry_int_rmul (F.args_int_rmul_2 _ _) (int___rmul___int_list k t l its.toArray n)
      ⟨e, rfl, ⟨_, e, rfl⟩, call_meets F.slot_list_mul ⟨_, e, rfl⟩ F.entry_list_mul (F.args_list_mul_2 _ _) (AutoListH.list___mul___list_int_3 l its.toArray n k t hfit hcap hlong) ⟨e, ?_⟩⟩)
  rw [hnew]
  exact ⟨.ref _, _, I.lnew (t' := s.toks) (r.rep k.toNat) (by rw [len_rep, Nat.mul_comm]; exact hz), rfl, q _ I.fresh⟩
end
section
variable {prog : Program} {w : World} {A : Around} {E : Value -> Shared -> Prop} {s : Shared}
end
section
variable {X : Cx}
end
end L2
namespace Att
open PySem PySem.W PySem.Calls PyProof.Rows
theorem ints_of_wellAll {P : Params} {h : Heap} : ∀ (ns : List Int) (vs : List Value), WellAll P h vs (ns.map WData.int) -> IntsAre vs ns := by
  intro ns
  induction ns with
  | nil =>
    intro vs w
    rw [List.map_nil] at w
    cases w
    exact .nil
  | cons n ns ih =>
    intro vs w
    rw [List.map_cons] at w
    cases w with
    | cons a b =>
      cases a
      exact .cons _ _ (ih _ b)
theorem script_of {l : OpenLaw} {n : Nat} (hn : l.most = some n) {P : Params} {h : Heap} {args : List WData} {vals : List Value}
    (hpre : l.row.toRowW.claim.pre args = true) (hwl : WellAll P h vals args) :
    ∃ a vs ns, vals = [Value.ref a] /\ args = [WData.list (ns.map WData.int)] /\ h.get? a = some { cls := .type "list", data := .seq vs.toArray } /\ IntsAre vs ns /\ ns.length <= n := by
  have hsh : WShape.hasAll [] args [.list .int] = true := (pre_splitW hpre).1
  have hc : l.pre.holds [] { args := args } = true := (pre_splitW hpre).2
  obtain ⟨d, r, rfl, h1, h2⟩ := hasAllW_cons hsh
  obtain rfl := hasAllW_nil h2
  obtain ⟨xs, rfl, h3⟩ := hasW_list h1
  obtain ⟨ns, rfl⟩ := items_int h3
  have hlen : ns.length <= n := by
    unfold OpenLaw.pre at hc
    have h4 : (WTm.not (.lt (.lit (.int (n : Int))) (.len (.arg 0)))).holds [] { args := [.list (ns.map .int)] } = true := by
      have h4 := (holds_andW hc).1
      rw [hn] at h4
      exact h4
    have h5 := condW_of h4 (w_not (w_lt w_lit (w_len_list (w_arg rfl))))
    rw [List.length_map] at h5
    refine Nat.le_of_not_lt fun q => ?_
    have q' : (n : Int) < ((ns.length : Nat) : Int) := by omega
    first
      | (rw [decide_eq_true q'] at h5; exact absurd h5 (by decide))
      | (simp at h5; omega)
  cases hwl with
  | cons w1 w2 =>
    cases w2
    cases w1 with
    | list ho hall => exact ⟨_, _, ns, rfl, rfl, ho, ints_of_wellAll ns _ hall, hlen⟩
theorem post_true (l : OpenLaw) (args : List WData) : l.row.toRowW.claim.post args (.bool true) args = true :=
  postW_of (r := l.row.toRowW) (X := (true == true))
    (show WShape.has [] (.bool true) .bool = true by first | rfl | decide | simp [WShape.has, WShape.arms, WShape.armsAll])
    (show (WTm.eq .res (.lit (.bool true))).value [] { args := args, res := some (.bool true), after := args } = some (.bool (true == true)) from w_eq_bool (w_res rfl) w_lit) rfl
theorem attach_call {l : OpenLaw} {n : Nat} {q : Program} {loose : List Str} {XP : (Str -> Option Value) -> Heap -> Prop} {YP : World -> Heap -> Prop} {d : DefRec}
    (hn : l.most = some n) (hdf : d.params.defaults = [])
    (call : ∀ (w : World) (s₀ s₁ : Shared) (mg mb : Str -> Option Value) (fa : Addr) (o : Obj) (pm cd doc : Value) (a : Addr) (vs : List Value) (ns : List Int),
      Ground q loose [] XP w s₀ mg mb s₁.heap -> YP w s₁.heap →
      s₁.heap.get? fa = some o -> o.data = .func (docDef d.name d.params d.body d.scope pm cd doc) -> s₁.heap.CodeRec cd d.name -> mg d.name = some (.ref fa) →
      s₁.heap.get? a = some { cls := .type "list", data := .seq vs.toArray } -> IntsAre vs ns -> ns.length <= n -> s₁.gens = #[] →
      codeAny (model l.prog w) callerA (.call (.ref fa) ⟨[.ref a], []⟩) (fun r s' => r = .ok (.ret (.bool true)) /\ OldK s₁.heap s'.heap /\ s'.os = s₁.os /\ AllBare s'.gens) s₁) :
    WalkO q loose XP YP l.row.toRowW d [] (fun f vs => PySem.call f vs) := by
  intro w s₀ s₁ mg mb G Y fa o pm cd doc dV kV ho hd hcd hD hmg hg args vals as hpre hlay hrd hwl hlo
  obtain rfl : dV = .none := Dflts.none hD hdf
  obtain rfl : kV = .none := Dflts.noKw hD
  obtain ⟨a, vs, ns, rfl, rfl, hobj, hints, hlen⟩ := script_of hn hpre hwl
  refine enter_call (codeAny_mono (call w s₀ s₁ mg mb fa o pm cd doc a vs ns G Y ho (fd_plain hd) hcd hmg hobj hints hlen hg) fun r s' hq => ?_)
  obtain ⟨rfl, h2, h3, h4⟩ := hq
  exact ⟨.inl ⟨.bool true, .bool true, [], rfl, fun _ => rfl, .bool true, post_true l _, fun _ => ⟨List.Pairwise.nil, fun _ hm => (nomatch hm)⟩⟩, h2, h3, h4⟩
section
variable {prog : Program} {w : World} {A : Around} {E : Value -> Shared -> Prop} {s : Shared} {K : Frag}
end
end Att
namespace L2
open PySem PySem.Spec PyProof.Rows
theorem vals_ints : ∀ {vs : List Value} {ns : List Int}, IntsAre vs ns -> Vals (ns.map V.int) vs
  | _, _, .nil => .nil
  | _, _, .cons n t h => .cons ⟨t, rfl⟩ (vals_ints h)
def Only (H : Hp) : Prop := ∀ b, H b = none \/ ∃ o xs, H b = some (.frz o (.lst xs))
theorem law_call {P : Program} {w : World} {K : W.Frag} {mg mb : Str -> Option Value} {CX : CXT} {k : Nat} {fa a : Addr} {fd : FuncData} {x : Str} {sp : Sp} {s₁ : Shared} {vs : List Value} {ns : List Int}
    (KX : K.In s₁.heap) (hns : s₁.heap.Ns mainGlobals mg) (hb : s₁.heap.Ns builtinsNs mb) (hbb : ∀ x : Str, x ≠ "__name__" -> mb x = bootBuiltins x) (hlim : s₁.heap.NoLimit) (hg : s₁.gens = #[])
    (ha : s₁.heap.get? a = some { cls := .type "list", data := .seq vs.toArray }) (hi : IntsAre vs ns) (hl : ns.length <= sizeLine) (hr : Room k callerA)
    (F : ∀ base : Heap, K.In base -> base.Ns mainGlobals mg -> FnOk P w K mg base CX k fa fd [x] sp) (hbind : ∀ (s : Shared) (u : Value), BindsTo s fd ⟨[u], []⟩ [(x, u)])
    (hsp : ∀ H : Hp, Only H -> SqL K H a (ns.map V.int) -> sp [.ref a] H (fun v _ => v = .bl true) fun _ _ _ => False)
    (hCX : ∀ H e s', CX [] H s₁ (fun _ _ _ => False) e s' -> False) :
    codeAny (model P w) callerA (.call (.ref fa) ⟨[.ref a], []⟩) (fun r s' => r = .ok (.ret (.bool true)) /\ OldK s₁.heap s'.heap /\ s'.os = s₁.os /\ AllBare s'.gens) s₁ := by
  have rv := vals_ints hi
  have lenV := hi.length
  -- from an abstract heap in which nothing but the script may be tracked
  have core : ∀ H : Hp, Only H -> SqL K H a (ns.map V.int) -> HOk P w H s₁.heap -> (∀ b, H b ≠ none -> b = a) -> (H a ≠ none -> K.lookup a = none) →
      codeAny (model P w) callerA (.call (.ref fa) ⟨[.ref a], []⟩) (fun r s' => r = .ok (.ret (.bool true)) /\ OldK s₁.heap s'.heap /\ s'.os = s₁.os /\ AllBare s'.gens) s₁ := by
    intro H hO hS hok hA hK
    have base_of : ∀ {b : Addr} {o : Obj}, s₁.heap.get? b = some o -> H b = none -> (hidT s₁.heap H).get? b = some o := fun e n => hidT_get e n
    have noA : ∀ {b : Addr} {o : Obj} {es : Array DictEntry} {ep : Nat}, s₁.heap.get? b = some o -> o.data = .dict es ep -> H b = none := fun {b o es ep} e d => by
      cases q : H b with
      | none => rfl
      | some u =>
        have e' : b = a := hA b (by rw [q]; simp)
        subst e'
        rw [ha] at e; cases e
        have d' : Data.seq vs.toArray _ = Data.dict es ep := d
        cases d'
    have nsK : ∀ {b : Addr} {m : Str -> Option Value}, s₁.heap.Ns b m -> (hidT s₁.heap H).Ns b m := fun {b m} ⟨o, es, ep, e, d, r⟩ => ⟨o, es, ep, base_of e (noA e d), d, r⟩
    have hKb : K.In (hidT s₁.heap H) := fun b o e => base_of (KX b o e) (by
      cases q : H b with
      | none => rfl
      | some u =>
        have e' : b = a := hA b (by rw [q]; simp)
        subst e'
        rw [hK (by rw [q]; simp)] at e; cases e)
    have hM : Mod K mg (hidT s₁.heap H) := ⟨hKb, nsK hns, ⟨mb, nsK hb, hbb⟩, let ⟨mc, h1, h2⟩ := hlim; ⟨mc, nsK h1, h2⟩⟩
    have e0 : Env0 P w K mg (hidT s₁.heap H) callerA [] s₁ H := ⟨rfl, hM, fun b o e => of_hidT e, Nat.le_of_eq (hidT_size _ _), trivial, fun b hb => absurd (show b ∈ ([] : List Addr) from hb) (by simp), hok, .of_eq hg⟩
    refine codeAny_mono ((F _ hKb (nsK hns)).run callerA [] s₁ H ⟨[.ref a], []⟩ [.ref a] [.ref a] _ _ hr e0 (hbind s₁ (.ref a)) (.cons rfl .nil) (hsp H hO hS)) fun r s' h => ?_
    cases r with
    | error e => exact (hCX H e s' h).elim
    | ok fl =>
      cases fl with
      | next => exact False.elim h
      | brk => exact False.elim h
      | cont => exact False.elim h
      | ret u =>
        obtain ⟨v, H', os, bare, un, hok', r', q⟩ := h
        have q' : v = .bl true := q
        subst q'
        obtain rfl : u = Value.bool true := r'
        refine ⟨rfl, OldK.of_keep fun b o e => ?_, os, bare⟩
        cases q : H b with
        | none => exact un.keep b o e q (by intro z; exact absurd (show b ∈ ([] : List Addr) from z) (by simp)) (by simp)
        | some u =>
          rcases hO b with z | ⟨ob, xs, z⟩
          . rw [q] at z; cases z
          . have z2 := un.frzs b ob _ z
            obtain ⟨e1, _⟩ := hok b _ z
            obtain ⟨e2, _⟩ := hok' b _ z2
            rw [e] at e1; cases e1
            exact e2
  cases hk : K.lookup a with
  | some o =>
    -- the script is one of the module's own objects
    have e := KX a o hk
    rw [ha] at e
    cases e
    refine core (fun _ => none) (fun _ => .inl rfl) (.inr ⟨_, vs.toArray, _, hk, rfl, rfl, rfl, by rw [List.size_toArray, lenV]; exact hl, by simpa using rv⟩) (fun b u z => by have z' : (none : Option HO) = some u := z; cases z') (fun b z => absurd rfl z) fun z => absurd rfl z
  | none =>
    refine core (fun b => if b = a then some (.frz { cls := .type "list", data := .seq vs.toArray } (.lst (ns.map V.int))) else none) (fun b => ?_) (.inl (.inr ⟨{ cls := .type "list", data := .seq vs.toArray }, if_pos rfl⟩)) (fun b u z => ?_) (fun b z => ?_) fun _ => hk
    . by_cases hb : b = a
      . exact .inr ⟨_, _, if_pos hb⟩
      . exact .inl (if_neg hb)
    . by_cases hb : b = a
      . have z' := (if_pos hb).symm.trans z
        cases z'
        subst hb
        exact ⟨ha, by rw [List.length_map]; exact hl, vs, _, rv, ha⟩
      . have z' := (if_neg hb).symm.trans z
        cases z'
    . by_cases hb : b = a
      . exact hb
      . exact absurd (if_neg hb) z
end L2
namespace L2
open PySem PySem.Spec PyProof.Rows
theorem walk_of {l : W.OpenLaw} {n k : Nat} {q : Program} {loose : List Str} {XP : (Str -> Option Value) -> Heap -> Prop} {YP : World -> Heap -> Prop} {d : DefRec} {K : Params -> W.Frag} {CX : World -> CXT} {sp : World -> Sp} {x : Str}
    (hn : l.most = some n) (hn2 : n <= sizeLine) (hdf : d.params.defaults = []) (hr : Room k callerA)
    (hY : ∀ (w : World) (h : Heap), YP w h -> (K w.params).In h)
    (F : ∀ (w : World) (mg : Str -> Option Value) (fa : Addr) (h : Heap), (K w.params).In h -> h.Ns mainGlobals mg -> mg d.name = some (.ref fa) →
      ∃ fd : FuncData, (∀ (s : Shared) (u : Value), BindsTo s fd ⟨[u], []⟩ [(x, u)]) ∧
        ∀ base : Heap, (K w.params).In base -> base.Ns mainGlobals mg -> FnOk l.prog w (K w.params) mg base (CX w) k fa fd [x] (sp w))
    (hsp : ∀ (w : World) (H : Hp) (a : Addr) (ns : List Int), ns.length <= n -> Only H -> SqL (K w.params) H a (ns.map V.int) -> sp w [.ref a] H (fun v _ => v = .bl true) fun _ _ _ => False)
    (hCX : ∀ (w : World) (H : Hp) (s : Shared) (e : Value) (s' : Shared), CX w [] H s (fun _ _ _ => False) e s' -> False) :
    W.WalkO q loose XP YP l.row.toRowW d [] (fun f vs => PySem.call f vs) := by
  refine Att.attach_call hn hdf fun w s₀ s₁ mg mb fa o pm cd doc a vs ns G Y ho hd hcd hmg hobj hints hlen hg => ?_
  have KX := hY w _ Y
  obtain ⟨fd, hb, hF⟩ := F w mg fa _ KX G.T.g hmg
  exact law_call KX G.T.g G.T.b G.T.builtins G.T.nolimit hg hobj hints (Nat.le_trans hlen hn2) hr hF hb (fun H hO hS => hsp w H a ns hlen hO hS) fun H e s' => hCX w H s₁ e s'
end L2
namespace L2
open PySem PySem.Spec PyProof.Rows
def defArgs (s : Stmt) : Arguments := match s with
  | .FunctionDef _ a _ _ _ _ _ _ _ _ => a
  | _ => { posonlyargs := [], args := [], vararg := none, kwonlyargs := [], kw_defaults := [], kwarg := none, defaults := [] }
def defBody (s : Stmt) : List Stmt := match s with
  | .FunctionDef _ _ b _ _ _ _ _ _ _ => b
  | _ => []
def defScope (s : Stmt) : Scope := match s with
  | .FunctionDef _ _ _ _ _ _ sc _ _ _ => sc
  | _ => { kind := .function, names := [], isGenerator := false, isCoroutine := false }
abbrev CX0 : CXT := fun _ _ _ _ _ _ => False
abbrev E0 : XK := fun _ _ _ => False
theorem pass0 {X : Cx} : Passes CX0 X E0 := fun _ _ _ _ _ _ _ h => h.elim
structure Fun (K : W.Frag) (x qual : Str) (st : Stmt) (f : Addr) (fd : FuncData) : Prop where
  ex : ∃ (oc : Value) (od : Option Addr) (kV doc pm : Value) (an : Option Addr) (cdv ct : Value) (osl : Array (Option Value)),
    fd = W.fnOf x qual (defArgs st) (defBody st) (defScope st) .none kV doc pm an cdv ct /\ K.lookup f = some ⟨oc, od, .func fd, osl⟩ /\ W.codeIn K cdv qual = true
  kp : W.keepIn K (.ref f) = true
section
variable {P : Program} {w : World} {K : W.Frag} {mg : Str -> Option Value} {base : Heap}
theorem Fun.ok {x qual : Str} {st : Stmt} {f : Addr} {fd : FuncData} {N ps : List Str} {k : Nat} {sp : Sp} (F : Fun K x qual st f fd) (S : FnScope N ps (defScope st)) (len : ∀ vs H Q E, sp vs H Q E -> vs.length = ps.length)
    (hbody : ∀ (cdv : Value) (A : Around) (outer : List Env) (s : Shared) (H : Hp) (vs : List V) (Q : VK) (E : XK), Room k (A.deeper (envOfC qual (defScope st) s.heap.objs.size f cdv)) -> sp vs H Q E →
      ∃ t, PSs (cxOf CX0 P w K mg base N qual (defScope st) f cdv A outer s H E).nox (defBody st) t /\ t { nx := fun _ H' => Q .non H', rt := Q } (start N vs) H) : FnOk P w K mg base CX0 (k + 1) f fd ps sp := by
  obtain ⟨oc, od, kV, doc, pm, an, cdv, ct, osl, rfl, lk, hcd⟩ := F.ex
  refine fn_of lk hcd S len fun A outer s H vs Q E hr hsp => ?_
  obtain ⟨t, h, q⟩ := hbody cdv A outer s H vs Q E hr hsp
  exact ⟨t, h.nox, q⟩
theorem Fun.binds {x qual : Str} {st : Stmt} {f : Addr} {fd : FuncData} {ps : List Str} (F : Fun K x qual st f fd)
    (h : ∀ (kV doc pm : Value) (an : Option Addr) (cdv ct : Value) (us : List Value), us.length = ps.length -> bindArgs (W.fnOf x qual (defArgs st) (defBody st) (defScope st) .none kV doc pm an cdv ct) ⟨us, []⟩ = pure (ps.zip us)) : Binds K fd ps [] := by
  obtain ⟨oc, od, kV, doc, pm, an, cdv, ct, osl, rfl, lk, hcd⟩ := F.ex
  exact .all (h kV doc pm an cdv ct)
theorem fun_mk {x qual : Str} {st : Stmt} {f : Addr} {oc : Value} {od an : Option Addr} {osl : Array (Option Value)} {kV doc pm cdv ct : Value} (l : K.lookup f = some ⟨oc, od, .func (W.fnOf x qual (defArgs st) (defBody st) (defScope st) .none kV doc pm an cdv ct), osl⟩)
    (c : W.codeIn K cdv qual = true) (k : W.keepIn K (.ref f) = true) : Fun K x qual st f (W.fnOf x qual (defArgs st) (defBody st) (defScope st) .none kV doc pm an cdv ct) := ⟨⟨oc, od, kV, doc, pm, an, cdv, ct, osl, rfl, l, c⟩, k⟩
end
theorem small1000 {n : Nat} (h : n <= 1000) : n < sizeLine := Nat.lt_of_le_of_lt h (by decide)
section
variable {X : Cx}
theorem pv (i : Nat) {x : Str} {pos : Pos} (hN : X.N[i]? = some x := by rfl) (hv : Vis X.env.scope x := by first | exact Or.inl rfl | exact Or.inr (Or.inl rfl) | exact Or.inr (Or.inr rfl)) (hd : (x == ("__debug__" : Str)) = false := by decide)
    (hcd : (x == ("__classdict__" : Str)) = false := by decide) : PE X (.Name x pos) (tVar i) := pe_var hN hv hd hcd
end
theorem iteF {A B : Prop} (h : B) : if false = true then A else B := by
  rw [if_neg Bool.false_ne_true]
  exact h
theorem iteT {A B : Prop} (h : A) : if true = true then A else B := by
  rw [if_pos rfl]
  exact h
theorem ite2 {c A B : Prop} [Decidable c] (h1 : c -> A) (h2 : ¬ c -> B) : if c then A else B := by
  by_cases h : c
  . rw [if_pos h]
    exact h1 h
  . rw [if_neg h]
    exact h2 h
theorem iteNS {c A B : Prop} [Decidable c] (hc : c) (h : B) : if (!decide c) = true then A else B := by
  rw [decide_eq_true hc]
  exact iteF h
def Same (H H' : Hp) : Prop := ∀ b o, H b = some o -> H' b = some o
theorem Same.refl (H : Hp) : Same H H := fun _ _ h => h
theorem Same.trans {H H1 H2 : Hp} (a : Same H H1) (b : Same H1 H2) : Same H H2 := fun c o h => b c o (a c o h)
theorem Same.free {H H' : Hp} (e : Same H H') {l : Addr} (h : H' l = Option.none) : H l = Option.none := by
  cases q : H l with
  | none => rfl
  | some o =>
    rw [e l o q] at h
    cases h
theorem Same.seq {K : W.Frag} {H H' : Hp} {a : Addr} {xs : List V} (e : Same H H') (h : SqL K H a xs) : SqL K H' a xs := by
  rcases h with (h | ⟨o, h⟩) | h
  . exact .inl (.inl (e _ _ h))
  . exact .inl (.inr ⟨o, e _ _ h⟩)
  . exact .inr h
end L2
namespace L2
open PySem PySem.Spec PyProof.Rows
def clo (env : Env) : List (Str × NameKind) -> List (Str × Addr) -> List (Str × Addr)
  | [], cs => cs
  | (n, k) :: r, cs => if k == .free then (match env.cells.lookup n with | some a => clo env r ((n, a) :: cs) | none => clo env r cs) else clo env r cs
theorem closureFor_clo {scope : Scope} {env : Env} (h : ∀ n, (n, NameKind.free) ∈ scope.names -> ∃ c, env.cells.lookup n = some c) : closureFor scope env = pure (clo env scope.names []) := by
  simp only [closureFor]
  generalize ([] : List (Str × Addr)) = cs
  revert h
  generalize scope.names = l
  intro h
  induction l generalizing cs with
  | nil => rfl
  | cons x r ih =>
    obtain ⟨n, k⟩ := x
    have hr : ∀ n, (n, NameKind.free) ∈ r -> ∃ c, env.cells.lookup n = some c := fun n hn => h n (List.mem_cons_of_mem _ hn)
    by_cases hk : k = .free
    . subst hk
      obtain ⟨c, hc⟩ := h n List.mem_cons_self
      have q := ih ((n, c) :: cs) hr
      simp only [List.forIn_cons, clo, hc, beq_self_eq_true, if_true, cellOf]
      exact q
    . have hb : (k == NameKind.free) = false := by simpa using hk
      have q := ih cs hr
      simp only [List.forIn_cons, clo, hb, Bool.false_eq_true, if_false]
      exact q
theorem clo_sub {env : Env} {x : Str} {c : Addr} : ∀ {l : List (Str × NameKind)} {cs : List (Str × Addr)}, (∀ x c, cs.lookup x = some c -> env.cells.lookup x = some c) -> (clo env l cs).lookup x = some c -> env.cells.lookup x = some c
  | [], _, h, e => h x c e
  | (n, k) :: r, cs, h, e => by
    unfold clo at e
    by_cases hk : (k == NameKind.free) = true
    . rw [if_pos hk] at e
      cases q : env.cells.lookup n with
      | none => rw [q] at e; exact clo_sub h e
      | some a =>
        rw [q] at e
        refine clo_sub (cs := (n, a) :: cs) (fun y d z => ?_) e
        rw [List.lookup_cons] at z
        cases hy : y == n with
        | true =>
          rw [hy] at z
          have : y = n := by simpa using hy
          subst this
          rw [q]; exact z
        | false => rw [hy] at z; exact h y d z
    . rw [if_neg hk] at e
      exact clo_sub h e
theorem clo_mem {env : Env} {x : Str} {c : Addr} : ∀ {l : List (Str × NameKind)} {cs : List (Str × Addr)}, (x, c) ∈ clo env l cs -> (env.cells.lookup x = some c /\ (x, NameKind.free) ∈ l) \/ (x, c) ∈ cs
  | [], _, e => .inr e
  | (n, k) :: r, cs, e => by
    unfold clo at e
    by_cases hk : (k == NameKind.free) = true
    . rw [if_pos hk] at e
      have hk' : k = .free := by simpa using hk
      cases q : env.cells.lookup n with
      | none =>
        rw [q] at e
        exact (clo_mem e).imp (fun z => ⟨z.1, List.mem_cons_of_mem _ z.2⟩) id
      | some a =>
        rw [q] at e
        rcases clo_mem (cs := (n, a) :: cs) e with z | z
        . exact .inl ⟨z.1, List.mem_cons_of_mem _ z.2⟩
        . rcases List.mem_cons.mp z with z | z
          . cases z
            exact .inl ⟨q, by rw [hk']; exact List.mem_cons_self⟩
          . exact .inr z
    . rw [if_neg hk] at e
      exact (clo_mem e).imp (fun z => ⟨z.1, List.mem_cons_of_mem _ z.2⟩) id
theorem cellsFrom_append : ∀ (names : List (Str × NameKind)) (n : Nat) (acc : List (Str × Addr)), cellsFrom n names acc = cellsFrom n names [] ++ acc
  | [], _, _ => rfl
  | (x, k) :: r, n, acc => by
    unfold cellsFrom
    split
    . rw [cellsFrom_append r (n + 1) ((x, n) :: acc), cellsFrom_append r (n + 1) [(x, n)], List.append_assoc]; rfl
    . exact cellsFrom_append r n acc
theorem cellsFrom_name {x : Str} {c : Addr} : ∀ {names : List (Str × NameKind)} {n : Nat}, (x, c) ∈ cellsFrom n names [] -> (x, NameKind.cell) ∈ names
  | [], _, e => by cases e
  | (y, k) :: r, n, e => by
    unfold cellsFrom at e
    by_cases hk : (k == NameKind.cell) = true
    . rw [if_pos hk, cellsFrom_append] at e
      have hk' : k = .cell := by simpa using hk
      rcases List.mem_append.mp e with z | z
      . exact List.mem_cons_of_mem _ (cellsFrom_name z)
      . rw [List.mem_singleton] at z
        cases z
        rw [hk']; exact List.mem_cons_self
    . rw [if_neg hk] at e
      exact List.mem_cons_of_mem _ (cellsFrom_name e)
theorem cellsFrom_has {x : Str} : ∀ {names : List (Str × NameKind)} {n : Nat}, (x, NameKind.cell) ∈ names -> ∃ c, (x, c) ∈ cellsFrom n names []
  | (y, k) :: r, n, e => by
    unfold cellsFrom
    rcases List.mem_cons.mp e with z | z
    . cases z
      rw [if_pos (by rfl), cellsFrom_append]
      exact ⟨n, List.mem_append_right _ List.mem_cons_self⟩
    . split
      . rw [cellsFrom_append]
        obtain ⟨c, hc⟩ := cellsFrom_has (n := n + 1) z
        exact ⟨c, List.mem_append_left _ hc⟩
      . exact cellsFrom_has z
theorem lookup_app {α : Type} {x : Str} : ∀ {l₁ l₂ : List (Str × α)}, (l₁ ++ l₂).lookup x = match l₁.lookup x with | some c => some c | none => l₂.lookup x
  | [], _ => rfl
  | (n, c) :: r, l₂ => by
    rw [List.cons_append, List.lookup_cons, List.lookup_cons]
    cases hx : x == n with
    | true => rfl
    | false => exact lookup_app (l₁ := r)
theorem lookup_of_mem {α : Type} {x : Str} {c : α} : ∀ {l : List (Str × α)}, (x, c) ∈ l -> ∃ c', l.lookup x = some c'
  | (n, d) :: r, h => by
    rw [List.lookup_cons]
    cases hx : x == n with
    | true => exact ⟨d, rfl⟩
    | false =>
      rcases List.mem_cons.mp h with z | z
      . cases z; simp at hx
      . exact lookup_of_mem z
theorem clo_keeps {env : Env} {x : Str} : ∀ {l : List (Str × NameKind)} {cs : List (Str × Addr)}, (∃ c, cs.lookup x = some c) -> ∃ c, (clo env l cs).lookup x = some c
  | [], _, h => h
  | (n, k) :: r, cs, h => by
    unfold clo
    split
    . split
      . refine clo_keeps ?_
        rw [List.lookup_cons]
        cases hy : x == n with
        | true => exact ⟨_, rfl⟩
        | false => exact h
      . exact clo_keeps h
    . exact clo_keeps h
theorem clo_has {env : Env} {x : Str} (hx : ∃ c, env.cells.lookup x = some c) : ∀ {l : List (Str × NameKind)} {cs : List (Str × Addr)}, (x, NameKind.free) ∈ l -> ∃ c, (clo env l cs).lookup x = some c
  | (n, k) :: r, cs, h => by
    rcases List.mem_cons.mp h with e | e
    . cases e
      obtain ⟨c, hc⟩ := hx
      unfold clo
      rw [if_pos (by rfl), hc]
      refine clo_keeps ⟨c, ?_⟩
      simp [List.lookup_cons]
    . unfold clo
      split
      . split
        . exact clo_has hx e
        . exact clo_has hx e
      . exact clo_has hx e
def bcells (env : Env) (scope : Scope) (C : Addr) : List (Str × Addr) := cellsFrom (C + 1) scope.names (clo env scope.names [])
theorem bcells_cases {env : Env} {scope : Scope} {C : Addr} {x : Str} {c : Addr} (h : (bcells env scope C).lookup x = some c) :
    ((x, c) ∈ cellsFrom (C + 1) scope.names [] /\ (x, NameKind.cell) ∈ scope.names) \/ (env.cells.lookup x = some c /\ (x, NameKind.free) ∈ scope.names) := by
  have m := mem_of_lookup h
  unfold bcells at m
  rw [cellsFrom_append] at m
  rcases List.mem_append.mp m with z | z
  . exact .inl ⟨z, cellsFrom_name z⟩
  . rcases clo_mem z with y | y
    . exact .inr y
    . cases y
theorem bcells_free {env : Env} {scope : Scope} {C : Addr} {x : Str} (hx : ∃ c, env.cells.lookup x = some c) (hf : (x, NameKind.free) ∈ scope.names) (hn : (x, NameKind.cell) ∉ scope.names) : (bcells env scope C).lookup x = env.cells.lookup x := by
  obtain ⟨c, hc⟩ := clo_has (env := env) (cs := []) hx hf
  have hc' := clo_sub (env := env) (fun _ _ z => by simp at z) hc
  unfold bcells
  rw [cellsFrom_append, lookup_app]
  cases q : (cellsFrom (C + 1) scope.names []).lookup x with
  | some d => exact absurd (cellsFrom_name (mem_of_lookup q)) hn
  | none => rw [hc', <- hc]
def blk (X : Cx) (os : List Str) (fr : List Nat) (scope : Scope) (C : Addr) (fp : List Addr) (s₀ : Shared) (H₀ : Hp) : Cx :=
  { X with N := os ++ fr.map (fun j => X.N.getD j ""), s₀ := s₀, H₀ := H₀, env := compEnvC scope (bcells X.env scope C) C X.env, outer := X.stack, ex := fp, fn := fun x => scope.names.lookup x == some .cell, pn := [], xe := fun _ _ => False }
def frv (fr : List Nat) (σ : St) : St := fr.map fun j => (σ[j]?).join
def blkσ (n : Nat) (fr : List Nat) (σ : St) : St := List.replicate n none ++ frv fr σ
def Wk (σ0 σ2 : St) : Prop := σ2.length = σ0.length /\ ∀ (i : Nat) v, σ0[i]? = some (some v) -> σ2[i]? = some (some v)
def lcOk (outer : Scope) (scope : Scope) (N : List Str) (fr : List Nat) : Bool :=
  (scope.names.all fun p => (scope.names.lookup p.1 == some p.2) && (p.2 != .free || outer.names.lookup p.1 == some .cell)) &&
  (fr.all fun j => decide (j < N.length) && (outer.names.lookup (N.getD j "") == some .cell) && (scope.names.lookup (N.getD j "") == some .free))
theorem lookup_mem {x : Str} {k : NameKind} : ∀ {l : List (Str × NameKind)}, l.lookup x = some k -> (x, k) ∈ l
  | (n, j) :: r, h => by
    rw [List.lookup_cons] at h
    cases hx : x == n with
    | true =>
      rw [hx] at h
      have : x = n := by simpa using hx
      subst this
      cases h
      exact List.mem_cons_self
    | false => rw [hx] at h; exact List.mem_cons_of_mem _ (lookup_mem h)
theorem relabel_back {env : Env} {x : Str} {k : NameKind} : ∀ {names : List (Str × NameKind)},
    (names.map fun (n, k) => if (k == NameKind.free && env.scope.kind == .function && env.kindOf n == some .cell) then (n, NameKind.cell) else (n, k)).lookup x = some k →
    (x, k) ∈ names \/ (x, NameKind.free) ∈ names
  | [], h => by simp at h
  | (n, j) :: r, h => by
    rw [List.map_cons] at h
    dsimp only at h
    by_cases hc : (j == NameKind.free && env.scope.kind == .function && env.kindOf n == some .cell) = true
    . rw [if_pos hc, List.lookup_cons] at h
      have hj : j = .free := by
        have := (Bool.and_eq_true _ _ ▸ (Bool.and_eq_true _ _ ▸ hc).1).1
        simpa using this
      cases hx : x == n with
      | true =>
        have : x = n := by simpa using hx
        subst this
        subst hj
        exact .inr List.mem_cons_self
      | false =>
        rw [hx] at h
        exact (relabel_back h).imp (List.mem_cons_of_mem _) (List.mem_cons_of_mem _)
    . rw [if_neg hc, List.lookup_cons] at h
      cases hx : x == n with
      | true =>
        rw [hx] at h
        have : x = n := by simpa using hx
        subst this
        cases h
        exact .inl List.mem_cons_self
      | false =>
        rw [hx] at h
        exact (relabel_back h).imp (List.mem_cons_of_mem _) (List.mem_cons_of_mem _)
section
variable {X : Cx} {os : List Str} {fr : List Nat} {scope : Scope}
theorem lc_names (h : lcOk X.env.scope scope X.N fr = true) : ∀ p ∈ scope.names, scope.names.lookup p.1 = some p.2 /\ (p.2 = .free -> X.env.scope.names.lookup p.1 = some .cell) := fun p hp => by
  have q := List.all_eq_true.mp (Bool.and_eq_true _ _ ▸ h).1 p hp
  simp only [Bool.and_eq_true, bne_iff_ne, Bool.or_eq_true, beq_iff_eq, ne_eq] at q
  refine ⟨q.1, fun e => ?_⟩
  rcases q.2 with z | z
  . exact absurd e z
  . exact z
theorem lc_one (h : lcOk X.env.scope scope X.N fr = true) {x : Str} {a b : NameKind} (ha : (x, a) ∈ scope.names) (hb : (x, b) ∈ scope.names) : a = b := by
  have h1 := (lc_names h _ ha).1
  have h2 := (lc_names h _ hb).1
  rw [h1] at h2
  exact Option.some.inj h2
theorem lc_fr (h : lcOk X.env.scope scope X.N fr = true) : ∀ j ∈ fr, j < X.N.length /\ X.env.scope.names.lookup (X.N.getD j "") = some .cell /\ scope.names.lookup (X.N.getD j "") = some .free := fun j hj => by
  have q := List.all_eq_true.mp (Bool.and_eq_true _ _ ▸ h).2 j hj
  simp only [Bool.and_eq_true, beq_iff_eq, decide_eq_true_eq] at q
  exact ⟨q.1.1, q.1.2, q.2⟩
theorem lc_clos {pins : List (Addr × Obj)} {σ : St} {H : Hp} {s : Shared} (I : Inv X pins σ H s) (h : lcOk X.env.scope scope X.N fr = true) : ∀ n, (n, NameKind.free) ∈ scope.names -> ∃ c, X.env.cells.lookup n = some c := fun n hn =>
  I.ok.has n (.inl ((lc_names h _ hn).2 rfl))
theorem Inv.block {pins : List (Addr × Obj)} {σ : St} {H : Hp} {s : Shared} {fp : List Addr} {h₁ : Heap} {t' : Nat} (I : Inv X pins σ H s) (hk : scope.kind = .function) (h : lcOk X.env.scope scope X.N fr = true)
    (hf : ∀ b ∈ fp, FpOk X pins H b) (ho : ∀ b ∈ fp, ∃ o, s.heap.get? b = some o) (hns : h₁.Ns s.heap.objs.size fun _ => none) (hkeep : ∀ b o, s.heap.get? b = some o -> h₁.get? b = some o)
    (hcl : CellsOk h₁ (s.heap.objs.size + 1) (cellsFrom (s.heap.objs.size + 1) scope.names [])) :
    Inv (blk X os fr scope s.heap.objs.size fp s H) [] (blkσ os.length fr σ) H { s with heap := h₁, toks := t' } where
  ok := {
    mod := I.ok.mod
    kind := hk
    glob := I.ok.glob
    blt := I.ok.blt
    above := Nat.le_refl _
    inj := fun x y c e1 e2 => by
      have old : ∀ {z : Str}, X.env.cells.lookup z = some c -> c < s.heap.objs.size := fun {z} e => by
        obtain ⟨v, q⟩ := I.cell z c e
        exact q.lt
      rcases bcells_cases e1 with z1 | z1 <;> rcases bcells_cases e2 with z2 | z2
      . exact name_of_addr hcl.apart z1.1 z2.1
      . exact absurd (Nat.lt_of_lt_of_le (Nat.lt_succ_of_lt (old z2.1)) (hcl.empty _ _ z1.1).2) (Nat.lt_irrefl _)
      . exact absurd (Nat.lt_of_lt_of_le (Nat.lt_succ_of_lt (old z1.1)) (hcl.empty _ _ z2.1).2) (Nat.lt_irrefl _)
      . exact I.ok.inj x y c z1.1 z2.1
    has := fun x hx => by
      have hm : (x, NameKind.cell) ∈ scope.names \/ (x, NameKind.free) ∈ scope.names := by
        rcases hx with e | e
        . exact relabel_back e
        . rcases relabel_back e with z | z
          . exact .inr z
          . exact .inr z
      rcases hm with z | z
      . obtain ⟨c, hc⟩ := cellsFrom_has (n := s.heap.objs.size + 1) z
        refine lookup_of_mem (c := c) ?_
        show (x, c) ∈ bcells _ _ _
        unfold bcells
        rw [cellsFrom_append]
        exact List.mem_append_left _ hc
      . obtain ⟨c, hc⟩ := lc_clos I h x z
        refine ⟨c, ?_⟩
        show (bcells _ _ _).lookup x = _
        rw [bcells_free ⟨c, hc⟩ z (fun w => by cases lc_one h z w)]
        exact hc
    cab := fun x c hx e => by
      have hx' : scope.names.lookup x = some .cell := by simpa using (show (scope.names.lookup x == some .cell) = true from hx)
      rcases bcells_cases e with z | z
      . exact Nat.le_of_lt (Nat.lt_of_succ_le (hcl.empty _ _ z.1).2)
      . cases lc_one h (lookup_mem hx') z.2
    hd := I.ok.hd
    frames := I.ok.frames
    stk := .inl rfl
    exf := fun b hb => by
      obtain ⟨o, e⟩ := ho b hb
      refine ⟨Nat.ne_of_lt (Heap.lt_size e), fun x c e1 => ?_⟩
      rcases bcells_cases e1 with z | z
      . intro w
        have := (hcl.empty _ _ z.1).2
        rw [w] at this
        exact absurd (Nat.lt_of_lt_of_le (Nat.lt_succ_of_lt (Heap.lt_size e)) this) (Nat.lt_irrefl _)
      . exact (hf b hb).2.2.2.2.1 x c z.1
    bs := I.bs
    bsz := Nat.le_trans I.ok.bsz I.sz
    noex := fun b o e hb => by
      rcases (hf b hb).2.2.2.1 with z | z
      . exact I.ok.noex b o e z
      . exact absurd (Nat.lt_of_lt_of_le (Heap.lt_size e) (Nat.le_trans I.ok.bsz z)) (Nat.lt_irrefl _)
    exfs := fun b hb hz => by
      rcases List.mem_cons.mp (I.stkSub b hz) with e | e
      . exact (hf b hb).2.1 e
      . exact (hf b hb).2.2.1 e
    funs := I.stack
    frf := I.stkFree }
  os := rfl
  bare := I.bare
  base := Un.kept hkeep
  loc := by
    refine ⟨_, hns, fun i x v e1 e2 _ => ?_⟩
    have hi : os.length <= i := by
      refine Nat.le_of_not_lt fun hlt => ?_
      unfold blkσ at e2
      rw [List.getElem?_append_left (by simpa using hlt)] at e2
      rw [List.getElem?_replicate] at e2
      split at e2 <;> cases e2
    have e1' : (fr.map fun j => X.N.getD j "")[i - os.length]? = some x := by
      rw [<- List.getElem?_append_right (l₁ := os) hi]; exact e1
    have e2' : (fr.map fun j => (σ[j]?).join)[i - os.length]? = some (some v) := by
      have z : (List.replicate os.length (none : Option V)).length <= i := by simpa using hi
      unfold blkσ at e2
      rw [List.getElem?_append_right z, List.length_replicate] at e2
      exact e2
    rw [List.getElem?_map] at e1' e2'
    cases q : fr[i - os.length]? with
    | none => rw [q] at e1'; cases e1'
    | some j =>
      rw [q] at e1' e2'
      have hj : j ∈ fr := List.mem_of_getElem? q
      obtain ⟨hjl, hjc, hjf⟩ := lc_fr h j hj
      have ex : X.N.getD j "" = x := Option.some.inj e1'
      have ev : (σ[j]?).join = some v := Option.some.inj e2'
      have hN : X.N[j]? = some x := by
        rw [<- ex, List.getD_eq_getElem?_getD, List.getElem?_eq_getElem hjl]; rfl
      have hσ : σ[j]? = some (some v) := by
        cases r : σ[j]? with
        | none => rw [r] at ev; cases ev
        | some y => rw [r] at ev; exact congrArg some ev
      rw [ex] at hjc hjf
      obtain ⟨m, _, hl⟩ := I.loc
      obtain ⟨u, r, lk⟩ := hl j x v hN hσ (.inr (.inl hjc))
      refine ⟨u, r, ?_⟩
      have kc : Env.kindOf X.env x = some .cell := hjc
      rcases lk with ⟨k1, _⟩ | ⟨_, c, ec, z⟩
      . rw [kc] at k1; cases k1
      . have hfm := lookup_mem hjf
        have ec' : (bcells X.env scope s.heap.objs.size).lookup x = some c := by
          rw [bcells_free ⟨c, ec⟩ hfm (fun w => by cases lc_one h hfm w)]; exact ec
        refine .inr ⟨?_, c, ec', ?_⟩
        . have kk : ∀ {names : List (Str × NameKind)}, names.lookup x = some .free -> (names.map fun (n, k) => if (k == NameKind.free && X.env.scope.kind == .function && X.env.kindOf n == some .cell) then (n, NameKind.cell) else (n, k)).lookup x = some .cell := by
            intro names
            induction names with
            | nil => intro e; simp at e
            | cons p r ih =>
              obtain ⟨n, k⟩ := p
              intro e
              rw [List.lookup_cons] at e
              rw [List.map_cons]
              dsimp only
              cases hx : x == n with
              | true =>
                rw [hx] at e
                cases e
                have hxn : x = n := by simpa using hx
                subst hxn
                rw [if_pos (by rw [I.ok.kind, kc]; rfl), List.lookup_cons]
                simp
              | false =>
                rw [hx] at e
                by_cases hc : (k == NameKind.free && X.env.scope.kind == .function && X.env.kindOf n == some .cell) = true
                . rw [if_pos hc, List.lookup_cons, hx]; exact ih e
                . rw [if_neg hc, List.lookup_cons, hx]; exact ih e
          exact .inl (kk hjf)
        . obtain ⟨o, ho', hd⟩ := z
          exact ⟨o, hkeep _ _ ho', hd⟩
  cell := fun x c e => by
    rcases bcells_cases e with z | z
    . exact ⟨_, (hcl.empty _ _ z.1).1⟩
    . obtain ⟨v, o, ho', hd⟩ := I.cell x c z.1
      exact ⟨v, o, hkeep _ _ ho', hd⟩
  free := I.hok.fresh (Nat.le_refl _)
  freeC := fun x c e => by
    rcases bcells_cases e with z | z
    . exact I.hok.fresh (Nat.le_of_lt (Nat.lt_of_succ_le (hcl.empty _ _ z.1).2))
    . exact I.freeC x c z.1
  pin := fun p hp => nomatch hp
  hok := I.hok.kept hkeep
  len := by simp [blkσ, frv, blk]
theorem Inv.unblock {pins : List (Addr × Obj)} {σ σ' : St} {H H' : Hp} {s s' : Shared} {fp : List Addr} {C : Addr} (I : Inv X pins σ H s) (hf : ∀ b ∈ fp, FpOk X pins H b) (J : Inv (blk X os fr scope C fp s H) [] σ' H' s') : Inv X pins σ H' s' :=
  I.call' J.os J.base J.hok J.bare fun b hb => ⟨(hf b hb).2.2.2.1, (hf b hb).2.1, (hf b hb).2.2.2.2.1, (hf b hb).2.2.2.2.2⟩
theorem Inv.letgo {pins : List (Addr × Obj)} {σ : St} {H H₀ : Hp} {s s₀ : Shared} {C : Addr} {h' : Heap} (I₀ : Inv X pins σ₀ H₀ s₀) (I : Inv X pins σ H s) (hn : H C = none) (hC : s₀.heap.objs.size <= C) (hs : Heap.SameBut C s.heap h') : Inv X pins σ H { s with heap := h' } :=
  I.turned (t' := s.toks) (it := C) (fun b o hb e => (hs.2 b hb).trans e) hn (Nat.ne_of_gt (Nat.lt_of_lt_of_le I₀.lt hC)) (.inr (Nat.le_trans I₀.sz hC))
    (fun x c e z => by
      obtain ⟨v, q⟩ := I₀.cell x c e
      exact absurd (Nat.lt_of_lt_of_le q.lt (by rw [z]; exact hC)) (Nat.lt_irrefl _))
    fun p hp z => absurd (Nat.lt_of_lt_of_le (Heap.lt_size (I₀.pin p hp).1) (by rw [z]; exact hC)) (Nat.lt_irrefl _)
end
def PIfs (X : Cx) (ifs : List Expr) (t : TT) : Prop :=
  ∀ (pins : List (Addr × Obj)) (s : Shared) (σ : St) (H : Hp) (Q : Bool -> Hp -> Prop), Inv X pins σ H s -> t σ H Q →
    wpAny (model X.prog X.w) X.A (forIn ifs true fun c r => if r = true then do let ok <- isTrue c X.env (eval c X.env); pure (ForInStep.yield ok) else pure (ForInStep.yield r)) (TP X pins σ Q) X.xe s
def tTrue : TT := fun _ H Q => Q true H
theorem pifs_nil {X : Cx} : PIfs X [] tTrue := fun _ _ _ H _ I h => wpAny_tests_nil ⟨H, I, h⟩
theorem newEnv_cells {M : Model} {A : Around} {E : Value -> Shared -> Prop} {s : Shared} {scope : Scope} {globals : Addr} {closure : List (Str × Addr)} {qual : Str} {env : Env} {Q : Env -> Shared -> Prop}
    (hQ : Q { scope, locals := s.heap.objs.size, globals, cells := cellsFrom (s.heap.objs.size + 1) scope.names closure, qual, func := none, code := env.code, frame := env.frame, builtins := env.builtins } { s with heap := pushCells (s.heap.push { cls := .type "dict", data := .dict #[] }) scope.names }) :
    wpAny M A (newFunctionEnv scope globals closure [] qual none .none (some env)) Q E s := by
  simp only [newFunctionEnv, Option.isSome_some, if_true]
  refine wpAny_bind (wpAny_alloc ?_)
  refine wpAny_bind (wpAny_layCells _ (fun name kind cells => by cases hkc : kind == NameKind.cell <;> simp [hkc]) _ _ _ _ ?_)
  rw [show ({ s with heap := s.heap.push { cls := .type "dict", data := .dict #[] } } : Shared).heap.objs.size = s.heap.objs.size + 1 from Heap.size_push ..]
  simp only [List.forIn_nil]
  exact wpAny_bind (wpAny_pure (wpAny_pure hQ))
theorem compLoop_any {prog : Program} {w : World} {A : Around} {R : Result -> Shared -> Prop} {s : Shared} {elt target iter : Expr} {ifs : List Expr} {scope : Scope} {pos : Pos} {it acc : Value} {env : Env} (I : Nat -> Shared -> Prop)
    (turn : ∀ n s, I n s -> wpAny (model prog w) A (pyNext it) (fun r s₁ => match r with
      | none => R (.ok .next) s₁
      | some v => wpAny (model prog w) A (letOwnedTupleGo target it v) (fun _ s₀ => wpAny (model prog w) A (assign target env v) (fun _ s₂ =>
          wpAny (model prog w) A (forIn ifs true fun c r => if r = true then do let ok <- isTrue c env (eval c env); pure (ForInStep.yield ok) else pure (ForInStep.yield r)) (fun ok s₃ =>
            if ok = true then wpAny (model prog w) A (eval elt env) (fun x s₄ =>
              wpAny (model prog w) A (call (.builtin "list.append") [acc, x]) (fun _ s₅ => ∃ m, m < n /\ I m s₅) (fun _ _ => False) s₄) (fun _ _ => False) s₃
            else ∃ m, m < n /\ I m s₃) (fun _ _ => False) s₂) (fun _ _ => False) s₀) (fun _ _ => False) s₁) (fun _ _ => False) s)
    (n : Nat) (h : I n s) :
    codeAny (model prog w) A (.compLoop (.ListComp elt [⟨target, iter, ifs, 0⟩] scope pos) 0 it acc env) R s := by
  refine codeAny_loop rfl I (fun n s hI => ?_) n h
  show wpAny _ A ((compTurn (.ListComp elt [⟨target, iter, ifs, 0⟩] scope pos) 0 it acc env).onRaise (fun x => do noteFrame x env; theTreesLotGoes x)) _ _ s
  refine wpAny_noted ?_
  rw [compTurn_list]
  refine wpAny_bind (wpAny_standAt (wpAny_bind (wpAny_mono (turn n s hI) (fun r s₁ h₁ => ?_) fun _ _ h' => h'.elim)))
  cases r with
  | none => exact wpAny_pure h₁
  | some v =>
    refine wpAny_bind (wpAny_mono h₁ (fun _ s₀ h₀ => ?_) fun _ _ h' => h'.elim)
    refine wpAny_bind (wpAny_mono h₀ (fun _ s₂ h₂ => wpAny_bind (wpAny_mono h₂ (fun ok s₃ h₃ => ?_) fun _ _ h' => h'.elim)) fun _ _ h' => h'.elim)
    cases ok with
    | false => exact wpAny_pure ⟨rfl, h₃⟩
    | true =>
      exact wpAny_bind (wpAny_bind (wpAny_mono h₃ (fun x s₄ h₄ => wpAny_bind (wpAny_mono h₄ (fun _ s₅ h₅ => wpAny_pure (wpAny_pure ⟨rfl, h₅⟩)) fun _ _ h' => h'.elim)) fun _ _ h' => h'.elim))
def lcW (n : Nat) (fr : List Nat) (g : TG) (te : TE) (σ : St) (J : It) (H1 : Hp) (p : Addr) (D : Hp -> Prop) : Prop :=
  ∃ W : Nat -> Nat -> List V -> Hp -> Prop, (∃ m, W 0 m [] (upd H1 p (.lst []))) /\ ∀ i m ys H, W i m ys H →
    (J.stop i H /\ D H) \/ (J.go i H /\ ∀ x H', J.yld i H x H' -> g x (blkσ n fr σ) H' fun σ2 H2 => Wk (blkσ n fr σ) σ2 /\ te σ2 H2 fun v H3 => H3 p = some (.lst ys) /\ ys.length < sizeLine /\ ∃ m', m' < m /\ W (i + 1) m' (ys ++ [v]) (upd H3 p (.lst (ys ++ [v]))))
def tLC (n : Nat) (fr : List Nat) (wi : TI) (g : TG) (te : TE) : TE := fun σ H Q => wi σ H fun J H1 => ∀ p, H1 p = none -> lcW n fr g te σ J H1 p (Q (.ref p))
def lcI (n : Nat) (fr : List Nat) (g : TG) (tc : TT) (te : TE) (σ : St) (J : It) (H1 : Hp) (p : Addr) (D : Hp -> Prop) : Prop :=
  ∃ W : Nat -> Nat -> List V -> Hp -> Prop, (∃ m, W 0 m [] (upd H1 p (.lst []))) /\ ∀ i m ys H, W i m ys H →
    (J.stop i H /\ D H) \/ (J.go i H /\ ∀ x H', J.yld i H x H' -> g x (blkσ n fr σ) H' fun σ2 H2 => Wk (blkσ n fr σ) σ2 /\ tc σ2 H2 fun ok H2' =>
      if ok = true then te σ2 H2' fun v H3 => H3 p = some (.lst ys) /\ ys.length < sizeLine /\ ∃ m', m' < m /\ W (i + 1) m' (ys ++ [v]) (upd H3 p (.lst (ys ++ [v]))) else ∃ m', m' < m /\ W (i + 1) m' ys H2')
theorem lcI_true {n : Nat} {fr : List Nat} {g : TG} {te : TE} {σ : St} {J : It} {H1 : Hp} {p : Addr} {D : Hp -> Prop} : lcI n fr g tTrue te σ J H1 p D = lcW n fr g te σ J H1 p D := by
  unfold lcI lcW tTrue
  simp only [if_true]
section
variable {X : Cx} {os : List Str} {fr : List Nat} {scope : Scope} {elt tg iter : Expr} {pos : Pos} {wi : TI} {g : TG} {te : TE}
theorem lc_block {ifs : List Expr} {tc : TT} {pins : List (Addr × Obj)} {σ : St} {s2 : Shared} {D : Addr -> Hp -> Prop} {itv : Value} {RR : Value -> Addr -> Result -> Shared -> Prop}
    (hc : X.calm = true) (hg : ∀ C fp s₀ H₀, PG (blk X os fr scope C fp s₀ H₀) tg g) (ht : ∀ C fp s₀ H₀, PIfs (blk X os fr scope C fp s₀ H₀) ifs tc) (he : ∀ C fp s₀ H₀, PE (blk X os fr scope C fp s₀ H₀) elt te)
    (hk : scope.kind = .function) (hok : lcOk X.env.scope scope X.N fr = true)
    (h2 : PIE X pins σ tg (fun J H1 => ∀ p, H1 p = none -> lcI os.length fr g tc te σ J H1 p (D p)) itv s2)
    (hRR : ∀ p C s3 H3 s' H', Inv X pins σ H3 s3 -> s3.heap.objs.size = C -> H' C = none -> Inv X pins σ H' s' -> (∃ m, s'.heap.Ns C m) -> D p H' -> RR (.ref p) C (.ok .next) s') :
    wpAny (model X.prog X.w) X.A (newList []) (fun acc s₃ => wpAny (model X.prog X.w) X.A (newFunctionEnv scope X.env.globals (clo X.env scope.names []) [] X.env.qual none .none (some X.env)) (fun cenv s₄ =>
      codeAny (model X.prog X.w) X.A (.compStart (.ListComp elt [⟨tg, iter, ifs, 0⟩] scope pos) 0 itv acc { cenv with scope := relabel scope X.env }) (RR acc cenv.locals) s₄) X.xe s₃) X.xe s2 := by
  obtain ⟨it, fp, tn, J, H2, e, I2, T, st2, f2, hR⟩ := h2
  subst e
  refine wpAny_newObj_type ?_
  have fresh : H2 s2.heap.objs.size = none := I2.fresh
  obtain ⟨W, ⟨m0, w0⟩, turn⟩ := hR s2.heap.objs.size fresh
  have I3 : Inv X pins σ (upd H2 s2.heap.objs.size (.lst [])) { s2 with heap := s2.heap.push { cls := .type "list", dict := none, data := .seq ([] : List Value).toArray } } := I2.lnew (ys := []) (its := []) (t' := s2.toks) .nil (Nat.zero_le _)
  have obj2 := T.obj _ _ st2
  have ne2 : ∀ b ∈ fp, b ≠ s2.heap.objs.size := fun b hb => by
    obtain ⟨o, e, _⟩ := obj2 b hb
    exact Nat.ne_of_lt (Heap.lt_size e)
  have st3 : tn 0 (s2.heap.push { cls := .type "list", dict := none, data := .seq ([] : List Value).toArray }) := T.keep _ _ _ st2 fun b hb o e => Heap.get?_push_of_some _ e
  have f3 : ∀ b ∈ fp, FpOk X pins (upd H2 s2.heap.objs.size (.lst [])) b := fun b hb => ⟨by rw [upd_ne (ne2 b hb)]; exact (f2 b hb).1, (f2 b hb).2⟩
  generalize hs3 : ({ s2 with heap := s2.heap.push { cls := .type "list", dict := none, data := .seq ([] : List Value).toArray } } : Shared) = s3 at I3 ⊢
  have st3' : tn 0 s3.heap := by rw [<- hs3]; exact st3
  generalize s2.heap.objs.size = p at *
  refine newEnv_cells ?_
  have hns : (pushCells (s3.heap.push { cls := .type "dict", data := .dict #[] }) scope.names).Ns s3.heap.objs.size fun _ => none := (Heap.Ns.new s3.heap (.type "dict")).keeps (pushCells_keeps _ _)
  have hkeep : ∀ b o, s3.heap.get? b = some o -> (pushCells (s3.heap.push { cls := .type "dict", data := .dict #[] }) scope.names).get? b = some o := fun b o e => pushCells_keeps _ _ b o (Heap.get?_push_of_some _ e)
  have hcl := cellsFrom_ok scope.names (s3.heap.push { cls := .type "dict", data := .dict #[] }) (s3.heap.objs.size + 1) [] ⟨fun _ _ hm => (nomatch hm), List.Pairwise.nil⟩ (by rw [Heap.size_push]; exact Nat.le_refl _)
  rw [Heap.size_push] at hcl
  generalize pushCells (s3.heap.push { cls := .type "dict", data := .dict #[] }) scope.names = h₁ at hns hkeep hcl ⊢
  have obj3 : ∀ b ∈ fp, ∃ o, s3.heap.get? b = some o := fun b hb => by
    obtain ⟨o, e, _⟩ := T.obj _ _ st3' b hb
    exact ⟨o, e⟩
  have J0 := I3.block (os := os) (t' := s3.toks) hk hok f3 obj3 (h₁ := h₁) hns hkeep hcl
  have ok0 := J0.ok
  have fpY : ∀ {H' : Hp}, (∀ b ∈ fp, H' b = none) -> ∀ b ∈ fp, FpOk (blk X os fr scope s3.heap.objs.size fp s3 (upd H2 p (.lst []))) [] H' b := fun hn b hb =>
    ⟨hn b hb, (ok0.exf b hb).1, ok0.exfs b hb, .inl hb, (ok0.exf b hb).2, fun q hq => nomatch hq⟩
  have st4 : tn 0 h₁ := T.keep _ _ _ st3' fun b hb o e => hkeep b o e
  have fr0 : ∀ b ∈ fp, upd H2 p (.lst []) b = none := fun b hb => (f3 b hb).1
  have loop : ∀ s4 : Shared, s4 = { s3 with heap := h₁, toks := s3.toks } →
      codeAny (model X.prog X.w) X.A (.compLoop (.ListComp elt [⟨tg, iter, ifs, 0⟩] scope pos) 0 (.ref it) (.ref p) (compEnvC scope (bcells X.env scope s3.heap.objs.size) s3.heap.objs.size X.env)) (RR (.ref p) s3.heap.objs.size) s4 := by
    rintro s4 rfl
    refine compLoop_any (fun n s' => ∃ i ys H', Inv (blk X os fr scope s3.heap.objs.size fp s3 (upd H2 p (.lst []))) [] (blkσ os.length fr σ) H' s' /\ tn i s'.heap /\ (∀ b ∈ fp, H' b = none) /\ W i n ys H') ?_ m0 ⟨0, [], _, J0, st4, fr0, w0⟩
    rintro n s5 ⟨i, ys, H5, I5, st5, fr5, w5⟩
    rcases turn i n ys H5 w5 with ⟨stop, qd⟩ | ⟨go, step⟩
    . refine thn (T.done (blk X os fr scope s3.heap.objs.size fp s3 (upd H2 p (.lst []))) rfl rfl rfl hc i [] s5 _ H5 (fun _ _ => False) I5 (fpY fr5) st5 stop) fun r s6 ⟨hr, I6⟩ => ?_
      subst hr
      exact hRR p _ s3 _ s6 H5 I3 rfl I6.free (I3.unblock f3 I6) (let ⟨m, hm, _⟩ := I6.loc; ⟨m, hm⟩) qd
    . refine thn (T.item (blk X os fr scope s3.heap.objs.size fp s3 (upd H2 p (.lst []))) rfl rfl rfl hc i [] s5 _ H5 (fun _ _ => False) I5 (fpY fr5) st5 go) fun r s6 ⟨u, hr, h6⟩ => ?_
      subst hr
      refine thn h6 fun _ s7 ⟨x, H7, I7, r7, y7, st7, fr7⟩ => ?_
      have I7' := I7.pinned (fpY fr7) (T.obj _ _ st7)
      refine thn (hg _ _ _ _ _ s7 _ H7 x u _ I7' r7 (step x H7 y7)) fun _ s8 ⟨σ8, H8, I8, wk8, q8⟩ => ?_
      have again : ∀ {H' : Hp} {s' : Shared} {zs : List V} {m' : Nat}, Inv (blk X os fr scope s3.heap.objs.size fp s3 (upd H2 p (.lst []))) ([] ++ pinsAt fp s7.heap) σ8 H' s' -> m' < n -> W (i + 1) m' zs H' →
          ∃ m, m < n /\ ∃ i ys H', Inv (blk X os fr scope s3.heap.objs.size fp s3 (upd H2 p (.lst []))) [] (blkσ os.length fr σ) H' s' /\ tn i s'.heap /\ (∀ b ∈ fp, H' b = none) /\ W i m ys H' := fun {H' s' zs m'} J' hm' w' => by
        refine ⟨m', hm', i + 1, zs, H', (J'.weak wk8.1.symm fun i v e => wk8.2 i v e).unpinned, T.keep _ _ _ st7 fun b hb o e => (J'.pin (b, o) (List.mem_append_right _ (List.mem_append_right _ (mem_pinsAt hb e)))).1, fun b hb => ?_, w'⟩
        obtain ⟨o, e, d⟩ := T.obj _ _ st7 b hb
        exact (J'.pin (b, o) (List.mem_append_right _ (List.mem_append_right _ (mem_pinsAt hb e)))).2.1
      refine thn (ht _ _ _ _ _ s8 σ8 H8 _ I8 q8) fun ok s9 ⟨H9, I9, q9⟩ => ?_
      cases ok with
      | false =>
        obtain ⟨m', hm', w9⟩ := q9
        exact again I9 hm' w9
      | true =>
        refine thn (he _ _ _ _ _ s9 σ8 H9 _ I9 q9) fun y s10 ⟨v, H10, I10, r10, hp10, hz10, m', hm', w10⟩ => ?_
        refine thn (mt_append (X := blk X os fr scope s3.heap.objs.size fp s3 (upd H2 p (.lst []))) _ s10 σ8 H10 (.ref p) [v] (.ref p) [y] (fun _ H' => H' = upd H10 p (.lst (ys ++ [v]))) I10 rfl (.cons r10 .nil) ⟨p, ys, v, rfl, rfl, hp10, hz10, rfl⟩) fun _ s11 ⟨_, H11, I11, _, e11⟩ => ?_
        subst e11
        exact again I11 hm' w10
  exact codeAny_compStart_list (loop _ rfl) (T.self _ 0 _ _ _ st4 (loop _ rfl))
theorem pe_lc (os : List Str) (fr : List Nat) (hc : X.calm = true) (hi : PI X tg iter wi) (hg : ∀ C fp s₀ H₀, PG (blk X os fr scope C fp s₀ H₀) tg g) (he : ∀ C fp s₀ H₀, PE (blk X os fr scope C fp s₀ H₀) elt te)
    (hk : scope.kind = .function := by rfl) (hok : lcOk X.env.scope scope X.N fr = true := by rfl) (hs : ∀ x, foldedSetIterable iter X.env x = pure x := by intro _; rfl) :
    PE X (.ListComp elt [⟨tg, iter, [], 0⟩] scope pos) (tLC os.length fr wi g te) := by
  intro pins s σ H Q I h
  unfold tLC at h
  simp only [<- lcI_true] at h
  rw [eval_ListComp]
  refine wpAny_comprehension_free (use := none) rfl hs (closureFor_clo (lc_clos I hok)) hk (fun x hx hl => by have := (lc_names hok x hx).1; rw [hl] at this; exact this) (thn (hi pins s σ H _ I h) fun v s1 h1 => thn h1 fun itv s2 h2 => ?_)
  refine lc_block (os := os) (D := fun p H' => Q (.ref p) H') (RR := fun acc C => compPost (model X.prog X.w) X.A X.xe none (EP X pins σ Q) acc C) hc hg (fun _ _ _ _ => pifs_nil) he hk hok h2 ?_
  intro p C s3 H3 s' H' I3 eC hn I' ⟨m, hm⟩ q
  refine ⟨m, hm, fun h' hs' => ⟨.ref p, H', I3.letgo I' hn (by omega) hs', rfl, q⟩⟩
theorem ps_lc {i : Nat} {x : Str} {pos' spos : Pos} (os : List Str) (fr : List Nat) (hN : X.N.Nodup) (hi' : X.N[i]? = some x) (hx : X.env.scope.names.lookup x = some .local)
    (hc : X.calm = true) (hi : PI X tg iter wi) (hg : ∀ C fp s₀ H₀, PG (blk X os fr scope C fp s₀ H₀) tg g) (he : ∀ C fp s₀ H₀, PE (blk X os fr scope C fp s₀ H₀) elt te)
    (hsw : swapsWith (.ListComp elt [⟨tg, iter, [], 0⟩] scope pos) (some (.Name x pos')) spos.line X.env = pure true := by rfl)
    (hk : scope.kind = .function := by rfl) (hok : lcOk X.env.scope scope X.N fr = true := by rfl) (hs : ∀ x, foldedSetIterable iter X.env x = pure x := by intro _; rfl) :
    PS X (.Assign [.Name x pos'] (.ListComp elt [⟨tg, iter, [], 0⟩] scope pos) spos) (tAsg (tLC os.length fr wi g te) (gName i)) := by
  intro pins s σ H D I h
  unfold tAsg tLC at h
  simp only [<- lcI_true] at h
  rw [exec_Assign_Name_used _ _ _ _ hsw]
  refine wpAny_bind (wpAny_standAt (wpAny_bind ?_))
  show wpAny _ X.A (do let _ <- comprehension (.ListComp elt [⟨tg, iter, [], 0⟩] scope pos) scope X.env _ (newList []) false (eval iter X.env) (some (assign (.Name x pos') X.env))) _ _ s
  refine wpAny_bind (wpAny_mono (wpAny_comprehension_free (use := some (assign (.Name x pos') X.env)) (Q := fun _ s' => SP X pins D .next s') rfl hs (closureFor_clo (lc_clos I hok)) hk (fun x hx hl => by have := (lc_names hok x hx).1; rw [hl] at this; exact this)
    (thn (hi pins s σ H _ I h) fun v s1 h1 => thn h1 fun itv s2 h2 => ?_)) (fun _ s' hq => wpAny_pure (wpAny_pure hq)) fun _ _ e => e)
  refine lc_block (os := os) (D := fun p H' => D.nx (σ.set i (some (.ref p))) H') (RR := fun acc C => compPost (model X.prog X.w) X.A X.xe (some (assign (.Name x pos') X.env)) (fun _ s' => SP X pins D .next s') acc C) hc hg (fun _ _ _ _ => pifs_nil) he hk hok h2 ?_
  intro p C s3 H3 s' H' I3 eC hn I' ⟨m, hm⟩ q
  show wpAny _ X.A (assign (.Name x pos') X.env (.ref p)) _ _ _
  refine wpAny_assign_Name (store_ok2 (v := .ref p) I' hN hi' (.inl hx) rfl (fun s'' I'' ⟨a, hsa, ha⟩ => ?_) (.inr hx))
  have hCa : C ≠ a := by
    rcases ha with e | e
    . rw [e]; exact Nat.ne_of_gt (by rw [<- eC]; exact I3.lt)
    . obtain ⟨v, z⟩ := I3.cell x a e
      exact Nat.ne_of_gt (by rw [<- eC]; exact z.lt)
  exact ⟨m, hm.sameBut hsa hCa, fun h' hs' => ⟨_, H', I3.letgo I'' hn (by omega) hs', q⟩⟩
end
end L2
namespace L2
open PySem PySem.Spec PyProof.Rows
section
variable {X : Cx} {pins : List (Addr × Obj)} {σ : St} {H : Hp} {s : Shared} {a : Addr} {xs : List V}
abbrev SqA (K : W.Frag) (H : Hp) (a : Addr) (xs : List V) : Prop := SqL K H a xs \/ SqT K H a xs
theorem kept_it {h' : Heap} {o : Obj} {h : Heap} (hk : ∀ b x, b ∉ [h.objs.size] -> (h.push o).get? b = some x -> h'.get? b = some x) : ∀ b x, h.get? b = some x -> h'.get? b = some x :=
  fun b x e => hk b x (fun hm => by rw [List.mem_singleton.mp hm] at e; exact Nat.lt_irrefl _ (Heap.lt_size e)) (Heap.get?_push_of_some _ e)
theorem seq_walk (hc : X.calm = true) (I : Inv X pins σ H s) (h : SqA X.K H a xs) : ∃ its : List Value, Vals xs its /\ ∀ (Q : Value -> Shared -> Prop) (E : Value -> Shared -> Prop),
    (∀ (o : Obj) (St : Nat -> Heap -> Prop), Walks X.prog X.w X.A.in1 s.heap.objs.size [s.heap.objs.size, a] [s.heap.objs.size] its.toArray.size (fun i v => its.toArray[i]? = some v) St -> St 0 (s.heap.push o) →
      (∀ b ∈ [s.heap.objs.size, a], b < (s.heap.push o).objs.size) -> Q (.ref s.heap.objs.size) { s with heap := s.heap.push o }) -> wpAny (model X.prog X.w) X.A.in1 (pyIter (.ref a)) Q E s := by
  have hh := I.ok.hd hc
  have lt2 : ∀ (o : Obj), a < s.heap.objs.size -> ∀ b ∈ [s.heap.objs.size, a], b < (s.heap.push o).objs.size := fun o hlt b hb => by
    rw [Heap.size_push]
    rcases List.mem_cons.mp hb with rfl | hb
    . exact Nat.lt_succ_self _
    . rw [List.mem_singleton.mp hb]; exact Nat.lt_succ_of_lt hlt
  rcases h with h | h
  . obtain ⟨its, r, p, hz⟩ := I.list h
    have hl := p.isList
    have hlt : a < s.heap.objs.size := by obtain ⟨_, e, _⟩ := hl; exact Heap.lt_size e
    refine ⟨its, r, fun Q E hQ => wpAny_pyIter_list hl ?_⟩
    exact hQ _ _ (Walks.list (A := X.A.in1) hh _ a (Nat.ne_of_lt hlt) its.toArray) ⟨⟨_, Heap.get?_push_size _ rfl, rfl, rfl⟩, hl.push _⟩ (lt2 _ hlt)
  . obtain ⟨its, r, p, hz⟩ := I.tuple h
    have hl : s.heap.IsTuple a its.toArray := p
    have hlt : a < s.heap.objs.size := by obtain ⟨_, e, _⟩ := hl; exact Heap.lt_size e
    refine ⟨its, r, fun Q E hQ => wpAny_pyIter_tuple hl ?_⟩
    exact hQ _ _ (Walks.tuple (A := X.A.in1) hh _ a (Nat.ne_of_lt hlt) its.toArray) ⟨⟨_, Heap.get?_push_size _ rfl, rfl, rfl⟩, hl.push _⟩ (lt2 _ hlt)
theorem vals_at {ys : List V} {its : List Value} (r : Vals ys its) {i : Nat} {v : Value} (e : its.toArray[i]? = some v) : ∃ y, ys[i]? = some y /\ RelV y v := by
  have e' : its[i]? = some v := by simpa using e
  cases q : ys[i]? with
  | none => rw [r.none_of q] at e'; cases e'
  | some y =>
    obtain ⟨u, h1, h2⟩ := r.get q
    rw [e'] at h1; cases h1
    exact ⟨y, rfl, h2⟩
theorem range_all' (bs : List Bool) : ((List.range bs.length).all fun i => (bs[i]?).getD true) = bs.all id := by
  rw [Bool.eq_iff_iff, List.all_eq_true, List.all_eq_true]
  constructor
  . intro h b hb
    obtain ⟨i, hi, e⟩ := List.getElem_of_mem hb
    have := h i (List.mem_range.mpr hi)
    simp only [List.getElem?_eq_getElem hi, Option.getD_some, e] at this
    exact this
  . intro h i hi
    have hi' := List.mem_range.mp hi
    simp only [List.getElem?_eq_getElem hi', Option.getD_some]
    exact h _ (List.getElem_mem hi')
theorem range_any' (bs : List Bool) : ((List.range bs.length).any fun i => (bs[i]?).getD false) = bs.any id := by
  rw [Bool.eq_iff_iff, List.any_eq_true, List.any_eq_true]
  constructor
  . rintro ⟨i, hi, e⟩
    have hi' := List.mem_range.mp hi
    simp only [List.getElem?_eq_getElem hi', Option.getD_some] at e
    exact ⟨_, List.getElem_mem hi', e⟩
  . rintro ⟨b, hb, e⟩
    obtain ⟨i, hi, rfl⟩ := List.getElem_of_mem hb
    exact ⟨i, List.mem_range.mpr hi, by simp only [List.getElem?_eq_getElem hi, Option.getD_some]; exact e⟩
end
section
variable {X : Cx}
theorem call_all (hc : X.calm = true) : CallR X (.builtin "all") (fun vs H Q => ∃ (a : Addr) (bs : List Bool), vs = [.ref a] /\ SqA X.K H a (bs.map V.bl) /\ Q (.bl (bs.all id)) H) := by
  intro pins s σ H vs us Q I r h
  obtain ⟨a, bs, rfl, hs, q⟩ := h
  obtain ⟨u, rfl, ru⟩ := vals1 r
  cases ru
  obtain ⟨its, rv, walk⟩ := seq_walk hc I hs
  have hlen : its.toArray.size = bs.length := by rw [List.size_toArray, <- rv.length, List.length_map]
  refine call_all_walk (walk _ _ fun o St W st fp => ?_)
  refine ⟨_, _, _, _, _, _, fun i => (bs[i]?).getD true, rfl, W, st, fun i v s' Q' E' hP hQ => ?_, fun h' tk hk => ?_⟩
  . obtain ⟨y, e, ry⟩ := vals_at rv hP
    rw [List.getElem?_map] at e
    cases eb : bs[i]? with
    | none => rw [eb] at e; cases e
    | some b =>
      rw [eb] at e; cases e
      cases ry
      simp only [eb, Option.getD_some] at hQ
      exact wpAny_truthy_bool hQ
  . rw [hlen, range_all' bs]
    exact ⟨.bl _, H, I.kept (kept_it hk), rfl, q⟩
theorem call_any (hc : X.calm = true) : CallR X (.builtin "any") (fun vs H Q => ∃ (a : Addr) (bs : List Bool), vs = [.ref a] /\ SqA X.K H a (bs.map V.bl) /\ Q (.bl (bs.any id)) H) := by
  intro pins s σ H vs us Q I r h
  obtain ⟨a, bs, rfl, hs, q⟩ := h
  obtain ⟨u, rfl, ru⟩ := vals1 r
  cases ru
  obtain ⟨its, rv, walk⟩ := seq_walk hc I hs
  have hlen : its.toArray.size = bs.length := by rw [List.size_toArray, <- rv.length, List.length_map]
  refine call_any_walk (walk _ _ fun o St W st fp => ?_)
  refine ⟨_, _, _, _, _, _, fun i => (bs[i]?).getD false, rfl, W, st, fun i v s' Q' E' hP hQ => ?_, fun h' tk hk => ?_⟩
  . obtain ⟨y, e, ry⟩ := vals_at rv hP
    rw [List.getElem?_map] at e
    cases eb : bs[i]? with
    | none => rw [eb] at e; cases e
    | some b =>
      rw [eb] at e; cases e
      cases ry
      simp only [eb, Option.getD_some] at hQ
      exact wpAny_truthy_bool hQ
  . rw [hlen, range_any' bs]
    exact ⟨.bl _, H, I.kept (kept_it hk), rfl, q⟩
theorem ints_at {ns : List Int} {its : List Value} (rv : Vals (ns.map V.int) its) : ∀ (i : Nat) (v : Value), its.toArray[i]? = some v -> ∃ t, v = Value.int (ns.getD i 0) t := fun i v hP => by
  obtain ⟨y, e, ry⟩ := vals_at rv hP
  rw [List.getElem?_map] at e
  cases en : ns[i]? with
  | none => rw [en] at e; cases e
  | some n =>
    rw [en] at e; cases e
    obtain ⟨t, rfl⟩ := ry
    exact ⟨t, by rw [List.getD_eq_getElem?_getD, en]; rfl⟩
theorem preSum_getD (ns : List Int) : ∀ j, preSum (fun i => ns.getD i 0) j = (ns.take j).sum
  | 0 => by simp [preSum]
  | j + 1 => by
    rw [preSum, preSum_getD ns j]
    by_cases hj : j < ns.length
    . rw [List.take_succ_eq_append_getElem hj, List.sum_append, List.getD_eq_getElem?_getD, List.getElem?_eq_getElem hj]; simp
    . rw [List.take_of_length_le (by omega), List.take_of_length_le (by omega), List.getD_eq_getElem?_getD, List.getElem?_eq_none (by omega)]; simp
theorem call_sum (hc : X.calm = true) : CallR X (.builtin "sum") (fun vs H Q => ∃ (a : Addr) (ns : List Int), vs = [.ref a] /\ SqA X.K H a (ns.map V.int) /\ Q (.int ns.sum) H) := by
  intro pins s σ H vs us Q I r h
  obtain ⟨a, ns, rfl, hs, q⟩ := h
  obtain ⟨u, rfl, ru⟩ := vals1 r
  cases ru
  obtain ⟨its, rv, walk⟩ := seq_walk hc I hs
  have hlen : its.toArray.size = ns.length := by rw [List.size_toArray, <- rv.length, List.length_map]
  refine call_sum_walkG (walk _ _ fun o St W st fp => ?_)
  refine ⟨_, _, _, _, _, _, fun i => ns.getD i 0, rfl, W, st, fp, ints_at rv, fun h' tk t' hk => ?_⟩
  rw [hlen, preSum_getD, List.take_of_length_le (Nat.le_refl _)]
  exact ⟨.int _, H, I.kept (kept_it hk), ⟨_, rfl⟩, q⟩
theorem getD_mem' {l : List Int} {j : Nat} (h : j < l.length) : l.getD j 0 ∈ l := by
  rw [List.getD_eq_getElem?_getD, List.getElem?_eq_getElem h]; exact List.getElem_mem h
theorem mem_getD' {l : List Int} {a : Int} (h : a ∈ l) : ∃ j, j < l.length /\ l.getD j 0 = a := by
  obtain ⟨j, hj, e⟩ := List.getElem_of_mem h
  exact ⟨j, hj, by rw [List.getD_eq_getElem?_getD, List.getElem?_eq_getElem hj]; exact e⟩
theorem call_max1 (hc : X.calm = true) : CallR X (.builtin "max") (fun vs H Q => ∃ (a : Addr) (ns : List Int), vs = [.ref a] /\ SqA X.K H a (ns.map V.int) /\ ns ≠ [] /\ ∀ M, M ∈ ns -> (∀ n ∈ ns, n <= M) -> Q (.int M) H) := by
  intro pins s σ H vs us Q I r h
  obtain ⟨a, ns, rfl, hs, hne, q⟩ := h
  obtain ⟨u, rfl, ru⟩ := vals1 r
  cases ru
  obtain ⟨its, rv, walk⟩ := seq_walk hc I hs
  have hlen : its.toArray.size = ns.length := by rw [List.size_toArray, <- rv.length, List.length_map]
  have hpos : 0 < ns.length := List.length_pos_iff.mpr hne
  refine call_max_walk (walk _ _ fun o St W st fp => ?_)
  refine ⟨_, _, _, _, _, _, _, rfl, W, st, fp, by rw [hlen]; exact hpos, CmpOf.ints_gt (fun i => ns.getD i 0) (ints_at rv), fun v h' tk hP hk => ?_⟩
  obtain ⟨h1, h2⟩ := argBest_gt (fun i => ns.getD i 0) (its.toArray.size - 1)
  obtain ⟨t, rfl⟩ := ints_at rv _ v hP
  refine ⟨.int _, H, I.kept (kept_it hk), ⟨_, rfl⟩, q _ (getD_mem' (by omega)) fun n hn => ?_⟩
  obtain ⟨j, hj, rfl⟩ := mem_getD' hn
  exact h2 j (by omega)
theorem call_min1 (hc : X.calm = true) : CallR X (.builtin "min") (fun vs H Q => ∃ (a : Addr) (ns : List Int), vs = [.ref a] /\ SqA X.K H a (ns.map V.int) /\ ns ≠ [] /\ ∀ M, M ∈ ns -> (∀ n ∈ ns, M <= n) -> Q (.int M) H) := by
  intro pins s σ H vs us Q I r h
  obtain ⟨a, ns, rfl, hs, hne, q⟩ := h
  obtain ⟨u, rfl, ru⟩ := vals1 r
  cases ru
  obtain ⟨its, rv, walk⟩ := seq_walk hc I hs
  have hlen : its.toArray.size = ns.length := by rw [List.size_toArray, <- rv.length, List.length_map]
  have hpos : 0 < ns.length := List.length_pos_iff.mpr hne
  refine call_min_walk (walk _ _ fun o St W st fp => ?_)
  refine ⟨_, _, _, _, _, _, _, rfl, W, st, fp, by rw [hlen]; exact hpos, CmpOf.ints_lt (fun i => ns.getD i 0) (ints_at rv), fun v h' tk hP hk => ?_⟩
  obtain ⟨h1, h2⟩ := argBest_lt (fun i => ns.getD i 0) (its.toArray.size - 1)
  obtain ⟨t, rfl⟩ := ints_at rv _ v hP
  refine ⟨.int _, H, I.kept (kept_it hk), ⟨_, rfl⟩, q _ (getD_mem' (by omega)) fun n hn => ?_⟩
  obtain ⟨j, hj, rfl⟩ := mem_getD' hn
  exact h2 j (by omega)
theorem call_isinst : CallR X (.builtin "isinstance") (fun vs H Q => ∃ x t n b, vs = [x, .ty n] /\ TyOf X.K H x t /\ W.kitOne X.K t (.type n) = some b /\ Q (.bl b) H) := by
  intro pins s σ H vs us Q I r h
  obtain ⟨x, t, n, b, rfl, ty, e, q⟩ := h
  obtain ⟨u, v, rfl, ru, rv⟩ := vals2 r
  cases rv
  exact isinst_ok I ru ty e fun tk => ⟨.bl b, H, I.tok _, rfl, q⟩
end
mutual
inductive Dp (K : W.Frag) (H : Hp) : V -> PyData -> Prop
  | non : Dp K H .non .none
  | bl (b : Bool) : Dp K H (.bl b) (.bool b)
  | int (i : Int) : Dp K H (.int i) (.int i)
  | str (x : Str) : Dp K H (.str x) (.str x)
  | lst {a : Addr} {xs : List V} {ds : List PyData} : SqL K H a xs -> Dps K H xs ds -> Dp K H (.ref a) (.list ds)
  | tup {a : Addr} {xs : List V} {ds : List PyData} : SqT K H a xs -> Dps K H xs ds -> Dp K H (.ref a) (.tuple ds)
inductive Dps (K : W.Frag) (H : Hp) : List V -> List PyData -> Prop
  | nil : Dps K H [] []
  | cons {x : V} {xs : List V} {d : PyData} {ds : List PyData} : Dp K H x d -> Dps K H xs ds -> Dps K H (x :: xs) (d :: ds)
end
theorem Same.tseq {K : W.Frag} {H H' : Hp} {a : Addr} {xs : List V} (e : Same H H') (h : SqT K H a xs) : SqT K H' a xs := by
  rcases h with (h | ⟨o, h⟩) | h
  . exact .inl (.inl (e _ _ h))
  . exact .inl (.inr ⟨o, e _ _ h⟩)
  . exact .inr h
mutual
theorem Dp.same {K : W.Frag} {H H' : Hp} (e : Same H H') : ∀ {x : V} {d : PyData}, Dp K H x d -> Dp K H' x d
  | _, _, .non => .non
  | _, _, .bl b => .bl b
  | _, _, .int i => .int i
  | _, _, .str x => .str x
  | _, _, .lst h r => .lst (e.seq h) (Dps.same e r)
  | _, _, .tup h r => .tup (e.tseq h) (Dps.same e r)
theorem Dps.same {K : W.Frag} {H H' : Hp} (e : Same H H') : ∀ {xs : List V} {ds : List PyData}, Dps K H xs ds -> Dps K H' xs ds
  | _, _, .nil => .nil
  | _, _, .cons a r => .cons (Dp.same e a) (Dps.same e r)
end
section
variable {X : Cx} {pins : List (Addr × Obj)} {σ : St} {H : Hp} {s : Shared}
mutual
theorem Dp.reads (I : Inv X pins σ H s) : ∀ {x : V} {d : PyData}, Dp X.K H x d -> ∀ {u : Value}, RelV x u -> ∃ as, Reads s.heap u d as
  | _, _, .non, u, r => by cases r; exact ⟨_, .none⟩
  | _, _, .bl b, u, r => by cases r; exact ⟨_, .bool b⟩
  | _, _, .int i, u, r => by obtain ⟨t, rfl⟩ := r; exact ⟨_, .int i t⟩
  | _, _, .str x, u, r => by obtain ⟨t, rfl⟩ := r; exact ⟨_, .str x t⟩
  | _, _, .lst h q, u, r => by
    cases r
    obtain ⟨its, rv, p, hz⟩ := I.list h
    obtain ⟨o, e1, e2, n, e3⟩ := p.isList
    obtain ⟨as, ra⟩ := Dps.reads I q rv
    exact ⟨_, .list e1 e2 e3 (by simpa using ra)⟩
  | _, _, .tup h q, u, r => by
    cases r
    obtain ⟨its, rv, p, hz⟩ := I.tuple h
    obtain ⟨o, e1, e2, n, e3⟩ := (show s.heap.IsTuple _ its.toArray from p)
    obtain ⟨as, ra⟩ := Dps.reads I q rv
    exact ⟨_, .tuple e1 e2 e3 (by simpa using ra)⟩
theorem Dps.reads (I : Inv X pins σ H s) : ∀ {xs : List V} {ds : List PyData}, Dps X.K H xs ds -> ∀ {us : List Value}, Vals xs us -> ∃ as, ReadsAll s.heap us ds as
  | _, _, .nil, us, r => by cases r; exact ⟨_, .nil⟩
  | _, _, .cons a q, us, r => by
    cases r with
    | cons r1 r2 =>
      obtain ⟨as, h1⟩ := Dp.reads I a r1
      obtain ⟨bs, h2⟩ := Dps.reads I q r2
      exact ⟨_, .cons h1 h2⟩
end
end
section
variable {X : Cx}
def rEqD (K : W.Frag) : R2 := fun x y H Q => ∃ d e, Dp K H x d /\ Dp K H y e /\ d.canLay0 = true /\ e.canLay0 = true /\ min d.depth e.depth <= 60 /\ Q (.bl (PyData.eqv d e)) H
def rNeD (K : W.Frag) : R2 := fun x y H Q => ∃ d e, Dp K H x d /\ Dp K H y e /\ d.canLay0 = true /\ e.canLay0 = true /\ min d.depth e.depth <= 60 /\ Q (.bl (!PyData.eqv d e)) H
theorem op_eqD {k : Nat} (hr : Room k X.A) : OpR X (compareOp .Eq) (rEqD X.K) := by
  intro pins s σ H x y v u Q I rx ry h
  obtain ⟨d, e, h1, h2, c1, c2, hd, q⟩ := h
  obtain ⟨as, r1⟩ := h1.reads I rx
  obtain ⟨bs, r2⟩ := h2.reads I ry
  exact SeqAt.compareEq_reads r1 r2 c1 c2 (by have := hr.units; omega) ⟨.bl _, H, I, rfl, q⟩
theorem op_neD {k : Nat} (hr : Room k X.A) : OpR X (compareOp .NotEq) (rNeD X.K) := by
  intro pins s σ H x y v u Q I rx ry h
  obtain ⟨d, e, h1, h2, c1, c2, hd, q⟩ := h
  obtain ⟨as, r1⟩ := h1.reads I rx
  obtain ⟨bs, r2⟩ := h2.reads I ry
  exact SeqAt.compareNe_reads r1 r2 c1 c2 (by have := hr.units; omega) ⟨.bl _, H, I, rfl, q⟩
end
theorem Same.new {H : Hp} {p : Addr} (h : H p = none) (o : HO) : Same H (upd H p o) := fun b u q => by rw [upd_ne (ne_of_none q h)]; exact q
theorem Wk.set {n : Nat} {fr : List Nat} {σ : St} {i : Nat} {v : V} (hi : i < n) : Wk (blkσ n fr σ) ((blkσ n fr σ).set i (some v)) := by
  refine ⟨by simp, fun j w e => ?_⟩
  by_cases hj : j = i
  . subst hj
    unfold blkσ at e
    rw [List.getElem?_append_left (by simpa using hi), List.getElem?_replicate] at e
    split at e <;> cases e
  . rw [List.getElem?_set_ne (Ne.symm hj)]; exact e
theorem Wk.trans {a b c : St} (h : Wk a b) (k : Wk b c) : Wk a c := ⟨k.1.trans h.1, fun i v e => k.2 i v (h.2 i v e)⟩
structure ItIs (J : It) (H1 : Hp) (xs : List V) : Prop where
  go : ∀ i H, Same H1 H -> i < xs.length -> J.go i H
  yld : ∀ i H x H', Same H1 H -> i < xs.length -> J.yld i H x H' -> H' = H /\ xs[i]? = some x
  stop : ∀ H, Same H1 H -> J.stop xs.length H
theorem itIs_list {K : W.Frag} {a : Addr} {xs : List V} {H1 : Hp} (h : SqL K H1 a xs) : ItIs (Itl K a) H1 xs :=
  ⟨fun i H e hi => ⟨xs, xs[i], e.seq h, List.getElem?_eq_getElem hi⟩, fun i H x H' e hi y => ⟨y.1, y.2 xs (e.seq h)⟩, fun H e => ⟨xs, e.seq h, Nat.le_refl _⟩⟩
theorem itIs_tup {K : W.Frag} {a : Addr} {xs : List V} {H1 : Hp} (h : SqT K H1 a xs) : ItIs (Itt K a) H1 xs :=
  ⟨fun i H e hi => ⟨xs, xs[i], e.tseq h, List.getElem?_eq_getElem hi⟩, fun i H x H' e hi y => ⟨y.1, y.2 xs (e.tseq h)⟩, fun H e => ⟨xs, e.tseq h, Nat.le_refl _⟩⟩
theorem Paired.app {α β : Type} {F : α -> β -> Prop} : ∀ {a c : List α} {b d : List β}, Paired F a b -> Paired F c d -> Paired F (a ++ c) (b ++ d)
  | _, _, _, _, .nil, s => s
  | _, _, _, _, .cons r t, s => .cons r (Paired.app t s)
section
variable {xs : List V} {J : It} {n : Nat} {fr : List Nat} {g : TG} {te : TE} {σ : St} {H1 : Hp} {p : Addr} {D : Hp -> Prop}
theorem lc_map (hJ : ItIs J H1 xs) (hp : H1 p = none) (hz : xs.length < sizeLine) (F : V -> V)
    (step : ∀ (i : Nat) x H (N : VK), xs[i]? = some x -> Same H1 H -> N (F x) H -> g x (blkσ n fr σ) H fun σ2 H2 => Wk (blkσ n fr σ) σ2 /\ te σ2 H2 N)
    (hd : D (upd H1 p (.lst (xs.map F)))) : lcW n fr g te σ J H1 p D := by
  refine ⟨fun i m ys H => m = xs.length - i /\ i <= xs.length /\ ys = (xs.take i).map F /\ H = upd H1 p (.lst ys), ⟨xs.length, by simp, Nat.zero_le _, by simp, rfl⟩, ?_⟩
  rintro i m ys H ⟨rfl, hi, rfl, rfl⟩
  have e := Same.new (o := .lst ((xs.take i).map F)) hp
  by_cases hlt : i < xs.length
  . refine .inr ⟨hJ.go i _ e hlt, fun x H' y => ?_⟩
    obtain ⟨rfl, hx⟩ := hJ.yld i _ x H' e hlt y
    refine step i x _ _ hx e ⟨upd_same, by rw [List.length_map, List.length_take]; omega, xs.length - (i + 1), by omega, rfl, hlt, ?_, upd_upd⟩
    rw [List.take_succ, hx, List.map_append]; rfl
  . have : i = xs.length := by omega
    subst this
    refine .inl ⟨hJ.stop _ e, ?_⟩
    rw [List.take_of_length_le (Nat.le_refl _)]; exact hd
theorem lc_same (hJ : ItIs J H1 xs) (hp : H1 p = none) (hz : xs.length < sizeLine) (R : Nat -> V -> Hp -> Prop) (hR : ∀ i y H H', R i y H -> (∀ b o, b ≠ p -> H b = some o -> H' b = some o) -> R i y H')
    (step : ∀ (i : Nat) x H ys (N : VK), xs[i]? = some x -> Same H1 H -> H p = some (.lst ys) -> (∀ v H3, Same H H3 -> R i v H3 -> N v H3) -> g x (blkσ n fr σ) H fun σ2 H2 => Wk (blkσ n fr σ) σ2 /\ te σ2 H2 N)
    (hd : ∀ ys H, Same H1 H -> H p = some (.lst ys) -> ys.length = xs.length -> (∀ i y, ys[i]? = some y -> R i y H) -> D H) : lcW n fr g te σ J H1 p D := by
  refine ⟨fun i m ys H => m = xs.length - i /\ i <= xs.length /\ Same H1 H /\ H p = some (.lst ys) /\ ys.length = i /\ ∀ j y, ys[j]? = some y -> R j y H, ⟨xs.length, by simp, Nat.zero_le _, Same.new hp _, upd_same, rfl, fun j y e => by simp at e⟩, ?_⟩
  rintro i m ys H ⟨rfl, hi, e, hH, len, pr⟩
  by_cases hlt : i < xs.length
  . refine .inr ⟨hJ.go i _ e hlt, fun x H' y => ?_⟩
    obtain ⟨rfl, hx⟩ := hJ.yld i _ x H' e hlt y
    refine step i x _ ys _ hx e hH fun v H3 s3 r3 => ⟨s3 _ _ hH, by omega, xs.length - (i + 1), by omega, rfl, hlt, fun b o q => ?_, upd_same, by rw [List.length_append, len]; rfl, fun j y ey => ?_⟩
    . rw [upd_ne (ne_of_none q hp)]; exact s3 _ _ (e _ _ q)
    . have up : ∀ b o, b ≠ p -> H3 b = some o -> upd H3 p (.lst (ys ++ [v])) b = some o := fun b o hb q => by rw [upd_ne hb]; exact q
      by_cases hj : j < ys.length
      . rw [List.getElem?_append_left hj] at ey
        exact hR j y _ _ (pr j y ey) fun b o hb q => up b o hb (s3 _ _ q)
      . rw [List.getElem?_append_right (by omega)] at ey
        have hj' : j - ys.length = 0 := by
          cases q : j - ys.length with
          | zero => rfl
          | succ k => rw [q] at ey; simp at ey
        rw [hj'] at ey
        have : j = i := by omega
        subst this
        simp at ey
        subst ey
        exact hR j v _ _ r3 up
  . have : i = xs.length := by omega
    subst this
    exact .inl ⟨hJ.stop _ e, hd ys H e hH len pr⟩
end
end L2
namespace Rim
open PySem L2
def top (i : Nat) : Stmt := PySem.Challenge.pw_rimhouse_k01_what_is_a_book.main.body.getD i (.Pass ⟨0, 0, 0, 0⟩)
abbrev sIsWhole : Stmt := top 4
abbrev sAre : Stmt := top 5
abbrev sHouse : Stmt := top 6
abbrev sAnyH : Stmt := top 7
abbrev sBook : Stmt := top 8
abbrev sCell : Stmt := top 10
abbrev sDraws : Stmt := top 11
abbrev sNear : Stmt := top 13
abbrev sABook : Stmt := top 14
abbrev sSpoilt : Stmt := top 15
abbrev sDue : Stmt := top 16
abbrev sLaw : Stmt := top 17
structure Nones (mg : Str -> Option Value) : Prop where
  len : mg "len" = none
  all : mg "all" = none
  any : mg "any" = none
  max : mg "max" = none
  min : mg "min" = none
  sum : mg "sum" = none
  tuple : mg "tuple" = none
  list : mg "list" = none
  int : mg "int" = none
  bool : mg "bool" = none
  range : mg "range" = none
  isi : mg "isinstance" = none
structure Consts (mg : Str -> Option Value) : Prop where
  mh : ∃ t, mg "MOST_HOUSES" = some (.int 16 t)
  mkd : ∃ t, mg "MOST_KINDS" = some (.int 4 t)
  ma : ∃ t, mg "MOST_AMOUNT" = some (.int 1000000000 t)
def rLen (K : W.Frag) : List V -> Hp -> VK -> Prop := fun xs H Q => ∃ p ys, xs = [.ref p] /\ (SqL K H p ys \/ SqT K H p ys) /\ Q (.int (ys.length : Int)) H
theorem len_at (K : W.Frag) {X : Cx} (h : X.K = K) : CallR X (.builtin "len") (rLen K) := by subst h; exact call_len_seq
theorem ixl_at (K : W.Frag) {X : Cx} (h : X.K = K) : IxR X (rIxL K) := by subst h; exact ix_list
theorem pgt_at (K : W.Frag) {X : Cx} {es : List Expr} {k : Nat} {t : TGs} {n : Nat} {pos : Pos} (h : X.K = K) (hc : X.calm = true) (hp : PGs X es t) (hn : (assignEach es X.env).length = n := by rfl) (hst : (assignEach es X.env).findIdx? (·.1) = none := by rfl) : PG X (.Tuple es k pos) (gTup K n t) := by subst h; exact pg_tup hc hp hn hst
def rList (K : W.Frag) : List V -> Hp -> VK -> Prop := fun xs H Q => ∃ p ys, xs = [.ref p] /\ (SqL K H p ys \/ SqT K H p ys) /\ ∀ l, H l = none -> Q (.ref l) (upd H l (.lst ys))
theorem list_at (K : W.Frag) {X : Cx} (h : X.K = K) : CallR X (.type "list") (rList K) := by subst h; exact call_list_of
def vI : V -> Int
  | .int i => i
  | _ => 0
theorem map_int_at {ns : List Int} {i : Nat} {x : V} (h : (ns.map V.int)[i]? = some x) : ∃ k, x = .int k := by
  rw [List.getElem?_map] at h
  cases hn : ns[i]? with
  | none => rw [hn] at h; cases h
  | some k => rw [hn] at h; cases h; exact ⟨k, rfl⟩
theorem bl_eq {N : VK} {b b' : Bool} {H : Hp} (h : N (.bl b) H) (e : b' = b) : N (.bl b') H := by rw [e]; exact h
section
variable {P : Program} {w : World} {K : W.Frag} {mg : Str -> Option Value} {base : Heap} {f g : Addr} {fd gd : FuncData}
def Within (l : Int) (ns : List Int) : Prop := ∀ x ∈ ns, l <= x /\ x <= 1000000000
theorem call_isinstT {X : Cx} : CallR X (.builtin "isinstance") (fun vs H Q => ∃ a xs n b, vs = [.ref a, .ty n] /\ SqT X.K H a xs /\ W.kitOne X.K (.type "tuple") (.type n) = some b /\ Q (.bl b) H) := by
  intro pins s σ H vs us Q I r h
  obtain ⟨a, xs, n, b, rfl, hs, e, q⟩ := h
  obtain ⟨u, v, rfl, ru, rv⟩ := vals2 r
  cases rv
  cases (show u = Value.ref a from ru)
  have hx : ∃ o, s.heap.get? a = some o /\ o.cls = .type "tuple" := by
    rcases hs with hs | ⟨o, its, n, h1, h2, _⟩
    . obtain ⟨_, _, _, p⟩ := (show ObjOk X.prog X.w H s.heap a (.tup xs) from hs.ok I.hok)
      obtain ⟨o, h1, h2, _⟩ := p
      exact ⟨o, h1, h2⟩
    . exact ⟨o, I.kIn a o h1, h2⟩
  exact W.kia_one W.kitx_tuple I.kIn hx e (fun z => nomatch z) fun tk => ⟨.bl b, H, I.tok _, rfl, q⟩
def spIsWhole : Sp := fun vs H Q _ => ∃ i : Int, vs = [.int i] /\ Q (.bl true) H
theorem scIsWhole : FnScope ["thing"] ["thing"] (defScope sIsWhole) := ⟨rfl, rfl, rfl, by decide +kernel, rfl, by decide +kernel, by decide +kernel⟩
theorem kit_same {K : W.Frag} (n : String) : W.kitOne K (.type n) (.type n) = some true := by unfold W.kitOne; simp
theorem kit_int_bool (K : W.Frag) : W.kitOne K (.type "int") (.type "bool") = some false := by rfl
theorem ok_iswhole {n : Nat} (F : Fun K "is_whole" "is_whole" sIsWhole f fd) (T : Nones mg) : FnOk P w K mg base CX0 (n + 1) f fd ["thing"] spIsWhole := by
  refine F.ok scIsWhole (fun vs H Q E h => ?_) (fun cdv A outer s H vs Q E hr h => ?_)
  . obtain ⟨i, rfl, _⟩ := h
    rfl
  obtain ⟨i, rfl, q⟩ := h
  refine ⟨_, pss_one (ps_ret (pe_and (pe_callB call_isinst rfl T.isi PyProof.Rows.boot_isinstance (pa_cons (pv 0) (pa_cons (pe_bltn (v := .ty "int") rfl T.int PyProof.Rows.boot_int rfl) pa_nil)))
    (pe_one (pe_not (pe_callB call_isinst rfl T.isi PyProof.Rows.boot_isinstance (pa_cons (pv 0) (pa_cons (pe_bltn (v := .ty "bool") rfl T.bool PyProof.Rows.boot_bool rfl) pa_nil))))))), ?_⟩
  refine ⟨_, rfl, _, _, "int", true, rfl, .int i, kit_same _, _, rfl, iteT ?_⟩
  exact ⟨_, rfl, _, _, "bool", false, rfl, .int i, kit_int_bool _, _, rfl, q⟩
def spAre (K : W.Frag) : Sp := fun vs H Q _ => ∃ (a : Addr) (ns : List Int) (m l : Int), vs = [.ref a, .int m, .int l] /\ SqT K H a (ns.map V.int) /\ ns.length <= 1000 ∧
  ∀ (b : Bool) (H' : Hp), Same H H' -> (b = true ↔ ((ns.length : Int) = m /\ Within l ns)) -> Q (.bl b) H'
theorem scAre : FnScope ["thing", "many", "least"] ["thing", "many", "least"] (defScope sAre) := ⟨rfl, rfl, rfl, by decide +kernel, rfl, by decide +kernel, by decide +kernel⟩
theorem ndAre : (["amount", "least"] : List Str).Nodup := by decide +kernel
theorem ok_are {n : Nat} (F : Fun K "are_amounts" "are_amounts" sAre f fd) (T : Nones mg) (C : Consts mg) (G : FnOk P w K mg base CX0 n g gd ["thing"] spIsWhole) (bG : Binds K gd ["thing"] []) (kG : W.keepIn K (.ref g) = true) (mG : mg "is_whole" = some (.ref g)) : FnOk P w K mg base CX0 (n + 1) f fd ["thing", "many", "least"] (spAre K) := by
  refine F.ok scAre (fun vs H Q E h => ?_) (fun cdv A outer s H vs Q E hr h => ?_)
  . obtain ⟨a, ns, m, l, rfl, _⟩ := h
    rfl
  obtain ⟨a, ns, m, l, rfl, hS, hz, q⟩ := h
  obtain ⟨tm, hma⟩ := C.ma
  refine ⟨_, pss_cons (ps_if (PW.pt (pw_or (pt_not (pt_val (pe_callB call_isinstT rfl T.isi PyProof.Rows.boot_isinstance (pa_cons (pv 0) (pa_cons (pe_bltn (v := .ty "tuple") rfl T.tuple PyProof.Rows.boot_tuple rfl) pa_nil))))) (pw_or1 (pt_cmpR op_ne (pe_callB call_len_seq rfl T.len PySem.boot_len (pa_cons (pv 0) pa_nil)) (pv 1) (nomark _))))) (pss_one (ps_ret pe_bl)) pss_nil)
    (pss_one (ps_ret (pe_callB (call_all rfl) rfl T.all PyProof.Rows.boot_all (pa_cons
      (pe_lc ["amount"] [2] rfl (pi_tup (pv 0)) (fun _ _ _ _ => pg_name (i := 0) ndAre rfl (Or.inl rfl))
        (fun _ _ _ _ => pe_and (pe_call G hr rfl mG kG bG .nil pass0 (pa_cons (pv 0) pa_nil)) (pe_one (pe_chain op_le op_le (pv 1) (pv 0) (pe_glob (v := .int 1000000000) rfl hma ⟨_, rfl⟩))))) pa_nil)))), ?_⟩
  have hl : (ns.map V.int).length = ns.length := List.length_map _
  refine ⟨_, rfl, a, _, "tuple", true, rfl, hS, kit_same _, _, rfl, iteF ?_⟩
  refine ⟨_, rfl, a, _, rfl, .inr hS, _, rfl, rfl, _, rfl, ?_⟩
  refine ite2 (fun c => ?_) (fun c => ?_)
  . refine q _ _ (Same.refl _) ?_
    have c' : ¬ (ns.length : Int) = m := fun h => by simp [h] at c
    simp [c']
  . have c' : (ns.length : Int) = m := by simpa using c
    refine ⟨_, rfl, a, rfl, ⟨_, hS⟩, fun p hp => ?_⟩
    refine lc_map (itIs_tup hS) hp (by rw [hl]; exact small1000 hz) (fun x => .bl (decide (l <= vI x /\ vI x <= 1000000000))) (fun i x H' N hx e hN => ?_) ?_
    . obtain ⟨k, rfl⟩ := map_int_at hx
      refine ⟨Wk.set (by decide), _, rfl, k, rfl, _, rfl, iteT ?_⟩
      refine ⟨_, rfl, _, rfl, _, _, rfl, rfl, _, rfl, ?_⟩
      refine ite2 (fun c => ?_) (fun c => ?_)
      . have c1 : l <= k := of_decide_eq_true c
        refine ⟨_, _, rfl, rfl, ?_⟩
        exact bl_eq hN (by simp [vI, c1])
      . have c1 : ¬ l <= k := of_decide_eq_false (Bool.eq_false_iff.mpr c)
        exact bl_eq hN (by simp [vI, c1])
    . refine ⟨p, ns.map (fun i => decide (l <= i /\ i <= 1000000000)), rfl, .inl (SqL.of (by rw [upd_same, List.map_map, List.map_map]; rfl)), ?_⟩
      refine q _ _ (Same.new hp _) ?_
      rw [List.all_map, List.all_eq_true]
      constructor
      . intro z
        exact ⟨c', fun x hx => by simpa using z x hx⟩
      . intro z x hx
        simpa using z.2 x hx
end
end Rim
namespace Rim
open PySem L2
abbrev House := List Int × List Int
def HS (K : W.Frag) (H : Hp) (v : V) (h : House) : Prop := ∃ a t g, v = .ref a /\ SqT K H a [.ref t, .ref g] /\ SqT K H t (h.1.map V.int) /\ SqT K H g (h.2.map V.int)
abbrev Bk (K : W.Frag) (H : Hp) : List V -> List House -> Prop := PySem.Paired (HS K H)
theorem HS.same {K : W.Frag} {H H' : Hp} {v : V} {h : House} (e : Same H H') (x : HS K H v h) : HS K H' v h := by
  obtain ⟨a, t, g, h0, h1, h2, h3⟩ := x
  exact ⟨a, t, g, h0, e.tseq h1, e.tseq h2, e.tseq h3⟩
theorem Bk.same {K : W.Frag} {H H' : Hp} {vs : List V} {hs : List House} (e : Same H H') (x : Bk K H vs hs) : Bk K H' vs hs := Paired.imp' (fun _ _ r => HS.same e r) x
def Small (h : House) : Prop := h.1.length <= 1000 /\ h.2.length <= 1000
def GoodH (h : House) (m n : Int) : Prop := ((h.1.length : Int) = m /\ Within 1 h.1) /\ ((h.2.length : Int) = n /\ Within 0 h.2) /\ ∃ x ∈ h.2, 0 < x
theorem Paired.at {α β : Type} {F : α -> β -> Prop} : ∀ {l₁ : List α} {l₂ : List β}, PySem.Paired F l₁ l₂ -> ∀ {i : Nat} {x : α}, l₁[i]? = some x -> ∃ y, l₂[i]? = some y /\ F x y
  | _, _, .nil, _, _, e => by simp at e
  | _, _, .cons r _, 0, _, e => by simp at e; subst e; exact ⟨_, rfl, r⟩
  | _, _, .cons _ t, i + 1, x, e => by
    obtain ⟨y, h1, h2⟩ := Paired.at t (i := i) (x := x) (by simpa using e)
    exact ⟨y, by simpa using h1, h2⟩
section
variable {P : Program} {w : World} {K : W.Frag} {mg : Str -> Option Value} {base : Heap} {f g : Addr} {fd gd : FuncData}
def spHouse (K : W.Frag) : Sp := fun vs H Q _ => ∃ (v : V) (h : House) (m n : Int), vs = [v, .int m, .int n] /\ HS K H v h /\ Small h ∧
  ∀ (b : Bool) (H' : Hp), Same H H' -> (b = true ↔ GoodH h m n) -> Q (.bl b) H'
theorem scHouse : FnScope ["thing", "many_takes", "many_gives", "takes", "gives"] ["thing", "many_takes", "many_gives"] (defScope sHouse) := ⟨rfl, rfl, rfl, by decide +kernel, rfl, by decide +kernel, by decide +kernel⟩
theorem ndHouse : (["give"] : List Str).Nodup := by decide +kernel
theorem ok_house {n : Nat} (F : Fun K "is_house" "is_house" sHouse f fd) (T : Nones mg) (G : FnOk P w K mg base CX0 n g gd ["thing", "many", "least"] (spAre K)) (bG : Binds K gd ["thing", "many", "least"] []) (kG : W.keepIn K (.ref g) = true) (mG : mg "are_amounts" = some (.ref g)) :
    FnOk P w K mg base CX0 (n + 1) f fd ["thing", "many_takes", "many_gives"] (spHouse K) := by
  refine F.ok scHouse (fun vs H Q E h => ?_) (fun cdv A outer s H vs Q E hr h => ?_)
  . obtain ⟨v, h, m, l, rfl, _⟩ := h
    rfl
  obtain ⟨v, h, m, l, rfl, ⟨a, t, gv, rfl, h0, h1, h2⟩, ⟨hz1, hz2⟩, q⟩ := h
  refine ⟨_, pss_cons (ps_if (PW.pt (pw_or (pt_not (pt_val (pe_callB call_isinstT rfl T.isi PyProof.Rows.boot_isinstance (pa_cons (pv 0) (pa_cons (pe_bltn (v := .ty "tuple") rfl T.tuple PyProof.Rows.boot_tuple rfl) pa_nil))))) (pw_or1 (pt_cmpR op_ne (pe_callB call_len_seq rfl T.len PySem.boot_len (pa_cons (pv 0) pa_nil)) pe_int (nomark _))))) (pss_one (ps_ret pe_bl)) pss_nil)
    (pss_cons (ps_asg (pv 0) (pg_tup rfl (pgs_cons (pg_name (i := 3) scHouse.nd rfl (Or.inl rfl)) (pgs_cons (pg_name (i := 4) scHouse.nd rfl (Or.inl rfl)) pgs_nil))))
    (pss_cons (ps_if (pt_not (PW.pt (pw_and (pt_val (pe_call G hr rfl mG kG bG .nil pass0 (pa_cons (pv 3) (pa_cons (pv 1) (pa_cons pe_int pa_nil))))) (pw_and1 (pt_val (pe_call G hr rfl mG kG bG .nil pass0 (pa_cons (pv 4) (pa_cons (pv 2) (pa_cons pe_int pa_nil)))))))))
      (pss_one (ps_ret pe_bl)) pss_nil)
    (pss_one (ps_ret (pe_callB (call_any rfl) rfl T.any PyProof.Rows.boot_any (pa_cons (pe_lc ["give"] [] rfl (pi_tup (pv 4)) (fun _ _ _ _ => pg_name (i := 0) ndHouse rfl (Or.inl rfl)) (fun _ _ _ _ => pe_cmpR op_gt (pv 0) pe_int (nomark _))) pa_nil)))))), ?_⟩
  refine ⟨_, rfl, a, _, "tuple", true, rfl, h0, kit_same _, _, rfl, iteF ?_⟩
  refine ⟨_, rfl, a, _, rfl, .inr h0, rfl, _, rfl, iteNS rfl ?_⟩
  refine ⟨_, rfl, a, _, rfl, h0, rfl, _, _, rfl, _, _, rfl, rfl, ?_⟩
  refine ⟨_, rfl, _, rfl, t, h.1, m, 1, rfl, h1, hz1, fun b1 H1 e1 i1 => ⟨_, rfl, ?_⟩⟩
  refine ite2 (fun c1 => ?_) (fun c1 => ?_)
  . refine ⟨_, rfl, _, rfl, gv, h.2, l, 0, rfl, e1.tseq h2, hz2, fun b2 H2 e2 i2 => ⟨_, rfl, ?_⟩⟩
    refine ite2 (fun c2 => ?_) (fun c2 => ?_)
    . refine q _ _ (e1.trans e2) ?_
      have : ¬ b2 = true := by simpa using c2
      constructor
      . intro z; cases z
      . intro z; exact absurd (i2.mpr z.2.1) this
    . have c2' : b2 = true := by simpa using c2
      have e12 := e1.trans e2
      have hl : (h.2.map V.int).length = h.2.length := List.length_map _
      refine ⟨_, rfl, gv, rfl, ⟨_, e12.tseq h2⟩, fun p hp => ?_⟩
      refine lc_map (itIs_tup (e12.tseq h2)) hp (by rw [hl]; exact small1000 hz2) (fun x => .bl (decide (0 < vI x))) (fun i x H' N hx e hN => ?_) ?_
      . obtain ⟨k, rfl⟩ := map_int_at hx
        exact ⟨Wk.set (by decide), _, rfl, _, _, rfl, rfl, hN⟩
      . refine ⟨p, h.2.map (fun i => decide (0 < i)), rfl, .inl (SqL.of (by rw [upd_same, List.map_map, List.map_map]; rfl)), ?_⟩
        refine q _ _ (e12.trans (Same.new hp _)) ?_
        rw [List.any_map, List.any_eq_true]
        constructor
        . rintro ⟨x, hx, z⟩
          exact ⟨i1.mp c1, i2.mp c2', x, hx, by simpa using z⟩
        . rintro ⟨_, _, x, hx, z⟩
          exact ⟨x, hx, by simpa using z⟩
  . refine iteT ?_
    refine q _ _ e1 ?_
    constructor
    . intro z; cases z
    . intro z; exact absurd (i1.mpr z.1) c1
theorem bls_of {F : Nat -> Bool -> Prop} : ∀ (ys : List V), (∀ i y, ys[i]? = some y -> ∃ b, y = .bl b /\ F i b) -> ∃ bs : List Bool, ys = bs.map V.bl /\ ∀ i b, bs[i]? = some b -> F i b := fun ys h => by
  refine ⟨ys.map fun y => match y with | .bl b => b | _ => false, ?_, fun i b e => ?_⟩
  . rw [List.map_map]
    refine (List.map_id ys).symm.trans (List.map_congr_left fun y hy => ?_)
    obtain ⟨i, hi, rfl⟩ := List.getElem_of_mem hy
    obtain ⟨b, e, _⟩ := h i _ (List.getElem?_eq_getElem hi)
    rw [e]; rfl
  . rw [List.getElem?_map] at e
    cases q : ys[i]? with
    | none => rw [q] at e; cases e
    | some y =>
      obtain ⟨b', e', f⟩ := h i y q
      rw [q, e'] at e
      cases e
      exact f
def Good (hs : List House) : Prop := (1 <= hs.length /\ hs.length <= 16) /\ ∃ m n : Nat, (1 <= m /\ m <= 4) /\ (1 <= n /\ n <= 4) /\ ∀ h ∈ hs, GoodH h m n
def AnyH (h : House) : Prop := (1 <= h.1.length /\ h.1.length <= 4) /\ (1 <= h.2.length /\ h.2.length <= 4) /\ GoodH h h.1.length h.2.length
def spAnyH (K : W.Frag) : Sp := fun vs H Q _ => ∃ (v : V) (h : House), vs = [v] /\ HS K H v h /\ Small h /\ ∀ (b : Bool) (H' : Hp), Same H H' -> (b = true ↔ AnyH h) -> Q (.bl b) H'
theorem scAnyH : FnScope ["thing", "takes", "gives"] ["thing"] (defScope sAnyH) := ⟨rfl, rfl, rfl, by decide +kernel, rfl, by decide +kernel, by decide +kernel⟩
theorem ok_anyh {n : Nat} (F : Fun K "is_any_house" "is_any_house" sAnyH f fd) (T : Nones mg) (C : Consts mg) (G : FnOk P w K mg base CX0 n g gd ["thing", "many_takes", "many_gives"] (spHouse K)) (bG : Binds K gd ["thing", "many_takes", "many_gives"] []) (kG : W.keepIn K (.ref g) = true) (mG : mg "is_house" = some (.ref g)) :
    FnOk P w K mg base CX0 (n + 1) f fd ["thing"] (spAnyH K) := by
  refine F.ok scAnyH (fun vs H Q E h => ?_) (fun cdv A outer s H vs Q E hr h => ?_)
  . obtain ⟨v, h, rfl, _⟩ := h
    rfl
  obtain ⟨v, h, rfl, hH, hsm0, q⟩ := h
  obtain ⟨tk, hmk⟩ := C.mkd
  refine ⟨_, pss_cons (ps_asg (pv 0) (pg_tup rfl (pgs_cons (pg_name (i := 1) scAnyH.nd rfl (Or.inl rfl)) (pgs_cons (pg_name (i := 2) scAnyH.nd rfl (Or.inl rfl)) pgs_nil))))
    (pss_cons (ps_if (pt_not (PW.pt (pw_and (pt_chain op_le op_le pe_int (pe_callB call_len_seq rfl T.len PySem.boot_len (pa_cons (pv 1) pa_nil)) (pe_glob (v := .int 4) rfl hmk ⟨_, rfl⟩)) (pw_and1 (pt_chain op_le op_le pe_int (pe_callB call_len_seq rfl T.len PySem.boot_len (pa_cons (pv 2) pa_nil)) (pe_glob (v := .int 4) rfl hmk ⟨_, rfl⟩)))))) (pss_one (ps_ret pe_bl)) pss_nil)
    (pss_one (ps_ret (pe_call G hr rfl mG kG bG .nil pass0 (pa_cons (pv 0) (pa_cons (pe_callB call_len_seq rfl T.len PySem.boot_len (pa_cons (pv 1) pa_nil)) (pa_cons (pe_callB call_len_seq rfl T.len PySem.boot_len (pa_cons (pv 2) pa_nil)) pa_nil))))))), ?_⟩
  obtain ⟨b0, t, gv, rfl, h0, h1, h2⟩ := id hH
  have no : ∀ b : Bool, b = false -> ¬ AnyH h -> (b = true ↔ AnyH h) := fun b hb hn => by rw [hb]; exact ⟨fun z => (by cases z), fun z => absurd z hn⟩
  have hl1 : (h.1.map V.int).length = h.1.length := List.length_map _
  have hl2 : (h.2.map V.int).length = h.2.length := List.length_map _
  have bad1 : ¬ (1 <= h.1.length /\ h.1.length <= 4) -> ¬ AnyH h := fun k z => k z.1
  have bad2 : ¬ (1 <= h.2.length /\ h.2.length <= 4) -> ¬ AnyH h := fun k z => k z.2.1
  refine ⟨_, rfl, b0, _, rfl, h0, rfl, _, _, rfl, _, _, rfl, rfl, ?_⟩
  refine ⟨_, rfl, t, _, rfl, .inr h1, _, _, rfl, rfl, _, rfl, ?_⟩
  refine ite2 (fun d1 => ?_) (fun d1 => ?_)
  case refine_2.refine_2 =>
    refine ⟨_, rfl, iteF (iteT ?_)⟩
    have d1' : ¬ (1 : Int) <= ((h.1.map V.int).length : Int) := of_decide_eq_false (Bool.eq_false_iff.mpr d1)
    exact q _ _ (Same.refl _) (no _ rfl (bad1 (by rw [hl1] at d1'; omega)))
  have d1' : (1 : Int) <= ((h.1.map V.int).length : Int) := of_decide_eq_true d1
  refine ⟨_, _, rfl, rfl, _, rfl, ?_⟩
  refine ite2 (fun d2 => ?_) (fun d2 => ?_)
  case refine_2 =>
    refine iteT ?_
    have d2' : ¬ ((h.1.map V.int).length : Int) <= 4 := of_decide_eq_false (by simpa using d2)
    exact q _ _ (Same.refl _) (no _ rfl (bad1 (by rw [hl1] at d2'; omega)))
  have d2' : ((h.1.map V.int).length : Int) <= 4 := of_decide_eq_true (by simpa using d2)
  refine ⟨_, rfl, gv, _, rfl, .inr h2, _, _, rfl, rfl, _, rfl, ?_⟩
  refine ite2 (fun g1 => ?_) (fun g1 => ?_)
  case refine_2 =>
    refine ⟨_, rfl, iteT ?_⟩
    have g1' : ¬ (1 : Int) <= ((h.2.map V.int).length : Int) := of_decide_eq_false (Bool.eq_false_iff.mpr g1)
    exact q _ _ (Same.refl _) (no _ rfl (bad2 (by rw [hl2] at g1'; omega)))
  have g1' : (1 : Int) <= ((h.2.map V.int).length : Int) := of_decide_eq_true g1
  refine ⟨_, _, rfl, rfl, _, rfl, ?_⟩
  refine ite2 (fun g2 => ?_) (fun g2 => ?_)
  . have g2' : ¬ ((h.2.map V.int).length : Int) <= 4 := of_decide_eq_false (by simpa using g2)
    exact q _ _ (Same.refl _) (no _ rfl (bad2 (by rw [hl2] at g2'; omega)))
  have g2' : ((h.2.map V.int).length : Int) <= 4 := of_decide_eq_true (by simpa using g2)
  rw [hl1] at d1' d2'
  rw [hl2] at g1' g2'
  refine ⟨_, rfl, _, rfl, t, _, rfl, .inr h1, _, rfl, gv, _, rfl, .inr h2, _, h, _, _, rfl, hH, hsm0, fun b H' e i => q _ _ e ?_⟩
  rw [hl1, hl2] at i
  rw [i]
  exact ⟨fun z => ⟨⟨by omega, by omega⟩, ⟨by omega, by omega⟩, z⟩, fun z => z.2.2⟩
def spBook (K : W.Frag) : Sp := fun vs H Q _ => ∃ (a : Addr) (xs : List V) (hs : List House), vs = [.ref a] /\ SqL K H a xs /\ Bk K H xs hs /\ hs.length <= 1000 /\ (∀ h ∈ hs, Small h) ∧
  ∀ (b : Bool) (H' : Hp), Same H H' -> (b = true ↔ Good hs) -> Q (.bl b) H'
theorem scBook : FnScope ["thing", "takes", "gives"] ["thing"] (defScope sBook) := ⟨rfl, rfl, rfl, by decide +kernel, rfl, by decide +kernel, by decide +kernel⟩
theorem ndBook : (["house", "takes", "gives"] : List Str).Nodup := by decide +kernel
theorem ok_book {n : Nat} {g2 : Addr} {gd2 : FuncData} (F : Fun K "is_book" "is_book" sBook f fd) (T : Nones mg) (C : Consts mg) (G : FnOk P w K mg base CX0 n g gd ["thing", "many_takes", "many_gives"] (spHouse K)) (bG : Binds K gd ["thing", "many_takes", "many_gives"] []) (kG : W.keepIn K (.ref g) = true) (mG : mg "is_house" = some (.ref g))
    (G2 : FnOk P w K mg base CX0 n g2 gd2 ["thing"] (spAnyH K)) (bG2 : Binds K gd2 ["thing"] []) (kG2 : W.keepIn K (.ref g2) = true) (mG2 : mg "is_any_house" = some (.ref g2)) :
    FnOk P w K mg base CX0 (n + 1) f fd ["thing"] (spBook K) := by
  refine F.ok scBook (fun vs H Q E h => ?_) (fun cdv A outer s H vs Q E hr h => ?_)
  . obtain ⟨a, xs, hs, rfl, _⟩ := h
    rfl
  obtain ⟨a, xs, hs, rfl, hS, hB, hz, hsm, q⟩ := h
  obtain ⟨tm, hmh⟩ := C.mh
  refine ⟨_, pss_cons (ps_if (PW.pt (pw_or (pt_not (pt_chain op_le op_le pe_int (pe_callB call_len_seq rfl T.len PySem.boot_len (pa_cons (pv 0) pa_nil)) (pe_glob (v := .int 16) rfl hmh ⟨_, rfl⟩))) (pw_or1 (pt_not (pt_val (pe_call G2 hr rfl mG2 kG2 bG2 .nil pass0 (pa_cons (pe_ix ix_list (pv 0) pe_int (fun _ _ => rfl)) pa_nil))))))) (pss_one (ps_ret pe_bl)) pss_nil)
    (pss_cons (ps_asg (pe_ix ix_list (pv 0) pe_int (fun _ _ => rfl)) (pg_tup rfl (pgs_cons (pg_name (i := 1) scBook.nd rfl (Or.inr rfl)) (pgs_cons (pg_name (i := 2) scBook.nd rfl (Or.inr rfl)) pgs_nil))))
    (pss_one (ps_ret (pe_callB (call_all rfl) rfl T.all PyProof.Rows.boot_all (pa_cons (pe_lc ["house"] [1, 2] rfl (pi_list (pv 0)) (fun _ _ _ _ => pg_name (i := 0) ndBook rfl (Or.inl rfl))
      (fun _ _ _ _ => pe_call G hr rfl mG kG bG .nil pass0 (pa_cons (pv 0) (pa_cons (pe_callB (len_at K rfl) rfl T.len PySem.boot_len (pa_cons (pv 1) pa_nil)) (pa_cons (pe_callB (len_at K rfl) rfl T.len PySem.boot_len (pa_cons (pv 2) pa_nil)) pa_nil))))) pa_nil))))), ?_⟩
  have hlen : xs.length = hs.length := Paired.length hB
  have no : ∀ b : Bool, b = false -> ¬ Good hs -> (b = true ↔ Good hs) := fun b hb hn => by rw [hb]; exact ⟨fun z => (by cases z), fun z => absurd z hn⟩
  refine ⟨_, rfl, a, _, rfl, .inl hS, _, _, rfl, rfl, _, rfl, ?_⟩
  refine ite2 (fun c1 => ?_) (fun c1 => ?_)
  case refine_2.refine_2 =>
    refine ⟨_, rfl, iteT ?_⟩
    have c1' : ¬ (1 : Int) <= (xs.length : Int) := of_decide_eq_false (Bool.eq_false_iff.mpr c1)
    refine q _ _ (Same.refl _) (no _ rfl fun z => ?_)
    have := z.1.1
    omega
  have c1' : (1 : Int) <= (xs.length : Int) := of_decide_eq_true c1
  refine ⟨_, _, rfl, rfl, _, rfl, ?_⟩
  refine ite2 (fun c2 => ?_) (fun c2 => ?_)
  . have c2' : ¬ (xs.length : Int) <= 16 := of_decide_eq_false (by simpa using c2)
    refine q _ _ (Same.refl _) (no _ rfl fun z => ?_)
    have := z.1.2
    omega
  have c2' : (xs.length : Int) <= 16 := of_decide_eq_true (by simpa using c2)
  match xs, hs, hB, hlen with
  | [], _, _, _ => exact absurd c1' (by decide)
  | x :: xr, h :: hr', .cons hH hBr, hlen =>
  obtain ⟨b0, t, gv, rfl, h0, h1, h2⟩ := id hH
  have hsm0 : Small h := hsm h List.mem_cons_self
  have hl1 : (h.1.map V.int).length = h.1.length := List.length_map _
  have hl2 : (h.2.map V.int).length = h.2.length := List.length_map _
  refine ⟨_, rfl, a, _, 0, _, rfl, rfl, hS, atI_nat (xs := V.ref b0 :: xr) (j := 0) rfl, ?_⟩
  refine ⟨_, h, rfl, hH, hsm0, fun bA HA eA iA => ⟨_, rfl, ?_⟩⟩
  refine ite2 (fun a1 => ?_) (fun a1 => ?_)
  . have a1' : ¬ bA = true := by simpa using a1
    refine q _ _ eA (no _ rfl fun z => a1' (iA.mpr ?_))
    obtain ⟨_, m, n, hm, hn, ha⟩ := z
    have hh := ha h List.mem_cons_self
    have e1 : (h.1.length : Int) = m := hh.1.1
    have e2 : (h.2.length : Int) = n := hh.2.1.1
    refine ⟨⟨by omega, by omega⟩, ⟨by omega, by omega⟩, ?_⟩
    rw [e1, e2]; exact hh
  have a1' : bA = true := by simpa using a1
  obtain ⟨dd, gg, _⟩ := iA.mp a1'
  have hS' := eA.seq hS
  have hB' : Bk K HA (V.ref b0 :: xr) (h :: hr') := Bk.same eA (.cons hH hBr)
  refine ⟨_, rfl, a, _, 0, _, rfl, rfl, hS', atI_nat (xs := V.ref b0 :: xr) (j := 0) rfl, ?_⟩
  refine ⟨b0, _, rfl, eA.tseq h0, rfl, _, _, rfl, _, _, rfl, rfl, ?_⟩
  refine ⟨_, rfl, a, rfl, ⟨_, hS'⟩, fun p hp => ?_⟩
  refine lc_same (itIs_list hS') hp (small1000 (by omega)) (fun i y _ => ∃ b hh, y = .bl b /\ (h :: hr')[i]? = some hh /\ (b = true ↔ GoodH hh h.1.length h.2.length)) (fun _ _ _ _ r _ => r) (fun i x H' ys N hx e hp' hN => ?_) (fun ys H' e hp' len pr => ?_)
  . obtain ⟨hh, hhx, hhs⟩ := Paired.at hB' hx
    refine ⟨Wk.set (by decide), _, rfl, _, rfl, t, _, rfl, .inr (e.tseq (eA.tseq h1)), _, rfl, gv, _, rfl, .inr (e.tseq (eA.tseq h2)), x, hh, _, _, rfl, hhs.same e, hsm hh (List.mem_of_getElem? hhx), fun b H3 e3 i3 => hN _ _ e3 ⟨b, hh, rfl, hhx, ?_⟩⟩
    rw [hl1, hl2] at i3
    exact i3
  . obtain ⟨bs, rfl, hbs⟩ := bls_of (F := fun i b => ∃ hh, (h :: hr')[i]? = some hh /\ (b = true ↔ GoodH hh h.1.length h.2.length)) ys (fun i y ey => by
      obtain ⟨b, hh, z1, z2, z3⟩ := pr i y ey
      exact ⟨b, z1, hh, z2, z3⟩)
    refine ⟨p, bs, rfl, .inl (SqL.of hp'), ?_⟩
    refine q _ _ (eA.trans e) ?_
    rw [List.length_map] at len
    rw [List.all_eq_true]
    constructor
    . intro z
      refine ⟨⟨by omega, by omega⟩, h.1.length, h.2.length, ⟨by omega, by omega⟩, ⟨by omega, by omega⟩, fun hh hm => ?_⟩
      obtain ⟨i, hi, rfl⟩ := List.getElem_of_mem hm
      have hib : i < bs.length := by omega
      obtain ⟨hh', z1, z2⟩ := hbs i _ (List.getElem?_eq_getElem hib)
      rw [List.getElem?_eq_getElem hi] at z1
      cases z1
      exact z2.mp (z _ (List.getElem_mem hib))
    . rintro ⟨_, m, n, hm, hn, ha⟩ b hb
      obtain ⟨i, hi, rfl⟩ := List.getElem_of_mem hb
      obtain ⟨hh', z1, z2⟩ := hbs i _ (List.getElem?_eq_getElem hi)
      have z3 := ha h List.mem_cons_self
      have z4 := ha hh' (List.mem_of_getElem? z1)
      refine z2.mpr ?_
      have e1 : h.1.length = m := by have := z3.1.1; omega
      have e2 : h.2.length = n := by have := z3.2.1.1; omega
      rw [e1, e2]; exact z4
end
end Rim
namespace Rim
open PySem L2
section
variable {P : Program} {w : World} {K : W.Frag} {mg : Str -> Option Value} {base : Heap} {f g : Addr} {fd gd : FuncData}
def spCell (K : W.Frag) : Sp := fun vs H Q _ => ∃ (a : Addr) (ns : List Int) (k : Int), vs = [.ref a, .int k] /\ SqL K H a (ns.map V.int) /\ 0 <= k /\ ∀ c : Int, Q (.int c) H
theorem scCell : FnScope ["script", "k"] ["script", "k"] (defScope sCell) := ⟨rfl, rfl, rfl, by decide +kernel, rfl, by decide +kernel, by decide +kernel⟩
theorem int_at {ns : List Int} {k : Int} (h0 : 0 <= k) (h : k < ((ns.map V.int).length : Int)) : ∃ v : Int, atI (ns.map V.int) k = some (.int v) := by
  have hl : (ns.map V.int).length = ns.length := List.length_map _
  have hk : k.toNat < ns.length := by omega
  have ek : k = ((k.toNat : Nat) : Int) := by omega
  have q : atI (ns.map V.int) ((k.toNat : Nat) : Int) = some (.int ns[k.toNat]) := atI_nat (by rw [List.getElem?_map, List.getElem?_eq_getElem hk]; rfl)
  rw [<- ek] at q
  exact ⟨_, q⟩
theorem ok_cell {n : Nat} (F : Fun K "_law_cell_at" "_law_cell_at" sCell f fd) (T : Nones mg) : FnOk P w K mg base CX0 (n + 1) f fd ["script", "k"] (spCell K) := by
  refine F.ok scCell (fun vs H Q E h => ?_) (fun cdv A outer s H vs Q E hr h => ?_)
  . obtain ⟨a, ns, k, rfl, _⟩ := h
    rfl
  obtain ⟨a, ns, k, rfl, hS, h0, q⟩ := h
  refine ⟨_, pss_cons (ps_if (pt_cmpR op_lt (pv 1) (pe_callB call_len_seq rfl T.len PySem.boot_len (pa_cons (pv 0) pa_nil)) (nomark _)) (pss_one (ps_ret (pe_ix ix_list (pv 0) (pv 1) (fun _ _ => rfl)))) pss_nil)
    (pss_one (ps_ret pe_int)), ?_⟩
  refine ⟨_, rfl, _, rfl, a, _, rfl, .inl hS, _, _, rfl, rfl, _, rfl, ?_⟩
  refine ite2 (fun c => ?_) (fun c => ?_)
  . obtain ⟨v, hv⟩ := int_at h0 (of_decide_eq_true c)
    exact ⟨_, rfl, _, rfl, a, _, _, _, rfl, rfl, hS, hv, q v⟩
  . exact q 0
def spDraws (K : W.Frag) : Sp := fun vs H Q _ => ∃ (c : Int) (many : Nat) (b : Int), vs = [.int c, .int (many : Int), .int b] /\ many <= 900 /\ 0 < b /\ b < 1073741824 ∧
  ∀ (r : Addr) (H' : Hp) (ds : List Int), Same H H' -> H' r = some (.lst (ds.map V.int)) -> ds.length = many -> (∀ d ∈ ds, 0 <= d /\ d < b) -> Q (.ref r) H'
theorem scDraws : FnScope ["cell", "many", "base", "found", "rest", "stirred", "k"] ["cell", "many", "base"] (defScope sDraws) := ⟨rfl, rfl, rfl, by decide +kernel, rfl, by decide +kernel, by decide +kernel⟩
theorem ok_draws {n : Nat} (F : Fun K "_law_draws" "_law_draws" sDraws f fd) (T : Nones mg) : FnOk P w K mg base CX0 (n + 1) f fd ["cell", "many", "base"] (spDraws K) := by
  refine F.ok scDraws (fun vs H Q E h => ?_) (fun cdv A outer s H vs Q E hr h => ?_)
  . obtain ⟨a, ns, k, rfl, _⟩ := h
    rfl
  obtain ⟨c, many, b, rfl, hm, hb0, hb1, q⟩ := h
  refine ⟨_, pss_cons (ps_set (i := 3) scDraws.nd rfl (Or.inl rfl) (pe_lst pa_nil))
    (pss_cons (ps_set (i := 4) scDraws.nd rfl (Or.inl rfl) (pe_op op_mul (pv 0) (pe_callTy call_int1 rfl T.int PyProof.Rows.boot_int (pa_cons (pe_cmpR op_ge (pv 0) (pe_op op_pow pe_int pe_int) (nomark _)) pa_nil))))
    (pss_cons (ps_set (i := 5) scDraws.nd rfl (Or.inl rfl) (pe_op op_mod (pv 0) pe_int))
    (pss_cons (ps_for PassesOwn.never rfl (pi_range1 rfl T.range (pa_cons (pe_op op_add (pv 1) pe_int) pa_nil)) (pg_name (i := 6) scDraws.nd rfl (Or.inl rfl))
      (pss_cons (ps_set (i := 5) scDraws.nd rfl (Or.inl rfl) (pe_op op_mod (pe_op op_add (pe_op op_add (pe_op op_add (pe_op op_mul (pv 5) (pv 5)) (pe_op op_mul pe_int (pv 5))) (pv 6)) pe_int) pe_int))
        (pss_one (ps_if (PW.pt (pw_and (pt_cmpR op_gt (pv 6) pe_int (nomark _)) (pw_and1 (pt_cmpR op_gt (pv 4) pe_int (nomark _)))))
          (pss_cons (ps_expr (pe_bm PySem.F.plainAttrs_list PySem.F.slot_list_append PySem.F.type_list_append mt_append (pv 3) (pa_cons (pe_op op_mod (pv 4) (pv 2)) pa_nil))) (pss_one (ps_set (i := 4) scDraws.nd rfl (Or.inl rfl) (pe_op op_fdiv (pv 4) (pv 2)))))
          (pss_one (ps_if (pt_cmpR op_gt (pv 6) pe_int (nomark _)) (pss_one (ps_expr (pe_bm PySem.F.plainAttrs_list PySem.F.slot_list_append PySem.F.type_list_append mt_append (pv 3) (pa_cons (pe_op op_mod (pe_op op_fdiv (pv 5) pe_int) (pv 2)) pa_nil)))) pss_nil))))))
    (pss_one (ps_ret (pv 3)))))), ?_⟩
  refine ⟨(by show 0 <= sizeLine; decide), fun fl hfl => ?_⟩
  refine ⟨_, rfl, _, rfl, _, _, rfl, rfl, ⟨by decide, by decide, by decide⟩, _, _, rfl, rfl, .inr ⟨_, rfl, _, _, rfl, rfl, .inr ?_, ?_⟩⟩
  . constructor <;> (split <;> decide)
  refine ⟨_, rfl, _, _, rfl, rfl, (by show (0 : Int) < 2305843009213693951; decide), ?_⟩
  refine ⟨_, rfl, _, _, rfl, rfl, ((many : Int) + 3), rfl, by omega, by omega, ?_⟩
  have e3 : ((many : Int) + 3).toNat = many + 3 := by omega
  rw [e3]
  refine for_range (n := many + 3) (fun i σ H' => ∃ (r st : Int) (ds : List Int) (ks : Option V), σ = [some (.int c), some (.int (many : Int)), some (.int b), some (.ref fl), some (.int r), some (.int st), ks] /\ H' = upd H fl (.lst (ds.map V.int)) /\ ds.length = i - 3 /\ (∀ d ∈ ds, 0 <= d /\ d < b) /\ 0 <= st /\ st < 2305843009213693951)
    ⟨_, _, [], none, rfl, rfl, rfl, fun d hd => (by cases hd), Int.emod_nonneg _ (by decide), Int.emod_lt_of_pos _ (by decide)⟩ ?_ ?_
  . rintro i σ H' hi ⟨r, st, ds, ks, rfl, rfl, hl, hd, hs0, hs1⟩
    refine ⟨_, rfl, _, rfl, _, _, rfl, rfl, .inl ⟨by omega, by omega⟩, _, rfl, _, _, rfl, rfl, .inl ⟨by decide, by decide⟩, _, _, rfl, rfl, _, rfl, _, _, rfl, rfl, _, _, rfl, rfl, _, _, rfl, rfl, (by show (0 : Int) < 2305843009213693951; decide), ?_⟩
    have hs0' : 0 <= (st * st + 48271 * st + (0 + (i : Int)) + 1) % 2305843009213693951 := Int.emod_nonneg _ (by decide)
    have hs1' : (st * st + 48271 * st + (0 + (i : Int)) + 1) % 2305843009213693951 < 2305843009213693951 := Int.emod_lt_of_pos _ (by decide)
    refine ⟨_, rfl, _, _, rfl, rfl, _, rfl, ?_⟩
    have hz : (ds.map V.int).length < sizeLine := by rw [List.length_map]; exact small1000 (by omega)
    have more : ∀ d : Int, (ds.map V.int) ++ [V.int d] = (ds ++ [d]).map V.int := fun d => by rw [List.map_append]; rfl
    have mem : ∀ d : Int, 0 <= d -> d < b -> ∀ d' ∈ ds ++ [d], 0 <= d' /\ d' < b := fun d h0 h1 d' hd' => by
      rcases List.mem_append.mp hd' with z | z
      . exact hd d' z
      . rw [List.mem_singleton.mp z]; exact ⟨h0, h1⟩
    refine ite2 (fun c1 => ?_) (fun c1 => ?_)
    . have c1' : 2 < 0 + (i : Int) := of_decide_eq_true c1
      refine ⟨_, rfl, _, _, rfl, rfl, _, rfl, ?_⟩
      refine ite2 (fun c2 => ?_) (fun c2 => ?_)
      . refine ⟨_, rfl, .inl ⟨rfl, _, SqL.of upd_same⟩, _, rfl, _, rfl, _, _, rfl, rfl, hb0, fl, _, _, rfl, rfl, upd_same, hz, ?_⟩
        refine ⟨_, rfl, _, rfl, _, _, rfl, rfl, ⟨hb0, hb1⟩, ?_⟩
        refine ⟨_, _, ds ++ [r % b], _, rfl, ?_, ?_, mem _ (Int.emod_nonneg _ (by omega)) (Int.emod_lt_of_pos _ hb0), hs0', hs1'⟩
        . rw [upd_upd, more]
        . rw [List.length_append, List.length_singleton]; omega
      . refine ⟨_, rfl, _, _, rfl, rfl, _, rfl, ?_⟩
        refine ite2 (fun c3 => ?_) (fun c3 => absurd c1 c3)
        refine ⟨_, rfl, .inl ⟨rfl, _, SqL.of upd_same⟩, _, rfl, _, _, rfl, rfl, ⟨by decide, by decide⟩, _, rfl, _, _, rfl, rfl, hb0, fl, _, _, rfl, rfl, upd_same, hz, ?_⟩
        refine ⟨_, _, ds ++ [(st * st + 48271 * st + (0 + (i : Int)) + 1) % 2305843009213693951 / 4096 % b], _, rfl, ?_, ?_, mem _ (Int.emod_nonneg _ (by omega)) (Int.emod_lt_of_pos _ hb0), hs0', hs1'⟩
        . rw [upd_upd, more]
        . rw [List.length_append, List.length_singleton]; omega
    . have c1' : ¬ 2 < 0 + (i : Int) := of_decide_eq_false (Bool.eq_false_iff.mpr c1)
      refine iteF ?_
      refine ⟨_, rfl, _, _, rfl, rfl, _, rfl, ?_⟩
      refine ite2 (fun c3 => absurd c3 c1) (fun c3 => ?_)
      exact ⟨_, _, ds, _, rfl, rfl, by omega, hd, hs0', hs1'⟩
  . rintro σ H' ⟨r, st, ds, ks, rfl, rfl, hl, hd, _⟩
    exact ⟨_, rfl, q fl _ ds (Same.new hfl _) upd_same (by omega) hd⟩
end
end Rim
namespace L2
open PySem
section
variable {X : Cx} {st : Stmt} {rest : List Stmt} {t u : TS}
def tCut (t u : TS) : TS := fun D σ H => ∃ M : St -> Hp -> Prop, t { D with nx := M } σ H /\ ∀ σ' H', M σ' H' -> u D σ' H'
theorem pss_cut (h1 : PS X st t) (h2 : PSs X rest u) : PSs X (st :: rest) (tCut t u) := by
  intro pins s σ H D I ⟨M, h, hM⟩
  refine wpAny_execs_cons (thn (h1 pins s σ H { D with nx := M } I h) fun f s1 q => ?_)
  cases f with
  | next =>
    obtain ⟨σ', H', I', q⟩ := q
    exact h2 pins s1 σ' H' D I' (hM _ _ q)
  | ret v => exact q
  | brk => exact q
  | cont => exact q
end
theorem Same.write {H H' : Hp} {p : Addr} {o : HO} (e : Same H H') (hp : H p = none) : Same H (upd H' p o) := fun b u q => by rw [upd_ne (ne_of_none q hp)]; exact e b u q
end L2
namespace Rim
open PySem L2
theorem ixN_nat {n : Nat} {k : Int} (h0 : 0 <= k) (h1 : k < (n : Int)) : ixN n k = some k.toNat := by
  unfold ixN
  rw [if_pos h0, if_pos h1]
theorem atI_mem {α : Type} {xs : List α} {k : Int} (h0 : 0 <= k) (h1 : k < (xs.length : Int)) : ∃ v, v ∈ xs /\ atI xs k = some v := by
  have hk : k.toNat < xs.length := by omega
  refine ⟨xs[k.toNat], List.getElem_mem hk, ?_⟩
  unfold atI
  rw [ixN_nat h0 h1]
  exact List.getElem?_eq_getElem hk
theorem atI_int {ns : List Int} {k : Int} (h0 : 0 <= k) (h1 : k < (ns.length : Int)) : ∃ v, v ∈ ns /\ atI (ns.map V.int) k = some (.int v) := by
  obtain ⟨v, hv, e⟩ := atI_mem (xs := ns.map V.int) h0 (by rw [List.length_map]; exact h1)
  obtain ⟨n, hn, rfl⟩ := List.mem_map.mp hv
  exact ⟨n, hn, e⟩
theorem map_set {ns : List Int} {j : Nat} {v : Int} : (ns.map V.int).set j (.int v) = (ns.set j v).map V.int := by rw [List.map_set]
structure HG (far : Int) (kt kg : Nat) (h : House) : Prop where
  lt : h.1.length = kt
  lg : h.2.length = kg
  t : ∀ x ∈ h.1, 1 <= x /\ x <= far
  g : ∀ x ∈ h.2, 0 <= x /\ x <= far
  p : ∃ x ∈ h.2, 0 < x
section
variable {P : Program} {w : World} {K : W.Frag} {mg : Str -> Option Value} {base : Heap} {f g : Addr} {fd gd : FuncData}
def spNear (K : W.Frag) : Sp := fun vs H Q _ => ∃ (v : V) (p : Addr) (far : Int) (h : House) (ds : List Int) (kt kg : Nat), vs = [v, .ref p, .int far] /\ HS K H v h /\ HG far kt kg h /\ 1 <= kt /\ kt <= 4 /\ 1 <= kg /\ kg <= 4 /\ 1 <= far ∧
  SqL K H p (ds.map V.int) /\ ds.length = 12 /\ (∀ d ∈ ds, 0 <= d) /\ ∀ (r : V) (H' : Hp) (h' : House), Same H H' -> HS K H' r h' -> HG far kt kg h' -> Q r H'
theorem scNear : FnScope ["house", "picks", "far", "takes", "gives", "by", "at"] ["house", "picks", "far"] (defScope sNear) := ⟨rfl, rfl, rfl, by decide +kernel, rfl, by decide +kernel, by decide +kernel⟩
theorem ndNear1 : (["take", "by"] : List Str).Nodup := by decide +kernel
theorem ndNear2 : (["give", "by"] : List Str).Nodup := by decide +kernel
theorem ok_near {n : Nat} (F : Fun K "_law_near" "_law_near" sNear f fd) (T : Nones mg) : FnOk P w K mg base CX0 (n + 1) f fd ["house", "picks", "far"] (spNear K) := by
  refine F.ok scNear (fun vs H Q E h => ?_) (fun cdv A outer s H vs Q E hr h => ?_)
  . obtain ⟨v, p, far, h, ds, kt, kg, rfl, _⟩ := h
    rfl
  obtain ⟨v, pk, far, h, ds, kt, kg, rfl, ⟨a, t, gv, rfl, h0, h1, h2⟩, hG, kt1, kt4, kg1, kg4, hfar, hP, hd12, hd0, q⟩ := h
  refine ⟨_, pss_cons (ps_asg (pv 0) (pg_tup rfl (pgs_cons (pg_name (i := 3) scNear.nd rfl (Or.inl rfl)) (pgs_cons (pg_name (i := 4) scNear.nd rfl (Or.inl rfl)) pgs_nil))))
    (pss_cons (ps_set (i := 5) scNear.nd rfl (Or.inr rfl) (pe_ix ix_list (pe_lst (pa_cons pe_int (pa_cons pe_int (pa_cons pe_int (pa_cons pe_int pa_nil))))) (pe_op op_mod (pe_ix ix_list (pv 1) pe_int (fun _ _ => rfl)) pe_int) (fun _ _ => rfl)))
    (pss_cut (ps_if (pt_cmpR op_gt (pe_op op_mul (pe_callB (call_max1 rfl) rfl T.max PyProof.Rows.boot_max (pa_cons (pe_op op_catT (pv 3) (pv 4)) pa_nil)) (pv 5)) (pv 2) (nomark _)) (pss_one (ps_set (i := 5) scNear.nd rfl (Or.inr rfl) pe_int)) pss_nil)
    (pss_cons (ps_lc (i := 3) ["take"] [5] scNear.nd rfl rfl rfl (pi_tup (pv 3)) (fun _ _ _ _ => pg_name (i := 0) ndNear1 rfl (Or.inl rfl)) (fun _ _ _ _ => pe_op op_mul (pv 0) (pv 1)))
    (pss_cons (ps_lc (i := 4) ["give"] [5] scNear.nd rfl rfl rfl (pi_tup (pv 4)) (fun _ _ _ _ => pg_name (i := 0) ndNear2 rfl (Or.inl rfl)) (fun _ _ _ _ => pe_op op_mul (pv 0) (pv 1)))
    (pss_cut (ps_if (pt_cmpR op_eq (pe_op op_mod (pe_op op_fdiv (pe_ix ix_list (pv 1) pe_int (fun _ _ => rfl)) pe_int) pe_int) pe_int (nomark _))
      (pss_cons (ps_set (i := 6) scNear.nd rfl (Or.inl rfl) (pe_op op_mod (pe_ix ix_list (pv 1) pe_int (fun _ _ => rfl)) (pe_callB call_len_seq rfl T.len PySem.boot_len (pa_cons (pv 3) pa_nil))))
        (pss_one (ps_asg (pe_callB (call_min2 rfl) rfl T.min PyProof.Rows.boot_min (pa_cons (pv 2) (pa_cons (pe_op op_add (pe_op op_add (pe_ix ix_list (pv 3) (pv 6) (fun _ _ => rfl)) (pe_op op_mod (pe_op op_fdiv (pe_ix ix_list (pv 1) pe_int (fun _ _ => rfl)) pe_int) pe_int)) pe_int) pa_nil))) (pg_sub (pv 3) (pv 6) set_list)))) pss_nil)
    (pss_cut (ps_if (pt_cmpR op_eq (pe_op op_mod (pe_op op_fdiv (pe_ix ix_list (pv 1) pe_int (fun _ _ => rfl)) pe_int) pe_int) pe_int (nomark _))
      (pss_cons (ps_set (i := 6) scNear.nd rfl (Or.inl rfl) (pe_op op_mod (pe_ix ix_list (pv 1) pe_int (fun _ _ => rfl)) (pe_callB call_len_seq rfl T.len PySem.boot_len (pa_cons (pv 4) pa_nil))))
        (pss_one (ps_asg (pe_callB (call_min2 rfl) rfl T.min PyProof.Rows.boot_min (pa_cons (pv 2) (pa_cons (pe_op op_add (pe_ix ix_list (pv 4) (pv 6) (fun _ _ => rfl)) pe_int) pa_nil))) (pg_sub (pv 4) (pv 6) set_list)))) pss_nil)
    (pss_one (ps_ret (pe_tup (pa_cons (pe_callTy call_tuple_of rfl T.tuple PyProof.Rows.boot_tuple (pa_cons (pv 3) pa_nil)) (pa_cons (pe_callTy call_tuple_of rfl T.tuple PyProof.Rows.boot_tuple (pa_cons (pv 4) pa_nil)) pa_nil))))))))))), ?_⟩
  obtain ⟨d9, hd9, a9⟩ := atI_int (ns := ds) (k := 9) (by decide) (by omega)
  obtain ⟨d8, hd8, a8⟩ := atI_int (ns := ds) (k := 8) (by decide) (by omega)
  have p9 := hd0 d9 hd9
  have p8 := hd0 d8 hd8
  refine ⟨_, rfl, a, _, rfl, h0, rfl, _, _, rfl, _, _, rfl, rfl, ?_⟩
  refine ⟨(by show 4 <= sizeLine; decide), fun lp hlp => ?_⟩
  have s1 := Same.new hlp (.lst [V.int 1, V.int 1, V.int 2, V.int 3])
  obtain ⟨bv, hbv, abv⟩ := atI_int (ns := [1, 1, 2, 3]) (k := d9 % 4) (by omega) (by show d9 % 4 < 4; omega)
  have hb : 1 <= bv /\ bv <= 3 := by
    simp at hbv
    rcases hbv with rfl | rfl | rfl <;> decide
  refine ⟨_, rfl, pk, _, 9, _, rfl, rfl, s1.seq hP, a9, _, _, rfl, rfl, (by show (0 : Int) < 4; decide), lp, _, _, _, rfl, rfl, SqL.of upd_same, abv, ?_⟩
  have l1 : (h.1.map V.int).length = kt := by rw [List.length_map]; exact hG.lt
  have l2 : (h.2.map V.int).length = kg := by rw [List.length_map]; exact hG.lg
  have hne : h.1 ++ h.2 ≠ [] := fun z => by
    have := congrArg List.length z
    rw [List.length_append, hG.lt] at this
    simp at this
    omega
  refine ⟨fun σ' H' => ∃ b : Int, σ' = [some (.ref a), some (.ref pk), some (.int far), some (.ref t), some (.ref gv), some (.int b), none] /\ Same H H' /\ (1 <= b /\ b <= 3) /\ ∀ x ∈ h.1 ++ h.2, x * b <= far, ?_, ?_⟩
  . refine ⟨_, rfl, _, rfl, t, gv, _, _, rfl, rfl, s1.tseq h1, s1.tseq h2, ?_, ?_, ?_, ?_⟩
    . intro z; rw [z] at l1; simp at l1; omega
    . rw [l1, l2]; exact Nat.le_of_lt (small1000 (by omega))
    . intro z; rw [z] at l2; simp at l2; omega
    . intro _ pc hpc
      have s2 := Same.new hpc (.tup (h.1.map V.int ++ h.2.map V.int))
      refine ⟨pc, h.1 ++ h.2, rfl, .inr (SqT.of (by rw [upd_same, List.map_append])), hne, fun M hM hMx => ?_⟩
      refine ⟨_, rfl, _, _, rfl, rfl, .inr ⟨by omega, by omega⟩, _, rfl, _, _, rfl, rfl, _, rfl, ?_⟩
      refine ite2 (fun c => ?_) (fun c => ?_)
      . refine ⟨1, rfl, s1.trans s2, by decide, fun x hx => ?_⟩
        rcases List.mem_append.mp hx with z | z
        . have := hG.t x z; omega
        . have := hG.g x z; omega
      . have c' : ¬ far < M * bv := of_decide_eq_false (Bool.eq_false_iff.mpr c)
        refine ⟨bv, rfl, s1.trans s2, hb, fun x hx => ?_⟩
        have := Int.mul_le_mul_of_nonneg_right (hMx x hx) (show 0 <= bv by omega)
        omega
  rintro σ' H2 ⟨b, rfl, e2, hb, hbx⟩
  have mulok : CMul = CMul := rfl
  refine ⟨_, rfl, t, rfl, ⟨_, e2.tseq h1⟩, fun tl htl => ?_⟩
  refine lc_map (itIs_tup (e2.tseq h1)) htl (by rw [l1]; exact small1000 (by omega)) (fun x => .int (vI x * b)) (fun i x H' N hx e hN => ?_) ?_
  . obtain ⟨k, rfl⟩ := map_int_at hx
    exact ⟨Wk.set (by decide), _, rfl, _, rfl, _, _, rfl, rfl, .inr ⟨by omega, by omega⟩, hN⟩
  have e3 := e2.write (o := .lst ((h.1.map V.int).map fun x => .int (vI x * b))) (e2.free htl)
  refine ⟨_, rfl, gv, rfl, ⟨_, e3.tseq h2⟩, fun gl hgl => ?_⟩
  refine lc_map (itIs_tup (e3.tseq h2)) hgl (by rw [l2]; exact small1000 (by omega)) (fun x => .int (vI x * b)) (fun i x H' N hx e hN => ?_) ?_
  . obtain ⟨k, rfl⟩ := map_int_at hx
    exact ⟨Wk.set (by decide), _, rfl, _, rfl, _, _, rfl, rfl, .inr ⟨by omega, by omega⟩, hN⟩
  have eA : (h.1.map V.int).map (fun x => V.int (vI x * b)) = (h.1.map (· * b)).map V.int := by rw [List.map_map, List.map_map]; rfl
  have eB : (h.2.map V.int).map (fun x => V.int (vI x * b)) = (h.2.map (· * b)).map V.int := by rw [List.map_map, List.map_map]; rfl
  have ftl : H tl = none := e2.free htl
  have fgl : H gl = none := e3.free hgl
  have ne1 : tl ≠ gl := fun z => by rw [<- z, upd_same] at hgl; cases hgl
  rw [eA, eB]
  rw [eA] at e3
  have e4 := e3.write (o := .lst ((h.2.map (· * b)).map V.int)) fgl
  have at4 : upd (upd H2 tl (.lst ((h.1.map (· * b)).map V.int))) gl (.lst ((h.2.map (· * b)).map V.int)) tl = some (.lst ((h.1.map (· * b)).map V.int)) := by rw [upd_ne ne1, upd_same]
  have ag4 : upd (upd H2 tl (.lst ((h.1.map (· * b)).map V.int))) gl (.lst ((h.2.map (· * b)).map V.int)) gl = some (.lst ((h.2.map (· * b)).map V.int)) := upd_same
  generalize upd (upd H2 tl (.lst ((h.1.map (· * b)).map V.int))) gl (.lst ((h.2.map (· * b)).map V.int)) = H4 at e4 at4 ag4 ⊢
  have tA : ∀ x ∈ h.1.map (· * b), 1 <= x /\ x <= far := fun x hx => by
    obtain ⟨y, hy, rfl⟩ := List.mem_map.mp hx
    have y1 := (hG.t y hy).1
    have y2 := hbx y (List.mem_append_left _ hy)
    have y3 := Int.mul_le_mul y1 hb.1 (by decide) (by omega)
    exact ⟨by simpa using y3, y2⟩
  have tB : ∀ x ∈ h.2.map (· * b), 0 <= x /\ x <= far := fun x hx => by
    obtain ⟨y, hy, rfl⟩ := List.mem_map.mp hx
    exact ⟨Int.mul_nonneg (hG.g y hy).1 (by omega), hbx y (List.mem_append_right _ hy)⟩
  have tP : ∃ x ∈ h.2.map (· * b), 0 < x := by
    obtain ⟨y, hy, y0⟩ := hG.p
    exact ⟨y * b, List.mem_map.mpr ⟨y, hy, rfl⟩, Int.mul_pos y0 (by omega)⟩
  have lA : (h.1.map (· * b)).length = kt := by rw [List.length_map]; exact hG.lt
  have lB : (h.2.map (· * b)).length = kg := by rw [List.length_map]; exact hG.lg
  generalize h.1.map (· * b) = A0 at tA lA at4
  generalize h.2.map (· * b) = B0 at tB lB tP ag4
  refine ⟨fun σ' H' => ∃ (A1 : List Int) (ks : Option V), σ' = [some (.ref a), some (.ref pk), some (.int far), some (.ref tl), some (.ref gl), some (.int b), ks] /\ Same H H' /\ H' tl = some (.lst (A1.map V.int)) /\ H' gl = some (.lst (B0.map V.int)) /\ A1.length = kt /\ ∀ x ∈ A1, 1 <= x /\ x <= far, ?_, ?_⟩
  . refine ⟨_, rfl, pk, _, 9, _, rfl, rfl, e4.seq hP, a9, _, _, rfl, rfl, ⟨by decide, by decide⟩, _, _, rfl, rfl, (by show (0 : Int) < 3; decide), rfl, _, rfl, ?_⟩
    refine ite2 (fun c => ?_) (fun c => ⟨A0, none, rfl, e4, at4, ag4, lA, tA⟩)
    have lA' : (A0.map V.int).length = kt := by rw [List.length_map]; exact lA
    refine ⟨_, rfl, pk, _, 8, _, rfl, rfl, e4.seq hP, a8, _, rfl, tl, _, rfl, .inl (SqL.of at4), _, _, rfl, rfl, (by show (0 : Int) < ((A0.map V.int).length : Int); rw [lA']; omega), ?_⟩
    have r0 : 0 <= d8 % ((A0.map V.int).length : Int) := Int.emod_nonneg _ (by rw [lA']; omega)
    have r1 : d8 % ((A0.map V.int).length : Int) < ((A0.map V.int).length : Int) := Int.emod_lt_of_pos _ (by rw [lA']; omega)
    obtain ⟨x, hx, ax⟩ := atI_int (ns := A0) (k := d8 % ((A0.map V.int).length : Int)) r0 (by rw [List.length_map] at r1 ⊢; exact r1)
    have hx1 := tA x hx
    refine ⟨_, rfl, _, rfl, _, rfl, tl, _, _, _, rfl, rfl, SqL.of at4, ax, _, rfl, pk, _, 9, _, rfl, rfl, e4.seq hP, a9, _, _, rfl, rfl, ⟨by decide, by decide⟩, _, _, rfl, rfl, (by show (0 : Int) < 2; decide), _, _, rfl, rfl, _, _, rfl, rfl, _, _, rfl, ?_⟩
    refine ⟨_, rfl, _, rfl, tl, _, _, _, rfl, rfl, at4, ixN_nat r0 r1, ?_⟩
    refine ⟨A0.set (d8 % ((A0.map V.int).length : Int)).toNat _, _, rfl, e4.write ftl, by rw [upd_same, map_set], by rw [upd_ne (Ne.symm ne1)]; exact ag4, by rw [List.length_set]; exact lA, fun y hy => ?_⟩
    rcases List.mem_or_eq_of_mem_set hy with z | z
    . exact tA y z
    . rw [z]
      split <;> omega
  rintro σ' H5 ⟨A1, ks, rfl, e5, at5, ag5, lA1, tA1⟩
  refine ⟨fun σ' H' => ∃ (B1 : List Int) (ks : Option V), σ' = [some (.ref a), some (.ref pk), some (.int far), some (.ref tl), some (.ref gl), some (.int b), ks] /\ Same H H' /\ H' tl = some (.lst (A1.map V.int)) /\ H' gl = some (.lst (B1.map V.int)) /\ B1.length = kg /\ (∀ x ∈ B1, 0 <= x /\ x <= far) /\ ∃ x ∈ B1, 0 < x, ?_, ?_⟩
  . refine ⟨_, rfl, pk, _, 9, _, rfl, rfl, e5.seq hP, a9, _, _, rfl, rfl, ⟨by decide, by decide⟩, _, _, rfl, rfl, (by show (0 : Int) < 3; decide), rfl, _, rfl, ?_⟩
    refine ite2 (fun c => ?_) (fun c => ⟨B0, ks, rfl, e5, at5, ag5, lB, tB, tP⟩)
    have lB' : (B0.map V.int).length = kg := by rw [List.length_map]; exact lB
    refine ⟨_, rfl, pk, _, 8, _, rfl, rfl, e5.seq hP, a8, _, rfl, gl, _, rfl, .inl (SqL.of ag5), _, _, rfl, rfl, (by show (0 : Int) < ((B0.map V.int).length : Int); rw [lB']; omega), ?_⟩
    have r0 : 0 <= d8 % ((B0.map V.int).length : Int) := Int.emod_nonneg _ (by rw [lB']; omega)
    have r1 : d8 % ((B0.map V.int).length : Int) < ((B0.map V.int).length : Int) := Int.emod_lt_of_pos _ (by rw [lB']; omega)
    obtain ⟨x, hx, ax⟩ := atI_int (ns := B0) (k := d8 % ((B0.map V.int).length : Int)) r0 (by rw [List.length_map] at r1 ⊢; exact r1)
    have hx1 := tB x hx
    refine ⟨_, rfl, _, rfl, _, rfl, gl, _, _, _, rfl, rfl, SqL.of ag5, ax, _, _, rfl, rfl, _, _, rfl, ?_⟩
    refine ⟨_, rfl, _, rfl, gl, _, _, _, rfl, rfl, ag5, ixN_nat r0 r1, ?_⟩
    have rn : (d8 % ((B0.map V.int).length : Int)).toNat < B0.length := by rw [List.length_map] at r1 ⊢; omega
    refine ⟨B0.set (d8 % ((B0.map V.int).length : Int)).toNat _, _, rfl, e5.write fgl, by rw [upd_ne ne1]; exact at5, by rw [upd_same, map_set], by rw [List.length_set]; exact lB, fun y hy => ?_, _, List.mem_set rn _, ?_⟩
    . rcases List.mem_or_eq_of_mem_set hy with z | z
      . exact tB y z
      . rw [z]
        split <;> omega
    . split <;> omega
  rintro σ' H6 ⟨B1, ks, rfl, e6, at6, ag6, lB1, tB1, tP1⟩
  refine ⟨_, rfl, tl, _, rfl, .inl ⟨SqL.of at6, fun pt hpt => ?_⟩⟩
  have f1 := Same.new hpt (.tup (A1.map V.int))
  refine ⟨_, rfl, gl, _, rfl, .inl ⟨SqL.of (f1 _ _ ag6), fun pg hpg => ?_⟩⟩
  have f2 := Same.new hpg (.tup (B1.map V.int))
  refine ⟨(by show 2 <= sizeLine; decide), fun pr hpr => ?_⟩
  have f3 := Same.new hpr (.tup [V.ref pt, V.ref pg])
  exact q _ _ (A1, B1) (e6.trans (f1.trans (f2.trans f3))) ⟨pr, pt, pg, rfl, SqT.of upd_same, SqT.of (f3 _ _ (f2 _ _ upd_same)), SqT.of (f3 _ _ upd_same)⟩ ⟨lA1, lB1, tA1, tB1, tP1⟩
end
end Rim
namespace L2
open PySem
def Keep (H H' : Hp) : Prop := ∀ b o, H b = some o -> (∀ xs, o ≠ .lst xs) -> H' b = some o
theorem Same.keep {H H' : Hp} (e : Same H H') : Keep H H' := fun b o q _ => e b o q
theorem Keep.trans {H H1 H2 : Hp} (a : Keep H H1) (b : Keep H1 H2) : Keep H H2 := fun c o q n => b c o (a c o q n) n
theorem Keep.upd {H : Hp} {b : Addr} {ys : List V} {o : HO} (h : H b = some (.lst ys)) : Keep H (upd H b o) := fun c u q n => by
  have : c ≠ b := fun z => by rw [z, h] at q; exact n ys (Option.some.inj q).symm
  rw [upd_ne this]; exact q
theorem Keep.tseq {K : W.Frag} {H H' : Hp} {a : Addr} {xs : List V} (e : Keep H H') (h : SqT K H a xs) : SqT K H' a xs := by
  rcases h with (h | ⟨o, h⟩) | h
  . exact .inl (.inl (e _ _ h (fun _ z => nomatch z)))
  . exact .inl (.inr ⟨o, e _ _ h (fun _ z => nomatch z)⟩)
  . exact .inr h
end L2
namespace Rim
open PySem L2
theorem HS.keep {K : W.Frag} {H H' : Hp} {v : V} {h : House} (e : Keep H H') (x : HS K H v h) : HS K H' v h := by
  obtain ⟨a, t, g, h0, h1, h2, h3⟩ := x
  exact ⟨a, t, g, h0, e.tseq h1, e.tseq h2, e.tseq h3⟩
theorem Bk.keep {K : W.Frag} {H H' : Hp} {vs : List V} {hs : List House} (e : Keep H H') (x : Bk K H vs hs) : Bk K H' vs hs := Paired.imp' (fun _ _ r => HS.keep e r) x
def dInts (ns : List Int) : PyData := .tuple (ns.map PyData.int)
def dHouse (h : House) : PyData := .tuple [dInts h.1, dInts h.2]
theorem dps_ints {K : W.Frag} {H : Hp} : ∀ ns : List Int, Dps K H (ns.map V.int) (ns.map PyData.int)
  | [] => .nil
  | n :: r => .cons (.int n) (dps_ints r)
theorem HS.dp {K : W.Frag} {H : Hp} {v : V} {h : House} (x : HS K H v h) : Dp K H v (dHouse h) := by
  obtain ⟨a, t, g, rfl, h1, h2, h3⟩ := x
  exact .tup h1 (.cons (.tup h2 (dps_ints _)) (.cons (.tup h3 (dps_ints _)) .nil))
theorem Bk.dps {K : W.Frag} {H : Hp} : ∀ {vs : List V} {hs : List House}, Bk K H vs hs -> Dps K H vs (hs.map dHouse)
  | _, _, .nil => .nil
  | _, _, .cons x r => .cons x.dp (Bk.dps r)
theorem lay_ints : ∀ ns : List Int, PyData.canLayAll0 (ns.map PyData.int) = true
  | [] => by rw [List.map_nil, PyData.canLayAll0]
  | n :: r => by rw [List.map_cons, PyData.canLayAll0, lay_ints r, PyData.canLay0]; rfl
theorem lay_house (h : House) : (dHouse h).canLay0 = true := by
  unfold dHouse dInts
  rw [PyData.canLay0, PyData.canLayAll0, PyData.canLay0, lay_ints, PyData.canLayAll0, PyData.canLay0, lay_ints, PyData.canLayAll0]; rfl
theorem lay_book : ∀ hs : List House, PyData.canLayAll0 (hs.map dHouse) = true
  | [] => by rw [List.map_nil, PyData.canLayAll0]
  | h :: r => by rw [List.map_cons, PyData.canLayAll0, lay_house, lay_book r]; rfl
section
variable {P : Program} {w : World} {K : W.Frag} {mg : Str -> Option Value} {base : Heap} {f g : Addr} {fd gd : FuncData}
def spABook (K : W.Frag) : Sp := fun vs H Q _ => ∃ (a : Addr) (ns : List Int) (at' most far : Int), vs = [.ref a, .int at', .int most, .int far] /\ SqL K H a (ns.map V.int) /\ 0 <= at' /\ 1 <= most /\ most <= 900 /\ 1 <= far ∧
  ∀ (r : Addr) (H' : Hp) (xs : List V) (hs : List House) (kt kg : Nat), Same H H' -> H' r = some (.lst xs) -> Bk K H' xs hs -> 1 <= hs.length -> (hs.length : Int) <= most -> 1 <= kt -> kt <= 4 -> 1 <= kg -> kg <= 4 -> (∀ h ∈ hs, HG far kt kg h) -> Q (.ref r) H'
theorem scABook : FnScope ["script", "at", "most", "far", "heads", "kinds", "many", "size", "book", "k", "picks", "takes", "some", "gives", "house"] ["script", "at", "most", "far"] (defScope sABook) := ⟨rfl, rfl, rfl, by decide +kernel, rfl, by decide +kernel, by decide +kernel⟩
theorem ndABook : (["pick", "size"] : List Str).Nodup := by decide +kernel
set_option maxHeartbeats 4000000 in
noncomputable def abT {n : Nat} {fc fw fn : Addr} {dc dw dn : FuncData} {cdv : Value} {A : Around} {outer : List Env} {s : Shared} {H : Hp} {E : XK} (T : Nones mg)
    (Gc : FnOk P w K mg base CX0 n fc dc ["script", "k"] (spCell K)) (bc : Binds K dc ["script", "k"] []) (kc : W.keepIn K (.ref fc) = true) (mc : mg "_law_cell_at" = some (.ref fc))
    (Gw : FnOk P w K mg base CX0 n fw dw ["cell", "many", "base"] (spDraws K)) (bw : Binds K dw ["cell", "many", "base"] []) (kw : W.keepIn K (.ref fw) = true) (mw : mg "_law_draws" = some (.ref fw))
    (Gn : FnOk P w K mg base CX0 n fn dn ["house", "picks", "far"] (spNear K)) (bn : Binds K dn ["house", "picks", "far"] []) (kn : W.keepIn K (.ref fn) = true) (mn : mg "_law_near" = some (.ref fn))
    (hr : Room n (A.deeper (PyProof.Rows.envOfC "_law_a_book" (defScope sABook) s.heap.objs.size f cdv))) :
    { t : TS // PSs (cxOf CX0 P w K mg base ["script", "at", "most", "far", "heads", "kinds", "many", "size", "book", "k", "picks", "takes", "some", "gives", "house"] "_law_a_book" (defScope sABook) f cdv A outer s H E).nox (defBody sABook) t } :=
  ⟨_, pss_cons (ps_set (i := 4) scABook.nd rfl (Or.inl rfl) (pe_call Gw hr rfl mw kw bw .nil pass0 (pa_cons (pe_call Gc hr rfl mc kc bc .nil pass0 (pa_cons (pv 0) (pa_cons (pv 1) pa_nil))) (pa_cons pe_int (pa_cons pe_int pa_nil)))))
    (pss_cut (ps_set (i := 5) scABook.nd rfl (Or.inl rfl) (pe_lst (pa_cons (pe_op op_add pe_int (pe_op op_mod (pe_ix ix_list (pv 4) pe_int (fun _ _ => rfl)) (pe_ix ix_list (pe_lst (pa_cons pe_int (pa_cons pe_int pa_nil))) (pe_op op_mod (pe_ix ix_list (pv 4) pe_int (fun _ _ => rfl)) pe_int) (fun _ _ => rfl))))
      (pa_cons (pe_op op_add pe_int (pe_op op_mod (pe_ix ix_list (pv 4) pe_int (fun _ _ => rfl)) (pe_ix ix_list (pe_lst (pa_cons pe_int (pa_cons pe_int pa_nil))) (pe_op op_mod (pe_ix ix_list (pv 4) pe_int (fun _ _ => rfl)) pe_int) (fun _ _ => rfl)))) pa_nil))))
    (pss_cut (ps_set (i := 6) scABook.nd rfl (Or.inl rfl) (pe_op op_add pe_int (pe_op op_mod (pe_ix ix_list (pv 4) pe_int (fun _ _ => rfl)) (pe_ix ix_list (pe_lst (pa_cons (pv 2) (pa_cons (pe_callB (call_min2 rfl) rfl T.min PyProof.Rows.boot_min (pa_cons (pv 2) (pa_cons pe_int pa_nil))) pa_nil))) (pe_op op_fdiv (pe_op op_mod (pe_ix ix_list (pv 4) pe_int (fun _ _ => rfl)) pe_int) pe_int) (fun _ _ => rfl)))))
    (pss_cut (ps_set (i := 7) scABook.nd rfl (Or.inr rfl) (pe_callB (call_min2 rfl) rfl T.min PyProof.Rows.boot_min (pa_cons (pv 3) (pa_cons (pe_ix ix_list (pe_lst (pa_cons pe_int (pa_cons pe_int (pa_cons pe_int (pa_cons pe_int (pa_cons (pe_op op_pow pe_int pe_int) pa_nil)))))) (pe_op op_mod (pe_ix ix_list (pv 4) pe_int (fun _ _ => rfl)) pe_int) (fun _ _ => rfl)) pa_nil))))
    (pss_cons (ps_set (i := 8) scABook.nd rfl (Or.inl rfl) (pe_lst pa_nil))
    (pss_cons (ps_for PassesOwn.never rfl (pi_range1 rfl T.range (pa_cons (pv 6) pa_nil)) (pg_name (i := 9) scABook.nd rfl (Or.inl rfl))
      (pss_cut (ps_set (i := 10) scABook.nd rfl (Or.inl rfl) (pe_call Gw hr rfl mw kw bw .nil pass0 (pa_cons (pe_op op_add (pe_call Gc hr rfl mc kc bc .nil pass0 (pa_cons (pv 0) (pa_cons (pe_op op_add (pv 1) pe_int) pa_nil))) (pe_op op_mul (pv 9) (pe_op op_add (pe_ix ix_list (pv 4) pe_int (fun _ _ => rfl)) pe_int))) (pa_cons pe_int (pa_cons (pe_op op_pow pe_int pe_int) pa_nil)))))
      (pss_cut (ps_set (i := 11) scABook.nd rfl (Or.inl rfl) (pe_callTy call_tuple_of rfl T.tuple PyProof.Rows.boot_tuple (pa_cons (pe_lc ["pick"] [7] rfl (pi_list (pe_slice sl_list (pv 10) po_none (po_some (pe_ix ix_list (pv 5) pe_int (fun _ _ => rfl))))) (fun _ _ _ _ => pg_name (i := 0) ndABook rfl (Or.inl rfl)) (fun _ _ _ _ => pe_op op_add pe_int (pe_op op_mod (pv 0) (pv 1)))) pa_nil)))
      (pss_cons (ps_set (i := 12) scABook.nd rfl (Or.inl rfl) (pe_slice sl_list (pv 10) (po_some pe_int) (po_some (pe_op op_add pe_int (pe_ix ix_list (pv 5) pe_int (fun _ _ => rfl))))))
      (pss_cut (ps_lc (i := 13) ["pick"] [7] scABook.nd rfl rfl rfl (pi_list (pv 12)) (fun _ _ _ _ => pg_name (i := 0) ndABook rfl (Or.inl rfl)) (fun _ _ _ _ => pe_op op_mul (pe_op op_mod (pv 0) (pe_op op_add (pv 1) pe_int)) (pe_callTy call_int1 rfl T.int PyProof.Rows.boot_int (pa_cons (pe_cmpR op_gt (pe_op op_mod (pv 0) pe_int) pe_int (nomark _)) pa_nil))))
      (pss_cut (ps_if (pt_cmpR op_eq (pe_callB (call_max1 rfl) rfl T.max PyProof.Rows.boot_max (pa_cons (pv 13) pa_nil)) pe_int (nomark _)) (pss_one (ps_asg (pe_op op_add pe_int (pe_op op_mod (pe_ix ix_list (pv 10) pe_int (fun _ _ => rfl)) (pv 7))) (pg_sub (pv 13) (pe_op op_mod (pe_ix ix_list (pv 10) pe_int (fun _ _ => rfl)) (pe_ix ix_list (pv 5) pe_int (fun _ _ => rfl))) set_list))) pss_nil)
      (pss_cut (ps_set (i := 14) scABook.nd rfl (Or.inl rfl) (pe_tup (pa_cons (pv 11) (pa_cons (pe_callTy call_tuple_of rfl T.tuple PyProof.Rows.boot_tuple (pa_cons (pv 13) pa_nil)) pa_nil))))
      (pss_cut (ps_if (PW.pt (pw_and (pt_cmpR (op_neD hr) (pv 8) (pe_lst pa_nil) (nomark _)) (pw_and1 (pt_cmpR op_eq (pe_op op_mod (pe_ix ix_list (pv 10) pe_int (fun _ _ => rfl)) pe_int) pe_int (nomark _)))))
        (pss_one (ps_set (i := 14) scABook.nd rfl (Or.inl rfl) (pe_call Gn hr rfl mn kn bn .nil pass0 (pa_cons (pe_ix ix_list (pv 8) (pe_op op_mod (pe_ix ix_list (pv 10) pe_int (fun _ _ => rfl)) (pe_callB call_len_seq rfl T.len PySem.boot_len (pa_cons (pv 8) pa_nil))) (fun _ _ => rfl)) (pa_cons (pv 10) (pa_cons (pv 3) pa_nil)))))) pss_nil)
      (pss_one (ps_expr (pe_bm PySem.F.plainAttrs_list PySem.F.slot_list_append PySem.F.type_list_append mt_append (pv 8) (pa_cons (pv 14) pa_nil))))))))))))
    (pss_one (ps_ret (pv 8))))))))⟩
end
end Rim
namespace Rim
open PySem L2
section
variable {P : Program} {w : World} {K : W.Frag} {mg : Str -> Option Value} {base : Heap} {f g : Addr} {fd gd : FuncData}
set_option maxHeartbeats 4000000 in
theorem ok_abook {n : Nat} {fc fw fn : Addr} {dc dw dn : FuncData} (F : Fun K "_law_a_book" "_law_a_book" sABook f fd) (T : Nones mg)
    (Gc : FnOk P w K mg base CX0 n fc dc ["script", "k"] (spCell K)) (bc : Binds K dc ["script", "k"] []) (kc : W.keepIn K (.ref fc) = true) (mc : mg "_law_cell_at" = some (.ref fc))
    (Gw : FnOk P w K mg base CX0 n fw dw ["cell", "many", "base"] (spDraws K)) (bw : Binds K dw ["cell", "many", "base"] []) (kw : W.keepIn K (.ref fw) = true) (mw : mg "_law_draws" = some (.ref fw))
    (Gn : FnOk P w K mg base CX0 n fn dn ["house", "picks", "far"] (spNear K)) (bn : Binds K dn ["house", "picks", "far"] []) (kn : W.keepIn K (.ref fn) = true) (mn : mg "_law_near" = some (.ref fn)) :
    FnOk P w K mg base CX0 (n + 1) f fd ["script", "at", "most", "far"] (spABook K) := by
  refine F.ok scABook (fun vs H Q E h => ?_) (fun cdv A outer s H vs Q E hr h => ?_)
  . obtain ⟨a, ns, at', most, far, rfl, _⟩ := h
    rfl
  obtain ⟨a, ns, at', most, far, rfl, hS, hat, hm1, hm2, hfar, q⟩ := h
  refine ⟨_, (abT T Gc bc kc mc Gw bw kw mw Gn bn kn mn hr).2, ?_⟩
  refine ⟨_, rfl, _, rfl, a, ns, at', rfl, hS, hat, fun c => ⟨c, 8, 1000, rfl, by decide, by decide, by decide, fun hl H1 hd e1 hH1 hlen hb => ?_⟩⟩
  have hd' : ∀ k : Int, 0 <= k -> k < 8 -> ∃ v, v ∈ hd /\ atI (hd.map V.int) k = some (.int v) := fun k k0 k1 => atI_int k0 (by omega)
  obtain ⟨x0, m0, a0⟩ := hd' 0 (by decide) (by decide)
  obtain ⟨x1, m1, a1⟩ := hd' 1 (by decide) (by decide)
  obtain ⟨x2, m2, a2⟩ := hd' 2 (by decide) (by decide)
  obtain ⟨x3, m3, a3⟩ := hd' 3 (by decide) (by decide)
  obtain ⟨x4, m4, a4⟩ := hd' 4 (by decide) (by decide)
  obtain ⟨x5, m5, a5⟩ := hd' 5 (by decide) (by decide)
  obtain ⟨x7, m7, a7⟩ := hd' 7 (by decide) (by decide)
  have b0 := hb x0 m0; have b1 := hb x1 m1; have b2 := hb x2 m2; have b3 := hb x3 m3; have b4 := hb x4 m4; have b5 := hb x5 m5; have b7 := hb x7 m7
  -- kinds
  refine ⟨fun σ' H' => ∃ (kl : Addr) (kt kg : Nat), σ' = [some (.ref a), some (.int at'), some (.int most), some (.int far), some (.ref hl), some (.ref kl), none, none, none, none, none, none, none, none, none] /\ Same H1 H' /\ H' kl = some (.lst [.int (kt : Int), .int (kg : Int)]) /\ 1 <= kt /\ kt <= 4 /\ 1 <= kg /\ kg <= 4, ?_, ?_⟩
  . have two : ∀ y : Int, 0 <= y -> ∃ z : Int, (z = 4 \/ z = 2) /\ atI [V.int 4, V.int 2] (y % 2) = some (.int z) := fun y hy => by
      obtain ⟨z, hz, az⟩ := atI_int (ns := [4, 2]) (k := y % 2) (by omega) (by show y % 2 < 2; omega)
      exact ⟨z, by simpa using hz, az⟩
    obtain ⟨z1, hz1, az1⟩ := two x2 b2.1
    refine ⟨_, rfl, hl, _, 0, _, rfl, rfl, SqL.of hH1, a0, (by show 2 <= sizeLine; decide), fun l1 hl1 => ?_⟩
    have s1 := Same.new hl1 (.lst [V.int 4, V.int 2])
    refine ⟨_, rfl, hl, _, 2, _, rfl, rfl, SqL.of (s1 _ _ hH1), a2, _, _, rfl, rfl, (by show (0 : Int) < 2; decide), l1, _, _, _, rfl, rfl, SqL.of upd_same, az1, _, _, rfl, rfl, (by show (0 : Int) < z1; omega), _, _, rfl, rfl, ?_⟩
    refine ⟨_, rfl, hl, _, 1, _, rfl, rfl, SqL.of (s1 _ _ hH1), a1, (by show 2 <= sizeLine; decide), fun l2 hl2 => ?_⟩
    have s2 := Same.new hl2 (.lst [V.int 4, V.int 2])
    refine ⟨_, rfl, hl, _, 2, _, rfl, rfl, SqL.of (s2 _ _ (s1 _ _ hH1)), a2, _, _, rfl, rfl, (by show (0 : Int) < 2; decide), l2, _, _, _, rfl, rfl, SqL.of upd_same, az1, _, _, rfl, rfl, (by show (0 : Int) < z1; omega), _, _, rfl, rfl, ?_⟩
    refine ⟨(by show 2 <= sizeLine; decide), fun kl hkl => ?_⟩
    have s3 := Same.new hkl (.lst [V.int (1 + x0 % z1), V.int (1 + x1 % z1)])
    have p0 : 0 <= x0 % z1 /\ x0 % z1 < z1 := ⟨Int.emod_nonneg _ (by omega), Int.emod_lt_of_pos _ (by omega)⟩
    have p1 : 0 <= x1 % z1 /\ x1 % z1 < z1 := ⟨Int.emod_nonneg _ (by omega), Int.emod_lt_of_pos _ (by omega)⟩
    refine ⟨kl, (1 + x0 % z1).toNat, (1 + x1 % z1).toNat, rfl, s1.trans (s2.trans s3), ?_, by omega, by omega, by omega, by omega⟩
    rw [upd_same, Int.toNat_of_nonneg (by omega), Int.toNat_of_nonneg (by omega)]
  rintro σ' H2 ⟨kl, kt, kg, rfl, e2, hkl, kt1, kt4, kg1, kg4⟩
  have hh2 := e2 _ _ hH1
  -- many
  refine ⟨fun σ' H' => ∃ (many : Nat), σ' = [some (.ref a), some (.int at'), some (.int most), some (.int far), some (.ref hl), some (.ref kl), some (.int (many : Int)), none, none, none, none, none, none, none, none] /\ Same H2 H' /\ 1 <= many /\ (many : Int) <= most, ?_, ?_⟩
  . refine ⟨_, rfl, hl, _, 3, _, rfl, rfl, SqL.of hh2, a3, _, rfl, _, rfl, _, _, rfl, (by show 2 <= sizeLine; decide), fun l1 hl1 => ?_⟩
    have s1 := Same.new hl1 (.lst [V.int most, V.int (if 4 < most then 4 else most)])
    obtain ⟨z, hz, az⟩ := atI_int (ns := [most, if 4 < most then 4 else most]) (k := x4 % 3 / 2) (by omega) (by show x4 % 3 / 2 < 2; omega)
    have hz' : 1 <= z /\ z <= most := by
      simp only [List.mem_cons, List.not_mem_nil, or_false] at hz
      rcases hz with rfl | rfl
      . omega
      . split <;> omega
    refine ⟨_, rfl, hl, _, 4, _, rfl, rfl, SqL.of (s1 _ _ hh2), a4, _, _, rfl, rfl, (by show (0 : Int) < 3; decide), _, _, rfl, rfl, ⟨by decide, by decide⟩, l1, _, _, _, rfl, rfl, SqL.of upd_same, az, _, _, rfl, rfl, (by show (0 : Int) < z; omega), _, _, rfl, rfl, ?_⟩
    have p0 : 0 <= x3 % z /\ x3 % z < z := ⟨Int.emod_nonneg _ (by omega), Int.emod_lt_of_pos _ (by omega)⟩
    refine ⟨(1 + x3 % z).toNat, ?_, s1, by omega, by omega⟩
    rw [Int.toNat_of_nonneg (by omega)]
    rfl
  rintro σ' H3 ⟨many, rfl, e3, mn1, mn2⟩
  have hh3 := e3 _ _ hh2
  have hk3 := e3 _ _ hkl
  -- size
  refine ⟨fun σ' H' => ∃ (size : Int), σ' = [some (.ref a), some (.int at'), some (.int most), some (.int far), some (.ref hl), some (.ref kl), some (.int (many : Int)), some (.int size), none, none, none, none, none, none, none] /\ Same H3 H' /\ 1 <= size /\ size <= far /\ size <= 1000000000, ?_, ?_⟩
  . refine ⟨_, rfl, _, _, rfl, rfl, ⟨by decide, by decide, by decide⟩, (by show 5 <= sizeLine; decide), fun l1 hl1 => ?_⟩
    have s1 := Same.new hl1 (.lst [V.int 4, V.int 9, V.int 50, V.int 1000, V.int (10 ^ (9 : Int).toNat)])
    obtain ⟨z, hz, az⟩ := atI_int (ns := [4, 9, 50, 1000, 10 ^ (9 : Int).toNat]) (k := x5 % 5) (by omega) (by show x5 % 5 < 5; omega)
    have hz' : 1 <= z /\ z <= 1000000000 := by
      have e9 : (10 : Int) ^ (9 : Int).toNat = 1000000000 := by decide
      rw [e9] at hz
      simp only [List.mem_cons, List.not_mem_nil, or_false] at hz
      rcases hz with rfl | rfl | rfl | rfl | rfl <;> decide
    refine ⟨_, rfl, hl, _, 5, _, rfl, rfl, SqL.of (s1 _ _ hh3), a5, _, _, rfl, rfl, (by show (0 : Int) < 5; decide), l1, _, _, _, rfl, rfl, SqL.of upd_same, az, _, _, rfl, ?_⟩
    refine ⟨_, rfl, s1, ?_, ?_, ?_⟩ <;> (split <;> omega)
  rintro σ' H4 ⟨size, rfl, e4, sz1, szf, sz9⟩
  have hh4 := e4 _ _ hh3
  have hk4 := e4 _ _ hk3
  have e14 : Same H H4 := e1.trans (e2.trans (e3.trans e4))
  refine ⟨(by show 0 <= sizeLine; decide), fun bl hbl => ?_⟩
  refine ⟨_, rfl, (many : Int), rfl, by omega, by omega, ?_⟩
  rw [Int.toNat_natCast]
  refine for_range (n := many) (fun i σ H' => ∃ (xs : List V) (hs : List House) (o9 o10 o11 o12 o13 o14 : Option V), σ = [some (.ref a), some (.int at'), some (.int most), some (.int far), some (.ref hl), some (.ref kl), some (.int (many : Int)), some (.int size), some (.ref bl), o9, o10, o11, o12, o13, o14] ∧
      Same H4 H' /\ H' bl = some (.lst xs) /\ Bk K H' xs hs /\ hs.length = i /\ ∀ h ∈ hs, HG far kt kg h)
    ⟨[], [], _, _, _, _, _, _, rfl, Same.new hbl _, upd_same, .nil, rfl, fun h hh => (by cases hh)⟩ ?_ ?_
  . rintro i σ H5 hi ⟨xs, hs, o9, o10, o11, o12, o13, o14, rfl, e5, hb5, hB, hlen5, hG⟩
    have hh5 := e5 _ _ hh4
    have hk5 := e5 _ _ hk4
    have xlen : xs.length = hs.length := Paired.length hB
    have ak0 : atI [V.int (kt : Int), V.int (kg : Int)] 0 = some (.int (kt : Int)) := atI_nat (j := 0) rfl
    have ak1 : atI [V.int (kt : Int), V.int (kg : Int)] 1 = some (.int (kg : Int)) := atI_nat (j := 1) rfl
    -- picks
    refine ⟨fun σ' H' => ∃ (pl : Addr) (ds : List Int), σ' = [some (.ref a), some (.int at'), some (.int most), some (.int far), some (.ref hl), some (.ref kl), some (.int (many : Int)), some (.int size), some (.ref bl), some (.int (0 + (i : Int))), some (.ref pl), o11, o12, o13, o14] /\ Same H5 H' /\ H' pl = some (.lst (ds.map V.int)) /\ ds.length = 12 /\ ∀ d ∈ ds, 0 <= d, ?_, ?_⟩
    . refine ⟨_, rfl, _, rfl, _, _, rfl, rfl, a, ns, at' + 1, rfl, (e14.trans e5).seq hS, by omega, fun c => ?_⟩
      refine ⟨_, rfl, _, rfl, hl, _, 7, _, rfl, rfl, SqL.of hh5, a7, _, _, rfl, rfl, _, _, rfl, rfl, .inl ⟨by omega, by omega⟩, _, _, rfl, rfl, _, _, rfl, rfl, ⟨by decide, by decide, by decide⟩, ?_⟩
      exact ⟨_, 12, _, rfl, by decide, by decide, by decide, fun pl H6 ds e6 hp6 l6 d6 => ⟨pl, ds, rfl, e6, hp6, l6, fun d hd => (d6 d hd).1⟩⟩
    rintro σ' H6 ⟨pl, ds, rfl, e6, hp6, l6, d6⟩
    have hh6 := e6 _ _ hh5
    have hk6 := e6 _ _ hk5
    have hb6 := e6 _ _ hb5
    have pk : ∀ k : Int, 0 <= k -> k < 12 -> ∃ v, v ∈ ds /\ atI (ds.map V.int) k = some (.int v) := fun k k0 k1 => atI_int k0 (by omega)
    obtain ⟨y8, n8, c8⟩ := pk 8 (by decide) (by decide)
    obtain ⟨y9, n9, c9⟩ := pk 9 (by decide) (by decide)
    obtain ⟨y10, n10, c10⟩ := pk 10 (by decide) (by decide)
    obtain ⟨y11, n11, c11⟩ := pk 11 (by decide) (by decide)
    have g8 := d6 _ n8; have g9 := d6 _ n9; have g10 := d6 _ n10; have g11 := d6 _ n11
    have dl : (ds.map V.int).length = 12 := by rw [List.length_map]; exact l6
    -- takes
    refine ⟨fun σ' H' => ∃ (tp : Addr) (At : List Int), σ' = [some (.ref a), some (.int at'), some (.int most), some (.int far), some (.ref hl), some (.ref kl), some (.int (many : Int)), some (.int size), some (.ref bl), some (.int (0 + (i : Int))), some (.ref pl), some (.ref tp), o12, o13, o14] /\ Same H6 H' /\ H' tp = some (.tup (At.map V.int)) /\ At.length = kt /\ ∀ x ∈ At, 1 <= x /\ x <= far, ?_, ?_⟩
    . have ec : cutV (ds.map V.int) none (some (kt : Int)) = (ds.take kt).map V.int := by
        unfold cutV
        rw [HT.sIx_none, HT.sIx_nat, dl, List.drop_zero, List.map_take]
        congr 1
        omega
      refine ⟨_, rfl, _, rfl, kl, _, 0, _, rfl, rfl, SqL.of hk6, ak0, _, rfl, pl, _, rfl, SqL.of hp6, fun cp hcp => ?_⟩
      rw [ec]
      have s1 := Same.new hcp (.lst ((ds.take kt).map V.int))
      refine ⟨cp, rfl, ⟨_, SqL.of upd_same⟩, fun lp hlp => ?_⟩
      refine lc_map (itIs_list (SqL.of upd_same)) hlp (by rw [List.length_map, List.length_take]; exact small1000 (by omega)) (fun x => .int (1 + vI x % size)) (fun j x H' N hx e hN => ?_) ?_
      . obtain ⟨k, rfl⟩ := map_int_at hx
        exact ⟨Wk.set (by decide), _, rfl, _, rfl, _, _, rfl, rfl, (by show (0 : Int) < size; omega), _, _, rfl, rfl, hN⟩
      . have eA : ((ds.take kt).map V.int).map (fun x => V.int (1 + vI x % size)) = ((ds.take kt).map fun d => 1 + d % size).map V.int := by rw [List.map_map, List.map_map]; rfl
        rw [eA]
        have s2 := Same.new hlp (.lst (((ds.take kt).map fun d => 1 + d % size).map V.int))
        refine ⟨lp, _, rfl, .inl ⟨SqL.of upd_same, fun tp htp => ?_⟩⟩
        refine ⟨tp, (ds.take kt).map fun d => 1 + d % size, rfl, s1.trans (s2.trans (Same.new htp _)), upd_same, by rw [List.length_map, List.length_take]; omega, fun x hx => ?_⟩
        obtain ⟨d, _, rfl⟩ := List.mem_map.mp hx
        have p0 : 0 <= d % size /\ d % size < size := ⟨Int.emod_nonneg _ (by omega), Int.emod_lt_of_pos _ (by omega)⟩
        omega
    rintro σ' H7 ⟨tp, At, rfl, e7, ht7, lAt, tAt⟩
    have hp7 := e7 _ _ hp6
    have hk7 := e7 _ _ hk6
    have hb7 := e7 _ _ hb6
    -- some
    have ec : cutV (ds.map V.int) (some 4) (some (4 + (kg : Int))) = ((ds.drop 4).take kg).map V.int := by
      unfold cutV
      have z1 : HT.sIx (ds.map V.int).length 0 (some 4) = 4 := by
        have := HT.sIx_nat (ds.map V.int).length 0 4
        rw [dl] at this ⊢
        exact this
      have z2 : HT.sIx (ds.map V.int).length (ds.map V.int).length (some (4 + (kg : Int))) = 4 + kg := by
        have := HT.sIx_nat (ds.map V.int).length (ds.map V.int).length (4 + kg)
        rw [dl] at this ⊢
        rw [show (4 : Int) + (kg : Int) = ((4 + kg : Nat) : Int) by omega, this]
        omega
      rw [z1, z2, List.map_take, List.map_drop]
      congr 1
      omega
    refine ⟨_, rfl, _, rfl, _, rfl, kl, _, 1, _, rfl, rfl, SqL.of hk7, ak1, _, _, rfl, rfl, _, rfl, pl, _, rfl, SqL.of hp7, fun sp hsp => ?_⟩
    rw [ec]
    have s7 := Same.new hsp (.lst (((ds.drop 4).take kg).map V.int))
    -- gives
    refine ⟨fun σ' H' => ∃ (gp : Addr) (Bs : List Int) (o12 : Option V), σ' = [some (.ref a), some (.int at'), some (.int most), some (.int far), some (.ref hl), some (.ref kl), some (.int (many : Int)), some (.int size), some (.ref bl), some (.int (0 + (i : Int))), some (.ref pl), some (.ref tp), o12, some (.ref gp), o14] /\ Same H7 H' /\ H7 gp = none /\ H' gp = some (.lst (Bs.map V.int)) /\ Bs.length = kg /\ ∀ x ∈ Bs, 0 <= x /\ x <= far, ?_, ?_⟩
    . refine ⟨_, rfl, sp, rfl, ⟨_, SqL.of upd_same⟩, fun gp hgp => ?_⟩
      refine lc_map (itIs_list (SqL.of upd_same)) hgp (by rw [List.length_map, List.length_take]; exact small1000 (by omega)) (fun x => .int (vI x % (size + 1) * (if decide (0 < vI x % 7) = true then 1 else 0))) (fun j x H' N hx e hN => ?_) ?_
      . obtain ⟨k, rfl⟩ := map_int_at hx
        refine ⟨Wk.set (by decide), _, rfl, _, rfl, _, _, rfl, rfl, _, _, rfl, rfl, (by show (0 : Int) < size + 1; omega), _, rfl, _, _, rfl, rfl, (by show (0 : Int) < 7; decide), _, _, rfl, rfl, .inr ⟨_, rfl, _, _, rfl, rfl, .inr ?_, hN⟩⟩
        constructor <;> (split <;> decide)
      . have eB : (((ds.drop 4).take kg).map V.int).map (fun x => V.int (vI x % (size + 1) * (if decide (0 < vI x % 7) = true then 1 else 0))) = (((ds.drop 4).take kg).map fun d => d % (size + 1) * (if decide (0 < d % 7) = true then 1 else 0)).map V.int := by rw [List.map_map, List.map_map]; rfl
        rw [eB]
        refine ⟨gp, _, _, rfl, s7.trans (Same.new hgp _), s7.free hgp, upd_same, by rw [List.length_map, List.length_take, List.length_drop]; omega, fun x hx => ?_⟩
        obtain ⟨d, _, rfl⟩ := List.mem_map.mp hx
        have p0 : 0 <= d % (size + 1) /\ d % (size + 1) < size + 1 := ⟨Int.emod_nonneg _ (by omega), Int.emod_lt_of_pos _ (by omega)⟩
        split <;> omega
    rintro σ' H8 ⟨gp, Bs, o12', rfl, e8, f8, hg8, lBs, tBs⟩
    have hp8 := e8 _ _ hp7
    have hk8 := e8 _ _ hk7
    have lB' : (Bs.map V.int).length = kg := by rw [List.length_map]; exact lBs
    -- a give above 0
    refine ⟨fun σ' H' => ∃ (Bs : List Int) (o12 : Option V), σ' = [some (.ref a), some (.int at'), some (.int most), some (.int far), some (.ref hl), some (.ref kl), some (.int (many : Int)), some (.int size), some (.ref bl), some (.int (0 + (i : Int))), some (.ref pl), some (.ref tp), o12, some (.ref gp), o14] /\ Same H7 H' /\ H' gp = some (.lst (Bs.map V.int)) /\ Bs.length = kg /\ (∀ x ∈ Bs, 0 <= x /\ x <= far) /\ ∃ x ∈ Bs, 0 < x, ?_, ?_⟩
    . refine ⟨_, rfl, gp, Bs, rfl, .inl (SqL.of hg8), (fun z => by rw [z] at lBs; simp at lBs; omega), fun M hM hMx => ⟨rfl, _, rfl, ?_⟩⟩
      refine ite2 (fun c => ?_) (fun c => ?_)
      . refine ⟨_, rfl, pl, _, 9, _, rfl, rfl, SqL.of hp8, c9, _, rfl, _, _, rfl, rfl, (by show (0 : Int) < size; omega), _, _, rfl, rfl, ?_⟩
        refine ⟨_, rfl, _, rfl, pl, _, 8, _, rfl, rfl, SqL.of hp8, c8, _, rfl, kl, _, 1, _, rfl, rfl, SqL.of hk8, ak1, _, _, rfl, rfl, (by show (0 : Int) < (kg : Int); omega), ?_⟩
        have r0 : 0 <= y8 % (kg : Int) := Int.emod_nonneg _ (by omega)
        have r1 : y8 % (kg : Int) < ((Bs.map V.int).length : Int) := by rw [lB']; exact Int.emod_lt_of_pos _ (by omega)
        have rn : (y8 % (kg : Int)).toNat < Bs.length := by rw [lB'] at r1; omega
        have p0 : 0 <= y9 % size /\ y9 % size < size := ⟨Int.emod_nonneg _ (by omega), Int.emod_lt_of_pos _ (by omega)⟩
        refine ⟨gp, _, _, _, rfl, rfl, hg8, ixN_nat r0 r1, ?_⟩
        refine ⟨Bs.set (y8 % (kg : Int)).toNat _, _, rfl, e8.write f8, by rw [upd_same, map_set], by rw [List.length_set]; exact lBs, fun x hx => ?_, _, List.mem_set rn _, by omega⟩
        rcases List.mem_or_eq_of_mem_set hx with z | z
        . exact tBs x z
        . omega
      . have c' : ¬ M = 0 := fun z => c (decide_eq_true (by rw [z]))
        have := tBs M hM
        exact ⟨Bs, _, rfl, e8, hg8, lBs, tBs, M, hM, by omega⟩
    rintro σ' H9 ⟨Bt, o12'', rfl, e9, hg9, lBt, tBt, tPt⟩
    -- house
    refine ⟨fun σ' H' => ∃ (v : V) (h : House) (o12 : Option V), σ' = [some (.ref a), some (.int at'), some (.int most), some (.int far), some (.ref hl), some (.ref kl), some (.int (many : Int)), some (.int size), some (.ref bl), some (.int (0 + (i : Int))), some (.ref pl), some (.ref tp), o12, some (.ref gp), some v] /\ Same H7 H' /\ HS K H' v h /\ HG far kt kg h, ?_, ?_⟩
    . refine ⟨_, rfl, _, rfl, gp, _, rfl, .inl ⟨SqL.of hg9, fun pg hpg => ?_⟩⟩
      have f1 := Same.new hpg (.tup (Bt.map V.int))
      refine ⟨(by show 2 <= sizeLine; decide), fun pr hpr => ?_⟩
      have f2 := Same.new hpr (.tup [V.ref tp, V.ref pg])
      exact ⟨_, (At, Bt), _, rfl, e9.trans (f1.trans f2), ⟨pr, tp, pg, rfl, SqT.of upd_same, SqT.of (f2 _ _ (f1 _ _ (e9 _ _ ht7))), SqT.of (f2 _ _ upd_same)⟩, ⟨lAt, lBt, tAt, tBt, tPt⟩⟩
    rintro σ' H10 ⟨v, h, o12'', rfl, e10, hv, hvG⟩
    have e57 : Same H5 H7 := e6.trans e7
    have e510 : Same H5 H10 := e57.trans e10
    -- or one near another one
    refine ⟨fun σ' H' => ∃ (v : V) (h : House) (o12 : Option V), σ' = [some (.ref a), some (.int at'), some (.int most), some (.int far), some (.ref hl), some (.ref kl), some (.int (many : Int)), some (.int size), some (.ref bl), some (.int (0 + (i : Int))), some (.ref pl), some (.ref tp), o12, some (.ref gp), some v] /\ Same H5 H' /\ HS K H' v h /\ HG far kt kg h, ?_, ?_⟩
    . refine ⟨_, rfl, (by show 0 <= sizeLine; decide), fun ep hep => ?_⟩
      have f1 := Same.new hep (.lst [])
      have e511 := e510.trans f1
      refine ⟨.list (hs.map dHouse), .list [], .lst (SqL.of (e511 _ _ hb5)) (Bk.dps (Bk.same e511 hB)), .lst (SqL.of upd_same) .nil, lay_book hs, rfl, Nat.le_trans (Nat.min_le_right _ _) (by decide), _, rfl, ?_⟩
      refine ite2 (fun c => ?_) (fun c => iteF ⟨v, h, _, rfl, e511, hv.same f1, hvG⟩)
      have hpos : 0 < hs.length := by
        cases hs with
        | nil => exact absurd c (by simp [PyData.eqv, PyData.eqvAll])
        | cons _ _ => simp
      have hp11 : upd H10 ep (.lst []) pl = some (.lst (ds.map V.int)) := f1 _ _ (e10 _ _ hp7)
      have hb11 := e511 _ _ hb5
      refine ⟨_, rfl, pl, _, 10, _, rfl, rfl, SqL.of hp11, c10, _, _, rfl, rfl, (by show (0 : Int) < 4; decide), rfl, _, rfl, ?_⟩
      refine ite2 (fun c => ?_) (fun c => ⟨v, h, _, rfl, e511, hv.same f1, hvG⟩)
      have r0 : 0 <= y11 % (xs.length : Int) := Int.emod_nonneg _ (by omega)
      have r1 : y11 % (xs.length : Int) < (xs.length : Int) := Int.emod_lt_of_pos _ (by omega)
      have hk : (y11 % (xs.length : Int)).toNat < xs.length := by omega
      have ax : atI xs (y11 % (xs.length : Int)) = some xs[(y11 % (xs.length : Int)).toNat] := by
        unfold atI
        rw [ixN_nat r0 r1]
        exact List.getElem?_eq_getElem hk
      obtain ⟨h', hh', hs'⟩ := Paired.at hB (List.getElem?_eq_getElem hk)
      refine ⟨_, rfl, _, rfl, pl, _, 11, _, rfl, rfl, SqL.of hp11, c11, _, rfl, bl, _, rfl, .inl (SqL.of hb11), _, _, rfl, rfl, (by show (0 : Int) < (xs.length : Int); omega), bl, _, _, _, rfl, rfl, SqL.of hb11, ax, _, rfl, _, rfl, ?_⟩
      refine ⟨_, pl, far, h', ds, kt, kg, rfl, hs'.same e511, hG h' (List.mem_of_getElem? hh'), kt1, kt4, kg1, kg4, hfar, SqL.of hp11, l6, d6, fun r H12 h'' e12 hs'' hg'' => ⟨r, h'', _, rfl, e511.trans e12, hs'', hg''⟩⟩
    rintro σ' H11 ⟨v, h, o12'', rfl, e11, hv, hvG⟩
    have hb11 := e11 _ _ hb5
    refine ⟨_, rfl, .inl ⟨rfl, _, SqL.of hb11⟩, _, rfl, bl, xs, v, rfl, rfl, hb11, small1000 (by omega), ?_⟩
    have kp : Keep H11 (upd H11 bl (.lst (xs ++ [v]))) := Keep.upd hb11
    refine ⟨xs ++ [v], hs ++ [h], _, _, _, _, _, _, rfl, (e5.trans e11).write hbl, upd_same, Paired.app (Bk.keep kp (Bk.same e11 hB)) (.cons (HS.keep kp hv) .nil), by rw [List.length_append, hlen5]; rfl, fun h' hm => ?_⟩
    rcases List.mem_append.mp hm with z | z
    . exact hG h' z
    . rw [List.mem_singleton.mp z]; exact hvG
  . rintro σ H' ⟨xs, hs, o9, o10, o11, o12, o13, o14, rfl, e5, hb5, hB, hlen5, hG⟩
    exact ⟨_, rfl, q bl H' xs hs kt kg (e14.trans e5) hb5 hB (by omega) (by omega) kt1 kt4 kg1 kg4 hG⟩
end
end Rim
namespace Rim
open PySem L2
section
variable {P : Program} {w : World} {K : W.Frag} {mg : Str -> Option Value} {base : Heap} {f g : Addr} {fd gd : FuncData}
theorem scSp : FnScope ["book", "picks", "at", "side", "sides", "k", "form"] ["book", "picks"] (defScope sSpoilt) := ⟨rfl, rfl, rfl, by decide +kernel, rfl, by decide +kernel, by decide +kernel⟩
theorem ndSp1 : (["side"] : List Str).Nodup := by decide +kernel
theorem ndSp2 : (["house", "at", "book"] : List Str).Nodup := by decide +kernel
set_option maxHeartbeats 4000000 in
noncomputable def spT {n : Nat} {cdv : Value} {A : Around} {outer : List Env} {s : Shared} {H : Hp} {E : XK} (T : Nones mg)
    (hr : Room n (A.deeper (PyProof.Rows.envOfC "_law_spoilt" (defScope sSpoilt) s.heap.objs.size f cdv))) :
    { t : TS // PSs (cxOf CX0 P w K mg base ["book", "picks", "at", "side", "sides", "k", "form"] "_law_spoilt" (defScope sSpoilt) f cdv A outer s H E).nox (defBody sSpoilt) t } :=
  ⟨_, pss_cons (ps_set (i := 0) scSp.nd rfl (Or.inr rfl) (pe_callTy call_list_of rfl T.list PyProof.Rows.boot_list (pa_cons (pv 0) pa_nil)))
    (pss_cons (ps_set (i := 2) scSp.nd rfl (Or.inr rfl) (pe_op op_mod (pe_ix ix_list (pv 1) pe_int (fun _ _ => rfl)) (pe_callB call_len_seq rfl T.len PySem.boot_len (pa_cons (pv 0) pa_nil))))
    (pss_cut (ps_lc (i := 4) ["side"] [] scSp.nd rfl rfl rfl (pi_tup (pe_ix ix_list (pv 0) (pv 2) (fun _ _ => rfl))) (fun _ _ _ _ => pg_name (i := 0) ndSp1 rfl (Or.inl rfl)) (fun _ _ _ _ => pe_callTy (list_at K rfl) rfl T.list PyProof.Rows.boot_list (pa_cons (pv 0) pa_nil)))
    (pss_cons (ps_set (i := 3) scSp.nd rfl (Or.inl rfl) (pe_op op_mod (pe_ix ix_list (pv 1) pe_int (fun _ _ => rfl)) pe_int))
    (pss_cons (ps_set (i := 5) scSp.nd rfl (Or.inl rfl) (pe_op op_mod (pe_ix ix_list (pv 1) pe_int (fun _ _ => rfl)) (pe_callB call_len_seq rfl T.len PySem.boot_len (pa_cons (pe_ix ix_list (pv 4) (pv 3) (fun _ _ => rfl)) pa_nil))))
    (pss_cons (ps_set (i := 6) scSp.nd rfl (Or.inl rfl) (pe_op op_mod (pe_ix ix_list (pv 1) pe_int (fun _ _ => rfl)) pe_int))
    (pss_cut (ps_if (pt_cmpR op_lt (pv 6) pe_int (nomark _)) (pss_one (ps_asg (pe_ix ix_list (pe_lst (pa_cons pe_int (pa_cons (pe_op op_add (pe_op op_pow pe_int pe_int) pe_int) (pa_cons (pe_un un_neg pe_int) (pa_cons (pe_op op_pow pe_int pe_int) pa_nil))))) (pv 6) (fun _ _ => rfl)) (pg_sub (pe_ix ix_list (pv 4) (pv 3) (fun _ _ => rfl)) (pv 5) set_list))) pss_nil)
    (pss_cut (ps_if (pt_cmpR op_eq (pv 6) pe_int (nomark _)) (pss_one (ps_expr (pe_bm PySem.F.plainAttrs_list PySem.F.slot_list_append PySem.F.type_list_append mt_append (pe_ix ix_list (pv 4) (pv 3) (fun _ _ => rfl)) (pa_cons (pe_op op_add pe_int (pe_op op_mod (pe_ix ix_list (pv 1) pe_int (fun _ _ => rfl)) pe_int)) pa_nil)))) pss_nil)
    (pss_cut (ps_if (pt_cmpR op_eq (pv 6) pe_int (nomark _)) (pss_one (ps_expr (pe_bm PySem.F.plainAttrs_list PySem.F.slot_list_pop PySem.F.type_list_pop mt_popAt (pe_ix ix_list (pv 4) (pv 3) (fun _ _ => rfl)) (pa_cons (pv 5) pa_nil)))) pss_nil)
    (pss_cut (ps_if (pt_cmpR op_eq (pv 6) pe_int (nomark _)) (pss_one (ps_asg (pe_op op_rep (pe_lst (pa_cons pe_int pa_nil)) (pe_ix ix_list (pe_lst (pa_cons pe_int (pa_cons pe_int pa_nil))) (pe_op op_mod (pe_ix ix_list (pv 1) pe_int (fun _ _ => rfl)) pe_int) (fun _ _ => rfl))) (pg_sub (pv 4) (pv 3) set_list))) pss_nil)
    (pss_cut (ps_if (pt_cmpR op_eq (pv 6) pe_int (nomark _)) (pss_one (ps_asg (pe_op op_rep (pe_lst (pa_cons pe_int pa_nil)) (pe_callB call_len_seq rfl T.len PySem.boot_len (pa_cons (pe_ix ix_list (pv 4) pe_int (fun _ _ => rfl)) pa_nil))) (pg_sub (pv 4) pe_int set_list))) pss_nil)
    (pss_cut (ps_asg (pe_tup (pa_cons (pe_callTy call_tuple_of rfl T.tuple PyProof.Rows.boot_tuple (pa_cons (pe_ix ix_list (pv 4) pe_int (fun _ _ => rfl)) pa_nil)) (pa_cons (pe_callTy call_tuple_of rfl T.tuple PyProof.Rows.boot_tuple (pa_cons (pe_ix ix_list (pv 4) pe_int (fun _ _ => rfl)) pa_nil)) pa_nil))) (pg_sub (pv 0) (pv 2) set_list))
    (pss_cut (ps_if (pt_cmpR op_gt (pv 6) pe_int (nomark _)) (pss_one (ps_set (i := 0) scSp.nd rfl (Or.inr rfl) (pe_slice sl_list (pe_op op_rep (pv 0) pe_int) po_none (po_some (pe_ix ix_list (pe_lst (pa_cons pe_int (pa_cons pe_int (pa_cons pe_int pa_nil)))) (pe_op op_mod (pe_ix ix_list (pv 1) pe_int (fun _ _ => rfl)) pe_int) (fun _ _ => rfl)))))) pss_nil)
    (pss_cut (ps_if (pt_cmpR op_eq (pe_op op_mod (pe_ix ix_list (pv 1) pe_int (fun _ _ => rfl)) pe_int) pe_int (nomark _)) (pss_one (ps_set (i := 0) scSp.nd rfl (Or.inr rfl) (pe_op op_rep
        (pe_lc ["house"] [2, 0] rfl (pi_list (pv 0)) (fun _ _ _ _ => pg_name (i := 0) ndSp2 rfl (Or.inl rfl)) (fun _ _ _ _ => pe_ix (ixl_at K rfl) (pv 2) (pe_op op_mod (pv 1) (pe_callB (len_at K rfl) rfl T.len PySem.boot_len (pa_cons (pv 2) pa_nil))) (fun _ _ => rfl)))
        (pe_callTy call_int1 rfl T.int PyProof.Rows.boot_int (pa_cons (pe_cmpR (op_neD hr) (pv 0) (pe_lst pa_nil) (nomark _)) pa_nil))))) pss_nil)
    (pss_one (ps_ret (pv 0))))))))))))))))⟩
end
end Rim
namespace Rim
open PySem L2
def sd (b : Bool) : Int := if b then 1 else 0
theorem sd_of {y : Int} (h : 0 <= y) : ∃ b, y % 2 = sd b := by
  by_cases c : y % 2 = 0
  . exact ⟨false, by rw [c]; rfl⟩
  . exact ⟨true, by rw [show sd true = 1 from rfl]; omega⟩
theorem pair_at (s : Bool -> Addr) (b : Bool) : atI [V.ref (s false), V.ref (s true)] (sd b) = some (.ref (s b)) := by
  cases b
  . exact atI_nat (j := 0) rfl
  . exact atI_nat (j := 1) rfl
theorem pair_ix (b : Bool) : ixN 2 (sd b) = some (if b then 1 else 0) := by cases b <;> rfl
structure Sd (H H' : Hp) (sl bk : Addr) (xs : List V) (s : Bool -> Addr) (L : Bool -> List Int) : Prop where
  same : Same H H'
  hsl : H' sl = some (.lst [.ref (s false), .ref (s true)])
  hbk : H' bk = some (.lst xs)
  at' : ∀ c, H' (s c) = some (.lst ((L c).map V.int))
  inj : s false ≠ s true
  nsl : ∀ c, s c ≠ sl
  nbk : ∀ c, s c ≠ bk
  slb : sl ≠ bk
  fsl : H sl = none
  fbk : H bk = none
  fs : ∀ c, H (s c) = none
  len : ∀ c, (L c).length <= 10
section
variable {H H' H'' : Hp} {sl bk : Addr} {xs : List V} {s : Bool -> Addr} {L : Bool -> List Int}
theorem Sd.grow (d : Sd H H' sl bk xs s L) (e : Same H' H'') : Sd H H'' sl bk xs s L :=
  ⟨d.same.trans e, e _ _ d.hsl, e _ _ d.hbk, fun c => e _ _ (d.at' c), d.inj, d.nsl, d.nbk, d.slb, d.fsl, d.fbk, d.fs, d.len⟩
theorem Sd.ne (d : Sd H H' sl bk xs s L) {b c : Bool} (h : c ≠ b) : s c ≠ s b := by
  cases b <;> cases c
  . exact absurd rfl h
  . exact Ne.symm d.inj
  . exact d.inj
  . exact absurd rfl h
theorem Sd.write (d : Sd H H' sl bk xs s L) (b : Bool) {M : List Int} (hM : M.length <= 10) : Sd H (upd H' (s b) (.lst (M.map V.int))) sl bk xs s (fun c => if c = b then M else L c) :=
  ⟨d.same.write (d.fs b), by rw [upd_ne (Ne.symm (d.nsl b))]; exact d.hsl, by rw [upd_ne (Ne.symm (d.nbk b))]; exact d.hbk, fun c => by
    by_cases h : c = b
    . rw [h, upd_same, if_pos rfl]
    . rw [upd_ne (d.ne h), if_neg h]; exact d.at' c, d.inj, d.nsl, d.nbk, d.slb, d.fsl, d.fbk, d.fs, fun c => by
    by_cases h : c = b
    . rw [if_pos h]; exact hM
    . rw [if_neg h]; exact d.len c⟩
theorem Sd.put {H0 : Hp} {p : Addr} {M : List Int} (d0 : Sd H H0 sl bk xs s L) (hp : H0 p = none) (d : Sd H H' sl bk xs s L) (hM : H' p = some (.lst (M.map V.int))) (hl : M.length <= 10) (b : Bool) :
    Sd H (upd H' sl (.lst ([V.ref (s false), V.ref (s true)].set (if b then 1 else 0) (.ref p)))) sl bk xs (fun c => if c = b then p else s c) (fun c => if c = b then M else L c) := by
  have np : ∀ c, s c ≠ p := fun c z => by have := d0.at' c; rw [z, hp] at this; cases this
  have n1 : p ≠ sl := fun z => by have := d0.hsl; rw [<- z, hp] at this; cases this
  have n2 : p ≠ bk := fun z => by have := d0.hbk; rw [<- z, hp] at this; cases this
  refine ⟨d.same.write d.fsl, ?_, by rw [upd_ne (Ne.symm d.slb)]; exact d.hbk, fun c => ?_, ?_, fun c => ?_, fun c => ?_, d.slb, d.fsl, d.fbk, fun c => ?_, fun c => ?_⟩
  . rw [upd_same]; cases b <;> rfl
  . by_cases h : c = b
    . rw [if_pos h, if_pos h, upd_ne n1]; exact hM
    . rw [if_neg h, if_neg h, upd_ne (d.nsl c)]; exact d.at' c
  . cases b
    . exact Ne.symm (np true)
    . exact np false
  . by_cases h : c = b
    . rw [if_pos h]; exact n1
    . rw [if_neg h]; exact d.nsl c
  . by_cases h : c = b
    . rw [if_pos h]; exact n2
    . rw [if_neg h]; exact d.nbk c
  . by_cases h : c = b
    . rw [if_pos h]; exact d0.same.free hp
    . rw [if_neg h]; exact d.fs c
  . by_cases h : c = b
    . rw [if_pos h]; exact hl
    . rw [if_neg h]; exact d.len c
end
def AllH (K : W.Frag) (H : Hp) (xs : List V) : Prop := ∀ v ∈ xs, ∃ h : House, HS K H v h /\ h.1.length <= 10 /\ h.2.length <= 10
theorem AllH.same {K : W.Frag} {H H' : Hp} {xs : List V} (e : Same H H') (x : AllH K H xs) : AllH K H' xs := fun v hv => by
  obtain ⟨h, h1, h2⟩ := x v hv
  exact ⟨h, h1.same e, h2⟩
theorem AllH.keep {K : W.Frag} {H H' : Hp} {xs : List V} (e : Keep H H') (x : AllH K H xs) : AllH K H' xs := fun v hv => by
  obtain ⟨h, h1, h2⟩ := x v hv
  exact ⟨h, HS.keep e h1, h2⟩
theorem AllH.bk {K : W.Frag} {H : Hp} : ∀ {xs : List V}, AllH K H xs -> ∃ hs : List House, Bk K H xs hs /\ ∀ h ∈ hs, h.1.length <= 10 /\ h.2.length <= 10
  | [], _ => ⟨[], .nil, fun h hh => by cases hh⟩
  | v :: r, x => by
    obtain ⟨h, h1, h2⟩ := x v List.mem_cons_self
    obtain ⟨hs, b, l⟩ := AllH.bk (xs := r) fun u hu => x u (List.mem_cons_of_mem _ hu)
    refine ⟨h :: hs, .cons h1 b, fun h' hh => ?_⟩
    rcases List.mem_cons.mp hh with rfl | z
    . exact h2
    . exact l h' z
theorem mem_rep {xs : List V} {n : Nat} {v : V} (h : v ∈ (List.replicate n xs).flatten) : v ∈ xs := by
  obtain ⟨l, hl, hv⟩ := List.mem_flatten.mp h
  rw [(List.mem_replicate.mp hl).2] at hv
  exact hv
theorem rep_ints (c : Int) : ∀ n : Nat, (List.replicate n [V.int c]).flatten = (List.replicate n c).map V.int
  | 0 => rfl
  | n + 1 => by rw [List.replicate_succ, List.flatten_cons, rep_ints c n, List.replicate_succ]; rfl
theorem erase_map : ∀ (ns : List Int) (k : Nat), (ns.map V.int).eraseIdx k = (ns.eraseIdx k).map V.int
  | [], _ => rfl
  | _ :: _, 0 => rfl
  | n :: r, k + 1 => by
    show V.int n :: (r.map V.int).eraseIdx k = V.int n :: (r.eraseIdx k).map V.int
    rw [erase_map r k]
theorem mem_cut {xs : List V} {lo hi : Option Int} {v : V} (h : v ∈ cutV xs lo hi) : v ∈ xs := List.mem_of_mem_drop (List.mem_of_mem_take h)
section
variable {P : Program} {w : World} {K : W.Frag} {mg : Str -> Option Value} {base : Heap} {f g : Addr} {fd gd : FuncData}
def spSpoilt (K : W.Frag) : Sp := fun vs H Q _ => ∃ (b p : Addr) (xs : List V) (ds : List Int), vs = [.ref b, .ref p] /\ SqL K H b xs /\ 1 <= xs.length /\ xs.length <= 16 ∧
  (∀ v ∈ xs, ∃ h : House, HS K H v h /\ (1 <= h.1.length /\ h.1.length <= 4) /\ (1 <= h.2.length /\ h.2.length <= 4)) /\ SqL K H p (ds.map V.int) /\ ds.length = 6 /\ (∀ d ∈ ds, 0 <= d) ∧
  ∀ (r : Addr) (H' : Hp) (xs' : List V), Same H H' -> H' r = some (.lst xs') -> xs'.length <= 300 -> AllH K H' xs' -> Q (.ref r) H'
set_option maxHeartbeats 4000000 in
theorem ok_spoilt {n : Nat} (F : Fun K "_law_spoilt" "_law_spoilt" sSpoilt f fd) (T : Nones mg) : FnOk P w K mg base CX0 (n + 1) f fd ["book", "picks"] (spSpoilt K) := by
  refine F.ok scSp (fun vs H Q E h => ?_) (fun cdv A outer s₀ H vs Q E hr h => ?_)
  . obtain ⟨b, p, xs, ds, rfl, _⟩ := h
    rfl
  obtain ⟨bi, pk, xs, ds, rfl, hS, hx1, hx16, hall, hP, hd6, hd0, q⟩ := h
  refine ⟨_, (spT T hr).2, ?_⟩
  have pck : ∀ k : Int, 0 <= k -> k < 6 -> ∃ v, v ∈ ds /\ atI (ds.map V.int) k = some (.int v) := fun k k0 k1 => atI_int k0 (by omega)
  obtain ⟨y0, n0, c0⟩ := pck 0 (by decide) (by decide)
  obtain ⟨y1, n1, c1⟩ := pck 1 (by decide) (by decide)
  obtain ⟨y2, n2, c2⟩ := pck 2 (by decide) (by decide)
  obtain ⟨y3, n3, c3⟩ := pck 3 (by decide) (by decide)
  obtain ⟨y4, n4, c4⟩ := pck 4 (by decide) (by decide)
  obtain ⟨y5, n5, c5⟩ := pck 5 (by decide) (by decide)
  have g0 := hd0 _ n0; have g1 := hd0 _ n1; have g2 := hd0 _ n2; have g3 := hd0 _ n3; have g4 := hd0 _ n4; have g5 := hd0 _ n5
  refine ⟨_, rfl, bi, _, rfl, .inl hS, fun bk hbk => ?_⟩
  have s1 := Same.new hbk (.lst xs)
  refine ⟨_, rfl, pk, _, 0, _, rfl, rfl, s1.seq hP, c0, _, rfl, bk, _, rfl, .inl (SqL.of upd_same), _, _, rfl, rfl, (by show (0 : Int) < (xs.length : Int); omega), ?_⟩
  have r0 : 0 <= y0 % (xs.length : Int) := Int.emod_nonneg _ (by omega)
  have r1 : y0 % (xs.length : Int) < (xs.length : Int) := Int.emod_lt_of_pos _ (by omega)
  obtain ⟨v0, hv0, av0⟩ := atI_mem (xs := xs) r0 r1
  obtain ⟨h, ⟨ha, t, gv, rfl, h0, h1, h2⟩, ⟨lt1, lt4⟩, ⟨lg1, lg4⟩⟩ := hall v0 hv0
  dsimp only
  generalize y0 % (xs.length : Int) = at' at r0 r1 av0 ⊢
  -- sides
  refine ⟨fun σ' H' => ∃ (sl : Addr) (s : Bool -> Addr) (L : Bool -> List Int), σ' = [some (.ref bk), some (.ref pk), some (.int at'), none, some (.ref sl), none, none] /\ Sd H H' sl bk xs s L /\ ∀ c, 1 <= (L c).length /\ (L c).length <= 4, ?_, ?_⟩
  . refine ⟨_, rfl, _, rfl, bk, _, _, _, rfl, rfl, SqL.of upd_same, av0, ha, rfl, ⟨_, s1.tseq h0⟩, fun p hp => ?_⟩
    have it := itIs_tup (s1.tseq h0)
    have fp : H p = none := s1.free hp
    have nbp : bk ≠ p := fun z => by rw [<- z, upd_same] at hp; cases hp
    refine ⟨fun i m ys H' => m = 2 - i /\ Same (upd H bk (.lst xs)) H' /\ H' p = some (.lst ys) /\ ((i = 0 /\ ys = []) \/ (i = 1 /\ ∃ l0, ys = [.ref l0] /\ H' l0 = some (.lst (h.1.map V.int)) /\ upd H bk (.lst xs) l0 = none /\ l0 ≠ p) ∨
      (i = 2 /\ ∃ l0 l1, ys = [.ref l0, .ref l1] /\ H' l0 = some (.lst (h.1.map V.int)) /\ H' l1 = some (.lst (h.2.map V.int)) /\ upd H bk (.lst xs) l0 = none /\ upd H bk (.lst xs) l1 = none /\ l0 ≠ p /\ l1 ≠ p /\ l0 ≠ l1)), ⟨2, rfl, Same.new hp _, upd_same, .inl ⟨rfl, rfl⟩⟩, ?_⟩
    rintro i m ys H' ⟨rfl, e, hp', hc⟩
    rcases hc with ⟨rfl, rfl⟩ | ⟨rfl, l0, rfl, q0, f0, m0⟩ | ⟨rfl, l0, l1, rfl, q0, q1, f0, f1, m0, m1, m01⟩
    . refine .inr ⟨it.go 0 _ e (by show 0 < 2; decide), fun x H'' y => ?_⟩
      obtain ⟨rfl, hx⟩ := it.yld 0 _ x H'' e (by show 0 < 2; decide) y
      cases hx
      refine ⟨Wk.set (by decide), _, rfl, t, _, rfl, .inr ((s1.trans e).tseq h1), fun l hl => ?_⟩
      have npl : p ≠ l := ne_of_none hp' hl
      refine ⟨by rw [upd_ne npl]; exact hp', by show 0 < sizeLine; decide, 1, by decide, rfl, ?_, upd_same, .inr (.inl ⟨rfl, l, rfl, by rw [upd_ne (Ne.symm npl), upd_same], e.free hl, Ne.symm npl⟩)⟩
      exact (e.trans (Same.new hl _)).write hp
    . refine .inr ⟨it.go 1 _ e (by show 1 < 2; decide), fun x H'' y => ?_⟩
      obtain ⟨rfl, hx⟩ := it.yld 1 _ x H'' e (by show 1 < 2; decide) y
      cases hx
      refine ⟨Wk.set (by decide), _, rfl, gv, _, rfl, .inr ((s1.trans e).tseq h2), fun l hl => ?_⟩
      have npl : p ≠ l := ne_of_none hp' hl
      have nl0 : l0 ≠ l := ne_of_none q0 hl
      refine ⟨by rw [upd_ne npl]; exact hp', by show 1 < sizeLine; decide, 0, by decide, rfl, ?_, upd_same, .inr (.inr ⟨rfl, l0, l, rfl, by rw [upd_ne m0, upd_ne nl0]; exact q0, by rw [upd_ne (Ne.symm npl), upd_same], f0, e.free hl, m0, Ne.symm npl, nl0⟩)⟩
      exact (e.trans (Same.new hl _)).write hp
    . refine .inl ⟨it.stop _ e, ?_⟩
      have nb : ∀ l, upd H bk (.lst xs) l = none -> l ≠ bk := fun l z w => by rw [w, upd_same] at z; cases z
      refine ⟨p, fun c => if c then l1 else l0, fun c => if c then h.2 else h.1, rfl, ⟨s1.trans e, hp', e _ _ upd_same, fun c => ?_, m01, fun c => ?_, fun c => ?_, Ne.symm nbp, fp, hbk, fun c => ?_, fun c => ?_⟩, fun c => ?_⟩
      . cases c
        . exact q0
        . exact q1
      . cases c
        . exact m0
        . exact m1
      . cases c
        . exact nb _ f0
        . exact nb _ f1
      . cases c
        . exact s1.free f0
        . exact s1.free f1
      . cases c
        . show h.1.length <= 10; omega
        . show h.2.length <= 10; omega
      . cases c
        . exact ⟨lt1, lt4⟩
        . exact ⟨lg1, lg4⟩
  rintro σ' H2 ⟨sl, s, L, rfl, d2, hL⟩
  obtain ⟨b, hb⟩ := sd_of g1
  refine ⟨_, rfl, pk, _, 1, _, rfl, rfl, d2.same.seq hP, c1, _, _, rfl, rfl, (by show (0 : Int) < 2; decide), ?_⟩
  dsimp only
  rw [hb]
  have lb : ((L b).map V.int).length = (L b).length := List.length_map _
  have lb1 := hL b
  refine ⟨_, rfl, pk, _, 2, _, rfl, rfl, d2.same.seq hP, c2, _, rfl, _, rfl, sl, _, _, _, rfl, rfl, SqL.of d2.hsl, pair_at s b, s b, _, rfl, .inl (SqL.of (d2.at' b)), _, _, rfl, rfl, (by show (0 : Int) < (((L b).map V.int).length : Int); omega), ?_⟩
  have k0 : 0 <= y2 % (((L b).map V.int).length : Int) := Int.emod_nonneg _ (by omega)
  have k1 : y2 % (((L b).map V.int).length : Int) < ((L b).length : Int) := by
    have := Int.emod_lt_of_pos y2 (show (0 : Int) < (((L b).map V.int).length : Int) by omega)
    omega
  dsimp only
  generalize y2 % (((L b).map V.int).length : Int) = kk at k0 k1 ⊢
  refine ⟨_, rfl, pk, _, 3, _, rfl, rfl, d2.same.seq hP, c3, _, _, rfl, rfl, (by show (0 : Int) < 10; decide), ?_⟩
  have f0 : 0 <= y3 % 10 := by omega
  dsimp only
  generalize y3 % 10 = form at f0 ⊢
  -- form < 4
  refine ⟨fun σ' H' => ∃ (s : Bool -> Addr) (L : Bool -> List Int), σ' = [some (.ref bk), some (.ref pk), some (.int at'), some (.int (sd b)), some (.ref sl), some (.int kk), some (.int form)] /\ Sd H H' sl bk xs s L /\ kk < ((L b).length : Int) /\ (L b).length <= 4, ?_, ?_⟩
  . refine ⟨_, rfl, _, _, rfl, rfl, _, rfl, ?_⟩
    refine ite2 (fun c => ?_) (fun c => ⟨s, L, rfl, d2, k1, lb1.2⟩)
    have c' : form < 4 := of_decide_eq_true c
    refine ⟨_, _, rfl, rfl, ⟨by decide, by decide, by decide⟩, _, _, rfl, rfl, _, rfl, _, _, rfl, rfl, ⟨by decide, by decide, by decide⟩, (by show 4 <= sizeLine; decide), fun lp hlp => ?_⟩
    obtain ⟨z, hz, az⟩ := atI_int (ns := [0, 10 ^ (9 : Int).toNat + 1, -1, 10 ^ (9 : Int).toNat]) (k := form) f0 (by show form < 4; exact c')
    have d3 := d2.grow (Same.new hlp (.lst [V.int 0, V.int (10 ^ (9 : Int).toNat + 1), V.int (-1), V.int (10 ^ (9 : Int).toNat)]))
    refine ⟨_, rfl, lp, _, _, _, rfl, rfl, SqL.of upd_same, az, ?_⟩
    refine ⟨_, rfl, _, rfl, sl, _, _, _, rfl, rfl, SqL.of d3.hsl, pair_at s b, _, rfl, s b, _, _, _, rfl, rfl, d3.at' b, ixN_nat k0 (by rw [lb]; exact k1), ?_⟩
    rw [map_set]
    refine ⟨s, _, rfl, d3.write b (M := (L b).set kk.toNat z) (by rw [List.length_set]; omega), ?_, ?_⟩
    . simp only [if_pos, List.length_set]; exact k1
    . simp only [if_pos, List.length_set]; exact lb1.2
  rintro σ' H3 ⟨s3, L3, rfl, d3, k3, l3⟩
  -- form == 4
  refine ⟨fun σ' H' => ∃ (s : Bool -> Addr) (L : Bool -> List Int), σ' = [some (.ref bk), some (.ref pk), some (.int at'), some (.int (sd b)), some (.ref sl), some (.int kk), some (.int form)] /\ Sd H H' sl bk xs s L /\ kk < ((L b).length : Int), ?_, ?_⟩
  . refine ⟨_, rfl, rfl, _, rfl, ?_⟩
    refine ite2 (fun c => ?_) (fun c => ⟨s3, L3, rfl, d3, k3⟩)
    refine ⟨_, rfl, _, rfl, sl, _, _, _, rfl, rfl, SqL.of d3.hsl, pair_at s3 b, .inl ⟨rfl, _, SqL.of (d3.at' b)⟩, _, rfl, pk, _, 4, _, rfl, rfl, d3.same.seq hP, c4, _, _, rfl, rfl, (by show (0 : Int) < 3; decide), _, _, rfl, rfl, s3 b, _, _, rfl, rfl, d3.at' b, (by rw [List.length_map]; exact small1000 (by omega)), ?_⟩
    have em : (L3 b).map V.int ++ [V.int (1 + y4 % 3)] = (L3 b ++ [1 + y4 % 3]).map V.int := by rw [List.map_append]; rfl
    rw [em]
    refine ⟨s3, _, rfl, d3.write b (M := L3 b ++ [1 + y4 % 3]) (by rw [List.length_append, List.length_singleton]; omega), ?_⟩
    simp only [if_pos, List.length_append, List.length_singleton]; omega
  rintro σ' H4 ⟨s4, L4, rfl, d4, k4⟩
  -- form == 5
  refine ⟨fun σ' H' => ∃ (s : Bool -> Addr) (L : Bool -> List Int), σ' = [some (.ref bk), some (.ref pk), some (.int at'), some (.int (sd b)), some (.ref sl), some (.int kk), some (.int form)] /\ Sd H H' sl bk xs s L, ?_, ?_⟩
  . refine ⟨_, rfl, rfl, _, rfl, ?_⟩
    refine ite2 (fun c => ?_) (fun c => ⟨s4, L4, rfl, d4⟩)
    have l4 : ((L4 b).map V.int).length = (L4 b).length := List.length_map _
    have l10 := d4.len b
    have hkn : kk.toNat < ((L4 b).map V.int).length := by omega
    refine ⟨_, rfl, _, rfl, sl, _, _, _, rfl, rfl, SqL.of d4.hsl, pair_at s4 b, .inl ⟨rfl, _, SqL.of (d4.at' b)⟩, _, rfl, s4 b, _, kk, kk.toNat, _, rfl, rfl, d4.at' b, by omega, by omega, (ixN_seq (ixN_nat k0 (by omega))).1, List.getElem?_eq_getElem hkn, ?_⟩
    rw [erase_map]
    exact ⟨s4, _, rfl, d4.write b (M := (L4 b).eraseIdx kk.toNat) (by have := len_erase (L4 b) kk.toNat; omega)⟩
  rintro σ' H5 ⟨s5, L5, rfl, d5⟩
  -- form == 6
  refine ⟨fun σ' H' => ∃ (s : Bool -> Addr) (L : Bool -> List Int), σ' = [some (.ref bk), some (.ref pk), some (.int at'), some (.int (sd b)), some (.ref sl), some (.int kk), some (.int form)] /\ Sd H H' sl bk xs s L, ?_, ?_⟩
  . refine ⟨_, rfl, rfl, _, rfl, ?_⟩
    refine ite2 (fun c => ?_) (fun c => ⟨s5, L5, rfl, d5⟩)
    refine ⟨(by show 1 <= sizeLine; decide), fun l1 hl1 => ?_⟩
    have e1 := Same.new hl1 (.lst [V.int 1])
    refine ⟨(by show 2 <= sizeLine; decide), fun l2 hl2 => ?_⟩
    have e2 := Same.new hl2 (.lst [V.int 0, V.int 5])
    obtain ⟨z, hz, az⟩ := atI_int (ns := [0, 5]) (k := y4 % 2) (by omega) (by show y4 % 2 < 2; omega)
    have hz' : z = 0 \/ z = 5 := by simpa using hz
    have d6 := d5.grow (e1.trans e2)
    refine ⟨_, rfl, pk, _, 4, _, rfl, rfl, d6.same.seq hP, c4, _, _, rfl, rfl, (by show (0 : Int) < 2; decide), l2, _, _, _, rfl, rfl, SqL.of upd_same, az, ?_⟩
    refine ⟨l1, z, [V.int 1], rfl, rfl, e2 _ _ upd_same, by omega, by omega, (by show 1 * z.toNat <= sizeLine; exact Nat.le_of_lt (small1000 (by omega))), fun p hp => ?_⟩
    rw [rep_ints]
    have d7 := d6.grow (Same.new hp (.lst ((List.replicate z.toNat 1).map V.int)))
    refine ⟨_, rfl, _, rfl, sl, _, _, _, rfl, rfl, d7.hsl, pair_ix b, ?_⟩
    exact ⟨_, _, rfl, Sd.put d6 hp d7 upd_same (by rw [List.length_replicate]; omega) b⟩
  rintro σ' H6 ⟨s6, L6, rfl, d6⟩
  -- form == 7
  refine ⟨fun σ' H' => ∃ (s : Bool -> Addr) (L : Bool -> List Int), σ' = [some (.ref bk), some (.ref pk), some (.int at'), some (.int (sd b)), some (.ref sl), some (.int kk), some (.int form)] /\ Sd H H' sl bk xs s L, ?_, ?_⟩
  . refine ⟨_, rfl, rfl, _, rfl, ?_⟩
    refine ite2 (fun c => ?_) (fun c => ⟨s6, L6, rfl, d6⟩)
    refine ⟨(by show 1 <= sizeLine; decide), fun l1 hl1 => ?_⟩
    have e1 := Same.new hl1 (.lst [V.int 0])
    have d7 := d6.grow e1
    have l7 : ((L6 true).map V.int).length = (L6 true).length := List.length_map _
    have l10 := d6.len true
    refine ⟨_, rfl, sl, _, 1, _, rfl, rfl, SqL.of d7.hsl, pair_at s6 true, s6 true, _, rfl, .inl (SqL.of (d7.at' true)), ?_⟩
    refine ⟨l1, _, [V.int 0], rfl, rfl, upd_same, by omega, by omega, (by show 1 * ((((L6 true).map V.int).length : Int)).toNat <= sizeLine; exact Nat.le_of_lt (small1000 (by omega))), fun p hp => ?_⟩
    rw [rep_ints]
    have d8 := d7.grow (Same.new hp (.lst ((List.replicate ((((L6 true).map V.int).length : Int)).toNat 0).map V.int)))
    refine ⟨_, rfl, sl, _, _, _, rfl, rfl, d8.hsl, pair_ix true, ?_⟩
    exact ⟨_, _, rfl, Sd.put d7 hp d8 upd_same (by rw [List.length_replicate]; omega) true⟩
  rintro σ' H7 ⟨s7, L7, rfl, d7⟩
  -- the spoilt house
  refine ⟨fun σ' H' => ∃ (xs' : List V) (o3 o4 o5 : Option V), σ' = [some (.ref bk), some (.ref pk), some (.int at'), o3, o4, o5, some (.int form)] /\ Same H H' /\ H' bk = some (.lst xs') /\ xs'.length <= 16 /\ AllH K H' xs', ?_, ?_⟩
  . refine ⟨_, rfl, sl, _, 0, _, rfl, rfl, SqL.of d7.hsl, pair_at s7 false, s7 false, _, rfl, .inl ⟨SqL.of (d7.at' false), fun pt hpt => ?_⟩⟩
    have d8 := d7.grow (Same.new hpt (.tup ((L7 false).map V.int)))
    have t8 : upd H7 pt (.tup ((L7 false).map V.int)) pt = some (.tup ((L7 false).map V.int)) := upd_same
    refine ⟨_, rfl, sl, _, 1, _, rfl, rfl, SqL.of d8.hsl, pair_at s7 true, s7 true, _, rfl, .inl ⟨SqL.of (d8.at' true), fun pg hpg => ?_⟩⟩
    have f9 := Same.new hpg (.tup ((L7 true).map V.int))
    have d9 := d8.grow f9
    refine ⟨(by show 2 <= sizeLine; decide), fun pr hpr => ?_⟩
    have f10 := Same.new hpr (.tup [V.ref pt, V.ref pg])
    have d10 := d9.grow f10
    refine ⟨_, rfl, _, rfl, bk, _, _, _, rfl, rfl, d10.hbk, ixN_nat r0 r1, ?_⟩
    have kp := Keep.upd (o := .lst (xs.set at'.toNat (V.ref pr))) d10.hbk
    refine ⟨_, _, _, _, rfl, d10.same.write d10.fbk, upd_same, by rw [List.length_set]; exact hx16, fun v hv => ?_⟩
    rcases List.mem_or_eq_of_mem_set hv with z | z
    . obtain ⟨hh, hh1, ⟨_, a4⟩, ⟨_, b4⟩⟩ := hall v z
      exact ⟨hh, HS.keep kp (hh1.same d10.same), by omega, by omega⟩
    . rw [z]
      refine ⟨(L7 false, L7 true), HS.keep kp ⟨pr, pt, pg, rfl, SqT.of upd_same, SqT.of (f10 _ _ (f9 _ _ t8)), SqT.of (f10 _ _ upd_same)⟩, d7.len false, d7.len true⟩
  rintro σ' H8 ⟨xs8, o3, o4, o5, rfl, e8, hb8, lx8, all8⟩
  -- form > 7
  refine ⟨fun σ' H' => ∃ (bk : Addr) (xs' : List V) (o3 o4 o5 : Option V), σ' = [some (.ref bk), some (.ref pk), some (.int at'), o3, o4, o5, some (.int form)] /\ Same H H' /\ H' bk = some (.lst xs') /\ xs'.length <= 300 /\ AllH K H' xs', ?_, ?_⟩
  . refine ⟨_, rfl, _, _, rfl, rfl, _, rfl, ?_⟩
    refine ite2 (fun c => ?_) (fun c => ⟨bk, xs8, _, _, _, rfl, e8, hb8, by omega, all8⟩)
    refine ⟨_, rfl, bk, 17, xs8, rfl, rfl, hb8, by decide, by decide, (by show xs8.length * 17 <= sizeLine; exact Nat.le_of_lt (small1000 (by omega))), fun p1 hp1 => ?_⟩
    have f1 := Same.new hp1 (.lst (List.replicate (17 : Int).toNat xs8).flatten)
    refine ⟨(by show 3 <= sizeLine; decide), fun l3 hl3 => ?_⟩
    have f2 := Same.new hl3 (.lst [V.int 0, V.int 16, V.int 17])
    obtain ⟨z, hz, az⟩ := atI_int (ns := [0, 16, 17]) (k := y4 % 3) (by omega) (by show y4 % 3 < 3; omega)
    have e9 := e8.trans (f1.trans f2)
    refine ⟨_, rfl, pk, _, 4, _, rfl, rfl, e9.seq hP, c4, _, _, rfl, rfl, (by show (0 : Int) < 3; decide), l3, _, _, _, rfl, rfl, SqL.of upd_same, az, _, rfl, ?_⟩
    refine ⟨p1, _, rfl, SqL.of (f2 _ _ upd_same), fun p2 hp2 => ?_⟩
    have f3 := Same.new hp2 (.lst (cutV (List.replicate (17 : Int).toNat xs8).flatten none (some z)))
    refine ⟨p2, _, _, _, _, rfl, e9.trans f3, upd_same, ?_, fun v hv => ?_⟩
    . have z1 := cutV_length (List.replicate (17 : Int).toNat xs8).flatten none (some z)
      have z2 : (List.replicate (17 : Int).toNat xs8).flatten.length = 17 * xs8.length := len_rep xs8 17
      omega
    . exact (all8.same (f1.trans (f2.trans f3))) v (mem_rep (mem_cut hv))
  rintro σ' H9 ⟨bk9, xs9, o3', o4', o5', rfl, e9, hb9, lx9, all9⟩
  -- all houses so
  refine ⟨fun σ' H' => ∃ (bk : Addr) (xs' : List V) (o2 o3 o4 o5 o6 : Option V), σ' = [some (.ref bk), some (.ref pk), o2, o3, o4, o5, o6] /\ Same H H' /\ H' bk = some (.lst xs') /\ xs'.length <= 300 /\ AllH K H' xs', ?_, ?_⟩
  . refine ⟨_, rfl, pk, _, 5, _, rfl, rfl, e9.seq hP, c5, _, _, rfl, rfl, (by show (0 : Int) < 5; decide), rfl, _, rfl, ?_⟩
    refine ite2 (fun c => ?_) (fun c => ⟨bk9, xs9, _, _, _, _, _, rfl, e9, hb9, lx9, all9⟩)
    refine ⟨_, rfl, bk9, rfl, ⟨_, SqL.of hb9⟩, fun lp hlp => ?_⟩
    have pick : ∀ x, x ∈ xs9 -> ∃ u, u ∈ xs9 /\ atI xs9 (at' % (xs9.length : Int)) = some u := fun x hx => by
      have hpos : 0 < xs9.length := List.length_pos_iff.mpr (fun z => by rw [z] at hx; cases hx)
      exact atI_mem (Int.emod_nonneg _ (by omega)) (Int.emod_lt_of_pos _ (by omega))
    refine lc_map (itIs_list (SqL.of hb9)) hlp (small1000 (by omega)) (fun _ => (atI xs9 (at' % (xs9.length : Int))).getD .non) (fun i x H' N hx e hN => ?_) ?_
    . have hm := List.mem_of_getElem? hx
      have hpos : 0 < xs9.length := List.length_pos_iff.mpr (fun z => by rw [z] at hm; cases hm)
      obtain ⟨u, hu, au⟩ := pick x hm
      rw [au] at hN
      exact ⟨Wk.set (by decide), _, rfl, _, rfl, _, rfl, bk9, _, rfl, .inl (SqL.of (e _ _ hb9)), _, _, rfl, rfl, (by show (0 : Int) < (xs9.length : Int); omega), bk9, _, _, _, rfl, rfl, SqL.of (e _ _ hb9), au, hN⟩
    . have f1 := Same.new hlp (.lst (xs9.map fun _ => (atI xs9 (at' % (xs9.length : Int))).getD .non))
      refine ⟨_, rfl, (by show 0 <= sizeLine; decide), fun ep hep => ?_⟩
      have f2 := Same.new hep (.lst [])
      obtain ⟨hs9, bk9', _⟩ := (all9.same (f1.trans f2)).bk
      refine ⟨.list (hs9.map dHouse), .list [], .lst (SqL.of (f2 _ _ (f1 _ _ hb9))) (Bk.dps bk9'), .lst (SqL.of upd_same) .nil, lay_book hs9, rfl, Nat.le_trans (Nat.min_le_right _ _) (by decide), .inr ⟨_, rfl, ?_⟩⟩
      generalize (!(PyData.list (hs9.map dHouse)).eqv (PyData.list [])) = bb
      have kb : 0 <= (if bb = true then (1 : Int) else 0) /\ (if bb = true then (1 : Int) else 0) <= 1 := by split <;> decide
      generalize (if bb = true then (1 : Int) else 0) = kz at kb ⊢
      have ln : (xs9.map fun _ => (atI xs9 (at' % (xs9.length : Int))).getD V.non).length = xs9.length := List.length_map _
      have lr := len_rep (xs9.map fun _ => (atI xs9 (at' % (xs9.length : Int))).getD V.non) kz.toNat
      have kn : kz.toNat = 0 \/ kz.toNat = 1 := by omega
      refine ⟨lp, kz, _, rfl, rfl, f2 _ _ upd_same, by omega, by omega, ?_, fun rp hrp => ?_⟩
      . rw [ln]
        rcases kn with z | z <;> (rw [z]; exact Nat.le_of_lt (small1000 (by omega)))
      . have f3 := Same.new hrp (.lst (List.replicate kz.toNat (xs9.map fun _ => (atI xs9 (at' % (xs9.length : Int))).getD V.non)).flatten)
        refine ⟨rp, _, _, _, _, _, _, rfl, e9.trans (f1.trans (f2.trans f3)), upd_same, ?_, fun v hv => ?_⟩
        . rw [lr, ln]
          rcases kn with z | z <;> (rw [z]; omega)
        . obtain ⟨x, hx, rfl⟩ := List.mem_map.mp (mem_rep hv)
          obtain ⟨u, hu, au⟩ := pick x hx
          have eu : (atI xs9 (at' % (xs9.length : Int))).getD V.non = u := by rw [au]; rfl
          obtain ⟨hh, q1, q2⟩ := (all9.same (f1.trans (f2.trans f3))) u hu
          exact ⟨hh, eu.symm ▸ q1, q2⟩
  rintro σ' H10 ⟨bk10, xs10, o2, o3'', o4'', o5'', o6, rfl, e10, hb10, lx10, all10⟩
  exact ⟨_, rfl, q bk10 H10 xs10 e10 hb10 lx10 all10⟩
end
end Rim
namespace Rim
open PySem L2
theorem Wk.set2 {n : Nat} {fr : List Nat} {σ : St} {i j : Nat} {v u : V} (hi : i < n) (hj : j < n) : Wk (blkσ n fr σ) (((blkσ n fr σ).set i (some v)).set j (some u)) := by
  refine ⟨by simp, fun k w e => ?_⟩
  have : ¬ k < n := fun hk => by
    unfold blkσ at e
    rw [List.getElem?_append_left (by simpa using hk), List.getElem?_replicate] at e
    split at e <;> cases e
  rw [List.getElem?_set_ne (by omega), List.getElem?_set_ne (by omega)]; exact e
theorem sum_nn : ∀ {l : List Int}, (∀ x ∈ l, 0 <= x) -> 0 <= l.sum
  | [], _ => by simp
  | a :: r, h => by
    have h1 := h a List.mem_cons_self
    have h2 := sum_nn (l := r) fun x hx => h x (List.mem_cons_of_mem _ hx)
    rw [List.sum_cons]; omega
theorem sum_pos : ∀ {l : List Int}, (∀ x ∈ l, 0 <= x) -> (∃ x ∈ l, 0 < x) -> 0 < l.sum
  | [], _, ⟨x, hx, _⟩ => by cases hx
  | a :: r, h, ⟨x, hx, x0⟩ => by
    have h1 := h a List.mem_cons_self
    have h2 := sum_nn (l := r) fun x hx => h x (List.mem_cons_of_mem _ hx)
    rw [List.sum_cons]
    rcases List.mem_cons.mp hx with rfl | hx
    . omega
    . have := sum_pos (l := r) (fun x hx => h x (List.mem_cons_of_mem _ hx)) ⟨x, hx, x0⟩
      omega
theorem pos_of_sum : ∀ {l : List Int}, (∀ x ∈ l, 0 <= x) -> l.sum ≠ 0 -> ∃ x ∈ l, 0 < x
  | [], _, h => absurd (by simp) h
  | a :: r, h, hs => by
    have h1 := h a List.mem_cons_self
    by_cases a0 : 0 < a
    . exact ⟨a, List.mem_cons_self, a0⟩
    . have hr : r.sum ≠ 0 := fun z => hs (by rw [List.sum_cons, z]; omega)
      obtain ⟨x, hx, x0⟩ := pos_of_sum (l := r) (fun x hx => h x (List.mem_cons_of_mem _ hx)) hr
      exact ⟨x, List.mem_cons_of_mem _ hx, x0⟩
structure Ok1 (h : House) : Prop where
  t1 : 1 <= h.1.length
  t4 : h.1.length <= 4
  g1 : 1 <= h.2.length
  g4 : h.2.length <= 4
  t : Within 1 h.1
  g : Within 0 h.2
  p : ∃ x ∈ h.2, 0 < x
theorem Good.one {hs : List House} (z : Good hs) {h : House} (hm : h ∈ hs) : Ok1 h := by
  obtain ⟨_, m, n, hm1, hn1, ha⟩ := z
  obtain ⟨⟨a1, a2⟩, ⟨b1, b2⟩, p⟩ := ha h hm
  exact ⟨by omega, by omega, by omega, by omega, a2, b2, p⟩
def dz (h : House) : PyData := .tuple [.int (h.1.length : Int), .int (h.2.length : Int)]
theorem eqv_dz (h k : House) : PyData.eqv (dz h) (dz k) = true ↔ h.1.length = k.1.length /\ h.2.length = k.2.length := by
  unfold dz
  simp only [PyData.eqv, PyData.eqvAll, Bool.and_eq_true, beq_iff_eq, Bool.and_true]
  omega
theorem eqv_all (k : House) : ∀ hs : List House, PyData.eqvAll (hs.map dz) (List.replicate hs.length (dz k)) = true ↔ ∀ h ∈ hs, h.1.length = k.1.length /\ h.2.length = k.2.length
  | [] => by simp [PyData.eqvAll]
  | h :: r => by
    rw [List.map_cons, List.length_cons, List.replicate_succ, PyData.eqvAll, Bool.and_eq_true, eqv_dz, eqv_all k r]
    simp
theorem lay_dz (h : House) : (dz h).canLay0 = true := by
  unfold dz
  rw [PyData.canLay0, PyData.canLayAll0, PyData.canLay0, PyData.canLayAll0, PyData.canLay0, PyData.canLayAll0]; rfl
theorem lay_dzs : ∀ hs : List House, PyData.canLayAll0 (hs.map dz) = true
  | [] => by rw [List.map_nil, PyData.canLayAll0]
  | h :: r => by rw [List.map_cons, PyData.canLayAll0, lay_dz, lay_dzs r]; rfl
theorem lay_rep (h : House) : ∀ n : Nat, PyData.canLayAll0 (List.replicate n (dz h)) = true
  | 0 => by rw [List.replicate_zero, PyData.canLayAll0]
  | n + 1 => by rw [List.replicate_succ, PyData.canLayAll0, lay_dz, lay_rep h n]; rfl
theorem depth_dz (h : House) : (dz h).depth <= 5 := by
  unfold dz
  simp [PyData.depth, PyData.depthAll]
theorem depth_dzs : ∀ hs : List House, PyData.depthAll (hs.map dz) <= 5
  | [] => by simp [PyData.depthAll]
  | h :: r => by
    rw [List.map_cons, PyData.depthAll]
    exact Nat.max_le.mpr ⟨depth_dz h, depth_dzs r⟩
theorem flat_rep {α : Type} (y : α) : ∀ n : Nat, (List.replicate n [y]).flatten = List.replicate n y
  | 0 => rfl
  | n + 1 => by rw [List.replicate_succ, List.flatten_cons, flat_rep y n, List.replicate_succ]; rfl
theorem dps_rep {K : W.Frag} {H : Hp} {y : V} {d : PyData} (h : Dp K H y d) : ∀ n : Nat, Dps K H (List.replicate n y) (List.replicate n d)
  | 0 => .nil
  | n + 1 => by rw [List.replicate_succ, List.replicate_succ]; exact .cons h (dps_rep h n)
theorem dps_at {K : W.Frag} {H : Hp} : ∀ (ys : List V) (hs : List House), ys.length = hs.length -> (∀ (i : Nat) (y : V), ys[i]? = some y -> ∃ h, hs[i]? = some h /\ Dp K H y (dz h)) -> Dps K H ys (hs.map dz)
  | [], [], _, _ => .nil
  | y :: r, h :: hr, hl, x => by
    obtain ⟨h', e, d⟩ := x 0 y rfl
    cases e
    refine .cons d (dps_at r hr (by simpa using hl) fun i y' e => ?_)
    have := x (i + 1) y' (by simpa using e)
    simpa using this
section
variable {P : Program} {w : World} {K : W.Frag} {mg : Str -> Option Value} {base : Heap} {f g : Addr} {fd gd : FuncData}
theorem scDue : FnScope ["book", "takes", "gives", "sizes"] ["book"] (defScope sDue) := ⟨rfl, rfl, rfl, by decide +kernel, rfl, by decide +kernel, by decide +kernel⟩
theorem ndDue : (["takes", "gives"] : List Str).Nodup := by decide +kernel
set_option maxHeartbeats 4000000 in
noncomputable def dueT {n : Nat} {cdv : Value} {A : Around} {outer : List Env} {s : Shared} {H : Hp} {E : XK} (T : Nones mg)
    (hr : Room n (A.deeper (PyProof.Rows.envOfC "_law_due" (defScope sDue) s.heap.objs.size f cdv))) :
    { t : TS // PSs (cxOf CX0 P w K mg base ["book", "takes", "gives", "sizes"] "_law_due" (defScope sDue) f cdv A outer s H E).nox (defBody sDue) t } :=
  ⟨_, pss_cons (ps_if (PW.pt (pw_or (pt_cmpR op_lt (pe_callB call_len_seq rfl T.len PySem.boot_len (pa_cons (pv 0) pa_nil)) pe_int (nomark _)) (pw_or1 (pt_cmpR op_gt (pe_callB call_len_seq rfl T.len PySem.boot_len (pa_cons (pv 0) pa_nil)) pe_int (nomark _))))) (pss_one (ps_ret pe_bl)) pss_nil)
    (pss_cons (ps_for PassesOwn.never rfl (pi_list (pv 0)) (pg_tup rfl (pgs_cons (pg_name (i := 1) scDue.nd rfl (Or.inl rfl)) (pgs_cons (pg_name (i := 2) scDue.nd rfl (Or.inl rfl)) pgs_nil)))
      (pss_cut (ps_if (PW.pt (pw_or (pt_not (pt_chain op_le op_le pe_int (pe_callB call_len_seq rfl T.len PySem.boot_len (pa_cons (pv 1) pa_nil)) pe_int)) (pw_or (pt_not (pt_chain op_le op_le pe_int (pe_callB call_len_seq rfl T.len PySem.boot_len (pa_cons (pv 2) pa_nil)) pe_int)) (pw_or1 (pt_cmpR op_eq (pe_callB (call_sum rfl) rfl T.sum PyProof.Rows.boot_sum (pa_cons (pv 2) pa_nil)) pe_int (nomark _)))))) (pss_one (ps_ret pe_bl)) pss_nil)
      (pss_cut (ps_if (PW.pt (pw_or (pt_cmpR op_lt (pe_callB (call_min1 rfl) rfl T.min PyProof.Rows.boot_min (pa_cons (pv 1) pa_nil)) pe_int (nomark _)) (pw_or1 (pt_cmpR op_lt (pe_callB (call_min1 rfl) rfl T.min PyProof.Rows.boot_min (pa_cons (pv 2) pa_nil)) pe_int (nomark _))))) (pss_one (ps_ret pe_bl)) pss_nil)
      (pss_one (ps_if (pt_cmpR op_gt (pe_callB (call_max1 rfl) rfl T.max PyProof.Rows.boot_max (pa_cons (pe_op op_catT (pv 1) (pv 2)) pa_nil)) (pe_op op_pow pe_int pe_int) (nomark _)) (pss_one (ps_ret pe_bl)) pss_nil)))))
    (pss_cons (ps_lc (i := 3) ["takes", "gives"] [] scDue.nd rfl rfl rfl (pi_list (pv 0)) (fun _ _ _ _ => pgt_at K (n := 2) rfl rfl (pgs_cons (pg_name (i := 0) ndDue rfl (Or.inl rfl)) (pgs_cons (pg_name (i := 1) ndDue rfl (Or.inl rfl)) pgs_nil)))
      (fun _ _ _ _ => pe_tup (pa_cons (pe_callB (len_at K rfl) rfl T.len PySem.boot_len (pa_cons (pv 0) pa_nil)) (pa_cons (pe_callB (len_at K rfl) rfl T.len PySem.boot_len (pa_cons (pv 1) pa_nil)) pa_nil))))
    (pss_one (ps_ret (pe_cmpR (op_eqD hr) (pv 3) (pe_op op_rep (pe_lst (pa_cons (pe_ix ix_list (pv 3) pe_int (fun _ _ => rfl)) pa_nil)) (pe_callB call_len_seq rfl T.len PySem.boot_len (pa_cons (pv 3) pa_nil))) (nomark _))))))⟩
def spDue (K : W.Frag) : Sp := spBook K
set_option maxHeartbeats 4000000 in
theorem ok_due {n : Nat} (F : Fun K "_law_due" "_law_due" sDue f fd) (T : Nones mg) : FnOk P w K mg base CX0 (n + 1) f fd ["book"] (spDue K) := by
  refine F.ok scDue (fun vs H Q E h => ?_) (fun cdv A outer s H vs Q E hr h => ?_)
  . obtain ⟨a, xs, hs, rfl, _⟩ := h
    rfl
  obtain ⟨a, xs, hs, rfl, hS, hB, hz, hsm, q⟩ := h
  refine ⟨_, (dueT T hr).2, ?_⟩
  have hlen : xs.length = hs.length := Paired.length hB
  have no : ∀ H', Same H H' -> ¬ Good hs -> Q (.bl false) H' := fun H' e hn => q false H' e ⟨fun z => (by cases z), fun z => absurd z hn⟩
  refine ⟨_, rfl, a, _, rfl, .inl hS, _, _, rfl, rfl, _, rfl, ?_⟩
  refine ite2 (fun c1 => ?_) (fun c1 => ?_)
  . refine iteT ?_
    have c1' : (xs.length : Int) < 1 := of_decide_eq_true c1
    exact no _ (Same.refl _) fun z => by have := z.1.1; omega
  have c1' : ¬ (xs.length : Int) < 1 := of_decide_eq_false (Bool.eq_false_iff.mpr c1)
  refine ⟨_, rfl, a, _, rfl, .inl hS, _, _, rfl, rfl, _, rfl, ?_⟩
  refine ite2 (fun c2 => ?_) (fun c2 => ?_)
  . have c2' : 16 < (xs.length : Int) := of_decide_eq_true c2
    exact no _ (Same.refl _) fun z => by have := z.1.2; omega
  have c2' : ¬ 16 < (xs.length : Int) := of_decide_eq_false (Bool.eq_false_iff.mpr c2)
  refine ⟨_, rfl, a, rfl, ⟨_, hS⟩, ?_⟩
  refine for_list (xs := xs) (fun i σ H' => ∃ o1 o2, σ = [some (.ref a), o1, o2, none] /\ Same H H' /\ ∀ j h, j < i -> hs[j]? = some h -> Ok1 h) ⟨_, _, rfl, Same.refl _, fun j h z => absurd z (Nat.not_lt_zero _)⟩ (fun i σ H' _ ⟨_, _, _, e, _⟩ => e.seq hS) ?_ ?_
  . rintro i x σ H1 hx ⟨o1, o2, rfl, e1, hok⟩
    obtain ⟨h, hh, hHS⟩ := Paired.at hB hx
    have hm := List.mem_of_getElem? hh
    have hsm1 := hsm h hm
    obtain ⟨av, t, gv, rfl, h0, h1, h2⟩ := hHS
    have h1' := e1.tseq h1
    have h2' := e1.tseq h2
    have l1 : (h.1.map V.int).length = h.1.length := List.length_map _
    have l2 : (h.2.map V.int).length = h.2.length := List.length_map _
    have bad : ¬ Ok1 h -> Q (.bl false) H1 := fun z => no H1 e1 fun w => z (w.one hm)
    refine ⟨av, _, rfl, e1.tseq h0, rfl, _, _, rfl, _, _, rfl, rfl, ?_⟩
    refine ⟨fun σ' H' => σ' = [some (.ref a), some (.ref t), some (.ref gv), none] /\ H' = H1 /\ (1 <= h.1.length /\ h.1.length <= 4) /\ (1 <= h.2.length /\ h.2.length <= 4) /\ h.2.sum ≠ 0, ?_, ?_⟩
    . refine ⟨_, rfl, t, _, rfl, .inr h1', _, _, rfl, rfl, _, rfl, ?_⟩
      refine ite2 (fun d1 => ?_) (fun d1 => ?_)
      case refine_2 =>
        refine ⟨_, rfl, iteT (iteT ?_)⟩
        have d1' : ¬ (1 : Int) <= ((h.1.map V.int).length : Int) := of_decide_eq_false (Bool.eq_false_iff.mpr d1)
        exact bad fun z => by have := z.t1; omega
      have d1' : (1 : Int) <= ((h.1.map V.int).length : Int) := of_decide_eq_true d1
      refine ⟨_, _, rfl, rfl, _, rfl, ?_⟩
      refine ite2 (fun d2 => ?_) (fun d2 => ?_)
      . have d2' : ¬ ((h.1.map V.int).length : Int) <= 4 := of_decide_eq_false (by simpa using d2)
        exact iteT (bad fun z => by have := z.t4; omega)
      have d2' : ((h.1.map V.int).length : Int) <= 4 := of_decide_eq_true (by simpa using d2)
      refine ⟨_, rfl, gv, _, rfl, .inr h2', _, _, rfl, rfl, _, rfl, ?_⟩
      refine ite2 (fun d3 => ?_) (fun d3 => ?_)
      case refine_2 =>
        refine ⟨_, rfl, iteT (iteT ?_)⟩
        have d3' : ¬ (1 : Int) <= ((h.2.map V.int).length : Int) := of_decide_eq_false (Bool.eq_false_iff.mpr d3)
        exact bad fun z => by have := z.g1; omega
      have d3' : (1 : Int) <= ((h.2.map V.int).length : Int) := of_decide_eq_true d3
      refine ⟨_, _, rfl, rfl, _, rfl, ?_⟩
      refine ite2 (fun d4 => ?_) (fun d4 => ?_)
      . have d4' : ¬ ((h.2.map V.int).length : Int) <= 4 := of_decide_eq_false (by simpa using d4)
        exact iteT (bad fun z => by have := z.g4; omega)
      have d4' : ((h.2.map V.int).length : Int) <= 4 := of_decide_eq_true (by simpa using d4)
      refine ⟨_, rfl, gv, h.2, rfl, .inr h2', rfl, _, rfl, ?_⟩
      refine ite2 (fun d5 => ?_) (fun d5 => ?_)
      . have d5' : h.2.sum = 0 := V.int.inj (of_decide_eq_true d5)
        exact bad fun z => by have := sum_pos (fun x hx => (z.g x hx).1) z.p; omega
      . have d5' : h.2.sum ≠ 0 := fun z => d5 (decide_eq_true (by rw [z]))
        exact ⟨rfl, rfl, ⟨by omega, by omega⟩, ⟨by omega, by omega⟩, d5'⟩
    rintro σ' H2 ⟨rfl, rfl, ⟨t1, t4⟩, ⟨g1, g4⟩, hsum⟩
    have ne1 : h.1 ≠ [] := fun z => by rw [z] at t1; simp at t1
    have ne2 : h.2 ≠ [] := fun z => by rw [z] at g1; simp at g1
    refine ⟨fun σ' H' => σ' = [some (.ref a), some (.ref t), some (.ref gv), none] /\ H' = H2 /\ (∀ x ∈ h.1, 1 <= x) /\ (∀ x ∈ h.2, 0 <= x), ?_, ?_⟩
    . refine ⟨_, rfl, t, h.1, rfl, .inr h1', ne1, fun M hM hMx => ⟨_, _, rfl, rfl, _, rfl, ?_⟩⟩
      refine ite2 (fun d1 => ?_) (fun d1 => ?_)
      . have d1' : M < 1 := of_decide_eq_true d1
        exact iteT (bad fun z => by have := (z.t M hM).1; omega)
      have d1' : ¬ M < 1 := of_decide_eq_false (Bool.eq_false_iff.mpr d1)
      refine ⟨_, rfl, gv, h.2, rfl, .inr h2', ne2, fun N hN hNx => ⟨_, _, rfl, rfl, _, rfl, ?_⟩⟩
      refine ite2 (fun d2 => ?_) (fun d2 => ?_)
      . have d2' : N < 0 := of_decide_eq_true d2
        exact bad fun z => by have := (z.g N hN).1; omega
      have d2' : ¬ N < 0 := of_decide_eq_false (Bool.eq_false_iff.mpr d2)
      exact ⟨rfl, rfl, fun x hx => by have := hMx x hx; omega, fun x hx => by have := hNx x hx; omega⟩
    rintro σ' H3 ⟨rfl, rfl, tx, gx⟩
    refine ⟨_, rfl, _, rfl, t, gv, _, _, rfl, rfl, h1', h2', ?_, ?_, ?_, ?_⟩
    . intro z; exact ne1 (by simpa using z)
    . rw [l1, l2]; exact Nat.le_of_lt (small1000 (by omega))
    . intro z; exact absurd (by simpa using z) ne2
    . intro _ pc hpc
      have s2 := Same.new hpc (.tup (h.1.map V.int ++ h.2.map V.int))
      refine ⟨pc, h.1 ++ h.2, rfl, .inr (SqT.of (by rw [upd_same, List.map_append])), fun z => ne1 (List.append_eq_nil_iff.mp z).1, fun M hM hMx => ?_⟩
      refine ⟨_, _, rfl, rfl, ⟨by decide, by decide, by decide⟩, _, _, rfl, rfl, _, rfl, ?_⟩
      have e9 : (10 : Int) ^ (9 : Int).toNat = 1000000000 := by decide
      refine ite2 (fun d1 => ?_) (fun d1 => ?_)
      . have d1' : (10 : Int) ^ (9 : Int).toNat < M := of_decide_eq_true d1
        rw [e9] at d1'
        refine no _ (e1.trans s2) fun w => ?_
        have z := w.one hm
        rcases List.mem_append.mp hM with y | y
        . have := (z.t M y).2; omega
        . have := (z.g M y).2; omega
      . have d1' : ¬ (10 : Int) ^ (9 : Int).toNat < M := of_decide_eq_false (Bool.eq_false_iff.mpr d1)
        rw [e9] at d1'
        refine ⟨_, _, rfl, e1.trans s2, fun j k hj hk => ?_⟩
        by_cases hji : j < i
        . exact hok j k hji hk
        . have : j = i := by omega
          subst this
          rw [hh] at hk
          cases hk
          exact ⟨t1, t4, g1, g4, fun x hx => ⟨tx x hx, by have := hMx x (List.mem_append_left _ hx); omega⟩, fun x hx => ⟨gx x hx, by have := hMx x (List.mem_append_right _ hx); omega⟩, pos_of_sum gx hsum⟩
  . rintro σ H1 ⟨o1, o2, rfl, e1, hok⟩
    have hall : ∀ h ∈ hs, Ok1 h := fun h hm => by
      obtain ⟨j, hj, rfl⟩ := List.getElem_of_mem hm
      exact hok j _ (by omega) (List.getElem?_eq_getElem hj)
    refine ⟨_, rfl, a, rfl, ⟨_, e1.seq hS⟩, fun p hp => ?_⟩
    refine lc_same (itIs_list (e1.seq hS)) hp (small1000 (by omega)) (fun i y H' => ∃ (hh : House) (b : Addr), hs[i]? = some hh /\ y = .ref b /\ H' b = some (.tup [.int (hh.1.length : Int), .int (hh.2.length : Int)]) /\ b ≠ p)
      (fun i y H' H'' ⟨hh, b, z1, z2, z3, z4⟩ st => ⟨hh, b, z1, z2, st b _ z4 z3, z4⟩) (fun i x H' ys N hx e hp' hN => ?_) (fun ys H' e hp' len pr => ?_)
    . obtain ⟨h, hh, hHS⟩ := Paired.at hB hx
      obtain ⟨av, t, gv, rfl, h0, h1, h2⟩ := hHS
      have e' := e1.trans e
      have l1 : (h.1.map V.int).length = h.1.length := List.length_map _
      have l2 : (h.2.map V.int).length = h.2.length := List.length_map _
      refine ⟨av, _, rfl, e'.tseq h0, rfl, _, _, rfl, _, _, rfl, rfl, Wk.set2 (by decide) (by decide), ?_⟩
      . refine ⟨_, rfl, t, _, rfl, .inr (e'.tseq h1), _, rfl, gv, _, rfl, .inr (e'.tseq h2), (by show 2 <= sizeLine; decide), fun b hb => ?_⟩
        rw [l1, l2]
        exact hN _ _ (Same.new hb _) ⟨h, b, hh, rfl, upd_same, Ne.symm (ne_of_none hp' hb)⟩
    . match hs, ys, hlen, hall, len, pr with
      | [], _, hlen, _, _, _ => exact absurd hlen (by simp only [List.length_nil]; omega)
      | h :: hr', [], hlen, _, len, _ => exact absurd len (by simp only [List.length_nil]; omega)
      | h :: hr', y :: yr, hlen, hall, len, pr =>
      obtain ⟨hh, b0, z1, rfl, z3, z4⟩ := pr 0 y rfl
      cases z1
      refine ⟨_, rfl, _, rfl, p, _, 0, _, rfl, rfl, SqL.of hp', atI_nat (j := 0) rfl, (by show 1 <= sizeLine; decide), fun l1 hl1 => ?_⟩
      have f1 := Same.new hl1 (.lst [V.ref b0])
      refine ⟨_, rfl, p, _, rfl, .inl (SqL.of (f1 _ _ hp')), l1, _, [V.ref b0], rfl, rfl, upd_same, by omega, by omega, ?_, fun p2 hp2 => ?_⟩
      . show 1 * (((V.ref b0 :: yr).length : Int)).toNat <= sizeLine
        exact Nat.le_of_lt (small1000 (by omega))
      have en : ((((V.ref b0 :: yr).length : Nat) : Int)).toNat = (V.ref b0 :: yr).length := by omega
      rw [en, flat_rep]
      have f2 := Same.new hp2 (.lst (List.replicate (V.ref b0 :: yr).length (V.ref b0)))
      have f12 := f1.trans f2
      have hyl : (V.ref b0 :: yr).length = (h :: hr').length := by omega
      refine ⟨.list ((h :: hr').map dz), .list (List.replicate (V.ref b0 :: yr).length (dz h)), .lst (SqL.of (f12 _ _ hp')) (dps_at _ _ hyl fun i y' ey => ?_), .lst (SqL.of upd_same) (dps_rep (.tup (SqT.of (f12 _ _ z3)) (.cons (.int _) (.cons (.int _) .nil))) _), ?_, ?_, ?_, ?_⟩
      . obtain ⟨hh', b', w1, rfl, w3, w4⟩ := pr i y' ey
        exact ⟨hh', w1, .tup (SqT.of (f12 _ _ w3)) (.cons (.int _) (.cons (.int _) .nil))⟩
      . rw [PyData.canLay0]; exact lay_dzs _
      . rw [PyData.canLay0]; exact lay_rep h _
      . refine Nat.le_trans (Nat.min_le_left _ _) ?_
        have := depth_dzs (h :: hr')
        rw [PyData.depth]
        omega
      . refine q _ _ (e1.trans (e.trans f12)) ?_
        rw [hyl]
        show PyData.eqvAll ((h :: hr').map dz) (List.replicate (h :: hr').length (dz h)) = true ↔ _
        rw [eqv_all h]
        constructor
        . intro z
          refine ⟨⟨by omega, by omega⟩, h.1.length, h.2.length, ?_, ?_, fun k hk => ?_⟩
          . have := hall h List.mem_cons_self; exact ⟨this.t1, this.t4⟩
          . have := hall h List.mem_cons_self; exact ⟨this.g1, this.g4⟩
          . have o := hall k hk
            have zk := z k hk
            exact ⟨⟨by omega, o.t⟩, ⟨by omega, o.g⟩, o.p⟩
        . rintro ⟨_, m, n, _, _, ha⟩ k hk
          have z1 := ha k hk
          have z2 := ha h List.mem_cons_self
          have := z1.1.1; have := z2.1.1; have := z1.2.1.1; have := z2.2.1.1
          omega
end
end Rim
namespace Rim
open PySem L2
section
variable {P : Program} {w : World} {K : W.Frag} {mg : Str -> Option Value} {base : Heap} {f : Addr} {fd : FuncData}
structure Cal (P : Program) (w : World) (K : W.Frag) (mg : Str -> Option Value) (base : Heap) (n : Nat) (x : Str) (ps : List Str) (sp : Sp) (fa : Addr) (d : FuncData) : Prop where
  ok : FnOk P w K mg base CX0 n fa d ps sp
  b : Binds K d ps []
  k : W.keepIn K (.ref fa) = true
  m : mg x = some (.ref fa)
theorem scLaw : FnScope ["script", "book", "cell", "picks", "some", "handed", "found"] ["script"] (defScope sLaw) := ⟨rfl, rfl, rfl, by decide +kernel, rfl, by decide +kernel, by decide +kernel⟩
set_option maxHeartbeats 4000000 in
noncomputable def lawT {n : Nat} {cdv : Value} {A : Around} {outer : List Env} {s : Shared} {H : Hp} {E : XK} {fa fw fs fb fu : Addr} {da dw ds db du : FuncData} (T : Nones mg)
    (Ca : Cal P w K mg base n "_law_a_book" ["script", "at", "most", "far"] (spABook K) fa da) (Cw : Cal P w K mg base n "_law_draws" ["cell", "many", "base"] (spDraws K) fw dw) (Cs : Cal P w K mg base n "_law_spoilt" ["book", "picks"] (spSpoilt K) fs ds)
    (Cb : Cal P w K mg base n "is_book" ["thing"] (spBook K) fb db) (Cu : Cal P w K mg base n "_law_due" ["book"] (spDue K) fu du)
    (hr : Room n (A.deeper (PyProof.Rows.envOfC "law" (defScope sLaw) s.heap.objs.size f cdv))) :
    { t : TS // PSs (cxOf CX0 P w K mg base ["script", "book", "cell", "picks", "some", "handed", "found"] "law" (defScope sLaw) f cdv A outer s H E).nox (defBody sLaw) t } :=
  ⟨_, pss_cons (ps_set (i := 1) scLaw.nd rfl (Or.inl rfl) (pe_call Ca.ok hr rfl Ca.m Ca.k Ca.b .nil pass0 (pa_cons (pv 0) (pa_cons pe_int (pa_cons pe_int (pa_cons (pe_op op_pow pe_int pe_int) pa_nil))))))
    (pss_cons (ps_for PassesOwn.never rfl (pi_list (pe_op op_cat (pe_lst (pa_cons pe_int pa_nil)) (pe_slice sl_list (pv 0) (po_some pe_int) (po_some pe_int)))) (pg_name (i := 2) scLaw.nd rfl (Or.inl rfl))
      (pss_cons (ps_set (i := 3) scLaw.nd rfl (Or.inl rfl) (pe_call Cw.ok hr rfl Cw.m Cw.k Cw.b .nil pass0 (pa_cons (pe_op op_add (pv 2) pe_int) (pa_cons pe_int (pa_cons pe_int pa_nil)))))
      (pss_cons (ps_set (i := 4) scLaw.nd rfl (Or.inl rfl) (pe_call Cs.ok hr rfl Cs.m Cs.k Cs.b .nil pass0 (pa_cons (pv 1) (pa_cons (pv 3) pa_nil))))
      (pss_cut (ps_if (pt_cmpR op_eq (pv 2) pe_int (nomark _)) (pss_one (ps_set (i := 4) scLaw.nd rfl (Or.inl rfl) (pe_callTy call_list_of rfl T.list PyProof.Rows.boot_list (pa_cons (pv 1) pa_nil)))) pss_nil)
      (pss_cons (ps_set (i := 5) scLaw.nd rfl (Or.inl rfl) (pe_callTy call_list_of rfl T.list PyProof.Rows.boot_list (pa_cons (pv 4) pa_nil)))
      (pss_cons (ps_set (i := 6) scLaw.nd rfl (Or.inl rfl) (pe_call Cb.ok hr rfl Cb.m Cb.k Cb.b .nil pass0 (pa_cons (pv 5) pa_nil)))
      (pss_one (ps_if (PW.pt (pw_or (pt_not (pt_val (pe_callB call_isinst rfl T.isi PyProof.Rows.boot_isinstance (pa_cons (pv 6) (pa_cons (pe_bltn (v := .ty "bool") rfl T.bool PyProof.Rows.boot_bool rfl) pa_nil)))))
          (pw_or (pt_cmpR op_ne (pv 6) (pe_call Cu.ok hr rfl Cu.m Cu.k Cu.b .nil pass0 (pa_cons (pv 4) pa_nil)) (nomark _)) (pw_or1 (pt_cmpR (op_neD hr) (pv 5) (pv 4) (nomark _)))))) (pss_one (ps_ret pe_bl)) pss_nil))))))))
    (pss_one (ps_ret pe_bl)))⟩
def spLaw (K : W.Frag) : Sp := fun vs H Q _ => ∃ (a : Addr) (ns : List Int), vs = [.ref a] /\ SqL K H a (ns.map V.int) /\ ns.length <= 63 /\ ∀ H', Q (.bl true) H'
mutual
theorem eqv_refl : ∀ d : PyData, d.canLay0 = true -> PyData.eqv d d = true
  | .none, _ => by rw [PyData.eqv]
  | .bool b, _ => by rw [PyData.eqv]; simp
  | .int i, _ => by rw [PyData.eqv]; simp
  | .str x, _ => by rw [PyData.eqv]; simp
  | .list xs, h => by rw [PyData.eqv]; exact eqvAll_refl xs (by rw [PyData.canLay0] at h; exact h)
  | .tuple xs, h => by rw [PyData.eqv]; exact eqvAll_refl xs (by rw [PyData.canLay0] at h; exact h)
  | .dict kvs, h => by rw [PyData.canLay0] at h; cases h
theorem eqvAll_refl : ∀ ds : List PyData, PyData.canLayAll0 ds = true -> PyData.eqvAll ds ds = true
  | [], _ => by rw [PyData.eqvAll]
  | d :: r, h => by
    rw [PyData.canLayAll0, Bool.and_eq_true] at h
    rw [PyData.eqvAll, eqv_refl d h.1, eqvAll_refl r h.2]; rfl
end
theorem depth_ints : ∀ ns : List Int, PyData.depthAll (ns.map PyData.int) <= 3
  | [] => by simp [PyData.depthAll]
  | n :: r => by
    rw [List.map_cons, PyData.depthAll]
    exact Nat.max_le.mpr ⟨by simp [PyData.depth], depth_ints r⟩
theorem depth_house (h : House) : (dHouse h).depth <= 8 := by
  unfold dHouse dInts
  have h1 := depth_ints h.1
  have h2 := depth_ints h.2
  rw [PyData.depth, PyData.depthAll, PyData.depth, PyData.depthAll, PyData.depth, PyData.depthAll]
  omega
theorem depth_book : ∀ hs : List House, PyData.depthAll (hs.map dHouse) <= 8
  | [] => by simp [PyData.depthAll]
  | h :: r => by
    rw [List.map_cons, PyData.depthAll]
    exact Nat.max_le.mpr ⟨depth_house h, depth_book r⟩
set_option maxHeartbeats 4000000 in
theorem ok_law {n : Nat} {fa fw fs fb fu : Addr} {da dw ds db du : FuncData} (F : Fun K "law" "law" sLaw f fd) (T : Nones mg)
    (Ca : Cal P w K mg base n "_law_a_book" ["script", "at", "most", "far"] (spABook K) fa da) (Cw : Cal P w K mg base n "_law_draws" ["cell", "many", "base"] (spDraws K) fw dw) (Cs : Cal P w K mg base n "_law_spoilt" ["book", "picks"] (spSpoilt K) fs ds)
    (Cb : Cal P w K mg base n "is_book" ["thing"] (spBook K) fb db) (Cu : Cal P w K mg base n "_law_due" ["book"] (spDue K) fu du) : FnOk P w K mg base CX0 (n + 1) f fd ["script"] (spLaw K) := by
  refine F.ok scLaw (fun vs H Q E h => ?_) (fun cdv A outer s H vs Q E hr h => ?_)
  . obtain ⟨a, ns, rfl, _⟩ := h
    rfl
  obtain ⟨a, ns, rfl, hS, h63, q⟩ := h
  refine ⟨_, (lawT T Ca Cw Cs Cb Cu hr).2, ?_⟩
  refine ⟨_, rfl, _, _, rfl, rfl, ⟨by decide, by decide, by decide⟩, a, ns, 0, 16, _, rfl, hS, by decide, by decide, by decide, by decide, fun bl H1 xs hs kt kg e1 hbl hB hn1 hn16 kt1 kt4 kg1 kg4 hG => ?_⟩
  have xlen : xs.length = hs.length := Paired.length hB
  have hall1 : ∀ v ∈ xs, ∃ h : House, HS K H1 v h /\ (1 <= h.1.length /\ h.1.length <= 4) /\ (1 <= h.2.length /\ h.2.length <= 4) := fun v hv => by
    obtain ⟨i, hi, rfl⟩ := List.getElem_of_mem hv
    obtain ⟨h, hh, hHS⟩ := Paired.at hB (List.getElem?_eq_getElem hi)
    have g := hG h (List.mem_of_getElem? hh)
    exact ⟨h, hHS, by rw [g.lt]; exact ⟨kt1, kt4⟩, by rw [g.lg]; exact ⟨kg1, kg4⟩⟩
  refine ⟨(by show 1 <= sizeLine; decide), fun l0 hl0 => ?_⟩
  have f0 := Same.new hl0 (.lst [V.int 0])
  refine ⟨_, rfl, _, rfl, _, rfl, a, _, rfl, f0.seq (e1.seq hS), fun l1 hl1 => ?_⟩
  have f1 := Same.new hl1 (.lst (cutV (ns.map V.int) (some 2) (some 18)))
  have lc := cutV_length (ns.map V.int) (some 2) (some 18)
  rw [List.length_map] at lc
  refine ⟨l0, l1, _, _, rfl, rfl, f1 _ _ upd_same, upd_same, ?_, fun l2 hl2 => ?_⟩
  . show 1 + (cutV (ns.map V.int) (some 2) (some 18)).length <= sizeLine
    exact Nat.le_of_lt (small1000 (by omega))
  have f2 := Same.new hl2 (.lst ([V.int 0] ++ cutV (ns.map V.int) (some 2) (some 18)))
  refine ⟨l2, rfl, ⟨_, SqL.of upd_same⟩, ?_⟩
  have e2 : Same H1 _ := f0.trans (f1.trans f2)
  have itn : ∀ (i : Nat) (x : V), ([V.int 0] ++ cutV (ns.map V.int) (some 2) (some 18))[i]? = some x -> ∃ c, x = .int c := fun i x hx => by
    rcases List.mem_append.mp (List.mem_of_getElem? hx) with z | z
    . exact ⟨0, List.mem_singleton.mp z⟩
    . obtain ⟨c, _, rfl⟩ := List.mem_map.mp (mem_cut z)
      exact ⟨c, rfl⟩
  refine for_list (xs := [V.int 0] ++ cutV (ns.map V.int) (some 2) (some 18)) (fun i σ H' => ∃ o2 o3 o4 o5 o6, σ = [some (.ref a), some (.ref bl), o2, o3, o4, o5, o6] /\ Same H1 H' /\ H' l2 = some (.lst ([V.int 0] ++ cutV (ns.map V.int) (some 2) (some 18))))
    ⟨_, _, _, _, _, rfl, e2, upd_same⟩ (fun i σ H' _ ⟨_, _, _, _, _, _, _, h2⟩ => SqL.of h2) ?_ ?_
  . rintro i x σ H3 hx ⟨o2, o3, o4, o5, o6, rfl, e3, hl3⟩
    obtain ⟨c, rfl⟩ := itn i x hx
    refine ⟨_, rfl, _, _, rfl, rfl, _, 6, 1000, rfl, by decide, by decide, by decide, fun pl H4 dsl e4 hp4 ld4 bd4 => ?_⟩
    have e14 := e3.trans e4
    refine ⟨_, rfl, _, rfl, bl, pl, xs, dsl, rfl, SqL.of (e14 _ _ hbl), by omega, by omega, fun v hv => ?_, SqL.of hp4, ld4, fun d hd => (bd4 d hd).1, fun sm H5 xs5 e5 hs5 lx5 all5 => ?_⟩
    . obtain ⟨h, h1, h2⟩ := hall1 v hv
      exact ⟨h, h1.same e14, h2⟩
    have e15 := e14.trans e5
    refine ⟨fun σ' H' => ∃ (sm : Addr) (xs' : List V) (o3 o5 o6 : Option V), σ' = [some (.ref a), some (.ref bl), some (.int c), o3, some (.ref sm), o5, o6] /\ Same H1 H' /\ H' sm = some (.lst xs') /\ xs'.length <= 300 /\ AllH K H' xs' /\ H' l2 = some (.lst ([V.int 0] ++ cutV (ns.map V.int) (some 2) (some 18))), ?_, ?_⟩
    . refine ⟨_, rfl, rfl, _, rfl, ?_⟩
      refine ite2 (fun c1 => ?_) (fun c1 => ⟨sm, xs5, _, _, _, rfl, e15, hs5, lx5, all5, e5 _ _ (e4 _ _ hl3)⟩)
      refine ⟨_, rfl, bl, _, rfl, .inl (SqL.of (e15 _ _ hbl)), fun nl hnl => ?_⟩
      have f6 := Same.new hnl (.lst xs)
      refine ⟨nl, xs, _, _, _, rfl, e15.trans f6, upd_same, by omega, fun v hv => ?_, f6 _ _ (e5 _ _ (e4 _ _ hl3))⟩
      obtain ⟨h, h1, h2, h3⟩ := hall1 v hv
      exact ⟨h, h1.same (e15.trans f6), by omega, by omega⟩
    rintro σ' H6 ⟨sm, xs6, o3, o5, o6, rfl, e6, hs6, lx6, all6, hl6⟩
    obtain ⟨hs6', hB6, hsm6⟩ := all6.bk
    have xl6 : xs6.length = hs6'.length := Paired.length hB6
    refine ⟨_, rfl, sm, _, rfl, .inl (SqL.of hs6), fun hd hhd => ?_⟩
    have f7 := Same.new hhd (.lst xs6)
    have small6 : ∀ h ∈ hs6', Small h := fun h hh => by have := hsm6 h hh; exact ⟨by omega, by omega⟩
    refine ⟨_, rfl, hd, xs6, hs6', rfl, SqL.of upd_same, Bk.same f7 hB6, by omega, small6, fun b1 H8 e8 i8 => ?_⟩
    refine ⟨_, rfl, _, _, "bool", true, rfl, .bl b1, by unfold W.kitOne; rw [if_pos (beq_self_eq_true _)], _, rfl, ?_⟩
    refine iteF ?_
    have e78 := f7.trans e8
    refine ⟨_, rfl, _, rfl, sm, xs6, hs6', rfl, SqL.of (e78 _ _ hs6), Bk.same e78 hB6, by omega, small6, fun b2 H9 e9 i9 => ⟨rfl, _, rfl, ?_⟩⟩
    have hb : b1 = b2 := by
      cases b1 <;> cases b2
      . rfl
      . exact absurd (i8.mpr (i9.mp rfl)) (by decide)
      . exact absurd (i9.mpr (i8.mp rfl)) (by decide)
      . rfl
    subst hb
    refine iteNS rfl ?_
    have hd9 : H9 hd = some (.lst xs6) := e9 _ _ (e8 _ _ upd_same)
    have sm9 : H9 sm = some (.lst xs6) := e9 _ _ (e78 _ _ hs6)
    have B9 := Bk.same (e78.trans e9) hB6
    refine ⟨_, rfl, _, rfl, .list (hs6'.map dHouse), .list (hs6'.map dHouse), .lst (SqL.of hd9) (Bk.dps B9), .lst (SqL.of sm9) (Bk.dps B9), ?_, ?_, ?_, _, rfl, ?_⟩
    . rw [PyData.canLay0]; exact lay_book _
    . rw [PyData.canLay0]; exact lay_book _
    . refine Nat.le_trans (Nat.min_le_left _ _) ?_
      have := depth_book hs6'
      rw [PyData.depth]
      omega
    rw [eqv_refl _ (by rw [PyData.canLay0]; exact lay_book _)]
    exact iteF ⟨_, _, _, _, _, rfl, e6.trans (e78.trans e9), e9 _ _ (e78 _ _ hl6)⟩
  . rintro σ H3 ⟨o2, o3, o4, o5, o6, rfl, e3, hl3⟩
    exact q _
end
end Rim
def PySem.W.Fast.tw14848195772435364729 : Nat := 0
def PySem.W.Fast.tw13837033177764293416 : Nat := 0
def PySem.W.Fast.tw1592514794342284882 : Nat := 0
def PySem.W.Fast.tw5342063080937956202 : Nat := 0
def PySem.W.Fast.tw10835713772706396872 : Nat := 0
def PySem.W.Fast.tw17196065233857761441 : Nat := 0
def PySem.W.Fast.tw3994973871708891946 : Nat := 0
def PySem.W.Fast.tw13394876508082383815 : Nat := 0
def PySem.W.Fast.tw236180228518364879 : Nat := 0
def PySem.W.Fast.tw12888774197153016222 : Nat := 0
def PySem.W.Fast.tw1418565934241294009 : Nat := 0
def PySem.W.Fast.tw13022941056919047691 : Nat := 0
def PySem.W.Fast.tw2619258125831879256 : Nat := 0
def PySem.W.Fast.tw4394554432417365748 : Nat := 0
def PySem.W.Fast.tw1621189761184796686 : Nat := 0
def PySem.W.Fast.tw6414388580055560457 : Nat := 0
def PySem.W.Fast.tw9082925177573783710 : Nat := 0
def PySem.W.Fast.tw6958260738304754470 : Nat := 0
def PySem.W.Fast.tw12254310931364147656 : Nat := 0
def PySem.W.Fast.tw11092696791624810324 : Nat := 0
def PySem.W.Fast.tw13345958026137157978 : Nat := 0
def PySem.W.Fast.tw18207769306291030819 : Nat := 0
def PySem.W.Fast.tw14719683861375231022 : Nat := 0
def PySem.W.Fast.tw3272400175659374515 : Nat := 0
def PySem.W.Fast.tw8672049365802197074 : Nat := 0
def PySem.W.Fast.tw1764481655047675204 : Nat := 0
def PySem.W.Fast.tw2119250206580123834 : Nat := 0
def PySem.W.Fast.tw12492211320335301151 : Nat := 0
def PySem.W.Fast.tw3582427764440814446 : Nat := 0
def PySem.W.Fast.tw5607733548796042803 : Nat := 0
def PySem.W.Fast.tw12413478144434430951 : Nat := 0
def PySem.W.Fast.tw17554784400618271703 : Nat := 0
def PySem.W.Fast.tw7802131166372408578 : Nat := 0
def PySem.W.Fast.tw12746744280837924985 : Nat := 0
def PySem.W.Fast.tw17317915015155413970 : Nat := 0
def PySem.W.Fast.tw165056572806396855 : Nat := 0
def PySem.W.Fast.tw4195514065781279343 : Nat := 0
def PySem.W.Fast.tw17808755934940318710 : Nat := 0
def PySem.W.Fast.tw1774150464066122730 : Nat := 0
def PySem.W.Fast.tw10829255121017983309 : Nat := 0
def PySem.W.Fast.tw3583742008757001325 : Nat := 0
def PySem.W.Fast.tw3422784683693236934 : Nat := 0
def PySem.W.Fast.tw13366030254480089053 : Nat := 0
def PySem.W.Fast.tw6031592480711334014 : Nat := 0
def PySem.W.Fast.tw17939930796090931494 : Nat := 0
def PySem.W.Fast.tw2858531131170855021 : Nat := 0
def PySem.W.Fast.tw3704976837478729790 : Nat := 0
def PySem.W.Fast.tw12901105517867273321 : Nat := 0
def PySem.W.Fast.tw15771370167162998687 : Nat := 0
def PySem.W.Fast.tw4534198870182935962 : Nat := 0
def PySem.W.Fast.tw18200284955271967443 : Nat := 0
def PySem.W.Fast.tw11772184742381287454 : Nat := 0
namespace Rim
open PySem L2
theorem all_mk {l : W.OpenLaw} {w : World} {K : W.Frag} {h : Heap} {mg : Str -> Option Value} {fa : Addr} (X : K.In h) (G : h.Ns mainGlobals mg) (hfa : mg "law" = some (.ref fa))
    {f1 f2 f3 f4 f5 f6 f7 f8 f9 f10 f11 f12 : Addr} {od1 an1 od2 an2 od3 an3 od4 an4 od5 an5 od6 an6 od7 an7 od8 an8 od9 an9 od10 an10 od11 an11 od12 an12 : Option Addr} {sl1 sl2 sl3 sl4 sl5 sl6 sl7 sl8 sl9 sl10 sl11 sl12 : Array (Option Value)} {oc1 kV1 dc1 pm1 cd1 ct1 oc2 kV2 dc2 pm2 cd2 ct2 oc3 kV3 dc3 pm3 cd3 ct3 oc4 kV4 dc4 pm4 cd4 ct4 oc5 kV5 dc5 pm5 cd5 ct5 oc6 kV6 dc6 pm6 cd6 ct6 oc7 kV7 dc7 pm7 cd7 ct7 oc8 kV8 dc8 pm8 cd8 ct8 oc9 kV9 dc9 pm9 cd9 ct9 oc10 kV10 dc10 pm10 cd10 ct10 oc11 kV11 dc11 pm11 cd11 ct11 oc12 kV12 dc12 pm12 cd12 ct12 : Value} {tk1 tk2 tk3 : Tok}
    (a1 : W.nsIn K mainGlobals "is_whole" = some (some (.ref f1))) (l1 : K.lookup f1 = some ⟨oc1, od1, .func (W.fnOf "is_whole" "is_whole" (defArgs sIsWhole) (defBody sIsWhole) (defScope sIsWhole) .none kV1 dc1 pm1 an1 cd1 ct1), sl1⟩) (c1 : W.codeIn K cd1 "is_whole" = true) (k1 : W.keepIn K (.ref f1) = true)
    (a2 : W.nsIn K mainGlobals "are_amounts" = some (some (.ref f2))) (l2 : K.lookup f2 = some ⟨oc2, od2, .func (W.fnOf "are_amounts" "are_amounts" (defArgs sAre) (defBody sAre) (defScope sAre) .none kV2 dc2 pm2 an2 cd2 ct2), sl2⟩) (c2 : W.codeIn K cd2 "are_amounts" = true) (k2 : W.keepIn K (.ref f2) = true)
    (a3 : W.nsIn K mainGlobals "is_house" = some (some (.ref f3))) (l3 : K.lookup f3 = some ⟨oc3, od3, .func (W.fnOf "is_house" "is_house" (defArgs sHouse) (defBody sHouse) (defScope sHouse) .none kV3 dc3 pm3 an3 cd3 ct3), sl3⟩) (c3 : W.codeIn K cd3 "is_house" = true) (k3 : W.keepIn K (.ref f3) = true)
    (a4 : W.nsIn K mainGlobals "is_any_house" = some (some (.ref f4))) (l4 : K.lookup f4 = some ⟨oc4, od4, .func (W.fnOf "is_any_house" "is_any_house" (defArgs sAnyH) (defBody sAnyH) (defScope sAnyH) .none kV4 dc4 pm4 an4 cd4 ct4), sl4⟩) (c4 : W.codeIn K cd4 "is_any_house" = true) (k4 : W.keepIn K (.ref f4) = true)
    (a5 : W.nsIn K mainGlobals "is_book" = some (some (.ref f5))) (l5 : K.lookup f5 = some ⟨oc5, od5, .func (W.fnOf "is_book" "is_book" (defArgs sBook) (defBody sBook) (defScope sBook) .none kV5 dc5 pm5 an5 cd5 ct5), sl5⟩) (c5 : W.codeIn K cd5 "is_book" = true) (k5 : W.keepIn K (.ref f5) = true)
    (a6 : W.nsIn K mainGlobals "_law_cell_at" = some (some (.ref f6))) (l6 : K.lookup f6 = some ⟨oc6, od6, .func (W.fnOf "_law_cell_at" "_law_cell_at" (defArgs sCell) (defBody sCell) (defScope sCell) .none kV6 dc6 pm6 an6 cd6 ct6), sl6⟩) (c6 : W.codeIn K cd6 "_law_cell_at" = true) (k6 : W.keepIn K (.ref f6) = true)
    (a7 : W.nsIn K mainGlobals "_law_draws" = some (some (.ref f7))) (l7 : K.lookup f7 = some ⟨oc7, od7, .func (W.fnOf "_law_draws" "_law_draws" (defArgs sDraws) (defBody sDraws) (defScope sDraws) .none kV7 dc7 pm7 an7 cd7 ct7), sl7⟩) (c7 : W.codeIn K cd7 "_law_draws" = true) (k7 : W.keepIn K (.ref f7) = true)
    (a8 : W.nsIn K mainGlobals "_law_near" = some (some (.ref f8))) (l8 : K.lookup f8 = some ⟨oc8, od8, .func (W.fnOf "_law_near" "_law_near" (defArgs sNear) (defBody sNear) (defScope sNear) .none kV8 dc8 pm8 an8 cd8 ct8), sl8⟩) (c8 : W.codeIn K cd8 "_law_near" = true) (k8 : W.keepIn K (.ref f8) = true)
    (a9 : W.nsIn K mainGlobals "_law_a_book" = some (some (.ref f9))) (l9 : K.lookup f9 = some ⟨oc9, od9, .func (W.fnOf "_law_a_book" "_law_a_book" (defArgs sABook) (defBody sABook) (defScope sABook) .none kV9 dc9 pm9 an9 cd9 ct9), sl9⟩) (c9 : W.codeIn K cd9 "_law_a_book" = true) (k9 : W.keepIn K (.ref f9) = true)
    (a10 : W.nsIn K mainGlobals "_law_spoilt" = some (some (.ref f10))) (l10 : K.lookup f10 = some ⟨oc10, od10, .func (W.fnOf "_law_spoilt" "_law_spoilt" (defArgs sSpoilt) (defBody sSpoilt) (defScope sSpoilt) .none kV10 dc10 pm10 an10 cd10 ct10), sl10⟩) (c10 : W.codeIn K cd10 "_law_spoilt" = true) (k10 : W.keepIn K (.ref f10) = true)
    (a11 : W.nsIn K mainGlobals "_law_due" = some (some (.ref f11))) (l11 : K.lookup f11 = some ⟨oc11, od11, .func (W.fnOf "_law_due" "_law_due" (defArgs sDue) (defBody sDue) (defScope sDue) .none kV11 dc11 pm11 an11 cd11 ct11), sl11⟩) (c11 : W.codeIn K cd11 "_law_due" = true) (k11 : W.keepIn K (.ref f11) = true)
    (a12 : W.nsIn K mainGlobals "law" = some (some (.ref f12))) (l12 : K.lookup f12 = some ⟨oc12, od12, .func (W.fnOf "law" "law" (defArgs sLaw) (defBody sLaw) (defScope sLaw) .none kV12 dc12 pm12 an12 cd12 ct12), sl12⟩) (c12 : W.codeIn K cd12 "law" = true) (k12 : W.keepIn K (.ref f12) = true)
    (z1 : W.nsIn K mainGlobals "len" = some none)
    (z2 : W.nsIn K mainGlobals "all" = some none)
    (z3 : W.nsIn K mainGlobals "any" = some none)
    (z4 : W.nsIn K mainGlobals "max" = some none)
    (z5 : W.nsIn K mainGlobals "min" = some none)
    (z6 : W.nsIn K mainGlobals "sum" = some none)
    (z7 : W.nsIn K mainGlobals "tuple" = some none)
    (z8 : W.nsIn K mainGlobals "list" = some none)
    (z9 : W.nsIn K mainGlobals "int" = some none)
    (z10 : W.nsIn K mainGlobals "bool" = some none)
    (z11 : W.nsIn K mainGlobals "range" = some none)
    (z12 : W.nsIn K mainGlobals "isinstance" = some none)
    (y1 : W.nsIn K mainGlobals "MOST_HOUSES" = some (some (.int 16 tk1)))
    (y2 : W.nsIn K mainGlobals "MOST_KINDS" = some (some (.int 4 tk2)))
    (y3 : W.nsIn K mainGlobals "MOST_AMOUNT" = some (some (.int 1000000000 tk3)))
    : ∃ fd : FuncData, (∀ (s : Shared) (v : Value), BindsTo s fd ⟨[v], []⟩ [("script", v)]) /\ ∀ base : Heap, K.In base -> base.Ns mainGlobals mg -> FnOk l.prog w K mg base CX0 6 fa fd ["script"] (spLaw K) := by
  have e := hfa.symm.trans (W.mg_of X G a12)
  cases e
  have F1 := fun_mk (st := sIsWhole) l1 c1 k1
  have F2 := fun_mk (st := sAre) l2 c2 k2
  have F3 := fun_mk (st := sHouse) l3 c3 k3
  have F4 := fun_mk (st := sAnyH) l4 c4 k4
  have F5 := fun_mk (st := sBook) l5 c5 k5
  have F6 := fun_mk (st := sCell) l6 c6 k6
  have F7 := fun_mk (st := sDraws) l7 c7 k7
  have F8 := fun_mk (st := sNear) l8 c8 k8
  have F9 := fun_mk (st := sABook) l9 c9 k9
  have F10 := fun_mk (st := sSpoilt) l10 c10 k10
  have F11 := fun_mk (st := sDue) l11 c11 k11
  have F12 := fun_mk (st := sLaw) l12 c12 k12
  have b1 := F1.binds (ps := ["thing"]) fun _ _ _ _ _ _ us hl => match us, hl with | [_], _ => rfl
  have b2 := F2.binds (ps := ["thing", "many", "least"]) fun _ _ _ _ _ _ us hl => match us, hl with | [_, _, _], _ => rfl
  have b3 := F3.binds (ps := ["thing", "many_takes", "many_gives"]) fun _ _ _ _ _ _ us hl => match us, hl with | [_, _, _], _ => rfl
  have b4 := F4.binds (ps := ["thing"]) fun _ _ _ _ _ _ us hl => match us, hl with | [_], _ => rfl
  have b5 := F5.binds (ps := ["thing"]) fun _ _ _ _ _ _ us hl => match us, hl with | [_], _ => rfl
  have b6 := F6.binds (ps := ["script", "k"]) fun _ _ _ _ _ _ us hl => match us, hl with | [_, _], _ => rfl
  have b7 := F7.binds (ps := ["cell", "many", "base"]) fun _ _ _ _ _ _ us hl => match us, hl with | [_, _, _], _ => rfl
  have b8 := F8.binds (ps := ["house", "picks", "far"]) fun _ _ _ _ _ _ us hl => match us, hl with | [_, _, _], _ => rfl
  have b9 := F9.binds (ps := ["script", "at", "most", "far"]) fun _ _ _ _ _ _ us hl => match us, hl with | [_, _, _, _], _ => rfl
  have b10 := F10.binds (ps := ["book", "picks"]) fun _ _ _ _ _ _ us hl => match us, hl with | [_, _], _ => rfl
  have b11 := F11.binds (ps := ["book"]) fun _ _ _ _ _ _ us hl => match us, hl with | [_], _ => rfl
  have T : Nones mg := ⟨W.mg_none_of X G z1, W.mg_none_of X G z2, W.mg_none_of X G z3, W.mg_none_of X G z4, W.mg_none_of X G z5, W.mg_none_of X G z6, W.mg_none_of X G z7, W.mg_none_of X G z8, W.mg_none_of X G z9, W.mg_none_of X G z10, W.mg_none_of X G z11, W.mg_none_of X G z12⟩
  have C : Consts mg := ⟨⟨_, W.mg_of X G y1⟩, ⟨_, W.mg_of X G y2⟩, ⟨_, W.mg_of X G y3⟩⟩
  refine ⟨W.fnOf "law" "law" (defArgs sLaw) (defBody sLaw) (defScope sLaw) .none kV12 dc12 pm12 an12 cd12 ct12, fun s v => .of_eq rfl, fun base _ _ => ?_⟩
  have g0 := ok_iswhole (P := l.prog) (w := w) (base := base) (n := 0) F1 T
  have g1 := ok_are F2 T C g0 b1 k1 (W.mg_of X G a1)
  have g2 := ok_house F3 T g1 b2 k2 (W.mg_of X G a2)
  have g2' := ok_house F3 T (ok_are F2 T C (ok_iswhole (P := l.prog) (w := w) (base := base) (n := 1) F1 T) b1 k1 (W.mg_of X G a1)) b2 k2 (W.mg_of X G a2)
  have g25 := ok_anyh F4 T C g2 b3 k3 (W.mg_of X G a3)
  have g3 := ok_book F5 T C g2' b3 k3 (W.mg_of X G a3) g25 b4 k4 (W.mg_of X G a4)
  have g4 := ok_cell (P := l.prog) (w := w) (base := base) (n := 3) F6 T
  have g5 := ok_draws (P := l.prog) (w := w) (base := base) (n := 3) F7 T
  have g5' := ok_draws (P := l.prog) (w := w) (base := base) (n := 4) F7 T
  have g6 := ok_near (P := l.prog) (w := w) (base := base) (n := 3) F8 T
  have g7 := ok_abook F9 T g4 b6 k6 (W.mg_of X G a6) g5 b7 k7 (W.mg_of X G a7) g6 b8 k8 (W.mg_of X G a8)
  have g8 := ok_spoilt (P := l.prog) (w := w) (base := base) (n := 4) F10 T
  have g9 := ok_due (P := l.prog) (w := w) (base := base) (n := 4) F11 T
  exact ok_law F12 T ⟨g7, b9, k9, (W.mg_of X G a9)⟩ ⟨g5', b7, k7, (W.mg_of X G a7)⟩ ⟨g8, b10, k10, (W.mg_of X G a10)⟩ ⟨g3, b5, k5, (W.mg_of X G a5)⟩ ⟨g9, b11, k11, (W.mg_of X G a11)⟩
theorem walk {l : W.OpenLaw} {q : Program} {loose : List Str} {XP : (Str -> Option Value) -> Heap -> Prop} {YP : World -> Heap -> Prop} {d : DefRec} {K : Params -> W.Frag} (hn : l.most = some 63) (hdf : d.params.defaults = [])
    (hY : ∀ (w : World) (h : Heap), YP w h -> (K w.params).In h)
    (F : ∀ (w : World) (mg : Str -> Option Value) (fa : Addr) (h : Heap), (K w.params).In h -> h.Ns mainGlobals mg -> mg d.name = some (.ref fa) →
      ∃ fd : FuncData, (∀ (s : Shared) (u : Value), BindsTo s fd ⟨[u], []⟩ [("script", u)]) /\ ∀ base : Heap, (K w.params).In base -> base.Ns mainGlobals mg -> FnOk l.prog w (K w.params) mg base CX0 6 fa fd ["script"] (spLaw (K w.params))) :
    W.WalkO q loose XP YP l.row.toRowW d [] (fun f vs => PySem.call f vs) :=
  L2.walk_of (n := 63) (k := 6) (x := "script") (CX := fun _ => CX0) (sp := fun w => spLaw (K w.params)) hn (by decide) hdf ⟨rfl, by decide, by decide⟩ hY F (fun _ _ a ns hl _ hS => ⟨a, ns, rfl, hS, hl, fun _ => rfl⟩) fun _ _ _ _ _ z => z
end Rim
open PySem PySem.W PyProof.Rows
set_option maxRecDepth 100000 in
set_option maxHeartbeats 0 in
theorem PySem.Challenge.cw_rimhouse_k01_what_is_a_book_holds : PySem.Challenge.rw_rimhouse_k01_what_is_a_book.Holds := by
  w_on; o_law; k_head; (case hw => w_witness2)
  k_fill
  refine Rim.walk (l := PySem.Challenge.rw_rimhouse_k01_what_is_a_book) rfl rfl (fun w h Y => W.kIn_of Y) ?F
  case F =>
    intro w mg fa h KX G hmg
    refine' Rim.all_mk KX G hmg ?a1 ?l1 ?c1 ?k1 ?a2 ?l2 ?c2 ?k2 ?a3 ?l3 ?c3 ?k3 ?a4 ?l4 ?c4 ?k4 ?a5 ?l5 ?c5 ?k5 ?a6 ?l6 ?c6 ?k6 ?a7 ?l7 ?c7 ?k7 ?a8 ?l8 ?c8 ?k8 ?a9 ?l9 ?c9 ?k9 ?a10 ?l10 ?c10 ?k10 ?a11 ?l11 ?c11 ?k11 ?a12 ?l12 ?c12 ?k12 ?z1 ?z2 ?z3 ?z4 ?z5 ?z6 ?z7 ?z8 ?z9 ?z10 ?z11 ?z12 ?y1 ?y2 ?y3
    (case a1 => k_is); (case l1 => k_is); (case c1 => k_is); (case k1 => k_is)
    (case a2 => k_is); (case l2 => k_is); (case c2 => k_is); (case k2 => k_is)
    (case a3 => k_is); (case l3 => k_is); (case c3 => k_is); (case k3 => k_is)
    (case a4 => k_is); (case l4 => k_is); (case c4 => k_is); (case k4 => k_is)
    (case a5 => k_is); (case l5 => k_is); (case c5 => k_is); (case k5 => k_is)
    (case a6 => k_is); (case l6 => k_is); (case c6 => k_is); (case k6 => k_is)
    (case a7 => k_is); (case l7 => k_is); (case c7 => k_is); (case k7 => k_is)
    (case a8 => k_is); (case l8 => k_is); (case c8 => k_is); (case k8 => k_is)
    (case a9 => k_is); (case l9 => k_is); (case c9 => k_is); (case k9 => k_is)
    (case a10 => k_is); (case l10 => k_is); (case c10 => k_is); (case k10 => k_is)
    (case a11 => k_is); (case l11 => k_is); (case c11 => k_is); (case k11 => k_is)
    (case a12 => k_is); (case l12 => k_is); (case c12 => k_is); (case k12 => k_is)
    (case z1 => k_is)
    (case z2 => k_is)
    (case z3 => k_is)
    (case z4 => k_is)
    (case z5 => k_is)
    (case z6 => k_is)
    (case z7 => k_is)
    (case z8 => k_is)
    (case z9 => k_is)
    (case z10 => k_is)
    (case z11 => k_is)
    (case z12 => k_is)
    (case y1 => k_is)
    (case y2 => k_is)
    (case y3 => k_is)
