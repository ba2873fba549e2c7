import PyProof.Rows.All
import Wide.All
import OpenK.AllK
import Wide.FinOn
import Lean
import PyProof.EqAt
import PyProof.EqKinds
import PyProof.TupleCall
import PyProof.Rows.TmSorted
import PyProof.StrBlockL
import PyProof.Rows.StrMeet
import PySem.Challenge.RW_shapekin_k08_no_free_trees
set_option Elab.async false
set_option linter.all false
set_option maxRecDepth 100000
set_option maxHeartbeats 4000000
local macro_rules | `(tactic| omega) => `(tactic| lia)
theorem hld {p : Prop} (h : ∀ G : Prop, (p -> G) -> G) : p := h p id
namespace L2
open PySem PySem.Spec PyProof.Rows
abbrev Key := Sum Int Str
def keyIs : Key -> Value -> Bool
  | .inl k, v => Value.isInt k v
  | .inr x, v => Value.isStrOf x v
def keyH (w : World) : Key -> Int
  | .inl k => hashInt k
  | .inr x => hashStr w x
theorem keyIs_shape : ∀ {k : Key} {v : Value}, keyIs k v = true -> (∃ i t, k = Sum.inl i /\ v = Value.int i t) \/ (∃ x t, k = Sum.inr x /\ v = Value.str x t)
  | .inl i, v, h => by
    obtain ⟨t, e⟩ := Value.isInt_shape (k := i) (v := v) h; exact .inl ⟨i, t, rfl, e⟩
  | .inr x, v, h => by
    obtain ⟨t, e⟩ := Value.isStrOf_shape (x := x) (v := v) h; exact .inr ⟨x, t, rfl, e⟩
theorem keyIs_int (i : Int) (t : Tok) : keyIs (.inl i) (.int i t) = true := by simp [keyIs, Value.isInt]
theorem keyIs_str (x : Str) (t : Tok) : keyIs (.inr x) (.str x t) = true := by simp [keyIs, Value.isStrOf]
theorem key_ll (a b : Int) : decide ((Sum.inl a : Key) = Sum.inl b) = (a == b) := by
  by_cases e : a = b
  . subst e; simp
  . have h : ¬ (Sum.inl a : Key) = Sum.inl b := fun q => e (Sum.inl.inj q)
    rw [decide_eq_false h]; exact (beq_eq_false_iff_ne.mpr e).symm
theorem key_rr (a b : Str) : decide ((Sum.inr a : Key) = Sum.inr b) = decide (a = b) := by
  by_cases e : a = b
  . subst e; simp
  . have h : ¬ (Sum.inr a : Key) = Sum.inr b := fun q => e (Sum.inr.inj q)
    rw [decide_eq_false h, decide_eq_false e]
theorem key_lr (a : Int) (b : Str) : decide ((Sum.inl a : Key) = Sum.inr b) = false := decide_eq_false (fun q => nomatch q)
theorem key_rl (a : Str) (b : Int) : decide ((Sum.inr a : Key) = Sum.inl b) = false := decide_eq_false (fun q => nomatch q)
def mixKind (prog : Program) (w : World) : PySem.KeyKind prog w Key where
  is := keyIs
  hash := keyH w
  inj := fun v a b ha hb => by
    rcases keyIs_shape ha with ⟨i, t, rfl, rfl⟩ | ⟨x, t, rfl, rfl⟩
    . rcases keyIs_shape hb with ⟨j, u, rfl, e⟩ | ⟨y, u, rfl, e⟩
      . injection e with e1 _; rw [e1]
      . exact nomatch e
    . rcases keyIs_shape hb with ⟨j, u, rfl, e⟩ | ⟨y, u, rfl, e⟩
      . exact nomatch e
      . injection e with e1 _; rw [e1]
  byValue := fun k v h => by
    rcases keyIs_shape h with ⟨i, t, rfl, rfl⟩ | ⟨x, t, rfl, rfl⟩ <;> rfl
  pyHash := fun hv h => by
    rcases keyIs_shape hv with ⟨i, t, rfl, rfl⟩ | ⟨x, t, rfl, rfl⟩
    . exact wpAny_pyHash_int h
    . exact wpAny_pyHash_str h
  eqBool := fun hu hv h => by
    rcases keyIs_shape hu with ⟨i, t, rfl, rfl⟩ | ⟨x, t, rfl, rfl⟩
    . rcases keyIs_shape hv with ⟨j, u, rfl, rfl⟩ | ⟨y, u, rfl, rfl⟩
      . rw [key_ll] at h; exact wpAny_eqBool_int h
      . rw [key_lr] at h; exact SeqAt.EqAt.int_str i t y u _ _ _ _ h
    . rcases keyIs_shape hv with ⟨j, u, rfl, rfl⟩ | ⟨y, u, rfl, rfl⟩
      . rw [key_rl] at h; exact SeqAt.EqAt.str_int x t j u _ _ _ _ h
      . rw [key_rr] at h; exact wpAny_eqBool_str h
  «strs» := fun k x t v h => by
    rcases keyIs_shape h with ⟨i, u, rfl, e⟩ | ⟨y, u, rfl, e⟩
    . exact nomatch e
    . injection e with e1 _
      subst e1
      cases v <;> rfl
theorem mixKind_int (prog : Program) (w : World) (i : Int) (t : Tok) : (mixKind prog w).is (.inl i) (.int i t) = true := keyIs_int i t
theorem mixKind_str (prog : Program) (w : World) (x : Str) (t : Tok) : (mixKind prog w).is (.inr x) (.str x t) = true := keyIs_str x t
end L2
namespace L2
open PySem PySem.Spec PyProof.Rows
inductive V where
  | non | bl (b : Bool) | int (i : Int) | str (x : Str) | byt (b : Array UInt8) | flt (b : UInt64) | ref (a : Addr) | ty (n : String)
  deriving DecidableEq
def RelV : V -> Value -> Prop
  | .non, u => u = Value.none
  | .bl b, u => u = Value.bool b
  | .int i, u => ∃ t, u = Value.int i t
  | .str x, u => ∃ t, u = Value.str x t
  | .byt b, u => ∃ t, u = Value.bytes b t
  | .flt b, u => ∃ t, u = Value.float b t
  | .ref a, u => u = Value.ref a
  | .ty n, u => u = Value.type n
abbrev Vals : List V -> List Value -> Prop := Paired RelV
theorem Vals.length {xs : List V} {us : List Value} (r : Vals xs us) : xs.length = us.length := Paired.length r
theorem Vals.get : ∀ {xs : List V} {us : List Value} {i : Nat} {x : V}, Vals xs us -> xs[i]? = some x -> ∃ u, us[i]? = some u /\ RelV x u
  | _, _, _, _, .nil, e => by simp at e
  | _, _, 0, _, .cons r _, e => by simp at e; subst e; exact ⟨_, rfl, r⟩
  | _, _, i + 1, x, .cons _ t, e => by
    obtain ⟨u, h1, h2⟩ := Vals.get (i := i) (x := x) t (by simpa using e)
    exact ⟨u, by simpa using h1, h2⟩
theorem Vals.set {x : V} {u : Value} (r : RelV x u) : ∀ {xs : List V} {us : List Value} (i : Nat), Vals xs us -> Vals (xs.set i x) (us.set i u)
  | _, _, _, .nil => .nil
  | _, _, 0, .cons _ t => .cons r t
  | _, _, i + 1, .cons q t => .cons q (Vals.set r i t)
theorem Vals.append : ∀ {xs ys : List V} {us ws : List Value}, Vals xs us -> Vals ys ws -> Vals (xs ++ ys) (us ++ ws)
  | _, _, _, _, .nil, s => s
  | _, _, _, _, .cons r t, s => .cons r (Vals.append t s)
theorem Vals.take : ∀ {xs : List V} {us : List Value} (n : Nat), Vals xs us -> Vals (xs.take n) (us.take n)
  | _, _, 0, _ => .nil
  | _, _, _ + 1, .nil => .nil
  | _, _, n + 1, .cons r t => .cons r (Vals.take n t)
theorem Vals.drop : ∀ {xs : List V} {us : List Value} (n : Nat), Vals xs us -> Vals (xs.drop n) (us.drop n)
  | _, _, 0, r => r
  | _, _, _ + 1, .nil => .nil
  | _, _, n + 1, .cons _ t => Vals.drop n t
def RelO : Option V -> Option Value -> Prop
  | some v, some u => RelV v u
  | none, none => True
  | _, _ => False
def KV {κ : Type} : List (κ × V) -> List (κ × Value) -> Prop := Paired fun (p : κ × V) (q : κ × Value) => p.1 = q.1 /\ RelV p.2 q.2
def kV : Key -> V
  | .inl i => .int i
  | .inr x => .str x
inductive HO where
  /-- a list -/
  | lst (xs : List V)
  /-- a tuple (never changes) -/
  | tup (xs : List V)
  /-- a dict whose keys are ints and texts; one whose keys are tuples of ints and texts (the empty one is both) -/
  | dK (kvs : List (Key × V)) | dT (kvs : List (List Key × V))
  /-- a set of ints: its members, its size -/
  | set (S : Int -> Bool) (n : Nat)
  /-- an instance of the class at C, its dict at dx, its attributes -/
  | ins (C dx : Addr) (fs : List (Str × V))
  /-- the dict of the instance at x -/
  | own (x : Addr)
  /-- the dict of an exception -/
  | xd (fs : List (Str × V))
  /-- a bound method, f of x -/
  | met (f x : Addr)
  /-- a range object lo, lo + 1, .. below hi -/
  | rng (lo hi : Int)
  /-- a thing that is known to the object (the script; a dict while a loop walks it): read, never written while it is so -/
  | frz (o : Obj) (u : HO)
  /-- a code object's table -/
  | tbl (ps : Array Value)
  /-- any other thing, by what is true of its one object (a def of one's own: SetO a S n := HO.ext fun h => ..) -/
  | ext (φ : Heap -> Prop)
abbrev Hp := Addr -> Option HO
def upd (H : Hp) (a : Addr) (o : HO) : Hp := fun b => if b = a then some o else H b
theorem upd_same {H : Hp} {a : Addr} {o : HO} : upd H a o a = some o := by unfold upd; rw [if_pos rfl]
theorem upd_ne {H : Hp} {a b : Addr} {o : HO} (h : b ≠ a) : upd H a o b = H b := by unfold upd; rw [if_neg h]
theorem ne_of {H : Hp} {a b : Addr} {o u : HO} (h : H a = some o) (h' : H b = some u) (d : o ≠ u) : a ≠ b := by
  intro e; subst e; rw [h] at h'; exact d (Option.some.inj h')
theorem ne_of_none {H : Hp} {a b : Addr} {o : HO} (h : H a = some o) (h' : H b = none) : a ≠ b := by
  intro e; subst e; rw [h] at h'; cases h'
section
variable (P : Program) (w : World)
def ObjOk (H : Hp) (h : Heap) (a : Addr) : HO -> Prop
  | .lst xs => xs.length <= sizeLine /\ ∃ (its : List Value) (n : Nat), Vals xs its /\ h.get? a = some { cls := .type "list", data := .seq its.toArray n }
  | .tup xs => xs.length <= sizeLine /\ ∃ its : List Value, Vals xs its /\ IsTup h a its.toArray
  | .dK kvs => kvs.length <= sizeLine /\ (a == sysModules) = false /\ ∃ vs, KV kvs vs /\ h.DictOf (mixKind P w) a vs
  | .dT kvs => kvs.length <= sizeLine /\ (a == sysModules) = false /\ ∃ xs : List (List Key × Addr × Value),
      Paired (fun (p : List Key × V) (q : List Key × Addr × Value) => p.1 = q.1 /\ H q.2.1 = some (.tup (p.1.map kV)) /\ RelV p.2 q.2.2) kvs xs /\
      ∃ o es ep, h.get? a = some o /\ o.ExactDict /\ o.data = .dict es ep /\ es.toList = xs.map (entryOfKey (tupleKind (mixKind P w))) /\ (xs.map (·.1)).Nodup
  | .set S n => h.SetOf (intKind P w) a S n
  | .ins C dx fs => H dx = some (.own a) /\ fs.length <= 1000 /\ dx ≠ a /\ h.get? a = some (PySem.W.instObj C dx) /\
      ∃ mA, h.Ns1 dx mA /\ (∀ f, RelO (fs.lookup f) (mA f)) /\ PySem.Within mA (fs.map (·.1))
  | .own _ => ∃ o, h.get? a = some o
  | .xd fs => ∃ mA, h.Ns1 a mA /\ ∀ f, RelO (fs.lookup f) (mA f)
  | .rng lo hi => ∃ t u v, h.get? a = some { cls := .type "range", data := .fields #[.int lo t, .int hi u, .int 1 v] }
  | .frz o u => h.get? a = some o /\ ObjOk H h a u
  | .tbl ps => h.get? a = some { cls := .none, data := .fields ps }
  | .met f x => h.get? a = some (PySem.W.methodObj (.ref f) (.ref x))
  | .ext φ => φ h /\ (∃ o, h.get? a = some o) /\ ∀ h1 h2 : Heap, φ h1 -> (∀ o, h1.get? a = some o -> h2.get? a = some o) -> φ h2
def HOk (H : Hp) (h : Heap) : Prop := ∀ a o, H a = some o -> ObjOk P w H h a o
end
section
variable {P : Program} {w : World} {H H' : Hp} {h h' : Heap} {a : Addr} {o : HO}
theorem ObjOk.lt (x : ObjOk P w H h a o) : a < h.objs.size := by
  cases o with
  | lst xs => obtain ⟨_, _, _, _, e⟩ := x; exact Heap.lt_size e
  | tup xs => obtain ⟨_, _, _, p⟩ := x; exact p.lt
  | dK kvs => obtain ⟨_, _, _, _, o, _, _, e, _⟩ := x; exact Heap.lt_size e
  | dT kvs => obtain ⟨_, _, _, _, o, _, _, e, _⟩ := x; exact Heap.lt_size e
  | set S n => obtain ⟨o, _, _, _, e, _⟩ := x; exact Heap.lt_size e
  | ins C dx fs => obtain ⟨_, _, _, e, _⟩ := x; exact Heap.lt_size e
  | own y => obtain ⟨_, e⟩ := x; exact Heap.lt_size e
  | xd fs => obtain ⟨_, ⟨_, _, _, e, _⟩, _⟩ := x; exact Heap.lt_size e
  | rng lo hi => obtain ⟨_, _, _, e⟩ := x; exact Heap.lt_size e
  | frz ob u => obtain ⟨e, _⟩ := x; exact Heap.lt_size e
  | tbl ps => exact Heap.lt_size (show h.get? a = some _ from x)
  | met f y => exact Heap.lt_size (show h.get? a = some _ from x)
  | ext φ => obtain ⟨_, ⟨_, e⟩, _⟩ := x; exact Heap.lt_size e
theorem Paired.mapP {α β : Type} {F G : α -> β -> Prop} : ∀ {l₁ : List α} {l₂ : List β}, Paired F l₁ l₂ -> (∀ a b, F a b -> G a b) -> Paired G l₁ l₂
  | _, _, .nil, _ => .nil
  | _, _, .cons r t, f => .cons (f _ _ r) (Paired.mapP t f)
theorem ObjOk.stay (x : ObjOk P w H h a o) (k : ∀ b u, (b = a \/ H b = some (.own a)) -> h.get? b = some u -> h'.get? b = some u)
    (ho : ∀ b, H b = some (.own a) -> H' b = some (.own a)) (ht : ∀ b xs, H b = some (.tup xs) -> H' b = some (.tup xs)) : ObjOk P w H' h' a o := by
  induction o with
  | lst xs => obtain ⟨z, its, n, r, e⟩ := x; exact ⟨z, its, n, r, k _ _ (.inl rfl) e⟩
  | tup xs => obtain ⟨z, its, r, ob, e, c⟩ := x; exact ⟨z, its, r, ob, k _ _ (.inl rfl) e, c⟩
  | dK kvs => obtain ⟨z, y, vs, r, ob, es, ep, e, c⟩ := x; exact ⟨z, y, vs, r, ob, es, ep, k _ _ (.inl rfl) e, c⟩
  | dT kvs =>
    refine hld fun g_ k_ => ?_; obtain ⟨z, y, xs, r, ob, es, ep, e, c⟩ := x; refine k_ ?_; exact ⟨z, y, xs, Paired.mapP r fun p q z => ⟨z.1, ht _ _ z.2.1, z.2.2⟩, ob, es, ep, k _ _ (.inl rfl) e, c⟩
  | set S n => obtain ⟨ob, es, ep, t, e, c⟩ := x; exact ⟨ob, es, ep, t, k _ _ (.inl rfl) e, c⟩
  | ins C dx fs =>
    refine hld fun g_ k_ => ?_; obtain ⟨d, z, ne, e, mA, ⟨od, es, ep, e2, c⟩, r⟩ := x; refine k_ ?_; exact ⟨ho _ d, z, ne, k _ _ (.inl rfl) e, mA, ⟨od, es, ep, k _ _ (.inr d) e2, c⟩, r⟩
  | own y => obtain ⟨ob, e⟩ := x; exact ⟨ob, k _ _ (.inl rfl) e⟩
  | xd fs => obtain ⟨mA, ⟨od, es, ep, e, c⟩, r⟩ := x; exact ⟨mA, ⟨od, es, ep, k _ _ (.inl rfl) e, c⟩, r⟩
  | rng lo hi => obtain ⟨t, u, v, e⟩ := x; exact ⟨t, u, v, k _ _ (.inl rfl) e⟩
  | frz ob u ih => obtain ⟨e, q⟩ := x; exact ⟨k _ _ (.inl rfl) e, ih q⟩
  | tbl ps =>
    have e : h.get? a = some { cls := .none, data := .fields ps } := x
    show h'.get? a = some { cls := .none, data := .fields ps }
    exact k a _ (.inl rfl) e
  | met f y =>
    have e : h.get? a = some (PySem.W.methodObj (.ref f) (.ref y)) := x
    show h'.get? a = some (PySem.W.methodObj (.ref f) (.ref y))
    exact k a _ (.inl rfl) e
  | ext φ => obtain ⟨p, ⟨o, e⟩, st⟩ := x; exact ⟨st _ _ p fun o q => k _ _ (.inl rfl) q, ⟨o, k _ _ (.inl rfl) e⟩, st⟩
theorem HOk.lt (x : HOk P w H h) (e : H a = some o) : a < h.objs.size := (x a o e).lt
theorem HOk.fresh (x : HOk P w H h) (e : h.objs.size <= a) : H a = none := by
  cases q : H a with
  | none => rfl
  | some u => exact absurd (Nat.lt_of_lt_of_le (x.lt q) e) (Nat.lt_irrefl _)
theorem HOk.kept (x : HOk P w H h) (k : ∀ b u, h.get? b = some u -> h'.get? b = some u) : HOk P w H h' := fun a o e =>
  (x a o e).stay (fun b u _ q => k b u q) (fun _ q => q) fun _ _ q => q
theorem HOk.laid (x : HOk P w H h) (k : ∀ b u, h.get? b = some u -> h'.get? b = some u) (hp : h.objs.size <= a) (new : ObjOk P w (upd H a o) h' a o) : HOk P w (upd H a o) h' := fun b u e => by
  have hn := x.fresh hp
  by_cases hb : b = a
  . subst hb; rw [upd_same] at e; cases e; exact new
  . rw [upd_ne hb] at e
    exact (x b u e).stay (fun c v _ q => k c v q) (fun c q => by rw [upd_ne (ne_of_none q hn)]; exact q) fun c xs q => by rw [upd_ne (ne_of_none q hn)]; exact q
end
def Rd (H : Hp) (a : Addr) (u : HO) : Prop := H a = some u \/ ∃ o, H a = some (.frz o u)
theorem Rd.ok {P : Program} {w : World} {H : Hp} {h : Heap} {a : Addr} {u : HO} (r : Rd H a u) (x : HOk P w H h) : ObjOk P w H h a u := by
  rcases r with r | ⟨o, r⟩
  . exact x a u r
  . obtain ⟨_, q⟩ := x a _ r
    exact q
def Mut : Option HO -> Prop
  | some (.lst _) => True
  | some (.dK _) => True
  | some (.dT _) => True
  | some (.set _ _) => True
  | some (.ins _ _ _) => True
  | some (.ext _) => True
  | _ => False
section
variable {P : Program} {w : World} {H : Hp} {h h' : Heap} {x e : Addr} {o' : HO}
theorem HOk.write (ok : HOk P w H h) (mu : Mut (H x)) (he : e = x \/ H e = some (.own x)) (k : ∀ b u, b ≠ e -> h.get? b = some u -> h'.get? b = some u) (heo : ∃ u, h'.get? e = some u)
    (new : ObjOk P w (upd H x o') h' x o') : HOk P w (upd H x o') h' := fun b u q => by
  have nown : ∀ c y, H c = some (.own y) -> c ≠ x := fun c y r z => by subst z; rw [r] at mu; exact mu
  have ntup : ∀ c xs, H c = some (.tup xs) -> c ≠ x := fun c xs r z => by subst z; rw [r] at mu; exact mu
  by_cases hb : b = x
  . subst hb; rw [upd_same] at q; cases q; exact new
  . rw [upd_ne hb] at q
    by_cases hbe : b = e
    . have q' : H b = some (.own x) := by
        rcases he with z | z
        . exact absurd (hbe.trans z) hb
        . rw [hbe]; exact z
      rw [q] at q'; cases q'; obtain ⟨v, hv⟩ := heo; exact ⟨v, by rw [hbe]; exact hv⟩
    . refine (ok b u q).stay (fun c v hc r => k c v ?_ r) (fun c r => by rw [upd_ne (nown c b r)]; exact r) fun c xs r => by rw [upd_ne (ntup c xs r)]; exact r
      rcases hc with rfl | hc
      . exact hbe
      . rintro rfl
        rcases he with z | z
        . exact nown c b hc z
        . rw [hc] at z; cases z; exact hb rfl
end
structure Un (fs ex : List Addr) (H H' : Hp) (h h' : Heap) : Prop where
  keep : ∀ b o, h.get? b = some o -> H b = none -> b ∉ fs -> b ∉ ex -> h'.get? b = some o
  slot : ∀ b o, h.get? b = some o -> H b = none -> b ∈ fs -> b ∉ ex -> ∃ sl, h'.get? b = some { o with slots := sl }
  free : ∀ b o, h.get? b = some o -> H b = none -> b ∉ ex -> H' b = none
  there : ∀ b o, h.get? b = some o -> b ∉ ex -> ∃ o', h'.get? b = some o'
  tups : ∀ b xs, H b = some (.tup xs) -> H' b = some (.tup xs)
  frzs : ∀ b o u, H b = some (.frz o u) -> H' b = some (.frz o u)
  tbls : ∀ b ps, H b = some (.tbl ps) -> ∃ more, H' b = some (.tbl (ps ++ more))
section
variable {fs fs' ex ex' : List Addr} {H H1 H2 : Hp} {h h1 h2 h' : Heap} {a x e : Addr} {o : HO}
theorem Un.any (u : Un fs ex H H1 h h1) {b : Addr} {ob : Obj} (q : h.get? b = some ob) (n : H b = none) (hx : b ∉ ex) : ∃ sl, h1.get? b = some { ob with slots := sl } := by
  by_cases hb : b ∈ fs
  . exact u.slot b ob q n hb hx
  . exact ⟨ob.slots, u.keep b ob q n hb hx⟩
theorem Un.kept (k : ∀ b u, h.get? b = some u -> h'.get? b = some u) : Un fs ex H H h h' :=
  ⟨fun b ob q _ _ _ => k b ob q, fun b ob q _ _ _ => ⟨ob.slots, k b ob q⟩, fun _ _ _ n _ => n, fun b ob q _ => ⟨ob, k b ob q⟩, fun _ _ q => q, fun _ _ _ q => q, fun _ ps q => ⟨#[], by rw [q]; simp⟩⟩
theorem Un.refl : Un fs ex H H h h := Un.kept fun _ _ q => q
theorem Un.laid (k : ∀ b u, h.get? b = some u -> h'.get? b = some u) (hp : h.objs.size <= a) (hn : H a = none) : Un fs ex H (upd H a o) h h' where
  keep := fun b u q _ _ _ => k b u q
  slot := fun b u q _ _ _ => ⟨u.slots, k b u q⟩
  free := fun b u q n _ => by rw [upd_ne (Nat.ne_of_lt (Nat.lt_of_lt_of_le (Heap.lt_size q) hp))]; exact n
  there := fun b u q _ => ⟨u, k b u q⟩
  tups := fun b xs q => by rw [upd_ne (ne_of_none q hn)]; exact q
  frzs := fun b u xs q => by rw [upd_ne (ne_of_none q hn)]; exact q
  tbls := fun b ps q => ⟨#[], by rw [upd_ne (ne_of_none q hn), q]; simp⟩
theorem Un.write (mu : Mut (H x)) (he : e = x \/ H e = some (.own x)) (k : ∀ b u, b ≠ e -> h.get? b = some u -> h'.get? b = some u) (heo : ∃ u, h'.get? e = some u) : Un fs ex H (upd H x o) h h' := by
  have hx : ∀ b, H b = none -> b ≠ x := fun b n z => by subst z; rw [n] at mu; exact mu
  have hb : ∀ b, H b = none -> b ≠ e := fun b n z => by
    subst z
    rcases he with r | r
    . exact hx b n r
    . rw [n] at r; cases r
  have hm : ∀ b u, H b = some u -> ¬ Mut (some u) -> b ≠ x := fun b u q nm z => by subst z; rw [q] at mu; exact nm mu
  refine ⟨fun b u q n _ _ => k b u (hb b n) q, fun b u q n _ _ => ⟨u.slots, k b u (hb b n) q⟩, fun b u q n _ => by rw [upd_ne (hx b n)]; exact n, fun b u q _ => ?_,
    fun b xs q => by rw [upd_ne (hm b _ q fun z => z)]; exact q, fun b u xs q => by rw [upd_ne (hm b _ q fun z => z)]; exact q, fun b ps q => ⟨#[], by rw [upd_ne (hm b _ q fun z => z), q]; simp⟩⟩
  by_cases hbe : b = e
  . subst hbe; exact heo
  . exact ⟨u, k b u hbe q⟩
end
def trk (h : Heap) (H : Hp) : List Addr := (List.range h.objs.size).filter fun a => (H a).isSome
def hidT (h : Heap) (H : Hp) : Heap := PySem.W.hideAll h (trk h H)
theorem hidT_size (h : Heap) (H : Hp) : (hidT h H).objs.size = h.objs.size := PySem.W.hideAll_size _ _
theorem hidT_get {h : Heap} {H : Hp} {b : Addr} {o : Obj} (e : h.get? b = some o) (n : H b = none) : (hidT h H).get? b = some o :=
  PySem.W.hideAll_get _ e fun hm => by
    have q : (H b).isSome = true := (List.mem_filter.mp hm).2; rw [n] at q; simp at q
theorem of_hidT {h : Heap} {H : Hp} {b : Addr} {o : Obj} (e : (hidT h H).get? b = some o) : h.get? b = some o /\ H b = none := by
  have e' : h.get? b = some o := PySem.W.of_hideAll (trk h H) e; refine ⟨e', ?_⟩
  cases q : H b with
  | none => rfl
  | some x =>
    have hm : b ∈ trk h H := List.mem_filter.mpr ⟨List.mem_range.mpr (Heap.lt_size e'), by simp [q]⟩
    have z : (hidT h H).get? b = none := PySem.W.hideAll_none (trk h H) hm; rw [z] at e; cases e
def allNews (g h : Heap) (L : Addr) : List (Addr × Obj) := (List.range h.objs.size).filterMap fun a => if a = L \/ (g.get? a).isSome = true then none else (h.get? a).map fun o => (a, o)
def rest (g h : Heap) (L d : Addr) : List (Addr × Obj) := (allNews g h L).filter fun p => decide (p.1 ≠ d)
end L2
namespace L2
open PySem PySem.Spec PyProof.Rows
structure Mod (K : PySem.W.Frag) (mg : Str -> Option Value) (base : Heap) : Prop where
  kin : K.In base
  glob : base.Ns mainGlobals mg
  blt : ∃ mb, base.Ns builtinsNs mb /\ ∀ x : Str, x ≠ "__name__" -> mb x = bootBuiltins x
  nolimit : base.NoLimit
structure Cx where
  prog : Program
  w : World
  K : PySem.W.Frag
  mg : Str -> Option Value
  base : Heap
  A : Around
  N : List Str
  s₀ : Shared
  H₀ : Hp
  env : Env
  outer : List Env
  stack : List Env
  ex : List Addr
  fn : Str -> Bool
  calm : Bool
  pn : List (Addr × Obj)
  xe : Value -> Shared -> Prop
def frs (l : List Env) : List Addr := l.filterMap (·.frame)
abbrev Cx.fs (X : Cx) : List Addr := frs X.outer
def Vis (sc : Scope) (x : Str) : Prop := sc.names.lookup x = some .local \/ sc.names.lookup x = some .cell \/ sc.names.lookup x = some .free
def Loc (sc : Scope) (x : Str) : Prop := sc.names.lookup x = some .local \/ sc.names.lookup x = some .cell
def Look (env : Env) (h : Heap) (m : Str -> Option Value) (x : Str) (u : Value) : Prop :=
  (env.kindOf x = some .local /\ m x = some u) \/ ((env.kindOf x = some .cell \/ env.kindOf x = some .free) /\ ∃ c, env.cells.lookup x = some c /\ h.IsCell c (some u))
structure Cx.Ok (X : Cx) : Prop where
  mod : Mod X.K X.mg X.base
  kind : X.env.scope.kind = .function
  glob : X.env.globals = mainGlobals
  blt : X.env.builtins = builtinsNs
  above : X.s₀.heap.objs.size <= X.env.locals
  inj : ∀ x y c, X.env.cells.lookup x = some c -> X.env.cells.lookup y = some c -> x = y
  has : ∀ x, (X.env.kindOf x = some .cell \/ X.env.kindOf x = some .free) -> ∃ c, X.env.cells.lookup x = some c
  cab : ∀ x c, X.fn x = true -> X.env.cells.lookup x = some c -> X.s₀.heap.objs.size <= c
  hd : X.calm = true -> X.A.handled = none
  frames : X.A.frames = some X.stack
  stk : X.stack = X.outer \/ (X.stack = X.env :: X.outer /\ X.env.frame = some X.env.locals)
  exf : ∀ b ∈ X.ex, b ≠ X.env.locals /\ ∀ x c, X.env.cells.lookup x = some c -> c ≠ b
  bs : ∀ b o, X.base.get? b = some o -> X.s₀.heap.get? b = some o /\ X.H₀ b = none
  bsz : X.base.objs.size <= X.s₀.heap.objs.size
  noex : ∀ b o, X.base.get? b = some o -> b ∉ X.ex
  exfs : ∀ b ∈ X.ex, b ∉ X.fs
  funs : X.s₀.heap.FunFrames X.base X.outer
  frf : ∀ b ∈ X.fs, X.H₀ b = none
structure Inv (X : Cx) (pins : List (Addr × Obj)) (σ : List (Option V)) (H : Hp) (s : Shared) : Prop where
  ok : X.Ok
  os : s.os = X.s₀.os
  bare : AllBare s.gens
  base : Un X.fs X.ex X.H₀ H X.s₀.heap s.heap
  loc : ∃ m, s.heap.Ns X.env.locals m /\ ∀ (i : Nat) (x : Str) (v : V), X.N[i]? = some x -> σ[i]? = some (some v) -> Vis X.env.scope x -> ∃ u, RelV v u /\ Look X.env s.heap m x u
  cell : ∀ x c, X.env.cells.lookup x = some c -> ∃ v, s.heap.IsCell c v
  free : H X.env.locals = none
  freeC : ∀ x c, X.env.cells.lookup x = some c -> H c = none
  pin : ∀ p ∈ X.pn ++ pins, s.heap.get? p.1 = some p.2 /\ H p.1 = none /\ p.1 ≠ X.env.locals /\ p.1 ∉ X.fs /\ ∀ v, p.2.data ≠ .cell v
  hok : HOk X.prog X.w H s.heap
  len : σ.length = X.N.length
section
variable {X : Cx} {pins : List (Addr × Obj)} {σ : List (Option V)} {H H' : Hp} {s : Shared} {h' : Heap}
theorem Cx.Ok.nofr (ok : X.Ok) {b : Addr} {o : Obj} (e : X.base.get? b = some o) : b ∉ X.fs := fun hb => by
  have := (ok.funs.mem hb).1; rw [e] at this; cases this
theorem Inv.bs (I : Inv X pins σ H s) : ∀ b o, X.base.get? b = some o -> s.heap.get? b = some o /\ H b = none := fun b o e =>
  ⟨I.base.keep b o (I.ok.bs b o e).1 (I.ok.bs b o e).2 (I.ok.nofr e) (I.ok.noex b o e), I.base.free b o (I.ok.bs b o e).1 (I.ok.bs b o e).2 (I.ok.noex b o e)⟩
theorem Inv.bk (I : Inv X pins σ H s) : ∀ b o, X.base.get? b = some o -> s.heap.get? b = some o := fun b o e => (I.bs b o e).1
theorem Inv.mod (I : Inv X pins σ H s) : Mod X.K X.mg X.base := I.ok.mod
theorem Inv.kIn (I : Inv X pins σ H s) : X.K.In s.heap := I.ok.mod.kin.keeps I.bk
theorem Inv.nolimit (I : Inv X pins σ H s) : s.heap.NoLimit := I.ok.mod.nolimit.keeps I.bk
theorem Inv.lt (I : Inv X pins σ H s) : X.env.locals < s.heap.objs.size := let ⟨_, hn, _⟩ := I.loc; hn.lt
theorem Inv.sz (I : Inv X pins σ H s) : X.s₀.heap.objs.size <= s.heap.objs.size := Nat.le_trans I.ok.above (Nat.le_of_lt I.lt)
theorem Inv.nofs (I : Inv X pins σ H s) {a : Addr} (h : s.heap.objs.size <= a) : a ∉ X.fs := fun hb => by
  obtain ⟨_, o, ho, _⟩ := I.ok.funs.mem hb; exact absurd (Nat.lt_of_lt_of_le (Heap.lt_size ho) (Nat.le_trans I.sz h)) (Nat.lt_irrefl _)
theorem Inv.cne (I : Inv X pins σ H s) : ∀ x c, X.env.cells.lookup x = some c -> c ≠ X.env.locals := fun x c e z => by
  obtain ⟨v, o, ho, hd⟩ := I.cell x c e; refine hld fun g_ k_ => ?_; obtain ⟨m, ⟨o', es, ep, ho', hd', _⟩, _⟩ := I.loc; refine k_ ?_; rw [z, ho'] at ho; cases ho; rw [hd'] at hd; cases hd
theorem Inv.funs (I : Inv X pins σ H s) : s.heap.FunFrames X.base X.outer := by
  have all : ∀ (l : List Env), (∀ b ∈ frs l, b ∈ X.fs) -> X.s₀.heap.FunFrames X.base l -> s.heap.FunFrames X.base l := by
    intro l
    induction l with
    | nil => intro _ _; trivial
    | cons env r ih =>
      intro hs hl; refine hld fun g_ k_ => ?_; obtain ⟨hk, ⟨L, o, hf, hn, ho, hd⟩, hr⟩ := hl; refine k_ ?_; have hL : L ∈ X.fs := hs L (by unfold frs; rw [List.filterMap_cons, hf]; exact List.mem_cons_self)
      obtain ⟨sl, e⟩ := I.base.slot L o ho (I.ok.frf L hL) hL fun z => I.ok.exfs L z hL; exact ⟨hk, ⟨L, _, hf, hn, e, hd⟩, ih (fun b hb => hs b (by unfold frs; rw [List.filterMap_cons, hf]; exact List.mem_cons_of_mem _ hb)) hr⟩
  exact all X.outer (fun _ hb => hb) I.ok.funs
theorem Inv.stack (I : Inv X pins σ H s) : s.heap.FunFrames X.base X.stack := by
  rcases I.ok.stk with e | ⟨e, hf⟩
  . rw [e]; exact I.funs
  . rw [e]
    obtain ⟨m, hn, _⟩ := I.loc; refine .cons (by rw [I.ok.kind]; decide) hf hn ?_ I.funs
    exact Heap.get?_none_of_le (Nat.le_trans I.ok.bsz I.ok.above)
theorem Inv.stkSub (I : Inv X pins σ H s) : ∀ b ∈ frs X.stack, b ∈ X.env.locals :: X.fs := fun b hb => by
  rcases I.ok.stk with e | ⟨e, hf⟩
  . rw [e] at hb; exact List.mem_cons_of_mem _ hb
  . rw [e] at hb
    unfold frs at hb
    rw [List.filterMap_cons, hf] at hb; exact hb
theorem Inv.stkFree (I : Inv X pins σ H s) : ∀ b ∈ frs X.stack, H b = none := fun b hb => by
  rcases List.mem_cons.mp (I.stkSub b hb) with e | hb
  . rw [e]; exact I.free
  . obtain ⟨_, o, ho, _⟩ := I.ok.funs.mem hb
    exact I.base.free b o ho (I.ok.frf b hb) fun z => I.ok.exfs b z hb
theorem Inv.step {g' : Array GenState} {t' : Nat} {d' : Drawn} {ch : List Addr} (I : Inv X pins σ H s)
    (hch : ∀ b ∈ ch, (b ∈ X.ex \/ X.s₀.heap.objs.size <= b) /\ b ≠ X.env.locals /\ (∀ x c, X.env.cells.lookup x = some c -> c ≠ b) /\ ∀ p ∈ X.pn ++ pins, p.1 ≠ b)
    (keep : ∀ b o, b ≠ X.env.locals -> b ∉ X.fs -> b ∉ ch -> s.heap.get? b = some o -> H b = none -> h'.get? b = some o)
    (slot : ∀ b o, b ≠ X.env.locals -> b ∈ X.fs -> b ∉ ch -> s.heap.get? b = some o -> H b = none -> ∃ sl, h'.get? b = some { o with slots := sl }) (free : ∀ b o, b ∉ ch -> s.heap.get? b = some o -> H b = none -> H' b = none)
    (there : ∀ b o, b ∉ ch -> s.heap.get? b = some o -> ∃ o', h'.get? b = some o')
    (tups : ∀ b xs, H b = some (.tup xs) -> H' b = some (.tup xs)) (frzs : ∀ b o u, H b = some (.frz o u) -> H' b = some (.frz o u)) (tbls : ∀ b ps, H b = some (.tbl ps) -> ∃ more, H' b = some (.tbl (ps ++ more)))
    (ns : ∀ m, s.heap.Ns X.env.locals m -> h'.Ns X.env.locals m) (hok : HOk X.prog X.w H' h') (hg : AllBare g') :
    Inv X pins σ H' { s with heap := h', gens := g', drawn := d', toks := t' } := by
  have neL : ∀ b o, X.s₀.heap.get? b = some o -> b ≠ X.env.locals := fun b o e => Nat.ne_of_lt (Nat.lt_of_lt_of_le (Heap.lt_size e) I.ok.above)
  have neC : ∀ b o, X.s₀.heap.get? b = some o -> b ∉ X.ex -> b ∉ ch := fun b o e hx hb => by
    rcases (hch b hb).1 with z | z
    . exact hx z
    . exact absurd (Nat.lt_of_lt_of_le (Heap.lt_size e) z) (Nat.lt_irrefl _)
  have cellK : ∀ x c, X.env.cells.lookup x = some c -> ∀ v, s.heap.IsCell c v -> h'.IsCell c v := fun x c e v ⟨o, ho, hd⟩ => by
    have nch : c ∉ ch := fun z => (hch c z).2.2.1 x c e rfl
    by_cases hc : c ∈ X.fs
    . obtain ⟨sl, q⟩ := slot c o (I.cne x c e) hc nch ho (I.freeC x c e)
      exact ⟨_, q, hd⟩
    . exact ⟨o, keep c o (I.cne x c e) hc nch ho (I.freeC x c e), hd⟩
  refine ⟨I.ok, I.os, hg, ⟨fun b o e n hb hx => ?_, fun b o e n hb hx => ?_, fun b o e n hx => ?_, fun b o e hx => ?_, fun b xs e => tups b xs (I.base.tups b xs e), fun b o xs e => frzs b o xs (I.base.frzs b o xs e), fun b ps e => ?_⟩, ?_, fun x c e => ?_, ?_, fun x c e => ?_, fun p hp => ?_, hok, I.len⟩
  . exact keep b o (neL b o e) hb (neC b o e hx) (I.base.keep b o e n hb hx) (I.base.free b o e n hx)
  . obtain ⟨sl, e1⟩ := I.base.slot b o e n hb hx
    obtain ⟨sl', e2⟩ := slot b _ (neL b o e) hb (neC b o e hx) e1 (I.base.free b o e n hx); exact ⟨sl', e2⟩
  . obtain ⟨o', e1⟩ := I.base.there b o e hx
    exact free b o' (neC b o e hx) e1 (I.base.free b o e n hx)
  . obtain ⟨o', e1⟩ := I.base.there b o e hx
    exact there b o' (neC b o e hx) e1
  . obtain ⟨m1, e1⟩ := I.base.tbls b ps e
    obtain ⟨m2, e2⟩ := tbls b _ e1; exact ⟨m1 ++ m2, by rw [e2, Array.append_assoc]⟩
  . obtain ⟨m, hn, hl⟩ := I.loc
    refine ⟨m, ns m hn, fun i x v e1 e2 e3 => ?_⟩; obtain ⟨u, r, l⟩ := hl i x v e1 e2 e3; refine ⟨u, r, ?_⟩
    rcases l with l | ⟨k, c, e, z⟩
    . exact .inl l
    . exact .inr ⟨k, c, e, cellK x c e _ z⟩
  . obtain ⟨v, z⟩ := I.cell x c e
    exact ⟨v, cellK x c e v z⟩
  . obtain ⟨m, ⟨o, _, _, ho, _⟩, _⟩ := I.loc
    exact free _ o (fun z => (hch _ z).2.1 rfl) ho I.free
  . obtain ⟨v, o, ho, hd⟩ := I.cell x c e
    exact free c o (fun z => (hch c z).2.2.1 x c e rfl) ho (I.freeC x c e)
  . obtain ⟨e, n, ne, nf, d⟩ := I.pin p hp
    have nch : p.1 ∉ ch := fun z => (hch p.1 z).2.2.2 p hp rfl; exact ⟨keep p.1 p.2 ne nf nch e n, free p.1 p.2 nch e n, ne, nf, d⟩
theorem Inv.un {t' : Nat} (I : Inv X pins σ H s) (u : Un X.fs [] H H' s.heap h') (hok : HOk X.prog X.w H' h') : Inv X pins σ H' { s with heap := h', toks := t' } := by
  refine hld fun g_ k_ => ?_; obtain ⟨m, ⟨o, es, ep, ho, r⟩, _⟩ := id I.loc; refine k_ ?_; obtain ⟨sl, hL⟩ := u.any ho I.free (by simp)
  exact I.step (g' := s.gens) (d' := s.drawn) (ch := []) (fun _ z => nomatch z) (fun b o _ hb _ e n => u.keep b o e n hb (by simp)) (fun b o _ hb _ e n => u.slot b o e n hb (by simp)) (fun b o _ e n => u.free b o e n (by simp)) (fun b o _ e => u.there b o e (by simp)) u.tups u.frzs u.tbls (fun m' hm => by
    refine hld fun g_ k_ => ?_; obtain ⟨o', es', ep', ho', r'⟩ := hm; refine k_ ?_; rw [ho] at ho'; cases ho'; exact ⟨_, es', ep', hL, r'⟩) hok I.bare
theorem Inv.call {g' : Array GenState} {t' : Nat} {d' : Drawn} {ch : List Addr} (I : Inv X pins σ H s) (u : Un (frs X.stack) ch H H' s.heap h') (hok : HOk X.prog X.w H' h') (hg : AllBare g')
    (hch : ∀ b ∈ ch, (b ∈ X.ex \/ X.s₀.heap.objs.size <= b) /\ b ≠ X.env.locals /\ (∀ x c, X.env.cells.lookup x = some c -> c ≠ b) /\ ∀ p ∈ X.pn ++ pins, p.1 ≠ b) :
    Inv X pins σ H' { s with heap := h', gens := g', drawn := d', toks := t' } := by
  refine hld fun g_ k_ => ?_; obtain ⟨m, ⟨o, es, ep, ho, r⟩, _⟩ := id I.loc; refine k_ ?_; obtain ⟨sl, hL⟩ := u.any ho I.free fun z => (hch _ z).2.1 rfl
  exact I.step (ch := ch) hch (fun b o hL hb hc e n => u.keep b o e n (fun z => (List.mem_cons.mp (I.stkSub b z)).elim hL hb) hc) (fun b o _ _ hc e n => u.any e n hc) (fun b o hc e n => u.free b o e n hc) (fun b o hc e => u.there b o e hc) u.tups u.frzs u.tbls (fun m' hm => by
    refine hld fun g_ k_ => ?_; obtain ⟨o', es', ep', ho', r'⟩ := hm; refine k_ ?_; rw [ho] at ho'; cases ho'; exact ⟨_, es', ep', hL, r'⟩) hok hg
theorem Inv.turned {t' : Nat} {it : Addr} (I : Inv X pins σ H s) (k : ∀ b o, b ≠ it -> s.heap.get? b = some o -> h'.get? b = some o) (hn : H it = none) (hL : it ≠ X.env.locals)
    (h1 : it ∈ X.ex \/ X.s₀.heap.objs.size <= it) (h2 : ∀ x c, X.env.cells.lookup x = some c -> c ≠ it) (h3 : ∀ p ∈ X.pn ++ pins, p.1 ≠ it) : Inv X pins σ H { s with heap := h', toks := t' } := by
  have nit : ∀ b u, H b = some u -> b ≠ it := fun b u e z => by rw [z, hn] at e; cases e
  refine I.step (g' := s.gens) (d' := s.drawn) (ch := [it]) (fun b hb => ?_) (fun b o _ _ hc e _ => k b o (fun z => hc (by simp [z])) e) (fun b o _ _ hc e _ => ⟨o.slots, k b o (fun z => hc (by simp [z])) e⟩) (fun _ _ _ _ n => n)
    (fun b o hc e => ⟨o, k b o (fun z => hc (by simp [z])) e⟩) (fun _ _ e => e) (fun _ _ _ e => e) (fun b ps e => ⟨#[], by rw [e]; simp⟩) (fun m hm => ?_) (fun b u e => ?_) I.bare
  . have e : b = it := by simpa using hb
    subst e; exact ⟨h1, hL, h2, h3⟩
  . obtain ⟨o, es, ep, ho, r⟩ := hm
    exact ⟨o, es, ep, k _ o (Ne.symm hL) ho, r⟩
  . refine (I.hok b u e).stay (fun c v hc q => k c v ?_ q) (fun _ q => q) fun _ _ q => q
    rcases hc with z | z
    . rw [z]; exact nit b u e
    . exact nit c _ z
theorem Inv.tok (I : Inv X pins σ H s) (t : Nat) : Inv X pins σ H { s with toks := t } := I.un (h' := s.heap) (t' := t) Un.refl I.hok
theorem Inv.kept {t' : Nat} (I : Inv X pins σ H s) (k : ∀ b u, s.heap.get? b = some u -> h'.get? b = some u) : Inv X pins σ H { s with heap := h', toks := t' } := I.un (Un.kept k) (I.hok.kept k)
theorem Inv.laid {a : Addr} {o : HO} {t' : Nat} (I : Inv X pins σ H s) (k : ∀ b u, s.heap.get? b = some u -> h'.get? b = some u) (hp : s.heap.objs.size <= a) (new : ObjOk X.prog X.w (upd H a o) h' a o) :
    Inv X pins σ (upd H a o) { s with heap := h', toks := t' } := I.un (Un.laid k hp (I.hok.fresh hp)) (I.hok.laid k hp new)
theorem Inv.write {x e : Addr} {o : HO} {t' : Nat} (I : Inv X pins σ H s) (mu : Mut (H x)) (he : e = x \/ H e = some (.own x)) (k : ∀ b u, b ≠ e -> s.heap.get? b = some u -> h'.get? b = some u) (heo : ∃ u, h'.get? e = some u)
    (new : ObjOk X.prog X.w (upd H x o) h' x o) : Inv X pins σ (upd H x o) { s with heap := h', toks := t' } := I.un (Un.write mu he k heo) (I.hok.write mu he k heo new)
theorem Inv.pins_of {pins' : List (Addr × Obj)} (I : Inv X pins σ H s) (h : ∀ p ∈ pins', s.heap.get? p.1 = some p.2 /\ H p.1 = none /\ p.1 ≠ X.env.locals /\ p.1 ∉ X.fs /\ ∀ v, p.2.data ≠ .cell v) : Inv X pins' σ H s :=
  ⟨I.ok, I.os, I.bare, I.base, I.loc, I.cell, I.free, I.freeC, fun p hp => (List.mem_append.mp hp).elim (fun z => I.pin p (List.mem_append_left _ z)) (h p), I.hok, I.len⟩
theorem nodup_ix {N : List Str} (hN : N.Nodup) {i j : Nat} {x : Str} (a : N[i]? = some x) (b : N[j]? = some x) : i = j := by
  obtain ⟨h1, e1⟩ := List.getElem?_eq_some_iff.mp a; obtain ⟨h2, e2⟩ := List.getElem?_eq_some_iff.mp b; exact (List.getElem_inj hN).mp (e1.trans e2.symm)
theorem store_ok2 {M : Model} {A : Around} {E : Value -> Shared -> Prop} {i : Nat} {x : Str} {v : V} {u : Value} {Q : Unit -> Shared -> Prop} (I : Inv X pins σ H s) (hN : X.N.Nodup) (hi : X.N[i]? = some x) (hx : Loc X.env.scope x) (r : RelV v u)
    (h : ∀ s', Inv X pins (σ.set i (some v)) H s' -> (∃ a, Heap.SameBut a s.heap s'.heap /\ (a = X.env.locals \/ X.env.cells.lookup x = some a)) -> Q () s') (hf : X.fn x = true \/ X.env.scope.names.lookup x = some .local := by first | exact .inl rfl | exact .inr rfl | assumption) : wpAny M A (storeName X.env x u) Q E s := by
  obtain ⟨m, hn, hl⟩ := id I.loc; have hcls : (X.env.scope.kind == .class || (X.env.scope.kind == .module && X.env.locals != X.env.globals)) = false := by rw [I.ok.kind]; rfl
  have hiσ : i < σ.length := by rw [I.len]; exact (List.getElem?_eq_some_iff.mp hi).1
  have cne := I.cne
  have tracked : ∀ {a : Addr} {h' : Heap}, (∃ o, s.heap.get? a = some o /\ H a = none) -> Heap.SameBut a s.heap h' -> HOk X.prog X.w H h' := fun {a h'} ha hs b ob e => by
    obtain ⟨_, _, hfree⟩ := ha; refine (I.hok b ob e).stay (fun c w' hc q => (hs.2 c ?_).trans q) (fun _ q => q) fun _ _ q => q
    rintro rfl
    rcases hc with rfl | hc
    . rw [hfree] at e; cases e
    . rw [hfree] at hc; cases hc
  rcases hx with hk | hk
  . refine wpAny_storeName_local hk hn (fun h' hn' hs => ?_) hcls
    refine hld fun g_ k_ => ?_; obtain ⟨oL, _, _, hoL, _⟩ := id hn; refine k_ ?_; refine h _ ⟨I.ok, I.os, I.bare, ⟨fun b o e n hb hx => ?_, fun b o e n hb hx => ?_, I.base.free, fun b o e hx => ?_, I.base.tups, I.base.frzs, I.base.tbls⟩, ⟨_, hn', fun j y v' e1 e2 e3 => ?_⟩, fun y c e => ?_, I.free, I.freeC, fun p hp => ?_, tracked ⟨oL, hoL, I.free⟩ hs, by simpa using I.len⟩ ⟨_, hs, .inl rfl⟩
    . exact (hs.2 b (Nat.ne_of_lt (Nat.lt_of_lt_of_le (Heap.lt_size e) I.ok.above))).trans (I.base.keep b o e n hb hx)
    . obtain ⟨sl, e1⟩ := I.base.slot b o e n hb hx
      exact ⟨sl, (hs.2 b (Nat.ne_of_lt (Nat.lt_of_lt_of_le (Heap.lt_size e) I.ok.above))).trans e1⟩
    . obtain ⟨o', e1⟩ := I.base.there b o e hx
      exact ⟨o', (hs.2 b (Nat.ne_of_lt (Nat.lt_of_lt_of_le (Heap.lt_size e) I.ok.above))).trans e1⟩
    . by_cases hj : j = i
      . subst hj
        rw [hi] at e1; cases e1; rw [List.getElem?_set_self hiσ] at e2
        cases e2
        exact ⟨u, r, .inl ⟨hk, by simp⟩⟩
      . rw [List.getElem?_set_ne (Ne.symm hj)] at e2
        obtain ⟨u', r', q⟩ := hl j y v' e1 e2 e3; refine ⟨u', r', ?_⟩
        rcases q with ⟨k, e⟩ | ⟨k, c, e, z⟩
        . refine .inl ⟨k, ?_⟩
          have : y ≠ x := fun e => hj (nodup_ix hN e1 (e ▸ hi))
          simp [this, e]
        . exact .inr ⟨k, c, e, z.sameBut hs (cne y c e)⟩
    . obtain ⟨w', z⟩ := I.cell y c e
      exact ⟨w', z.sameBut hs (cne y c e)⟩
    . obtain ⟨e, n, ne, nf, d⟩ := I.pin p hp
      exact ⟨(hs.2 p.1 ne).trans e, n, ne, nf, d⟩
  . have hfn : X.fn x = true := by
      rcases hf with z | z
      . exact z
      . rw [z] at hk; cases hk
    obtain ⟨c, hc⟩ := I.ok.has x (.inl hk); obtain ⟨w', z⟩ := I.cell x c hc; refine wpAny_storeName_cell I.ok.kind hk hc z (fun h' hc' hs => ?_); obtain ⟨oc, hoc, hocd⟩ := id z; refine h { s with heap := h' } ⟨I.ok, I.os, I.bare, ⟨fun b o e n hb hx => ?_, fun b o e n hb hx => ?_, I.base.free, fun b o e hx => ?_, I.base.tups, I.base.frzs, I.base.tbls⟩, ⟨m, hn.sameBut hs (Ne.symm (cne x c hc)), fun j y v' e1 e2 e3 => ?_⟩, fun y c' e => ?_, I.free, I.freeC, fun p hp => ?_, tracked ⟨oc, hoc, I.freeC x c hc⟩ hs, by simpa using I.len⟩ ⟨c, hs, .inr hc⟩
    . exact (hs.2 b (Nat.ne_of_lt (Nat.lt_of_lt_of_le (Heap.lt_size e) (I.ok.cab x c hfn hc)))).trans (I.base.keep b o e n hb hx)
    . obtain ⟨sl, e1⟩ := I.base.slot b o e n hb hx
      exact ⟨sl, (hs.2 b (Nat.ne_of_lt (Nat.lt_of_lt_of_le (Heap.lt_size e) (I.ok.cab x c hfn hc)))).trans e1⟩
    . obtain ⟨o', e1⟩ := I.base.there b o e hx
      exact ⟨o', (hs.2 b (Nat.ne_of_lt (Nat.lt_of_lt_of_le (Heap.lt_size e) (I.ok.cab x c hfn hc)))).trans e1⟩
    . by_cases hj : j = i
      . subst hj
        rw [hi] at e1; cases e1; rw [List.getElem?_set_self hiσ] at e2
        cases e2
        exact ⟨u, r, .inr ⟨.inl hk, c, hc, hc'⟩⟩
      . rw [List.getElem?_set_ne (Ne.symm hj)] at e2
        obtain ⟨u', r', q⟩ := hl j y v' e1 e2 e3; refine ⟨u', r', ?_⟩
        rcases q with q | ⟨k, c', e, z'⟩
        . exact .inl q
        . refine .inr ⟨k, c', e, z'.sameBut hs ?_⟩
          rintro rfl
          exact hj (nodup_ix hN e1 (I.ok.inj _ _ _ e hc ▸ hi))
    . by_cases hcc : c' = c
      . subst hcc; exact ⟨_, hc'⟩
      . obtain ⟨w2, z2⟩ := I.cell y c' e
        exact ⟨w2, z2.sameBut hs hcc⟩
    . obtain ⟨e, n, ne, nf, d⟩ := I.pin p hp
      refine ⟨(hs.2 p.1 ?_).trans e, n, ne, nf, d⟩; intro q; rw [q, hoc] at e; have q' : oc = p.2 := Option.some.inj e; exact d w' (by rw [<- q']; exact hocd)
theorem store_ok {M : Model} {A : Around} {E : Value -> Shared -> Prop} {i : Nat} {x : Str} {v : V} {u : Value} {Q : Unit -> Shared -> Prop} (I : Inv X pins σ H s) (hN : X.N.Nodup) (hi : X.N[i]? = some x) (hx : Loc X.env.scope x) (r : RelV v u)
    (h : ∀ s', Inv X pins (σ.set i (some v)) H s' -> Q () s') (hf : X.fn x = true \/ X.env.scope.names.lookup x = some .local := by first | exact .inl rfl | exact .inr rfl | assumption) : wpAny M A (storeName X.env x u) Q E s :=
  store_ok2 I hN hi hx r (fun s' I' _ => h s' I') hf
theorem Inv.call' {s' : Shared} {ch : List Addr} (I : Inv X pins σ H s) (ho : s'.os = s.os) (u : Un (frs X.stack) ch H H' s.heap s'.heap) (hok : HOk X.prog X.w H' s'.heap) (hg : AllBare s'.gens)
    (hch : ∀ b ∈ ch, (b ∈ X.ex \/ X.s₀.heap.objs.size <= b) /\ b ≠ X.env.locals /\ (∀ x c, X.env.cells.lookup x = some c -> c ≠ b) /\ ∀ p ∈ X.pn ++ pins, p.1 ≠ b) : Inv X pins σ H' s' := by
  refine hld fun g_ k_ => ?_; obtain ⟨h', g', d', t', o'⟩ := s'; refine k_ ?_; have e : o' = s.os := ho; subst e; exact I.call (g' := g') (t' := t') (d' := d') u hok hg hch
end
abbrev XK := Value -> Option Addr -> Hp -> Prop
abbrev St := List (Option V)
abbrev VK := V -> Hp -> Prop
abbrev TE := St -> Hp -> VK -> Prop
abbrev TT := St -> Hp -> (Bool -> Hp -> Prop) -> Prop
abbrev TA := St -> Hp -> (List V -> Hp -> Prop) -> Prop
structure Ends where
  nx : St -> Hp -> Prop
  rt : VK
  bk : St -> Hp -> Prop := fun _ _ => False
  ct : St -> Hp -> Prop := fun _ _ => False
abbrev TS := Ends -> St -> Hp -> Prop
def EP (X : Cx) (pins : List (Addr × Obj)) (σ : St) (Q : VK) (u : Value) (s' : Shared) : Prop := ∃ v H', Inv X pins σ H' s' /\ RelV v u /\ Q v H'
def TP (X : Cx) (pins : List (Addr × Obj)) (σ : St) (Q : Bool -> Hp -> Prop) (b : Bool) (s' : Shared) : Prop := ∃ H', Inv X pins σ H' s' /\ Q b H'
def AP (X : Cx) (pins : List (Addr × Obj)) (σ : St) (Q : List V -> Hp -> Prop) (us : List Value) (s' : Shared) : Prop := ∃ vs H', Inv X pins σ H' s' /\ Vals vs us /\ Q vs H'
def SP (X : Cx) (pins : List (Addr × Obj)) (D : Ends) (f : Flow) (s' : Shared) : Prop :=
  match f with
  | .next => ∃ σ' H', Inv X pins σ' H' s' /\ D.nx σ' H'
  | .brk => ∃ σ' H', Inv X pins σ' H' s' /\ D.bk σ' H'
  | .cont => ∃ σ' H', Inv X pins σ' H' s' /\ D.ct σ' H'
  | .ret u => ∃ v σ' H', Inv X pins σ' H' s' /\ RelV v u /\ D.rt v H'
def PE (X : Cx) (e : Expr) (t : TE) : Prop :=
  ∀ (pins : List (Addr × Obj)) (s : Shared) (σ : St) (H : Hp) (Q : VK), Inv X pins σ H s -> t σ H Q -> wpAny (model X.prog X.w) X.A (eval e X.env) (EP X pins σ Q) X.xe s
def PT (X : Cx) (e : Expr) (t : TT) : Prop :=
  ∀ (pins : List (Addr × Obj)) (s : Shared) (σ : St) (H : Hp) (Q : Bool -> Hp -> Prop), Inv X pins σ H s -> t σ H Q -> wpAny (model X.prog X.w) X.A (isTrue e X.env (eval e X.env)) (TP X pins σ Q) X.xe s
def PW (X : Cx) (e : Expr) (t : TT) : Prop :=
  ∀ (whole : Sem Value) (pins : List (Addr × Obj)) (s : Shared) (σ : St) (H : Hp) (Q : Bool -> Hp -> Prop), Inv X pins σ H s -> t σ H Q -> wpAny (model X.prog X.w) X.A (isTrue e X.env whole) (TP X pins σ Q) X.xe s
theorem PW.pt {X : Cx} {e : Expr} {t : TT} (h : PW X e t) : PT X e t := h _
def PA (X : Cx) (es : List Expr) (t : TA) : Prop :=
  ∀ (pos : Pos) (pins : List (Addr × Obj)) (s : Shared) (σ : St) (H : Hp) (Q : List V -> Hp -> Prop), Inv X pins σ H s -> t σ H Q -> wpAny (model X.prog X.w) X.A (spliced (backTo pos (starEach es X.env))) (AP X pins σ Q) X.xe s
def PS (X : Cx) (st : Stmt) (t : TS) : Prop :=
  ∀ (pins : List (Addr × Obj)) (s : Shared) (σ : St) (H : Hp) (D : Ends), Inv X pins σ H s -> t D σ H -> wpAny (model X.prog X.w) X.A (exec st X.env) (SP X pins D) X.xe s
def PSs (X : Cx) (st : List Stmt) (t : TS) : Prop :=
  ∀ (pins : List (Addr × Obj)) (s : Shared) (σ : St) (H : Hp) (D : Ends), Inv X pins σ H s -> t D σ H -> wpAny (model X.prog X.w) X.A (execs st X.env) (SP X pins D) X.xe s
theorem thn {α : Type} {t : Sem α} {Q Q' : α -> Shared -> Prop} {M : Model} {A : Around} {E : Value -> Shared -> Prop} {s : Shared} (h : wpAny M A t Q E s) (hQ : ∀ a s, Q a s -> Q' a s) : wpAny M A t Q' E s := wpAny_mono h hQ fun _ _ x => x
end L2
namespace L2
open PySem PySem.Spec PyProof.Rows
section
variable {X : Cx}
inductive tVar (i : Nat) (σ : St) (H : Hp) (Q : VK) : Prop
  | mk (v : _) (z1_ : σ[i]? = some (some v)) (z2_ : Q v H) : tVar i σ H Q
def tC (v : V) : TE := fun _ H Q => Q v H
theorem pe_var {i : Nat} {x : Str} {pos : Pos} (hN : X.N[i]? = some x) (hv : Vis X.env.scope x) (hd : (x == ("__debug__" : Str)) = false := by decide) (hcd : (x == ("__classdict__" : Str)) = false := by decide) : PE X (.Name x pos) (tVar i) := by
  intro pins s σ H Q I h; obtain ⟨v, e, h⟩ := h; obtain ⟨m, hn, hl⟩ := I.loc; obtain ⟨u, r, l⟩ := hl i x v hN e hv; have fin : EP X pins σ Q u s := ⟨v, H, I, r, h⟩
  rcases l with ⟨hk, hm⟩ | ⟨hk, c, hc, hcell⟩
  . exact wpAny_Name (wpAny_loadName_local I.ok.kind hk hn hm fin) hd
  . rcases hk with hk | hk
    . exact wpAny_Name (wpAny_loadName_cell I.ok.kind hk hc hcell fin) hd
    . exact wpAny_Name (wpAny_loadName_free I.ok.kind hk hc hcell fin hcd) hd
theorem pe_int {i j pos} : PE X (.Constant (.int i) j pos) (tC (.int i)) := fun _ _ _ H _ I h => wpAny_Constant_int ⟨.int i, H, I.tok _, ⟨_, rfl⟩, h⟩
theorem pe_bl {b j pos} : PE X (.Constant (.bool b) j pos) (tC (.bl b)) := fun _ _ _ H _ I h => Constant_bool ⟨.bl b, H, I, rfl, h⟩
theorem pe_non {j pos} : PE X (.Constant .none j pos) (tC .non) := fun _ _ _ H _ I h => Constant_none ⟨.non, H, I, rfl, h⟩
theorem pe_str {x j pos} : PE X (.Constant (.str x) j pos) (tC (.str x)) := fun _ _ _ H _ I h => Calls.Constant_str ⟨.str x, H, I.tok _, ⟨_, rfl⟩, h⟩
def Gl (X : Cx) (x : Str) : Prop := X.env.kindOf x = some .globalImplicit
theorem ld_glob {E : Value -> Shared -> Prop} {pins : List (Addr × Obj)} {s : Shared} {σ : St} {H : Hp} {x : Str} {u : Value} {pos : Pos} {Q : Value -> Shared -> Prop} (I : Inv X pins σ H s) (hg : Gl X x) (hm : X.mg x = some u) (h : Q u s)
    (hd : (x == ("__debug__" : Str)) = false := by decide) : wpAny (model X.prog X.w) X.A (eval (.Name x pos) X.env) Q E s :=
  Calls.Name_function_global I.ok.kind hg (Calls.loadGlobal_global (by rw [I.ok.glob]; exact I.mod.glob.keeps I.bk) hm h) hd
theorem ld_blt {E : Value -> Shared -> Prop} {pins : List (Addr × Obj)} {s : Shared} {σ : St} {H : Hp} {x : Str} {u : Value} {pos : Pos} {Q : Value -> Shared -> Prop} (I : Inv X pins σ H s) (hg : Gl X x) (hm : X.mg x = none) (hv : bootBuiltins x = some u) (h : Q u s)
    (hn : x ≠ "__name__" := by decide) (hd : (x == ("__debug__" : Str)) = false := by decide) : wpAny (model X.prog X.w) X.A (eval (.Name x pos) X.env) Q E s := by
  obtain ⟨mb, h1, h2⟩ := I.mod.blt; exact Calls.Name_function_global I.ok.kind hg (Calls.loadGlobal_builtin (by rw [I.ok.glob]; exact I.mod.glob.keeps I.bk) hm (by rw [I.ok.blt]; exact h1.keeps I.bk) ((h2 x hn).trans hv) h) hd
theorem pe_glob {x : Str} {v : V} {u : Value} {pos : Pos} (hg : Gl X x) (hm : X.mg x = some u) (r : RelV v u) (hd : (x == ("__debug__" : Str)) = false := by decide) : PE X (.Name x pos) (tC v) :=
  fun _ _ _ H _ I h => ld_glob I hg hm ⟨v, H, I, r, h⟩ hd
theorem pe_bltn {x : Str} {v : V} {u : Value} {pos : Pos} (hg : Gl X x) (hm : X.mg x = none) (hv : bootBuiltins x = some u) (r : RelV v u) (hn : x ≠ "__name__" := by decide) (hd : (x == ("__debug__" : Str)) = false := by decide) : PE X (.Name x pos) (tC v) :=
  fun _ _ _ H _ I h => ld_blt I hg hm hv ⟨v, H, I, r, h⟩ hn hd
variable {a b : Expr} {ta tb : TE} {pos : Pos}
def PC (X : Cx) (op : CmpOp) (a b : Expr) (t : TE) : Prop :=
  ∀ (pins : List (Addr × Obj)) (s : Shared) (σ : St) (H : Hp) (Q : VK), Inv X pins σ H s -> t σ H Q ->
    wpAny (model X.prog X.w) X.A (eval a X.env) (fun v s₁ => wpAny (model X.prog X.w) X.A (eval b X.env) (fun u s₂ => wpAny (model X.prog X.w) X.A (compareOp op v u) (EP X pins σ Q) X.xe s₂) X.xe s₁) X.xe s
theorem nobehind (b : Expr) {op : CmpOp} (h : op ≠ .In) (h2 : op ≠ .NotIn) : behindInMarks op b = false := by
  have e1 : (op == CmpOp.In) = false := by cases op <;> first | rfl | exact absurd rfl h
  have e2 : (op == CmpOp.NotIn) = false := by cases op <;> first | rfl | exact absurd rfl h2
  cases b <;> simp [behindInMarks, e1, e2]
def tIsN (ta : TE) : TE := fun σ H Q => ta σ H fun x H1 => Q (.bl (decide (x = .non))) H1
def tNotN (ta : TE) : TE := fun σ H Q => ta σ H fun x H1 => Q (.bl (!decide (x = .non))) H1
theorem RelV.none_iff {x : V} {v : Value} (r : RelV x v) : (v == Value.none) = decide (x = .non) := by
  cases x with
  | non => cases r; rfl
  | bl _ => cases r; rfl
  | int _ => obtain ⟨t, rfl⟩ := r; rfl
  | str _ => obtain ⟨t, rfl⟩ := r; rfl
  | byt _ => obtain ⟨t, rfl⟩ := r; rfl
  | flt _ => obtain ⟨t, rfl⟩ := r; rfl
  | ref _ => cases r; rfl
  | ty _ => cases r; rfl
theorem pc_isN {j pos'} (ha : PE X a ta) : PC X .Is a (.Constant .none j pos') (tIsN ta) := by
  intro pins s σ H Q I h; refine thn (ha pins s σ H _ I h) fun v s1 ⟨x, H1, I1, r1, q1⟩ => ?_; exact Constant_none (is_none_gen ⟨.bl _, H1, I1, by rw [r1.none_iff]; rfl, q1⟩)
theorem pc_notN {j pos'} (ha : PE X a ta) : PC X .IsNot a (.Constant .none j pos') (tNotN ta) := by
  intro pins s σ H Q I h; refine thn (ha pins s σ H _ I h) fun v s1 ⟨x, H1, I1, r1, q1⟩ => ?_; exact Constant_none (isnot_none_gen ⟨.bl _, H1, I1, by rw [r1.none_iff]; rfl, q1⟩)
inductive isB (x : V) (H : Hp) (Q : Bool -> Hp -> Prop) : Prop
  | mk (c : Bool) (z1_ : x = .bl c) (z2_ : Q c H) : isB x H Q
def tB (t : TE) : TT := fun σ H Q => t σ H fun x H1 => isB x H1 Q
theorem pt_cmp {op : CmpOp} {t : TE} (h : PC X op a b t) (h1 : behindInMarks op b = false := by first | exact nobehind _ (by decide) (by decide) | rfl) : PT X (.Compare a [op] [b] pos) (tB t) := by
  intro pins s σ H Q I hw; refine wpAny_isTrue_Compare1 (thn (h pins s σ H _ I hw) fun v s1 h1 => thn h1 fun u s2 h2 => thn h2 fun c s3 ⟨x, H1, I1, r1, q1⟩ => ?_) h1; obtain ⟨d, rfl, q⟩ := q1
  cases r1
  exact wpAny_truthy_bool ⟨H1, I1, q⟩
theorem pt_val {e : Expr} {t : TE} (h : PE X e t) (he : ∀ whole, isTrue e X.env whole = (do let v <- whole; standAt e.pos; holding [v] (truthy v)) := by intro _; rfl) : PT X e (tB t) := by
  intro pins s σ H Q I hw; refine isTrue_plain (thn (h pins s σ H _ I hw) fun v s1 ⟨x, H1, I1, r1, q1⟩ => ?_) (he _); obtain ⟨d, rfl, q⟩ := q1
  cases r1
  exact wpAny_truthy_bool ⟨H1, I1, q⟩
variable {tA tB' : TT} {rest : List Expr}
def tAnd (t u : TT) : TT := fun σ H Q => t σ H fun c H1 => if c = true then u σ H1 Q else Q false H1
def tOr (t u : TT) : TT := fun σ H Q => t σ H fun c H1 => if c = true then Q true H1 else u σ H1 Q
def tNot (t : TT) : TT := fun σ H Q => t σ H fun c H1 => Q (!c) H1
theorem pw_and1 (ha : PT X a tA) : PW X (.BoolOp .And [a] pos) tA := by
  intro wh pins s σ H Q I h; refine isTrue_and (thn (ha pins s σ H Q I h) fun c s1 e => ?_)
  cases c with
  | true => exact isTrue_and_nil e
  | false => exact e
theorem pw_or1 (ha : PT X a tA) : PW X (.BoolOp .Or [a] pos) tA := by
  intro wh pins s σ H Q I h; refine isTrue_or (thn (ha pins s σ H Q I h) fun c s1 e => ?_)
  cases c with
  | false => exact isTrue_or_nil e
  | true => exact e
theorem pw_and (ha : PT X a tA) (hb : PW X (.BoolOp .And (b :: rest) pos) tB') : PW X (.BoolOp .And (a :: b :: rest) pos) (tAnd tA tB') := by
  intro wh pins s σ H Q I h; refine isTrue_and (thn (ha pins s σ H _ I h) fun c s1 ⟨H1, I1, q1⟩ => ?_)
  cases c with
  | true => exact hb wh pins s1 σ H1 Q I1 q1
  | false => exact ⟨H1, I1, q1⟩
theorem pw_or (ha : PT X a tA) (hb : PW X (.BoolOp .Or (b :: rest) pos) tB') : PW X (.BoolOp .Or (a :: b :: rest) pos) (tOr tA tB') := by
  intro wh pins s σ H Q I h; refine isTrue_or (thn (ha pins s σ H _ I h) fun c s1 ⟨H1, I1, q1⟩ => ?_)
  cases c with
  | true => exact ⟨H1, I1, q1⟩
  | false => exact hb wh pins s1 σ H1 Q I1 q1
theorem pt_not (ha : PT X a tA) : PT X (.UnaryOp .Not a pos) (tNot tA) := by
  intro pins s σ H Q I h; exact isTrue_not (ha pins s σ H (fun c H1 => Q (!c) H1) I h)
def tAndV (ta tb : TE) : TE := fun σ H Q => ta σ H fun x H1 => isB x H1 fun c H2 => if c = true then tb σ H2 Q else Q (.bl false) H2
def tNotV (ta : TE) : TE := fun σ H Q => ta σ H fun x H1 => isB x H1 fun c H2 => Q (.bl (!c)) H2
theorem pe_one {op} {t : TE} (h : PE X a t) : PE X (.BoolOp op [a] pos) t := fun pins s σ H Q I hw => BoolOp_one (h pins s σ H Q I hw)
theorem pe_and (ha : PE X a ta) (hb : PE X (.BoolOp .And (b :: rest) pos) tb) : PE X (.BoolOp .And (a :: b :: rest) pos) (tAndV ta tb) := by
  intro pins s σ H Q I h; refine BoolOp_and (thn (ha pins s σ H _ I h) fun v s1 ⟨x, H1, I1, r1, q1⟩ => ?_); obtain ⟨c, rfl, q1⟩ := q1
  cases r1
  refine wpAny_truthy_bool ?_
  cases c with
  | true => exact hb pins s1 σ H1 Q I1 q1
  | false => exact ⟨.bl false, H1, I1, rfl, q1⟩
theorem pe_not (ha : PE X a ta) : PE X (.UnaryOp .Not a pos) (tNotV ta) := by
  intro pins s σ H Q I h; refine UnaryOp_ (thn (ha pins s σ H _ I h) fun v s1 ⟨x, H1, I1, r1, q1⟩ => ?_); obtain ⟨c, rfl, q1⟩ := q1
  cases r1
  exact not_of (wpAny_truthy_bool ⟨.bl (!c), H1, I1, rfl, q1⟩)
def tIf (t : TT) (ta tb : TE) : TE := fun σ H Q => t σ H fun c H1 => if c = true then ta σ H1 Q else tb σ H1 Q
theorem pe_ifExp {c : Expr} (hc : PT X c tA) (ha : PE X a ta) (hb : PE X b tb) : PE X (.IfExp c a b pos) (tIf tA ta tb) := by
  intro pins s σ H Q I h; refine wpAny_IfExp (thn (hc pins s σ H _ I h) fun d s1 ⟨H1, I1, q1⟩ => ?_)
  cases d with
  | true => exact ha pins s1 σ H1 Q I1 q1
  | false => exact hb pins s1 σ H1 Q I1 q1
end
end L2
namespace L2
open PySem PySem.Spec PyProof.Rows
def SqL (K : PySem.W.Frag) (H : Hp) (a : Addr) (xs : List V) : Prop :=
  Rd H a (.lst xs) \/
    ∃ (o : Obj) (its : Array Value) (n : Nat), K.lookup a = some o /\ o.cls = .type "list" /\ o.dict = none /\ o.data = .seq its n /\ its.size <= sizeLine /\ Vals xs its.toList
def SqT (K : PySem.W.Frag) (H : Hp) (a : Addr) (xs : List V) : Prop :=
  Rd H a (.tup xs) \/
    ∃ (o : Obj) (its : Array Value) (n : Nat), K.lookup a = some o /\ o.cls = .type "tuple" /\ o.data = .seq its n /\ its.size <= sizeLine /\ Vals xs its.toList
def absV : Value -> Option V
  | .none => some .non
  | .bool b => some (.bl b)
  | .int i _ => some (.int i)
  | .str x _ => some (.str x)
  | .bytes b _ => some (.byt b)
  | .float b _ => some (.flt b)
  | .ref a => some (.ref a)
  | .type n => some (.ty n)
  | _ => none
theorem RelV.abs {x : V} {u : Value} (r : RelV x u) : absV u = some x := by
  cases x with
  | non => cases r; rfl
  | bl _ => cases r; rfl
  | int _ => obtain ⟨t, rfl⟩ := r; rfl
  | str _ => obtain ⟨t, rfl⟩ := r; rfl
  | byt _ => obtain ⟨t, rfl⟩ := r; rfl
  | flt _ => obtain ⟨t, rfl⟩ := r; rfl
  | ref _ => cases r; rfl
  | ty _ => cases r; rfl
theorem RelV.inj {x y : V} {u : Value} (r : RelV x u) (q : RelV y u) : x = y := Option.some.inj (r.abs.symm.trans q.abs)
theorem Vals.inj : ∀ {xs ys : List V} {us : List Value}, Vals xs us -> Vals ys us -> xs = ys
  | _, _, _, .nil, .nil => rfl
  | _, _, _, .cons r t, .cons r' t' => by rw [r.inj r', Vals.inj t t']
section
variable {X : Cx} {pins : List (Addr × Obj)} {σ : St} {H : Hp} {s : Shared} {a : Addr} {xs ys : List V}
theorem SqL.of {K : PySem.W.Frag} (h : H a = some (.lst xs)) : SqL K H a xs := .inl (.inl h)
theorem SqT.of {K : PySem.W.Frag} (h : H a = some (.tup xs)) : SqT K H a xs := .inl (.inl h)
theorem Inv.list (I : Inv X pins σ H s) (h : SqL X.K H a xs) : ∃ its : List Value, Vals xs its /\ PlainL s.heap a its.toArray /\ xs.length <= sizeLine := by
  rcases h with h | ⟨o, its, n, hk, hc, hd, hs, hz, r⟩
  . obtain ⟨z, its, n, r, e⟩ := h.ok I.hok
    exact ⟨its, r, ⟨_, n, e, rfl, rfl, rfl⟩, z⟩
  . refine ⟨its.toList, r, ⟨o, n, I.kIn a o hk, hc, hd, by simpa using hs⟩, ?_⟩
    have e := r.length
    simp only [Array.length_toList] at e
    omega
theorem Inv.tuple (I : Inv X pins σ H s) (h : SqT X.K H a xs) : ∃ its : List Value, Vals xs its /\ IsTup s.heap a its.toArray /\ xs.length <= sizeLine := by
  rcases h with h | ⟨o, its, n, hk, hc, hs, hz, r⟩
  . obtain ⟨z, its, r, p⟩ := h.ok I.hok
    exact ⟨its, r, p, z⟩
  . refine ⟨its.toList, r, ⟨o, I.kIn a o hk, hc, n, by simpa using hs⟩, ?_⟩
    have e := r.length
    simp only [Array.length_toList] at e
    omega
theorem Inv.list_inj (I : Inv X pins σ H s) (h : SqL X.K H a xs) (h' : SqL X.K H a ys) : xs = ys := by
  refine hld fun g_ k_ => ?_; obtain ⟨its, r, ⟨o, n, e, _, _, d⟩, _⟩ := I.list h; refine k_ ?_; refine hld fun g_ k_ => ?_; obtain ⟨its', r', ⟨o', n', e', _, _, d'⟩, _⟩ := I.list h'; refine k_ ?_; rw [e] at e'; cases e'; rw [d] at d'
  injection d' with d1 _
  have : its = its' := by simpa using congrArg Array.toList d1
  subst this; exact r.inj r'
end
abbrev Cx.wish (X : Cx) (E : Value -> Shared -> Prop) : Cx := { X with xe := E }
abbrev Cx.nox (X : Cx) : Cx := X.wish fun _ _ => False
theorem Cx.Ok.wish {X : Cx} (ok : X.Ok) (E : Value -> Shared -> Prop) : (X.wish E).Ok :=
  ⟨ok.mod, ok.kind, ok.glob, ok.blt, ok.above, ok.inj, ok.has, ok.cab, ok.hd, ok.frames, ok.stk, ok.exf, ok.bs, ok.bsz, ok.noex, ok.exfs, ok.funs, ok.frf⟩
theorem Cx.Ok.unwish {X : Cx} {E : Value -> Shared -> Prop} (ok : (X.wish E).Ok) : X.Ok :=
  ⟨ok.mod, ok.kind, ok.glob, ok.blt, ok.above, ok.inj, ok.has, ok.cab, ok.hd, ok.frames, ok.stk, ok.exf, ok.bs, ok.bsz, ok.noex, ok.exfs, ok.funs, ok.frf⟩
section
variable {X : Cx} {pins : List (Addr × Obj)} {σ : St} {H : Hp} {s : Shared} {E : Value -> Shared -> Prop}
theorem Inv.wish (I : Inv X pins σ H s) (E : Value -> Shared -> Prop) : Inv (X.wish E) pins σ H s := ⟨I.ok.wish E, I.os, I.bare, I.base, I.loc, I.cell, I.free, I.freeC, I.pin, I.hok, I.len⟩
theorem Inv.unwish (I : Inv (X.wish E) pins σ H s) : Inv X pins σ H s := ⟨I.ok.unwish, I.os, I.bare, I.base, I.loc, I.cell, I.free, I.freeC, I.pin, I.hok, I.len⟩
theorem SP.unwish {D : Ends} {f : Flow} {s' : Shared} (h : SP (X.wish E) pins D f s') : SP X pins D f s' := by
  cases f with
  | next => obtain ⟨σ', H', I, q⟩ := h; exact ⟨σ', H', I.unwish, q⟩
  | brk => obtain ⟨σ', H', I, q⟩ := h; exact ⟨σ', H', I.unwish, q⟩
  | cont => obtain ⟨σ', H', I, q⟩ := h; exact ⟨σ', H', I.unwish, q⟩
  | ret u => obtain ⟨v, σ', H', I, r, q⟩ := h; exact ⟨v, σ', H', I.unwish, r, q⟩
theorem PSs.nox {st : List Stmt} {t : TS} (h : PSs X.nox st t) : PSs X st t := fun pins s σ H D I hw =>
  wpAny_mono (h pins s σ H D (I.wish _) hw) (fun _ _ q => q.unwish) fun _ _ z => False.elim z
end
section
variable {X : Cx} {st : Stmt} {rest : List Stmt} {t u : TS} {e : Expr} {te : TE} {pos : Pos}
def tNext : TS := fun D σ H => D.nx σ H
def tSeq (t u : TS) : TS := fun D σ H => t { D with nx := u D } σ H
theorem pss_nil : PSs X [] tNext := fun _ _ σ H _ I h => wpAny_execs_nil ⟨σ, H, I, h⟩
theorem pss_cons (h1 : PS X st t) (h2 : PSs X rest u) : PSs X (st :: rest) (tSeq t u) := by
  intro pins s σ H D I h; refine wpAny_execs_cons (thn (h1 pins s σ H { D with nx := u D } I h) fun f s1 q => ?_)
  cases f with
  | next =>
    obtain ⟨σ', H', I', q⟩ := q; exact h2 pins s1 σ' H' D I' q
  | ret v => exact q
  | brk => exact q
  | cont => exact q
theorem pss_one (h1 : PS X st t) : PSs X [st] t := by
  intro pins s σ H D I h; refine wpAny_execs_cons (thn (h1 pins s σ H D I h) fun f s1 q => ?_)
  cases f with
  | next => exact wpAny_execs_nil q
  | ret v => exact q
  | brk => exact q
  | cont => exact q
theorem Inv.quiet {pins : List (Addr × Obj)} {σ : St} {H : Hp} {s : Shared} (I : Inv X pins σ H s) : interactive X.env = false := by simp [interactive, I.ok.kind]
def tDrop (te : TE) : TS := fun D σ H => te σ H fun _ H1 => D.nx σ H1
theorem ps_expr (he : PE X e te) (hs : swapsWith e none pos.line X.env = pure false := by rfl) : PS X (.Expr e pos) (tDrop te) := by
  intro pins s σ H D I h; exact wpAny_Expr_any (thn (he pins s σ H _ I h) fun v s1 ⟨x, H1, I1, r1, q1⟩ => ⟨σ, H1, I1, q1⟩) I.quiet hs
def tRet (te : TE) : TS := fun D σ H => te σ H D.rt
theorem ps_ret (he : PE X e te) : PS X (.Return (some e) pos) (tRet te) := by
  intro pins s σ H D I h; exact wpAny_Return_some (thn (he pins s σ H _ I h) fun v s1 ⟨x, H1, I1, r1, q1⟩ => ⟨x, σ, H1, I1, r1, q1⟩)
def tIfS (c : TT) (t u : TS) : TS := fun D σ H => c σ H fun b H1 => if b = true then t D σ H1 else u D σ H1
theorem ps_if {c : Expr} {a b : List Stmt} {tc : TT} (hc : PT X c tc) (ha : PSs X a t) (hb : PSs X b u) : PS X (.If c a b pos) (tIfS tc t u) := by
  intro pins s σ H D I h; refine wpAny_If (thn (hc pins s σ H _ I h) fun d s1 ⟨H1, I1, q1⟩ => ?_)
  cases d with
  | true => exact ha pins s1 σ H1 D I1 q1
  | false => exact hb pins s1 σ H1 D I1 q1
def tNever : TS := fun _ _ _ => False
theorem pss_never {sts : List Stmt} : PSs X sts tNever := fun _ _ _ _ _ _ h => h.elim
end
abbrev TG := V -> St -> Hp -> (St -> Hp -> Prop) -> Prop
abbrev TGs := List V -> St -> Hp -> (St -> Hp -> Prop) -> Prop
def PG (X : Cx) (target : Expr) (t : TG) : Prop :=
  ∀ (pins : List (Addr × Obj)) (s : Shared) (σ : St) (H : Hp) (v : V) (u : Value) (Q : St -> Hp -> Prop), Inv X pins σ H s -> RelV v u -> t v σ H Q ->
    wpAny (model X.prog X.w) X.A (assign target X.env u) (fun _ s' => ∃ σ' H', Inv X pins σ' H' s' /\ Q σ' H') X.xe s
def PGs (X : Cx) (ts : List Expr) (t : TGs) : Prop :=
  ∀ (pins : List (Addr × Obj)) (s : Shared) (σ : St) (H : Hp) (vs : List V) (us : List Value) (Q : St -> Hp -> Prop), Inv X pins σ H s -> Vals vs us -> t vs σ H Q ->
    wpAny (model X.prog X.w) X.A (assignInOrder ((assignEach ts X.env).map (·.2)) us) (fun _ s' => ∃ σ' H', Inv X pins σ' H' s' /\ Q σ' H') X.xe s
abbrev TSet := V -> V -> V -> Hp -> (Hp -> Prop) -> Prop
def PSet (X : Cx) (t : TSet) : Prop :=
  ∀ (pins : List (Addr × Obj)) (s : Shared) (σ : St) (H : Hp) (o i v : V) (ov iv u : Value) (Q : Hp -> Prop), Inv X pins σ H s -> RelV o ov -> RelV i iv -> RelV v u -> t o i v H Q ->
    wpAny (model X.prog X.w) X.A (setItem ov iv u) (fun _ s' => ∃ H', Inv X pins σ H' s' /\ Q H') X.xe s
section
variable {X : Cx} {pos : Pos}
def gName (i : Nat) : TG := fun v σ H Q => Q (σ.set i (some v)) H
theorem pg_name {i : Nat} {x : Str} (hN : X.N.Nodup) (hi : X.N[i]? = some x) (hx : Loc X.env.scope x) (hf : X.fn x = true \/ X.env.scope.names.lookup x = some .local := by first | exact .inl rfl | exact .inr rfl | assumption) : PG X (.Name x pos) (gName i) := by
  intro pins s σ H v u Q I r h; exact wpAny_assign_Name (store_ok I hN hi hx r (fun s' I' => ⟨_, H, I', h⟩) hf)
inductive gNil (vs : (List V)) (σ : St) (H : Hp) (Q : (St -> Hp -> Prop)) : Prop
  | mk (z1_ : vs = []) (z2_ : Q σ H) : gNil vs σ H Q
inductive gCons (t : TG) (u : TGs) (vs : (List V)) (σ : St) (H : Hp) (Q : (St -> Hp -> Prop)) : Prop
  | mk (v : _) (r : _) (z1_ : vs = v :: r) (z2_ : t v σ H fun σ' H' => u r σ' H' Q) : gCons t u vs σ H Q
theorem pgs_nil : PGs X [] gNil := by
  intro pins s σ H vs us Q I r h; obtain ⟨e, h⟩ := h; subst e
  cases r
  exact assignInOrder_nil ⟨σ, H, I, h⟩
theorem pgs_cons {e : Expr} {es : List Expr} {t : TG} {u : TGs} (h1 : PG X e t) (h2 : PGs X es u)
    (hs : (assignEach (e :: es) X.env).map (·.2) = assign e X.env :: (assignEach es X.env).map (·.2) := by rfl) : PGs X (e :: es) (gCons t u) := by
  intro pins s σ H vs us Q I r h; obtain ⟨v, vr, e1, h⟩ := h; subst e1
  cases r with
  | cons r rr =>
    rw [hs]; refine assignInOrder_cons (thn (h1 pins s σ H _ _ _ I r h) fun _ s1 ⟨σ1, H1, I1, q1⟩ => ?_); exact h2 pins s1 σ1 H1 _ _ Q I1 rr q1
inductive gTup (K : PySem.W.Frag) (n : Nat) (t : TGs) (v : V) (σ : St) (H : Hp) (Q : (St -> Hp -> Prop)) : Prop
  | mk (a : _) (xs : _) (z1_ : v = .ref a) (z2_ : SqT K H a xs) (z3_ : xs.length = n) (z4_ : t xs σ H Q) : gTup K n t v σ H Q
theorem pg_tup {es : List Expr} {k : Nat} {t : TGs} {n : Nat} (hc : X.calm = true) (h : PGs X es t)
    (hn : (assignEach es X.env).length = n := by rfl) (hst : (assignEach es X.env).findIdx? (·.1) = none := by rfl) : PG X (.Tuple es k pos) (gTup X.K n t) := by
  intro pins s σ H v u Q I r hw; refine hld fun g_ k_ => ?_; obtain ⟨a, xs, e1, hq, hl, hw⟩ := hw; refine k_ ?_; subst e1
  cases r
  obtain ⟨its, rv, ht, hz⟩ := I.tuple hq; refine assign_Tuple_tuple (I.ok.hd hc) ht (by simp [hn, <- hl, rv.length]) hst fun h' hx => ?_
  have I1 : Inv X pins σ H { s with heap := h' } := I.kept (t' := s.toks) fun b o e => hx b o (Nat.ne_of_lt (Heap.lt_size e)) e
  exact h pins _ σ H xs _ Q I1 (by simpa using rv) hw
def gSub (to ti : TE) (t : TSet) : TG := fun v σ H Q => to σ H fun o H1 => ti σ H1 fun i H2 => t o i v H2 fun H3 => Q σ H3
theorem pg_sub {o i : Expr} {to ti : TE} {t : TSet} (ho : PE X o to) (hi : PE X i ti) (hs : PSet X t)
    (ha : ∀ v, assign (.Subscript o i pos) X.env v = (do
      let ov <- holding [v] (eval o X.env)
      let iv <- holding [v, ov] (eval i X.env)
      standAt pos
      holding [v, ov, iv] (setItem ov iv v)
      release [v, ov, iv] []) := by intro _; rfl) : PG X (.Subscript o i pos) (gSub to ti t) := by
  intro pins s σ H v u Q I r h; rw [ha]; refine wpAny_bind (wpAny_holding (thn (ho pins s σ H _ I h) fun ov s1 ⟨x, H1, I1, r1, q1⟩ => ?_)); refine wpAny_bind (wpAny_holding (thn (hi pins s1 σ H1 _ I1 q1) fun iv s2 ⟨y, H2, I2, r2, q2⟩ => ?_)); refine wpAny_bind (wpAny_standAt (wpAny_bind (wpAny_holding (thn (hs pins s2 σ H2 x y v ov iv u _ I2 r1 r2 r q2) fun _ s3 ⟨H3, I3, q3⟩ => ?_)))); exact wpAny_release ⟨σ, H3, I3, q3⟩
def tAsg (te : TE) (g : TG) : TS := fun D σ H => te σ H fun x H1 => g x σ H1 D.nx
theorem ps_asg {tg e : Expr} {te : TE} {g : TG} (he : PE X e te) (hg : PG X tg g) (hs : swapsWithSole [tg] e pos.line X.env = pure false := by rfl) (hw : swappedStores [tg] e X.env = pure none := by rfl)
    (h1 : (assignEach [tg] X.env).map (·.2) = [assign tg X.env] := by rfl) : PS X (.Assign [tg] e pos) (tAsg te g) := by
  intro pins s σ H D I h; refine wpAny_Assign_stores (thn (he pins s σ H _ I h) fun v s1 ⟨x, H1, I1, r1, q1⟩ => ?_) hs hw; rw [h1]; exact thn (hg pins s1 σ H1 x v _ I1 r1 q1) fun _ s2 q => q
theorem ps_set {i : Nat} {x : Str} {e : Expr} {te : TE} {pos' : Pos} (hN : X.N.Nodup) (hi : X.N[i]? = some x) (hx : Loc X.env.scope x) (he : PE X e te) (hs : swapsWith e (some (.Name x pos')) pos.line X.env = pure false := by rfl) (hf : X.fn x = true \/ X.env.scope.names.lookup x = some .local := by first | exact .inl rfl | exact .inr rfl | assumption) :
    PS X (.Assign [.Name x pos'] e pos) (tAsg te (gName i)) := by
  intro pins s σ H D I h; refine wpAny_Assign_Name (thn (he pins s σ H _ I h) fun v s1 ⟨y, H1, I1, r1, q1⟩ => ?_) hs; exact store_ok I1 hN hi hx r1 (fun s2 I2 => ⟨_, H1, I2, q1⟩) hf
end
section
variable {X : Cx} {pos : Pos}
def tWhile (c : TT) (tb : TS) : TS := fun D σ H => ∃ W : Nat -> St -> Hp -> Prop, (∃ m, W m σ H) /\ ∀ m σ H, W m σ H ->
  c σ H fun b H1 => if b = true then ∃ N : St -> Hp -> Prop, (∀ σ' H', N σ' H' -> ∃ m', m' < m /\ W m' σ' H') /\ tb { D with nx := N, ct := N, bk := D.nx } σ H1 else D.nx σ H1
theorem ps_while {c : Expr} {body : List Stmt} {tc : TT} {tb : TS} (hp : PassesOwn (model X.prog X.w) X.A X.env X.xe) (hc : PT X c tc) (hb : PSs X body tb) : PS X (.While c body [] pos) (tWhile tc tb) := by
  intro pins s σ H D I h; obtain ⟨W, ⟨m0, w0⟩, turn⟩ := h; refine wpAny_While (codeAny_whileLoop (fun n s' => ∃ σ' H', Inv X pins σ' H' s' /\ W n σ' H') ?_ m0 ⟨σ, H, I, w0⟩)
  rintro n s1 p_
  obtain ⟨σ1, H1, I1, w1⟩ := p_; refine wpAny_passesOwn hp (thn (hc pins s1 σ1 H1 _ I1 (turn n σ1 H1 w1)) fun b s2 ⟨H2, I2, q2⟩ => ?_)
  cases b with
  | true =>
    obtain ⟨N, hN, q2⟩ := q2; rw [if_pos rfl]; refine wpAny_passesOwn hp (thn (hb pins s2 σ1 H2 _ I2 q2) fun f s3 q3 => ?_)
    cases f with
    | next =>
      obtain ⟨σ3, H3, I3, n3⟩ := q3; obtain ⟨m', hm, w3⟩ := hN σ3 H3 n3; exact ⟨m', hm, σ3, H3, I3, w3⟩
    | cont =>
      obtain ⟨σ3, H3, I3, n3⟩ := q3; obtain ⟨m', hm, w3⟩ := hN σ3 H3 n3; exact ⟨m', hm, σ3, H3, I3, w3⟩
    | brk => exact q3
    | ret v => exact q3
  | false =>
    rw [if_neg Bool.false_ne_true]; exact wpAny_execs_nil ⟨σ1, H2, I2, q2⟩
end
structure It where
  go : Nat -> Hp -> Prop
  yld : Nat -> Hp -> V -> Hp -> Prop
  stop : Nat -> Hp -> Prop
def FpOk (X : Cx) (pins : List (Addr × Obj)) (H : Hp) (b : Addr) : Prop :=
  H b = none /\ b ≠ X.env.locals /\ b ∉ X.fs /\ (b ∈ X.ex \/ X.s₀.heap.objs.size <= b) /\ (∀ x c, X.env.cells.lookup x = some c -> c ≠ b) /\ ∀ p ∈ X.pn ++ pins, p.1 ≠ b
theorem Inv.fpOk {X : Cx} {pins : List (Addr × Obj)} {σ : St} {H H' : Hp} {s : Shared} {b : Addr} (I : Inv X pins σ H s) (hb : s.heap.objs.size <= b) (hn : H' b = none) : FpOk X pins H' b := by
  refine ⟨hn, Nat.ne_of_gt (Nat.lt_of_lt_of_le I.lt hb), I.nofs hb, .inr (Nat.le_trans I.sz hb), fun x c e z => ?_, fun p hp z => ?_⟩
  . obtain ⟨v, q⟩ := I.cell x c e
    exact absurd (Nat.lt_of_lt_of_le q.lt (by rw [z]; exact hb)) (Nat.lt_irrefl _)
  . exact absurd (Nat.lt_of_lt_of_le (Heap.lt_size (I.pin p hp).1) (by rw [z]; exact hb)) (Nat.lt_irrefl _)
structure Turn (P : Program) (w : World) (K : PySem.W.Frag) (tg : Expr) (J : It) (fp : List Addr) (it : Addr) (tn : Nat -> Heap -> Prop) : Prop where
  mem : it ∈ fp
  obj : ∀ i h, tn i h -> ∀ b ∈ fp, ∃ o, h.get? b = some o /\ ∀ v, o.data ≠ .cell v
  keep : ∀ i h h', tn i h -> (∀ b ∈ fp, ∀ o, h.get? b = some o -> h'.get? b = some o) -> tn i h'
  item : ∀ (X : Cx), X.prog = P -> X.w = w -> X.K = K -> X.calm = true -> ∀ (i : Nat) (pins : List (Addr × Obj)) (s : Shared) (σ : St) (H : Hp) (E : Value -> Shared -> Prop), Inv X pins σ H s -> (∀ b ∈ fp, FpOk X pins H b) -> tn i s.heap -> J.go i H ->
    wpAny (model P w) X.A (pyNext (.ref it)) (fun r s1 => ∃ u, r = some u /\
      wpAny (model P w) X.A (letOwnedTupleGo tg (.ref it) u) (fun _ s2 => ∃ x H', Inv X pins σ H' s2 /\ RelV x u /\ J.yld i H x H' /\ tn (i + 1) s2.heap /\ ∀ b ∈ fp, H' b = none) E s1) E s
  done : ∀ (X : Cx), X.prog = P -> X.w = w -> X.K = K -> X.calm = true -> ∀ (i : Nat) (pins : List (Addr × Obj)) (s : Shared) (σ : St) (H : Hp) (E : Value -> Shared -> Prop), Inv X pins σ H s -> (∀ b ∈ fp, FpOk X pins H b) -> tn i s.heap -> J.stop i H ->
    wpAny (model P w) X.A (pyNext (.ref it)) (fun r s1 => r = none /\ Inv X pins σ H s1) E s
  self : ∀ (A : Around) (i : Nat) (s : Shared) (Q : Value -> Shared -> Prop) (E : Value -> Shared -> Prop), tn i s.heap -> Q (.ref it) s -> wpAny (model P w) A (pyIter (.ref it)) Q E s
abbrev TI := St -> Hp -> (It -> Hp -> Prop) -> Prop
def PIE (X : Cx) (pins : List (Addr × Obj)) (σ : St) (tg : Expr) (R : It -> Hp -> Prop) (itv : Value) (s2 : Shared) : Prop :=
  ∃ (it : Addr) (fp : List Addr) (tn : Nat -> Heap -> Prop) (J : It) (H' : Hp), itv = .ref it /\ Inv X pins σ H' s2 /\ Turn X.prog X.w X.K tg J fp it tn /\ tn 0 s2.heap /\ (∀ b ∈ fp, FpOk X pins H' b) /\ R J H'
def PI (X : Cx) (tg iter : Expr) (wi : TI) : Prop :=
  ∀ (pins : List (Addr × Obj)) (s : Shared) (σ : St) (H : Hp) (R : It -> Hp -> Prop), Inv X pins σ H s -> wi σ H R ->
    wpAny (model X.prog X.w) X.A (eval iter X.env) (fun v s1 => wpAny (model X.prog X.w) X.A (pyIter v) (PIE X pins σ tg R) X.xe s1) X.xe s
theorem go_of {M : Model} {A : Around} {E : Value -> Shared -> Prop} {s : Shared} {tg : Expr} {it : Addr} {u : Value} {o : Obj} {n : String} {vs : Array Value} {Q : Unit -> Shared -> Prop} (ho : s.heap.get? it = some o) (hc : o.cls = .type n) (hd : o.data = .fields vs)
    (hn : ["enumerate", "zip", "dict_itemiterator", "dict_reverseitemiterator", "odict_iterator", "itertools.zip_longest", "itertools.pairwise"].contains n = false) (hQ : Q () s) : wpAny M A (letOwnedTupleGo tg (.ref it) u) Q E s := by
  unfold letOwnedTupleGo
  cases tg <;> first
    | exact wpAny_pure hQ
    | (cases u <;> first
        | exact wpAny_pure hQ
        | (refine wpAny_bind (wpAny_load ho ?_)
           rw [hc, hd]
           show wpAny M A (if (["enumerate", "zip", "dict_itemiterator", "dict_reverseitemiterator", "odict_iterator", "itertools.zip_longest", "itertools.pairwise"].contains n && vs[0]? == some (rawInt _)) = true then _ else _) Q E s
           rw [if_neg (by intro h; rw [hn, Bool.false_and] at h; cases h)]
           exact wpAny_pure hQ))
def Itl (K : PySem.W.Frag) (a : Addr) : It :=
  ⟨fun i H => ∃ xs x, SqL K H a xs /\ xs[i]? = some x, fun i H x H' => H' = H /\ ∀ xs, SqL K H a xs -> xs[i]? = some x, fun i H => ∃ xs, SqL K H a xs /\ xs.length <= i⟩
def Itr (lo : Int) (n : Nat) : It := ⟨fun i _ => i < n, fun i H x H' => H' = H /\ x = .int (lo + i), fun i _ => n <= i⟩
theorem turn_list {P : Program} {w : World} {K : PySem.W.Frag} {tg : Expr} (a it : Addr) : Turn P w K tg (Itl K a) [it] it (fun i h => h.IsListIter it a i) where
  mem := by simp
  obj := fun i h st b hb => by
    have e : b = it := by simpa using hb
    subst e; obtain ⟨o, e, c, d⟩ := st; exact ⟨o, e, fun v z => by rw [d] at z; cases z⟩
  keep := fun i h h' st k => st.at fun o e => k it (by simp) o e
  item := by
    intro X hP hw hK hc i pins s σ H E I hf st hg; subst hP hw hK; obtain ⟨xs, x, hq, hx⟩ := hg; obtain ⟨its, rv, p, hz⟩ := I.list hq; obtain ⟨u, hu, ru⟩ := rv.get hx; refine hld fun g_ k_ => ?_; obtain ⟨f0, f1, f2, f3, f4, f5⟩ := hf it (by simp); refine k_ ?_
    refine wpAny_pyNext_list_item st p.isList (x := u) (by simpa using hu) fun h' st' sb => ?_
    have I1 : Inv X pins σ H { s with heap := h' } := I.turned (t' := s.toks) (fun b o hb e => (sb.2 b hb).trans e) f0 f1 f3 f4 f5
    obtain ⟨o, e, c, d⟩ := id st'; exact ⟨u, rfl, go_of (s := { s with heap := h' }) e c d (by decide) ⟨x, H, I1, ru, ⟨rfl, fun ys hy => by rw [I.list_inj hy hq]; exact hx⟩, st', fun b hb => (hf b hb).1⟩⟩
  done := by
    intro X hP hw hK hc i pins s σ H E I hf st hg; subst hP hw hK; obtain ⟨xs, hq, hx⟩ := hg; obtain ⟨its, rv, p, hz⟩ := I.list hq; refine hld fun g_ k_ => ?_; obtain ⟨f0, f1, f2, f3, f4, f5⟩ := hf it (by simp); refine k_ ?_
    have hl := rv.length; exact wpAny_pyNext_list_end (I.ok.hd hc) st p.isList (by simp; omega) fun h' eb => ⟨rfl, I.turned (t' := s.toks) (fun b o hb e => eb b o hb e) f0 f1 f3 f4 f5⟩
  self := fun _ _ _ _ _ st h => wpAny_pyIter_listiter st h
theorem turn_range {P : Program} {w : World} {K : PySem.W.Frag} {tg : Expr} (it : Addr) (lo : Int) (n : Nat) : Turn P w K tg (Itr lo n) [it] it (fun i h => IsRangeIter h it (lo + (i : Nat) * 1) ((n : Int) - (i : Nat)) 1) where
  mem := by simp
  obj := fun i h st b hb => by
    have e : b = it := by simpa using hb
    subst e
    exact ⟨_, st, fun v z => by
      have z' : Data.fields _ = Data.cell v := z
      cases z'⟩
  keep := fun i h h' st k => k it (by simp) _ st
  item := by
    intro X hP hw hK hc i pins s σ H E I hf st hg; subst hP hw hK; refine hld fun g_ k_ => ?_; obtain ⟨f0, f1, f2, f3, f4, f5⟩ := hf it (by simp); refine k_ ?_
    have W := Walks.range (prog := X.prog) (w := X.w) (I.ok.hd hc) it lo 1 n; refine W.item i s _ _ hg st fun v h' tk hv st' kk => ?_; obtain ⟨t, rfl⟩ := hv; have I1 : Inv X pins σ H { s with heap := h', toks := tk } := I.turned (fun b o hb e => kk b o (by simpa using hb) e) f0 f1 f3 f4 f5
    refine ⟨_, rfl, go_of (s := { s with heap := h', toks := tk }) (n := "range_iterator") st' rfl rfl (by decide) ⟨.int (lo + i), H, I1, ⟨t, ?_⟩, ⟨rfl, rfl⟩, st', fun b hb => (hf b hb).1⟩⟩
    rw [Int.mul_one]
  done := by
    intro X hP hw hK hc i pins s σ H E I hf st hg; subst hP hw hK; refine hld fun g_ k_ => ?_; obtain ⟨f0, f1, f2, f3, f4, f5⟩ := hf it (by simp); refine k_ ?_
    exact wpAny_pyNext_range_end (I.ok.hd hc) st (by have : n <= i := hg; omega) fun h' eb => ⟨rfl, I.turned (t' := s.toks) (fun b o hb e => eb b o hb e) f0 f1 f3 f4 f5⟩
  self := fun _ _ _ _ _ st h => wpAny_pyIter_rangeiter st h
end L2
namespace L2
open PySem PySem.Spec PyProof.Rows
section
variable {X : Cx} {tg : Expr}
inductive isLs (K : PySem.W.Frag) (x : V) (H1 : Hp) (R : It -> Hp -> Prop) : Prop
  | mk (a : Addr) (z1_ : x = .ref a) (z2_ : ∃ xs, SqL K H1 a xs) (z3_ : R (Itl K a) H1) : isLs K x H1 R
def iList (K : PySem.W.Frag) (tl : TE) : TI := fun σ H R => tl σ H fun x H1 => isLs K x H1 R
theorem pi_list {l : Expr} {tl : TE} (hl : PE X l tl) : PI X tg l (iList X.K tl) := by
  intro pins s σ H R I h; refine thn (hl pins s σ H _ I h) fun v s1 ⟨x, H1, I1, r1, q1⟩ => ?_; refine hld fun g_ k_ => ?_; obtain ⟨a, e, ⟨xs, hq⟩, q⟩ := q1; refine k_ ?_; subst e
  cases r1
  obtain ⟨its, rv, p, hz⟩ := I1.list hq; refine wpAny_pyIter_list p.isList ?_; refine ⟨s1.heap.objs.size, [s1.heap.objs.size], _, _, H1, rfl, I1.kept (t' := s1.toks) fun b o e => Heap.get?_push_of_some _ e, turn_list a _, ⟨_, Heap.get?_push_size _ rfl, rfl, rfl⟩, fun b hb => ?_, q⟩; have e : b = s1.heap.objs.size := by simpa using hb
  subst e; exact I1.fpOk (Nat.le_refl _) (I1.hok.fresh (Nat.le_refl _))
theorem range_it {pins : List (Addr × Obj)} {σ : St} {H : Hp} {s : Shared} {R : It -> Hp -> Prop} {E : Value -> Shared -> Prop} {lo hi : Int} {t u v : Tok} {tk : Nat} (I : Inv X pins σ H s) (h1 : -(2 ^ 62) <= lo) (h2 : lo < 2 ^ 62) (h3 : -(2 ^ 62) <= hi) (h4 : hi < 2 ^ 62)
    (q : R (Itr lo (hi - lo).toNat) H) : wpAny (model X.prog X.w) X.A (pyIter (.ref s.heap.objs.size)) (PIE X pins σ tg R) E { s with heap := s.heap.push { cls := .type "range", data := .fields #[.int lo t, .int hi u, .int 1 v] }, toks := tk } := by
  refine wpAny_pyIter_range (IsRange.new ..) (small_one h1 h2 h3 h4) ?_; have I1 : Inv X pins σ H { s with heap := s.heap.push { cls := .type "range", data := .fields #[.int lo t, .int hi u, .int 1 v] }, toks := tk } := I.kept fun b o e => Heap.get?_push_of_some _ e
  refine ⟨(s.heap.push { cls := .type "range", data := .fields #[.int lo t, .int hi u, .int 1 v] }).objs.size, [(s.heap.push { cls := .type "range", data := .fields #[.int lo t, .int hi u, .int 1 v] }).objs.size], _, _, H, rfl,
    I1.kept (t' := tk) fun b o e => Heap.get?_push_of_some _ e, turn_range _ lo (hi - lo).toNat, ?_, fun b hb => ?_, q⟩
  . have e1 : lo + ((0 : Nat) : Int) * 1 = lo := by simp
    have e2 : (((hi - lo).toNat : Nat) : Int) - ((0 : Nat) : Int) = Builtin.Range.rangeSize lo hi 1 := by rw [rangeSize_one]; split <;> omega
    show IsRangeIter _ _ (lo + ((0 : Nat) : Int) * 1) ((((hi - lo).toNat : Nat) : Int) - ((0 : Nat) : Int)) 1
    rw [e1, e2]; exact Heap.get?_push_size _ rfl
  . have e : b = (s.heap.push { cls := .type "range", data := .fields #[.int lo t, .int hi u, .int 1 v] }).objs.size := by simpa using hb
    subst e; exact I1.fpOk (Nat.le_refl _) (I1.hok.fresh (Nat.le_refl _))
inductive isRng1 (vs : List V) (H1 : Hp) (R : It -> Hp -> Prop) : Prop
  | mk (j : Int) (z1_ : vs = [.int j]) (z2_ : -(2 ^ 62) <= j) (z3_ : j < 2 ^ 62) (z4_ : R (Itr 0 j.toNat) H1) : isRng1 vs H1 R
inductive isRng2 (vs : List V) (H1 : Hp) (R : It -> Hp -> Prop) : Prop
  | mk (i j : Int) (z1_ : vs = [.int i, .int j]) (z2_ : -(2 ^ 62) <= i /\ i < 2 ^ 62 /\ -(2 ^ 62) <= j /\ j < 2 ^ 62) (z3_ : R (Itr i (j - i).toNat) H1) : isRng2 vs H1 R
def iRng1 (ta : TA) : TI := fun σ H R => ta σ H fun vs H1 => isRng1 vs H1 R
def iRng2 (ta : TA) : TI := fun σ H R => ta σ H fun vs H1 => isRng2 vs H1 R
theorem pi_range1 {a : Expr} {ta : TA} {p pos : Pos} (hg : Gl X "range") (hm : X.mg "range" = none) (ha : PA X [a] ta) (hs : starEach [a] X.env = [(false, eval a X.env)] := by rfl) : PI X tg (.Call (.Name "range" p) [a] [] pos) (iRng1 ta) := by
  intro pins s σ H R I h; refine Call_ (ld_blt I hg hm boot_range (PyProof.Rows.callWith_type1 (thn (ha pos pins s σ H _ I h) fun us s1 ⟨vs, H1, I1, r1, q1⟩ => ?_) hs rfl)); refine hld fun g_ k_ => ?_; obtain ⟨j, e, q1, q2, q⟩ := q1; refine k_ ?_; subst e
  cases r1 with
  | cons r rr =>
    cases rr
    obtain ⟨t, rfl⟩ := r; exact call_range_1 (range_it I1 (by omega) (by omega) q1 q2 (by simpa using q))
theorem pi_range2 {a b : Expr} {ta : TA} {p pos : Pos} (hg : Gl X "range") (hm : X.mg "range" = none) (ha : PA X [a, b] ta) (hs : starEach [a, b] X.env = [(false, eval a X.env), (false, eval b X.env)] := by rfl) (hs2 : starEach [b] X.env = [(false, eval b X.env)] := by rfl) :
    PI X tg (.Call (.Name "range" p) [a, b] [] pos) (iRng2 ta) := by
  intro pins s σ H R I h; refine Call_ (ld_blt I hg hm boot_range (PyProof.Rows.callWith_type1 (thn (ha pos pins s σ H _ I h) fun us s1 ⟨vs, H1, I1, r1, q1⟩ => ?_) (by rw [hs, hs2]) (by rw [hs2]; rfl)))
  refine hld fun g_ k_ => ?_; obtain ⟨i, j, e, ⟨q1, q2, q3, q4⟩, q⟩ := q1; refine k_ ?_; subst e
  cases r1 with
  | cons r rr =>
    cases rr with
    | cons r' rr =>
      cases rr
      obtain ⟨t, rfl⟩ := r; obtain ⟨t', rfl⟩ := r'; exact call_range_2 (range_it I1 q1 q2 q3 q4 q)
def tFor (wi : TI) (g : TG) (tb : TS) : TS := fun D σ H => wi σ H fun J H1 => ∃ W : Nat -> Nat -> St -> Hp -> Prop, (∃ m, W 0 m σ H1) /\ ∀ i m σ H, W i m σ H ->
  (J.stop i H /\ D.nx σ H) \/ (J.go i H /\ ∃ N : St -> Hp -> Prop, (∀ σ' H', N σ' H' -> ∃ m', m' < m /\ W (i + 1) m' σ' H') /\ ∀ x H', J.yld i H x H' -> g x σ H' fun σ2 H2 => tb { D with nx := N, ct := N, bk := D.nx } σ2 H2)
def pinsAt (fp : List Addr) (h : Heap) : List (Addr × Obj) := fp.filterMap fun b => (h.get? b).map fun o => (b, o)
theorem mem_pinsAt {fp : List Addr} {h : Heap} {b : Addr} {o : Obj} (hb : b ∈ fp) (e : h.get? b = some o) : (b, o) ∈ pinsAt fp h := List.mem_filterMap.mpr ⟨b, hb, by rw [e]; rfl⟩
theorem of_pinsAt {fp : List Addr} {h : Heap} {p : Addr × Obj} (hp : p ∈ pinsAt fp h) : p.1 ∈ fp /\ h.get? p.1 = some p.2 := by
  obtain ⟨b, hb, e⟩ := List.mem_filterMap.mp hp
  cases q : h.get? b with
  | none => rw [q] at e; cases e
  | some o =>
    rw [q] at e; have e' : (b, o) = p := Option.some.inj e; subst e'; exact ⟨hb, q⟩
theorem Inv.pinned {pins : List (Addr × Obj)} {σ : St} {H : Hp} {s : Shared} {fp : List Addr} (I : Inv X pins σ H s) (hf : ∀ b ∈ fp, FpOk X pins H b) (ho : ∀ b ∈ fp, ∃ o, s.heap.get? b = some o /\ ∀ v, o.data ≠ .cell v) : Inv X (pins ++ pinsAt fp s.heap) σ H s :=
  I.pins_of fun p hp => (List.mem_append.mp hp).elim (fun z => I.pin p (List.mem_append_right _ z)) fun z => by
    obtain ⟨hb, e⟩ := of_pinsAt z; obtain ⟨f0, f1, f2, _⟩ := hf p.1 hb; obtain ⟨o, e', d⟩ := ho p.1 hb; rw [e] at e'; cases e'; exact ⟨e, f0, f1, f2, d⟩
theorem Inv.unpinned {pins pl : List (Addr × Obj)} {σ : St} {H : Hp} {s : Shared} (I : Inv X (pins ++ pl) σ H s) : Inv X pins σ H s := I.pins_of fun p hp => I.pin p (List.mem_append_right _ (List.mem_append_left _ hp))
theorem ps_for {iter : Expr} {body : List Stmt} {wi : TI} {g : TG} {tb : TS} {pos : Pos} (hp : PassesOwn (model X.prog X.w) X.A X.env X.xe) (hc : X.calm = true) (hi : PI X tg iter wi) (hg : PG X tg g) (hb : PSs X body tb)
    (hs : ∀ x, foldedSetIterable iter X.env x = pure x := by intro _; rfl) : PS X (.For tg iter body [] pos) (tFor wi g tb) := by
  intro pins s σ H D I h; refine wpAny_For (thn (hi pins s σ H _ I h) fun v s1 h1 => thn h1 fun itv s2 h2 => ?_) hs; refine hld fun g_ k_ => ?_; obtain ⟨it, fp, tn, J, H2, e, I2, T, st2, f2, W, ⟨m0, w0⟩, turn⟩ := h2; refine k_ ?_; subst e
  -- what stays true of the iterator's objects through the loop
  have stat : ∀ {H' : Hp}, (∀ b ∈ fp, H' b = none) -> ∀ b ∈ fp, FpOk X pins H' b := fun hn b hb => ⟨hn b hb, (f2 b hb).2⟩; refine codeAny_forLoop_any (fun n s' => ∃ i σ' H', Inv X pins σ' H' s' /\ tn i s'.heap /\ (∀ b ∈ fp, H' b = none) /\ W i n σ' H') ?_ m0 ⟨0, σ, H2, I2, st2, fun b hb => (f2 b hb).1, w0⟩
  rintro n s3 p_
  refine hld fun g_ k_ => ?_; obtain ⟨i, σ3, H3, I3, st3, fr3, w3⟩ := p_; refine k_ ?_
  rcases turn i n σ3 H3 w3 with ⟨stop, qn⟩ | ⟨go, N, hN, step⟩
  . refine wpAny_passesOwn hp (thn (T.done X rfl rfl rfl hc i pins s3 σ3 H3 X.xe I3 (stat fr3) st3 stop) fun r s4 ⟨hr, I4⟩ => ?_)
    subst hr; exact wpAny_execs_nil ⟨σ3, H3, I4, qn⟩
  . refine wpAny_passesOwn hp (thn (T.item X rfl rfl rfl hc i pins s3 σ3 H3 X.xe I3 (stat fr3) st3 go) fun r s4 ⟨u, hr, h4⟩ => ?_)
    subst hr; refine wpAny_passesOwn hp (thn h4 fun _ s5 ⟨x, H5, I5, r5, y5, st5, fr5⟩ => ?_); have I5' := I5.pinned (stat fr5) (T.obj _ _ st5); refine wpAny_passesOwn hp (thn (hg _ s5 σ3 H5 x u _ I5' r5 (step x H5 y5)) fun _ s6 ⟨σ6, H6, I6, q6⟩ => ?_); refine wpAny_passesOwn hp (thn (hb _ s6 σ6 H6 _ I6 q6) fun f s7 q7 => ?_)
    have again : ∀ {σ7 : St} {H7 : Hp}, Inv X (pins ++ pinsAt fp s5.heap) σ7 H7 s7 -> N σ7 H7 -> ∃ m, m < n /\ ∃ i σ' H', Inv X pins σ' H' s7 /\ tn i s7.heap /\ (∀ b ∈ fp, H' b = none) /\ W i m σ' H' := fun {σ7 H7} I7 n7 => by
      obtain ⟨m', hm, w7⟩ := hN σ7 H7 n7; refine ⟨m', hm, i + 1, σ7, H7, I7.unpinned, T.keep _ _ _ st5 fun b hb o e => (I7.pin (b, o) (List.mem_append_right _ (List.mem_append_right _ (mem_pinsAt hb e)))).1, fun b hb => ?_, w7⟩; obtain ⟨o, e, d⟩ := T.obj _ _ st5 b hb; exact (I7.pin (b, o) (List.mem_append_right _ (List.mem_append_right _ (mem_pinsAt hb e)))).2.1
    cases f with
    | next => obtain ⟨σ7, H7, I7, n7⟩ := q7; exact again I7 n7
    | cont => obtain ⟨σ7, H7, I7, n7⟩ := q7; exact again I7 n7
    | brk => obtain ⟨σ7, H7, I7, q7⟩ := q7; exact ⟨σ7, H7, I7.unpinned, q7⟩
    | ret v => obtain ⟨x7, σ7, H7, I7, r7, q7⟩ := q7; exact ⟨x7, σ7, H7, I7.unpinned, r7, q7⟩
end
theorem for_list {K : PySem.W.Frag} {a : Addr} {xs : List V} {g : TG} {tb : TS} {D : Ends} {σ : St} {H : Hp} (Pv : Nat -> St -> Hp -> Prop) (h0 : Pv 0 σ H) (hl : ∀ i σ H, i <= xs.length -> Pv i σ H -> SqL K H a xs)
    (hs : ∀ i x σ H, xs[i]? = some x -> Pv i σ H -> g x σ H fun σ2 H2 => tb { D with nx := Pv (i + 1), ct := Pv (i + 1), bk := D.nx } σ2 H2) (hd : ∀ σ H, Pv xs.length σ H -> D.nx σ H) :
    ∃ W : Nat -> Nat -> St -> Hp -> Prop, (∃ m, W 0 m σ H) /\ ∀ i m σ H, W i m σ H ->
      ((Itl K a).stop i H /\ D.nx σ H) \/ ((Itl K a).go i H /\ ∃ N : St -> Hp -> Prop, (∀ σ' H', N σ' H' -> ∃ m', m' < m /\ W (i + 1) m' σ' H') /\ ∀ x H', (Itl K a).yld i H x H' -> g x σ H' fun σ2 H2 => tb { D with nx := N, ct := N, bk := D.nx } σ2 H2) := by
  refine ⟨fun i m σ H => m = xs.length - i /\ i <= xs.length /\ Pv i σ H, ⟨xs.length, by simp, Nat.zero_le _, h0⟩, ?_⟩
  rintro i m σ H ⟨rfl, hi, p⟩
  have q := hl i σ H hi p
  by_cases hlt : i < xs.length
  . refine .inr ⟨⟨xs, xs[i], q, by simp [hlt]⟩, Pv (i + 1), fun σ' H' p' => ⟨xs.length - (i + 1), by omega, rfl, hlt, p'⟩, fun x H' y => ?_⟩
    obtain ⟨e, y⟩ := y; subst e; exact hs i x σ _ (y xs q) p
  . have e : i = xs.length := by omega
    subst e; exact .inl ⟨⟨xs, q, Nat.le_refl _⟩, hd σ H p⟩
theorem for_range {lo : Int} {n : Nat} {g : TG} {tb : TS} {D : Ends} {σ : St} {H : Hp} (Pv : Nat -> St -> Hp -> Prop) (h0 : Pv 0 σ H)
    (hs : ∀ i σ H, i < n -> Pv i σ H -> g (.int (lo + i)) σ H fun σ2 H2 => tb { D with nx := Pv (i + 1), ct := Pv (i + 1), bk := D.nx } σ2 H2) (hd : ∀ σ H, Pv n σ H -> D.nx σ H) :
    ∃ W : Nat -> Nat -> St -> Hp -> Prop, (∃ m, W 0 m σ H) /\ ∀ i m σ H, W i m σ H ->
      ((Itr lo n).stop i H /\ D.nx σ H) \/ ((Itr lo n).go i H /\ ∃ N : St -> Hp -> Prop, (∀ σ' H', N σ' H' -> ∃ m', m' < m /\ W (i + 1) m' σ' H') /\ ∀ x H', (Itr lo n).yld i H x H' -> g x σ H' fun σ2 H2 => tb { D with nx := N, ct := N, bk := D.nx } σ2 H2) := by
  refine ⟨fun i m σ H => m = n - i /\ i <= n /\ Pv i σ H, ⟨n, by simp, Nat.zero_le _, h0⟩, ?_⟩
  rintro i m σ H ⟨rfl, hi, p⟩
  by_cases hlt : i < n
  . refine .inr ⟨hlt, Pv (i + 1), fun σ' H' p' => ⟨n - (i + 1), by omega, rfl, hlt, p'⟩, fun x H' y => ?_⟩
    obtain ⟨e, y⟩ := y; subst e y; exact hs i σ _ hlt p
  . have e : i = n := by omega
    subst e; exact .inl ⟨Nat.le_refl _, hd σ H p⟩
theorem while_by {c : TT} {tb : TS} {D : Ends} {σ : St} {H : Hp} (Pv : St -> Hp -> Prop) (μ : St -> Hp -> Nat) (h0 : Pv σ H)
    (hs : ∀ σ H, Pv σ H -> c σ H fun b H1 => if b = true then tb { D with nx := fun σ' H' => Pv σ' H' /\ μ σ' H' < μ σ H, ct := fun σ' H' => Pv σ' H' /\ μ σ' H' < μ σ H, bk := D.nx } σ H1 else D.nx σ H1)
    (mono : ∀ σ H Q Q', (∀ b H1, Q b H1 -> Q' b H1) -> c σ H Q -> c σ H Q') : tWhile c tb D σ H := by
  refine ⟨fun m σ H => m = μ σ H /\ Pv σ H, ⟨_, rfl, h0⟩, ?_⟩
  rintro m σ H ⟨rfl, p⟩
  refine mono σ H _ _ (fun b H1 q => ?_) (hs σ H p)
  cases b with
  | true => exact ⟨_, fun σ' H' ⟨p', l⟩ => ⟨_, l, rfl, p'⟩, q⟩
  | false => exact q
end L2
namespace L2
open PySem PySem.Spec PyProof.Rows
abbrev R2 := V -> V -> Hp -> VK -> Prop
def OpR (X : Cx) (f : Value -> Value -> Sem Value) (r : R2) : Prop :=
  ∀ (pins : List (Addr × Obj)) (s : Shared) (σ : St) (H : Hp) (x y : V) (v u : Value) (Q : VK), Inv X pins σ H s -> RelV x v -> RelV y u -> r x y H Q ->
    wpAny (model X.prog X.w) X.A (f v u) (EP X pins σ Q) X.xe s
def UnR (X : Cx) (f : Value -> Sem Value) (r : V -> Hp -> VK -> Prop) : Prop :=
  ∀ (pins : List (Addr × Obj)) (s : Shared) (σ : St) (H : Hp) (x : V) (v : Value) (Q : VK), Inv X pins σ H s -> RelV x v -> r x H Q ->
    wpAny (model X.prog X.w) X.A (f v) (EP X pins σ Q) X.xe s
def CallR (X : Cx) (f : Value) (r : List V -> Hp -> VK -> Prop) : Prop :=
  ∀ (pins : List (Addr × Obj)) (s : Shared) (σ : St) (H : Hp) (xs : List V) (us : List Value) (Q : VK), Inv X pins σ H s -> Vals xs us -> r xs H Q ->
    wpAny (model X.prog X.w) X.A (call f us) (EP X pins σ Q) X.xe s
def tOp (r : R2) (ta tb : TE) : TE := fun σ H Q => ta σ H fun x H1 => tb σ H1 fun y H2 => r x y H2 Q
def tUn (r : V -> Hp -> VK -> Prop) (ta : TE) : TE := fun σ H Q => ta σ H fun x H1 => r x H1 Q
inductive rI (C : Int -> Int -> Prop) (g : Int -> Int -> V) (x : V) (y : V) (H : Hp) (Q : VK) : Prop
  | mk (i : _) (j : _) (z1_ : x = .int i) (z2_ : y = .int j) (z3_ : C i j) (z4_ : Q (g i j) H) : rI C g x y H Q
inductive rI0 (g : Int -> Int -> V) (x : V) (y : V) (H : Hp) (Q : VK) : Prop
  | mk (i : _) (j : _) (z1_ : x = .int i) (z2_ : y = .int j) (z3_ : Q (g i j) H) : rI0 g x y H Q
inductive rU (g : Int -> V) (x : V) (H : Hp) (Q : VK) : Prop
  | mk (i : _) (z1_ : x = .int i) (z2_ : Q (g i) H) : rU g x H Q
section
variable {X : Cx} {a b c : Expr} {ta tb tc : TE} {pos : Pos}
theorem binT (ha : PE X a ta) (hb : PE X b tb) {pins : List (Addr × Obj)} {s : Shared} {σ : St} {H : Hp} {R : V -> V -> Hp -> Prop} (I : Inv X pins σ H s)
    (h : ta σ H fun x H1 => tb σ H1 fun y H2 => R x y H2) {Q : Value -> Shared -> Prop} {f : Value -> Value -> Sem Value}
    (hf : ∀ v u s2 x y H2, Inv X pins σ H2 s2 -> RelV x v -> RelV y u -> R x y H2 -> wpAny (model X.prog X.w) X.A (f v u) Q X.xe s2) :
    wpAny (model X.prog X.w) X.A (eval a X.env) (fun v s₁ => wpAny (model X.prog X.w) X.A (eval b X.env) (fun u s₂ => wpAny (model X.prog X.w) X.A (f v u) Q X.xe s₂) X.xe s₁) X.xe s := by
  refine thn (ha pins s σ H _ I h) fun v s1 ⟨x, H1, I1, r1, q1⟩ => ?_; refine thn (hb pins s1 σ H1 _ I1 q1) fun u s2 ⟨y, H2, I2, r2, q2⟩ => ?_; exact hf v u s2 x y H2 I2 r1 r2 q2
theorem pe_op {op : Operator} {r : R2} (ho : OpR X (binaryOp op) r) (ha : PE X a ta) (hb : PE X b tb) : PE X (.BinOp a op b pos) (tOp r ta tb) := by
  intro pins s σ H Q I h; exact wpAny_BinOp (binT ha hb I h fun v u s2 x y H2 I2 rx ry q => ho pins s2 σ H2 x y v u Q I2 rx ry q)
theorem pe_un {op : UnaryOp} {r : V -> Hp -> VK -> Prop} (ho : UnR X (unaryOp op) r) (ha : PE X a ta) : PE X (.UnaryOp op a pos) (tUn r ta) := by
  intro pins s σ H Q I h; exact UnaryOp_ (thn (ha pins s σ H _ I h) fun v s1 ⟨x, H1, I1, r1, q1⟩ => ho pins s1 σ H1 x v Q I1 r1 q1)
theorem opI {f : Value -> Value -> Sem Value} {C : Int -> Int -> Prop} {g : Int -> Int -> Int}
    (rule : ∀ (i j : Int) (t u : Tok) (s : Shared) (Q : Value -> Shared -> Prop) (E : Value -> Shared -> Prop), C i j -> Q (.int (g i j) s.toks) { s with toks := s.toks + 1 } -> wpAny (model X.prog X.w) X.A (f (.int i t) (.int j u)) Q E s) :
    OpR X f (rI C fun i j => .int (g i j)) := by
  intro pins s σ H x y v u Q I rx ry h; obtain ⟨i, j, rfl, rfl, hc, q⟩ := h; obtain ⟨t, rfl⟩ := rx; obtain ⟨t', rfl⟩ := ry; exact rule i j t t' s _ _ hc ⟨.int (g i j), H, I.tok _, ⟨_, rfl⟩, q⟩
theorem opI0 {f : Value -> Value -> Sem Value} {g : Int -> Int -> Int}
    (rule : ∀ (i j : Int) (t u : Tok) (s : Shared) (Q : Value -> Shared -> Prop) (E : Value -> Shared -> Prop), Q (.int (g i j) s.toks) { s with toks := s.toks + 1 } -> wpAny (model X.prog X.w) X.A (f (.int i t) (.int j u)) Q E s) :
    OpR X f (rI0 fun i j => .int (g i j)) := by
  intro pins s σ H x y v u Q I rx ry h; obtain ⟨i, j, rfl, rfl, q⟩ := h; obtain ⟨t, rfl⟩ := rx; obtain ⟨t', rfl⟩ := ry; exact rule i j t t' s _ _ ⟨.int (g i j), H, I.tok _, ⟨_, rfl⟩, q⟩
theorem opB0 {f : Value -> Value -> Sem Value} {g : Int -> Int -> Bool}
    (rule : ∀ (i j : Int) (t u : Tok) (s : Shared) (Q : Value -> Shared -> Prop) (E : Value -> Shared -> Prop), Q (.bool (g i j)) s -> wpAny (model X.prog X.w) X.A (f (.int i t) (.int j u)) Q E s) :
    OpR X f (rI0 fun i j => .bl (g i j)) := by
  intro pins s σ H x y v u Q I rx ry h; obtain ⟨i, j, rfl, rfl, q⟩ := h; obtain ⟨t, rfl⟩ := rx; obtain ⟨t', rfl⟩ := ry; exact rule i j t t' s _ _ ⟨.bl (g i j), H, I, rfl, q⟩
def CDiv (i j : Int) : Prop := 0 < j /\ j < 1073741824
def CPow (i j : Int) : Prop := 0 <= j /\ j <= 1000000 /\ i.natAbs < 2 ^ 64
def CMul (i j : Int) : Prop := (-(2 ^ 64) < i /\ i < 2 ^ 64) \/ (-(2 ^ 64) < j /\ j < 2 ^ 64)
theorem CMul.ok {i j : Int} (h : CMul i j) : IntMulOk i j := by
  rcases h with ⟨h1, h2⟩ | ⟨h1, h2⟩
  . exact .of_left (intBits_le_64 h1 h2)
  . exact .of_right (intBits_le_64 h1 h2)
theorem op_add : OpR X (binaryOp .Add) (rI0 fun i j => .int (i + j)) := opI0 fun _ _ _ _ _ _ _ q => add_int q
theorem op_sub : OpR X (binaryOp .Sub) (rI0 fun i j => .int (i - j)) := opI0 fun _ _ _ _ _ _ _ q => sub_int q
theorem op_mul : OpR X (binaryOp .Mult) (rI CMul fun i j => .int (i * j)) := opI fun _ _ _ _ _ _ _ hc q => mul_int q hc.ok
theorem op_fdiv : OpR X (binaryOp .FloorDiv) (rI CDiv fun i j => .int (i / j)) := opI fun i j _ _ _ _ _ hc q => by
  have h1 : (0 : Int) < j := hc.1; have h2 : j < 1073741824 := hc.2; exact floordiv_int (by omega) (by rw [Int.fdiv_eq_ediv_of_nonneg i (by omega)]; exact q) (.inl (PyProof.noPylong_small (by omega)))
theorem op_mod : OpR X (binaryOp .Mod) (rI (fun _ j => 0 < j) fun i j => .int (i % j)) := opI fun i j _ _ _ _ _ hc q => by
  have h1 : (0 : Int) < j := hc; exact mod_int' (by omega) (by rw [Int.fmod_eq_emod_of_nonneg i (by omega)]; exact q)
theorem op_pow : OpR X (binaryOp .Pow) (rI CPow fun i j => .int (i ^ j.toNat)) := opI fun _ _ _ _ _ _ _ hc q => pow_int_small hc.1 hc.2.1 hc.2.2 q
theorem unI {f : Value -> Sem Value} {g : Int -> Int}
    (rule : ∀ (i : Int) (t : Tok) (s : Shared) (Q : Value -> Shared -> Prop) (E : Value -> Shared -> Prop), Q (.int (g i) s.toks) { s with toks := s.toks + 1 } -> wpAny (model X.prog X.w) X.A (f (.int i t)) Q E s) :
    UnR X f (rU fun i => .int (g i)) := by
  intro pins s σ H x v Q I rx h; obtain ⟨i, rfl, q⟩ := h; obtain ⟨t, rfl⟩ := rx; exact rule i t s _ _ ⟨.int (g i), H, I.tok _, ⟨_, rfl⟩, q⟩
theorem un_neg : UnR X (unaryOp .USub) (rU fun i => .int (-i)) := unI fun _ _ _ _ _ q => neg_int q
end
def scal : V -> V -> Bool
  | .non, .non => true | .non, .int _ => true | .int _, .non => true | .non, .bl _ => true | .bl _, .non => true | .non, .str _ => true | .str _, .non => true
  | .int _, .int _ => true | .bl _, .bl _ => true | .str _, .str _ => true | .byt _, .byt _ => true
  | .int _, .str _ => true | .str _, .int _ => true | .bl _, .str _ => true | .str _, .bl _ => true
  | _, _ => false
inductive rEq (x : V) (y : V) (H : Hp) (Q : VK) : Prop
  | mk (z1_ : scal x y = true) (z2_ : Q (.bl (decide (x = y))) H) : rEq x y H Q
inductive rNe (x : V) (y : V) (H : Hp) (Q : VK) : Prop
  | mk (z1_ : scal x y = true) (z2_ : Q (.bl (!decide (x = y))) H) : rNe x y H Q
theorem dec_int {i j : Int} : decide (V.int i = V.int j) = (i == j) := by
  rw [Bool.eq_iff_iff]
  simp
theorem dec_bl {i j : Bool} : decide (V.bl i = V.bl j) = (i == j) := by
  rw [Bool.eq_iff_iff]
  simp
theorem dec_str {i j : Str} : decide (V.str i = V.str j) = (i == j) := by
  rw [Bool.eq_iff_iff]
  simp
theorem dec_byt {i j : Array UInt8} : decide (V.byt i = V.byt j) = (i.toList == j.toList) := by
  rw [Bool.eq_iff_iff]
  cases i
  cases j
  simp
section
variable {X : Cx} {a b c : Expr} {ta tb tc : TE} {pos : Pos}
theorem fin_bl {pins : List (Addr × Obj)} {σ : St} {H : Hp} {s : Shared} {Q : VK} {k k' : Bool} (I : Inv X pins σ H s) (q : Q (.bl k) H) (e : k = k') : EP X pins σ Q (.bool k') s := by
  subst e; exact ⟨.bl k, H, I, rfl, q⟩
theorem op_eq : OpR X (compareOp .Eq) rEq := by
  intro pins s σ H x y v u Q I rx ry h; obtain ⟨hs, q⟩ := h
  cases x with
  | non =>
    cases rx
    cases y with
    | non => cases ry; exact PySem.EqNone.eq_none_none (fin_bl I q (by simp))
    | bl j => cases ry; exact PySem.EqNone.eq_none_bool (fin_bl I q (by simp))
    | int j => obtain ⟨t', rfl⟩ := ry; exact PySem.EqNone.eq_none_int (fin_bl I q (by simp))
    | str j => obtain ⟨t', rfl⟩ := ry; exact PySem.EqNone.eq_none_str (fin_bl I q (by simp))
    | _ => exact absurd (show false = true from hs) Bool.false_ne_true
  | bl i =>
    cases rx
    cases y with
    | non => cases ry; exact PySem.EqNone.eq_bool_none (fin_bl I q (by simp))
    | bl j => cases ry; exact eq_bool (fin_bl I q dec_bl)
    | str j => obtain ⟨t', rfl⟩ := ry; exact PySem.EqMixed.eq_bool_str (fin_bl I q (by simp))
    | _ => exact absurd (show false = true from hs) Bool.false_ne_true
  | int i =>
    obtain ⟨t, rfl⟩ := rx
    cases y with
    | non => cases ry; exact PySem.EqNone.eq_int_none (fin_bl I q (by simp))
    | int j => obtain ⟨t', rfl⟩ := ry; exact eq_int (fin_bl I q dec_int)
    | str j => obtain ⟨t', rfl⟩ := ry; exact PySem.EqMixed.eq_int_str (fin_bl I q (by simp))
    | _ => exact absurd (show false = true from hs) Bool.false_ne_true
  | str i =>
    obtain ⟨t, rfl⟩ := rx
    cases y with
    | non => cases ry; exact PySem.EqNone.eq_str_none (fin_bl I q (by simp))
    | bl j => cases ry; exact PySem.EqMixed.eq_str_bool (fin_bl I q (by simp))
    | int j => obtain ⟨t', rfl⟩ := ry; exact PySem.EqMixed.eq_str_int (fin_bl I q (by simp))
    | str j => obtain ⟨t', rfl⟩ := ry; exact eq_str (fin_bl I q dec_str)
    | _ => exact absurd (show false = true from hs) Bool.false_ne_true
  | byt i =>
    obtain ⟨t, rfl⟩ := rx
    cases y with
    | byt j => obtain ⟨t', rfl⟩ := ry; exact PySem.W.eq_bytes (fin_bl I q dec_byt)
    | _ => exact absurd (show false = true from hs) Bool.false_ne_true
  | _ => cases y <;> exact absurd (show false = true from hs) Bool.false_ne_true
theorem op_ne : OpR X (compareOp .NotEq) rNe := by
  intro pins s σ H x y v u Q I rx ry h; obtain ⟨hs, q⟩ := h
  cases x with
  | non =>
    cases rx
    cases y with
    | non => cases ry; exact PySem.EqNone.ne_none_none (fin_bl I q (by simp))
    | bl j => cases ry; exact PySem.EqNone.ne_none_bool (fin_bl I q (by simp))
    | int j => obtain ⟨t', rfl⟩ := ry; exact PySem.EqNone.ne_none_int (fin_bl I q (by simp))
    | str j => obtain ⟨t', rfl⟩ := ry; exact PySem.EqNone.ne_none_str (fin_bl I q (by simp))
    | _ => exact absurd (show false = true from hs) Bool.false_ne_true
  | bl i =>
    cases rx
    cases y with
    | non => cases ry; exact PySem.EqNone.ne_bool_none (fin_bl I q (by simp))
    | bl j => cases ry; exact ne_bool (fin_bl I q (congrArg not dec_bl))
    | str j => obtain ⟨t', rfl⟩ := ry; exact PySem.EqMixed.ne_bool_str (fin_bl I q (by simp))
    | _ => exact absurd (show false = true from hs) Bool.false_ne_true
  | int i =>
    obtain ⟨t, rfl⟩ := rx
    cases y with
    | non => cases ry; exact PySem.EqNone.ne_int_none (fin_bl I q (by simp))
    | int j => obtain ⟨t', rfl⟩ := ry; exact ne_int (fin_bl I q (congrArg not dec_int))
    | str j => obtain ⟨t', rfl⟩ := ry; exact PySem.EqMixed.ne_int_str (fin_bl I q (by simp))
    | _ => exact absurd (show false = true from hs) Bool.false_ne_true
  | str i =>
    obtain ⟨t, rfl⟩ := rx
    cases y with
    | non => cases ry; exact PySem.EqNone.ne_str_none (fin_bl I q (by simp))
    | bl j => cases ry; exact PySem.EqMixed.ne_str_bool (fin_bl I q (by simp))
    | int j => obtain ⟨t', rfl⟩ := ry; exact PySem.EqMixed.ne_str_int (fin_bl I q (by simp))
    | str j => obtain ⟨t', rfl⟩ := ry; exact ne_str (fin_bl I q (congrArg not dec_str))
    | _ => exact absurd (show false = true from hs) Bool.false_ne_true
  | byt i =>
    obtain ⟨t, rfl⟩ := rx
    cases y with
    | byt j => obtain ⟨t', rfl⟩ := ry; exact PySem.W.ne_bytes (fin_bl I q (congrArg not dec_byt))
    | _ => exact absurd (show false = true from hs) Bool.false_ne_true
  | _ => cases y <;> exact absurd (show false = true from hs) Bool.false_ne_true
theorem op_lt : OpR X (compareOp .Lt) (rI0 fun i j => .bl (decide (i < j))) := opB0 fun _ _ _ _ _ _ _ q => lt_int q
theorem op_gt : OpR X (compareOp .Gt) (rI0 fun i j => .bl (decide (j < i))) := opB0 fun _ _ _ _ _ _ _ q => gt_int q
theorem op_ge : OpR X (compareOp .GtE) (rI0 fun i j => .bl (decide (j <= i))) := opB0 fun _ _ _ _ _ _ _ q => ge_int q
theorem nomark (b : Expr) {op : CmpOp} (h : op ≠ .In := by decide) (h2 : op ≠ .NotIn := by decide) : behindInMarks op b = false := by
  have e1 : (op == CmpOp.In) = false := by cases op <;> first | rfl | exact absurd rfl h
  have e2 : (op == CmpOp.NotIn) = false := by cases op <;> first | rfl | exact absurd rfl h2
  cases b <;> simp [behindInMarks, e1, e2]
theorem pe_cmpR {op : CmpOp} {r : R2} (ho : OpR X (compareOp op) r) (ha : PE X a ta) (hb : PE X b tb) (hm : behindInMarks op b = false) : PE X (.Compare a [op] [b] pos) (tOp r ta tb) := by
  intro pins s σ H Q I h; exact wpAny_Compare1 (binT ha hb I h fun v u s2 x y H2 I2 rx ry q => ho pins s2 σ H2 x y v u Q I2 rx ry q) hm
def tTest (t : TE) : TT := fun σ H Q => t σ H fun x H' => isB x H' Q
theorem pt_cmpR {op : CmpOp} {r : R2} (ho : OpR X (compareOp op) r) (ha : PE X a ta) (hb : PE X b tb) (hm : behindInMarks op b = false) : PT X (.Compare a [op] [b] pos) (tTest (tOp r ta tb)) := by
  intro pins s σ H Q I h
  refine wpAny_isTrue_Compare1 (thn (ha pins s σ H _ I h) fun v s1 ⟨x, H1, I1, r1, q1⟩ => thn (hb pins s1 σ H1 _ I1 q1) fun u s2 ⟨y, H2, I2, r2, q2⟩ =>
    thn (ho pins s2 σ H2 x y v u _ I2 r1 r2 q2) fun c s3 ⟨z, H3, I3, r3, k, e, q3⟩ => ?_) hm
  subst e
  cases r3
  exact wpAny_truthy_bool ⟨H3, I3, q3⟩
theorem line63 : (sizeLine : Nat) < 2 ^ 63 := by rw [sizeLine_eq]; decide
theorem op_add_str : OpR X (binaryOp .Add) (fun x y H Q => ∃ i j, x = .str i /\ y = .str j /\ i.length + j.length <= sizeLine /\ Q (.str (i ++ j)) H) := by
  intro pins s σ H x y v u Q I rx ry h; obtain ⟨i, j, rfl, rfl, hz, q⟩ := h; obtain ⟨t, rfl⟩ := rx; obtain ⟨t', rfl⟩ := ry; exact add_str (fun t' tk => ⟨.str (i ++ j), H, I.tok _, ⟨_, rfl⟩, q⟩) hz
theorem vals1 {x : V} {us : List Value} (r : Vals [x] us) : ∃ u, us = [u] /\ RelV x u := by
  cases r with
  | cons r1 r2 => cases r2; exact ⟨_, rfl, r1⟩
theorem vals2 {x y : V} {us : List Value} (r : Vals [x, y] us) : ∃ u w', us = [u, w'] /\ RelV x u /\ RelV y w' := by
  cases r with
  | cons r1 r2 =>
    cases r2 with
    | cons r3 r4 => cases r4; exact ⟨_, _, rfl, r1, r3⟩
end
end L2
namespace L2
open PySem PySem.Spec PyProof.Rows
structure ObjM (h : Heap) (x dx C : Addr) (mA : Str -> Option Value) : Prop where
  obj : h.get? x = some (PySem.W.instObj C dx)
  ns : h.Ns1 dx mA
  ne : dx ≠ x
theorem lookIn_ns {h : Heap} {dx : Addr} {mA : Str -> Option Value} (n : h.Ns1 dx mA) : ∃ od, h.get? dx = some od /\ ∀ name, PySem.W.lookIn name od = some (mA name) := by
  refine hld fun g_ k_ => ?_; obtain ⟨o, es, ep, ho, hd, hk, _, hm⟩ := n; refine k_ ?_; refine ⟨o, ho, fun name => ?_⟩; have e := hm name
  unfold nsFind findBy at e
  rw [<- Array.find?_toList] at e
  unfold PySem.W.lookIn
  rw [hd]
  dsimp only
  split
  . rename_i y q
    rw [q] at e; exact congrArg some e
  . rename_i q
    rw [q] at e
    have a : es.toList.any (·.refKey) = false := by
      rw [List.any_eq_false]; intro y hy; obtain ⟨z, t, hkey⟩ := hk y (Array.mem_toList_iff.mp hy)
      simp [DictEntry.refKey, hkey]
    have a' : ¬ es.toList.any (·.refKey) = true := by rw [a]; exact Bool.false_ne_true
    rw [if_neg a']; exact congrArg some e
theorem ObjM.look {h : Heap} {x dx C : Addr} {mA : Str -> Option Value} (I : ObjM h x dx C mA) : ∃ od, PySem.W.InstAt h x (PySem.W.instObj C dx) C (some od) /\ ∀ name, PySem.W.lookIn name od = some (mA name) :=
  let ⟨od, ho, hl⟩ := lookIn_ns I.ns
  ⟨od, ⟨I.obj, rfl, rfl, ho⟩, hl⟩
theorem RelO.some_of {v : V} {o : Option Value} (r : RelO (some v) o) : ∃ u, o = some u /\ RelV v u := by
  cases o with
  | none => exact (show False from r).elim
  | some u => exact ⟨u, rfl, r⟩
section
variable {P : Program} {w : World} {H H' : Hp} {h h' : Heap} {a C dx : Addr} {fs fs' : List (Str × V)}
theorem ins_get (hok : HOk P w H h) (e : H a = some (.ins C dx fs)) : ∃ mA, ObjM h a dx C mA /\ (∀ f, RelO (fs.lookup f) (mA f)) /\ PySem.Within mA (fs.map (·.1)) /\ fs.length <= 1000 /\ H dx = some (.own a) := by
  refine hld fun g_ k_ => ?_; obtain ⟨d, z, ne, ob, mA, n, r, q⟩ := (show ObjOk P w H h a (.ins C dx fs) from hok a _ e); refine k_ ?_
  exact ⟨mA, ⟨ob, n, ne⟩, r, q, z, d⟩
end
structure Cls (K : PySem.W.Frag) (C : Addr) : Prop where
  pg : PySem.W.plainGet K C Str.empty = true
  hd : PySem.W.hasDictIn K C = true
  po : PySem.W.plainOver K C = true
  sa : PySem.W.findIn K (.ref C) "__setattr__" = some (some (.builtin "object.__setattr__"))
theorem Cls.get {K : PySem.W.Frag} {C : Addr} (c : Cls K C) (f : Str) : PySem.W.plainGet K C f = true := c.pg
section
variable {X : Cx} {pins : List (Addr × Obj)} {σ : St} {H : Hp} {s : Shared} {A : Around} {E : Value -> Shared -> Prop} {Q : Value -> Shared -> Prop} {c : Value} {b : Bool}
inductive TyOf (K : PySem.W.Frag) (H : Hp) : V -> Value -> Prop where
  | non : TyOf K H .non (.type "NoneType")
  | bl (x : Bool) : TyOf K H (.bl x) (.type "bool")
  | int (i : Int) : TyOf K H (.int i) (.type "int")
  | str (x : Str) : TyOf K H (.str x) (.type "str")
  | flt (x : UInt64) : TyOf K H (.flt x) (.type "float")
  | lst {a : Addr} {xs : List V} (e : H a = some (.lst xs)) : TyOf K H (.ref a) (.type "list")
  | frz {a : Addr} {o : Obj} {xs : List V} (e : H a = some (.frz o (.lst xs))) : TyOf K H (.ref a) (.type "list")
  | tup {a : Addr} {xs : List V} (e : H a = some (.tup xs)) : TyOf K H (.ref a) (.type "tuple")
  | dK {a : Addr} {kvs : List (Key × V)} (e : H a = some (.dK kvs)) : TyOf K H (.ref a) (.type "dict")
  | dT {a : Addr} {kvs : List (List Key × V)} (e : H a = some (.dT kvs)) : TyOf K H (.ref a) (.type "dict")
  | ins {a C dx : Addr} {fs : List (Str × V)} (e : H a = some (.ins C dx fs)) (cl : Cls K C) (ha : PySem.W.findIn K (.ref C) "__class__" = some (some (.builtin "object.__class__")))
      (hn : PySem.W.specialIn K (.builtin "object.__class__") "__get__" = some (some (.builtin "getset_descriptor.__get__"))) (htk : PySem.W.takesIn K (.builtin "object.__class__") = some true)
      (hm : PySem.W.mroIn K C (.type "object") = some true) : TyOf K H (.ref a) (.ref C)
theorem isinst_ok {x : V} {u t : Value} (I : Inv X pins σ H s) (rx : RelV x u) (ty : TyOf X.K H x t) (e : PySem.W.kitOne X.K t c = some b) (h : ∀ tk, Q (.bool b) { s with toks := tk }) :
    wpAny (model X.prog X.w) A (call (.builtin "isinstance") [u, c]) Q E s := by
  cases ty with
  | non => cases (show u = Value.none from rx); exact PySem.W.kia_one PySem.W.kitx_none I.kIn True.intro e (fun z => nomatch z) h
  | bl y => cases (show u = Value.bool y from rx); exact PySem.W.kia_one PySem.W.kitx_bool I.kIn True.intro e (fun z => nomatch z) h
  | int i => obtain ⟨t, q⟩ := (show ∃ t, u = Value.int i t from rx); cases q; exact PySem.W.kia_one PySem.W.kitx_int I.kIn True.intro e (fun z => nomatch z) h
  | str y => obtain ⟨t, q⟩ := (show ∃ t, u = Value.str y t from rx); cases q; exact PySem.W.kia_one PySem.W.kitx_str I.kIn True.intro e (fun z => nomatch z) h
  | flt y => obtain ⟨t, q⟩ := (show ∃ t, u = Value.float y t from rx); cases q; exact PySem.W.kia_one PySem.W.kitx_float I.kIn True.intro e (fun z => nomatch z) h
  | @lst a xs ea =>
    cases (show u = Value.ref a from rx)
    refine hld fun g_ k_ => ?_; obtain ⟨_, _, n, _, h1⟩ := (show ObjOk X.prog X.w H s.heap a (.lst xs) from I.hok a _ ea); refine k_ ?_
    exact PySem.W.kia_one PySem.W.kitx_list I.kIn ⟨_, h1, rfl⟩ e (fun z => nomatch z) h
  | @frz a ob xs ea =>
    cases (show u = Value.ref a from rx)
    refine hld fun g_ k_ => ?_; obtain ⟨_, _, _, n, _, h1⟩ := (show ObjOk X.prog X.w H s.heap a (.frz ob (.lst xs)) from I.hok a _ ea); refine k_ ?_
    exact PySem.W.kia_one PySem.W.kitx_list I.kIn ⟨_, h1, rfl⟩ e (fun z => nomatch z) h
  | @tup a xs ea =>
    cases (show u = Value.ref a from rx)
    refine hld fun g_ k_ => ?_; obtain ⟨_, _, _, p⟩ := (show ObjOk X.prog X.w H s.heap a (.tup xs) from I.hok a _ ea); refine k_ ?_
    obtain ⟨o, h1, h2, _⟩ := p; exact PySem.W.kia_one PySem.W.kitx_tuple I.kIn ⟨o, h1, h2⟩ e (fun z => nomatch z) h
  | @dK a kvs ea =>
    cases (show u = Value.ref a from rx)
    refine hld fun g_ k_ => ?_; obtain ⟨_, _, vs, _, p⟩ := (show ObjOk X.prog X.w H s.heap a (.dK kvs) from I.hok a _ ea); refine k_ ?_
    refine hld fun g_ k_ => ?_; obtain ⟨o, es, ep, h1, h2, _⟩ := p; refine k_ ?_; exact PySem.W.kia_one PySem.W.kitx_dict I.kIn ⟨o, h1, h2.1⟩ e (fun z => nomatch z) h
  | @dT a kvs ea =>
    cases (show u = Value.ref a from rx)
    refine hld fun g_ k_ => ?_; obtain ⟨_, _, xs, _, o, es, ep, h1, h2, _⟩ := (show ObjOk X.prog X.w H s.heap a (.dT kvs) from I.hok a _ ea); refine k_ ?_
    exact PySem.W.kia_one PySem.W.kitx_dict I.kIn ⟨o, h1, h2.1⟩ e (fun z => nomatch z) h
  | @ins a C dx fs ea cl ha hn htk hm =>
    cases (show u = Value.ref a from rx)
    obtain ⟨mA, O, _⟩ := ins_get I.hok ea; obtain ⟨od, J, _⟩ := O.look; exact PySem.W.kia_one (PySem.W.kitx_own (cl.get _) cl.hd ha hn htk hm) I.kIn J e (fun z => nomatch z) h
end
end L2
namespace L2
open PySem PySem.Spec PyProof.Rows
structure Room (k : Nat) (A : Around) : Prop where
  hd : A.handled = none
  dp : A.depth + 3 * k + 5 < recursionLimit
  un : A.units + 16 * k + 200 < cLine
theorem Room.mono {j k : Nat} {A : Around} (r : Room k A) (h : j <= k) : Room j A := ⟨r.hd, by have := r.dp; omega, by have := r.un; omega⟩
theorem Room.deeper {k : Nat} {A : Around} (r : Room (k + 1) A) (env : Env) : Room k (A.deeper env) :=
  ⟨r.hd, by have := r.dp; show A.depth + 1 + 3 * k + 5 < _; omega, by have := r.un; show A.units + 3 + 16 * k + 200 < _; omega⟩
theorem Room.in1 {k : Nat} {A : Around} (r : Room (k + 1) A) : Room k A.in1 :=
  ⟨r.hd, by have := r.dp; show A.depth + 3 * k + 5 < _; omega, by have := r.un; show A.units + 1 + 16 * k + 200 < _; omega⟩
theorem Room.depth {k : Nat} {A : Around} (r : Room k A) : A.depth < recursionLimit := by have := r.dp; omega
theorem Room.units0 {k : Nat} {A : Around} (r : Room k A) : A.units < cLine := by have := r.un; omega
def tNil : TA := fun _ H Q => Q [] H
def tCons (ta : TE) (tr : TA) : TA := fun σ H Q => ta σ H fun x H1 => tr σ H1 fun xs H2 => Q (x :: xs) H2
section
variable {X : Cx} {e : Expr} {es : List Expr} {te : TE} {t : TA} {pos : Pos}
theorem pa_nil : PA X [] tNil := fun _ _ _ _ H Q I h => Calls.spliced_nil ⟨[], H, I, .nil, h⟩
theorem pa_cons (ha : PE X e te) (hr : PA X es t) (hs : starEach (e :: es) X.env = (false, eval e X.env) :: starEach es X.env := by rfl) : PA X (e :: es) (tCons te t) := by
  intro pos pins s σ H Q I h; rw [hs]
  show wpAny _ _ (spliced ((false, eval e X.env) :: backTo pos (starEach es X.env))) _ _ s
  refine Calls.spliced_cons (thn (ha pins s σ H _ I h) fun u s1 ⟨x, H1, I1, r1, q1⟩ => ?_); exact thn (hr pos pins s1 σ H1 _ I1 q1) fun us s2 ⟨xs, H2, I2, r2, q2⟩ => ⟨x :: xs, H2, I2, .cons r1 r2, q2⟩
inductive isNew (n : Nat) (H : Hp) (o : HO) (Q : VK) : Prop
  | mk (z1_ : n <= sizeLine) (z2_ : ∀ p, H p = none -> Q (.ref p) (upd H p o)) : isNew n H o Q
def tTup (t : TA) : TE := fun σ H Q => t σ H fun xs H1 => isNew xs.length H1 (.tup xs) Q
def tLst (t : TA) : TE := fun σ H Q => t σ H fun xs H1 => isNew xs.length H1 (.lst xs) Q
theorem pe_tup {x1} (h : PA X es t) : PE X (.Tuple es x1 pos) (tTup t) := by
  intro pins s σ H Q I hq; refine wpAny_Tuple_spliced (thn (h pos pins s σ H _ I hq) fun us s1 ⟨xs, H1, I1, r, z, q⟩ => ⟨by rw [<- r.length]; exact z, ?_⟩)
  have hf : H1 s1.heap.objs.size = none := I1.hok.fresh (Nat.le_refl _); refine ⟨.ref s1.heap.objs.size, upd H1 s1.heap.objs.size (.tup xs), I1.laid (t' := s1.toks) (fun b u e => Heap.get?_push_of_some _ e) (Nat.le_refl _) ?_, rfl, q _ hf⟩; exact ⟨z, us, r, ⟨_, Heap.get?_push_size _ rfl, rfl, _, rfl⟩⟩
theorem pe_lst (h : PA X es t) : PE X (.List es pos) (tLst t) := by
  intro pins s σ H Q I hq; refine wpAny_List_spliced (thn (h pos pins s σ H _ I hq) fun us s1 ⟨xs, H1, I1, r, z, q⟩ => ⟨by rw [<- r.length]; exact z, ?_⟩)
  have hf : H1 s1.heap.objs.size = none := I1.hok.fresh (Nat.le_refl _); refine ⟨.ref s1.heap.objs.size, upd H1 s1.heap.objs.size (.lst xs), I1.laid (t' := s1.toks) (fun b u e => Heap.get?_push_of_some _ e) (Nat.le_refl _) ?_, rfl, q _ hf⟩; exact ⟨z, us, 0, r, Heap.get?_push_size _ rfl⟩
end
abbrev Sp := List V -> Hp -> VK -> XK -> Prop
abbrev CXT := List Env -> Hp -> Shared -> XK -> Value -> Shared -> Prop
structure Env0 (P : Program) (w : World) (K : PySem.W.Frag) (mg : Str -> Option Value) (base : Heap) (A : Around) (outer : List Env) (s : Shared) (H : Hp) : Prop where
  frames : A.frames = some outer
  mod : Mod K mg base
  bs : ∀ b o, base.get? b = some o -> s.heap.get? b = some o /\ H b = none
  bsz : base.objs.size <= s.heap.objs.size
  funs : s.heap.FunFrames base outer
  frf : ∀ b ∈ frs outer, H b = none
  hok : HOk P w H s.heap
  bare : AllBare s.gens
def CE (outer : List Env) (P : Program) (w : World) (H : Hp) (s : Shared) (Q : VK) (u : Value) (s' : Shared) : Prop :=
  ∃ v H', s'.os = s.os /\ AllBare s'.gens /\ Un (frs outer) [] H H' s.heap s'.heap /\ HOk P w H' s'.heap /\ RelV v u /\ Q v H'
def CR (CX : CXT) (outer : List Env) (P : Program) (w : World) (H : Hp) (s : Shared) (Q : VK) (E : XK) (r : Result) (s' : Shared) : Prop :=
  match r with
  | .ok (.ret u) => CE outer P w H s Q u s'
  | .ok _ => False
  | .error e => CX outer H s E e s'
structure FnOk (P : Program) (w : World) (K : PySem.W.Frag) (mg : Str -> Option Value) (base : Heap) (CX : CXT) (k : Nat) (f : Addr) (fd : FuncData) (ps : List Str) (sp : Sp) : Prop where
  len : ∀ vs H Q E, sp vs H Q E -> vs.length = ps.length
  run : ∀ (A : Around) (outer : List Env) (s : Shared) (H : Hp) (args : Args) (us : List Value) (vs : List V) (Q : VK) (E : XK), Room k A -> Env0 P w K mg base A outer s H -> BindsTo s fd args (ps.zip us) -> Vals vs us -> sp vs H Q E ->
    codeAny (model P w) A (.call (.ref f) args) (CR CX outer P w H s Q E) s
theorem Env0.in1 {P : Program} {w : World} {K : PySem.W.Frag} {mg : Str -> Option Value} {base : Heap} {A : Around} {outer : List Env} {s : Shared} {H : Hp} (e : Env0 P w K mg base A outer s H) :
    Env0 P w K mg base A.in1 outer s H := ⟨e.frames, e.mod, e.bs, e.bsz, e.funs, e.frf, e.hok, e.bare⟩
section
variable {X : Cx} {pins : List (Addr × Obj)} {σ : St} {H : Hp} {s s' : Shared}
theorem Inv.env0 (I : Inv X pins σ H s) : Env0 X.prog X.w X.K X.mg X.base X.A X.stack s H :=
  ⟨I.ok.frames, I.ok.mod, I.bs, Nat.le_trans I.ok.bsz I.sz, I.stack, I.stkFree, I.hok, I.bare⟩
theorem Inv.after {Q : VK} {u : Value} (I : Inv X pins σ H s) (h : CE X.stack X.prog X.w H s Q u s') : EP X pins σ Q u s' := by
  obtain ⟨v, H', os, bare, un, hok, r, q⟩ := h; refine hld fun g_ k_ => ?_; obtain ⟨hh, g, d, t, os'⟩ := s'; refine k_ ?_; obtain rfl : os' = s.os := os; exact ⟨v, H', I.call (h' := hh) (g' := g) (d' := d) (t' := t) (ch := []) un hok bare (fun b z => absurd z (by simp)), r, q⟩
end
def tCall (sp : Sp) (dvs : List V) (E : XK) (t : TA) : TE := fun σ H Q => t σ H fun vs H1 => sp (vs ++ dvs) H1 Q E
def Binds (K : PySem.W.Frag) (fd : FuncData) (ps : List Str) (ds : List Value) : Prop :=
  ∀ (s : Shared) (us : List Value), K.In s.heap -> (us ++ ds).length = ps.length -> BindsTo s fd ⟨us, []⟩ (ps.zip (us ++ ds))
theorem Binds.all {K : PySem.W.Frag} {fd : FuncData} {ps : List Str} (h : ∀ us : List Value, us.length = ps.length -> bindArgs fd ⟨us, []⟩ = pure (ps.zip us)) : Binds K fd ps [] := fun s us _ hl => by
  rw [List.append_nil] at hl ⊢; exact .of_eq (h us hl)
def Passes (CX : CXT) (X : Cx) (E : XK) : Prop := ∀ (pins : List (Addr × Obj)) (σ : St) (H : Hp) (s : Shared) (e : Value) (s' : Shared), Inv X pins σ H s -> CX X.stack H s E e s' -> X.xe e s'
section
variable {X : Cx} {CX : CXT} {k : Nat} {f C : Addr} {fd : FuncData} {ps : List Str} {sp : Sp} {dvs : List V} {ds : List Value} {E : XK} {x m : Str} {p pos apos : Pos} {e o : Expr} {es : List Expr} {ta : TE} {t : TA}
theorem run_fn {pins : List (Addr × Obj)} {σ : St} {H : Hp} {s : Shared} {Q : VK} {us : List Value} {vs : List V} (F : FnOk X.prog X.w X.K X.mg X.base CX k f fd ps sp) (hr : Room k X.A) (hb : Binds X.K fd ps ds) (hd : Vals dvs ds) (hx : Passes CX X E)
    (I : Inv X pins σ H s) (r : Vals vs us) (h : sp (vs ++ dvs) H Q E) : wpAny (model X.prog X.w) X.A (call (.ref f) us) (EP X pins σ Q) X.xe s := by
  have r2 : Vals (vs ++ dvs) (us ++ ds) := r.append hd; have hl : (us ++ ds).length = ps.length := by rw [<- r2.length]; exact F.len _ _ _ _ h
  refine wpAny_call (codeAny_mono (F.run X.A X.stack s H ⟨us, []⟩ (us ++ ds) (vs ++ dvs) Q E hr I.env0 (hb s us I.kIn hl) r2 h) fun r s' hq => ?_)
  cases r with
  | error e => exact hx pins σ H s e s' I hq
  | ok fl =>
    cases fl with
    | ret u => exact I.after hq
    | next => exact False.elim hq
    | brk => exact False.elim hq
    | cont => exact False.elim hq
theorem pe_call (F : FnOk X.prog X.w X.K X.mg X.base CX k f fd ps sp) (hr : Room k X.A) (hg : Gl X x) (hm : X.mg x = some (.ref f)) (hk : PySem.W.keepIn X.K (.ref f) = true) (hb : Binds X.K fd ps ds) (hd : Vals dvs ds) (hx : Passes CX X E)
    (ha : PA X (e :: es) t) (hdb : (x == ("__debug__" : Str)) = false := by decide) (he : starEach (e :: es) X.env = (false, eval e X.env) :: starEach es X.env := by rfl) (hpl : (backTo pos (starEach es X.env)).any (·.1) = false := by rfl) :
    PE X (.Call (.Name x p) (e :: es) [] pos) (tCall sp dvs E t) := by
  intro pins s σ H Q I h; refine wpAny_Call_Name_kw (ld_glob I hg hm ?_ hdb); refine PySem.W.callWith_K (h₀ := X.base) I.ok.mod.kin hk (thn (ha pos pins s σ H _ I h) fun us s1 ⟨vs, H1, I1, r, q⟩ => ⟨I1.kIn, ?_⟩) he hpl; exact run_fn F hr hb hd hx I1 r q
end
structure FnScope (N P : List Str) (sc : Scope) : Prop where
  kind : sc.kind = .function
  co : sc.isCoroutine = false
  gen : sc.isGenerator = false
  nd : N.Nodup
  pre : N.take P.length = P
  par : ∀ x ∈ P, sc.names.lookup x = some .local \/ sc.names.lookup x = some .cell
  nofree : ∀ y ∈ sc.names, y.2 ≠ .free
theorem bindL_out {kindOf : Str -> Option NameKind} {x : Str} : ∀ {binds : List (Str × Value)} {m : Str -> Option Value}, (∀ v, (x, v) ∉ binds) -> bindL kindOf binds m x = m x
  | [], _, _ => rfl
  | (n, v) :: r, m, h => by
    unfold bindL
    rw [bindL_out fun w hw => h w (List.mem_cons_of_mem _ hw)]
    split
    . have : x ≠ n := by rintro rfl; exact h v List.mem_cons_self
      simp [this]
    . rfl
theorem bindC_out {kindOf : Str -> Option NameKind} {x : Str} : ∀ {binds : List (Str × Value)} {m : Str -> Option Value}, (∀ v, (x, v) ∉ binds) -> bindC kindOf binds m x = m x
  | [], _, _ => rfl
  | (n, v) :: r, m, h => by
    unfold bindC
    rw [bindC_out fun w hw => h w (List.mem_cons_of_mem _ hw)]
    split
    . rfl
    . have : x ≠ n := by rintro rfl; exact h v List.mem_cons_self
      simp [this]
theorem bindL_get {kindOf : Str -> Option NameKind} {x : Str} {v : Value} : ∀ {P : List Str} {vs : List Value} {i : Nat} {m : Str -> Option Value}, P.Nodup -> P[i]? = some x -> vs[i]? = some v -> kindOf x = some .local ->
    bindL kindOf (P.zip vs) m x = some v
  | [], _, _, _, _, h, _, _ => by simp at h
  | _ :: _, [], _, _, _, _, h, _ => by simp at h
  | p :: P, w :: vs, 0, m, nd, h1, h2, hk => by
    simp at h1 h2; subst h1; subst h2
    show bindL kindOf ((p, w) :: P.zip vs) m p = _
    unfold bindL
    rw [bindL_out fun v hv => (List.nodup_cons.mp nd).1 (List.of_mem_zip hv).1, if_pos hk]
    simp
  | p :: P, w :: vs, i + 1, m, nd, h1, h2, hk => by
    show bindL kindOf ((p, w) :: P.zip vs) m x = _
    unfold bindL
    exact bindL_get (i := i) (List.nodup_cons.mp nd).2 (by simpa using h1) (by simpa using h2) hk
theorem bindC_get {kindOf : Str -> Option NameKind} {x : Str} {v : Value} : ∀ {P : List Str} {vs : List Value} {i : Nat} {m : Str -> Option Value}, P.Nodup -> P[i]? = some x -> vs[i]? = some v -> kindOf x ≠ some .local ->
    bindC kindOf (P.zip vs) m x = some v
  | [], _, _, _, _, h, _, _ => by simp at h
  | _ :: _, [], _, _, _, _, h, _ => by simp at h
  | p :: P, w :: vs, 0, m, nd, h1, h2, hk => by
    simp at h1 h2; subst h1; subst h2
    show bindC kindOf ((p, w) :: P.zip vs) m p = _
    unfold bindC
    rw [bindC_out fun v hv => (List.nodup_cons.mp nd).1 (List.of_mem_zip hv).1, if_neg hk]
    simp
  | p :: P, w :: vs, i + 1, m, nd, h1, h2, hk => by
    show bindC kindOf ((p, w) :: P.zip vs) m x = _
    unfold bindC
    exact bindC_get (i := i) (List.nodup_cons.mp nd).2 (by simpa using h1) (by simpa using h2) hk
def start (N : List Str) (vs : List V) : St := vs.map some ++ List.replicate (N.length - vs.length) none
def cxOf (CX : CXT) (P : Program) (w : World) (K : PySem.W.Frag) (mg : Str -> Option Value) (base : Heap) (N : List Str) (qual : Str) (scope : Scope) (f : Addr) (cd : Value) (A : Around) (outer : List Env) (s : Shared) (H : Hp) (E : XK) : Cx where
  prog := P
  w := w
  K := K
  mg := mg
  base := base
  A := A.deeper (envOfC qual scope s.heap.objs.size f cd)
  N := N
  s₀ := s
  H₀ := H
  env := envOfC qual scope s.heap.objs.size f cd
  outer := outer
  stack := envOfC qual scope s.heap.objs.size f cd :: outer
  ex := []
  calm := true
  fn := fun _ => true
  pn := []
  xe := fun e s' => wpAny (model P w) (A.deeper (envOfC qual scope s.heap.objs.size f cd)) (leaving (envOfC qual scope s.heap.objs.size f cd) e) (fun _ s'' => CX outer H s E e s'') (fun e' s'' => CX outer H s E e' s'') s'
theorem cell_has {sc : Scope} {n : Nat} {x : Str} (h : sc.names.lookup x = some .cell) : ∃ c, (cellsFrom n sc.names []).lookup x = some c := by
  have q := PySem.W.cellsFrom_some sc.names n [] (.inl h); exact Option.isSome_iff_exists.mp q
theorem inv_start {CX : CXT} {P : Program} {w : World} {K : PySem.W.Frag} {mg : Str -> Option Value} {base : Heap} {N ps : List Str} {qual : Str} {scope : Scope} {f : Addr} {cd : Value} {A : Around} {outer : List Env} {s s1 : Shared} {H : Hp} {E : XK} {us : List Value} {vs : List V}
    (S : FnScope N ps scope) (hd : A.handled = none) (e0 : Env0 P w K mg base A outer s H) (hl : vs.length = ps.length) (r : Vals vs us)
    (x : InCallC s s.heap.objs.size (bindL (envOfC qual scope s.heap.objs.size f cd).kindOf (ps.zip us) fun _ => none) (cellsFrom (s.heap.objs.size + 1) scope.names []) (bindC (envOfC qual scope s.heap.objs.size f cd).kindOf (ps.zip us) fun _ => none) s1) :
    Inv (cxOf CX P w K mg base N qual scope f cd A outer s H E) [] (start N vs) H s1 := by
  have hpl : ps.length <= N.length := by have := congrArg List.length S.pre; rw [List.length_take] at this; omega
  obtain ⟨h1, tk, rfl, hk⟩ := x.done; have noA : ∀ b : Addr, b ∉ (cxOf CX P w K mg base N qual scope f cd A outer s H E).ex := fun b z => absurd (show b ∈ ([] : List Addr) from z) (by simp)
  refine ⟨⟨e0.mod, S.kind, rfl, rfl, Nat.le_refl _, fun y z c h1 h2 => ?_, fun y hy => ?_, fun y c _ h => ?_, fun _ => hd, Around.frames_deeper e0.frames, .inr ⟨rfl, rfl⟩, fun b z => absurd z (noA b), e0.bs, e0.bsz, fun b _ _ => noA b, fun b z => absurd z (noA b), e0.funs, e0.frf⟩,
    rfl, e0.bare, Un.kept hk, ⟨_, x.toInCall.ns, fun i y v h1 h2 h3 => ?_⟩, fun y c h => ⟨_, x.cell y c h⟩, e0.hok.fresh (Nat.le_refl _), fun y c h => ?_, fun p hp => absurd (show p ∈ ([] : List (Addr × Obj)) from hp) (by simp), e0.hok.kept hk, ?_⟩
  . exact name_of_addr x.apart (PySem.mem_of_lookup h1) (PySem.mem_of_lookup h2)
  . have hy : scope.names.lookup y = some .cell \/ scope.names.lookup y = some .free := hy
    rcases hy with hy | hy
    . exact cell_has hy
    . exact absurd rfl (S.nofree _ (PySem.mem_of_lookup hy))
  . exact Nat.le_of_lt (x.above y c (PySem.mem_of_lookup h))
  . have hi : i < vs.length := by
      unfold start at h2
      by_cases hi : i < vs.length
      . exact hi
      . rw [List.getElem?_append_right (by simpa using hi)] at h2
        rw [List.getElem?_replicate] at h2
        split at h2 <;> cases h2
    have ha : vs[i]? = some v := by
      unfold start at h2
      rw [List.getElem?_append_left (by simpa using hi), List.getElem?_map] at h2
      cases e : vs[i]? with
      | none => rw [e] at h2; cases h2
      | some a => rw [e] at h2; cases h2; rfl
    obtain ⟨u, hu, rv⟩ := r.get ha
    have hp : ps[i]? = some y := by
      rw [<- S.pre, List.getElem?_take_of_lt (by omega)]; exact h1
    have ndP : ps.Nodup := by rw [<- S.pre]; exact S.nd.sublist (List.take_sublist _ _)
    refine ⟨u, rv, ?_⟩
    rcases S.par y (List.mem_of_getElem? hp) with k | k
    . exact .inl ⟨k, bindL_get ndP hp hu k⟩
    . obtain ⟨c, e⟩ := cell_has (n := s.heap.objs.size + 1) k
      refine .inr ⟨.inl k, c, e, ?_⟩; have q := x.cell y c e; rw [bindC_get ndP hp hu (by show scope.names.lookup y ≠ _; rw [k]; decide)] at q
      exact q
  . exact e0.hok.fresh (Nat.le_of_lt (x.above y c (PySem.mem_of_lookup h)))
  . unfold start
    show _ = N.length
    rw [List.length_append, List.length_map, List.length_replicate]
    omega
theorem fn_of {CX : CXT} {P : Program} {w : World} {K : PySem.W.Frag} {mg : Str -> Option Value} {base : Heap} {k : Nat} {f : Addr} {name qual : Str} {params : Arguments} {body : List Stmt} {scope : Scope} {dV kV doc pm cdv ct oc : Value} {an od : Option Addr}
    {osl : Array (Option Value)} {N ps : List Str} {sp : Sp} (lk : K.lookup f = some ⟨oc, od, .func (PySem.W.fnOf name qual params body scope dV kV doc pm an cdv ct), osl⟩) (hcd : PySem.W.codeIn K cdv qual = true) (S : FnScope N ps scope)
    (len : ∀ vs H Q E, sp vs H Q E -> vs.length = ps.length)
    (hbody : ∀ (A : Around) (outer : List Env) (s : Shared) (H : Hp) (vs : List V) (Q : VK) (E : XK), Room k (A.deeper (envOfC qual scope s.heap.objs.size f cdv)) -> sp vs H Q E ->
      ∃ t, PSs (cxOf CX P w K mg base N qual scope f cdv A outer s H E) body t /\ t { nx := fun _ H' => Q .non H', rt := Q } (start N vs) H) :
    FnOk P w K mg base CX (k + 1) f (PySem.W.fnOf name qual params body scope dV kV doc pm an cdv ct) ps sp := by
  refine ⟨len, fun A outer s H args us vs Q E hr e0 hb r hsp => ?_⟩; have hl := len _ _ _ _ hsp; have KX : K.In s.heap := e0.mod.kin.keeps fun b o e => (e0.bs b o e).1; have lim : s.heap.NoLimit := e0.mod.nolimit.keeps fun b o e => (e0.bs b o e).1
  have hkind : ∀ y ∈ ps.zip us, scope.names.lookup y.1 = some .local \/ (scope.names.lookup y.1 = some .cell /\ ((cellsFrom (s.heap.objs.size + 1) scope.names []).lookup y.1).isSome = true) := fun ⟨n, v⟩ hy => by
    rcases S.par n (List.of_mem_zip hy).1 with q | q
    . exact .inl q
    . exact .inr ⟨q, PySem.W.cellsFrom_some _ _ _ (.inl q)⟩
  refine codeAny_call_function hr.depth (KX _ _ lk) rfl S.co S.gen rfl (PySem.W.codeRec_of KX hcd) (hb _ _ _ _ ?_); refine wpAny_newFunctionEnv_cells S.kind hkind fun env he s1 x => ?_; subst he; refine ⟨lim.keeps x.toInCall.keep, codeAny_func ?_⟩; obtain ⟨t, ht, hq⟩ := hbody A outer s H vs Q E (hr.deeper _) hsp; have I : Inv (cxOf CX P w K mg base N qual scope f cdv A outer s H E) [] (start N vs) H s1 := inv_start S hr.hd e0 hl r x; refine wpAny_mono (ht [] s1 (start N vs) H _ I hq) (fun fl s' hs => ?_) fun e s' hs => hs
  have fin : ∀ {σ' : St} {H' : Hp} {v : V} {u : Value}, Inv (cxOf CX P w K mg base N qual scope f cdv A outer s H E) [] σ' H' s' -> RelV v u -> Q v H' -> CE outer P w H s Q u s' :=
    fun {σ' H' v u} J rv q => ⟨v, H', J.os, J.bare, J.base, J.hok, rv, q⟩
  cases fl with
  | ret u =>
    refine hld fun g_ k_ => ?_; obtain ⟨v, σ', H', J, rv, q⟩ := hs; refine k_ ?_; exact fin J rv q
  | next =>
    obtain ⟨σ', H', J, q⟩ := hs; exact fin (v := V.non) (u := Value.none) J rfl q
  | brk =>
    obtain ⟨_, _, _, q⟩ := hs; exact False.elim q
  | cont =>
    obtain ⟨_, _, _, q⟩ := hs; exact False.elim q
end L2
namespace L2
open PySem PySem.Spec PyProof.Rows
section
variable {X : Cx} {x : Str} {p pos : Pos} {e : Expr} {es : List Expr} {t : TA} {id T : String} {r : List V -> Hp -> VK -> Prop}
def tCB (r : List V -> Hp -> VK -> Prop) (t : TA) : TE := fun σ H Q => t σ H fun vs H1 => r vs H1 Q
theorem pe_callB (hc : CallR X (.builtin id) r) (hg : Gl X x) (hm : X.mg x = none) (hv : bootBuiltins x = some (.builtin id)) (ha : PA X (e :: es) t) (hn : x ≠ "__name__" := by decide) (hdb : (x == ("__debug__" : Str)) = false := by decide)
    (he : starEach (e :: es) X.env = (false, eval e X.env) :: starEach es X.env := by rfl) (hpl : (backTo pos (starEach es X.env)).any (·.1) = false := by rfl) : PE X (.Call (.Name x p) (e :: es) [] pos) (tCB r t) := by
  intro pins s σ H Q I h; refine wpAny_Call_Name_kw (ld_blt I hg hm hv ?_ hn hdb); exact PyProof.Rows.callWith_builtin1 (thn (ha pos pins s σ H _ I h) fun us s1 ⟨vs, H1, I1, r1, q1⟩ => hc pins s1 σ H1 vs us Q I1 r1 q1) he hpl
theorem pe_callTy (hc : CallR X (.type T) r) (hg : Gl X x) (hm : X.mg x = none) (hv : bootBuiltins x = some (.type T)) (ha : PA X (e :: es) t) (hn : x ≠ "__name__" := by decide) (hdb : (x == ("__debug__" : Str)) = false := by decide)
    (he : starEach (e :: es) X.env = (false, eval e X.env) :: starEach es X.env := by rfl) (hpl : (backTo pos (starEach es X.env)).any (·.1) = false := by rfl) : PE X (.Call (.Name x p) (e :: es) [] pos) (tCB r t) := by
  intro pins s σ H Q I h; refine wpAny_Call_Name_kw (ld_blt I hg hm hv ?_ hn hdb); exact PyProof.Rows.callWith_type1 (thn (ha pos pins s σ H _ I h) fun us s1 ⟨vs, H1, I1, r1, q1⟩ => hc pins s1 σ H1 vs us Q I1 r1 q1) he hpl
end
end L2
namespace HT
open PySem PyProof.Rows
section
open PySem.SeqAt
open PySem.AutoSeq1 (wpAny_loadPart')
open PySem.MeetsSeq PySem.MeetsSeq2 PySem.MeetsSeq3
end
section
variable {prog : Program} {w : World} {A : Around} {E : Value -> Shared -> Prop} {s : Shared}
def sIx (n d : Nat) : Option Int -> Nat
  | none => d
  | some v => if v < 0 then (v + (n : Int)).toNat else min v.toNat n
theorem sIx_none (n d : Nat) : sIx n d none = d := rfl
theorem sIx_nat (n d k : Nat) : sIx n d (some (k : Int)) = min k n := by
  show (if (k : Int) < 0 then ((k : Int) + (n : Int)).toNat else min (k : Int).toNat n) = min k n
  rw [if_neg (by omega), Int.toNat_natCast]
end
end HT
namespace L2
open PySem PySem.Spec PyProof.Rows
abbrev TO := St -> Hp -> (Option Int -> Hp -> Prop) -> Prop
def PO (X : Cx) (e : Option Expr) (t : TO) : Prop :=
  ∀ (pins : List (Addr × Obj)) (s : Shared) (σ : St) (H : Hp) (Q : Option Int -> Hp -> Prop), Inv X pins σ H s -> t σ H Q ->
    wpAny (model X.prog X.w) X.A (evalPart e X.env) (fun u s' => ∃ o H', Inv X pins σ H' s' /\ IsPart u o /\ Q o H') X.xe s
def tNoPart : TO := fun _ H Q => Q none H
inductive isPart (x : V) (H : Hp) (Q : Option Int -> Hp -> Prop) : Prop
  | mk (i : Int) (z1_ : x = .int i) (z2_ : Q (some i) H) : isPart x H Q
def tPart (t : TE) : TO := fun σ H Q => t σ H fun x H1 => isPart x H1 Q
section
variable {X : Cx} {e : Expr} {te : TE} {lo hi : Option Expr} {tl th : TO} {pos p2 : Pos}
theorem po_none : PO X none tNoPart := by
  intro pins s σ H Q I h; rw [evalPart_none]; exact wpAny_pure ⟨none, H, I, .none, h⟩
theorem po_some (h : PE X e te) : PO X (some e) (tPart te) := by
  intro pins s σ H Q I hw; rw [evalPart_some]; refine thn (h pins s σ H _ I hw) fun u s1 ⟨x, H1, I1, r1, q1⟩ => ?_; obtain ⟨i, rfl, q⟩ := q1; obtain ⟨t, rfl⟩ := r1; exact ⟨some i, H1, I1, .int i t, q⟩
def SlR (X : Cx) (r : V -> Option Int -> Option Int -> Hp -> VK -> Prop) : Prop :=
  ∀ (pins : List (Addr × Obj)) (s : Shared) (σ : St) (H : Hp) (x : V) (v vl vu : Value) (lo hi : Option Int) (sl : Addr) (Q : VK), Inv X pins σ H s -> RelV x v -> s.heap.IsSliceOf sl vl vu .none -> IsPart vl lo -> IsPart vu hi -> r x lo hi H Q ->
    ∃ T id, typeLookup (.type T) "__getitem__" = pure (some (.builtin id)) /\ s.TypeIs v T /\ wpAny (model X.prog X.w) X.A (getItem v (.ref sl)) (EP X pins σ Q) X.xe s
def tSl (r : V -> Option Int -> Option Int -> Hp -> VK -> Prop) (te : TE) (tl th : TO) : TE := fun σ H Q => te σ H fun x H1 => tl σ H1 fun l H2 => th σ H2 fun u H3 => r x l u H3 Q
theorem pe_slice {r : V -> Option Int -> Option Int -> Hp -> VK -> Prop} (hr : SlR X r) (he : PE X e te) (hl : PO X lo tl) (hu : PO X hi th) : PE X (.Subscript e (.Slice lo hi none p2) pos) (tSl r te tl th) := by
  intro pins s σ H Q I h; refine Subscript_ (thn (he pins s σ H _ I h) fun v s1 ⟨x, H1, I1, r1, q1⟩ => ?_); refine wpAny_Slice (thn (hl pins s1 σ H1 _ I1 q1) fun vl s2 ⟨l, H2, I2, pl, q2⟩ => thn (hu pins s2 σ H2 _ I2 q2) fun vu s3 ⟨u, H3, I3, pu, q3⟩ => ?_); rw [evalPart_none]; refine wpAny_pure ?_; have I4 : Inv X pins σ H3 { s3 with heap := s3.heap.push { cls := .type "slice", data := .fields #[vl, vu, .none] } } := I3.kept (t' := s3.toks) fun b ob q => Heap.get?_push_of_some _ q
  obtain ⟨T, id, hT, ht, hg⟩ := hr pins { s3 with heap := s3.heap.push { cls := .type "slice", data := .fields #[vl, vu, .none] } } σ H3 x v vl vu l u s3.heap.objs.size Q I4 r1 (Heap.IsSliceOf.new ..) pl pu q3
  show wpAny (model X.prog X.w) X.A (subscriptTail e (.Slice lo hi none p2) v (.ref s3.heap.objs.size)) (EP X pins σ Q) X.xe { s3 with heap := s3.heap.push { cls := .type "slice", data := .fields #[vl, vu, .none] } }
  exact tail_any (ops := [.ref s3.heap.objs.size, v]) ht hT hg (by with_unfolding_all rfl)
def cutV (xs : List V) (lo hi : Option Int) : List V := (xs.drop (HT.sIx xs.length 0 lo)).take (HT.sIx xs.length xs.length hi - HT.sIx xs.length 0 lo)
theorem cutV_length (xs : List V) (lo hi : Option Int) : (cutV xs lo hi).length <= xs.length := by
  unfold cutV
  rw [List.length_take, List.length_drop]
  omega
end
end L2
namespace L2
open PySem PySem.Spec PyProof.Rows
def ixN (n : Nat) (i : Int) : Option Nat := if 0 <= i then (if i < n then some i.toNat else none) else if -(n : Int) <= i then some (i + n).toNat else none
def atI {α : Type} (xs : List α) (i : Int) : Option α := (ixN xs.length i).bind fun j => xs[j]?
theorem ixN_seq {n : Nat} {i : Int} {j : Nat} (h : ixN n i = some j) : seqIndex? i n = some j /\ j < n /\ -(n : Int) <= i /\ i < n := by
  unfold ixN at h
  by_cases h0 : 0 <= i
  . rw [if_pos h0] at h
    by_cases h1 : i < n
    . rw [if_pos h1] at h
      have e : i.toNat = j := Option.some.inj h; exact ⟨by rw [seqIndex_of h0 h1, e], by omega, by omega, h1⟩
    . rw [if_neg h1] at h; cases h
  . rw [if_neg h0] at h
    by_cases h1 : -(n : Int) <= i
    . rw [if_pos h1] at h
      have e : (i + n).toNat = j := Option.some.inj h; exact ⟨by rw [seqIndex_neg (by omega) h1, e], by omega, h1, by omega⟩
    . rw [if_neg h1] at h; cases h
theorem atI_get {α : Type} {xs : List α} {i : Int} {v : α} (h : atI xs i = some v) : ∃ j, seqIndex? i xs.length = some j /\ xs[j]? = some v /\ j < xs.length /\ -(xs.length : Int) <= i /\ i < xs.length := by
  unfold atI at h
  cases e : ixN xs.length i with
  | none => rw [e] at h; cases h
  | some j =>
    rw [e] at h; obtain ⟨h1, h2, h3, h4⟩ := ixN_seq e; exact ⟨j, h1, h, h2, h3, h4⟩
theorem atI_nat {α : Type} {xs : List α} {j : Nat} {v : α} (h : xs[j]? = some v) : atI xs (j : Int) = some v := by
  have hj : j < xs.length := (List.getElem?_eq_some_iff.mp h).1
  have e : ixN xs.length (j : Int) = some j := by
    unfold ixN
    rw [if_pos (by omega), if_pos (by omega)]; simp
  unfold atI; rw [e]; exact h
def PlainIx (b : Expr) : Prop := ∀ o i, subscripted b false o i = operate [o, i] (getItem o i)
def IxR (X : Cx) (r : R2) : Prop :=
  ∀ (value slice : Expr) (pins : List (Addr × Obj)) (s : Shared) (σ : St) (H : Hp) (x y : V) (v u : Value) (Q : VK), Inv X pins σ H s -> RelV x v -> RelV y u -> r x y H Q ->
    subscripted slice false v u = operate [v, u] (getItem v u) -> wpAny (model X.prog X.w) X.A (subscriptTail value slice v u) (EP X pins σ Q) X.xe s
def MtR (X : Cx) (id : String) (r : V -> List V -> Hp -> VK -> Prop) : Prop :=
  ∀ (pins : List (Addr × Obj)) (s : Shared) (σ : St) (H : Hp) (x : V) (xs : List V) (v : Value) (us : List Value) (Q : VK), Inv X pins σ H s -> RelV x v -> Vals xs us -> r x xs H Q ->
    wpAny (model X.prog X.w) X.A (call (.builtin id) (v :: us)) (EP X pins σ Q) X.xe s
section
variable {X : Cx} {a b : Expr} {ta tb : TE} {pos : Pos}
theorem pe_ix {r : R2} (hr : IxR X r) (ha : PE X a ta) (hb : PE X b tb) (hs : PlainIx b) : PE X (.Subscript a b pos) (tOp r ta tb) := by
  intro pins s σ H Q I h; exact Subscript_ (binT ha hb I h fun v u s2 x y H2 I2 rx ry q => hr a b pins s2 σ H2 x y v u Q I2 rx ry q (hs _ _))
inductive rIxL (K : PySem.W.Frag) (x : V) (y : V) (H : Hp) (Q : VK) : Prop
  | mk (p : _) (xs : _) (i : _) (v : _) (z1_ : x = .ref p) (z2_ : y = .int i) (z3_ : SqL K H p xs) (z4_ : atI xs i = some v) (z5_ : Q v H) : rIxL K x y H Q
inductive rIxT (K : PySem.W.Frag) (x : V) (y : V) (H : Hp) (Q : VK) : Prop
  | mk (p : _) (xs : _) (i : _) (v : _) (z1_ : x = .ref p) (z2_ : y = .int i) (z3_ : SqT K H p xs) (z4_ : atI xs i = some v) (z5_ : Q v H) : rIxT K x y H Q
theorem ix_list : IxR X (rIxL X.K) := by
  intro value slice pins s σ H x y v u Q I rx ry h hs; obtain ⟨p, xs, i, z, rfl, rfl, hq, he, q⟩ := h
  cases rx
  obtain ⟨t, rfl⟩ := ry; obtain ⟨its, r, pl, hz⟩ := I.list hq; refine hld fun g_ k_ => ?_; obtain ⟨j, h1, h2, h3, h4, h5⟩ := atI_get he; refine k_ ?_; obtain ⟨w, ew, rw'⟩ := r.get h2; have hl := r.length; have hn := line63; have fin : EP X pins σ Q w s := ⟨z, H, I, rw', q⟩
  by_cases h0 : 0 <= i
  . have hj : i.toNat = j := by
      rw [seqIndex_of h0 h5] at h1; exact Option.some.inj h1
    exact item_listR pl.isList h0 (by omega) (by rw [hj]; simpa using ew) fin hs
  . have hj : (i + (its.toArray.size : Int)).toNat = j := by
      rw [seqIndex_neg (by omega) h4] at h1
      rw [List.size_toArray, <- hl]; exact Option.some.inj h1
    exact subscriptTail_builtinR (x := w) pl.isList.typeIs slot_list_getitem.lookup
      (wpAny_getItem_list_neg (Q := fun r s' => r = w /\ EP X pins σ Q r s') pl.isList (by omega) (by rw [List.size_toArray] <;> omega) (by omega) (by rw [hj]; simpa using ew) ⟨rfl, fin⟩) hs
theorem ix_tup : IxR X (rIxT X.K) := by
  intro value slice pins s σ H x y v u Q I rx ry h hs; obtain ⟨p, xs, i, z, rfl, rfl, hq, he, q⟩ := h
  cases rx
  obtain ⟨t, rfl⟩ := ry; obtain ⟨its, r, pl, hz⟩ := I.tuple hq; refine hld fun g_ k_ => ?_; obtain ⟨j, h1, h2, h3, h4, h5⟩ := atI_get he; refine k_ ?_; obtain ⟨w, ew, rw'⟩ := r.get h2; have hl := r.length; have hn := line63; have fin : EP X pins σ Q w s := ⟨z, H, I, rw', q⟩
  exact subscriptTail_builtinR (x := w) pl.typeIs slot_tuple_getitem.lookup
    (getItem_tuple (j := j) (Q := fun r s' => r = w /\ EP X pins σ Q r s') pl (by omega) (by omega) (by rw [List.size_toArray, <- hl]; exact h1) (by simpa using ew) ⟨rfl, fin⟩) hs
theorem mapSeq_set (its : List Value) (n j : Nat) (u : Value) : Obj.mapSeq (·.setIfInBounds j u) { cls := .type "list", data := .seq its.toArray n } = { cls := .type "list", data := .seq (its.set j u).toArray n } := by
  simp [Obj.mapSeq]
theorem Inv.lst {pins : List (Addr × Obj)} {σ : St} {H : Hp} {s : Shared} {p : Addr} {xs : List V} (I : Inv X pins σ H s) (h : H p = some (.lst xs)) :
    ∃ (its : List Value) (n : Nat), Vals xs its /\ s.heap.get? p = some { cls := .type "list", data := .seq its.toArray n } /\ xs.length <= sizeLine := by
  refine hld fun g_ k_ => ?_; obtain ⟨z, its, n, r, e⟩ := I.hok p _ h; refine k_ ?_; exact ⟨its, n, r, e, z⟩
theorem Inv.lstUpd {pins : List (Addr × Obj)} {σ : St} {H : Hp} {s : Shared} {p : Addr} {xs ys : List V} {its its' : List Value} {n n' : Nat} {f : Obj -> Obj} (I : Inv X pins σ H s) (h : H p = some (.lst xs))
    (ho : s.heap.get? p = some { cls := .type "list", data := .seq its.toArray n }) (hf : f { cls := .type "list", data := .seq its.toArray n } = { cls := .type "list", data := .seq its'.toArray n' }) (r : Vals ys its') (hz : ys.length <= sizeLine) (t : Nat) :
    Inv X pins σ (upd H p (.lst ys)) { s with heap := s.heap.update p f, toks := t } := by
  have e : (s.heap.update p f).get? p = some { cls := .type "list", data := .seq its'.toArray n' } := by
    rw [Heap.get?_update_self f ho (by rw [hf] <;> rfl), hf]
  refine I.write (x := p) (e := p) (by rw [h]; trivial) (.inl rfl) (fun b u hb q => (Heap.get?_update_other _ _ (Ne.symm hb)).trans q) ⟨_, e⟩ ?_
  exact ⟨hz, its', n', r, e⟩
inductive rSetL (o : V) (i : V) (v : V) (H : Hp) (Q : (Hp -> Prop)) : Prop
  | mk (p : _) (xs : _) (k : _) (j : _) (z1_ : o = .ref p) (z2_ : i = .int k) (z3_ : H p = some (.lst xs)) (z4_ : ixN xs.length k = some j) (z5_ : Q (upd H p (.lst (xs.set j v)))) : rSetL o i v H Q
theorem set_list : PSet X rSetL := by
  intro pins s σ H o i v ov iv u Q I ro ri rv h; obtain ⟨p, xs, k, j, rfl, rfl, hp, hj, q⟩ := h
  cases ro
  obtain ⟨t, rfl⟩ := ri; refine hld fun g_ k_ => ?_; obtain ⟨its, n, r, ho, hz⟩ := I.lst hp; refine k_ ?_; obtain ⟨h1, h2, h3, h4⟩ := ixN_seq hj; have hl := r.length; have hn := line63
  have I' : Inv X pins σ (upd H p (.lst (xs.set j v))) { s with heap := s.heap.update p (Obj.mapSeq (·.setIfInBounds j u)) } :=
    I.lstUpd hp ho (mapSeq_set its n j u) (r.set rv j) (by rw [List.length_set]; exact hz) s.toks
  by_cases h0 : 0 <= k
  . have hk : k.toNat = j := by
      rw [seqIndex_of h0 h4] at h1; exact Option.some.inj h1
    exact PySem.W.ki_setAt ho h0 (by omega) (by rw [List.size_toArray, <- hl]; exact h4) (by rw [hk]; exact ⟨_, I', q⟩)
  . have hk : (k + (its.toArray.size : Int)).toNat = j := by
      rw [seqIndex_neg (by omega) h3] at h1
      rw [List.size_toArray, <- hl]; exact Option.some.inj h1
    exact PySem.W.ki_setBack ho (by omega) (by rw [List.size_toArray, <- hl]; exact h3) (by omega) (by rw [hk]; exact ⟨_, I', q⟩)
theorem slice_bounds (lo hi : Option Int) (n : Nat) : (sliceBounds lo hi none n).1 = ((HT.sIx n 0 lo : Nat) : Int) /\ (sliceBounds lo hi none n).2.1 = ((HT.sIx n n hi : Nat) : Int) /\ (sliceBounds lo hi none n).2.2 = 1 := by
  refine ⟨?_, ?_, rfl⟩
  . cases lo with
    | none => simp [sliceBounds, HT.sIx]
    | some i =>
      simp only [sliceBounds, HT.sIx, Option.getD_none, show (1 : Int) > 0 by decide, if_true]
      by_cases h : i < 0
      . simp only [h, if_true] <;> omega
      . simp only [h, if_false] <;> omega
  . cases hi with
    | none => simp [sliceBounds, HT.sIx]
    | some i =>
      simp only [sliceBounds, HT.sIx, Option.getD_none, show (1 : Int) > 0 by decide, if_true]
      by_cases h : i < 0
      . simp only [h, if_true] <;> omega
      . simp only [h, if_false] <;> omega
theorem slicePick_cut (its : List Value) (lo hi : Option Int) : slicePick its.toArray lo hi none = ((its.drop (HT.sIx its.length 0 lo)).take (HT.sIx its.length its.length hi - HT.sIx its.length 0 lo)).toArray := by
  obtain ⟨h1, h2, h3⟩ := slice_bounds lo hi its.toArray.size
  unfold slicePick
  rw [h1, h2, h3]
  simp only [sliceRange_one, pick_run, List.size_toArray] <;> rfl
inductive rSlL (K : PySem.W.Frag) (x : V) (lo : (Option Int)) (hi : (Option Int)) (H : Hp) (Q : VK) : Prop
  | mk (a : _) (xs : _) (z1_ : x = .ref a) (z2_ : SqL K H a xs) (z3_ : ∀ p, H p = none -> Q (.ref p) (upd H p (.lst (cutV xs lo hi)))) : rSlL K x lo hi H Q
theorem sl_list : SlR X (rSlL X.K) := by
  intro pins s σ H x v vl vu lo hi sl Q I rx hs pl pu h; obtain ⟨a, xs, rfl, hx, q⟩ := h
  cases rx
  obtain ⟨its, r, ht, hz⟩ := I.list hx; have hlen := r.length; refine ⟨"list", _, slot_list_getitem.lookup, ht.isList.typeIs, ?_⟩; refine wpAny_getItem_list_slice ht.isList hs pl pu .none (by simp) ?_ (by rw [List.size_toArray] <;> omega)
  rw [slicePick_cut, <- hlen]; refine ⟨.ref s.heap.objs.size, _, I.laid (t' := s.toks) (o := .lst (cutV xs lo hi)) (fun b ob q => Heap.get?_push_of_some _ q) (Nat.le_refl _) ?_, rfl, q _ (I.hok.fresh (Nat.le_refl _))⟩; exact ⟨Nat.le_trans (cutV_length xs lo hi) hz, _, 0, (r.drop (HT.sIx xs.length 0 lo)).take (HT.sIx xs.length xs.length hi - HT.sIx xs.length 0 lo), Heap.get?_push_size _ rfl⟩
def flatV : V -> Bool
  | .non => true
  | .bl _ => true
  | .int _ => true
  | .str _ => true
  | _ => false
def eqV : V -> V -> Bool
  | .non, .non => true
  | .bl a, .bl b => a == b
  | .bl a, .int b => (if a then 1 else 0) == b
  | .int a, .bl b => a == (if b then 1 else 0)
  | .int a, .int b => a == b
  | .str a, .str b => a == b
  | _, _ => false
theorem eqAt_V {A : Around} {s : Shared} {y x : V} {u v : Value} (ry : RelV y u) (rx : RelV x v) (fy : flatV y = true) (fx : flatV x = true) : SeqAt.EqAt A s u v (eqV y x) := by
  cases y with
  | non =>
    cases ry
    cases x with
    | non => cases rx; exact SeqAt.EqAt.same _
    | bl b => cases rx; exact SeqAt.EqAt.none_bool b
    | int b => obtain ⟨t, rfl⟩ := rx; exact SeqAt.EqAt.none_int b t
    | str b => obtain ⟨t, rfl⟩ := rx; exact SeqAt.EqAt.none_str b t
    | _ => exact absurd (show false = true from fx) Bool.false_ne_true
  | bl a =>
    cases ry
    cases x with
    | non => cases rx; exact SeqAt.EqAt.bool_none a
    | bl b => cases rx; exact SeqAt.EqAt.bool_bool a b
    | int b => obtain ⟨t, rfl⟩ := rx; exact SeqAt.EqAt.bool_int a b t
    | str b => obtain ⟨t, rfl⟩ := rx; exact SeqAt.EqAt.bool_str a b t
    | _ => exact absurd (show false = true from fx) Bool.false_ne_true
  | int a =>
    obtain ⟨t', rfl⟩ := ry
    cases x with
    | non => cases rx; exact SeqAt.EqAt.int_none a t'
    | bl b => cases rx; exact SeqAt.EqAt.int_bool a t' b
    | int b => obtain ⟨t, rfl⟩ := rx; exact SeqAt.EqAt.int_int a t' b t
    | str b => obtain ⟨t, rfl⟩ := rx; exact SeqAt.EqAt.int_str a t' b t
    | _ => exact absurd (show false = true from fx) Bool.false_ne_true
  | str a =>
    obtain ⟨t', rfl⟩ := ry
    cases x with
    | non => cases rx; exact SeqAt.EqAt.str_none a t'
    | bl b => cases rx; exact SeqAt.EqAt.str_bool a t' b
    | int b => obtain ⟨t, rfl⟩ := rx; exact SeqAt.EqAt.str_int a t' b t
    | str b => obtain ⟨t, rfl⟩ := rx; exact SeqAt.EqAt.str_str a t' b t
    | _ => exact absurd (show false = true from fx) Bool.false_ne_true
  | _ => exact absurd (show false = true from fy) Bool.false_ne_true
def eqU (x : V) (u : Value) : Bool := match u with
  | .none => eqV .non x
  | .bool b => eqV (.bl b) x
  | .int i _ => eqV (.int i) x
  | .str z _ => eqV (.str z) x
  | _ => false
theorem eqU_of {x y : V} {u : Value} (r : RelV y u) (f : flatV y = true) : eqU x u = eqV y x := by
  cases y with
  | non => cases r; rfl
  | bl b => cases r; rfl
  | int i => obtain ⟨t, rfl⟩ := r; rfl
  | str z => obtain ⟨t, rfl⟩ := r; rfl
  | _ => exact absurd (show false = true from f) Bool.false_ne_true
theorem any_eqU {x : V} : ∀ {xs : List V} {us : List Value}, Vals xs us -> xs.all flatV = true -> us.any (eqU x) = xs.any fun y => eqV y x
  | _, _, .nil, _ => rfl
  | y :: xs, u :: us, .cons r t, f => by
    rw [List.all_cons, Bool.and_eq_true] at f; rw [List.any_cons, List.any_cons, eqU_of r f.1, any_eqU t f.2]
theorem mem_eqAt {A : Around} {s : Shared} {x : V} {v : Value} (rx : RelV x v) (fx : flatV x = true) : ∀ {xs : List V} {us : List Value}, Vals xs us -> xs.all flatV = true -> ∀ u ∈ us, SeqAt.EqAt A s u v (eqU x u)
  | _, _, .nil, _ => fun u hu => by cases hu
  | y :: xs, u :: us, .cons r t, f => fun u' hu => by
    rw [List.all_cons, Bool.and_eq_true] at f
    rcases List.mem_cons.mp hu with rfl | hu
    . rw [eqU_of r f.1]; exact eqAt_V r rx f.1 fx
    . exact mem_eqAt rx fx t f.2 u' hu
def inV (x : V) (xs : List V) : Bool := xs.any fun y => eqV y x
inductive rIn (K : PySem.W.Frag) (neg : Bool) (x : V) (y : V) (H : Hp) (Q : VK) : Prop
  | mk (p : _) (xs : _) (z1_ : y = .ref p) (z2_ : (SqL K H p xs \/ SqT K H p xs)) (z3_ : flatV x = true) (z4_ : xs.all flatV = true) (z5_ : Q (.bl (if neg then !inV x xs else inV x xs)) H) : rIn K neg x y H Q
theorem op_in_seq : OpR X (compareOp .In) (rIn X.K false) := by
  intro pins s σ H x y v u Q I rx ry h; obtain ⟨p, xs, rfl, hq, fx, fs, q⟩ := h
  cases ry
  rcases hq with hq | hq
  . obtain ⟨its, r, pl, hz⟩ := I.list hq
    refine SeqAt.in_listAt (eqU x) pl.isList (fun w hw => mem_eqAt rx fx r fs w (by simpa using hw)) ⟨.bl _, H, I, rfl, ?_⟩
    rw [show its.toArray.any (eqU x) = its.any (eqU x) by simp, any_eqU r fs]
    exact q
  . obtain ⟨its, r, pl, hz⟩ := I.tuple hq
    refine SeqAt.in_tupleAt (eqU x) pl (fun w hw => mem_eqAt rx fx r fs w (by simpa using hw)) ⟨.bl _, H, I, rfl, ?_⟩
    rw [show its.toArray.any (eqU x) = its.any (eqU x) by simp, any_eqU r fs]
    exact q
theorem op_notIn_seq : OpR X (compareOp .NotIn) (rIn X.K true) := by
  intro pins s σ H x y v u Q I rx ry h; obtain ⟨p, xs, rfl, hq, fx, fs, q⟩ := h
  cases ry
  rcases hq with hq | hq
  . obtain ⟨its, r, pl, hz⟩ := I.list hq
    refine SeqAt.notIn_listAt (eqU x) pl.isList (fun w hw => mem_eqAt rx fx r fs w (by simpa using hw)) ⟨.bl _, H, I, rfl, ?_⟩
    rw [show its.toArray.any (eqU x) = its.any (eqU x) by simp, any_eqU r fs]
    exact q
  . obtain ⟨its, r, pl, hz⟩ := I.tuple hq
    refine SeqAt.notIn_tupleAt (eqU x) pl (fun w hw => mem_eqAt rx fx r fs w (by simpa using hw)) ⟨.bl _, H, I, rfl, ?_⟩
    rw [show its.toArray.any (eqU x) = its.any (eqU x) by simp, any_eqU r fs]
    exact q
inductive rLen (K : PySem.W.Frag) (xs : List V) (H : Hp) (Q : VK) : Prop
  | mk (p : Addr) (ys : List V) (z1_ : xs = [.ref p]) (z2_ : SqL K H p ys \/ SqT K H p ys) (z3_ : Q (.int ys.length) H) : rLen K xs H Q
theorem call_len_seq : CallR X (.builtin "len") (rLen X.K) := by
  intro pins s σ H xs us Q I r h; obtain ⟨p, ys, rfl, hq, q⟩ := h; obtain ⟨u, rfl, rx⟩ := vals1 r
  cases rx
  have hn := line63
  rcases hq with hq | hq
  . obtain ⟨its, r', pl, hz⟩ := I.list hq
    have hlen := r'.length; exact Calls.call_len_list pl.isList (by simp only [List.size_toArray] <;> omega) ⟨.int ys.length, H, I.tok _, ⟨s.toks + 1, by rw [List.size_toArray, hlen]⟩, q⟩
  . obtain ⟨its, r', pl, hz⟩ := I.tuple hq
    have hlen := r'.length; exact len_tuple pl (by simp only [List.size_toArray] <;> omega) ⟨.int ys.length, H, I.tok _, ⟨s.toks + 1, by rw [List.size_toArray, hlen]⟩, q⟩
inductive rListOf (K : PySem.W.Frag) (xs : List V) (H : Hp) (Q : VK) : Prop
  | mk (p : Addr) (ys : List V) (z1_ : xs = [.ref p]) (z2_ : SqL K H p ys \/ SqT K H p ys) (z3_ : ∀ l, H l = none -> Q (.ref l) (upd H l (.lst ys))) : rListOf K xs H Q
theorem call_list_of : CallR X (.type "list") (rListOf X.K) := by
  intro pins s σ H xs us Q I r h; obtain ⟨p, ys, rfl, hq, q⟩ := h; obtain ⟨u, rfl, rx⟩ := vals1 r
  cases rx
  have fin : ∀ (its : List Value), Vals ys its -> ys.length <= sizeLine -> ∀ (h' : Heap) (c' : Nat), (∀ b o', s.heap.get? b = some o' -> h'.get? b = some o') ->
      h'.get? s.heap.objs.size = some { cls := .type "list", dict := none, data := .seq its.toArray c', slots := #[] } -> EP X pins σ Q (.ref s.heap.objs.size) { s with heap := h' } := fun its r' hz h' c' kp e =>
    ⟨.ref s.heap.objs.size, _, I.laid (t' := s.toks) kp (Nat.le_refl _) (show ObjOk X.prog X.w _ h' _ (.lst ys) from ⟨hz, its, c', r', e⟩), rfl, q _ (I.hok.fresh (Nat.le_refl _))⟩
  rcases hq with hq | hq
  . obtain ⟨its, r', pl, hz⟩ := I.list hq
    have hlen := r'.length; refine hld fun g_ k_ => ?_; obtain ⟨o, ho, hc, n, hd⟩ := pl.isList; refine k_ ?_; exact call_list_seq p (.inl rfl) ho hc hd (fun h' c' kp e => fin its r' hz h' c' kp e) (by simp only [List.size_toArray] <;> omega)
  . obtain ⟨its, r', pl, hz⟩ := I.tuple hq
    have hlen := r'.length; refine hld fun g_ k_ => ?_; obtain ⟨o, ho, hc, n, hd⟩ := pl; refine k_ ?_; exact call_list_seq p (.inr rfl) ho hc hd (fun h' c' kp e => fin its r' hz h' c' kp e) (by simp only [List.size_toArray] <;> omega)
def tyV (K : PySem.W.Frag) (T : String) (x : V) (H : Hp) : Prop := match x with
  | .str _ => T = "str"
  | .int _ => T = "int"
  | .ref p => (T = "list" /\ ∃ xs, SqL K H p xs) \/ (T = "tuple" /\ ∃ o, K.lookup p = some o /\ o.cls = .type "tuple" /\ o.dict = none) \/
      (T = "dict" /\ ((∃ kvs, H p = some (.dK kvs)) \/ ∃ kvs, H p = some (.dT kvs))) \/ (T = "set" /\ ∃ S n, H p = some (.set S n))
  | _ => False
theorem tyV_is {pins : List (Addr × Obj)} {σ : St} {H : Hp} {s : Shared} {T : String} {x : V} {v : Value} (I : Inv X pins σ H s) (r : RelV x v) (ty : tyV X.K T x H) :
    s.TypeIs v T /\ ∀ a, v = .ref a -> ∃ ob, s.heap.get? a = some ob /\ ob.dict = none := by
  cases x with
  | str z =>
    obtain ⟨t, rfl⟩ := r
    cases (show T = "str" from ty)
    exact ⟨typeIs_str s z t, fun _ e => nomatch e⟩
  | int i =>
    obtain ⟨t, rfl⟩ := r
    cases (show T = "int" from ty)
    exact ⟨typeIs_int s i t, fun _ e => nomatch e⟩
  | ref p =>
    cases r
    rcases ty with ⟨rfl, xs, hq⟩ | ⟨rfl, o, hk, hc, hd⟩ | ⟨rfl, hk⟩ | ⟨rfl, S, n, hk⟩
    . obtain ⟨its, _, pl, _⟩ := I.list hq
      refine ⟨pl.isList.typeIs, fun a e => ?_⟩
      cases e
      refine hld fun g_ k_ => ?_; obtain ⟨o, n, e, c, hd, _⟩ := pl; refine k_ ?_; exact ⟨o, e, hd⟩
    . refine ⟨⟨o, I.kIn p o hk, hc⟩, fun a e => ?_⟩
      cases e
      exact ⟨o, I.kIn _ o hk, hd⟩
    . have z : ∃ o, s.heap.get? p = some o /\ o.ExactDict := by
        rcases hk with ⟨kvs, hk⟩ | ⟨kvs, hk⟩
        . obtain ⟨_, _, _, _, o, _, _, e, ex, _⟩ := I.hok p _ hk
          exact ⟨o, e, ex⟩
        . obtain ⟨_, _, _, _, o, _, _, e, ex, _⟩ := I.hok p _ hk
          exact ⟨o, e, ex⟩
      obtain ⟨o, e, ex⟩ := z; refine ⟨⟨o, e, ex.1⟩, fun a e2 => ?_⟩
      cases e2
      exact ⟨o, e, ex.2.1⟩
    . obtain ⟨o, _, _, _, e, ex, _⟩ := I.hok p _ hk
      refine ⟨⟨o, e, ex.1⟩, fun a e2 => ?_⟩
      cases e2
      exact ⟨o, e, ex.2.1⟩
  | _ => exact False.elim ty
inductive isTy (K : PySem.W.Frag) (T : String) (x : V) (H : Hp) (q : Prop) : Prop
  | mk (z1_ : tyV K T x H) (z2_ : q) : isTy K T x H q
def tBM0 (K : PySem.W.Frag) (T : String) (r : V -> List V -> Hp -> VK -> Prop) (to : TE) : TE := fun σ H Q => to σ H fun x H1 => isTy K T x H1 (r x [] H1 Q)
def tBM (K : PySem.W.Frag) (T : String) (r : V -> List V -> Hp -> VK -> Prop) (to : TE) (t : TA) : TE := fun σ H Q => to σ H fun x H1 => isTy K T x H1 (t σ H1 fun xs H2 => r x xs H2 Q)
variable {o e : Expr} {es : List Expr} {to : TE} {t : TA} {name : Str} {apos cpos : Pos} {T id : String} {r : V -> List V -> Hp -> VK -> Prop}
theorem pe_bm0 (pa : PlainAttrs T) (slot : Slot T name id) (hty : typeOf (.builtin id) = pure (.type "method_descriptor")) (hm : MtR X id r) (ho : PE X o to)
    (hbase : attributeBase o name X.env (eval o X.env) = eval o X.env := by rfl) (hline : (apos.endLine == cpos.line) = true := by rfl) : PE X (.Call (.Attribute o name apos) [] [] cpos) (tBM0 X.K T r to) := by
  intro pins s σ H Q I h; refine wpAny_Call_method0_late hbase hline (thn (ho pins s σ H _ I h) fun v s1 ⟨x, H1, I1, r1, ty, q1⟩ => ?_); obtain ⟨h1, h2⟩ := tyV_is I1 r1 ty; exact ⟨T, id, pa, slot, hty, h1, h2, Calls.callWith_builtin rfl (PySem.evalArgs_none (hm pins s1 σ H1 x [] v [] Q I1 r1 .nil q1))⟩
theorem pe_bm (pa : PlainAttrs T) (slot : Slot T name id) (hty : typeOf (.builtin id) = pure (.type "method_descriptor")) (hm : MtR X id r) (ho : PE X o to) (ha : PA X (e :: es) t)
    (hbase : attributeBase o name X.env (eval o X.env) = eval o X.env := by rfl)
    (hfew : ((backTo cpos (starEach (e :: es) X.env)).all (fun x => !x.1) && (backToKw cpos (keywordEach [] X.env)).all (fun x => x.1.isSome)
      && decide ((e :: es).length + ([] : List Keyword).length + (if ([] : List Keyword).isEmpty then 0 else 1) < 30)) = true := by rfl)
    (hline : (apos.endLine == cpos.line) = true := by rfl) (hs : starEach (e :: es) X.env = (false, eval e X.env) :: starEach es X.env := by rfl) (hplain : (backTo cpos (starEach es X.env)).any (·.1) = false := by rfl) :
    PE X (.Call (.Attribute o name apos) (e :: es) [] cpos) (tBM X.K T r to t) := by
  intro pins s σ H Q I h; refine wpAny_Call_method_late hbase hfew hline rfl (thn (ho pins s σ H _ I h) fun v s1 ⟨x, H1, I1, r1, ty, q1⟩ => ?_); obtain ⟨h1, h2⟩ := tyV_is I1 r1 ty; refine ⟨T, id, pa, slot, hty, h1, h2, ?_⟩; have hA := ha cpos pins s1 σ H1 _ I1 q1; rw [hs] at hA ⊢; refine Calls.callWith_builtin (by show (false || (backTo cpos (starEach es X.env)).any (·.1)) = false; rw [hplain] <;> rfl) (Calls.evalArgs_plain ?_)
  exact thn hA fun us s2 ⟨vs, H2, I2, r2, q2⟩ => hm pins s2 σ H2 x vs v us Q I2 r1 r2 q2
end
end L2
namespace L2
open PySem PySem.Spec PyProof.Rows
def MtM (X : Cx) (id : String) (r : V -> List V -> Hp -> VK -> Prop) : Prop :=
  ∀ (pins : List (Addr × Obj)) (s : Shared) (σ : St) (H : Hp) (x : V) (xs : List V) (v : Value) (us : List Value) (Q : VK), Inv X pins σ H s -> RelV x v -> Vals xs us -> r x xs H Q ->
    wpAny (model X.prog X.w) X.A (call (.builtin id) (v :: us)) (EP X pins σ Q) X.xe s
theorem Vals.one {x : V} {us : List Value} (h : Vals [x] us) : ∃ u, us = [u] /\ RelV x u := by
  cases h with
  | cons r t => cases t; exact ⟨_, rfl, r⟩
theorem Vals.two {x y : V} {us : List Value} (h : Vals [x, y] us) : ∃ u v, us = [u, v] /\ RelV x u /\ RelV y v := by
  cases h with
  | cons r t =>
    obtain ⟨v, rfl, q⟩ := Vals.one t; exact ⟨_, v, rfl, r, q⟩
theorem Vals.zero : ∀ {us : List Value}, Vals [] us -> us = []
  | _, .nil => rfl
theorem Vals.eraseIdx : ∀ {xs : List V} {us : List Value} (i : Nat), Vals xs us -> Vals (xs.eraseIdx i) (us.eraseIdx i)
  | _, _, _, .nil => .nil
  | _, _, 0, .cons _ t => t
  | _, _, i + 1, .cons r t => .cons r (Vals.eraseIdx i t)
theorem Vals.rep {xs : List V} {us : List Value} (h : Vals xs us) : ∀ k : Nat, Vals (List.replicate k xs).flatten (List.replicate k us).flatten
  | 0 => .nil
  | k + 1 => by
    rw [List.replicate_succ, List.replicate_succ, List.flatten_cons, List.flatten_cons]; exact Vals.append h (Vals.rep h k)
theorem len_erase {α : Type} : ∀ (l : List α) (i : Nat), (l.eraseIdx i).length <= l.length
  | [], _ => Nat.le_refl _
  | _ :: _, 0 => Nat.le_succ _
  | _ :: r, i + 1 => Nat.succ_le_succ (len_erase r i)
theorem foldl_rep (its : List Value) : ∀ (k : Nat) (acc : List Value),
    List.foldl (fun x1 x2 => x1 ++ x2) acc.toArray (List.replicate k its.toArray) = (acc ++ (List.replicate k its).flatten).toArray
  | 0, acc => by simp
  | k + 1, acc => by
    have e : acc.toArray ++ its.toArray = (acc ++ its).toArray := by simp
    have e2 : (acc ++ its) ++ (List.replicate k its).flatten = acc ++ (List.replicate (k + 1) its).flatten := by
      rw [List.replicate_succ, List.flatten_cons, List.append_assoc]
    rw [<- e2, <- foldl_rep its k (acc ++ its), <- e, List.replicate_succ, List.foldl_cons]
section
variable {X : Cx} {pins : List (Addr × Obj)} {σ : St} {H : Hp} {s : Shared} {l b : Addr} {xs ys zs : List V}
theorem Inv.lset {its its' : List Value} {n : Nat} {f : Array Value -> Array Value} {t' : Nat} (I : Inv X pins σ H s) (hH : H l = some (.lst xs))
    (e : s.heap.get? l = some { cls := .type "list", data := .seq its.toArray n }) (hf : f its.toArray = its'.toArray) (hv : Vals ys its') (hz : ys.length <= sizeLine) :
    Inv X pins σ (upd H l (.lst ys)) { s with heap := s.heap.update l (Obj.mapSeq f), toks := t' } := by
  have q := PySem.IsL.update e f; rw [hf] at q; refine I.write (x := l) (e := l) (by rw [hH]; exact trivial) (.inl rfl) (fun b' u hb hu => (Heap.get?_update_other s.heap (Obj.mapSeq f) (Ne.symm hb)).trans hu) ⟨_, q⟩ ?_
  exact ⟨hz, its', _, hv, q⟩
theorem Inv.lnew {its : List Value} {t' : Nat} (I : Inv X pins σ H s) (hv : Vals ys its) (hz : ys.length <= sizeLine) :
    Inv X pins σ (upd H s.heap.objs.size (.lst ys)) { s with heap := s.heap.push { cls := .type "list", data := .seq its.toArray }, toks := t' } :=
  I.laid (fun _ _ q => Heap.get?_push_of_some _ q) (Nat.le_refl _) ⟨hz, its, 0, hv, Heap.get?_push_size _ rfl⟩
theorem Inv.fresh (I : Inv X pins σ H s) : H s.heap.objs.size = none := I.hok.fresh (Nat.le_refl _)
theorem Inv.lstM (I : Inv X pins σ H s) (hH : H l = some (.lst xs)) : xs.length <= sizeLine /\ ∃ (its : List Value) (n : Nat), Vals xs its /\ xs.length = its.length /\ s.heap.get? l = some { cls := .type "list", data := .seq its.toArray n } := by
  refine hld fun g_ k_ => ?_; obtain ⟨z, its, n, r, e⟩ := I.hok l _ hH; refine k_ ?_; exact ⟨z, its, n, r, r.length, e⟩
theorem notLongL {n : Nat} (h : n <= sizeLine) : Builtin.List.listTooLong n = false := by
  unfold Builtin.List.listTooLong
  exact decide_eq_false (by omega)
end
section
variable {X : Cx}
inductive rAppend (x : V) (vs : (List V)) (H : Hp) (Q : VK) : Prop
  | mk (l : _) (xs : _) (y : _) (z1_ : x = .ref l) (z2_ : vs = [y]) (z3_ : H l = some (.lst xs)) (z4_ : xs.length < sizeLine) (z5_ : Q .non (upd H l (.lst (xs ++ [y])))) : rAppend x vs H Q
theorem mt_append : MtM X "list.append" rAppend := by
  intro pins s σ H x vs v us Q I rx rv h; obtain ⟨l, xs, y, rfl, rfl, hH, hz, q⟩ := h
  cases rx
  obtain ⟨u, rfl, ru⟩ := rv.one; refine hld fun g_ k_ => ?_; obtain ⟨z, its, n, r, hl, e⟩ := I.lstM hH; refine k_ ?_; refine call_meets F.slot_list_append ⟨_, e, rfl⟩ F.entry_list_append (F.args_list_append_2 _ _) (PySem.list_append l its.toArray n u (by rw [List.size_toArray]; omega)) ⟨e, ?_⟩
  refine ⟨.non, _, I.lset (its' := its ++ [u]) hH e (by simp) (r.append (.cons ru .nil)) ?_, rfl, q⟩
  rw [List.length_append, List.length_singleton]
  omega
inductive rExtend (x : V) (vs : (List V)) (H : Hp) (Q : VK) : Prop
  | mk (l : _) (b : _) (xs : _) (zs : _) (z1_ : x = .ref l) (z2_ : vs = [.ref b]) (z3_ : H l = some (.lst xs)) (z4_ : H b = some (.lst zs)) (z5_ : xs.length + zs.length <= sizeLine) (z6_ : Q .non (upd H l (.lst (xs ++ zs)))) : rExtend x vs H Q
theorem mt_extend : MtM X "list.extend" rExtend := by
  intro pins s σ H x vs v us Q I rx rv h; obtain ⟨l, b, xs, zs, rfl, rfl, hH, hB, hz, q⟩ := h
  cases rx
  obtain ⟨u, rfl, ru⟩ := rv.one
  cases ru
  refine hld fun g_ k_ => ?_; obtain ⟨z, its, n, r, hl, e⟩ := I.lstM hH; refine k_ ?_; refine hld fun g_ k_ => ?_; obtain ⟨z2, its2, n2, r2, hl2, e2⟩ := I.lstM hB; refine k_ ?_; have hsz : its.toArray.size + its2.toArray.size <= sizeLine := by rw [List.size_toArray, List.size_toArray]; omega
  have hlong : ¬ (!its.toArray.isEmpty && Builtin.List.listTooLong (its.toArray.size + its2.toArray.size)) = true := by
    rw [notLongL hsz, Bool.and_false]; exact Bool.false_ne_true
  refine call_meets F.slot_list_extend ⟨_, e, rfl⟩ F.entry_list_extend (F.args_list_extend_2 _ _)
    (AutoSeq1.list_extend_list_list_0 l its.toArray n b its2.toArray n2 hlong (by rw [List.size_toArray]; omega) (by omega)) ⟨e, e2, ?_⟩
  refine ⟨.non, _, I.lset (its' := its ++ its2) hH e (by simp) (r.append r2) ?_, rfl, q⟩
  rw [List.length_append]
  omega
inductive rPopAt (x : V) (vs : (List V)) (H : Hp) (Q : VK) : Prop
  | mk (l : _) (xs : _) (i : _) (k : _) (y : _) (z1_ : x = .ref l) (z2_ : vs = [.int i]) (z3_ : H l = some (.lst xs)) (z4_ : -(2 ^ 63) <= i) (z5_ : i < 2 ^ 63) (z6_ : seqIndex? i xs.length = some k) (z7_ : xs[k]? = some y) (z8_ : Q y (upd H l (.lst (xs.eraseIdx k)))) : rPopAt x vs H Q
theorem mt_popAt : MtM X "list.pop" rPopAt := by
  intro pins s σ H x vs v us Q I rx rv h; obtain ⟨l, xs, i, k, y, rfl, rfl, hH, h1, h2, hk, hy, q⟩ := h
  cases rx
  obtain ⟨u, rfl, ru⟩ := rv.one; obtain ⟨t, rfl⟩ := ru; refine hld fun g_ k_ => ?_; obtain ⟨z, its, n, r, hl, e⟩ := I.lstM hH; refine k_ ?_; obtain ⟨w, hw, rw'⟩ := r.get hy
  refine call_meets F.slot_list_pop ⟨_, e, rfl⟩ F.entry_list_pop (F.args_list_pop_2 _ _)
    (MeetsSeq.list_pop_at l its.toArray n i t k w (fitsIndex_both h1 h2) (by rw [List.size_toArray, <- hl]; exact hk) (by rw [<- Array.getElem?_toList]; exact hw) (by rw [List.size_toArray]; omega)) ⟨e, ?_⟩
  refine ⟨y, _, I.lset (its' := its.eraseIdx k) hH e ?_ (r.eraseIdx k) ?_, rw', q⟩
  . show its.toArray.eraseIdxIfInBounds k = (its.eraseIdx k).toArray
    rw [List.eraseIdxIfInBounds_toArray]
  . have := len_erase xs k
    omega
inductive rCat (x : V) (y : V) (H : Hp) (Q : VK) : Prop
  | mk (l : _) (b : _) (xs : _) (zs : _) (z1_ : x = .ref l) (z2_ : y = .ref b) (z3_ : H l = some (.lst xs)) (z4_ : H b = some (.lst zs)) (z5_ : xs.length + zs.length <= sizeLine) (z6_ : ∀ p, H p = none -> Q (.ref p) (upd H p (.lst (xs ++ zs)))) : rCat x y H Q
theorem op_cat : OpR X (binaryOp .Add) rCat := by
  intro pins s σ H x y v u Q I rx ry h; obtain ⟨l, b, xs, zs, rfl, rfl, hH, hB, hz, q⟩ := h
  cases rx
  cases ry
  refine hld fun g_ k_ => ?_; obtain ⟨z, its, n, r, hl, e⟩ := I.lstM hH; refine k_ ?_; refine hld fun g_ k_ => ?_; obtain ⟨z2, its2, n2, r2, hl2, e2⟩ := I.lstM hB; refine k_ ?_; refine PySem.P.add_list e e2 ?_ (by rw [List.size_toArray, List.size_toArray]; omega)
  have ea : its.toArray ++ its2.toArray = (its ++ its2).toArray := by simp
  rw [ea]; exact ⟨.ref _, _, I.lnew (t' := s.toks) (r.append r2) (by rw [List.length_append]; omega), rfl, q _ I.fresh⟩
inductive rRep (x : V) (y : V) (H : Hp) (Q : VK) : Prop
  | mk (l : _) (k : _) (xs : _) (z1_ : x = .ref l) (z2_ : y = .int k) (z3_ : H l = some (.lst xs)) (z4_ : -(2 ^ 63) <= k) (z5_ : k < 2 ^ 63) (z6_ : xs.length * k.toNat <= sizeLine) (z7_ : ∀ p, H p = none -> Q (.ref p) (upd H p (.lst (List.replicate k.toNat xs).flatten))) : rRep x y H Q
theorem len_rep {α : Type} (xs : List α) (k : Nat) : (List.replicate k xs).flatten.length = k * xs.length := by
  induction k with
  | zero => simp
  | succ k ih => rw [List.replicate_succ, List.flatten_cons, List.length_append, ih, Nat.succ_mul, Nat.add_comm]
theorem op_rep : OpR X (binaryOp .Mult) rRep := by
  intro pins s σ H x y v u Q I rx ry h; obtain ⟨l, k, xs, rfl, rfl, hH, h1, h2, hz, q⟩ := h
  cases rx
  obtain ⟨t, rfl⟩ := ry; refine hld fun g_ k_ => ?_; obtain ⟨z, its, n, r, hl, e⟩ := I.lstM hH; refine k_ ?_; have hlen : its.toArray.size * k.toNat <= sizeLine := by rw [List.size_toArray, <- hl]; exact hz
  have hcap : ¬ its.toArray.size * k.toNat > (2 ^ 63 - 1) / 8 := by
    have : (sizeLine : Nat) <= (2 ^ 63 - 1) / 8 := by decide
    omega
  have hfit : ¬ (!Builtin.List.listFitsIndex k) = true := by
    rw [fitsIndex_both h1 h2]; exact Bool.false_ne_true
  have hlong : ¬ Builtin.List.listTooLong (its.toArray.size * k.toNat) = true := by
    rw [notLongL hlen]; exact Bool.false_ne_true
  have hnew : List.foldl (fun x1 x2 => x1 ++ x2) #[] (List.replicate (if its.toArray.isEmpty = true then 0 else k.toNat) its.toArray) = (List.replicate k.toNat its).flatten.toArray := by
    have f0 : ∀ m : Nat, List.foldl (fun x1 x2 => x1 ++ x2) #[] (List.replicate m its.toArray) = (List.replicate m its).flatten.toArray := fun m => by
      have := foldl_rep its m []; rw [List.nil_append] at this; exact this
    rw [f0]
    cases its with
    | nil => simp
    | cons a r' => rw [if_neg (by simp)]
  refine wpAny_binaryOp_repeat_ref (T := "list") (U := "int") (by decide) ⟨_, e, rfl⟩ (fun s' => typeIs_int s' k t) noFill_list_mul F.fills_int_mul F.slot_int_rmul repeat_list F.slot_int_index.lookup
    (call_meets F.slot_int_rmul (typeIs_int s k t) F.entry_int_rmul (F.args_int_rmul_2 _ _) (int___rmul___int_list k t l its.toArray n)
      ⟨e, rfl, ⟨_, e, rfl⟩, call_meets F.slot_list_mul ⟨_, e, rfl⟩ F.entry_list_mul (F.args_list_mul_2 _ _) (AutoListH.list___mul___list_int_3 l its.toArray n k t hfit hcap hlong) ⟨e, ?_⟩⟩)
  rw [hnew]; exact ⟨.ref _, _, I.lnew (t' := s.toks) (r.rep k.toNat) (by rw [len_rep, Nat.mul_comm]; exact hz), rfl, q _ I.fresh⟩
end
end L2
namespace Att
open PySem PySem.W PySem.Calls PyProof.Rows
theorem ints_of_wellAll {P : Params} {h : Heap} : ∀ (ns : List Int) (vs : List Value), WellAll P h vs (ns.map WData.int) -> IntsAre vs ns := by
  intro ns
  induction ns with
  | nil =>
    intro vs w; rw [List.map_nil] at w
    cases w
    exact .nil
  | cons n ns ih =>
    intro vs w; rw [List.map_cons] at w
    cases w with
    | cons a b =>
      cases a
      exact .cons _ _ (ih _ b)
theorem script_of {l : OpenLaw} {n : Nat} (hn : l.most = some n) {P : Params} {h : Heap} {args : List WData} {vals : List Value}
    (hpre : l.row.toRowW.claim.pre args = true) (hwl : WellAll P h vals args) :
    ∃ a vs ns, vals = [Value.ref a] /\ args = [WData.list (ns.map WData.int)] /\ h.get? a = some { cls := .type "list", data := .seq vs.toArray } /\ IntsAre vs ns /\ ns.length <= n := by
  have hsh : WShape.hasAll [] args [.list .int] = true := (pre_splitW hpre).1; have hc : l.pre.holds [] { args := args } = true := (pre_splitW hpre).2; refine hld fun g_ k_ => ?_; obtain ⟨d, r, rfl, h1, h2⟩ := hasAllW_cons hsh; refine k_ ?_; obtain rfl := hasAllW_nil h2; obtain ⟨xs, rfl, h3⟩ := hasW_list h1; obtain ⟨ns, rfl⟩ := items_int h3
  have hlen : ns.length <= n := by
    unfold OpenLaw.pre at hc
    have h4 : (WTm.not (.lt (.lit (.int (n : Int))) (.len (.arg 0)))).holds [] { args := [.list (ns.map .int)] } = true := by
      have h4 := (holds_andW hc).1; rw [hn] at h4; exact h4
    have h5 := condW_of h4 (w_not (w_lt w_lit (w_len_list (w_arg rfl)))); rw [List.length_map] at h5; refine Nat.le_of_not_lt fun q => ?_; have q' : (n : Int) < ((ns.length : Nat) : Int) := by omega
    first
      | (rw [decide_eq_true q'] at h5; exact absurd h5 (by decide))
      | (simp at h5; omega)
  cases hwl with
  | cons w1 w2 =>
    cases w2
    cases w1 with
    | list ho hall => exact ⟨_, _, ns, rfl, rfl, ho, ints_of_wellAll ns _ hall, hlen⟩
theorem post_true (l : OpenLaw) (args : List WData) : l.row.toRowW.claim.post args (.bool true) args = true :=
  postW_of (r := l.row.toRowW) (X := (true == true))
    (show WShape.has [] (.bool true) .bool = true by first | rfl | decide | simp [WShape.has, WShape.arms, WShape.armsAll])
    (show (WTm.eq .res (.lit (.bool true))).value [] { args := args, res := some (.bool true), after := args } = some (.bool (true == true)) from w_eq_bool (w_res rfl) w_lit) rfl
theorem attach_call {l : OpenLaw} {n : Nat} {q : Program} {loose : List Str} {XP : (Str -> Option Value) -> Heap -> Prop} {YP : World -> Heap -> Prop} {d : DefRec}
    (hn : l.most = some n) (hdf : d.params.defaults = [])
    (call : ∀ (w : World) (s₀ s₁ : Shared) (mg mb : Str -> Option Value) (fa : Addr) (o : Obj) (pm cd doc : Value) (a : Addr) (vs : List Value) (ns : List Int),
      Ground q loose [] XP w s₀ mg mb s₁.heap -> YP w s₁.heap ->
      s₁.heap.get? fa = some o -> o.data = .func (docDef d.name d.params d.body d.scope pm cd doc) -> s₁.heap.CodeRec cd d.name -> mg d.name = some (.ref fa) ->
      s₁.heap.get? a = some { cls := .type "list", data := .seq vs.toArray } -> IntsAre vs ns -> ns.length <= n -> s₁.gens = #[] ->
      codeAny (model l.prog w) callerA (.call (.ref fa) ⟨[.ref a], []⟩) (fun r s' => r = .ok (.ret (.bool true)) /\ OldK s₁.heap s'.heap /\ s'.os = s₁.os /\ AllBare s'.gens) s₁) :
    WalkO q loose XP YP l.row.toRowW d [] (fun f vs => PySem.call f vs) := by
  intro w s₀ s₁ mg mb G Y fa o pm cd doc dV kV ho hd hcd hD hmg hg args vals as hpre hlay hrd hwl hlo; obtain rfl : dV = .none := Dflts.none hD hdf; obtain rfl : kV = .none := Dflts.noKw hD; refine hld fun g_ k_ => ?_; obtain ⟨a, vs, ns, rfl, rfl, hobj, hints, hlen⟩ := script_of hn hpre hwl; refine k_ ?_; refine enter_call (codeAny_mono (call w s₀ s₁ mg mb fa o pm cd doc a vs ns G Y ho (fd_plain hd) hcd hmg hobj hints hlen hg) fun r s' hq => ?_); obtain ⟨rfl, h2, h3, h4⟩ := hq; exact ⟨.inl ⟨.bool true, .bool true, [], rfl, fun _ => rfl, .bool true, post_true l _, fun _ => ⟨List.Pairwise.nil, fun _ hm => (nomatch hm)⟩⟩, h2, h3, h4⟩
end Att
namespace L2
open PySem PySem.Spec PyProof.Rows
theorem vals_ints : ∀ {vs : List Value} {ns : List Int}, IntsAre vs ns -> Vals (ns.map V.int) vs
  | _, _, .nil => .nil
  | _, _, .cons n t h => .cons ⟨t, rfl⟩ (vals_ints h)
end L2
namespace L2
open PySem PySem.Spec PyProof.Rows
end L2
namespace L2
open PySem PySem.Spec PyProof.Rows
def defArgs (s : Stmt) : Arguments := match s with
  | .FunctionDef _ a _ _ _ _ _ _ _ _ => a
  | _ => { posonlyargs := [], args := [], vararg := none, kwonlyargs := [], kw_defaults := [], kwarg := none, defaults := [] }
def defBody (s : Stmt) : List Stmt := match s with
  | .FunctionDef _ _ b _ _ _ _ _ _ _ => b
  | _ => []
def defScope (s : Stmt) : Scope := match s with
  | .FunctionDef _ _ _ _ _ _ sc _ _ _ => sc
  | _ => { kind := .function, names := [], isGenerator := false, isCoroutine := false }
abbrev CX0 : CXT := fun _ _ _ _ _ _ => False
abbrev E0 : XK := fun _ _ _ => False
theorem pass0 {X : Cx} : Passes CX0 X E0 := fun _ _ _ _ _ _ _ h => h.elim
structure Fun (K : PySem.W.Frag) (x qual : Str) (st : Stmt) (f : Addr) (fd : FuncData) : Prop where
  ex : ∃ (oc : Value) (od : Option Addr) (kV doc pm : Value) (an : Option Addr) (cdv ct : Value) (osl : Array (Option Value)),
    fd = PySem.W.fnOf x qual (defArgs st) (defBody st) (defScope st) .none kV doc pm an cdv ct /\ K.lookup f = some ⟨oc, od, .func fd, osl⟩ /\ PySem.W.codeIn K cdv qual = true
  kp : PySem.W.keepIn K (.ref f) = true
section
variable {P : Program} {w : World} {K : PySem.W.Frag} {mg : Str -> Option Value} {base : Heap}
theorem Fun.ok {x qual : Str} {st : Stmt} {f : Addr} {fd : FuncData} {N ps : List Str} {k : Nat} {sp : Sp} (F : Fun K x qual st f fd) (S : FnScope N ps (defScope st)) (len : ∀ vs H Q E, sp vs H Q E -> vs.length = ps.length)
    (hbody : ∀ (cdv : Value) (A : Around) (outer : List Env) (s : Shared) (H : Hp) (vs : List V) (Q : VK) (E : XK), Room k (A.deeper (envOfC qual (defScope st) s.heap.objs.size f cdv)) -> sp vs H Q E ->
      ∃ t, PSs (cxOf CX0 P w K mg base N qual (defScope st) f cdv A outer s H E).nox (defBody st) t /\ t { nx := fun _ H' => Q .non H', rt := Q } (start N vs) H) : FnOk P w K mg base CX0 (k + 1) f fd ps sp := by
  refine hld fun g_ k_ => ?_; obtain ⟨oc, od, kV, doc, pm, an, cdv, ct, osl, rfl, lk, hcd⟩ := F.ex; refine k_ ?_; refine fn_of lk hcd S len fun A outer s H vs Q E hr hsp => ?_; obtain ⟨t, h, q⟩ := hbody cdv A outer s H vs Q E hr hsp; exact ⟨t, h.nox, q⟩
theorem Fun.binds {x qual : Str} {st : Stmt} {f : Addr} {fd : FuncData} {ps : List Str} (F : Fun K x qual st f fd)
    (h : ∀ (kV doc pm : Value) (an : Option Addr) (cdv ct : Value) (us : List Value), us.length = ps.length -> bindArgs (PySem.W.fnOf x qual (defArgs st) (defBody st) (defScope st) .none kV doc pm an cdv ct) ⟨us, []⟩ = pure (ps.zip us)) : Binds K fd ps [] := by
  refine hld fun g_ k_ => ?_; obtain ⟨oc, od, kV, doc, pm, an, cdv, ct, osl, rfl, lk, hcd⟩ := F.ex; refine k_ ?_; exact .all (h kV doc pm an cdv ct)
theorem fun_mk {x qual : Str} {st : Stmt} {f : Addr} {oc : Value} {od an : Option Addr} {osl : Array (Option Value)} {kV doc pm cdv ct : Value} (l : K.lookup f = some ⟨oc, od, .func (PySem.W.fnOf x qual (defArgs st) (defBody st) (defScope st) .none kV doc pm an cdv ct), osl⟩)
    (c : PySem.W.codeIn K cdv qual = true) (k : PySem.W.keepIn K (.ref f) = true) : Fun K x qual st f (PySem.W.fnOf x qual (defArgs st) (defBody st) (defScope st) .none kV doc pm an cdv ct) := ⟨⟨oc, od, kV, doc, pm, an, cdv, ct, osl, rfl, l, c⟩, k⟩
end
section
variable {X : Cx}
theorem pv (i : Nat) {x : Str} {pos : Pos} (hN : X.N[i]? = some x := by rfl) (hv : Vis X.env.scope x := by first | exact Or.inl rfl | exact Or.inr (Or.inl rfl) | exact Or.inr (Or.inr rfl)) (hd : (x == ("__debug__" : Str)) = false := by decide)
    (hcd : (x == ("__classdict__" : Str)) = false := by decide) : PE X (.Name x pos) (tVar i) := pe_var hN hv hd hcd
end
theorem iteF {A B : Prop} (h : B) : if false = true then A else B := by
  rw [if_neg Bool.false_ne_true]; exact h
theorem iteT {A B : Prop} (h : A) : if true = true then A else B := by
  rw [if_pos rfl]; exact h
theorem ite2 {c A B : Prop} [Decidable c] (h1 : c -> A) (h2 : ¬ c -> B) : if c then A else B := by
  by_cases h : c
  . rw [if_pos h]
    exact h1 h
  . rw [if_neg h]
    exact h2 h
theorem iteNS {c A B : Prop} [Decidable c] (hc : c) (h : B) : if (!decide c) = true then A else B := by
  rw [decide_eq_true hc]; exact iteF h
def Same (H H' : Hp) : Prop := ∀ b o, H b = some o -> H' b = some o
theorem Same.refl (H : Hp) : Same H H := fun _ _ h => h
theorem Same.trans {H H1 H2 : Hp} (a : Same H H1) (b : Same H1 H2) : Same H H2 := fun c o h => b c o (a c o h)
theorem Same.free {H H' : Hp} (e : Same H H') {l : Addr} (h : H' l = Option.none) : H l = Option.none := by
  cases q : H l with
  | none => rfl
  | some o =>
    rw [e l o q] at h
    cases h
end L2
namespace KM
abbrev Tx := List Nat
def leT (a b : Tx) : Bool := decide (a <= b)
def srt (ts : List Tx) : List Tx := ts.mergeSort leT
theorem leT_iff {a b : Tx} : leT a b = true ↔ a <= b := by unfold leT; exact decide_eq_true_iff
theorem srt_perm (ts : List Tx) : (srt ts).Perm ts := List.mergeSort_perm ts leT
theorem srt_pw (ts : List Tx) : (srt ts).Pairwise (fun a b => a <= b) := by
  have h := List.pairwise_mergeSort (le := leT) (fun a b c h1 h2 => leT_iff.mpr (List.le_trans (leT_iff.mp h1) (leT_iff.mp h2)))
    (fun a b => by
      rcases List.le_total a b with h | h
      . rw [leT_iff.mpr h]; rfl
      . rw [leT_iff.mpr h, Bool.or_true]) ts
  exact h.imp fun h => leT_iff.mp h
theorem srt_of {ss ts : List Tx} (hp : ss.Perm ts) (hs : ss.Pairwise (fun a b => a <= b)) : ss = srt ts :=
  List.Perm.eq_of_pairwise (le := fun a b => a <= b) (fun a b _ _ h1 h2 => List.le_antisymm h1 h2) hs (srt_pw ts) (hp.trans (srt_perm ts).symm)
theorem srt_congr {ss ts : List Tx} (hp : ss.Perm ts) : srt ss = srt ts := srt_of ((srt_perm ss).trans hp) (srt_pw ss)
abbrev Ab := List (Option Nat)
theorem getD_lt {α : Type} {l : List α} {i : Nat} {d : α} (h : i < l.length) : l.getD i d = l[i] := by simp [h]
theorem sub_sum : ∀ {l₁ l₂ : List Nat}, l₁.Sublist l₂ -> l₁.sum <= l₂.sum
  | _, _, .slnil => Nat.le_refl _
  | _, _, .cons a h => by rw [List.sum_cons]; have := sub_sum h; omega
  | _, _, .cons_cons a h => by rw [List.sum_cons, List.sum_cons]; have := sub_sum h; omega
def kids (ab : Ab) (k : Nat) : List Nat := (List.range ab.length).filter fun j => ab[j]? == some (some k)
theorem mem_kids {ab : Ab} {k j : Nat} : j ∈ kids ab k ↔ ab[j]? = some (some k) := by
  unfold kids
  rw [List.mem_filter, List.mem_range]
  constructor
  . intro h; exact eq_of_beq h.2
  . intro h
    exact ⟨(List.getElem?_eq_some_iff.mp h).1, by rw [h]; exact beq_self_eq_true _⟩
theorem kids_nodup (ab : Ab) (k : Nat) : (kids ab k).Nodup := List.Pairwise.sublist List.filter_sublist List.nodup_range
theorem kids_lt {ab : Ab} {k j : Nat} (h : j ∈ kids ab k) : j < ab.length := (List.getElem?_eq_some_iff.mp (mem_kids.mp h)).1
def brk (t : Tx) : Tx := 40 :: (t ++ [41])
def form (ab : Ab) : Nat -> Nat -> Tx
  | 0, _ => []
  | f + 1, k => brk (srt ((kids ab k).map (form ab f))).flatten
structure Renum (ab ab' : Ab) (nm : List Nat) : Prop where
  len : ab'.length = ab.length
  perm : nm.Perm (List.range ab.length)
  par : ∀ (j p : Nat), ab[j]? = some (some p) -> p < ab.length
  at' : ∀ (j k : Nat), nm[j]? = some k -> ab'[k]? = some ((ab[j]?.getD none).map fun p => nm.getD p 0)
section
variable {ab ab' : Ab} {nm : List Nat}
theorem Renum.nd (R : Renum ab ab' nm) : nm.Nodup := R.perm.nodup_iff.mpr List.nodup_range
theorem Renum.nlen (R : Renum ab ab' nm) : nm.length = ab.length := by rw [R.perm.length_eq, List.length_range]
end
structure Tree (ab : Ab) (r : Nat) (rk : Nat -> Nat) : Prop where
  root : ab[r]? = some none
  only : ∀ (j : Nat), ab[j]? = some none -> j = r
  up : ∀ (j p : Nat), ab[j]? = some (some p) -> p < ab.length /\ rk p < rk j
  low : ∀ (j : Nat), j < ab.length -> rk j < ab.length
section
variable {ab : Ab} {r : Nat} {rk : Nat -> Nat}
theorem Tree.stable (T : Tree ab r rk) : ∀ (d k f g : Nat), k < ab.length -> ab.length - rk k <= d -> ab.length - rk k <= f -> ab.length - rk k <= g -> form ab f k = form ab g k
  | 0, k, f, g, hk, hd, _, _ => by have := T.low k hk; omega
  | d + 1, k, f, g, hk, hd, hf, hg => by
    have h0 := T.low k hk; obtain ⟨f', rfl⟩ : ∃ f', f = f' + 1 := ⟨f - 1, by omega⟩
    obtain ⟨g', rfl⟩ : ∃ g', g = g' + 1 := ⟨g - 1, by omega⟩
    show brk _ = brk _
    congr 3
    refine List.map_congr_left fun c hc => ?_; have h1 := (T.up c k (mem_kids.mp hc)).2; have h2 := T.low c (kids_lt hc); exact T.stable d c f' g' (kids_lt hc) (by omega) (by omega) (by omega)
def fm (ab : Ab) (k : Nat) : Tx := form ab ab.length k
theorem Tree.fm_eq (T : Tree ab r rk) {k : Nat} (hk : k < ab.length) : fm ab k = brk (srt ((kids ab k).map (fm ab))).flatten := by
  have e : fm ab k = form ab (ab.length + 1) k := T.stable _ k _ _ hk (Nat.le_refl _) (by omega) (by omega)
  rw [e]
  rfl
end
theorem sum_map_le {α : Type} (l : List α) (f g : α -> Nat) (h : ∀ a ∈ l, f a <= g a) : (l.map f).sum <= (l.map g).sum := by
  induction l with
  | nil => exact Nat.le_refl _
  | cons a l ih =>
    rw [List.map_cons, List.map_cons, List.sum_cons, List.sum_cons]; exact Nat.add_le_add (h a List.mem_cons_self) (ih fun b hb => h b (List.mem_cons_of_mem _ hb))
theorem sum_map_add {α : Type} (l : List α) (f g : α -> Nat) : (l.map fun a => f a + g a).sum = (l.map f).sum + (l.map g).sum := by
  induction l with
  | nil => rfl
  | cons a l ih => rw [List.map_cons, List.map_cons, List.map_cons, List.sum_cons, List.sum_cons, List.sum_cons, ih]; omega
theorem sum_const {α : Type} (l : List α) (c : Nat) : (l.map fun _ => c).sum = l.length * c := by
  induction l with
  | nil => simp
  | cons a l ih => rw [List.map_cons, List.sum_cons, ih, List.length_cons, Nat.add_mul]; omega
theorem one_above (o : Option (Option Nat)) (x : Nat) : ∀ l : List Nat, l.Nodup -> (l.map fun k => if o == some (some k) then x else 0).sum <= x
  | [], _ => by simp
  | k :: l, h => by
    rw [List.map_cons, List.sum_cons]; have hn := List.nodup_cons.mp h
    by_cases e : (o == some (some k)) = true
    . rw [if_pos e]
      have z : (l.map fun k => if o == some (some k) then x else 0) = l.map fun _ => 0 := by
        refine List.map_congr_left fun j hj => ?_; rw [if_neg]; intro q; rw [eq_of_beq e] at q; have : k = j := Option.some.inj (Option.some.inj (eq_of_beq q)); subst this; exact hn.1 hj
      rw [z, sum_const]
      omega
    . rw [if_neg e]
      have := one_above o x l hn.2
      omega
theorem sum_filter (ab : Ab) (g : Nat -> Nat) (ks : List Nat) (hk : ks.Nodup) : ∀ l : List Nat,
    (ks.map fun k => ((l.filter fun j => ab[j]? == some (some k)).map g).sum).sum <= (l.map g).sum
  | [] => by
    have : (ks.map fun k => ((([] : List Nat).filter fun j => ab[j]? == some (some k)).map g).sum) = ks.map fun _ => 0 := rfl; rw [this, sum_const]
    simp
  | j :: l => by
    have ih := sum_filter ab g ks hk l
    have e : (ks.map fun k => (((j :: l).filter fun i => ab[i]? == some (some k)).map g).sum) =
        ks.map fun k => (if ab[j]? == some (some k) then g j else 0) + ((l.filter fun i => ab[i]? == some (some k)).map g).sum := by
      refine List.map_congr_left fun k _ => ?_
      by_cases q : (ab[j]? == some (some k)) = true
      . rw [List.filter_cons_of_pos (p := fun i => ab[i]? == some (some k)) q, List.map_cons, List.sum_cons, if_pos q]
      . rw [List.filter_cons_of_neg (p := fun i => ab[i]? == some (some k)) q, if_neg q, Nat.zero_add]
    rw [e, sum_map_add, List.map_cons, List.sum_cons]; have := one_above ab[j]? (g j) ks hk
    omega
theorem brk_len (t : Tx) : (brk t).length = t.length + 2 := by
  unfold brk
  rw [List.length_cons, List.length_append, List.length_singleton]
theorem flat_len (ts : List Tx) : ts.flatten.length = (ts.map (·.length)).sum := List.length_flatten
theorem srt_len (ts : List Tx) : (srt ts).flatten.length = (ts.map (·.length)).sum := by
  rw [flat_len]; exact ((srt_perm ts).map _).sum_nat
theorem form_len (ab : Ab) (f k : Nat) : (form ab (f + 1) k).length = ((kids ab k).map fun c => (form ab f c).length).sum + 2 := by
  show (brk _).length = _
  rw [brk_len, srt_len, List.map_map]
  rfl
theorem forms_all (ab : Ab) : ∀ f : Nat, ((List.range ab.length).map fun k => (form ab f k).length).sum <= 2 * ab.length * f
  | 0 => by
    have : ((List.range ab.length).map fun k => (form ab 0 k).length) = (List.range ab.length).map fun _ => 0 := rfl; rw [this, sum_const]; simp
  | f + 1 => by
    have e : ((List.range ab.length).map fun k => (form ab (f + 1) k).length) = (List.range ab.length).map fun k => ((kids ab k).map fun c => (form ab f c).length).sum + 2 :=
      List.map_congr_left fun k _ => form_len ab f k
    rw [e, sum_map_add, sum_const, List.length_range]; have h1 : ((List.range ab.length).map fun k => ((kids ab k).map fun c => (form ab f c).length).sum).sum <= _ := sum_filter ab (fun c => (form ab f c).length) (List.range ab.length) List.nodup_range (List.range ab.length); have h2 := forms_all ab f; rw [Nat.mul_add]
    omega
theorem mem_le_sum {l : List Nat} {x : Nat} (h : x ∈ l) : x <= l.sum := by
  induction l with
  | nil => cases h
  | cons a l ih =>
    rw [List.sum_cons]
    rcases List.mem_cons.mp h with rfl | h
    . omega
    . have := ih h; omega
theorem fm_kids_len (ab : Ab) (k : Nat) : ((kids ab k).map fun c => (fm ab c).length).sum <= 2 * ab.length * ab.length := by
  have h1 : ((kids ab k).map fun c => (fm ab c).length).sum <= ((List.range ab.length).map fun c => (form ab ab.length c).length).sum := by
    unfold kids fm
    exact sub_sum (List.Sublist.map _ List.filter_sublist)
  exact Nat.le_trans h1 (forms_all ab _)
def kidsTo (ab : Ab) (k i : Nat) : List Nat := (List.range i).filter fun j => ab[j]? == some (some k)
theorem kidsTo_all (ab : Ab) (k : Nat) : kidsTo ab k ab.length = kids ab k := rfl
theorem kidsTo_hit {ab : Ab} {k i : Nat} (h : ab[i]? = some (some k)) : kidsTo ab k (i + 1) = kidsTo ab k i ++ [i] := by
  unfold kidsTo
  rw [List.range_succ, List.filter_append]
  congr 1
  rw [List.filter_cons_of_pos (by rw [h]; exact beq_self_eq_true _)]
  rfl
theorem kidsTo_miss {ab : Ab} {k i : Nat} (h : ab[i]? ≠ some (some k)) : kidsTo ab k (i + 1) = kidsTo ab k i := by
  unfold kidsTo
  rw [List.range_succ, List.filter_append, List.filter_cons_of_neg (by intro q; exact h (eq_of_beq q))]
  simp
theorem kidsTo_len (ab : Ab) (k i : Nat) : (kidsTo ab k i).length <= i := by
  have h := List.length_filter_le (fun j => ab[j]? == some (some k)) (List.range i); rw [List.length_range] at h; exact h
def rootsTo (ab : Ab) (i : Nat) : List Nat := (List.range i).filter fun j => ab[j]? == some none
theorem rootsTo_hit {ab : Ab} {i : Nat} (h : ab[i]? = some none) : rootsTo ab (i + 1) = rootsTo ab i ++ [i] := by
  unfold rootsTo
  rw [List.range_succ, List.filter_append]
  congr 1
  rw [List.filter_cons_of_pos (by rw [h]; exact beq_self_eq_true _)]
  rfl
theorem rootsTo_miss {ab : Ab} {i : Nat} (h : ab[i]? ≠ some none) : rootsTo ab (i + 1) = rootsTo ab i := by
  unfold rootsTo
  rw [List.range_succ, List.filter_append, List.filter_cons_of_neg (by intro q; exact h (eq_of_beq q))]
  simp
theorem rootsTo_len (ab : Ab) (i : Nat) : (rootsTo ab i).length <= i := by
  have h := List.length_filter_le (fun j => ab[j]? == some none) (List.range i); rw [List.length_range] at h; exact h
section
variable {ab : Ab} {r : Nat} {rk : Nat -> Nat}
theorem Tree.rlt (T : Tree ab r rk) : r < ab.length := (List.getElem?_eq_some_iff.mp T.root).1
structure Bfs (ab : Ab) (r : Nat) (ord : List Nat) (pl : Nat) : Prop where
  nd : ord.Nodup
  lt : ∀ k ∈ ord, k < ab.length
  eq : ord = r :: (ord.take pl).flatMap (kids ab)
  le : pl <= ord.length
  late : ∀ (i k c : Nat), i < pl -> ord[i]? = some k -> c ∈ kids ab k -> ∃ j, i < j /\ ord[j]? = some c
theorem Bfs.len {ord : List Nat} {pl : Nat} (B : Bfs ab r ord pl) : ord.length <= ab.length := by
  have h := B.nd.length_le_of_subset (l₂ := List.range ab.length) fun k hk => List.mem_range.mpr (B.lt k hk); rw [List.length_range] at h; exact h
theorem Bfs.all (T : Tree ab r rk) {ord : List Nat} (B : Bfs ab r ord ord.length) : ∀ (d j : Nat), rk j <= d -> j < ab.length -> j ∈ ord
  | d, j, hd, hj => by
    cases q : ab[j] with
    | none =>
      have := T.only j (by rw [List.getElem?_eq_getElem hj, q])
      subst this; rw [B.eq]; exact List.mem_cons_self
    | some p =>
      have hp : ab[j]? = some (some p) := by rw [List.getElem?_eq_getElem hj, q]
      obtain ⟨hpl, hr⟩ := T.up j p hp
      have hm : p ∈ ord := by
        match d, hd with
        | 0, hd => omega
        | d + 1, hd => exact Bfs.all T B d p (by omega) hpl
      obtain ⟨i, hi⟩ := List.mem_iff_getElem?.mp hm; obtain ⟨j', _, hj'⟩ := B.late i p j (List.getElem?_eq_some_iff.mp hi).1 hi (mem_kids.mpr hp); exact List.mem_iff_getElem?.mpr ⟨j', hj'⟩
theorem Bfs.whole (T : Tree ab r rk) {ord : List Nat} (B : Bfs ab r ord ord.length) : ord.length = ab.length := by
  have h1 := B.len; have h2 := List.nodup_range.length_le_of_subset (l₁ := List.range ab.length) (l₂ := ord) fun j hj => Bfs.all T B _ j (Nat.le_refl _) (List.mem_range.mp hj); rw [List.length_range] at h2
  omega
end
structure Up (ab : Ab) : Prop where
  root : ab[0]? = some none
  up : ∀ (j : Nat), 0 < j -> j < ab.length -> ∃ p, ab[j]? = some (some p) /\ p < j
theorem up1 : Up [none] := ⟨rfl, fun j h1 h2 => by simp at h2; omega⟩
theorem Up.pos {ab : Ab} (U : Up ab) : 0 < ab.length := (List.getElem?_eq_some_iff.mp U.root).1
theorem Up.snoc {ab : Ab} (U : Up ab) {p : Nat} (h : p < ab.length) : Up (ab ++ [some p]) := by
  refine ⟨by rw [List.getElem?_append_left U.pos]; exact U.root, fun j h1 h2 => ?_⟩
  rw [List.length_append, List.length_singleton] at h2
  by_cases e : j < ab.length
  . rw [List.getElem?_append_left e]; exact U.up j h1 e
  . have : j = ab.length := by omega
    subst this; exact ⟨p, by rw [List.getElem?_append_right (Nat.le_refl _), Nat.sub_self]; rfl, h⟩
theorem Up.take {ab : Ab} (U : Up ab) {n : Nat} (h : 0 < n) : Up (ab.take n) := by
  refine ⟨by rw [List.getElem?_take_of_lt h]; exact U.root, fun j h1 h2 => ?_⟩
  rw [List.length_take] at h2; rw [List.getElem?_take_of_lt (by omega)]
  exact U.up j h1 (by omega)
theorem Up.tree {ab : Ab} (U : Up ab) : Tree ab 0 id where
  root := U.root
  only := by
    intro j hj
    by_cases h : 0 < j
    . obtain ⟨p, hp, _⟩ := U.up j h (List.getElem?_eq_some_iff.mp hj).1
      rw [hp] at hj; cases hj
    . omega
  up := by
    intro j p hj; have hl := (List.getElem?_eq_some_iff.mp hj).1
    by_cases h : 0 < j
    . obtain ⟨q, hq, hlt⟩ := U.up j h hl
      rw [hq] at hj
      cases hj
      exact ⟨by omega, hlt⟩
    . have : j = 0 := by omega
      subst this; rw [U.root] at hj; cases hj
  low := fun j h => h
theorem Renum.tree {ab ab' : Ab} {nm : List Nat} {r : Nat} {rk : Nat -> Nat} (R : Renum ab ab' nm) (T : Tree ab r rk) : Tree ab' (nm.getD r 0) (fun k => rk (nm.idxOf k)) := by
  have here : ∀ (k : Nat), k < ab'.length -> ∃ j, j < ab.length /\ nm[j]? = some k /\ nm.getD j 0 = k /\ nm.idxOf k = j := by
    intro k hk; have h1 : k ∈ nm := by rw [R.perm.mem_iff, List.mem_range, <- R.len]; exact hk
    obtain ⟨j, hj, e⟩ := List.getElem_of_mem h1; refine ⟨j, by rw [<- R.nlen]; exact hj, by rw [List.getElem?_eq_getElem hj, e], by rw [getD_lt hj, e], ?_⟩
    rw [<- e]; exact R.nd.idxOf_getElem j hj
  have idx : ∀ (p : Nat), p < ab.length -> nm.idxOf (nm.getD p 0) = p /\ nm.getD p 0 < ab'.length := by
    intro p hp; have hp' : p < nm.length := by rw [R.nlen]; exact hp
    rw [getD_lt hp']; refine ⟨R.nd.idxOf_getElem p hp', ?_⟩; rw [R.len]; exact List.mem_range.mp (R.perm.mem_iff.mp (List.getElem_mem hp'))
  refine ⟨?_, fun k hk => ?_, fun k q hk => ?_, fun k hk => ?_⟩
  . have hr : r < nm.length := by rw [R.nlen]; exact T.rlt
    have := R.at' r (nm.getD r 0) (by rw [getD_lt hr]; exact List.getElem?_eq_getElem hr)
    rw [T.root] at this; exact this
  . obtain ⟨j, hj, e1, e2, e3⟩ := here k (List.getElem?_eq_some_iff.mp hk).1
    have h := R.at' j k e1; rw [hk, List.getElem?_eq_getElem hj, Option.getD_some] at h
    cases q : ab[j] with
    | none =>
      have := T.only j (by rw [List.getElem?_eq_getElem hj, q])
      subst this; exact e2.symm
    | some p => rw [q] at h; cases h
  . obtain ⟨j, hj, e1, e2, e3⟩ := here k (List.getElem?_eq_some_iff.mp hk).1
    have h := R.at' j k e1; rw [hk, List.getElem?_eq_getElem hj, Option.getD_some] at h
    cases q' : ab[j] with
    | none => rw [q'] at h; cases h
    | some p =>
      rw [q'] at h; have e4 : q = nm.getD p 0 := Option.some.inj (Option.some.inj h); obtain ⟨h1, h2⟩ := T.up j p (by rw [List.getElem?_eq_getElem hj, q'])
      obtain ⟨h3, h4⟩ := idx p h1; subst e4; refine ⟨h4, ?_⟩
      show rk (nm.idxOf (nm.getD p 0)) < rk (nm.idxOf k)
      rw [h3, e3]; exact h2
  . obtain ⟨j, hj, e1, e2, e3⟩ := here k hk
    show rk (nm.idxOf k) < _
    rw [e3, R.len]; exact T.low j hj
end KM
namespace L2
open PySem PySem.Spec PyProof.Rows
section
variable {X : Cx} {pins : List (Addr × Obj)} {σ : St} {H : Hp} {s : Shared} {h' : Heap}
theorem Inv.turnedL {t' : Nat} {fp : List Addr} (I : Inv X pins σ H s) (hf : ∀ b ∈ fp, FpOk X pins H b)
    (k : ∀ b o, b ∉ fp -> s.heap.get? b = some o -> h'.get? b = some o) : Inv X pins σ H { s with heap := h', toks := t' } := by
  have nit : ∀ b u, H b = some u -> b ∉ fp := fun b u e z => by rw [(hf b z).1] at e; cases e
  refine I.step (g' := s.gens) (d' := s.drawn) (ch := fp) (fun b hb => ?_) (fun b o _ _ hc e _ => k b o hc e) (fun b o _ _ hc e _ => ⟨o.slots, k b o hc e⟩) (fun _ _ _ _ n => n)
    (fun b o hc e => ⟨o, k b o hc e⟩) (fun _ _ e => e) (fun _ _ _ e => e) (fun b ps e => ⟨#[], by rw [e]; simp⟩) (fun m hm => ?_) (fun b u e => ?_) I.bare
  . obtain ⟨_, f1, _, f3, f4, f5⟩ := hf b hb
    exact ⟨f3, f1, f4, f5⟩
  . obtain ⟨o, es, ep, ho, r⟩ := hm
    exact ⟨o, es, ep, k _ o (fun z => (hf _ z).2.1 rfl) ho, r⟩
  . refine (I.hok b u e).stay (fun c v hc q => k c v ?_ q) (fun _ q => q) fun _ _ q => q
    rcases hc with z | z
    . rw [z]; exact nit b u e
    . exact nit c _ z
theorem Inv.turnLay {t' : Nat} {fp : List Addr} {p : Addr} {o : HO} (I : Inv X pins σ H s) (hf : ∀ b ∈ fp, FpOk X pins H b)
    (k : ∀ b ob, b ∉ fp -> s.heap.get? b = some ob -> h'.get? b = some ob) (hp : s.heap.objs.size <= p) (new : ObjOk X.prog X.w (upd H p o) h' p o) : Inv X pins σ (upd H p o) { s with heap := h', toks := t' } := by
  have hn : H p = none := I.hok.fresh hp; have nit : ∀ b u, H b = some u -> b ∉ fp := fun b u e z => by rw [(hf b z).1] at e; cases e
  have up : ∀ b u, H b = some u -> upd H p o b = some u := fun b u e => by rw [upd_ne (ne_of_none e hn)]; exact e
  refine I.step (g' := s.gens) (d' := s.drawn) (ch := fp) (fun b hb => ?_) (fun b ob _ _ hc e _ => k b ob hc e) (fun b ob _ _ hc e _ => ⟨ob.slots, k b ob hc e⟩) (fun b ob _ e n => ?_)
    (fun b ob hc e => ⟨ob, k b ob hc e⟩) (fun b xs e => up b _ e) (fun b ob u e => up b _ e) (fun b ps e => ⟨#[], by rw [up b _ e]; simp⟩) (fun m hm => ?_) (fun b u e => ?_) I.bare
  . obtain ⟨_, f1, _, f3, f4, f5⟩ := hf b hb
    exact ⟨f3, f1, f4, f5⟩
  . rw [upd_ne (Nat.ne_of_lt (Nat.lt_of_lt_of_le (Heap.lt_size e) hp))]
    exact n
  . obtain ⟨ob, es, ep, ho, r⟩ := hm
    exact ⟨ob, es, ep, k _ ob (fun z => (hf _ z).2.1 rfl) ho, r⟩
  . by_cases hb : b = p
    . subst hb
      rw [upd_same] at e
      cases e
      exact new
    . rw [upd_ne hb] at e
      refine (I.hok b u e).stay (fun c v hc q => k c v ?_ q) (fun c q => up c _ q) fun c xs q => up c _ q
      rcases hc with z | z
      . rw [z]; exact nit b u e
      . exact nit c _ z
end
def Ite (K : PySem.W.Frag) (a : Addr) : It :=
  ⟨fun i H => ∃ xs x, SqL K H a xs /\ xs[i]? = some x,
   fun i H x H' => ∃ p y, x = .ref p /\ H p = none /\ H' = upd H p (.tup [.int i, y]) /\ ∀ xs, SqL K H a xs -> xs[i]? = some y,
   fun i H => ∃ xs, SqL K H a xs /\ xs.length <= i⟩
theorem turn_enum {P : Program} {w : World} {K : PySem.W.Frag} {elts : List Expr} {x1 : Nat} {tpos : Pos} (a e it : Addr) (hne : e ≠ it) :
    Turn P w K (.Tuple elts x1 tpos) (Ite K a) [e, it] e (fun i h => (∃ old, IsEnum h e it (i : Int) old) /\ h.IsListIter it a i) where
  mem := by simp
  obj := fun i h st b hb => by
    rcases List.mem_cons.mp hb with e' | hb
    . subst e'
      obtain ⟨⟨old, q⟩, _⟩ := st; exact ⟨_, q, fun v z => by cases z⟩
    . have e' : b = it := by simpa using hb
      subst e'; refine hld fun g_ k_ => ?_; obtain ⟨_, o, q, c, d⟩ := st; refine k_ ?_; exact ⟨o, q, fun v z => by rw [d] at z; cases z⟩
  keep := fun i h h' st k => ⟨let ⟨old, q⟩ := st.1; ⟨old, k e (by simp) _ q⟩, st.2.at fun o q => k it (by simp) o q⟩
  item := by
    intro X hP hw hK hc i pins s σ H E I hf st hg; subst hP hw hK; obtain ⟨xs, x, hq, hx⟩ := hg; obtain ⟨⟨old, he⟩, hit⟩ := st; obtain ⟨its, rv, p, hz⟩ := I.list hq; obtain ⟨u, hu, ru⟩ := rv.get hx; refine wpAny_pyNext_enum_item he hit p.isList (x := u) (by simpa using hu) hne fun h1 heo hit1 ht hsz hk => ⟨.ref s.heap.objs.size, rfl, ?_⟩
    refine wpAny_letOwnedTupleGo_enum heo fun h2 he2 hs2 => ?_
    replace hs2 : Heap.SameBut e h1 h2 := hs2
    have hel : e < s.heap.objs.size := Heap.lt_size he; have ht2 : h2.get? s.heap.objs.size = some { cls := .type "tuple", data := .seq #[.int i s.toks, u] } := (hs2.2 _ (Nat.ne_of_gt hel)).trans ht; have hn : H s.heap.objs.size = none := I.hok.fresh (Nat.le_refl _)
    refine ⟨.ref s.heap.objs.size, upd H s.heap.objs.size (.tup [.int i, x]), I.turnLay (t' := s.toks + 1) hf (fun b o hb q => ?_) (Nat.le_refl _) ?_, rfl,
      ⟨_, x, rfl, hn, rfl, fun ys hy => by rw [I.list_inj hy hq]; exact hx⟩, ⟨⟨u, ?_⟩, ?_⟩, fun b hb => ?_⟩
    . have hbe : b ≠ e := fun z => hb (by simp [z])
      have hbi : b ≠ it := fun z => hb (by simp [z])
      exact (hs2.2 b hbe).trans (hk b o hbe hbi q)
    . exact ⟨by show 2 <= sizeLine; decide, [.int i s.toks, u], .cons ⟨_, rfl⟩ (.cons ru .nil), _, ht2, rfl, 0, rfl⟩
    . have e2 : ((i + 1 : Nat) : Int) = (i : Int) + 1 := by omega
      rw [e2]; exact he2
    . exact hit1.extBut hs2.extBut (Ne.symm hne)
    . rw [upd_ne]
      . exact (hf b hb).1
      . obtain ⟨o, q, _⟩ : ∃ o, s.heap.get? b = some o /\ True := by
          rcases List.mem_cons.mp hb with e' | hb
          . subst e'; exact ⟨_, he, trivial⟩
          . have e' : b = it := by simpa using hb
            subst e'; obtain ⟨o, q, _⟩ := id hit; exact ⟨o, q, trivial⟩
        exact Nat.ne_of_lt (Heap.lt_size q)
  done := by
    intro X hP hw hK hc i pins s σ H E I hf st hg; subst hP hw hK; obtain ⟨xs, hq, hx⟩ := hg; obtain ⟨⟨old, he⟩, hit⟩ := st; obtain ⟨its, rv, p, hz⟩ := I.list hq; have hl := rv.length; exact wpAny_pyNext_enum_end (I.ok.hd hc) he hit p.isList (by simp; omega) fun h1 eb => ⟨rfl, I.turnedL (t' := s.toks) hf fun b o hb q => eb b o (fun z => hb (by simp [z])) q⟩
  self := fun A i s Q E st h => let ⟨⟨old, he⟩, _⟩ := st; wpAny_pyIter_enum he h
def iEnum (K : PySem.W.Frag) (ta : TA) : TI := fun σ H R => ta σ H fun vs H1 => ∃ a, vs = [.ref a] /\ (∃ xs, SqL K H1 a xs) /\ R (Ite K a) H1
section
variable {X : Cx}
theorem pi_enum {elts : List Expr} {x1 : Nat} {tpos : Pos} {l : Expr} {ta : TA} {p pos : Pos} (hg : Gl X "enumerate") (hm : X.mg "enumerate" = none) (ha : PA X [l] ta) (hs : starEach [l] X.env = [(false, eval l X.env)] := by rfl) :
    PI X (.Tuple elts x1 tpos) (.Call (.Name "enumerate" p) [l] [] pos) (iEnum X.K ta) := by
  intro pins s σ H R I h; refine Call_ (ld_blt I hg hm boot_enumerate (PyProof.Rows.callWith_type1 (thn (ha pos pins s σ H _ I h) fun us s1 ⟨vs, H1, I1, r1, q1⟩ => ?_) hs rfl)); refine hld fun g_ k_ => ?_; obtain ⟨a, e, ⟨xs, hq⟩, q⟩ := q1; refine k_ ?_; subst e; obtain ⟨u, rfl, rx⟩ := vals1 r1
  cases rx
  obtain ⟨its, rv, pl, hz⟩ := I1.list hq; refine call_enumerate_list pl.isList fun h1 he hit hsz hk => wpAny_pyIter_enum he ?_; have I2 : Inv X pins σ H1 { s1 with heap := h1 } := I1.kept (t' := s1.toks) hk
  refine ⟨s1.heap.objs.size + 1, [s1.heap.objs.size + 1, s1.heap.objs.size], _, Ite X.K a, H1, rfl, I2, turn_enum a _ _ (Nat.succ_ne_self _), ⟨⟨.none, he⟩, hit⟩, fun b hb => ?_, q⟩
  rcases List.mem_cons.mp hb with e | hb
  . subst e
    exact I1.fpOk (Nat.le_succ _) (I1.hok.fresh (Nat.le_succ _))
  . have e : b = s1.heap.objs.size := by simpa using hb
    subst e; exact I1.fpOk (Nat.le_refl _) (I1.hok.fresh (Nat.le_refl _))
end
theorem for_enum {K : PySem.W.Frag} {a : Addr} {xs : List V} {g : TG} {tb : TS} {D : Ends} {σ : St} {H : Hp} (Pv : Nat -> St -> Hp -> Prop) (h0 : Pv 0 σ H) (hl : ∀ i σ H, i <= xs.length -> Pv i σ H -> SqL K H a xs)
    (hs : ∀ i x p σ H, xs[i]? = some x -> Pv i σ H -> H p = none -> g (.ref p) σ (upd H p (.tup [.int i, x])) fun σ2 H2 => tb { D with nx := Pv (i + 1), ct := Pv (i + 1), bk := D.nx } σ2 H2) (hd : ∀ σ H, Pv xs.length σ H -> D.nx σ H) :
    ∃ W : Nat -> Nat -> St -> Hp -> Prop, (∃ m, W 0 m σ H) /\ ∀ i m σ H, W i m σ H ->
      ((Ite K a).stop i H /\ D.nx σ H) \/ ((Ite K a).go i H /\ ∃ N : St -> Hp -> Prop, (∀ σ' H', N σ' H' -> ∃ m', m' < m /\ W (i + 1) m' σ' H') /\ ∀ x H', (Ite K a).yld i H x H' -> g x σ H' fun σ2 H2 => tb { D with nx := N, ct := N, bk := D.nx } σ2 H2) := by
  refine ⟨fun i m σ H => m = xs.length - i /\ i <= xs.length /\ Pv i σ H, ⟨xs.length, by simp, Nat.zero_le _, h0⟩, ?_⟩
  rintro i m σ H ⟨rfl, hi, p⟩
  have q := hl i σ H hi p
  by_cases hlt : i < xs.length
  . refine .inr ⟨⟨xs, xs[i], q, by simp [hlt]⟩, Pv (i + 1), fun σ' H' p' => ⟨xs.length - (i + 1), by omega, rfl, hlt, p'⟩, fun x H' y => ?_⟩
    refine hld fun g_ k_ => ?_; obtain ⟨pp, z, rfl, hn, rfl, hz⟩ := y; refine k_ ?_; exact hs i z pp σ H (hz xs q) p hn
  . have e : i = xs.length := by omega
    subst e; exact .inl ⟨⟨xs, q, Nat.le_refl _⟩, hd σ H p⟩
def Itv (K : PySem.W.Frag) (a : Addr) (n : Nat) : It :=
  ⟨fun i H => i < n /\ ∃ xs x, SqL K H a xs /\ xs[n - 1 - i]? = some x, fun i H x H' => H' = H /\ ∀ xs, SqL K H a xs -> xs[n - 1 - i]? = some x, fun i _ => i = n⟩
theorem turn_rev {P : Program} {w : World} {K : PySem.W.Frag} {tg : Expr} (a it : Addr) (n : Nat) : Turn P w K tg (Itv K a n) [it] it (fun i h => h.IsRevIter it a ((n : Int) - 1 - (i : Nat))) where
  mem := by simp
  obj := fun i h st b hb => by
    have e : b = it := by simpa using hb
    subst e; obtain ⟨o, e, c, d⟩ := st; exact ⟨o, e, fun v z => by rw [d] at z; cases z⟩
  keep := fun i h h' st k => st.at fun o e => k it (by simp) o e
  item := by
    intro X hP hw hK hc i pins s σ H E I hf st hg; subst hP hw hK; refine hld fun g_ k_ => ?_; obtain ⟨hlt, xs, x, hq, hx⟩ := hg; refine k_ ?_; obtain ⟨its, rv, p, hz⟩ := I.list hq; obtain ⟨u, hu, ru⟩ := rv.get hx; have e1 : (n : Int) - 1 - (i : Nat) = ((n - 1 - i : Nat) : Int) := by omega
    have st' := st; rw [e1] at st'; refine wpAny_pyNext_rev_item st' p.isList (x := u) (by simpa using hu) fun h' st2 sb => ?_
    have I1 : Inv X pins σ H { s with heap := h' } := I.turnedL (t' := s.toks) hf fun b o hb e => (sb.2 b (fun z => hb (by simp [z]))).trans e
    have e2 : ((n - 1 - i : Nat) : Int) - 1 = (n : Int) - 1 - ((i + 1 : Nat) : Int) := by omega
    rw [e2] at st2; obtain ⟨o, e, c, d⟩ := id st2; exact ⟨u, rfl, go_of (s := { s with heap := h' }) e c d (by decide) ⟨x, H, I1, ru, ⟨rfl, fun ys hy => by rw [I.list_inj hy hq]; exact hx⟩, st2, fun b hb => (hf b hb).1⟩⟩
  done := by
    intro X hP hw hK hc i pins s σ H E I hf st hg; subst hP hw hK; have e : i = n := hg; subst e; have e1 : (i : Int) - 1 - (i : Nat) = -1 := by omega
    rw [e1] at st; exact wpAny_pyNext_rev_end (I.ok.hd hc) st fun h' eb => ⟨rfl, I.turnedL (t' := s.toks) hf fun b o hb q => eb b o (fun z => hb (by simp [z])) q⟩
  self := fun _ _ _ _ _ st h => wpAny_pyIter_revIter st h
def iRev (K : PySem.W.Frag) (ta : TA) : TI := fun σ H R => ta σ H fun vs H1 => ∃ a xs, vs = [.ref a] /\ SqL K H1 a xs /\ R (Itv K a xs.length) H1
section
variable {X : Cx} {tg : Expr}
theorem pi_rev {l : Expr} {ta : TA} {p pos : Pos} (hg : Gl X "reversed") (hm : X.mg "reversed" = none) (ha : PA X [l] ta) (hs : starEach [l] X.env = [(false, eval l X.env)] := by rfl) :
    PI X tg (.Call (.Name "reversed" p) [l] [] pos) (iRev X.K ta) := by
  intro pins s σ H R I h; refine Call_ (ld_blt I hg hm boot_reversed (PyProof.Rows.callWith_type1 (thn (ha pos pins s σ H _ I h) fun us s1 ⟨vs, H1, I1, r1, q1⟩ => ?_) hs rfl)); refine hld fun g_ k_ => ?_; obtain ⟨a, xs, e, hq, q⟩ := q1; refine k_ ?_; subst e; obtain ⟨u, rfl, rx⟩ := vals1 r1
  cases rx
  obtain ⟨its, rv, pl, hz⟩ := I1.list hq; have hl := rv.length
  have st : (s1.heap.push (revObj a ((its.toArray.size : Int) - 1))).IsRevIter s1.heap.objs.size a ((xs.length : Int) - 1 - ((0 : Nat) : Int)) := by
    refine ⟨_, Heap.get?_push_size _ rfl, rfl, ?_⟩; have e : (xs.length : Int) - 1 - ((0 : Nat) : Int) = (its.toArray.size : Int) - 1 := by rw [List.size_toArray]; omega
    rw [e]
    rfl
  refine call_reversed_list pl.isList (wpAny_pyIter_revIter st ?_); have I2 : Inv X pins σ H1 { s1 with heap := s1.heap.push (revObj a ((its.toArray.size : Int) - 1)) } := I1.kept (t' := s1.toks) fun b o e => Heap.get?_push_of_some _ e
  refine ⟨s1.heap.objs.size, [s1.heap.objs.size], _, Itv X.K a xs.length, H1, rfl, I2, turn_rev a _ xs.length, st, fun b hb => ?_, q⟩; have e : b = s1.heap.objs.size := by simpa using hb
  subst e; exact I1.fpOk (Nat.le_refl _) (I1.hok.fresh (Nat.le_refl _))
end
theorem for_rev {K : PySem.W.Frag} {a : Addr} {xs : List V} {g : TG} {tb : TS} {D : Ends} {σ : St} {H : Hp} (Pv : Nat -> St -> Hp -> Prop) (h0 : Pv 0 σ H) (hl : ∀ i σ H, i <= xs.length -> Pv i σ H -> SqL K H a xs)
    (hs : ∀ i x σ H, i < xs.length -> xs[xs.length - 1 - i]? = some x -> Pv i σ H -> g x σ H fun σ2 H2 => tb { D with nx := Pv (i + 1), ct := Pv (i + 1), bk := D.nx } σ2 H2) (hd : ∀ σ H, Pv xs.length σ H -> D.nx σ H) :
    ∃ W : Nat -> Nat -> St -> Hp -> Prop, (∃ m, W 0 m σ H) /\ ∀ i m σ H, W i m σ H ->
      ((Itv K a xs.length).stop i H /\ D.nx σ H) \/ ((Itv K a xs.length).go i H /\ ∃ N : St -> Hp -> Prop, (∀ σ' H', N σ' H' -> ∃ m', m' < m /\ W (i + 1) m' σ' H') /\ ∀ x H', (Itv K a xs.length).yld i H x H' -> g x σ H' fun σ2 H2 => tb { D with nx := N, ct := N, bk := D.nx } σ2 H2) := by
  refine ⟨fun i m σ H => m = xs.length - i /\ i <= xs.length /\ Pv i σ H, ⟨xs.length, by simp, Nat.zero_le _, h0⟩, ?_⟩
  rintro i m σ H ⟨rfl, hi, p⟩
  have q := hl i σ H hi p
  by_cases hlt : i < xs.length
  . refine .inr ⟨⟨hlt, xs, xs[xs.length - 1 - i], q, List.getElem?_eq_getElem (by omega)⟩, Pv (i + 1), fun σ' H' p' => ⟨xs.length - (i + 1), by omega, rfl, hlt, p'⟩, fun x H' y => ?_⟩
    obtain ⟨e, y⟩ := y; subst e; exact hs i x σ _ hlt (y xs q) p
  . have e : i = xs.length := by omega
    subst e; exact .inl ⟨rfl, hd σ H p⟩
theorem strs_of : ∀ {ss : List Str} {us : List Value}, Vals (ss.map V.str) us -> StrsAre us ss
  | [], _, .nil => .nil
  | x :: ss, _, .cons r t => by
    obtain ⟨tk, rfl⟩ := r; exact .cons x tk (strs_of t)
theorem vals_strs : ∀ {ss : List Str} {us : List Value}, StrsAre us ss -> Vals (ss.map V.str) us
  | _, _, .nil => .nil
  | _, _, .cons x tk t => .cons ⟨tk, rfl⟩ (vals_strs t)
section
variable {X : Cx}
inductive rSortS (K : PySem.W.Frag) (xs : (List V)) (H : Hp) (Q : VK) : Prop
  | mk (p : _) (ss : _) (z1_ : xs = [.ref p]) (z2_ : SqL K H p (ss.map V.str)) (z3_ : ss.length < 64) (z4_ : ∀ l ss', ss'.Perm ss -> sortedS ss' = true -> H l = none -> Q (.ref l) (upd H l (.lst (ss'.map V.str)))) : rSortS K xs H Q
theorem call_sortedS : CallR X (.builtin "sorted") (rSortS X.K) := by
  intro pins s σ H xs us Q I r h; obtain ⟨p, ss, rfl, hq, h64, q⟩ := h; obtain ⟨u, rfl, rx⟩ := vals1 r
  cases rx
  obtain ⟨its, rv, pl, hz⟩ := I.list hq; have hl := rv.length; rw [List.length_map] at hl hz; refine sorted_strs pl.isList (strs_of rv) (by omega) fun out ss' h1 h2 h3 => ?_
  obtain ⟨e, he⟩ := sortedAll_at s.heap its out; refine ⟨.ref (s.heap.objs.size + 1), _, I.laid (t' := s.toks) (fun b o q => sortedAll_old q) (Nat.le_succ _) (o := .lst (ss'.map V.str)) ?_, rfl, q _ ss' h2 h3 (I.hok.fresh (Nat.le_succ _))⟩; refine ⟨?_, out.toList, e, vals_strs h1, ?_⟩
  . rw [List.length_map, h2.length_eq]; exact hz
  . rw [Array.toArray_toList]; exact he
inductive rJoin (K : PySem.W.Frag) (x : V) (vs : (List V)) (H : Hp) (Q : VK) : Prop
  | mk (z : _) (p : _) (ss : _) (z1_ : x = .str z) (z2_ : vs = [.ref p]) (z3_ : SqL K H p (ss.map V.str)) (z4_ : (ss.map (·.length)).sum + ss.length * z.length <= 16777216) (z5_ : Q (.str (Txt.join z ss)) H) : rJoin K x vs H Q
theorem mt_join : MtR X "str.join" (rJoin X.K) := by
  intro pins s σ H x vs v us Q I rx rv h; obtain ⟨z, p, ss, rfl, rfl, hq, hz, q⟩ := h; obtain ⟨t, rfl⟩ := rx; obtain ⟨u, rfl, ru⟩ := rv.one
  cases ru
  obtain ⟨its, r, pl, _⟩ := I.list hq; exact join_list pl.isList (strs_of (by simpa using r)) hz fun t' k => ⟨.str _, H, I.tok k, ⟨_, rfl⟩, q⟩
inductive rInsert (x : V) (vs : (List V)) (H : Hp) (Q : VK) : Prop
  | mk (l : _) (i : _) (y : _) (xs : _) (z1_ : x = .ref l) (z2_ : vs = [.int i, y]) (z3_ : H l = some (.lst xs)) (z4_ : 0 <= i) (z5_ : i <= (xs.length : Int)) (z6_ : xs.length < sizeLine) (z7_ : Q .non (upd H l (.lst (xs.take i.toNat ++ y :: xs.drop i.toNat)))) : rInsert x vs H Q
theorem mt_insert : MtR X "list.insert" rInsert := by
  intro pins s σ H x vs v us Q I rx rv h; obtain ⟨l, i, y, xs, rfl, rfl, hH, h0, h1, hz, q⟩ := h
  cases rx
  refine hld fun g_ k_ => ?_; obtain ⟨u, w', rfl, ⟨t, rfl⟩, rw'⟩ := rv.two; refine k_ ?_; refine hld fun g_ k_ => ?_; obtain ⟨z, its, n, r, hl, e⟩ := I.lstM hH; refine k_ ?_; have hn := line63
  refine call_meets F.slot_list_insert ⟨_, e, rfl⟩ F.entry_list_insert (F.args_list_insert_3 _ _ _)
    (AutoSeq1.list_insert_list_int_val_1 l its.toArray n i t w' (by rw [fitsIndex_both (by omega) (by omega)]; exact Bool.false_ne_true) (by rw [List.size_toArray]; omega)) ⟨e, ?_⟩
  refine ⟨.non, _, I.lset (its' := its.take i.toNat ++ w' :: its.drop i.toNat) hH e ?_ ((r.take i.toNat).append (.cons rw' (r.drop i.toNat))) ?_, rfl, q⟩
  . show (its.toArray.extract 0 (if i < 0 then (i + (its.toArray.size : Int)).toNat else min i.toNat its.toArray.size)).push w' ++ its.toArray.extract (if i < 0 then (i + (its.toArray.size : Int)).toNat else min i.toNat its.toArray.size) = _
    have em : (if i < 0 then (i + (its.toArray.size : Int)).toNat else min i.toNat its.toArray.size) = i.toNat := by
      rw [if_neg (by omega), List.size_toArray]
      omega
    rw [em, PySem.W.kl_ins_eq]
  . rw [List.length_append, List.length_cons, List.length_take, List.length_drop]
    omega
theorem eqV_self {x : V} (h : flatV x = true) : eqV x x = true := by
  cases x with
  | non => rfl
  | bl b => exact beq_self_eq_true b
  | int i => simp [eqV]
  | str y => simp [eqV]
  | byt b => exact absurd (show false = true from h) Bool.false_ne_true
  | flt b => exact absurd (show false = true from h) Bool.false_ne_true
  | ref a => exact absurd (show false = true from h) Bool.false_ne_true
  | ty n => exact absurd (show false = true from h) Bool.false_ne_true
inductive rIsi (K : PySem.W.Frag) (xs : (List V)) (H : Hp) (Q : VK) : Prop
  | mk (x : _) (T : _) (t : _) (b : _) (z1_ : xs = [x, .ty T]) (z2_ : TyOf K H x t) (z3_ : PySem.W.kitOne K t (.type T) = some b) (z4_ : Q (.bl b) H) : rIsi K xs H Q
theorem call_isi : CallR X (.builtin "isinstance") (rIsi X.K) := by
  intro pins s σ H xs us Q I r h; obtain ⟨x, T, t, b, rfl, ty, e, q⟩ := h; refine hld fun g_ k_ => ?_; obtain ⟨u, w', rfl, rx, rt⟩ := vals2 r; refine k_ ?_
  cases (show w' = Value.type T from rt)
  exact isinst_ok I rx ty e fun tk => ⟨.bl b, H, I.tok tk, rfl, q⟩
end
end L2
namespace L2
open PySem PySem.Spec PyProof.Rows
def compCx (X : Cx) (N' : List Str) (scope : Scope) (cl : List (Str × Addr)) (C : Addr) (s₀ : Shared) (H₀ : Hp) (fp : List Addr) : Cx where
  prog := X.prog
  w := X.w
  K := X.K
  mg := X.mg
  base := X.base
  A := X.A
  N := N'
  s₀ := s₀
  H₀ := H₀
  env := compEnvC scope cl C X.env
  outer := X.stack
  stack := X.stack
  ex := fp
  fn := fun _ => false
  calm := X.calm
  pn := []
  xe := fun _ _ => False
def outSt (js : List (Option Nat)) (σ : St) : St := js.map fun o => o.bind fun i => (σ[i]?).bind id
structure CompOk (X : Cx) (scope : Scope) (cl : List (Str × Addr)) (N' : List Str) (js : List (Option Nat)) : Prop where
  kind : scope.kind = .function
  nocell : ∀ y ∈ scope.names, y.2 ≠ .cell
  names : ∀ y ∈ scope.names, y.2 = .local -> scope.names.lookup y.1 = some .local
  len : js.length = N'.length
  clos : closureFor scope X.env = pure cl
  cells : ∀ x c, cl.lookup x = some c -> X.env.cells.lookup x = some c
  has : ∀ x, ((relabel scope X.env).names.lookup x = some .cell \/ (relabel scope X.env).names.lookup x = some .free) -> ∃ c, cl.lookup x = some c
  out : ∀ (j i : Nat), js[j]? = some (some i) -> ∃ x, N'[j]? = some x /\ X.N[i]? = some x /\ X.env.scope.names.lookup x = some .cell /\
    ((relabel scope X.env).names.lookup x = some .cell \/ (relabel scope X.env).names.lookup x = some .free)
def PIf (X : Cx) (ifs : List Expr) (t : TT) : Prop :=
  ∀ (pins : List (Addr × Obj)) (s : Shared) (σ : St) (H : Hp) (Q : Bool -> Hp -> Prop), Inv X pins σ H s -> t σ H Q ->
    wpAny (model X.prog X.w) X.A (forIn ifs true fun c r => if r = true then do let ok <- isTrue c X.env (eval c X.env); pure (ForInStep.yield ok) else pure (ForInStep.yield r)) (TP X pins σ Q) X.xe s
def tAlways : TT := fun _ H Q => Q true H
theorem pif_nil {X : Cx} : PIf X [] tAlways := fun _ _ _ H _ I h => wpAny_tests_nil ⟨H, I, h⟩
theorem pif_one {X : Cx} {c : Expr} {t : TT} (h : PT X c t) : PIf X [c] t := fun pins s σ H Q I q => wpAny_tests_one (h pins s σ H Q I q)
def CompW (J : It) (js : List (Option Nat)) (g : TG) (ti : TT) (te : TE) (σ : St) (H1 : Hp) (Q : VK) : Prop :=
  ∀ D, H1 D = none -> ∃ W : Nat -> Nat -> List V -> St -> Hp -> Prop, (∃ m, W 0 m [] (outSt js σ) (upd H1 D (.lst []))) /\ ∀ i m ys τ H, W i m ys τ H ->
    (J.stop i H /\ Q (.ref D) H) \/ (J.go i H /\ ∀ x H', J.yld i H x H' -> g x τ H' fun τ2 H2 => ti τ2 H2 fun b H3 =>
      if b = true then te τ2 H3 fun y H4 => H4 D = some (.lst ys) /\ ys.length < sizeLine /\ ∃ m', m' < m /\ W (i + 1) m' (ys ++ [y]) τ2 (upd H4 D (.lst (ys ++ [y])))
      else ∃ m', m' < m /\ W (i + 1) m' ys τ2 H3)
def tComp (wi : TI) (js : List (Option Nat)) (g : TG) (ti : TT) (te : TE) : TE := fun σ H Q => wi σ H fun J H1 => CompW J js g ti te σ H1 Q
section
variable {X : Cx} {elt tg iter : Expr} {ifs : List Expr} {scope : Scope} {cl : List (Str × Addr)} {N' : List Str} {js : List (Option Nat)} {pos : Pos} {g : TG} {ti : TT} {te : TE}
theorem thnE {α : Type} {t : Sem α} {Q Q' : α -> Shared -> Prop} {M : Model} {A : Around} {E : Value -> Shared -> Prop} {s : Shared} (h : wpAny M A t Q (fun _ _ => False) s) (hQ : ∀ a s, Q a s -> Q' a s) : wpAny M A t Q' E s := wpAny_mono h hQ fun _ _ x => x.elim
theorem comp_start {pins : List (Addr × Obj)} {σ : St} {H1 : Hp} {s₂ : Shared} {fp : List Addr} {C : Addr} {h₁ : Heap} {tk : Nat} (K : CompOk X scope cl N' js) (I : Inv X pins σ H1 s₂) (hf : ∀ b ∈ fp, FpOk X pins H1 b)
    (hfl : ∀ b ∈ fp, b < s₂.heap.objs.size) (hC : s₂.heap.objs.size < C) (old : ∀ b o, s₂.heap.get? b = some o -> h₁.get? b = some o) {m : Str -> Option Value} (hns : h₁.Ns C m)
    (acc : h₁.get? s₂.heap.objs.size = some { cls := .type "list", data := .seq ([] : List Value).toArray }) :
    Inv (compCx X N' scope cl C s₂ H1 fp) [] (outSt js σ) (upd H1 s₂.heap.objs.size (.lst [])) { s₂ with heap := h₁, toks := tk } := by
  have hD : H1 s₂.heap.objs.size = none := I.hok.fresh (Nat.le_refl _)
  have cellOld : ∀ x c, cl.lookup x = some c -> c < s₂.heap.objs.size := fun x c e => by
    obtain ⟨v, o, ho, _⟩ := I.cell x c (K.cells x c e); exact Heap.lt_size ho
  refine ⟨⟨I.ok.mod, K.kind, I.ok.glob, I.ok.blt, Nat.le_of_lt hC, fun x y c e1 e2 => I.ok.inj x y c (K.cells x c e1) (K.cells y c e2), fun x hx => K.has x hx, fun x c e => absurd (show false = true from e) Bool.false_ne_true, I.ok.hd, I.ok.frames, .inl rfl,
      fun b hb => ⟨Nat.ne_of_lt (Nat.lt_trans (hfl b hb) hC), fun x c e => (hf b hb).2.2.2.2.1 x c (K.cells x c e)⟩, I.bs, Nat.le_trans I.ok.bsz I.sz, fun b o e hb => ?_, fun b hb z => ?_, I.stack, I.stkFree⟩,
    rfl, I.bare, Un.laid old (Nat.le_refl _) hD, ⟨m, hns, fun j x v h1 h2 h3 => ?_⟩, fun x c e => ?_, ?_, fun x c e => ?_, fun p hp => absurd (show p ∈ ([] : List (Addr × Obj)) from hp) (by simp), I.hok.laid old (Nat.le_refl _) ⟨Nat.zero_le _, [], 0, .nil, acc⟩, ?_⟩
  . rcases (hf b hb).2.2.2.1 with z | z
    . exact I.ok.noex b o e z
    . exact absurd (Nat.lt_of_lt_of_le (Heap.lt_size (I.ok.bs b o e).1) z) (Nat.lt_irrefl _)
  . rcases List.mem_cons.mp (I.stkSub b z) with e | e
    . exact (hf b hb).2.1 e
    . exact (hf b hb).2.2.1 e
  . have h2' : (outSt js σ)[j]? = some (some v) := h2
    unfold outSt at h2'
    rw [List.getElem?_map] at h2'
    cases q : js[j]? with
    | none => rw [q] at h2'; cases h2'
    | some o =>
      rw [q] at h2'
      cases o with
      | none => cases h2'
      | some i =>
        refine hld fun g_ k_ => ?_; obtain ⟨x', e1, e2, e3, e4⟩ := K.out j i q; refine k_ ?_; have h1' : N'[j]? = some x := h1; rw [e1] at h1'; have e0 : x' = x := Option.some.inj h1'; subst e0
        have h5 : σ[i]? = some (some v) := by
          cases z : σ[i]? with
          | none =>
            have : (some ((σ[i]?).bind id) : Option (Option V)) = some (some v) := h2'; rw [z] at this; cases this
          | some o' =>
            have : (some ((σ[i]?).bind id) : Option (Option V)) = some (some v) := h2'; rw [z] at this
            cases o' with
            | none => cases this
            | some v' => exact congrArg some (Option.some.inj this)
        obtain ⟨m', hn', hl'⟩ := I.loc; obtain ⟨u, r, l⟩ := hl' i x' v e2 h5 (.inr (.inl e3)); refine ⟨u, r, .inr ⟨e4, ?_⟩⟩
        rcases l with ⟨hk, _⟩ | ⟨_, c, hc, o, ho, hd⟩
        . have : X.env.scope.names.lookup x' = some .local := hk
          rw [e3] at this
          cases this
        . obtain ⟨c', hc'⟩ := K.has x' e4
          have := K.cells x' c' hc'; rw [hc] at this
          cases this
          exact ⟨c, hc', o, old c o ho, hd⟩
  . obtain ⟨v, o, ho, hd⟩ := I.cell x c (K.cells x c e)
    exact ⟨v, o, old c o ho, hd⟩
  . show upd H1 s₂.heap.objs.size (.lst []) C = none
    rw [upd_ne (Nat.ne_of_gt hC)]; exact I.hok.fresh (Nat.le_of_lt hC)
  . rw [upd_ne (Nat.ne_of_lt (cellOld x c e))]
    exact I.freeC x c (K.cells x c e)
  . show (outSt js σ).length = N'.length
    unfold outSt
    rw [List.length_map]; exact K.len
theorem comp_block {pins : List (Addr × Obj)} {σ : St} {H1 : Hp} {s₂ : Shared} {it : Addr} {fp : List Addr} {tn : Nat -> Heap -> Prop} {J : It} {Q : VK} {RR : Value -> Addr -> Result -> Shared -> Prop} {E : Value -> Shared -> Prop}
    (K : CompOk X scope cl N' js) (hc : X.calm = true) (I : Inv X pins σ H1 s₂) (T : Turn X.prog X.w X.K tg J fp it tn) (st : tn 0 s₂.heap) (hf : ∀ b ∈ fp, FpOk X pins H1 b)
    (hg : ∀ C s₀ H₀ fp, PG (compCx X N' scope cl C s₀ H₀ fp) tg g) (hi : ∀ C s₀ H₀ fp, PIf (compCx X N' scope cl C s₀ H₀ fp) ifs ti) (he : ∀ C s₀ H₀ fp, PE (compCx X N' scope cl C s₀ H₀ fp) elt te)
    (hW : CompW J js g ti te σ H1 Q)
    (hRR : ∀ D C s' H', Inv X pins σ H' s' -> (∃ m, s'.heap.Ns C m) -> FpOk X pins H' C -> Q (.ref D) H' -> RR (.ref D) C (.ok .next) s') :
    wpAny (model X.prog X.w) X.A (newList []) (fun acc s₃ => wpAny (model X.prog X.w) X.A (newFunctionEnv scope X.env.globals cl [] X.env.qual none .none (some X.env)) (fun cenv s₄ =>
      codeAny (model X.prog X.w) X.A (.compStart (.ListComp elt [⟨tg, iter, ifs, 0⟩] scope pos) 0 (.ref it) acc { cenv with scope := relabel scope X.env }) (RR acc cenv.locals) s₄) E s₃) E s₂ := by
  refine wpAny_newObj_type (wpAny_newFunctionEnv K.nocell (by intro y hy; simp at hy) (fun h₁ hns₁ hsb₁ => ?_) K.kind)
  dsimp only at hns₁ hsb₁ ⊢
  generalize hH2 : s₂.heap.push { cls := .type "list", dict := none, data := .seq ([] : List Value).toArray } = H2 at hns₁ hsb₁ ⊢; have hC : H2.objs.size = s₂.heap.objs.size + 1 := by rw [<- hH2, Heap.size_push]
  have hlt : s₂.heap.objs.size < H2.objs.size := by rw [hC]; exact Nat.lt_succ_self _
  have below : ∀ b, b < s₂.heap.objs.size -> b ≠ H2.objs.size := fun b hb => Nat.ne_of_lt (Nat.lt_trans hb hlt); have old : ∀ b o, s₂.heap.get? b = some o -> h₁.get? b = some o := fun b o e => hsb₁.extBut b o (below b (Heap.lt_size e)) (Heap.get?_push_of_some _ (hH2 ▸ Heap.get?_push_of_some _ e)); have acc : h₁.get? s₂.heap.objs.size = some { cls := .type "list", data := .seq ([] : List Value).toArray } := hsb₁.extBut _ _ (Nat.ne_of_lt hlt) (Heap.get?_push_of_some _ (hH2 ▸ Heap.get?_push_size _ rfl))
  have hfl : ∀ b ∈ fp, b < s₂.heap.objs.size := fun b hb => by
    obtain ⟨o, q, _⟩ := T.obj 0 _ st b hb; exact Heap.lt_size q
  refine hld fun g_ k_ => ?_; obtain ⟨W, ⟨m0, w0⟩, turn⟩ := hW s₂.heap.objs.size (I.hok.fresh (Nat.le_refl _)); refine k_ ?_
  have stat : ∀ {H' : Hp}, (∀ b ∈ fp, H' b = none) -> ∀ b ∈ fp, FpOk (compCx X N' scope cl H2.objs.size s₂ H1 fp) [] H' b := fun hn b hb =>
    ⟨hn b hb, below b (hfl b hb), fun z => (List.mem_cons.mp (I.stkSub b z)).elim (hf b hb).2.1 (hf b hb).2.2.1, .inl hb, fun x c e => (hf b hb).2.2.2.2.1 x c (K.cells x c e), fun p hp => absurd (show p ∈ ([] : List (Addr × Obj)) from hp) (by simp)⟩
  have loop : ∀ s₃ : Shared, s₃ = { s₂ with heap := h₁, toks := s₂.toks + ([] : List (Str × Value)).length } ->
      codeAny (model X.prog X.w) X.A (.compLoop (.ListComp elt [⟨tg, iter, ifs, 0⟩] scope pos) 0 (.ref it) (.ref s₂.heap.objs.size) (compEnvC scope cl H2.objs.size X.env))
        (RR (.ref s₂.heap.objs.size) H2.objs.size) s₃ := by
    rintro s₃ rfl
    have I0 := comp_start (tk := s₂.toks + ([] : List (Str × Value)).length) K I hf hfl hlt old hns₁ acc
    refine codeAny_loop rfl (fun n s' => ∃ i ys τ H', Inv (compCx X N' scope cl H2.objs.size s₂ H1 fp) [] τ H' s' /\ tn i s'.heap /\ (∀ b ∈ fp, H' b = none) /\ W i n ys τ H') (fun n s' hI => ?_) m0
      ⟨0, [], outSt js σ, _, I0, T.keep _ _ _ st (fun b _ o e => old b o e), fun b hb => by rw [upd_ne (Nat.ne_of_lt (hfl b hb))]; exact (hf b hb).1, w0⟩
    refine hld fun g_ k_ => ?_; obtain ⟨i, ys, τ, H', I', st', fr', w'⟩ := hI; refine k_ ?_
    show wpAny _ X.A ((compTurn (.ListComp elt [⟨tg, iter, ifs, 0⟩] scope pos) 0 (.ref it) (.ref s₂.heap.objs.size) (compEnvC scope cl H2.objs.size X.env)).onRaise (fun x => do noteFrame x (compEnvC scope cl H2.objs.size X.env); theTreesLotGoes x)) _ _ s'
    refine wpAny_noted ?_; rw [compTurn_list]; refine wpAny_bind (wpAny_standAt (wpAny_bind ?_))
    rcases turn i n ys τ H' w' with ⟨stop, qn⟩ | ⟨go, step⟩
    . refine wpAny_mono (T.done (compCx X N' scope cl H2.objs.size s₂ H1 fp) rfl rfl rfl hc i [] s' τ H' _ I' (stat fr') st' stop) (fun r s4 hr => ?_) fun _ _ e => e
      obtain ⟨hr, I4⟩ := hr; subst hr; refine wpAny_pure ?_; have u : Un (frs X.stack) fp H1 H' s₂.heap s4.heap := I4.base; refine hRR _ _ s4 H' (I.call' (ch := fp) I4.os u I4.hok I4.bare fun b hb => ⟨(hf b hb).2.2.2.1, (hf b hb).2.1, (hf b hb).2.2.2.2.1, (hf b hb).2.2.2.2.2⟩) ?_ (I.fpOk (Nat.le_of_lt hlt) I4.free) qn; obtain ⟨m, hn, _⟩ := I4.loc; exact ⟨m, hn⟩
    . refine wpAny_mono (T.item (compCx X N' scope cl H2.objs.size s₂ H1 fp) rfl rfl rfl hc i [] s' τ H' _ I' (stat fr') st' go) (fun r s4 hr => ?_) fun _ _ e => e
      obtain ⟨u, hr, h4⟩ := hr; subst hr; refine wpAny_bind (wpAny_mono h4 (fun _ s5 h5 => ?_) fun _ _ e => e); refine hld fun g_ k_ => ?_; obtain ⟨x, H5, I5, r5, y5, st5, fr5⟩ := h5; refine k_ ?_; have I5' := I5.pinned (stat fr5) (T.obj _ _ st5)
      have again : ∀ {s7 : Shared} {τ7 : St} {H7 : Hp} {zs : List V} {m' : Nat}, m' < n -> Inv (compCx X N' scope cl H2.objs.size s₂ H1 fp) ([] ++ pinsAt fp s5.heap) τ7 H7 s7 -> W (i + 1) m' zs τ7 H7 ->
          ∃ m, m < n /\ ∃ i ys τ H', Inv (compCx X N' scope cl H2.objs.size s₂ H1 fp) [] τ H' s7 /\ tn i s7.heap /\ (∀ b ∈ fp, H' b = none) /\ W i m ys τ H' := fun {s7 τ7 H7 zs m'} hm I7 w7 => by
        refine ⟨m', hm, i + 1, zs, τ7, H7, I7.unpinned, T.keep _ _ _ st5 fun b hb o e => (I7.pin (b, o) (List.mem_append_right _ (List.mem_append_right _ (mem_pinsAt hb e)))).1, fun b hb => ?_, w7⟩; obtain ⟨o, e, d⟩ := T.obj _ _ st5 b hb; exact (I7.pin (b, o) (List.mem_append_right _ (List.mem_append_right _ (mem_pinsAt hb e)))).2.1
      refine wpAny_bind (thnE (hg _ _ _ _ _ s5 τ H5 x u _ I5' r5 (step x H5 y5)) fun _ s6 h6 => ?_); obtain ⟨σ6, H6, I6, q6⟩ := h6; refine wpAny_bind (thnE (hi _ _ _ _ _ s6 σ6 H6 _ I6 q6) fun ok s7 h7 => ?_); obtain ⟨H7, I7, q7⟩ := h7
      cases ok with
      | false =>
        rw [if_neg Bool.false_ne_true] at q7; obtain ⟨m', hm, w7⟩ := q7; exact wpAny_pure ⟨rfl, again hm I7 w7⟩
      | true =>
        rw [if_pos rfl] at q7; refine wpAny_bind (wpAny_bind (thnE (he _ _ _ _ _ s7 σ6 H7 _ I7 q7) fun yv s8 h8 => ?_)); refine hld fun g_ k_ => ?_; obtain ⟨y, H8, I8, r8, e8, z8, m', hm, w8⟩ := h8; refine k_ ?_; refine wpAny_bind (thnE (mt_append (X := compCx X N' scope cl H2.objs.size s₂ H1 fp) _ s8 σ6 H8 (.ref s₂.heap.objs.size) [y] (.ref s₂.heap.objs.size) [yv] (fun v H9 => H9 = upd H8 s₂.heap.objs.size (.lst (ys ++ [y]))) I8 rfl (.cons r8 .nil) ⟨_, ys, y, rfl, rfl, e8, z8, rfl⟩) fun _ s9 h9 => ?_); refine hld fun g_ k_ => ?_; obtain ⟨_, H9, I9, _, e9⟩ := h9; refine k_ ?_; subst e9; exact wpAny_pure (wpAny_pure ⟨rfl, again hm I9 w8⟩)
  exact codeAny_compStart_list (loop _ rfl) (T.self _ 0 _ _ _ (T.keep _ _ _ st fun b _ o e => old b o e) (loop _ rfl))
variable {wi : TI}
theorem comp_free {pins : List (Addr × Obj)} {σ : St} {H' : Hp} {s' : Shared} {C : Addr} {h' : Heap} (I : Inv X pins σ H' s') (hC : FpOk X pins H' C) (hs : Heap.SameBut C s'.heap h') : Inv X pins σ H' { s' with heap := h' } :=
  I.turnedL (t' := s'.toks) (fp := [C]) (fun b hb => by have e : b = C := by simpa using hb
                                                        subst e; exact hC) fun b o hb e => (hs.2 b fun z => hb (by simp [z])).trans e
theorem pe_comp (K : CompOk X scope cl N' js) (hc : X.calm = true) (hi : PI X tg iter wi) (hg : ∀ C s₀ H₀ fp, PG (compCx X N' scope cl C s₀ H₀ fp) tg g) (hif : ∀ C s₀ H₀ fp, PIf (compCx X N' scope cl C s₀ H₀ fp) ifs ti)
    (he : ∀ C s₀ H₀ fp, PE (compCx X N' scope cl C s₀ H₀ fp) elt te) (hs : ∀ x, foldedSetIterable iter X.env x = pure x := by intro _; rfl) :
    PE X (.ListComp elt [⟨tg, iter, ifs, 0⟩] scope pos) (tComp wi js g ti te) := by
  intro pins s σ H Q I h; rw [eval_ListComp]; refine wpAny_comprehension_free (use := none) rfl hs K.clos K.kind K.names (thn (hi pins s σ H _ I h) fun v s1 h1 => thn h1 fun itv s2 h2 => ?_); refine hld fun g_ k_ => ?_; obtain ⟨it, fp, tn, J, H2, e, I2, T, st2, f2, hW⟩ := h2; refine k_ ?_; subst e; refine comp_block (RR := fun acc C => compPost (model X.prog X.w) X.A X.xe none (EP X pins σ Q) acc C) K hc I2 T st2 f2 hg hif he hW ?_; intro D C s' H' I' hn hC q; obtain ⟨m, hm⟩ := hn; exact ⟨m, hm, fun h' hs' => ⟨.ref D, H', comp_free I' hC hs', rfl, q⟩⟩
theorem ps_setComp {i : Nat} {y : Str} {py spos : Pos} (hN : X.N.Nodup) (hi0 : X.N[i]? = some y) (hx : Loc X.env.scope y) (K : CompOk X scope cl N' js) (hc : X.calm = true) (hi : PI X tg iter wi) (hg : ∀ C s₀ H₀ fp, PG (compCx X N' scope cl C s₀ H₀ fp) tg g)
    (hif : ∀ C s₀ H₀ fp, PIf (compCx X N' scope cl C s₀ H₀ fp) ifs ti) (he : ∀ C s₀ H₀ fp, PE (compCx X N' scope cl C s₀ H₀ fp) elt te)
    (hsw : swapsWith (.ListComp elt [⟨tg, iter, ifs, 0⟩] scope pos) (some (.Name y py)) spos.line X.env = pure true := by rfl) (hs : ∀ x, foldedSetIterable iter X.env x = pure x := by intro _; rfl)
    (hf : X.fn y = true \/ X.env.scope.names.lookup y = some .local := by first | exact .inl rfl | exact .inr rfl | assumption) :
    PS X (.Assign [.Name y py] (.ListComp elt [⟨tg, iter, ifs, 0⟩] scope pos) spos) (tAsg (tComp wi js g ti te) (gName i)) := by
  intro pins s σ H D I h; rw [exec_Assign_Name_used _ _ _ _ hsw]; refine wpAny_bind (wpAny_standAt (wpAny_bind ?_))
  show wpAny _ X.A (do let _ <- comprehension (.ListComp elt [⟨tg, iter, ifs, 0⟩] scope pos) scope X.env _ (newList []) false (eval iter X.env) (some (assign (.Name y py) X.env))) _ _ s
  refine wpAny_bind (wpAny_mono (wpAny_comprehension_free (use := some (assign (.Name y py) X.env)) (Q := fun _ s' => SP X pins D .next s') rfl hs K.clos K.kind K.names
    (thn (hi pins s σ H _ I h) fun v s1 h1 => thn h1 fun itv s2 h2 => ?_)) (fun _ s' hq => wpAny_pure (wpAny_pure hq)) fun _ _ e => e)
  refine hld fun g_ k_ => ?_; obtain ⟨it, fp, tn, J, H2, e, I2, T, st2, f2, hW⟩ := h2; refine k_ ?_; subst e; refine comp_block (RR := fun acc C => compPost (model X.prog X.w) X.A X.xe (some (assign (.Name y py) X.env)) (fun _ s' => SP X pins D .next s') acc C) K hc I2 T st2 f2 hg hif he hW ?_; intro L C s' H' I' hn hC q; obtain ⟨m, hm⟩ := hn
  show wpAny _ X.A (assign (.Name y py) X.env (.ref L)) _ _ _
  refine wpAny_assign_Name (store_ok2 (v := .ref L) I' hN hi0 hx rfl (fun s'' I'' hch => ?_) hf); obtain ⟨a, hsb, ha⟩ := hch
  have hCa : C ≠ a := by
    rcases ha with e | e
    . rw [e]; exact hC.2.1
    . exact Ne.symm (hC.2.2.2.2.1 _ _ e)
  refine ⟨m, hm.sameBut hsb hCa, fun h' hs' => ⟨_, H', comp_free I'' ?_ hs', q⟩⟩; exact hC
end
section
variable {X : Cx} {N' : List Str} {scope : Scope} {cl : List (Str × Addr)} {C : Addr} {s₀ : Shared} {H₀ : Hp} {fp : List Addr} {pos : Pos}
theorem pg_tupC {es : List Expr} {k : Nat} {t : TGs} {n : Nat} (hc : X.calm = true) (h : PGs (compCx X N' scope cl C s₀ H₀ fp) es t)
    (hn : (assignEach es (compCx X N' scope cl C s₀ H₀ fp).env).length = n := by rfl) (hst : (assignEach es (compCx X N' scope cl C s₀ H₀ fp).env).findIdx? (·.1) = none := by rfl) : PG (compCx X N' scope cl C s₀ H₀ fp) (.Tuple es k pos) (gTup X.K n t) :=
  pg_tup (X := compCx X N' scope cl C s₀ H₀ fp) hc h hn hst
theorem ix_listC : IxR (compCx X N' scope cl C s₀ H₀ fp) (rIxL X.K) := ix_list
end
theorem CompOk.plain {X : Cx} {scope : Scope} {N' : List Str} {js : List (Option Nat)} (kind : scope.kind = .function) (loc : ∀ y ∈ scope.names, y.2 = .local) (names : ∀ y ∈ scope.names, scope.names.lookup y.1 = some .local) (len : js.length = N'.length) (no : ∀ o ∈ js, o = none) :
    CompOk X scope [] N' js where
  kind := kind
  nocell := fun y hy z => by rw [loc y hy] at z; cases z
  names := fun y hy _ => names y hy
  len := len
  clos := closureFor_none fun y hy z => by rw [loc y hy] at z; cases z
  cells := fun x c e => nomatch e
  has := fun x hx => by
    have all : ∀ (l : List (Str × NameKind)), (∀ y ∈ l, y.2 = .local) -> ∀ k, (l.map fun (n, k) => if (k == NameKind.free && X.env.scope.kind == .function && X.env.kindOf n == some .cell) then (n, NameKind.cell) else (n, k)).lookup x = some k -> k = .local := by
      intro l
      induction l with
      | nil => intro _ k h; cases h
      | cons y l ih =>
        intro hl k h; obtain ⟨n, kd⟩ := y; have e : kd = .local := hl (n, kd) List.mem_cons_self; subst e; have h' : List.lookup x ((n, NameKind.local) :: (l.map fun (n, k) => if (k == NameKind.free && X.env.scope.kind == .function && X.env.kindOf n == some .cell) then (n, NameKind.cell) else (n, k))) = some k := h
        rw [List.lookup_cons] at h'
        split at h'
        . exact (Option.some.inj h').symm
        . exact ih (fun y hy => hl y (List.mem_cons_of_mem _ hy)) k h'
    rcases hx with h | h
    . exact absurd (all _ loc _ h) (by decide)
    . exact absurd (all _ loc _ h) (by decide)
  out := fun j i e => by
    have := no _ (List.mem_of_getElem? e)
    cases this
theorem CompOk.free1 {X : Cx} {scope : Scope} {N' : List Str} {js : List (Option Nat)} {x : Str} {c : Addr} {nms : List (Str × NameKind)} (kind : scope.kind = .function) (nocell : ∀ y ∈ scope.names, y.2 ≠ .cell)
    (names : ∀ y ∈ scope.names, y.2 = .local -> scope.names.lookup y.1 = some .local) (len : js.length = N'.length) (clos : closureFor scope X.env = pure [(x, c)]) (cells : X.env.cells.lookup x = some c)
    (rl : (relabel scope X.env).names = nms) (only : ∀ p ∈ nms, (p.2 = .cell \/ p.2 = .free) -> p.1 = x)
    (out : ∀ (j i : Nat), js[j]? = some (some i) -> N'[j]? = some x /\ X.N[i]? = some x) (cell : X.env.scope.names.lookup x = some .cell) (seen : nms.lookup x = some .cell \/ nms.lookup x = some .free) : CompOk X scope [(x, c)] N' js where
  kind := kind
  nocell := nocell
  names := names
  len := len
  clos := clos
  cells := fun y c' h => by
    rw [List.lookup_cons] at h
    split at h
    . rename_i e
      have := eq_of_beq e; subst this
      cases h
      exact cells
    . cases h
  has := fun y hy => by
    rw [rl] at hy
    have e : y = x := by
      rcases hy with h | h
      . exact only _ (PySem.mem_of_lookup h) (.inl rfl)
      . exact only _ (PySem.mem_of_lookup h) (.inr rfl)
    subst e; exact ⟨c, by rw [List.lookup_cons, beq_self_eq_true]⟩
  out := fun j i h => ⟨x, (out j i h).1, (out j i h).2, cell, by rw [rl]; exact seen⟩
theorem comp_list {K : PySem.W.Frag} {a : Addr} {xs : List V} {js : List (Option Nat)} {g : TG} {te : TE} {σ : St} {H1 : Hp} {Q : VK} (Pv : Addr -> Nat -> List V -> St -> Hp -> Prop) (small : xs.length <= sizeLine)
    (h0 : ∀ D, H1 D = none -> Pv D 0 [] (outSt js σ) (upd H1 D (.lst []))) (hl : ∀ D i ys τ H, i <= xs.length -> Pv D i ys τ H -> SqL K H a xs)
    (hs : ∀ D i x ys τ H, xs[i]? = some x -> ys.length = i -> Pv D i ys τ H -> g x τ H fun τ2 H2 => te τ2 H2 fun y H4 => H4 D = some (.lst ys) /\ Pv D (i + 1) (ys ++ [y]) τ2 (upd H4 D (.lst (ys ++ [y]))))
    (hd : ∀ D ys τ H, ys.length = xs.length -> Pv D xs.length ys τ H -> Q (.ref D) H) (mg : ∀ x τ H Q Q', (∀ τ H, Q τ H -> Q' τ H) -> g x τ H Q -> g x τ H Q') (me : ∀ τ H Q Q', (∀ v H, Q v H -> Q' v H) -> te τ H Q -> te τ H Q') :
    CompW (Itl K a) js g tAlways te σ H1 Q := by
  intro D hD; refine ⟨fun i m ys τ H => m = xs.length - i /\ i <= xs.length /\ ys.length = i /\ Pv D i ys τ H, ⟨xs.length, by simp, Nat.zero_le _, rfl, h0 D hD⟩, ?_⟩
  rintro i m ys τ H p_
  obtain ⟨rfl, hi, hy, p⟩ := p_; have q := hl D i ys τ H hi p
  by_cases hlt : i < xs.length
  . refine .inr ⟨⟨xs, xs[i], q, by simp [hlt]⟩, fun x H' y => ?_⟩
    obtain ⟨e, y⟩ := y; subst e; refine mg _ _ _ _ _ (fun τ2 H2 z => ?_) (hs D i x ys τ _ (y xs q) hy p)
    unfold tAlways
    dsimp only
    rw [if_pos rfl]; refine me _ _ _ _ (fun v H4 z4 => ?_) z; obtain ⟨z1, z2⟩ := z4; exact ⟨z1, by omega, xs.length - (i + 1), by omega, rfl, hlt, by rw [List.length_append, List.length_singleton]; omega, z2⟩
  . have e : i = xs.length := by omega
    subst e; exact .inl ⟨⟨xs, q, Nat.le_refl _⟩, hd D ys τ H hy p⟩
end L2
namespace KM
open PySem PySem.Spec PyProof.Rows
def mkS (t : Tx) : Str := ⟨t.toArray⟩
def unS (x : Str) : Tx := x.cps.toList
theorem mk_un (x : Str) : mkS (unS x) = x := by unfold mkS unS; rw [Array.toArray_toList]
theorem un_mk (t : Tx) : unS (mkS t) = t := rfl
theorem mkS_len (t : Tx) : (mkS t).length = t.length := by unfold mkS Str.length; simp
theorem mkS_inj {a b : Tx} (h : mkS a = mkS b) : a = b := by rw [<- un_mk a, <- un_mk b, h]
theorem mkS_app (a b : Tx) : mkS a ++ mkS b = mkS (a ++ b) := by
  show Str.append (mkS a) (mkS b) = _
  unfold Str.append mkS
  simp
theorem lp : (Str.ofString "(") = mkS [40] := by decide +kernel
theorem rp : (Str.ofString ")") = mkS [41] := by decide +kernel
theorem ep : (Str.ofString "") = mkS [] := by decide +kernel
theorem join_flat : ∀ ts : List Tx, Str.join (mkS []) (ts.map mkS) = mkS ts.flatten
  | [] => rfl
  | [t] => by
    show mkS t = mkS [t].flatten
    simp
  | t :: u :: r => by
    have ih := join_flat (u :: r)
    show mkS t ++ mkS [] ++ Str.join (mkS []) ((u :: r).map mkS) = _
    rw [ih, mkS_app, mkS_app, List.append_nil]
    rfl
theorem rising_pw : ∀ (ss : List Str) (p : Str), risingS p ss = true -> (p :: ss).Pairwise fun a b => unS a <= unS b
  | [], p, _ => by simp
  | x :: r, p, h => by
    have h' : (!ltCps x.cps.toList p.cps.toList && risingS x r) = true := h; rw [Bool.and_eq_true] at h'; obtain ⟨h1, h2⟩ := h'; have ih := rising_pw r x h2
    have hx : unS p <= unS x := by
      rw [ltCps_eq] at h1; intro z; rw [decide_eq_true (show x.cps.toList < p.cps.toList from z)] at h1
      cases h1
    refine List.pairwise_cons.mpr ⟨fun y hy => ?_, ih⟩
    rcases List.mem_cons.mp hy with rfl | hy
    . exact hx
    . exact List.le_trans hx ((List.pairwise_cons.mp ih).1 y hy)
theorem sorted_pw (ss : List Str) (h : sortedS ss = true) : ss.Pairwise fun a b => unS a <= unS b := by
  cases ss with
  | nil => exact List.Pairwise.nil
  | cons x r => exact rising_pw r x h
theorem sorted_is {ss : List Str} {ts : List Tx} (hp : ss.Perm (ts.map mkS)) (hs : sortedS ss = true) : ss = (srt ts).map mkS := by
  have e : ss = (ss.map unS).map mkS := by
    rw [List.map_map]; have : (mkS ∘ unS) = id := by funext x; exact mk_un x
    rw [this, List.map_id]
  have p : (ss.map unS).Perm ts := by
    have := hp.map unS; rw [List.map_map] at this; have z : (unS ∘ mkS) = id := by funext x; exact un_mk x
    rw [z, List.map_id] at this; exact this
  rw [e, srt_of p (List.pairwise_map.mpr (sorted_pw ss hs))]
theorem join_is (ts : List Tx) : Txt.join (Str.ofString "") (ts.map mkS) = mkS ts.flatten := by
  show Builtin.Str.glued _ _ = _
  rw [StrLaws.glued_eq_join, ep, join_flat]
theorem brk_is (t : Tx) : (Str.ofString "(" ++ mkS t) ++ Str.ofString ")" = mkS (brk t) := by
  rw [lp, rp, mkS_app, mkS_app]
  rfl
end KM
namespace KD
open PySem L2 KM PyProof.Rows
def vO : Option Nat -> V
  | none => .non
  | some k => .int (k : Int)
def vN (k : Nat) : V := .int (k : Int)
def vT (t : Tx) : V := .str (mkS t)
theorem same_new {H : Hp} {p : Addr} (h : H p = none) (o : HO) : Same H (upd H p o) := fun b u q => by rw [upd_ne (ne_of_none q h)]; exact q
theorem same_upd {H H' : Hp} {p : Addr} (e : Same H H') (h : H p = none) (o : HO) : Same H (upd H' p o) := fun b u q => by rw [upd_ne (ne_of_none q h)]; exact e b u q
theorem small {n : Nat} (h : n <= 1000000) : n <= sizeLine := Nat.le_trans h (by decide)
theorem smallt {n : Nat} (h : n <= 1000000) : n < sizeLine := Nat.lt_of_le_of_lt h (by decide)
theorem at_map {α : Type} {f : α -> V} {xs : List α} {i : Nat} {x : α} (h : xs[i]? = some x) : atI (xs.map f) (i : Int) = some (f x) := atI_nat (by rw [List.getElem?_map, h]; rfl)
theorem get_map {α : Type} {f : α -> V} {xs : List α} {i : Nat} {x : α} (h : xs[i]? = some x) : (xs.map f)[i]? = some (f x) := by rw [List.getElem?_map, h]; rfl
theorem of_map {α : Type} {f : α -> V} {xs : List α} {i : Nat} {y : V} (h : (xs.map f)[i]? = some y) : ∃ x, xs[i]? = some x /\ y = f x := by
  rw [List.getElem?_map] at h
  cases q : xs[i]? with
  | none => rw [q] at h; cases h
  | some x => rw [q] at h; exact ⟨x, rfl, (Option.some.inj h).symm⟩
theorem ixN_nat {n k : Nat} (h : k < n) : ixN n (k : Int) = some k := by
  unfold ixN
  rw [if_pos (by omega), if_pos (by omega)]
  rfl
theorem len_vT (ts : List Tx) : ((ts.map mkS).map (·.length)).sum = (ts.map (·.length)).sum := by
  rw [List.map_map]; exact congrArg List.sum (List.map_congr_left fun t _ => mkS_len t)
theorem vT_map (ts : List Tx) : (ts.map mkS).map V.str = ts.map vT := by rw [List.map_map]; rfl
structure Kit (P : Program) (w : World) (K : PySem.W.Frag) (mg : Str -> Option Value) (base : Heap) (k : Nat) (x : Str) (ps : List Str) (sp : Sp) (f : Addr) (fd : FuncData) : Prop where
  ok : FnOk P w K mg base CX0 k f fd ps sp
  bd : Binds K fd ps []
  kp : PySem.W.keepIn K (.ref f) = true
  mg : mg x = some (.ref f)
inductive spOver (vs : (List V)) (H : Hp) (Q : VK) (e_ : XK) : Prop
  | mk (p : Addr) (ts : List Tx) (z1_ : vs = [.ref p]) (z2_ : H p = some (.lst (ts.map vT))) (z3_ : ts.length < 64) (z4_ : (ts.map (·.length)).sum <= 100000) (z5_ : ∀ H', Same H H' -> Q (vT (brk (srt ts).flatten)) H') : spOver vs H Q e_
inductive spRoot (vs : (List V)) (H : Hp) (Q : VK) (e_ : XK) : Prop
  | mk (a : Addr) (ab : Ab) (r : Nat) (rk : Nat -> Nat) (z1_ : vs = [.ref a]) (z2_ : H a = some (.lst (ab.map vO))) (z3_ : Tree ab r rk) (z4_ : ab.length <= 1000) (z5_ : ∀ H', Same H H' -> Q (vN r) H') : spRoot vs H Q e_
structure UnderAt (H : Hp) (u : Addr) (as : List Addr) (ab : Ab) : Prop where
  top : H u = some (.lst (as.map V.ref))
  len : as.length = ab.length
  each : ∀ (i : Nat) (c : Addr), as[i]? = some c -> H c = some (.lst ((kids ab i).map vN))
inductive spUnder (vs : (List V)) (H : Hp) (Q : VK) (e_ : XK) : Prop
  | mk (a : Addr) (ab : Ab) (z1_ : vs = [.ref a]) (z2_ : H a = some (.lst (ab.map vO))) (z3_ : (∀ (j p : Nat), ab[j]? = some (some p) -> p < ab.length)) (z4_ : ab.length <= 1000) (z5_ : ∀ (u : Addr) (as : List Addr) (H' : Hp), Same H H' -> UnderAt H' u as ab -> Q (.ref u) H') : spUnder vs H Q e_
inductive spForm (vs : (List V)) (H : Hp) (Q : VK) (e_ : XK) : Prop
  | mk (a : Addr) (ab : Ab) (r : Nat) (rk : Nat -> Nat) (z1_ : vs = [.ref a]) (z2_ : H a = some (.lst (ab.map vO))) (z3_ : Tree ab r rk) (z4_ : ab.length < 64) (z5_ : ∀ H', Same H H' -> Q (vT (fm ab r)) H') : spForm vs H Q e_
inductive spUpto (K : PySem.W.Frag) (vs : (List V)) (H : Hp) (Q : VK) (e_ : XK) : Prop
  | mk (a : Addr) (xs : List V) (s g : Int) (z1_ : vs = [.ref a, .int s, .int g]) (z2_ : SqL K H a xs) (z3_ : xs.length <= 63) (z4_ : ∀ H', Same H H' -> Q (.int s) H') : spUpto K vs H Q e_
inductive spWhole (vs : (List V)) (H : Hp) (Q : VK) (e_ : XK) : Prop
  | mk (i : Int) (z1_ : vs = [.int i]) (z2_ : ∀ H', Same H H' -> Q (.bl true) H') : spWhole vs H Q e_
inductive spRooted (vs : (List V)) (H : Hp) (Q : VK) (e_ : XK) : Prop
  | mk (a : Addr) (ns : List Int) (z1_ : vs = [.ref a]) (z2_ : H a = some (.lst (ns.map V.int))) (z3_ : ns.length <= 200) (z4_ : ∀ (p : Addr) (ab : Ab) (H' : Hp), Same H H' -> Up ab -> ab.length <= ns.length + 1 -> H p = none -> H' p = some (.lst (ab.map vO)) -> Q (.ref p) H') : spRooted vs H Q e_
end KD
namespace L2
open PySem PySem.Spec PyProof.Rows
end L2
namespace L2
open PySem PySem.Spec PyProof.Rows
section
variable {P : Program} {w : World} {H H' : Hp} {h h' h0 h1 h2 : Heap} {a : Addr} {o : HO} {l : List Env}
theorem ObjOk.ex (x : ObjOk P w H h a o) : ∃ ob, h.get? a = some ob := by
  cases o with
  | lst xs => obtain ⟨_, _, _, _, e⟩ := x; exact ⟨_, e⟩
  | tup xs => obtain ⟨_, _, _, ob, e, _⟩ := x; exact ⟨ob, e⟩
  | dK kvs => obtain ⟨_, _, _, _, ob, _, _, e, _⟩ := x; exact ⟨ob, e⟩
  | dT kvs => obtain ⟨_, _, _, _, ob, _, _, e, _⟩ := x; exact ⟨ob, e⟩
  | set S n => obtain ⟨ob, _, _, _, e, _⟩ := x; exact ⟨ob, e⟩
  | ins C dx fs => obtain ⟨_, _, _, e, _⟩ := x; exact ⟨_, e⟩
  | own y => exact x
  | xd fs => obtain ⟨_, ⟨ob, _, _, e, _⟩, _⟩ := x; exact ⟨ob, e⟩
  | rng lo hi => obtain ⟨_, _, _, e⟩ := x; exact ⟨_, e⟩
  | frz ob u => obtain ⟨e, _⟩ := x; exact ⟨ob, e⟩
  | tbl ps => exact ⟨_, x⟩
  | met f y => exact ⟨_, x⟩
  | ext φ => obtain ⟨_, z, _⟩ := x; exact z
theorem un_fly (u : Un (frs l) [] H H' h0 h1) (hok : HOk P w H' h1) (frf : ∀ b ∈ frs l, H' b = none)
    (ka : ∀ b ob, h1.get? b = some ob -> b ∉ frs l -> ((∃ o0, h0.get? b = some o0) \/ H' b ≠ none) -> h2.get? b = some ob)
    (kb : ∀ b ∈ frs l, ∀ ob, h1.get? b = some ob -> ∃ sl, h2.get? b = some { ob with slots := sl }) : Un (frs l) [] H H' h0 h2 /\ HOk P w H' h2 := by
  refine ⟨⟨fun b ob e n hb hx => ka b ob (u.keep b ob e n hb hx) hb (.inl ⟨_, e⟩), fun b ob e n hb hx => ?_, u.free, fun b ob e hx => ?_, u.tups, u.frzs, u.tbls⟩, fun b u' e => ?_⟩
  . obtain ⟨sl, e1⟩ := u.slot b ob e n hb hx
    obtain ⟨sl2, e2⟩ := kb b hb _ e1; exact ⟨sl2, e2⟩
  . obtain ⟨o1, e1⟩ := u.there b ob e hx
    by_cases hb : b ∈ frs l
    . obtain ⟨sl, e2⟩ := kb b hb _ e1
      exact ⟨_, e2⟩
    . exact ⟨_, ka b o1 e1 hb (.inl ⟨_, e⟩)⟩
  . refine (hok b u' e).stay (fun c v hc q => ?_) (fun _ q => q) fun _ _ q => q
    have hn : H' c ≠ none := by
      rcases hc with z | z
      . rw [z, e]; exact fun y => nomatch y
      . rw [z]; exact fun y => nomatch y
    exact ka c v q (fun hb => hn (frf c hb)) (.inr hn)
end
def CXe (P : Program) (w : World) : CXT := fun outer H s E e s' => ∃ (a : Addr) (cls a0 : Value) (H' : Hp) (B : Heap), e = .ref a /\ s'.os = s.os /\ AllBare s'.gens /\ Un (frs outer) [] H H' s.heap s'.heap /\ HOk P w H' s'.heap /\
  (∀ b ∈ frs outer, H' b = none) /\ Heap.FlyingW B outer a cls a0 s'.heap /\ (∀ b ob, s'.heap.get? b = some ob -> b ∉ frs outer -> ((∃ o0, s.heap.get? b = some o0) \/ H' b ≠ none) -> B.get? b = some ob) /\ E cls none H'
def XRaise (X : Cx) (E : XK) : Prop := ∀ (pins : List (Addr × Obj)) (σ : St) (H : Hp) (s : Shared) (h2 : Heap) (e : Addr) (cls : Value) (vs : List Value), Inv X pins σ H s -> Heap.MadeExcOf s.heap h2 e cls vs -> E cls none H -> X.xe (.ref e) { s with heap := h2 }
section
variable {P : Program} {w : World} {K : PySem.W.Frag} {mg : Str -> Option Value} {base : Heap} {N : List Str} {qual : Str} {scope : Scope} {f : Addr} {cd : Value} {A : Around} {outer : List Env} {s : Shared} {H : Hp} {E : XK}
theorem Inv.outFree {X : Cx} {pins : List (Addr × Obj)} {σ : St} {H1 : Hp} {s1 : Shared} (I : Inv X pins σ H1 s1) : ∀ b ∈ X.fs, H1 b = none := fun b hb => by
  obtain ⟨_, ob, ho, _⟩ := I.ok.funs.mem hb; exact I.base.free b ob ho (I.ok.frf b hb) fun z => I.ok.exfs b z hb
theorem xraise : XRaise (cxOf (CXe P w) P w K mg base N qual scope f cd A outer s H E) E := by
  intro pins σ H1 s1 h2 e cls vs I hx hE; have hst : (cxOf (CXe P w) P w K mg base N qual scope f cd A outer s H E).stack = envOfC qual scope s.heap.objs.size f cd :: outer := rfl; have hin : ∀ env ∈ (envOfC qual scope s.heap.objs.size f cd :: outer), ∀ b, env.frame = some b -> b ∈ frs (envOfC qual scope s.heap.objs.size f cd :: outer) := fun env he b hb => List.mem_filterMap.mpr ⟨env, he, hb⟩; have hfu : s1.heap.FunFrames base (envOfC qual scope s.heap.objs.size f cd :: outer) := I.stack; have hL : ∀ b ∈ frs (envOfC qual scope s.heap.objs.size f cd :: outer), b = s.heap.objs.size \/ b ∈ frs outer := fun b hb => List.mem_cons.mp (I.stkSub b hb); have frf : ∀ b ∈ frs outer, H1 b = none := I.outFree; have hfree : ∀ b ∈ frs (envOfC qual scope s.heap.objs.size f cd :: outer), H1 b = none := I.stkFree; refine wpAny_leaves_madeW (base := PySem.W.hideAll s1.heap (frs (envOfC qual scope s.heap.objs.size f cd :: outer))) (L := s.heap.objs.size) (h := s1.heap) I.ok.frames rfl (fun b ob q => PySem.W.of_hideAll _ q) (PySem.W.funFrames_hide hfu hin) hx fun h' t x1 x2 x3 x4 => ?_; have hun : Un (frs outer) [] H H1 s.heap s1.heap := I.base
  have ka : ∀ b ob, s1.heap.get? b = some ob -> b ∉ frs outer -> ((∃ o0, s.heap.get? b = some o0) \/ H1 b ≠ none) -> (PySem.W.hideAll s1.heap (frs (envOfC qual scope s.heap.objs.size f cd :: outer))).get? b = some ob := by
    intro b ob q hb hc; refine PySem.W.hideAll_get _ q fun hm => ?_
    rcases hL b hm with z | z
    . rcases hc with ⟨o0, h0⟩ | hn
      . rw [z] at h0
        exact absurd (Heap.lt_size h0) (Nat.lt_irrefl _)
      . exact hn (hfree b hm)
    . exact hb z
  have z := un_fly hun I.hok frf (fun b ob q hb hc => x1.1 b ob (ka b ob q hb hc)) (fun b hb ob q => by
    obtain ⟨_, o', ho', hnf⟩ := I.funs.mem hb; rw [q] at ho'
    cases ho'
    exact x4 b ob (hx.keeps b ob q) hnf)
  refine ⟨e, cls, .ref t, H1, _, rfl, I.os, I.bare, z.1, z.2, frf, x1, fun b ob q hb hc => ?_, hE⟩
  have hs1 : ∃ o1, s1.heap.get? b = some o1 := by
    rcases hc with ⟨o0, h0⟩ | hn
    . exact I.base.there b o0 h0 (fun z => absurd (show b ∈ ([] : List Addr) from z) (by simp))
    . cases q1 : H1 b with
      | none => exact absurd q1 hn
      | some u' => exact (I.hok b u' q1).ex
  obtain ⟨o1, q1⟩ := hs1; have h3 := ka b o1 q1 hb hc; have h4 := x1.1 b o1 h3; rw [q] at h4
  cases h4
  exact h3
theorem passX : Passes (CXe P w) (cxOf (CXe P w) P w K mg base N qual scope f cd A outer s H E) E := by
  intro pins σ H1 s1 e s' I hcx; refine hld fun g_ k_ => ?_; obtain ⟨a, cls, a0, H', B, rfl, os, bare, un, hok, frf, hfl, cov, hE⟩ := hcx; refine k_ ?_; have I' : Inv (cxOf (CXe P w) P w K mg base N qual scope f cd A outer s H E) pins σ H' s' := I.call' (ch := []) os un hok bare (fun b z => absurd z (by simp))
  have hfree : ∀ b ∈ frs (envOfC qual scope s.heap.objs.size f cd :: outer), H' b = none := I'.stkFree; have hL : ∀ b ∈ frs (envOfC qual scope s.heap.objs.size f cd :: outer), b = s.heap.objs.size \/ b ∈ frs outer := fun b hb => List.mem_cons.mp (I'.stkSub b hb); refine wpAny_leaves_onW (L := s.heap.objs.size) I.ok.frames rfl hfl fun h' x1 x2 => ?_; have hun : Un (frs outer) [] H H' s.heap s'.heap := I'.base
  have old : ∀ b, b ∉ frs outer -> ((∃ o0, s.heap.get? b = some o0) \/ H' b ≠ none) -> b ∉ frs (envOfC qual scope s.heap.objs.size f cd :: outer) /\ ((∃ o0, s1.heap.get? b = some o0) \/ H' b ≠ none) := by
    intro b hb hc; refine ⟨fun hm => ?_, ?_⟩
    . rcases hL b hm with z | z
      . rcases hc with ⟨o0, h0⟩ | hn
        . rw [z] at h0
          exact absurd (Heap.lt_size h0) (Nat.lt_irrefl _)
        . exact hn (hfree b hm)
      . exact hb z
    . rcases hc with ⟨o0, h0⟩ | hn
      . exact .inl (I.base.there b o0 h0 (fun z => absurd (show b ∈ ([] : List Addr) from z) (by simp)))
      . exact .inr hn
  have ka : ∀ b ob, s'.heap.get? b = some ob -> b ∉ frs outer -> ((∃ o0, s.heap.get? b = some o0) \/ H' b ≠ none) -> B.get? b = some ob := fun b ob q hb hc => cov b ob q (old b hb hc).1 (old b hb hc).2
  have z := un_fly hun hok I'.outFree (fun b ob q hb hc => x1.1 b ob (ka b ob q hb hc)) (fun b hb ob q => by
    obtain ⟨_, o', ho', hnf⟩ := I'.funs.mem hb; rw [q] at ho'
    cases ho'
    exact x2 b ob q hnf)
  refine ⟨a, cls, a0, H', B, rfl, I'.os, bare, z.1, z.2, I'.outFree, x1, fun b ob q hb hc => ?_, hE⟩
  have hs1 : ∃ o1, s'.heap.get? b = some o1 := by
    rcases hc with ⟨o0, h0⟩ | hn
    . exact I'.base.there b o0 h0 (fun z => absurd (show b ∈ ([] : List Addr) from z) (by simp))
    . cases q1 : H' b with
      | none => exact absurd q1 hn
      | some u' => exact (hok b u' q1).ex
  obtain ⟨o1, q1⟩ := hs1; have h3 := ka b o1 q1 hb hc; have h4 := x1.1 b o1 h3; rw [q] at h4
  cases h4
  exact h3
theorem ownX : PassesOwn (model (cxOf (CXe P w) P w K mg base N qual scope f cd A outer s H E).prog (cxOf (CXe P w) P w K mg base N qual scope f cd A outer s H E).w) (cxOf (CXe P w) P w K mg base N qual scope f cd A outer s H E).A
    (cxOf (CXe P w) P w K mg base N qual scope f cd A outer s H E).env (cxOf (CXe P w) P w K mg base N qual scope f cd A outer s H E).xe := PassesOwn.leaving
theorem Fun.okX {x : Str} {st : Stmt} {fd : FuncData} {ps : List Str} {k : Nat} {sp : Sp} (F : Fun K x qual st f fd) (S : FnScope N ps (defScope st)) (len : ∀ vs H Q E, sp vs H Q E -> vs.length = ps.length)
    (hbody : ∀ (cdv : Value) (A : Around) (outer : List Env) (s : Shared) (H : Hp) (vs : List V) (Q : VK) (E : XK), Room k (A.deeper (envOfC qual (defScope st) s.heap.objs.size f cdv)) -> sp vs H Q E ->
      ∃ t, PSs (cxOf (CXe P w) P w K mg base N qual (defScope st) f cdv A outer s H E) (defBody st) t /\ t { nx := fun _ H' => Q .non H', rt := Q } (start N vs) H) : FnOk P w K mg base (CXe P w) (k + 1) f fd ps sp := by
  refine hld fun g_ k_ => ?_; obtain ⟨oc, od, kV, doc, pm, an, cdv, ct, osl, rfl, lk, hcd⟩ := F.ex; refine k_ ?_; exact fn_of lk hcd S len fun A outer s H vs Q E hr hsp => hbody cdv A outer s H vs Q E hr hsp
end
end L2
namespace L2
open PySem PySem.Spec PyProof.Rows PySem.Builtin PySem.Builtin.ObjectAttr PySem.Builtin.Getset_descriptor
abbrev veMro : List Value := [.type "ValueError", .type "Exception", .type "BaseException", .type "object"]
structure XC (K : PySem.W.Frag) (C : Addr) : Prop where
  ex : PySem.W.excIn K C veMro "ValueError.__new__" = true
  ga : PySem.W.findIn K (.ref C) "__getattribute__" = some (some (.builtin "BaseException.__getattribute__"))
  gn : PySem.W.findIn K (.ref C) "__getattr__" = some none
  dc : PySem.W.hasDictIn K C = true
  ca : PySem.W.findIn K (.ref C) "__class__" = some (some (.builtin "object.__class__"))
  cg : PySem.W.specialIn K (.builtin "object.__class__") "__get__" = some (some (.builtin "getset_descriptor.__get__"))
  ct : PySem.W.takesIn K (.builtin "object.__class__") = some true
  mo : PySem.W.mroIn K C (.type "object") = some true
  mb : PySem.W.mroIn K C (.type "BaseException") = some true
section
variable {prog : Program} {w : World} {A : Around} {E : Value -> Shared -> Prop} {s : Shared} {K : PySem.W.Frag} {x C : Addr} {ox : Obj}
theorem XC.cls (c : XC K C) : ∃ cd, PySem.W.clsIn K C = some cd := by
  obtain ⟨cd, h, _⟩ := PySem.W.any_some c.dc; exact ⟨cd, h⟩
def XAt (h : Heap) (x C : Addr) : Prop := ∃ o, h.get? x = some o /\ o.cls = .ref C
theorem XAt.type {M : Model} {h : Heap} (I : XAt h x C) : PySem.W.Looks M h (typeOf (.ref x)) (.ref C) := by
  obtain ⟨o, e, q⟩ := I; rw [<- q]; exact (PySem.W.Looks.ld e).andThen .now
theorem XC.find {M : Model} {h : Heap} (c : XC K C) (X : K.In h) : PySem.W.Looks M h (Builtin.ObjectAttr.find (.ref x) (.ref C) "__class__") (.bind (.builtin "getset_descriptor.__get__") (.builtin "object.__class__")) := by
  have l1 := PySem.W.looks_findIn (M := M) X c.ca; have l2 := PySem.W.looks_specialIn (M := M) X c.cg; have l3 := PySem.W.looks_takesIn (M := M) X c.ct; refine l1.andThen (l2.andThen ?_); exact (show PySem.W.Looks M h (Builtin.ObjectAttr.dataDescriptor? (some (.builtin "object.__class__")) (some (.builtin "getset_descriptor.__get__"))) (some (.builtin "getset_descriptor.__get__", .builtin "object.__class__")) from l3.andThen .now).andThen (PySem.W.Looks.tag .now)
theorem xc_get {R : Result -> Shared -> Prop} {tp : Value} (c : XC K C) (X : K.In s.heap) (I : XAt s.heap x C) (h : R (.ok (.ret (.ref C))) s) :
    codeAny (model prog w) A (.call (.builtin "getset_descriptor.__get__") ⟨[.builtin "object.__class__", .ref x, tp], []⟩) R s := by
  refine hld fun g_ k_ => ?_; obtain ⟨hh, g, dr, t, os⟩ := s; refine k_ ?_; have L0 := I.type (M := model prog w); have L1 := PySem.W.looks_mroIn (M := model prog w) X c.mo; refine codeAny_call_builtin PySem.W.KF.slot_gs.plain PySem.W.KF.entry_gs (PySem.W.KF.slot_gs.check _ _ _ _ _ _ _ _ PySem.W.KF.type_class (PySem.W.KF.args_gs _ _ _) ?_)
  unfold Builtin.«getset_descriptor.__get__» descrGet
  rw [PySem.W.dga_obj]; refine wpAny_bind (wpAny_pure ?_)
  unfold descrGetter descrCheckInstance descrNameAndClass isInstance
  simp only [PySem.W.KF.owner_class]
  repeat lk
  refine ⟨Code.quiet_builtin _ (by decide +kernel), codeAny_builtin PySem.W.KF.entry_class ?_⟩
  unfold Builtin.«object.__class__» shownTypeOf
  repeat lk
  exact h
theorem xc_entry (c : XC K C) {tk : Tok} {Q : Fin -> Shared -> Prop} (X : K.In s.heap) (I : XAt s.heap x C) (h : Q (.done (.ret (.ref C))) s) :
    wpAny (model prog w) A (Builtin.«object.__getattribute__» ⟨[.ref x, .str "__class__" tk], []⟩) Q E s := by
  refine hld fun g_ k_ => ?_; obtain ⟨hh, g, d, t, os⟩ := s; refine k_ ?_; have L0 := I.type (M := model prog w); have L1 := c.find (x := x) (M := model prog w) X; refine wpAny_bind (wpAny_pure ?_); refine wpAny_bind (wpAny_pure (wpAny_bind (L0.at (wpAny_bind (L1.at ?_)))))
  show wpAny _ _ (Builtin.ObjectAttr.bindTo (.builtin "getset_descriptor.__get__") (.builtin "object.__class__") (.ref x) (.ref C)) _ _ _
  unfold Builtin.ObjectAttr.bindTo
  refine wpAny_bind (wpAny_holding (wpAny_call (xc_get c X I ?_))); exact wpAny_pure h
theorem xc_check (c : XC K C) {M : Model} {nameV : Value} {Q : Unit -> Shared -> Prop} (X : K.In s.heap) (I : XAt s.heap x C) (h : Q () s) :
    wpAny M A (checkBuiltinCall "BaseException.__getattribute__" ⟨[.ref x, nameV], []⟩) Q E s := by
  have hk : builtinKind "BaseException.__getattribute__" = some .slot := by decide +kernel
  have hsplit : splitId "BaseException.__getattribute__" = some ("BaseException", "__getattribute__") := by decide +kernel
  have ha := F.args_bexc_ga (.ref x) nameV; refine hld fun g_ k_ => ?_; obtain ⟨hh, g, d, t, os⟩ := s; refine k_ ?_; have L0 := I.type (M := M); have L1 := PySem.W.looks_mroIn (M := M) X c.mb
  simp only [checkBuiltinCall, hk, hsplit]
  refine wpAny_bind ?_
  unfold isInstance
  refine wpAny_bind (L0.at (L1.at ?_))
  dsimp only
  repeat (any_goals (first | assumption | wp_step))
  all_goals exact h
theorem xc_class (c : XC K C) {Q : Option Value -> Shared -> Prop} (X : K.In s.heap) (I : XAt s.heap x C) (h : Q (some (.ref C)) { s with toks := s.toks + 1 }) :
    wpAny (model prog w) A (getAttr? (.ref x) "__class__") Q E s := by
  refine hld fun g_ k_ => ?_; obtain ⟨hh, g, d, t, os⟩ := s; refine k_ ?_; have L0 := I.type (M := model prog w); have L1 := PySem.W.looks_findIn (M := model prog w) X c.ga; have L2 := PySem.W.looks_findIn (M := model prog w) X c.gn
  unfold getAttr? getAttrBy? getAttrBy
  refine wpAny_bind (wpAny_mkText (wpAny_bind (wpAny_attempt (wpAny_holding (wpAny_bind (L0.at (wpAny_bind (L1.at ?_))))))))
  show wpAny _ _ (if (true && false) = true then _ else getAttrByItsOwn (.ref x) _ (.ref C) (.builtin "BaseException.__getattribute__") false false) _ _ _
  rw [if_neg (by decide)]
  unfold getAttrByItsOwn
  refine wpAny_bind (L2.at ?_); refine wpAny_bind (wpAny_attempt (wpAny_holding ?_))
  show wpAny _ _ (boundAndCalled (.builtin "BaseException.__getattribute__") (.ref x) _) _ _ _
  unfold boundAndCalled
  refine wpAny_bind (wpAny_of_eq (PySem.F.attr_ValueError.ga.bind (.ref x)) ?_); refine wpAny_call (codeAny_call_builtin PySem.F.attr_ValueError.ga.plain F.entry_bexc_ga (xc_check (s := ⟨hh, g, d, t + 1, os⟩) c X I (xc_entry (s := ⟨hh, g, d, t + 1, os⟩) c X I ?_))); exact PySem.W.handed_on rfl (wpAny_pure h)
theorem xc_kit (c : XC K C) : PySem.W.KitX K (.ref x) (.ref C) (fun h => XAt h x C) where
  ty := fun _ _ _ I => I.type
  it := fun _ _ X _ => by
    obtain ⟨cd, hc⟩ := c.cls
    unfold PySem.W.clsIn at hc
    split at hc
    . rename_i ho
      intro A' Q' E' s' k q
      unfold isType loadHead
      exact wpAny_bind (wpAny_loadPart (k _ _ (X _ _ ho)) (wpAny_pure q))
    . cases hc
  ne := fun h tp dd its n sl X htp => by
    obtain ⟨cd, hc⟩ := c.cls; refine Bool.eq_false_iff.mpr fun q => ?_; obtain rfl : C = tp := Value.ref.inj (beq_iff_eq.mp q)
    unfold PySem.W.clsIn at hc
    split at hc
    . rename_i ho
      cases (X _ _ ho).symm.trans htp
    . cases hc
  ca := fun X I k => xc_class c X I k
end
end L2
namespace L2
open PySem PySem.Spec PyProof.Rows
section
variable {X : Cx} {t : TA} {E : XK} {x : Str} {C : Addr}
theorem XC.obj {K : PySem.W.Frag} {h : Heap} (c : XC K C) (Y : K.In h) : ∃ bm N nm q bs hdct sn sub ab col dd k0 k1 k2 k3 k5 mN, h.get? C = some (excClassObj nm q C N bs bm hdct sn sub ab col dd k0 k1 k2 k3 k5 "ValueError.__new__") /\ h.Ns N mN /\ mN "__init__" = none /\ OwnTail h veMro bm := by
  have q := c.ex
  unfold PySem.W.excIn at q
  split at q
  . rename_i dd cd sl ho
    split at q
    . rename_i C' bm k0 k1 k2 k3 n k5 hm hs
      simp only [Bool.and_eq_true, beq_iff_eq, Bool.not_eq_true'] at q
      refine hld fun g_ k_ => ?_; obtain ⟨⟨⟨⟨⟨e1, e2⟩, hdel⟩, ht⟩, hok⟩, hni⟩ := q; refine k_ ?_; subst e1; subst e2; refine hld fun g_ k_ => ?_; obtain ⟨nm, bs, mro, ns, qn, hd, sn, sub, ab, col, del⟩ := cd; refine k_ ?_
      dsimp only at hm hdel hok hni
      subst hm; subst hdel; obtain ⟨l⟩ := sl
      dsimp only at hs
      subst hs; exact ⟨bm, ns, nm, qn, bs, hd, sn, sub, ab, col, dd, k0, k1, k2, k3, k5, _, Y _ _ ho, .of_isNs (PySem.W.isNs_of_in Y hok), PySem.W.nsMap_none_of_in Y hok hni, PySem.W.tail_of_in Y ht⟩
    . cases q
  . cases q
def tRaise (C : Addr) (E : XK) (t : TA) : TS := fun _ σ H => t σ H fun vs H1 => vs.length <= sizeLine /\ E (.ref C) none H1
theorem ps_raise {e : Expr} {es : List Expr} {np cpos pos : Pos} (c : XC X.K C) (hc : X.calm = true) (hx : XRaise X E) (hg : Gl X x) (hm : X.mg x = some (.ref C)) (ha : PA X (e :: es) t)
    (hd : (x == ("__debug__" : Str)) = false := by decide) (he : starEach (e :: es) X.env = (false, eval e X.env) :: starEach es X.env := by rfl) (hpl : (backTo cpos (starEach (e :: es) X.env)).any (·.1) = false := by rfl) :
    PS X (.Raise (some (.Call (.Name x np) (e :: es) [] cpos)) none pos) (tRaise C E t) := by
  intro pins s σ H D I h; obtain ⟨bm, N, nm, q, bs, hdct, sn, sub, ab, col, dd, k0, k1, k2, k3, k5, mN, hC, hN, hni, T⟩ := c.obj (h := X.base) I.ok.mod.kin; refine wpAny_Raise_call_subT (C := C) (nm := nm) (q := q) (N := N) (bs := bs) (bm := bm) (hdct := hdct) (sn := sn) (sub := sub) (ab := ab) (col := col) (dd := dd) (k0 := k0) (k1 := k1) (k2 := k2) (k3 := k3) (k5 := k5) (mN := mN) PySem.F.excBase_ValueError (T.hasType rfl) (I.ok.hd hc) hpl hni (ld_glob I hg hm ⟨rfl, ?_⟩ hd); have hp := ha cpos pins s σ H _ I h; rw [he] at hp ⊢; refine Calls.evalArgs_plain (thn hp fun us s1 ⟨vs, H1, I1, r, hl, q1⟩ => ?_); exact ⟨rfl, by rw [<- r.length]; exact hl, I1.bk _ _ hC, hN.keeps I1.bk, T.keeps I1.bk, fun h' e' hx' => hx pins σ H1 s1 h' e' (.ref C) us I1 hx' q1⟩
end
structure Fly (X : Cx) (pins : List (Addr × Obj)) (σ : St) (H : Hp) (s : Shared) (H' : Hp) (a : Addr) (cls : Value) (B : Heap) (s' : Shared) : Prop where
  inv : Inv X pins σ H s
  os : s'.os = s.os
  bare : AllBare s'.gens
  un : Un (frs X.stack) [] H H' s.heap s'.heap
  hok : HOk X.prog X.w H' s'.heap
  fl : ∃ a0, Heap.FlyingW B X.stack a cls a0 s'.heap
  cov : ∀ b ob, s'.heap.get? b = some ob -> b ∉ frs X.stack -> ((∃ o0, s.heap.get? b = some o0) \/ H' b ≠ none) -> B.get? b = some ob
section
variable {X : Cx} {pins : List (Addr × Obj)} {σ : St} {H H' : Hp} {s s' : Shared} {a : Addr} {cls : Value} {B h2 : Heap} {E : XK}
theorem Fly.now (F : Fly X pins σ H s H' a cls B s') : Inv X pins σ H' s' := F.inv.call' (ch := []) F.os F.un F.hok F.bare fun b z => absurd z (by simp)
theorem Fly.there (F : Fly X pins σ H s H' a cls B s') {b : Addr} (h : (∃ o0, s.heap.get? b = some o0) \/ H' b ≠ none) : ∃ o1, s'.heap.get? b = some o1 := by
  rcases h with ⟨o0, h0⟩ | hn
  . exact F.un.there b o0 h0 (fun z => absurd (show b ∈ ([] : List Addr) from z) (by simp))
  . cases q : H' b with
    | none => exact absurd q hn
    | some u => exact (F.hok b u q).ex
theorem Fly.turn (F : Fly X pins σ H s H' a cls B s') {a0 : Value} (fl : Heap.FlyingW B X.stack a cls a0 h2) (sm : s'.heap.UpToSlots h2) : Fly X pins σ H s H' a cls B { s' with heap := h2 } := by
  have ka : ∀ b ob, s'.heap.get? b = some ob -> b ∉ frs X.stack -> ((∃ o0, s.heap.get? b = some o0) \/ H' b ≠ none) -> h2.get? b = some ob := fun b ob q hb hc => fl.1 b ob (F.cov b ob q hb hc)
  have z := un_fly F.un F.hok F.now.stkFree ka (fun b hb ob q => by
    obtain ⟨_, o', ho', hnf⟩ := F.now.stack.mem hb; rw [q] at ho'
    cases ho'
    exact sm b ob q hnf)
  refine ⟨F.inv, F.os, F.bare, z.1, z.2, ⟨a0, fl⟩, fun b ob q hb hc => ?_⟩; obtain ⟨o1, q1⟩ := F.there hc; have h3 := F.cov b o1 q1 hb hc; have h4 := fl.1 b o1 h3; have h5 : h2.get? b = some ob := q; rw [h5] at h4
  cases h4
  exact h3
theorem Fly.of {e : Value} (I : Inv X pins σ H s) (h : CXe X.prog X.w X.stack H s E e s') : ∃ a cls H' B, e = .ref a /\ Fly X pins σ H s H' a cls B s' /\ E cls none H' := by
  obtain ⟨a, cls, a0, H', B, e1, os, bare, un, hok, frf, hfl, cov, hE⟩ := h; exact ⟨a, cls, H', B, e1, ⟨I, os, bare, un, hok, ⟨a0, hfl⟩, cov⟩, hE⟩
theorem Fly.new (F : Fly X pins σ H s H' a cls B s') : s.heap.get? a = none /\ H' a = none := by
  refine hld fun g_ k_ => ?_; obtain ⟨a0, f1, f2, f3, oe, vs, T, oT, ts, he, hc, hd, _⟩ := F.fl; refine k_ ?_
  have nf : a ∉ frs X.stack := fun hm => by
    obtain ⟨_, o', ho', hnf⟩ := F.now.stack.mem hm; rw [he] at ho'
    cases ho'
    exact hnf _ hd
  have key : ¬ ((∃ o0, s.heap.get? a = some o0) \/ H' a ≠ none) := fun hc => by
    have := F.cov a oe he nf hc; rw [f2] at this
    cases this
  constructor
  . cases q : s.heap.get? a with
    | none => rfl
    | some o => exact absurd (.inl ⟨o, q⟩) key
  . cases q : H' a with
    | none => rfl
    | some u => exact absurd (.inr (by rw [q]; exact fun z => nomatch z)) key
abbrev errO (a C : Addr) : HO := .ext fun h => XAt h a C
theorem Fly.held {C : Addr} (F : Fly X pins σ H s H' a (.ref C) B s') : Inv X pins σ (upd H' a (errO a C)) s' := by
  obtain ⟨n1, n2⟩ := F.new; refine hld fun g_ k_ => ?_; obtain ⟨a0, f1, f2, f3, oe, vs, T, oT, ts, he, hc, hd, _⟩ := F.fl; refine k_ ?_; have hn : ∀ b ob, s.heap.get? b = some ob -> b ≠ a := fun b ob q z => by rw [z, n1] at q; cases q
  have hu : ∀ b, b ≠ a -> upd H' a (errO a C) b = H' b := fun b hb => by unfold upd; rw [if_neg hb]
  refine F.inv.call' (ch := []) F.os ⟨F.un.keep, F.un.slot, fun b ob q hb hx => ?_, F.un.there, ?_, ?_, ?_⟩ (fun b u q => ?_) F.bare fun b z => absurd z (by simp)
  . rw [hu b (hn b ob q)]; exact F.un.free b ob q hb hx
  . intro b xs q
    have e := F.un.tups b xs q; rw [hu b (fun z => by rw [z, n2] at e; cases e)]; exact e
  . intro b ob u q
    have e := F.un.frzs b ob u q; rw [hu b (fun z => by rw [z, n2] at e; cases e)]; exact e
  . intro b ps q
    obtain ⟨m, e⟩ := F.un.tbls b ps q; exact ⟨m, by rw [hu b (fun z => by rw [z, n2] at e; cases e)]; exact e⟩
  . by_cases hb : b = a
    . subst hb
      unfold upd at q
      rw [if_pos rfl] at q
      cases q
      exact ⟨⟨oe, he, hc.1⟩, ⟨oe, he⟩, fun h1 h2 ⟨o, e1, e2⟩ k => ⟨o, k o e1, e2⟩⟩
    . rw [hu b hb] at q
      have hs : ∀ c o, H' c = some o -> upd H' a (errO a C) c = some o := fun c o e => by rw [hu c (fun z => by rw [z, n2] at e; cases e)]; exact e
      exact (F.hok b u q).stay (fun c v hc q => q) (fun c q => by first | exact hs _ _ q | exact q) (fun _ _ q => by first | exact hs _ _ q | exact q)
end
end L2
namespace L2
open PySem PySem.Spec PyProof.Rows
abbrev RX := Value -> Hp -> Prop
abbrev TEx := St -> Hp -> VK -> RX -> Prop
abbrev RS := Value -> St -> Hp -> Prop
abbrev TSx := Ends -> RS -> St -> Hp -> Prop
abbrev TH := Ends -> RS
def XP (X : Cx) (pins : List (Addr × Obj)) (σ : St) (R : RX) (x : Value) (s' : Shared) : Prop := ∃ a cls H s H' B, x = .ref a /\ Fly X pins σ H s H' a cls B s' /\ R cls H'
def XPs (X : Cx) (pins : List (Addr × Obj)) (R : RS) (x : Value) (s' : Shared) : Prop := ∃ σ', XP X pins σ' (fun cls H => R cls σ' H) x s'
def PEx (X : Cx) (e : Expr) (t : TEx) : Prop :=
  ∀ (pins : List (Addr × Obj)) (s : Shared) (σ : St) (H : Hp) (Q : VK) (R : RX), Inv X pins σ H s -> t σ H Q R -> wpAny (model X.prog X.w) X.A (eval e X.env) (EP X pins σ Q) (XP X pins σ R) s
def PSx (X : Cx) (st : Stmt) (t : TSx) : Prop :=
  ∀ (pins : List (Addr × Obj)) (s : Shared) (σ : St) (H : Hp) (D : Ends) (R : RS), Inv X pins σ H s -> t D R σ H -> wpAny (model X.prog X.w) X.A (exec st X.env) (SP X pins D) (XPs X pins R) s
def PSsx (X : Cx) (st : List Stmt) (t : TSx) : Prop :=
  ∀ (pins : List (Addr × Obj)) (s : Shared) (σ : St) (H : Hp) (D : Ends) (R : RS), Inv X pins σ H s -> t D R σ H -> wpAny (model X.prog X.w) X.A (execs st X.env) (SP X pins D) (XPs X pins R) s
def PH (X : Cx) (hs : List ExceptHandler) (t : TH) : Prop :=
  ∀ (pins : List (Addr × Obj)) (σ : St) (H : Hp) (s : Shared) (H' : Hp) (a : Addr) (cls : Value) (B : Heap) (s' : Shared) (D : Ends), Fly X pins σ H s H' a cls B s' -> t D cls σ H' ->
    wpAny (model X.prog X.w) X.A (handleBy (.ref a) X.env hs) (SP X pins D) X.xe s'
section
variable {X : Cx} {k : Nat} {f C : Addr} {fd : FuncData} {ps : List Str} {sp : Sp} {dvs : List V} {ds : List Value} {x : Str} {p pos : Pos} {e : Expr} {es : List Expr} {t : TA} {te : TEx}
def tCallX (sp : Sp) (dvs : List V) (t : TA) : TEx := fun σ H Q R => t σ H fun vs H1 => sp (vs ++ dvs) H1 Q fun cls _ H' => R cls H'
theorem pex_call (F : FnOk X.prog X.w X.K X.mg X.base (CXe X.prog X.w) k f fd ps sp) (hr : Room k X.A) (hg : Gl X x) (hm : X.mg x = some (.ref f)) (hk : PySem.W.keepIn X.K (.ref f) = true) (hb : Binds X.K fd ps ds) (hd : Vals dvs ds)
    (ha : PA X.nox (e :: es) t) (hdb : (x == ("__debug__" : Str)) = false := by decide) (he : starEach (e :: es) X.env = (false, eval e X.env) :: starEach es X.env := by rfl) (hpl : (backTo pos (starEach es X.env)).any (·.1) = false := by rfl) :
    PEx X (.Call (.Name x p) (e :: es) [] pos) (tCallX sp dvs t) := by
  intro pins s σ H Q R I h; refine wpAny_Call_Name_kw (ld_glob I hg hm ?_ hdb); refine PySem.W.callWith_K (h₀ := X.base) I.ok.mod.kin hk (wpAny_mono (ha pos pins s σ H _ (I.wish _) h) (fun us s1 ⟨vs, H1, I1, r, q⟩ => ⟨I1.kIn, ?_⟩) fun _ _ z => False.elim z) he hpl; have I1 := I1.unwish; have r2 : Vals (vs ++ dvs) (us ++ ds) := r.append hd; have hl : (us ++ ds).length = ps.length := by rw [<- r2.length]; exact F.len _ _ _ _ q
  refine wpAny_call (codeAny_mono (F.run X.A X.stack s1 H1 ⟨us, []⟩ (us ++ ds) (vs ++ dvs) Q _ hr I1.env0 (hb s1 us I1.kIn hl) r2 q) fun r s' hq => ?_)
  cases r with
  | error e =>
    obtain ⟨a, cls, H', B, e1, F1, hE⟩ := Fly.of (E := fun cls _ H' => R cls H') (e := e) (s' := s') I1 hq; exact ⟨a, cls, H1, s1, H', B, e1, F1, hE⟩
  | ok fl =>
    cases fl with
    | ret u => exact I1.after hq
    | next => exact False.elim hq
    | brk => exact False.elim hq
    | cont => exact False.elim hq
theorem psx_expr (he : PEx X e te) (hs : swapsWith e none pos.line X.env = pure false := by rfl) : PSx X (.Expr e pos) fun D R σ H => te σ H (fun _ H1 => D.nx σ H1) fun cls H1 => R cls σ H1 := by
  intro pins s σ H D R I h; exact wpAny_Expr_any (wpAny_mono (he pins s σ H _ _ I h) (fun v s1 ⟨x, H1, I1, r1, q1⟩ => ⟨σ, H1, I1, q1⟩) fun _ _ z => ⟨σ, z⟩) I.quiet hs
theorem psx_one {st : Stmt} {t : TSx} (h : PSx X st t) : PSsx X [st] t := by
  intro pins s σ H D R I hw; refine wpAny_execs_cons (thn (h pins s σ H D R I hw) fun f s1 q => ?_)
  cases f with
  | next => exact wpAny_execs_nil q
  | ret v => exact q
  | brk => exact q
  | cont => exact q
end
abbrev Cx.suite (X : Cx) (a : Addr) : Cx := { X with A := X.A.mark (some (.ref a)), calm := false, xe := fun _ _ => False }
section
variable {X : Cx} {pins : List (Addr × Obj)} {σ : St} {H : Hp} {s : Shared} {a : Addr}
theorem Cx.Ok.suite (ok : X.Ok) (a : Addr) : (X.suite a).Ok :=
  ⟨ok.mod, ok.kind, ok.glob, ok.blt, ok.above, ok.inj, ok.has, ok.cab, fun z => Bool.noConfusion z, ok.frames, ok.stk, ok.exf, ok.bs, ok.bsz, ok.noex, ok.exfs, ok.funs, ok.frf⟩
theorem Inv.suite (I : Inv X pins σ H s) (a : Addr) : Inv (X.suite a) pins σ H s := ⟨I.ok.suite a, I.os, I.bare, I.base, I.loc, I.cell, I.free, I.freeC, I.pin, I.hok, I.len⟩
theorem Inv.unsuite (ok : X.Ok) (I : Inv (X.suite a) pins σ H s) : Inv X pins σ H s := ⟨ok, I.os, I.bare, I.base, I.loc, I.cell, I.free, I.freeC, I.pin, I.hok, I.len⟩
theorem goes_ok {M : Model} {A : Around} {E : Value -> Shared -> Prop} {i : Nat} {x : Str} {pos : Pos} {Q : Unit -> Shared -> Prop} (I : Inv X pins σ H s) (hN : X.N.Nodup) (hi : X.N[i]? = some x) (hk : X.env.scope.names.lookup x = some .local)
    (h : ∀ s', Inv X pins (σ.set i none) H s' -> Q () s') : wpAny M A (do bindName X.env x .none; unbindBehindTheSuite X.env x pos) Q E s := by
  obtain ⟨m, hn, hl⟩ := id I.loc; have hcls : (X.env.scope.kind == .class || (X.env.scope.kind == .module && X.env.locals != X.env.globals)) = false := by rw [I.ok.kind]; rfl
  have hiσ : i < σ.length := by rw [I.len]; exact (List.getElem?_eq_some_iff.mp hi).1
  have cne := I.cne; refine wpAny_nameGoes_keeps hk hn hcls fun h' v hn' hs => ?_; refine hld fun g_ k_ => ?_; obtain ⟨oL, _, _, hoL, _⟩ := id hn; refine k_ ?_; refine h _ ⟨I.ok, I.os, I.bare, ⟨fun b o e n hb hx => ?_, fun b o e n hb hx => ?_, I.base.free, fun b o e hx => ?_, I.base.tups, I.base.frzs, I.base.tbls⟩, ⟨_, hn', fun j y v' e1 e2 e3 => ?_⟩, fun y c e => ?_, I.free, I.freeC, fun p hp => ?_, fun b ob e => ?_, by simpa using I.len⟩
  . exact (hs.2 b (Nat.ne_of_lt (Nat.lt_of_lt_of_le (Heap.lt_size e) I.ok.above))).trans (I.base.keep b o e n hb hx)
  . obtain ⟨sl, e1⟩ := I.base.slot b o e n hb hx
    exact ⟨sl, (hs.2 b (Nat.ne_of_lt (Nat.lt_of_lt_of_le (Heap.lt_size e) I.ok.above))).trans e1⟩
  . obtain ⟨o', e1⟩ := I.base.there b o e hx
    exact ⟨o', (hs.2 b (Nat.ne_of_lt (Nat.lt_of_lt_of_le (Heap.lt_size e) I.ok.above))).trans e1⟩
  . by_cases hj : j = i
    . subst hj
      rw [List.getElem?_set_self hiσ] at e2
      cases e2
    . rw [List.getElem?_set_ne (Ne.symm hj)] at e2
      obtain ⟨u', r', q⟩ := hl j y v' e1 e2 e3; refine ⟨u', r', ?_⟩
      rcases q with ⟨k, e⟩ | ⟨k, c, e, z⟩
      . refine .inl ⟨k, ?_⟩
        have : y ≠ x := fun e => hj (nodup_ix hN e1 (e ▸ hi))
        simp [this, e]
      . exact .inr ⟨k, c, e, z.sameBut hs (cne y c e)⟩
  . obtain ⟨w', z⟩ := I.cell y c e
    exact ⟨w', z.sameBut hs (cne y c e)⟩
  . obtain ⟨e, n, ne, nf, d⟩ := I.pin p hp
    exact ⟨(hs.2 p.1 ne).trans e, n, ne, nf, d⟩
  . refine (I.hok b ob e).stay (fun c w' hc q => (hs.2 c ?_).trans q) (fun _ q => q) fun _ _ q => q
    intro z; subst z; have hf := I.free
    rcases hc with z | z
    . rw [<- z, hf] at e; cases e
    . rw [hf] at z; cases z
end
structure CN (X : Cx) (x : Str) (c : Value) : Prop where
  gl : Gl X x
  is : X.mg x = some c \/ (X.mg x = none /\ bootBuiltins x = some c /\ x ≠ "__name__")
section
variable {X : Cx} {x n : Str} {c : Value} {np pos : Pos} {b₀ : Stmt} {su : List Stmt} {rest : List ExceptHandler} {ts : TS} {tr : TH}
theorem Fly.type {M : Model} {pins : List (Addr × Obj)} {σ : St} {H H' : Hp} {s s' : Shared} {a : Addr} {cls : Value} {B : Heap} (F : Fly X pins σ H s H' a cls B s') : PySem.W.Looks M s'.heap (typeOf (.ref a)) cls := by
  obtain ⟨a0, fl⟩ := F.fl; obtain ⟨ob, hob, hc⟩ := fl.there; subst hc; exact (PySem.W.Looks.ld hob).andThen .now
theorem CN.load {E : Value -> Shared -> Prop} {pins : List (Addr × Obj)} {s : Shared} {σ : St} {H : Hp} {Q : Value -> Shared -> Prop} (N : CN X x c) (I : Inv X pins σ H s) (h : Q c s)
    (hd : (x == ("__debug__" : Str)) = false) : wpAny (model X.prog X.w) X.A (eval (.Name x np) X.env) Q E s := by
  rcases N.is with z | ⟨z, z2, z3⟩
  . exact ld_glob I N.gl z h hd
  . exact ld_blt I N.gl z z2 h z3 hd
theorem ph_as {i : Nat} (N : CN X x c) (hN : X.N.Nodup) (hi : X.N[i]? = some n) (hk : X.env.scope.names.lookup n = some .local) (hs : ∀ a, PSs (X.suite a) (b₀ :: su) ts) (hr : PH X rest tr) (hd : (x == ("__debug__" : Str)) = false := by decide) :
    PH X (.ExceptHandler (some (.Name x np)) (some n) (b₀ :: su) pos :: rest) fun D cls σ H => ∃ b, PySem.W.exmOne X.K cls c = some b /\
      if b = true then ∃ C, cls = .ref C /\ ∀ a, H a = none -> ts { nx := fun σ' H' => D.nx (σ'.set i none) H', rt := D.rt, bk := fun σ' H' => D.bk (σ'.set i none) H', ct := fun σ' H' => D.ct (σ'.set i none) H' } (σ.set i (some (.ref a))) (upd H a (errO a C)) else tr D cls σ H := by
  intro pins σ H s H' a cls B s' D F h; obtain ⟨b, e, h⟩ := h; have I := F.now; refine wpAny_handleBy_cons (codeAny_handlers_test (CN.load (X := X.suite a) ⟨N.gl, N.is⟩ (I.suite a) ?_ hd)) (by intro q; cases q)
  refine (PySem.W.exm_one I.kIn F.type e).here ?_
  cases b with
  | false => exact hr pins σ H s H' a cls B s' D F h
  | true =>
    obtain ⟨C, rfl, h⟩ := h; refine codeAny_handlers_suite_as ?_; obtain ⟨a0, fl⟩ := F.fl; refine lands_againW fl fun h6 fl6 sm6 => ?_; have F6 := F.turn fl6 sm6; refine store_ok (X := X.suite a) (F6.held.suite a) hN hi (.inl hk) (v := .ref a) rfl (fun s7 I7 => ?_) (.inr hk); refine wpAny_mono (hs a pins s7 _ _ _ I7 (h a F.new.2)) (fun f s2 q => ?_) fun _ _ z => False.elim z
    show wpAny _ _ (do bindName X.env n .none; unbindBehindTheSuite X.env n pos) (fun _ s₃ => SP X pins D f s₃) _ s2
    cases f with
    | next => obtain ⟨σ', H2, I2, q⟩ := q; exact goes_ok (I2.unsuite I.ok) hN hi hk fun s3 I3 => ⟨_, H2, I3, q⟩
    | brk => obtain ⟨σ', H2, I2, q⟩ := q; exact goes_ok (I2.unsuite I.ok) hN hi hk fun s3 I3 => ⟨_, H2, I3, q⟩
    | cont => obtain ⟨σ', H2, I2, q⟩ := q; exact goes_ok (I2.unsuite I.ok) hN hi hk fun s3 I3 => ⟨_, H2, I3, q⟩
    | ret u => obtain ⟨v, σ', H2, I2, r, q⟩ := q; exact goes_ok (I2.unsuite I.ok) hN hi hk fun s3 I3 => ⟨v, _, H2, I3, r, q⟩
theorem ph_never : PH X rest fun _ _ _ _ => False := fun _ _ _ _ _ _ _ _ _ _ _ h => h.elim
def tTry (tb : TSx) (th : TH) (to : TS) : TS := fun D σ H => tb { D with nx := fun σ' H' => to D σ' H' } (th D) σ H
theorem ps_try {body orelse : List Stmt} {h₀ : ExceptHandler} {hs : List ExceptHandler} {tb : TSx} {th : TH} {to : TS} (hb : PSsx X body tb) (hh : PH X (h₀ :: hs) th) (ho : PSs X orelse to)
    (hst : X.stack = X.env :: X.outer := by rfl) (hfr : X.env.frame = some X.env.locals := by rfl) : PS X (.Try body (h₀ :: hs) orelse [] pos) (tTry tb th to) := by
  intro pins s σ H D I h; refine wpAny_Try_except (wpAny_mono (hb pins s σ H _ _ I h) (fun f s1 q => ?_) fun e s1 q => ?_)
  . cases f with
    | next => obtain ⟨σ', H', I', q⟩ := q; exact ho pins s1 σ' H' D I' q
    | brk => exact q
    | cont => exact q
    | ret u => exact q
  . obtain ⟨σ', a, cls, H1, s0, H', B, rfl, F, q⟩ := q
    obtain ⟨a0, fl⟩ := F.fl; refine wpAny_looks_onW (by rw [I.ok.frames, hst]) hfr (hst ▸ fl) fun h4 held4 sm4 => ?_
    refine wpAny_landsW held4 fun h5 fl5 sm5 => ?_; exact hh pins σ' H1 s0 H' a cls B _ D (F.turn (a0 := a0) (hst ▸ fl5) (sm4.trans sm5)) q
end
end L2
namespace L2
open PySem PySem.Spec PyProof.Rows
section
variable {X : Cx}
theorem vals_refs {Ds : List Addr} {us : List Value} (r : Vals (Ds.map V.ref) us) : us = Ds.map Value.ref := by
  induction Ds generalizing us with
  | nil => cases r; rfl
  | cons d ds ih =>
    cases r with
    | cons r rr =>
      rw [ih rr]
      cases (show _ = Value.ref d from r)
      rfl
inductive rIsiX (K : PySem.W.Frag) (xs : (List V)) (H : Hp) (Q : VK) : Prop
  | mk (a : _) (C : _) (c : _) (b : _) (z1_ : xs = [.ref a, c]) (z2_ : H a = some (errO a C)) (z3_ : XC K C) (z4_ : Q (.bl b) H) (z5_ : ((∃ T : String, c = .ty T /\ PySem.W.kitOne K (.ref C) (.type T) = some b) \/ (∃ D : Addr, c = .ref D /\ PySem.W.kitOne K (.ref C) (.ref D) = some b) \/ ∃ (p : Addr) (Ds : List Addr), c = .ref p /\ H p = some (.tup (Ds.map V.ref)) /\ PySem.W.kitAny K (.ref C) (Ds.map Value.ref) = some b)) : rIsiX K xs H Q
theorem call_isiX : CallR X (.builtin "isinstance") (rIsiX X.K) := by
  intro pins s σ H xs us Q I r h; obtain ⟨a, C, c, b, rfl, ea, xc, q, h⟩ := h; refine hld fun g_ k_ => ?_; obtain ⟨u, w', rfl, rx, rt⟩ := vals2 r; refine k_ ?_
  cases (show u = Value.ref a from rx)
  have xa : XAt s.heap a C := (show ObjOk X.prog X.w H s.heap a (errO a C) from I.hok a _ ea).1
  have fin : ∀ tk, EP X pins σ Q (.bool b) { s with toks := tk } := fun tk => ⟨.bl b, H, I.tok tk, rfl, q⟩
  rcases h with ⟨T, rfl, e⟩ | ⟨D, rfl, e⟩ | ⟨p, Ds, rfl, ep, e⟩
  . cases (show w' = Value.type T from rt)
    exact PySem.W.kia_one (xc_kit xc) I.kIn xa e (fun z => nomatch z) fin
  . cases (show w' = Value.ref D from rt)
    exact PySem.W.kia_one (xc_kit xc) I.kIn xa e (fun z => nomatch z) fin
  . cases (show w' = Value.ref p from rt)
    refine hld fun g_ k_ => ?_; obtain ⟨_, its, rv, ob, e1, e2, n, e3⟩ := (show ObjOk X.prog X.w H s.heap p (.tup (Ds.map V.ref)) from I.hok p _ ep); refine k_ ?_
    refine hld fun g_ k_ => ?_; obtain ⟨oc, od, oda, osl⟩ := ob; refine k_ ?_
    dsimp only at e2 e3
    subst e2 e3; rw [vals_refs rv] at e1; exact PySem.W.kia_tup (xc_kit xc) I.kIn xa e1 e (fun z => nomatch z) fin
theorem call_isiS {a : Addr} : CallR (X.suite a) (.builtin "isinstance") (rIsiX X.K) := call_isiX
end
end L2
namespace PySem
end PySem
namespace L2
open PySem PySem.Spec PyProof.Rows
section
variable {X : Cx}
def eqL (xs ys : List V) : Bool := xs.length == ys.length && (List.range xs.length).all fun j => eqV (xs.getD j .non) (ys.getD j .non)
theorem eq_each {A : Around} {s : Shared} {xs ys : List V} {us ws : List Value} (r : Vals xs us) (r2 : Vals ys ws) (f1 : xs.all flatV = true) (f2 : ys.all flatV = true) :
    ∀ j (h1 : j < us.toArray.size) (h2 : j < ws.toArray.size), SeqAt.EqAt A s us.toArray[j] ws.toArray[j] (eqV (xs.getD j .non) (ys.getD j .non)) := by
  intro j h1 h2; rw [List.size_toArray] at h1 h2; have l1 := r.length; have l2 := r2.length; have hj : j < xs.length := by omega
  have hj2 : j < ys.length := by omega
  obtain ⟨u1, e1, q1⟩ := r.get (List.getElem?_eq_getElem hj); obtain ⟨u2, e2, q2⟩ := r2.get (List.getElem?_eq_getElem hj2)
  have e3 : us.toArray[j] = u1 := by
    rw [List.getElem?_eq_getElem h1] at e1
    simpa using Option.some.inj e1
  have e4 : ws.toArray[j] = u2 := by
    rw [List.getElem?_eq_getElem h2] at e2
    simpa using Option.some.inj e2
  rw [e3, e4]; have g1 : xs.getD j .non = xs[j] := by simp [hj]
  have g2 : ys.getD j .non = ys[j] := by simp [hj2]
  rw [g1, g2]; exact eqAt_V q1 q2 (List.all_eq_true.mp f1 _ (List.getElem_mem hj)) (List.all_eq_true.mp f2 _ (List.getElem_mem hj2))
end
end L2
namespace L2
open PySem PySem.Spec PyProof.Rows
end L2
namespace L2
open PySem PySem.Spec PyProof.Rows
section
variable {P : Program} {w : World} {K : PySem.W.Frag} {mg : Str -> Option Value} {base : Heap}
structure FunD (K : PySem.W.Frag) (x qual : Str) (st : Stmt) (f : Addr) (fd : FuncData) : Prop where
  ex : ∃ (T : Addr) (oc : Value) (od : Option Addr) (kV doc pm : Value) (an : Option Addr) (cdv ct : Value) (osl : Array (Option Value)) (tc : Value) (td : Option Addr) (tn : Nat) (tsl : Array (Option Value)),
    fd = PySem.W.fnOf x qual (defArgs st) (defBody st) (defScope st) (.ref T) kV doc pm an cdv ct /\ K.lookup f = some ⟨oc, od, .func fd, osl⟩ /\ PySem.W.codeIn K cdv qual = true /\ K.lookup T = some ⟨tc, td, .seq #[.none] tn, tsl⟩
  kp : PySem.W.keepIn K (.ref f) = true
theorem funD_mk {x qual : Str} {st : Stmt} {f T : Addr} {oc : Value} {od an : Option Addr} {osl : Array (Option Value)} {kV doc pm cdv ct tc : Value} {td : Option Addr} {tn : Nat} {tsl : Array (Option Value)}
    (l : K.lookup f = some ⟨oc, od, .func (PySem.W.fnOf x qual (defArgs st) (defBody st) (defScope st) (.ref T) kV doc pm an cdv ct), osl⟩)
    (c : PySem.W.codeIn K cdv qual = true) (k : PySem.W.keepIn K (.ref f) = true) (t : K.lookup T = some ⟨tc, td, .seq #[.none] tn, tsl⟩) : FunD K x qual st f (PySem.W.fnOf x qual (defArgs st) (defBody st) (defScope st) (.ref T) kV doc pm an cdv ct) :=
  ⟨⟨T, oc, od, kV, doc, pm, an, cdv, ct, osl, tc, td, tn, tsl, rfl, l, c, t⟩, k⟩
theorem FunD.okX {qual x : Str} {st : Stmt} {f : Addr} {fd : FuncData} {N ps : List Str} {k : Nat} {sp : Sp} (F : FunD K x qual st f fd) (S : FnScope N ps (defScope st)) (len : ∀ vs H Q E, sp vs H Q E -> vs.length = ps.length)
    (hbody : ∀ (cdv : Value) (A : Around) (outer : List Env) (s : Shared) (H : Hp) (vs : List V) (Q : VK) (E : XK), Room k (A.deeper (envOfC qual (defScope st) s.heap.objs.size f cdv)) -> sp vs H Q E ->
      ∃ t, PSs (cxOf (CXe P w) P w K mg base N qual (defScope st) f cdv A outer s H E) (defBody st) t /\ t { nx := fun _ H' => Q .non H', rt := Q } (start N vs) H) : FnOk P w K mg base (CXe P w) (k + 1) f fd ps sp := by
  refine hld fun g_ k_ => ?_; obtain ⟨T, oc, od, kV, doc, pm, an, cdv, ct, osl, tc, td, tn, tsl, rfl, lk, hcd, _⟩ := F.ex; refine k_ ?_; exact fn_of lk hcd S len fun A outer s H vs Q E hr hsp => hbody cdv A outer s H vs Q E hr hsp
theorem FunD.binds {x qual : Str} {st : Stmt} {f : Addr} {fd : FuncData} {ps : List Str} (F : FunD K x qual st f fd)
    (h : ∀ (T : Addr) (kV doc pm : Value) (an : Option Addr) (cdv ct : Value) (us : List Value), us.length = ps.length -> ∃ k : Option (Array Value) -> Sem (List (Str × Value)),
      bindArgs (PySem.W.fnOf x qual (defArgs st) (defBody st) (defScope st) (.ref T) kV doc pm an cdv ct) ⟨us, []⟩ = seqItems? (.ref T) >>= k /\ k (some #[.none]) = pure (ps.zip us)) : Binds K fd ps [] := by
  refine hld fun g_ k_ => ?_; obtain ⟨T, oc, od, kV, doc, pm, an, cdv, ct, osl, tc, td, tn, tsl, rfl, lk, hcd, lt⟩ := F.ex; refine k_ ?_; intro s us KX hl; rw [List.append_nil] at hl ⊢; obtain ⟨k, h1, h2⟩ := h T kV doc pm an cdv ct us hl; exact BindsTo.of_defaults rfl (KX _ _ lt) rfl h1 h2
theorem FunD.binds1 {x qual : Str} {st : Stmt} {f : Addr} {fd : FuncData} {ps : List Str} (F : FunD K x qual st f fd)
    (h : ∀ (T : Addr) (kV doc pm : Value) (an : Option Addr) (cdv ct : Value) (us : List Value), us.length + 1 = ps.length -> ∃ k : Option (Array Value) -> Sem (List (Str × Value)),
      bindArgs (PySem.W.fnOf x qual (defArgs st) (defBody st) (defScope st) (.ref T) kV doc pm an cdv ct) ⟨us, []⟩ = seqItems? (.ref T) >>= k /\ k (some #[.none]) = pure (ps.zip (us ++ [.none]))) : Binds K fd ps [.none] := by
  refine hld fun g_ k_ => ?_; obtain ⟨T, oc, od, kV, doc, pm, an, cdv, ct, osl, tc, td, tn, tsl, rfl, lk, hcd, lt⟩ := F.ex; refine k_ ?_; intro s us KX hl; rw [List.length_append] at hl; obtain ⟨k, h1, h2⟩ := h T kV doc pm an cdv ct us hl; exact BindsTo.of_defaults rfl (KX _ _ lt) rfl h1 h2
theorem FnOk.quiet {k : Nat} {f : Addr} {fd : FuncData} {ps : List Str} {sp sp' : Sp} (F : FnOk P w K mg base (CXe P w) k f fd ps sp) (h : ∀ vs H Q E, sp' vs H Q E -> sp vs H Q E0) : FnOk P w K mg base CX0 k f fd ps sp' :=
  ⟨fun vs H Q E q => F.len vs H Q E0 (h _ _ _ _ q), fun A outer s H args us vs Q E hr e0 hb hv hs => codeAny_mono (F.run A outer s H args us vs Q E0 hr e0 hb hv (h _ _ _ _ hs)) fun r s' hq => by
    cases r with
    | error e =>
      refine hld fun g_ k_ => ?_; obtain ⟨a, cls, a0, H', B, _, _, _, _, _, _, _, _, hE⟩ := hq; refine k_ ?_; exact hE
    | ok fl => cases fl <;> exact hq⟩
end
end L2
namespace L2
open PySem PySem.Spec PyProof.Rows
def Kept (s s' : Shared) : Prop := ∃ (h' : Heap) (tk : Nat), s' = { s with heap := h', toks := tk } /\ ∀ b o, s.heap.get? b = some o -> h'.get? b = some o
theorem sort_by (p g : Addr) : Builtin.«list.sort» ⟨[.ref p], [("key", .ref g)]⟩ = (do
    let its <- Builtin.List.listItems (.ref p); Builtin.List.listUpdate (.ref p) fun _ => #[]
    let ep <- seqEpoch p; let tp <- newTuple its.toList; let ks <- newList []
    holding [tp, ks] do
      rule "list.sort.key"
      for x in its do
        match <- (call (.ref g) [x]).attempt with
        | .ok k => Builtin.List.listUpdate ks (·.push k)
        | .error e => rule "list.sort.key-raised"; let md <- Builtin.List.listItems ks; Builtin.List.listUpdate ks fun _ => #[]; letGo md.toList.reverse [e]; Builtin.List.listUpdate (.ref p) fun _ => its; throw e
      let kv <- Builtin.List.listItems ks; let kd <- if its.size < 2 then pure general' else keyKind' kv
      let ((), st) <- (if its.size < 2 then pure () else sortRuns').run (SortSt.mk' kd (kv.zip its) #[] 7 none)
      Builtin.List.listUpdate ks fun _ => #[]; letGo ((arrOf st).map (·.1)).toList (failedOf st).toList
      let tc := (<- seqEpoch p) != ep; Builtin.List.listUpdate (.ref p) fun _ => (arrOf st).map (·.2)
      if let some e := failedOf st then rule "list.sort.comparison-raised"; throw e
      if tc then rule "list.sort.modified"; raiseError "ValueError" "list modified during sort"
      ret .none) := rfl
theorem zip_keys {kf : Value -> Str} : ∀ {vs ks : List Value} {ss : List Str}, StrsAre ks ss -> ss = vs.map kf -> ∀ p ∈ ks.zip vs, ∃ t, p.1 = .str (kf p.2) t
  | [], _, _, _, _, p, hp => by rw [List.zip_nil_right] at hp; cases hp
  | v :: vs, _, _, .cons y t h, e, p, hp => by
    rw [List.map_cons] at e; obtain ⟨e1, e2⟩ := List.cons.inj e; rw [List.zip_cons_cons] at hp
    rcases List.mem_cons.mp hp with rfl | hp
    . exact ⟨t, by rw [e1]⟩
    . exact zip_keys h e2 p hp
theorem sorted_pairs {kf : Value -> Str} {vs ks : List Value} (hS : StrsAre ks (vs.map kf)) {xs : Array Keyed} (hp : xs.toList.Perm (ks.zip vs)) (hs : SortedToK strKind xs xs.size) :
    ((xs.map (·.2)).toList).Perm vs /\ ((xs.map (·.2)).toList).Pairwise (fun a b => ¬ (kf b).cps.toList < (kf a).cps.toList) := by
  have hlen : ks.length = vs.length := by have := hS.length; rw [List.length_map] at this; exact this
  have hk : ∀ p ∈ xs.toList, ∃ t, p.1 = .str (kf p.2) t := fun p h => zip_keys hS rfl p (hp.mem_iff.mp h); refine ⟨?_, ?_⟩
  . rw [Array.toList_map]
    have := hp.map Prod.snd
    rwa [List.map_snd_zip (by omega)] at this
  . rw [Array.toList_map, List.pairwise_map, List.pairwise_iff_getElem]
    intro i j hi hj hij; have hi' : i < xs.size := by simpa using hi
    have hj' : j < xs.size := by simpa using hj
    have h1 := hs i j (Nat.le_of_lt hij) hj'; obtain ⟨t, ex⟩ := hk xs[i] (by simp)
    obtain ⟨u, ey⟩ := hk xs[j] (by simp)
    rw [KK_str hi' (x := kf xs[i].2) (t := t) (q := xs[i].2) (Prod.ext ex rfl), KK_str hj' (x := kf xs[j].2) (t := u) (q := xs[j].2) (Prod.ext ey rfl)] at h1; change decide ((kf xs[j].2).cps.toList < (kf xs[i].2).cps.toList) = false at h1; rw [Array.getElem_toList, Array.getElem_toList]; exact of_decide_eq_false h1
section
variable {prog : Program} {w : World} {A : Around} {E : Value -> Shared -> Prop}
def KeyFn (prog : Program) (w : World) (A : Around) (s0 : Shared) (g : Addr) (kf : Value -> Str) (vs : List Value) : Prop :=
  ∀ s1, Kept s0 s1 -> ∀ v ∈ vs, wpAny (model prog w) A (call (.ref g) [v]) (fun k s2 => Kept s1 s2 /\ ∃ t, k = .str (kf v) t) (fun _ _ => False) s1
theorem sort_keyed {s0 s : Shared} {p g : Addr} {vs : List Value} {n : Nat} {kf : Value -> Str} {Q : Fin -> Shared -> Prop} (K0 : Kept s0 s) (hnew : s0.heap.get? p = none) (ho : s.heap.get? p = some (seqObj "list" vs.toArray n)) (h64 : vs.length < 64)
    (hkf : KeyFn prog w A s0 g kf vs)
    (h : ∀ (out : List Value) (s' : Shared) (e : Nat), out.Perm vs -> out.Pairwise (fun a b => ¬ (kf b).cps.toList < (kf a).cps.toList) -> Kept s0 s' -> s'.heap.get? p = some (seqObj "list" out.toArray e) -> Q (.done (.ret .none)) s') :
    wpAny (model prog w) A (Builtin.«list.sort» ⟨[.ref p], [("key", .ref g)]⟩) Q E s := by
  rw [sort_by]; obtain ⟨h0, t0, rfl, k0⟩ := K0; have ne : ∀ b o, s0.heap.get? b = some o -> b ≠ p := fun b o e z => by rw [z, hnew] at e; cases e
  have hp : p < h0.objs.size := Heap.lt_size ho; refine wpAny_bind (listItems_at ho rfl ?_); refine wpAny_bind (listUpdate_at ho rfl ?_); obtain ⟨e1, ho1⟩ : ∃ e1, (h0.update p (Obj.mapSeq fun _ => #[])).get? p = some (seqObj "list" #[] e1) := ⟨_, get?_update_seq ho (fun _ => #[])⟩; refine wpAny_bind (seqEpoch_at ho1 rfl ?_); refine wpAny_bind (wpAny_newTuple ?_); refine wpAny_bind (wpAny_newList ?_); refine wpAny_holding ?_; obtain ⟨q, hq⟩ : ∃ q, q = ((h0.update p (Obj.mapSeq fun _ => #[])).push (seqObj "tuple" vs.toArray 0)).objs.size := ⟨_, rfl⟩; obtain ⟨h1, hh1⟩ : ∃ h1, h1 = (((h0.update p (Obj.mapSeq fun _ => #[])).push (seqObj "tuple" vs.toArray 0)).push (seqObj "list" #[] 0)) := ⟨_, rfl⟩; have hqs : @Eq Nat q (h0.objs.size + 1) := by rw [hq, size_push', Heap.size_update]
  have hqp : q ≠ p := fun z => Nat.lt_irrefl _ (Nat.lt_trans hp (by rw [<- z, hqs]; exact Nat.lt_succ_self _))
  have old1 : ∀ b o, b ≠ p -> h0.get? b = some o -> h1.get? b = some o := by
    intro b o hb e; rw [hh1]; refine Heap.get?_push_of_some _ (Heap.get?_push_of_some _ ?_); rw [Heap.get?_update_ne _ _ _ _ hb]; exact e
  have hp1 : h1.get? p = some (seqObj "list" #[] e1) := by
    rw [hh1]; exact Heap.get?_push_of_some _ (Heap.get?_push_of_some _ ho1)
  have hq1 : h1.get? q = some (seqObj "list" #[] 0) := by
    rw [hh1, hq]; exact Heap.get?_push_size _ rfl
  have hqn : s0.heap.get? q = none := by
    cases z : s0.heap.get? q with
    | none => rfl
    | some o =>
      have := Heap.lt_size (k0 q o z); rw [hqs] at this; exact absurd this (Nat.not_lt.mpr (Nat.le_succ _))
  dsimp only
  rw [<- hq, <- hh1]; refine wpAny_bind (wpAny_rule ?_)
  refine wpAny_bind (wpAny_forIn_array' _ (fun rest _ s' => ∃ (done ks : List Value) (h' : Heap) (tk e2 : Nat), vs = done ++ rest /\ s' = { s0 with heap := h', toks := tk } /\ StrsAre ks (done.map kf) /\
    h'.get? q = some (seqObj "list" ks.toArray e2) /\ h'.get? p = some (seqObj "list" #[] e1) /\ ∀ b o, s0.heap.get? b = some o -> h'.get? b = some o) _ ?turn ?fin vs.toArray _ ?start)
  case start => exact ⟨[], [], h1, t0, 0, rfl, rfl, .nil, hq1, hp1, fun b o e => old1 b o (ne b o e) (k0 b o e)⟩
  case turn =>
    rintro x rest _ s' ⟨done, ks, h', tk, e2, hv, rfl, hS, hq', hp', kp⟩
    have hx : x ∈ vs := by rw [hv]; exact List.mem_append.mpr (.inr List.mem_cons_self)
    refine wpAny_bind (wpAny_attempt (wpAny_mono (hkf _ ⟨h', tk, rfl, kp⟩ x hx) (fun k s2 hk => ?_) fun e s2 he => ?_))
    . obtain ⟨⟨h2, tk2, rfl, kp2⟩, t, rfl⟩ := hk
      have hq2 := kp2 _ _ hq'; have hl : ks.length = done.length := by have := hS.length; rw [List.length_map] at this; exact this
      have hdl : done.length < 64 := by have := congrArg List.length hv; rw [List.length_append] at this; omega
      refine wpAny_bind (listUpdate_at (xs := ks.toArray) (n := e2) hq2 rfl ?_ (hsz := by rw [List.size_toArray, sizeLine_eq]; omega) (hsz2 := by rw [Array.size_push, List.size_toArray, sizeLine_eq]; omega))
      obtain ⟨e3, he3⟩ : ∃ e3, (h2.update q (Obj.mapSeq fun y => y.push (.str (kf x) t))).get? q = some (seqObj "list" (ks ++ [Value.str (kf x) t]).toArray e3) := by
        have := get?_update_seq hq2 (fun y => y.push (.str (kf x) t)); rw [List.push_toArray] at this; exact ⟨_, this⟩
      refine wpAny_pure ?_; refine ⟨done ++ [x], ks ++ [.str (kf x) t], h2.update q (Obj.mapSeq fun y => y.push (.str (kf x) t)), tk2, e3, by rw [hv, List.append_assoc]; rfl, rfl, ?_, he3, ?_, ?_⟩
      . rw [List.map_append]
        exact hS.append' (.cons _ t .nil)
      . rw [Heap.get?_update_ne _ _ _ _ (Ne.symm hqp)]
        exact kp2 _ _ hp'
      . intro b o hb
        have hbq : b ≠ q := fun z => by rw [z, hqn] at hb; cases hb
        rw [Heap.get?_update_ne _ _ _ _ hbq]; exact kp2 _ _ (kp b o hb)
    . exact he.elim
  case fin =>
    rintro _ s' ⟨done, ks, h', tk, e2, hv, rfl, hS, hq', hp', kp⟩
    rw [List.append_nil] at hv; subst hv; have hl : ks.length = vs.length := by have := hS.length; rw [List.length_map] at this; exact this
    refine wpAny_bind (listItems_at hq' rfl ?_); have hsz : vs.toArray.size = vs.length := by simp
    have hz : (ks.toArray.zip vs.toArray).toList = ks.zip vs := by simp
    have hzs : (ks.toArray.zip vs.toArray).size = vs.length := by rw [<- Array.length_toList, hz, List.length_zip]; omega
    -- the end, from what is in order
    have fin : ∀ st : SortSt, (arrOf st).Perm (ks.toArray.zip vs.toArray) -> failedOf st = none -> SortedToK strKind (arrOf st) vs.length ->
        wpAny (model prog w) A (do
          Builtin.List.listUpdate (.ref q) fun _ => #[]; letGo ((arrOf st).map (·.1)).toList (failedOf st).toList
          let tc := (<- seqEpoch p) != e1; Builtin.List.listUpdate (.ref p) fun _ => (arrOf st).map (·.2)
          if let some e := failedOf st then rule "list.sort.comparison-raised"; throw e
          if tc then rule "list.sort.modified"; raiseError "ValueError" "list modified during sort"
          ret .none) Q E { s0 with heap := h', toks := tk } := by
      intro st hpm hf hs; have hpl : (arrOf st).toList.Perm (ks.zip vs) := by rw [<- hz]; exact Array.perm_iff_toList_perm.mp hpm
      have hsize : (arrOf st).size = vs.length := by rw [<- Array.length_toList, hpl.length_eq, List.length_zip]; omega
      obtain ⟨r1, r2⟩ := sorted_pairs hS hpl (by rw [hsize]; exact hs)
      refine wpAny_bind (listUpdate_at hq' rfl ?_ (hsz := by rw [List.size_toArray, sizeLine_eq]; omega))
      refine wpAny_bind (wpAny_letGo ?_)
      have hp2 : (h'.update q (Obj.mapSeq fun _ => #[])).get? p = some (seqObj "list" #[] e1) := by
        rw [Heap.get?_update_ne _ _ _ _ (Ne.symm hqp)]; exact hp'
      refine wpAny_bind (seqEpoch_at hp2 rfl ?_); refine wpAny_bind (listUpdate_at hp2 rfl ?_ (hsz2 := by rw [Array.size_map, hsize, sizeLine_eq]; omega))
      rw [hf]
      simp only [bne_self_eq_false, Bool.false_eq_true, if_false]
      obtain ⟨e3, he3⟩ : ∃ e3, ((h'.update q (Obj.mapSeq fun _ => #[])).update p (Obj.mapSeq fun _ => (arrOf st).map (·.2))).get? p = some (seqObj "list" ((arrOf st).map (·.2)).toList.toArray e3) := by
        have := get?_update_seq hp2 (fun _ => (arrOf st).map (·.2)); rw [Array.toArray_toList]; exact ⟨_, this⟩
      refine wpAny_pure (h _ _ e3 r1 r2 ⟨_, tk, rfl, fun b o hb => ?_⟩ he3); have hbq : b ≠ q := fun z => by rw [z, hqn] at hb; cases hb
      rw [Heap.get?_update_ne _ _ _ _ (ne b o hb), Heap.get?_update_ne _ _ _ _ hbq]; exact kp b o hb
    by_cases h2 : vs.toArray.size < 2
    . rw [if_pos h2, if_pos h2]
      refine wpAny_bind (wpAny_pure ?_); rw [StateT.run_pure]; refine wpAny_bind (wpAny_pure ?_)
      dsimp only
      refine fin (SortSt.mk' general' (ks.toArray.zip vs.toArray) #[] 7 none) (Array.Perm.refl _) rfl ?_; intro i j hij hj; have : i = j := by omega
      subst this; exact KeyOrd.kle_refl _
    . rw [if_neg h2, if_neg h2]
      obtain ⟨v₁, v₂, rest, rfl⟩ : ∃ v₁ v₂ rest, ks = v₁ :: v₂ :: rest := by
        match ks, hl, h2 with
        | [], hl, h2 => simp at hl; omega
        | [_], hl, h2 => simp at hl; omega
        | v₁ :: v₂ :: rest, _, _ => exact ⟨v₁, v₂, rest, rfl⟩
      rw [keyKind_strs hS]; refine wpAny_bind (wpAny_pure ?_)
      refine wpAny_bind (wpAny_mono (wpS_sortRunsK (κ := strKind) strKind_oneLt (a₀ := (v₁ :: v₂ :: rest).toArray.zip vs.toArray) (st := SortSt.mk' oneType' ((v₁ :: v₂ :: rest).toArray.zip vs.toArray) #[] 7 none)
        (Q := fun _ st' => (arrOf st').Perm ((v₁ :: v₂ :: rest).toArray.zip vs.toArray) /\ failedOf st' = none /\ SortedToK strKind (arrOf st') ((v₁ :: v₂ :: rest).toArray.zip vs.toArray).size)
        ?_ ⟨Array.Perm.refl _, rfl, rfl, rfl⟩ (by rw [hzs]; omega) (by rw [hzs]; exact h64) fun st' a1 a2 a3 => ⟨a1, a2, a3⟩) ?_ fun _ _ e => e)
      . intro pr hpr
        rw [hz] at hpr; obtain ⟨t, e⟩ := zip_keys hS rfl pr hpr; exact ⟨(kf pr.2).cps.toList, by rw [e]⟩
      . rintro ⟨⟨⟩, st'⟩ s' ⟨rfl, a1, a2, a3⟩
        rw [hzs] at a3; exact fin st' a1 a2 a3
theorem args_sortedK (v g : Value) : argsOk "sorted" ⟨[v], [("key", g)]⟩ := by unfold argsOk; kernel_rfl
theorem args_sortK (v g : Value) : argsOk "list.sort" ⟨[v], [("key", g)]⟩ := by unfold argsOk; kernel_rfl
theorem sorted_keyed {s : Shared} {l g : Addr} {vs : List Value} {kf : Value -> Str} {Q : Value -> Shared -> Prop} (hl : s.heap.IsList l vs.toArray) (h64 : vs.length < 64) (hkf : KeyFn prog w A.in1.in1 s g kf vs)
    (h : ∀ (L : Addr) (out : List Value) (s' : Shared) (e : Nat), out.Perm vs -> out.Pairwise (fun a b => ¬ (kf b).cps.toList < (kf a).cps.toList) -> Kept s s' -> s.heap.objs.size <= L -> s'.heap.get? L = some (seqObj "list" out.toArray e) -> Q (.ref L) s') :
    wpAny (model prog w) A (call (.builtin "sorted") [.ref l] [("key", .ref g)]) Q E s := by
  refine call_function_entry_kw kind_sorted plain_sorted entry_sorted (args_sortedK _ _) ?_
  unfold Builtin.«sorted»
  refine wpAny_bind (m := checkCount "sorted" 1 1 _) (wpAny_pure ?_); refine wpAny_bind (collect_list hl ?_ (by rw [sizeLine_eq]; omega))
  refine wpAny_bind (wpAny_newList ?_)
  have hsz : ((s.heap.push (seqObj "list" #[] 0)).update s.heap.objs.size (Obj.mapSeq (· ++ vs.toArray))).objs.size = s.heap.objs.size + 1 := by
    rw [Heap.size_update, size_push']
  have old : ∀ b o, s.heap.get? b = some o -> (((s.heap.push (seqObj "list" #[] 0)).update s.heap.objs.size (Obj.mapSeq (· ++ vs.toArray))).push (seqObj "list" vs.toArray 0)).get? b = some o := fun b o hb => by
    refine Heap.get?_push_of_some _ ?_; rw [Heap.get?_update_ne _ _ _ _ (Nat.ne_of_lt (Heap.lt_size hb))]; exact Heap.get?_push_of_some _ hb
  have hnew : s.heap.get? (s.heap.objs.size + 1) = none := by
    cases z : s.heap.get? (s.heap.objs.size + 1) with
    | none => rfl
    | some o => exact absurd (Heap.lt_size z) (Nat.not_lt.mpr (Nat.le_succ _))
  have hoL : (((s.heap.push (seqObj "list" #[] 0)).update s.heap.objs.size (Obj.mapSeq (· ++ vs.toArray))).push (seqObj "list" vs.toArray 0)).get? (s.heap.objs.size + 1) = some (seqObj "list" vs.toArray 0) := by
    rw [<- hsz]; exact Heap.get?_push_size _ rfl
  dsimp only
  rw [hsz]; refine wpAny_bind (wpAny_holding (wpAny_call_entry_kw slot_list_sort ⟨_, hoL, rfl⟩ entry_list_sort (sort_keyed (s0 := s) (Q := fun fin s' => ∃ v, fin = .done (.ret v) /\ _) ⟨_, s.toks, rfl, old⟩ hnew hoL h64 hkf fun out s' e a1 a2 a3 a4 => ⟨_, rfl, ?_⟩) (args_sortK _ _))); exact wpAny_pure ⟨_, rfl, h _ out s' e a1 a2 a3 (Nat.le_succ _) a4⟩
end
end L2
namespace L2
open PySem PySem.Spec PyProof.Rows
section
variable {prog : Program} {w : World} {A : Around} {s : Shared}
theorem code_expr {e : Expr} {env : Env} {R : Result -> Shared -> Prop} (h : wpAny (model prog w) (A.deeper env) (eval e env) (fun v s1 => R (.ok (.ret v)) s1) (fun _ _ => False) s) : codeAny (model prog w) A (.expr e env) R s := by
  refine codeAny_of_tree ?_
  show wpAny _ (A.deeper env) (do point; ret (<- (eval e env).onRaise (leaving env))) _ _ s
  exact wpAny_bind (wpAny_point (wpAny_bind (wpAny_onRaise (wpAny_mono h (fun v s1 h1 => wpAny_pure h1) fun _ _ z => z.elim))))
theorem call_expr {g : Addr} {vs : List Value} {o : Obj} {fd : FuncData} {e : Expr} {binds : List (Str × Value)} {R : Result -> Shared -> Prop} (hroom : A.depth < recursionLimit) (hg : s.heap.get? g = some o) (hfd : o.data = .func fd)
    (h1 : fd.scope.isCoroutine = false) (h2 : fd.scope.isGenerator = false) (hb : fd.body = .expr e) (hcd : s.heap.CodeRec fd.code fd.qualname) (hlim : s.heap.NoLimit) (hbind : bindArgs fd ⟨vs, []⟩ = pure binds)
    (hcell : ∀ x ∈ fd.scope.names, x.2 ≠ .cell) (hloc : ∀ x ∈ binds, fd.scope.names.lookup x.1 = some .local) (hk : fd.scope.kind = .function)
    (h : ∀ h', h'.Ns s.heap.objs.size (fun x => binds.reverse.lookup x) -> (∀ b o, s.heap.get? b = some o -> h'.get? b = some o) ->
      wpAny (model prog w) (A.deeper (newEnv fd.scope s.heap.objs.size fd.globals fd.closure (fd.qualname ++ ".<locals>.") (some g) fd.code none fd.builtins)) (eval e (newEnv fd.scope s.heap.objs.size fd.globals fd.closure (fd.qualname ++ ".<locals>.") (some g) fd.code none fd.builtins))
        (fun v s1 => R (.ok (.ret v)) s1) (fun _ _ => False) { s with heap := h', toks := s.toks + binds.length }) : codeAny (model prog w) A (.call (.ref g) ⟨vs, []⟩) R s := by
  refine codeAny_of_tree ?_
  show wpAny _ A.in1 (callAny (.ref g) ⟨vs, []⟩) _ _ s
  simp only [callAny]
  refine wpAny_bind (wpAny_load hg ?_); obtain ⟨c, oc, fs, tq, hc, hoc, hdc, hq⟩ := hcd
  simp only [hfd, callFunction, h1, h2, hb, hc]
  rw [hc] at h; refine wpAny_bind (m := field (.ref c) 1) (wpAny_field hoc hdc hq (wpAny_bind (wpAny_pure ?_))); rw [hbind]; refine wpAny_bind (wpAny_pure (wpAny_bind (wpAny_newFunctionEnv hcell hloc (fun h' hns hsb => ?_) hk)))
  have kp : ∀ b o, s.heap.get? b = some o -> h'.get? b = some o := fun b o hbo => by
    have hne : b ≠ s.heap.objs.size := Nat.ne_of_lt (Heap.lt_size hbo); rw [hsb.2 b hne]; exact Heap.get?_push_of_some _ hbo
  exact wpAny_bind (wpAny_enterFrame (hlim.keeps kp) hroom (wpAny_pure ⟨rfl, code_expr (h h' hns kp)⟩))
end
def lamFd (q : Str) (ps : Arguments) (e : Expr) (sc : Scope) (cl : List (Str × Addr)) (ct cd pm : Value) : FuncData :=
  { name := "<lambda>", qualname := q, params := ps, body := .expr e, scope := sc, globals := mainGlobals, closure := cl, closureTuple := ct, code := cd, builtins := builtinsNs, defaults := .none, kwdefaults := .none, annotations := none, pyModule := pm, doc := .none }
structure LamIx (ps : Arguments) (e : Expr) (sc : Scope) (x y : Str) : Prop where
  body : ∃ p1 p2 p3, e = .Subscript (.Name y p1) (.Name x p2) p3
  names : sc.names = [(x, .local), (y, .free)]
  kind : sc.kind = .function
  co : sc.isCoroutine = false
  gen : sc.isGenerator = false
  ne : x ≠ y
  dx : (x == ("__debug__" : Str)) = false
  dy : (y == ("__debug__" : Str)) = false
  dc : (y == ("__classdict__" : Str)) = false
  bind : ∀ (q : Str) (cl : List (Str × Addr)) (ct cd pm v : Value), bindArgs (lamFd q ps e sc cl ct cd pm) ⟨[v], []⟩ = pure [(x, v)]
section
variable {prog : Program} {w : World} {A : Around} {s0 : Shared} {ps : Arguments} {e : Expr} {sc : Scope} {x y : Str}
theorem lam_key (L : LamIx ps e sc x y) {g cf F : Addr} {od : Option Addr} {osl : Array (Option Value)} {q : Str} {ct cd pm : Value} {its vs : List Value} {kf : Value -> Str} (hroom : A.depth < recursionLimit)
    (hg : s0.heap.get? g = some ⟨.type "function", od, .func (lamFd q ps e sc [(y, cf)] ct cd pm), osl⟩) (hcd : s0.heap.CodeRec cd q) (hlim : s0.heap.NoLimit) (hcell : s0.heap.IsCell cf (some (.ref F))) (hF : s0.heap.IsList F its.toArray)
    (hv : ∀ v ∈ vs, ∃ (k : Nat) (t t' : Tok), v = .int (k : Int) t /\ its[k]? = some (.str (kf v) t') /\ k < 2 ^ 62) : KeyFn prog w A s0 g kf vs := by
  intro s1 K1 v hvm; obtain ⟨k, t, t', rfl, hk, hk62⟩ := hv v hvm; obtain ⟨h1, t1, rfl, k1⟩ := K1; have lx : sc.names.lookup x = some .local := by rw [L.names, List.lookup_cons_self]
  have ly : sc.names.lookup y = some .free := by
    have hb : (y == x) = false := beq_eq_false_iff_ne.mpr (Ne.symm L.ne); rw [L.names, List.lookup_cons, hb]
    show List.lookup y [(y, NameKind.free)] = _
    rw [List.lookup_cons_self]
  refine wpAny_call (call_expr (binds := [(x, .int (k : Int) t)]) hroom (k1 _ _ hg) rfl L.co L.gen rfl (hcd.keeps k1) (hlim.keeps k1) (L.bind q _ ct cd pm _) (fun z hz => ?_) (fun z hz => ?_) L.kind fun h2 hns k2 => ?_)
  . have hz' : z ∈ sc.names := hz
    rw [L.names] at hz'
    rcases List.mem_cons.mp hz' with rfl | hz'
    . intro q; cases q
    . rw [List.mem_singleton] at hz'
      subst hz'; intro q; cases q
  . rw [List.mem_singleton] at hz
    subst hz; exact lx
  . obtain ⟨p1, p2, p3, rfl⟩ := L.body
    have k12 : ∀ b o, s0.heap.get? b = some o -> h2.get? b = some o := fun b o hb => k2 b o (k1 b o hb); refine Subscript_ (wpAny_Name (wpAny_loadName_free (v := .ref F) L.kind ly (c := cf) ?_ (hcell.keeps k12) ?_ L.dc) L.dy)
    . show List.lookup y [(y, cf)] = some cf
      rw [List.lookup_cons_self]
    refine wpAny_Name (wpAny_loadName_local (v := .int (k : Int) t) L.kind lx hns ?_ ?_) L.dx
    . show List.lookup x [(x, Value.int (k : Int) t)] = _
      rw [List.lookup_cons_self]
    refine item_listR (x := .str (kf (.int (k : Int) t)) t') (by obtain ⟨o, h1', h2', h3'⟩ := hF; exact ⟨o, k12 _ _ h1', h2', h3'⟩) (by omega) (by omega) ?_ ?_
    . rw [Int.toNat_natCast]
      simpa using hk
    . exact ⟨⟨h2, _, rfl, k2⟩, t', rfl⟩
end
section
variable {M : Model} {A : Around} {E : Value -> Shared -> Prop} {s : Shared} {ps : Arguments} {e : Expr} {sc : Scope} {y : Str} {env : Env} {pos : Pos}
theorem make_lam {cf c P : Addr} {tb : Array Value} {mg : Str -> Option Value} {Q : Value -> Shared -> Prop} (hd : defaultsOf ps env = ([], [])) (hkw : ps.kwonlyargs = []) (hcl : closureFor sc env = pure [(y, cf)]) (hgl : env.globals = mainGlobals)
    (hg : s.heap.Ns mainGlobals mg) (hcode : env.code = .ref c) (hok : s.heap.IsCode c P tb) (htab : s.heap.TableAt c P tb) (hgP : mainGlobals ≠ P) (hb : s.heap.BuiltinsAt mg P)
    (new : codeAmong pos tb.toList = none -> ∀ (g c' : Addr) (h' : Heap) (tk : Nat) (ct pm : Value), Heap.ExtBut P s.heap h' -> s.heap.objs.size <= c' -> s.heap.objs.size <= g -> c' < g -> h'.get? g = some { cls := .type "function", data := .func (lamFd (env.qual ++ "<lambda>") ps e sc [(y, cf)] ct (.ref c') pm) } ->
      h'.TableAt c P (tb ++ #[rawInt pos.line, rawInt pos.col, .ref c']) -> h'.CodeRec (.ref c') (env.qual ++ "<lambda>") -> Q (.ref g) { s with heap := h', toks := tk })
    (hit : ∀ (c' : Value), codeAmong pos tb.toList = some c' -> ∀ (g : Addr) (h' : Heap) (tk : Nat) (ct pm : Value), (∀ b o, s.heap.get? b = some o -> h'.get? b = some o) -> s.heap.objs.size <= g -> h'.get? g = some { cls := .type "function", data := .func (lamFd (env.qual ++ "<lambda>") ps e sc [(y, cf)] ct c' pm) } ->
      Q (.ref g) { s with heap := h', toks := tk }) :
    wpAny M A (eval (.Lambda ps e sc pos) env) Q E s := by
  rw [arm_eval_Lambda, hd]; refine wpAny_bind (evalAll_nil ?_); refine wpAny_bind (wpAny_holding (wpAny_pure ?_)); rw [makeFunction_eq, hkw]; refine wpAny_bind (wpAny_pure ?_); refine wpAny_bind (wpAny_pure ?_); refine wpAny_bind (wpAny_pure ?_)
  unfold makeTail
  rw [hcl]; refine wpAny_bind (wpAny_pure ?_); refine wpAny_bind (wpAny_newTextTuple ?_); have kp : ∀ b o, s.heap.get? b = some o -> (s.heap.push { cls := .type "tuple", data := .seq (((([(y, cf)] : List (Str × Addr)).mergeSort fun a b => a.1.cps.toList <= b.1.cps.toList).map (Value.ref ·.2)).toArray) }).get? b = some o := fun b o hb => Heap.get?_push_of_some _ hb; have hsz : s.heap.objs.size <= (s.heap.push { cls := .type "tuple", data := .seq (((([(y, cf)] : List (Str × Addr)).mergeSort fun a b => a.1.cps.toList <= b.1.cps.toList).map (Value.ref ·.2)).toArray) }).objs.size := by rw [size_push']; exact Nat.le_succ _
  obtain ⟨bm, ob, hbm, hne0, _, hneP, hbo, hcls, hdict, hdata⟩ := hb
  cases hca : codeAmong pos tb.toList with
  | none =>
    refine wpAny_bind (wpAny_functionCodeX hcode (hok.keeps kp) (htab.keeps kp) hca fun c' h2 tk hx hge hlt _ hrec htb _ => ?_); have hg' : h2.Ns mainGlobals mg := (hg.keeps kp).extBut hx hgP; rw [hgl]; refine wpAny_bind (wpAny_builtinsFor hg' hbm hne0 (hx _ _ hneP (kp _ _ hbo)) hcls hdict hdata ?_); refine wpAny_bind (wpAny_nsGet hg' ?_); refine wpAny_bind (wpAny_pure (wpAny_newObj_type ?_ (by size_fits)))
    refine new hca _ c' _ tk (.ref s.heap.objs.size) ((mg "__name__").getD .none) (fun b o hbP hbo => Heap.get?_push_of_some _ (hx b o hbP (kp b o hbo))) (Nat.le_trans hsz hge) ?_ hlt (Heap.get?_push_size _ rfl) (htb.keeps fun b o hb => Heap.get?_push_of_some _ hb) (hrec.keeps fun b o hb => Heap.get?_push_of_some _ hb); exact Nat.le_trans (Nat.le_trans hsz hge) (Nat.le_of_lt hlt)
  | some c' =>
    refine wpAny_bind (wpAny_functionCode_hit hcode (hok.keeps kp) hca ?_); rw [hgl]; refine wpAny_bind (wpAny_builtinsFor (hg.keeps kp) hbm hne0 (kp _ _ hbo) hcls hdict hdata ?_); refine wpAny_bind (wpAny_nsGet (hg.keeps kp) ?_); refine wpAny_bind (wpAny_pure (wpAny_newObj_type ?_ (by size_fits)))
    exact hit c' hca _ _ s.toks (.ref s.heap.objs.size) ((mg "__name__").getD .none) (fun b o hb => Heap.get?_push_of_some _ (kp b o hb)) hsz (Heap.get?_push_size _ rfl)
end
end L2
namespace L2
open PySem PySem.Spec PyProof.Rows
def tabO (P : Addr) (tb : Array Value) : HO := .ext fun h => h.get? P = some { cls := .none, data := .fields tb }
def codO (c : Addr) (q : Str) : HO := .ext fun h => h.CodeRec (.ref c) q
def Tab (P : Addr) (pos : Pos) (q : Str) (H : Hp) : Prop := H P = some (tabO P #[]) \/ ∃ c', H P = some (tabO P #[rawInt pos.line, rawInt pos.col, .ref c']) /\ H c' = some (codO c' q)
def SameT (P : Addr) (H H' : Hp) : Prop := ∀ b o, b ≠ P -> H b = some o -> H' b = some o
theorem SameT.of {P : Addr} {H H' : Hp} (s : Same H H') : SameT P H H' := fun b o _ h => s b o h
theorem SameT.refl {P : Addr} (H : Hp) : SameT P H H := fun _ _ _ h => h
theorem SameT.trans {P : Addr} {H H1 H2 : Hp} (a : SameT P H H1) (b : SameT P H1 H2) : SameT P H H2 := fun c o n h => b c o n (a c o n h)
theorem Tab.same {P : Addr} {pos : Pos} {q : Str} {H H' : Hp} (t : Tab P pos q H) (s : Same H H') : Tab P pos q H' := by
  rcases t with t | ⟨c', t1, t2⟩
  . exact .inl (s _ _ t)
  . exact .inr ⟨c', s _ _ t1, s _ _ t2⟩
theorem Tab.ne {P : Addr} {pos : Pos} {q : Str} {H : Hp} (t : Tab P pos q H) {a : Addr} {o : HO} (h : H a = some o) (ho : ∀ φ, o ≠ .ext φ) : a ≠ P := by
  intro z; subst z
  rcases t with t | ⟨c', t1, _⟩
  . rw [h] at t; exact ho _ (Option.some.inj t)
  . rw [h] at t1; exact ho _ (Option.some.inj t1)
theorem Tab.new {P : Addr} {pos : Pos} {q : Str} {H : Hp} (t : Tab P pos q H) {a : Addr} (h : H a = none) : a ≠ P := by
  intro z; subst z
  rcases t with t | ⟨c', t1, _⟩
  . rw [h] at t; cases t
  . rw [h] at t1; cases t1
theorem SameT.free {P : Addr} {H H' : Hp} {pos : Pos} {q : Str} (s : SameT P H H') (t : Tab P pos q H') {l : Addr} (h : H' l = none) : l = P \/ H l = none := by
  by_cases e : l = P
  . exact .inl e
  . right
    cases z : H l with
    | none => rfl
    | some o => rw [s l o e z] at h; cases h
structure CodeK (K : PySem.W.Frag) (c P : Addr) : Prop where
  ex : ∃ (o : Obj) (vs : Array Value) (file : Str) (tf : Tok) (flags : Int) (tg : Tok) (inF : Bool) (text : Int) (tt : Tok), K.lookup c = some o /\ o.cls = .type "code" /\ o.data = .fields vs /\ vs[11]? = some (.ref P) /\ vs.getD 18 .none = .str file tf /\
    vs.getD 7 .none = .int flags tg /\ vs.getD 9 .none = .bool inF /\ vs.getD 10 .none = .int text tt
def modO : Obj := { cls := .type "module", dict := some builtinsNs, data := .plain }
structure BltK (K : PySem.W.Frag) (base : Heap) (bm : Addr) : Prop where
  ns : PySem.W.nsIn K mainGlobals "__builtins__" = some (some (.ref bm))
  ex : base.get? bm = some modO
  n1 : bm ≠ builtinsNs
  n2 : bm ≠ mainGlobals
def tSortQ (K : PySem.W.Frag) (P : Addr) (lpos : Pos) (q : Str) (j : Nat) (σ : St) (Q : VK) (v : V) (H1 : Hp) : Prop := ∃ (a F : Addr) (ks : List Nat) (ts : List Str), v = .ref a /\ SqL K H1 a (ks.map fun k : Nat => V.int (k : Int)) /\ σ[j]? = some (some (.ref F)) /\ SqL K H1 F (ts.map V.str) /\
  (∀ k ∈ ks, k < ts.length) /\ ks.length < 64 /\ Tab P lpos q H1 /\ ∀ (L : Addr) (out : List Nat) (H2 : Hp), SameT P H1 H2 -> Tab P lpos q H2 -> H1 L = none -> H2 L = none -> out.Perm ks ->
    out.Pairwise (fun a b => ¬ (ts.getD b ⟨#[]⟩).cps.toList < (ts.getD a ⟨#[]⟩).cps.toList) -> Q (.ref L) (upd H2 L (.lst (out.map fun k : Nat => V.int (k : Int))))
def tSortK (K : PySem.W.Frag) (P : Addr) (lpos : Pos) (q : Str) (j : Nat) (te : TE) : TE := fun σ H Q => (tCons te tNil) σ H fun vs H1 => ∃ v, vs = [v] /\ tSortQ K P lpos q j σ Q v H1
def keyOfV (ts : List Str) : Value -> Str
  | .int i _ => ts.getD i.toNat ⟨#[]⟩
  | _ => ⟨#[]⟩
def natOfV : Value -> Nat
  | .int i _ => i.toNat
  | _ => 0
theorem vals_nats : ∀ {ks : List Nat} {vs : List Value}, Vals (ks.map fun k : Nat => V.int (k : Int)) vs -> vs.map natOfV = ks /\ ∀ v ∈ vs, ∃ (k : Nat) (t : Tok), k ∈ ks /\ v = .int (k : Int) t
  | [], _, .nil => ⟨rfl, fun v h => nomatch h⟩
  | k :: ks, v :: vs, .cons r rs => by
    obtain ⟨t, rfl⟩ := r; obtain ⟨h1, h2⟩ := vals_nats rs; refine ⟨by rw [List.map_cons, h1]; show (k : Int).toNat :: ks = _; rw [Int.toNat_natCast], fun v hv => ?_⟩
    rcases List.mem_cons.mp hv with rfl | hv
    . exact ⟨k, t, List.mem_cons_self, rfl⟩
    . obtain ⟨k', t', m, e⟩ := h2 v hv
      exact ⟨k', t', List.mem_cons_of_mem _ m, e⟩
theorem nats_vals : ∀ {vs : List Value}, (∀ v ∈ vs, ∃ (k : Nat) (t : Tok), v = .int (k : Int) t) -> Vals ((vs.map natOfV).map fun k : Nat => V.int (k : Int)) vs
  | [], _ => .nil
  | v :: vs, h => by
    obtain ⟨k, t, rfl⟩ := h v List.mem_cons_self; refine .cons (show RelV (V.int _) (Value.int _ _) from ⟨t, ?_⟩) (nats_vals fun u hu => h u (List.mem_cons_of_mem _ hu))
    show Value.int (k : Int) t = Value.int ((((k : Int).toNat : Nat)) : Int) t
    rw [Int.toNat_natCast]
section
variable {X : Cx} {e : Expr} {te : TE} {ps : Arguments} {sc : Scope} {body : Expr} {lpos kp p pos : Pos} {x y : Str} {j : Nat} {c P bm cf : Addr}
theorem isCode_of {s : Shared} {K : PySem.W.Frag} {tb : Array Value} (ck : CodeK K c P) (KX : K.In s.heap) (hP : s.heap.get? P = some { cls := .none, data := .fields tb }) (ht : TriplesOk tb.toList) (hne : c ≠ P) : s.heap.IsCode c P tb := by
  refine hld fun g_ k_ => ?_; obtain ⟨o, vs, file, tf, flags, tg, inF, text, tt, h1, _, h2, h3, h4, h5, h6, h7⟩ := ck.ex; refine k_ ?_; exact ⟨o, vs, file, tf, flags, tg, inF, text, tt, _, KX _ _ h1, h2, by rw [Array.getD_eq_getD_getElem?, h3]; rfl, h4, h5, h6, h7, hP, rfl, ht, hne⟩
theorem tableAt_of {s : Shared} {K : PySem.W.Frag} {tb : Array Value} (ck : CodeK K c P) (KX : K.In s.heap) (hP : s.heap.get? P = some { cls := .none, data := .fields tb }) : s.heap.TableAt c P tb := by
  refine hld fun g_ k_ => ?_; obtain ⟨o, vs, file, tf, flags, tg, inF, text, tt, h1, h0, h2, h3, _⟩ := ck.ex; refine k_ ?_; exact ⟨⟨o, vs, KX _ _ h1, h0, h2, h3⟩, hP⟩
theorem Inv.coded {pins : List (Addr × Obj)} {σ : St} {H : Hp} {s : Shared} {h' : Heap} {tk : Nat} {c' : Addr} {q : Str} {tb tb' : Array Value} (I : Inv X pins σ H s) (hP : H P = some (tabO P tb)) (k : Heap.ExtBut P s.heap h') (hc' : s.heap.objs.size <= c')
    (hPn : h'.get? P = some { cls := .none, data := .fields tb' }) (hrec : h'.CodeRec (.ref c') q) : Inv X pins σ (upd (upd H c' (codO c' q)) P (tabO P tb')) { s with heap := h', toks := tk } := by
  have hfr : H c' = none := I.hok.fresh hc'; have hcP : c' ≠ P := fun z => by rw [z, hP] at hfr; cases hfr
  have hH : ∀ b u, b ≠ P -> H b = some u -> (upd (upd H c' (codO c' q)) P (tabO P tb')) b = some u := fun b u n hb => by
    rw [upd_ne n, upd_ne (ne_of_none hb hfr)]; exact hb
  have nP : ∀ b o, H b = some o -> (∀ φ, o ≠ HO.ext φ) -> b ≠ P := fun b o hb ho z => by
    rw [z, hP] at hb; exact ho _ (Option.some.inj hb).symm
  refine I.un ⟨fun b o hb hn _ _ => ?_, fun b o hb hn _ _ => ?_, fun b o hb hn _ => ?_, fun b o hb _ => ?_, fun b xs hb => hH b _ (nP b _ hb (fun _ z => nomatch z)) hb, fun b o u hb => hH b _ (nP b _ hb (fun _ z => nomatch z)) hb, fun b tb hb => ?_⟩ fun b u hb => ?_
  . exact k b o (fun z => by rw [z, hP] at hn; cases hn) hb
  . exact ⟨o.slots, k b o (fun z => by rw [z, hP] at hn; cases hn) hb⟩
  . have n1 : b ≠ P := fun z => by rw [z, hP] at hn; cases hn
    have n2 : b ≠ c' := Nat.ne_of_lt (Nat.lt_of_lt_of_le (Heap.lt_size hb) hc'); rw [upd_ne n1, upd_ne n2]; exact hn
  . by_cases z : b = P
    . rw [z]; exact ⟨_, hPn⟩
    . exact ⟨o, k b o z hb⟩
  . exact ⟨#[], by rw [Array.append_empty]; exact hH b _ (nP b _ hb (fun _ z => nomatch z)) hb⟩
  . by_cases z : b = P
    . subst z
      rw [upd_same] at hb
      cases hb
      exact ⟨hPn, ⟨_, hPn⟩, fun h1 h2 e k => k _ e⟩
    rw [upd_ne z] at hb
    by_cases z2 : b = c'
    . subst z2
      rw [upd_same] at hb
      cases hb
      refine hld fun g_ k_ => ?_; obtain ⟨c2, o, vs, t, e1, e2, e3⟩ := id hrec; refine k_ ?_
      cases e1
      exact ⟨hrec, ⟨o, e2⟩, fun h1 h2 ⟨c3, o3, vs3, t3, q1, q2, q3⟩ k => by cases q1; exact ⟨_, o3, vs3, t3, rfl, k _ q2, q3⟩⟩
    rw [upd_ne z2] at hb; refine (I.hok b u hb).stay (fun d v hd hv => k d v (fun z3 => ?_) hv) (fun d hd => hH d _ (nP d _ hd (fun _ z => nomatch z)) hd) fun d xs hd => hH d _ (nP d _ hd (fun _ z => nomatch z)) hd
    rcases hd with hd | hd
    . exact z (hd.symm.trans z3)
    . rw [z3, hP] at hd
      cases hd
theorem pe_sortKey (L : LamIx ps body sc x y) (hd : defaultsOf ps X.env = ([], [])) (hkw : ps.kwonlyargs = []) (hcode : X.env.code = .ref c) (ck : CodeK X.K c P) (hcP : c ≠ P) (hgP : mainGlobals ≠ P) (bk : BltK X.K X.base bm) (hbP : bm ≠ P) (hroom : X.A.in1.in1.depth < recursionLimit)
    (hg : Gl X "sorted") (hm : X.mg "sorted" = none) (he : PE X e te) (hN : X.N[j]? = some y) (hv : X.env.kindOf y = some .cell \/ X.env.kindOf y = some .free) (hvis : Vis X.env.scope y) (hcl : closureFor sc X.env = pure [(y, cf)]) (hcf : X.env.cells.lookup y = some cf) (hnl : X.env.kindOf y ≠ some .local)
    (hs : starEach [e] X.env = [(false, eval e X.env)] := by rfl) :
    PE X (.Call (.Name "sorted" p) [e] [⟨some "key", .Lambda ps body sc lpos, kp⟩] pos) (tSortK X.K P lpos (X.env.qual ++ "<lambda>") j te) := by
  intro pins s σ H Q I h; refine wpAny_Call_Name_kw (ld_blt I hg hm boot_sorted ?_); have pa : PA X [e] (tCons te tNil) := pa_cons he pa_nil (by rw [hs]; rfl)
  refine callWith_kw (thn (pa pos pins s σ H (fun vs H1 => ∃ v, vs = [v] /\ tSortQ X.K P lpos (X.env.qual ++ "<lambda>") j σ Q v H1) I h) fun us s1 ⟨vs, H1, I1, r, v, e1, q1⟩ => ?_) (by rw [hs]; rfl) (by rw [hs]; rfl)
  subst e1; refine hld fun g_ k_ => ?_; obtain ⟨a, F, ks, ts, rfl, ha, hF0, hF, hlt, h64, ht, q⟩ := q1; refine k_ ?_; obtain ⟨u, rfl, ru⟩ := vals1 r
  cases ru
  have KX := I1.kIn; have gns : s1.heap.Ns mainGlobals X.mg := I1.mod.glob.keeps I1.bk
  have hblt : s1.heap.BuiltinsAt X.mg P := by
    exact ⟨bm, _, PySem.W.mg_of KX gns bk.ns, bk.n1, bk.n2, hbP, I1.bk _ _ bk.ex, rfl, rfl, rfl⟩
  -- behind the making: the sorting
  have sort : ∀ (s2 : Shared) (H2 : Hp) (g : Addr) (od : Option Addr) (osl : Array (Option Value)) (ct cd pm : Value), Inv X pins σ H2 s2 -> SameT P H1 H2 -> Tab P lpos (X.env.qual ++ "<lambda>") H2 -> (∀ l, s2.heap.objs.size <= l -> H1 l = none) ->
      s2.heap.get? g = some ⟨.type "function", od, .func (lamFd (X.env.qual ++ "<lambda>") ps body sc [(y, cf)] ct cd pm), osl⟩ -> s2.heap.CodeRec cd (X.env.qual ++ "<lambda>") ->
      wpAny (model X.prog X.w) X.A (call (.builtin "sorted") [.ref a] [("key", .ref g)]) (EP X pins σ Q) X.xe s2 := by
    intro s2 H2 g od osl ct cd pm I2 st tb2 hfr hg2 hrec
    have keep : ∀ {b : Addr} {xs : List V}, SqL X.K H1 b xs -> SqL X.K H2 b xs := by
      intro b xs hb
      rcases hb with (hb | ⟨o, hb⟩) | hb
      . exact .inl (.inl (st _ _ (ht.ne hb (fun _ z => nomatch z)) hb))
      . exact .inl (.inr ⟨o, st _ _ (ht.ne hb (fun _ z => nomatch z)) hb⟩)
      . exact .inr hb
    obtain ⟨ivs, ri, pli, _⟩ := I2.list (keep ha); obtain ⟨its, rt, plt, _⟩ := I2.list (keep hF); obtain ⟨n1, n2⟩ := vals_nats ri; have hlen : ivs.length = ks.length := by rw [<- n1, List.length_map]
    -- the cell
    obtain ⟨m, _, hloc⟩ := I2.loc; obtain ⟨uF, rF, lk⟩ := hloc j y _ hN hF0 hvis
    cases rF
    have hcell : s2.heap.IsCell cf (some (.ref F)) := by
      rcases lk with ⟨z, _⟩ | ⟨_, c2, e1, e2⟩
      . exact absurd z hnl
      . rw [hcf] at e1
        cases e1
        exact e2
    refine sorted_keyed (kf := keyOfV ts) pli.isList (by rw [hlen]; exact h64) (lam_key L hroom hg2 hrec I2.nolimit hcell plt.isList fun v hv => ?_) fun Lr out s3 en a1 a2 a3 a4 a5 => ?_
    . obtain ⟨k, t, hk, rfl⟩ := n2 v hv
      have hkl := hlt k hk; have e0 : (ts.map V.str)[k]? = some (V.str (ts[k])) := by rw [List.getElem?_map, List.getElem?_eq_getElem hkl]; rfl
      obtain ⟨u, eu, ru⟩ := rt.get e0; obtain ⟨t', rfl⟩ := ru; refine ⟨k, t, t', rfl, ?_, ?_⟩
      . rw [eu]
        show _ = some (Value.str (ts.getD ((k : Int).toNat) ⟨#[]⟩) t')
        rw [Int.toNat_natCast, List.getD_eq_getElem?_getD, List.getElem?_eq_getElem hkl]
        rfl
      . have h1 := rt.length
        rw [List.length_map] at h1; have h2 := line63; have : ts.length <= sizeLine := by have := (I2.list (keep hF)).choose_spec.2.2; rwa [List.length_map] at this
        have h3 : (sizeLine : Nat) < 2 ^ 62 := by rw [sizeLine_eq]; decide
        omega
    . obtain ⟨h3, tk3, rfl, k3⟩ := a3
      have ev : ∀ v ∈ out, ∃ (k : Nat) (t : Tok), v = .int (k : Int) t := fun v hv => by
        obtain ⟨k, t, _, e⟩ := n2 v (a1.mem_iff.mp hv); exact ⟨k, t, e⟩
      have hpm : (out.map natOfV).Perm ks := by rw [<- n1]; exact a1.map _
      have hasc : (out.map natOfV).Pairwise (fun a b => ¬ (ts.getD b ⟨#[]⟩).cps.toList < (ts.getD a ⟨#[]⟩).cps.toList) := by
        refine List.pairwise_map.mpr (a2.imp_of_mem ?_); intro v1 v2 m1 m2 hn; obtain ⟨k1, t1, rfl⟩ := ev v1 m1; obtain ⟨k2, t2, rfl⟩ := ev v2 m2; exact hn
      have hL2 : H2 Lr = none := I2.hok.fresh a4
      have hz : ((out.map natOfV).map fun k : Nat => V.int (k : Int)).length <= sizeLine := by
        rw [List.length_map, List.length_map, a1.length_eq, hlen, sizeLine_eq]; omega
      exact ⟨.ref Lr, _, I2.laid (a := Lr) (o := .lst ((out.map natOfV).map fun k : Nat => V.int (k : Int))) (t' := tk3) k3 a4 ⟨hz, out, en, nats_vals ev, a5⟩, rfl, q Lr _ H2 st tb2 (hfr Lr a4) hL2 hpm hasc⟩
  have hfr1 : ∀ l, s1.heap.objs.size <= l -> H1 l = none := fun l hl => I1.hok.fresh hl
  rcases id ht with t0 | ⟨c', t1, t2⟩
  . obtain ⟨hP, _, _⟩ := I1.hok _ _ t0
    refine kws_cons (make_lam hd hkw hcl I1.ok.glob gns hcode (isCode_of ck KX hP trivial hcP) (tableAt_of ck KX hP) hgP hblt (fun _ g c' h' tk ct pm hx hge hgg hlt' hfn htb hrec => ?_) fun c'' hhit => by cases hhit)
    refine kws_nil ?_; have hPn : h'.get? P = some { cls := .none, data := .fields #[rawInt lpos.line, rawInt lpos.col, .ref c'] } := htb.2; have I2 := I1.coded (tk := tk) t0 hx hge hPn hrec; have hfc : H1 c' = none := hfr1 c' hge; have hcP' : c' ≠ P := fun z => by rw [z, t0] at hfc; cases hfc
    refine sort _ _ g _ _ ct (.ref c') pm I2 (fun b o n hb => by rw [upd_ne n, upd_ne (ne_of_none hb hfc)]; exact hb) (.inr ⟨c', upd_same, by rw [upd_ne hcP', upd_same]⟩) (fun l hl => hfr1 l ?_) hfn hrec
    exact Nat.le_trans (Nat.le_trans hgg (Nat.le_of_lt (Heap.lt_size hfn))) hl
  . obtain ⟨hP, _, _⟩ := I1.hok _ _ t1
    have hrec : s1.heap.CodeRec (.ref c') (X.env.qual ++ "<lambda>") := (I1.hok _ _ t2).1; have hca : codeAmong lpos (#[rawInt lpos.line, rawInt lpos.col, Value.ref c'] : Array Value).toList = some (.ref c') := codeAmong_snoc [] trivial rfl; refine kws_cons (make_lam hd hkw hcl I1.ok.glob gns hcode (isCode_of ck KX hP trivial hcP) (tableAt_of ck KX hP) hgP hblt (fun hno => by rw [hca] at hno; cases hno) fun c'' hhit g h' tk ct pm k2 hgg hfn => ?_)
    rw [hca] at hhit
    cases hhit
    refine kws_nil ?_; exact sort _ H1 g _ _ ct (.ref c') pm (I1.kept (t' := tk) k2) (SameT.refl _) (.inr ⟨c', t1, t2⟩) (fun l hl => hfr1 l (Nat.le_trans (Nat.le_trans hgg (Nat.le_of_lt (Heap.lt_size hfn))) hl)) hfn (hrec.keeps k2)
end
end L2
namespace L2
open PySem PySem.Spec PyProof.Rows
def OnlyT (P : Addr) (H : Hp) : Prop := H P = some (tabO P #[]) /\ ∀ b, b ≠ P -> H b = none \/ ∃ o xs, H b = some (.frz o (.lst xs))
theorem law_callT {Pr : Program} {w : World} {K : PySem.W.Frag} {mg mb : Str -> Option Value} {CX : CXT} {k : Nat} {fa a P c bm : Addr} {fd : FuncData} {x : Str} {sp : Sp} {s₁ : Shared} {vs : List Value} {ns : List Int} {pos : Pos} {q : Str}
    (KX : K.In s₁.heap) (hns : s₁.heap.Ns mainGlobals mg) (hb : s₁.heap.Ns builtinsNs mb) (hbb : ∀ x : Str, x ≠ "__name__" -> mb x = bootBuiltins x) (hlim : s₁.heap.NoLimit) (hg : s₁.gens = #[])
    (ha : s₁.heap.get? a = some { cls := .type "list", data := .seq vs.toArray }) (hi : IntsAre vs ns) (hl : ns.length <= sizeLine) (hr : Room k callerA)
    (hP : s₁.heap.get? P = some { cls := .none, data := .fields #[] }) (hB : s₁.heap.get? bm = some modO) (ck : CodeK K c P) (hKP : K.lookup P = none)
    (F : ∀ base : Heap, K.In base -> base.Ns mainGlobals mg -> base.get? bm = some modO -> FnOk Pr w K mg base CX k fa fd [x] sp) (hbind : ∀ (s : Shared) (u : Value), BindsTo s fd ⟨[u], []⟩ [(x, u)])
    (hsp : ∀ H : Hp, OnlyT P H -> SqL K H a (ns.map V.int) -> sp [.ref a] H (fun v H' => v = .bl true /\ Tab P pos q H') fun _ _ _ => False)
    (hCX : ∀ H e s', CX [] H s₁ (fun _ _ _ => False) e s' -> False) :
    codeAny (model Pr w) callerA (.call (.ref fa) ⟨[.ref a], []⟩) (fun r s' => r = .ok (.ret (.bool true)) /\ OldK s₁.heap s'.heap /\ s'.os = s₁.os /\ AllBare s'.gens) s₁ := by
  have rv := vals_ints hi; have lenV := hi.length; have haP : a ≠ P := fun z => by rw [z, hP] at ha; cases ha
  have core : ∀ H : Hp, OnlyT P H -> SqL K H a (ns.map V.int) -> HOk Pr w H s₁.heap -> (∀ b, H b ≠ none -> b = a \/ b = P) -> (H a ≠ none -> K.lookup a = none) ->
      codeAny (model Pr w) callerA (.call (.ref fa) ⟨[.ref a], []⟩) (fun r s' => r = .ok (.ret (.bool true)) /\ OldK s₁.heap s'.heap /\ s'.os = s₁.os /\ AllBare s'.gens) s₁ := by
    intro H hO hS hok hA hK; have base_of : ∀ {b : Addr} {o : Obj}, s₁.heap.get? b = some o -> H b = none -> (hidT s₁.heap H).get? b = some o := fun e n => hidT_get e n
    have noA : ∀ {b : Addr} {o : Obj} {es : Array DictEntry} {ep : Nat}, s₁.heap.get? b = some o -> o.data = .dict es ep -> H b = none := fun {b o es ep} e d => by
      cases q : H b with
      | none => rfl
      | some u =>
        rcases hA b (by rw [q]; simp) with e' | e'
        . subst e'
          rw [ha] at e; cases e; have d' : Data.seq vs.toArray _ = Data.dict es ep := d
          cases d'
        . subst e'
          rw [hP] at e; cases e; have d' : Data.fields #[] = Data.dict es ep := d
          cases d'
    have nsK : ∀ {b : Addr} {m : Str -> Option Value}, s₁.heap.Ns b m -> (hidT s₁.heap H).Ns b m := fun {b m} ⟨o, es, ep, e, d, r⟩ => ⟨o, es, ep, base_of e (noA e d), d, r⟩
    have hKb : K.In (hidT s₁.heap H) := fun b o e => base_of (KX b o e) (by
      cases q : H b with
      | none => rfl
      | some u =>
        rcases hA b (by rw [q]; simp) with e' | e'
        . subst e'
          rw [hK (by rw [q]; simp)] at e; cases e
        . subst e'
          rw [hKP] at e; cases e)
    have hM : Mod K mg (hidT s₁.heap H) := ⟨hKb, nsK hns, ⟨mb, nsK hb, hbb⟩, let ⟨mc, h1, h2⟩ := hlim; ⟨mc, nsK h1, h2⟩⟩; have e0 : Env0 Pr w K mg (hidT s₁.heap H) callerA [] s₁ H := ⟨rfl, hM, fun b o e => of_hidT e, Nat.le_of_eq (hidT_size _ _), trivial, fun b hb => absurd (show b ∈ ([] : List Addr) from hb) (by simp), hok, .of_eq hg⟩
    have hBb : (hidT s₁.heap H).get? bm = some modO := base_of hB (by
      cases q : H bm with
      | none => rfl
      | some u =>
        rcases hA bm (by rw [q]; simp) with e' | e'
        . rw [e', ha] at hB; exact nomatch (congrArg Obj.dict (Option.some.inj hB) : (none : Option Addr) = some builtinsNs)
        . rw [e', hP] at hB; exact nomatch (congrArg Obj.dict (Option.some.inj hB) : (none : Option Addr) = some builtinsNs))
    refine codeAny_mono ((F _ hKb (nsK hns) hBb).run callerA [] s₁ H ⟨[.ref a], []⟩ [.ref a] [.ref a] _ _ hr e0 (hbind s₁ (.ref a)) (.cons rfl .nil) (hsp H hO hS)) fun r s' h => ?_
    cases r with
    | error e => exact (hCX H e s' h).elim
    | ok fl =>
      cases fl with
      | next => exact False.elim h
      | brk => exact False.elim h
      | cont => exact False.elim h
      | ret u =>
        obtain ⟨v, H', os, bare, un, hok', r', rfl, tb⟩ := h; obtain rfl : u = Value.bool true := r'
        have hPe : ∃ more, s'.heap.get? P = some { cls := .none, data := .fields (#[] ++ more) } := by
          rcases tb with t | ⟨c', t, _⟩
          . exact ⟨#[], by rw [Array.append_empty]; exact (hok' _ _ t).1⟩
          . exact ⟨_, by rw [Array.empty_append]; exact (hok' _ _ t).1⟩
        have kp : ∀ b o, b ≠ P -> s₁.heap.get? b = some o -> s'.heap.get? b = some o := fun b o n e => by
          cases q : H b with
          | none => exact un.keep b o e q (by intro z; exact absurd (show b ∈ ([] : List Addr) from z) (by simp)) (by simp)
          | some u =>
            rcases hO.2 b n with z | ⟨ob, xs, z⟩
            . rw [q] at z; cases z
            . have z2 := un.frzs b ob _ z
              obtain ⟨e1, _⟩ := hok b _ z; obtain ⟨e2, _⟩ := hok' b _ z2; rw [e] at e1; cases e1; exact e2
        refine ⟨rfl, ⟨fun b o e => ?_, fun b o e => ?_⟩, os, bare⟩
        . by_cases n : b = P
          . subst n
            rw [hP] at e
            cases e
            obtain ⟨more, hm⟩ := hPe; exact .inr (.inl ⟨(tableAt_of ck KX hP).isCodeTable, rfl, #[], more, rfl, hm⟩)
          . exact .inl (kp b o n e)
        . by_cases n : b = P
          . subst n
            obtain ⟨more, hm⟩ := hPe; exact ⟨_, hm⟩
          . exact ⟨o, kp b o n e⟩
  have okP : ∀ H : Hp, ObjOk Pr w H s₁.heap P (tabO P #[]) := fun H => ⟨hP, ⟨_, hP⟩, fun h1 h2 e k => k _ e⟩
  cases hk : K.lookup a with
  | some o =>
    have e := KX a o hk; rw [ha] at e
    cases e
    refine core (fun b => if b = P then some (tabO P #[]) else none) ⟨if_pos rfl, fun b n => .inl (if_neg n)⟩ (.inr ⟨_, vs.toArray, _, hk, rfl, rfl, rfl, by rw [List.size_toArray, lenV]; exact hl, by simpa using rv⟩) (fun b u z => ?_) (fun b z => ?_) fun z => absurd (if_neg haP) z
    . by_cases n : b = P
      . have z' := (if_pos n).symm.trans z
        cases z'
        subst n; exact okP _
      . have z' := (if_neg n).symm.trans z
        cases z'
    . by_cases n : b = P
      . exact .inr n
      . exact absurd (if_neg n) z
  | none =>
    refine core (fun b => if b = P then some (tabO P #[]) else if b = a then some (.frz { cls := .type "list", data := .seq vs.toArray } (.lst (ns.map V.int))) else none) ⟨if_pos rfl, fun b n => ?_⟩
      (.inl (.inr ⟨{ cls := .type "list", data := .seq vs.toArray }, (if_neg haP).trans (if_pos rfl)⟩)) (fun b u z => ?_) (fun b z => ?_) fun _ => hk
    . by_cases hb : b = a
      . exact .inr ⟨_, _, (if_neg n).trans (if_pos hb)⟩
      . exact .inl ((if_neg n).trans (if_neg hb))
    . by_cases n : b = P
      . have z' := (if_pos n).symm.trans z
        cases z'
        subst n; exact okP _
      . have z1 := (if_neg n).symm.trans z
        by_cases hb : b = a
        . have z' := (if_pos hb).symm.trans z1
          cases z'
          subst hb; exact ⟨ha, by rw [List.length_map]; exact hl, vs, _, rv, ha⟩
        . have z' := (if_neg hb).symm.trans z1
          cases z'
    . by_cases n : b = P
      . exact .inr n
      . by_cases hb : b = a
        . exact .inl hb
        . exact absurd ((if_neg n).trans (if_neg hb)) z
theorem walk_ofT {l : PySem.W.OpenLaw} {n k : Nat} {q : Program} {loose : List Str} {XP : (Str -> Option Value) -> Heap -> Prop} {YP : World -> Heap -> Prop} {d : DefRec} {K : Params -> PySem.W.Frag} {CX : World -> CXT} {sp : World -> Sp} {x : Str} {P bm : Addr} {pos : Pos} {lq : Str}
    (hn : l.most = some n) (hn2 : n <= sizeLine) (hdf : d.params.defaults = []) (hr : Room k callerA)
    (hY : ∀ (w : World) (h : Heap), YP w h -> (K w.params).In h /\ h.get? P = some { cls := .none, data := .fields #[] } /\ h.get? bm = some modO)
    (F : ∀ (w : World) (mg : Str -> Option Value) (fa : Addr) (h : Heap), (K w.params).In h -> h.Ns mainGlobals mg -> mg d.name = some (.ref fa) ->
      (∃ c, CodeK (K w.params) c P) /\ (K w.params).lookup P = none /\ ∃ fd : FuncData, (∀ (s : Shared) (u : Value), BindsTo s fd ⟨[u], []⟩ [(x, u)]) /\
        ∀ base : Heap, (K w.params).In base -> base.Ns mainGlobals mg -> base.get? bm = some modO -> FnOk l.prog w (K w.params) mg base (CX w) k fa fd [x] (sp w))
    (hsp : ∀ (w : World) (H : Hp) (a : Addr) (ns : List Int), ns.length <= n -> OnlyT P H -> SqL (K w.params) H a (ns.map V.int) -> sp w [.ref a] H (fun v H' => v = .bl true /\ Tab P pos lq H') fun _ _ _ => False)
    (hCX : ∀ (w : World) (H : Hp) (s : Shared) (e : Value) (s' : Shared), CX w [] H s (fun _ _ _ => False) e s' -> False) :
    PySem.W.WalkO q loose XP YP l.row.toRowW d [] (fun f vs => PySem.call f vs) := by
  refine Att.attach_call hn hdf fun w s₀ s₁ mg mb fa o pm cd doc a vs ns G Y ho hd hcd hmg hobj hints hlen hg => ?_; obtain ⟨KX, hP, hB⟩ := hY w _ Y; refine hld fun g_ k_ => ?_; obtain ⟨⟨c, ck⟩, hKP, fd, hb, hF⟩ := F w mg fa _ KX G.T.g hmg; refine k_ ?_; exact law_callT KX G.T.g G.T.b G.T.builtins G.T.nolimit hg hobj hints (Nat.le_trans hlen hn2) hr hP hB ck hKP hF hb (fun H hO hS => hsp w H a ns hlen hO hS) fun H e s' => hCX w H s₁ e s'
def hookT (K : Params -> PySem.W.Frag) (as : List Addr) (e : ∀ P, as = (K P).map (·.1)) (P bm : Addr) : PySem.W.Hook where
  α := Option Obj × Option Obj × List (Option Obj)
  obs := fun s => (s.heap.get? P, s.heap.get? bm, as.map s.heap.get?)
  val := fun w => (some { cls := .none, data := .fields #[] }, some modO, (K w.params).map fun p => some p.2)
  says := fun w h => (K w.params).In h /\ h.get? P = some { cls := .none, data := .fields #[] } /\ h.get? bm = some modO
  of := fun w s x => ⟨PySem.W.InK.of e w s (congrArg (fun z => z.2.2) x), congrArg Prod.fst x, congrArg (fun z => z.2.1) x⟩
  keeps := fun w h h' x k => ⟨x.1.keeps k, k _ _ x.2.1, k _ _ x.2.2⟩
end L2
namespace L2
open PySem PySem.Spec PyProof.Rows
structure FunC (K : PySem.W.Frag) (x qual : Str) (st : Stmt) (f c : Addr) (fd : FuncData) : Prop where
  ex : ∃ (oc : Value) (od : Option Addr) (kV doc pm : Value) (an : Option Addr) (ct : Value) (osl : Array (Option Value)),
    fd = PySem.W.fnOf x qual (defArgs st) (defBody st) (defScope st) .none kV doc pm an (.ref c) ct /\ K.lookup f = some ⟨oc, od, .func fd, osl⟩ /\ PySem.W.codeIn K (.ref c) qual = true
  kp : PySem.W.keepIn K (.ref f) = true
section
variable {P : Program} {w : World} {K : PySem.W.Frag} {mg : Str -> Option Value} {base : Heap}
theorem FunC.ok {x qual : Str} {st : Stmt} {f c : Addr} {fd : FuncData} {N ps : List Str} {k : Nat} {sp : Sp} (F : FunC K x qual st f c fd) (S : FnScope N ps (defScope st)) (len : ∀ vs H Q E, sp vs H Q E -> vs.length = ps.length)
    (hbody : ∀ (A : Around) (outer : List Env) (s : Shared) (H : Hp) (vs : List V) (Q : VK) (E : XK), Room k (A.deeper (envOfC qual (defScope st) s.heap.objs.size f (.ref c))) -> sp vs H Q E ->
      ∃ t, PSs (cxOf CX0 P w K mg base N qual (defScope st) f (.ref c) A outer s H E).nox (defBody st) t /\ t { nx := fun _ H' => Q .non H', rt := Q } (start N vs) H) : FnOk P w K mg base CX0 (k + 1) f fd ps sp := by
  refine hld fun g_ k_ => ?_; obtain ⟨oc, od, kV, doc, pm, an, ct, osl, rfl, lk, hcd⟩ := F.ex; refine k_ ?_; refine fn_of lk hcd S len fun A outer s H vs Q E hr hsp => ?_; obtain ⟨t, h, q⟩ := hbody A outer s H vs Q E hr hsp; exact ⟨t, h.nox, q⟩
theorem funC_mk {x qual : Str} {st : Stmt} {f c : Addr} {oc : Value} {od an : Option Addr} {osl : Array (Option Value)} {kV doc pm ct : Value} (l : K.lookup f = some ⟨oc, od, .func (PySem.W.fnOf x qual (defArgs st) (defBody st) (defScope st) .none kV doc pm an (.ref c) ct), osl⟩)
    (cd : PySem.W.codeIn K (.ref c) qual = true) (k : PySem.W.keepIn K (.ref f) = true) : FunC K x qual st f c (PySem.W.fnOf x qual (defArgs st) (defBody st) (defScope st) .none kV doc pm an (.ref c) ct) := ⟨⟨oc, od, kV, doc, pm, an, ct, osl, rfl, l, cd⟩, k⟩
theorem FunC.fun {x qual : Str} {st : Stmt} {f c : Addr} {fd : FuncData} (F : FunC K x qual st f c fd) : Fun K x qual st f fd := by
  refine hld fun g_ k_ => ?_; obtain ⟨oc, od, kV, doc, pm, an, ct, osl, e, lk, hcd⟩ := F.ex; refine k_ ?_; exact ⟨⟨oc, od, kV, doc, pm, an, .ref c, ct, osl, e, lk, hcd⟩, F.kp⟩
end
theorem closure_one {sc : Scope} {env : Env} {x y : Str} {cf : Addr} (hn : sc.names = [(x, .local), (y, .free)]) (hc : env.cells.lookup y = some cf) : closureFor sc env = pure [(y, cf)] := by
  unfold closureFor cellOf
  rw [hn]
  simp [hc]
theorem pe_sortKeyC {X : Cx} {e : Expr} {te : TE} {ps : Arguments} {sc : Scope} {body : Expr} {lpos kp p pos : Pos} {x y : Str} {j : Nat} {c P bm cf : Addr} (K0 : PySem.W.Frag) (q0 : Str) (hK : X.K = K0) (hq : X.env.qual ++ "<lambda>" = q0) (L : LamIx ps body sc x y) (hd : defaultsOf ps X.env = ([], [])) (hkw : ps.kwonlyargs = []) (hcode : X.env.code = .ref c) (ck : CodeK K0 c P) (hcP : c ≠ P) (hgP : mainGlobals ≠ P) (bk : BltK K0 X.base bm) (hbP : bm ≠ P) (hroom : X.A.in1.in1.depth < recursionLimit)
    (hg : Gl X "sorted") (hm : X.mg "sorted" = none) (he : PE X e te) (hN : X.N[j]? = some y) (hv : X.env.kindOf y = some .cell \/ X.env.kindOf y = some .free) (hvis : Vis X.env.scope y) (hcl : closureFor sc X.env = pure [(y, cf)]) (hcf : X.env.cells.lookup y = some cf) (hnl : X.env.kindOf y ≠ some .local)
    (hs : starEach [e] X.env = [(false, eval e X.env)] := by rfl) :
    PE X (.Call (.Name "sorted" p) [e] [⟨some "key", .Lambda ps body sc lpos, kp⟩] pos) (tSortK K0 P lpos q0 j te) := by
  subst hK hq; exact pe_sortKey L hd hkw hcode ck hcP hgP bk hbP hroom hg hm he hN hv hvis hcl hcf hnl hs
def Itz (K : PySem.W.Frag) (a b : Addr) : It :=
  ⟨fun i H => ∃ xs ys x y, SqL K H a xs /\ SqL K H b ys /\ xs[i]? = some x /\ ys[i]? = some y,
   fun i H v H' => ∃ p x y, v = .ref p /\ H p = none /\ H' = upd H p (.tup [x, y]) /\ (∀ xs, SqL K H a xs -> xs[i]? = some x) /\ ∀ ys, SqL K H b ys -> ys[i]? = some y,
   fun i H => ∃ xs ys, SqL K H a xs /\ SqL K H b ys /\ (xs.length <= i \/ ys.length <= i)⟩
def ZipSt (z TI TO i1 i2 a b : Addr) (i : Nat) (h : Heap) : Prop := IsZip h z TI TO .none /\ IsPair h TI (.ref i1) (.ref i2) /\ (∃ u v, IsPair h TO u v) /\ h.IsListIter i1 a i /\ h.IsListIter i2 b i
theorem zip_objs {z TI TO i1 i2 a b : Addr} {i : Nat} {h : Heap} (st : ZipSt z TI TO i1 i2 a b i h) {c : Addr} (hc : c ∈ [z, TI, TO, i1, i2]) : ∃ o, h.get? c = some o /\ ∀ v, o.data ≠ .cell v := by
  refine hld fun g_ k_ => ?_; obtain ⟨h1, h2, ⟨u, v, h3⟩, ⟨o4, h4, _, d4⟩, o5, h5, _, d5⟩ := st; refine k_ ?_
  rcases List.mem_cons.mp hc with rfl | hc
  . exact ⟨_, h1, fun v z => by cases z⟩
  rcases List.mem_cons.mp hc with rfl | hc
  . exact ⟨_, h2, fun v z => by cases z⟩
  rcases List.mem_cons.mp hc with rfl | hc
  . exact ⟨_, h3, fun v z => by cases z⟩
  rcases List.mem_cons.mp hc with rfl | hc
  . exact ⟨o4, h4, fun v z => by rw [d4] at z; cases z⟩
  . have e : c = i2 := by simpa using hc
    subst e; exact ⟨o5, h5, fun v z => by rw [d5] at z; cases z⟩
theorem turn_zip {P : Program} {w : World} {K : PySem.W.Frag} {elts : List Expr} {x1 : Nat} {tpos : Pos} (a b z TI TO i1 i2 : Addr) (D : ZipApart z TI TO i1 i2 a b) :
    Turn P w K (.Tuple elts x1 tpos) (Itz K a b) [z, TI, TO, i1, i2] z (ZipSt z TI TO i1 i2 a b) where
  mem := by simp
  obj := fun i h st c hc => zip_objs st hc
  keep := fun i h h' st k => by
    refine hld fun g_ k_ => ?_; obtain ⟨h1, h2, ⟨u, v, h3⟩, h4, h5⟩ := st; refine k_ ?_; exact ⟨k z (by simp) _ h1, k TI (by simp) _ h2, ⟨u, v, k TO (by simp) _ h3⟩, h4.at fun o q => k i1 (by simp) o q, h5.at fun o q => k i2 (by simp) o q⟩
  item := by
    intro X hP hw hK hc i pins s σ H E I hf st hg; subst hP hw hK; refine hld fun g_ k_ => ?_; obtain ⟨xs, ys, x, y, hqa, hqb, hx, hy⟩ := hg; refine k_ ?_; have stt := st; refine hld fun g_ k_ => ?_; obtain ⟨hz, hTI, ⟨u, v, hTO⟩, h1, h2⟩ := st; refine k_ ?_; obtain ⟨ia, ra, pa, _⟩ := I.list hqa; obtain ⟨ib, rb, pb, _⟩ := I.list hqb; obtain ⟨ux, hux, rux⟩ := ra.get hx; obtain ⟨uy, huy, ruy⟩ := rb.get hy; refine wpAny_pyNext_zip_item D hz hTI hTO h1 h2 pa.isList pb.isList (x := ux) (y := uy) (by simpa using hux) (by simpa using huy) fun h' z1 o1 j1 j2 ht hsz hk => ⟨.ref s.heap.objs.size, rfl, ?_⟩
    refine wpAny_letOwnedTupleGo_zip z1 fun h3 z3 hs3 => ?_
    replace hs3 : Heap.SameBut z h' h3 := hs3
    have hzl : z < s.heap.objs.size := Heap.lt_size hz; have ht3 : h3.get? s.heap.objs.size = some { cls := .type "tuple", data := .seq #[ux, uy] } := (hs3.2 _ (Nat.ne_of_gt hzl)).trans ht; have hn : H s.heap.objs.size = none := I.hok.fresh (Nat.le_refl _); have hTI3 : IsPair h3 TI (.ref i1) (.ref i2) := (hs3.2 TI D.TIz).trans (hk TI _ D.TIz D.TITO D.TIi1 D.TIi2 hTI)
    refine ⟨.ref s.heap.objs.size, upd H s.heap.objs.size (.tup [x, y]), I.turnLay (t' := s.toks) hf (fun c o hc q => ?_) (Nat.le_refl _) ?_, rfl,
      ⟨_, x, y, rfl, hn, rfl, fun zs hy => by rw [I.list_inj hy hqa]; exact hx, fun zs hz => by rw [I.list_inj hz hqb]; exact hy⟩, ⟨z3, hTI3, ⟨ux, uy, (hs3.2 TO D.TOz).trans o1⟩, j1.extBut hs3.extBut D.i1z, j2.extBut hs3.extBut D.i2z⟩, fun c hc => ?_⟩
    . have n1 : c ≠ z := fun e => hc (by simp [e])
      have n2 : c ≠ TO := fun e => hc (by simp [e])
      have n3 : c ≠ i1 := fun e => hc (by simp [e])
      have n4 : c ≠ i2 := fun e => hc (by simp [e])
      exact (hs3.2 c n1).trans (hk c o n1 n2 n3 n4 q)
    . exact ⟨by show 2 <= sizeLine; decide, [ux, uy], .cons rux (.cons ruy .nil), _, ht3, rfl, 0, rfl⟩
    . rw [upd_ne]
      . exact (hf c hc).1
      . obtain ⟨o, q, _⟩ := zip_objs stt hc
        exact Nat.ne_of_lt (Heap.lt_size q)
  done := by
    intro X hP hw hK hc i pins s σ H E I hf st hg; subst hP hw hK; refine hld fun g_ k_ => ?_; obtain ⟨xs, ys, hqa, hqb, hx⟩ := hg; refine k_ ?_; refine hld fun g_ k_ => ?_; obtain ⟨hz, hTI, ⟨u, v, hTO⟩, h1, h2⟩ := st; refine k_ ?_; obtain ⟨ia, ra, pa, _⟩ := I.list hqa; obtain ⟨ib, rb, pb, _⟩ := I.list hqb; have la := ra.length; have lb := rb.length; refine wpAny_pyNext_zip_end (I.ok.hd hc) D hz hTI hTO h1 h2 pa.isList pb.isList ?_ fun h' eb => ⟨rfl, I.turnedL (t' := s.toks) hf fun c o hc q => eb c o (fun e => hc (by simp [e])) (fun e => hc (by simp [e])) (fun e => hc (by simp [e])) (fun e => hc (by simp [e])) q⟩
    rcases hx with hx | hx
    . left; simp; omega
    . right; simp; omega
  self := fun A i s Q E st h => wpAny_pyIter_zip st.1 h
def iZip (K : PySem.W.Frag) (ta : TA) : TI := fun σ H R => ta σ H fun vs H1 => ∃ a b, vs = [.ref a, .ref b] /\ (∃ xs, SqL K H1 a xs) /\ (∃ ys, SqL K H1 b ys) /\ R (Itz K a b) H1
section
variable {X : Cx}
theorem pi_zip {elts : List Expr} {x1 : Nat} {tpos : Pos} {l m : Expr} {ta : TA} {p pos : Pos} (hg : Gl X "zip") (hm : X.mg "zip" = none) (ha : PA X [l, m] ta) (he : starEach [l, m] X.env = (false, eval l X.env) :: starEach [m] X.env := by rfl) (hpl : (backTo pos (starEach [m] X.env)).any (·.1) = false := by rfl) :
    PI X (.Tuple elts x1 tpos) (.Call (.Name "zip" p) [l, m] [] pos) (iZip X.K ta) := by
  intro pins s σ H R I h; refine Call_ (ld_blt I hg hm boot_zip (PyProof.Rows.callWith_type1 (thn (ha pos pins s σ H _ I h) fun us s1 ⟨vs, H1, I1, r1, q1⟩ => ?_) he hpl)); refine hld fun g_ k_ => ?_; obtain ⟨a, b, e, ⟨xs, hqa⟩, ⟨ys, hqb⟩, q⟩ := q1; refine k_ ?_; subst e; refine hld fun g_ k_ => ?_; obtain ⟨u, v, rfl, ru, rv⟩ := vals2 r1; refine k_ ?_
  cases ru
  cases rv
  obtain ⟨ia, ra, pa, _⟩ := I1.list hqa; obtain ⟨ib, rb, pb, _⟩ := I1.list hqb; have a1 : a < s1.heap.objs.size := by obtain ⟨_, e, _⟩ := pa.isList; exact Heap.lt_size e
  have b1 : b < s1.heap.objs.size := by obtain ⟨_, e, _⟩ := pb.isList; exact Heap.lt_size e
  refine call_zip_2 pa.isList pb.isList fun h' hz hTI hTO hi1 hi2 hsz hk => wpAny_pyIter_zip hz ?_; have I2 : Inv X pins σ H1 { s1 with heap := h' } := I1.kept (t' := s1.toks) hk
  refine ⟨s1.heap.objs.size + 4, [s1.heap.objs.size + 4, s1.heap.objs.size + 2, s1.heap.objs.size + 3, s1.heap.objs.size, s1.heap.objs.size + 1], _, Itz X.K a b, H1, rfl, I2, turn_zip a b _ _ _ _ _ (zipApart_new a1 b1), ⟨hz, hTI, ⟨_, _, hTO⟩, hi1, hi2⟩, fun c hc => ?_, q⟩
  have hle : s1.heap.objs.size <= c := by
    rcases List.mem_cons.mp hc with rfl | hc
    . exact Nat.le_add_right _ _
    rcases List.mem_cons.mp hc with rfl | hc
    . exact Nat.le_add_right _ _
    rcases List.mem_cons.mp hc with rfl | hc
    . exact Nat.le_add_right _ _
    rcases List.mem_cons.mp hc with rfl | hc
    . exact Nat.le_refl _
    . have e : c = s1.heap.objs.size + 1 := by simpa using hc
      subst e; exact Nat.le_add_right _ _
  exact I1.fpOk hle (I1.hok.fresh hle)
end
theorem for_zip {K : PySem.W.Frag} {a b : Addr} {xs ys : List V} {g : TG} {tb : TS} {D : Ends} {σ : St} {H : Hp} (hlen : xs.length = ys.length) (Pv : Nat -> St -> Hp -> Prop) (h0 : Pv 0 σ H) (hl : ∀ i σ H, i <= xs.length -> Pv i σ H -> SqL K H a xs /\ SqL K H b ys)
    (hs : ∀ i x y p σ H, xs[i]? = some x -> ys[i]? = some y -> Pv i σ H -> H p = none -> g (.ref p) σ (upd H p (.tup [x, y])) fun σ2 H2 => tb { D with nx := Pv (i + 1), ct := Pv (i + 1), bk := D.nx } σ2 H2) (hd : ∀ σ H, Pv xs.length σ H -> D.nx σ H) :
    ∃ W : Nat -> Nat -> St -> Hp -> Prop, (∃ m, W 0 m σ H) /\ ∀ i m σ H, W i m σ H ->
      ((Itz K a b).stop i H /\ D.nx σ H) \/ ((Itz K a b).go i H /\ ∃ N : St -> Hp -> Prop, (∀ σ' H', N σ' H' -> ∃ m', m' < m /\ W (i + 1) m' σ' H') /\ ∀ x H', (Itz K a b).yld i H x H' -> g x σ H' fun σ2 H2 => tb { D with nx := N, ct := N, bk := D.nx } σ2 H2) := by
  refine ⟨fun i m σ H => m = xs.length - i /\ i <= xs.length /\ Pv i σ H, ⟨xs.length, by simp, Nat.zero_le _, h0⟩, ?_⟩
  rintro i m σ H ⟨rfl, hi, p⟩
  obtain ⟨qa, qb⟩ := hl i σ H hi p
  by_cases hlt : i < xs.length
  . have hlt2 : i < ys.length := by omega
    refine .inr ⟨⟨xs, ys, xs[i], ys[i], qa, qb, by simp [hlt], by simp [hlt2]⟩, Pv (i + 1), fun σ' H' p' => ⟨xs.length - (i + 1), by omega, rfl, hlt, p'⟩, fun x H' y => ?_⟩
    refine hld fun g_ k_ => ?_; obtain ⟨pp, u, v, rfl, hn, rfl, hu, hv⟩ := y; refine k_ ?_; exact hs i u v pp σ H (hu xs qa) (hv ys qb) p hn
  . have e : i = xs.length := by omega
    subst e; exact .inl ⟨⟨xs, ys, qa, qb, .inl (Nat.le_refl _)⟩, hd σ H p⟩
end L2
namespace L2
open PySem PySem.Spec PyProof.Rows
section
variable {κ : Type} [DecidableEq κ]
def valV (kvs : List (κ × V)) (k : κ) : Option V := (kvs.find? fun kv => decide (kv.1 = k)).map (·.2)
def putK (kvs : List (κ × V)) (k : κ) (v : V) : List (κ × V) :=
  if (kvs.any fun kv => decide (kv.1 = k)) = true then kvs.map (fun kv => if kv.1 = k then (kv.1, v) else kv) else kvs ++ [(k, v)]
theorem valV_pos {p : κ × V} {r : List (κ × V)} {k : κ} (e : p.1 = k) : valV (p :: r) k = some p.2 := by simp [valV, List.find?_cons, e]
theorem valV_neg {p : κ × V} {r : List (κ × V)} {k : κ} (e : ¬ p.1 = k) : valV (p :: r) k = valV r k := by simp [valV, List.find?_cons, e]
theorem valV_any (k : κ) : ∀ kvs : List (κ × V), (kvs.any fun kv => decide (kv.1 = k)) = (valV kvs k).isSome
  | [] => rfl
  | p :: r => by
    rw [List.any_cons]
    by_cases e : p.1 = k
    . simp only [valV_pos e, decide_eq_true e, Bool.true_or, Option.isSome_some]
    . rw [valV_neg e, decide_eq_false e, Bool.false_or]; exact valV_any k r
theorem valV_map (k j : κ) (y : V) : ∀ kvs : List (κ × V), valV (kvs.map fun kv => if kv.1 = k then (kv.1, y) else kv) j = (valV kvs j).map fun x => if j = k then y else x
  | [] => rfl
  | p :: r => by
    have ih := valV_map k j y r; rw [List.map_cons]
    by_cases h : p.1 = k
    . rw [if_pos h]
      by_cases e : p.1 = j
      . rw [valV_pos (p := (p.1, y)) e, valV_pos e, Option.map_some, if_pos (e.symm.trans h)]
      . rw [valV_neg (p := (p.1, y)) e, valV_neg e, ih]
    . rw [if_neg h]
      by_cases e : p.1 = j
      . rw [valV_pos (p := p) e, valV_pos e, Option.map_some, if_neg (fun z => h (e.trans z))]
      . rw [valV_neg (p := p) e, valV_neg e, ih]
theorem valV_snoc (k j : κ) (y : V) : ∀ kvs : List (κ × V), valV kvs k = none -> valV (kvs ++ [(k, y)]) j = if j = k then some y else valV kvs j
  | [], _ => by
    by_cases e : k = j
    . rw [if_pos e.symm]; exact valV_pos (p := (k, y)) e
    . rw [if_neg (fun z => e z.symm)]; exact valV_neg (p := (k, y)) e
  | p :: r, hn => by
    rw [List.cons_append]; have hk : ¬ p.1 = k := fun z => by rw [valV_pos z] at hn; cases hn
    rw [valV_neg hk] at hn; have ih := valV_snoc k j y r hn
    by_cases e : p.1 = j
    . rw [valV_pos e, valV_pos e, if_neg (fun z => hk (e.trans z))]
    . rw [valV_neg e, valV_neg e, ih]
theorem valV_put (kvs : List (κ × V)) (k j : κ) (y : V) : valV (putK kvs k y) j = if j = k then some y else valV kvs j := by
  unfold putK
  by_cases a : (kvs.any fun kv => decide (kv.1 = k)) = true
  . rw [if_pos a, valV_map]
    rw [valV_any] at a
    by_cases e : j = k
    . obtain ⟨x, hx⟩ := Option.isSome_iff_exists.mp a
      rw [if_pos e, e, hx, Option.map_some, if_pos rfl]
    . rw [if_neg e]
      cases valV kvs j with
      | none => rfl
      | some x => rw [Option.map_some, if_neg e]
  . rw [if_neg a]
    refine valV_snoc k j y kvs ?_; rw [valV_any] at a
    cases q : valV kvs k with
    | none => rfl
    | some x => rw [q] at a; exact (a rfl).elim
theorem length_putK (kvs : List (κ × V)) (k : κ) (v : V) : (putK kvs k v).length <= kvs.length + 1 := by
  unfold putK
  split
  . rw [List.length_map]; omega
  . rw [List.length_append, List.length_cons, List.length_nil]; omega
theorem putK_new {kvs : List (κ × V)} {k : κ} (v : V) (h : valV kvs k = none) : putK kvs k v = kvs ++ [(k, v)] := by
  unfold putK
  rw [valV_any, h]; exact if_neg (by decide)
theorem RelO.isSome_eq {o : Option V} {u : Option Value} (r : RelO o u) : o.isSome = u.isSome := by
  cases o with
  | none => cases u with
    | none => rfl
    | some _ => exact (show False from r).elim
  | some _ => cases u with
    | none => exact (show False from r).elim
    | some _ => rfl
theorem RelO.getD {o : Option V} {u : Option Value} {d : V} {d' : Value} (r : RelO o u) (rd : RelV d d') : RelV (o.getD d) (u.getD d') := by
  cases o with
  | none => cases u with
    | none => exact rd
    | some _ => exact (show False from r).elim
  | some _ => cases u with
    | none => exact (show False from r).elim
    | some _ => exact r
theorem KV.val {kvs : List (κ × V)} {vs : List (κ × Value)} (r : KV kvs vs) (k : κ) : RelO (valV kvs k) (valueAt vs k) := by
  unfold KV at r
  induction r with
  | nil => exact True.intro
  | @cons p q ps qs h t ih =>
    obtain ⟨h1, h2⟩ := h
    by_cases e : p.1 = k
    . have e' : q.1 = k := h1.symm.trans e
      have b : valueAt (q :: qs) k = some q.2 := by simp [valueAt, List.find?_cons, e']
      rw [valV_pos e, b]; exact h2
    . have e' : ¬ q.1 = k := fun z => e (h1.trans z)
      have b : valueAt (q :: qs) k = valueAt qs k := by simp [valueAt, List.find?_cons, e']
      rw [valV_neg e, b]; exact ih
theorem KV.any {kvs : List (κ × V)} {vs : List (κ × Value)} (r : KV kvs vs) (k : κ) : (kvs.any fun kv => decide (kv.1 = k)) = vs.any fun kv => decide (kv.1 = k) := by
  unfold KV at r
  induction r with
  | nil => rfl
  | cons h t ih => rw [List.any_cons, List.any_cons, ih, h.1]
theorem KV.repl {kvs : List (κ × V)} {vs : List (κ × Value)} (r : KV kvs vs) (k : κ) {y : V} {u : Value} (ry : RelV y u) :
    KV (kvs.map fun kv => if kv.1 = k then (kv.1, y) else kv) (vs.map fun kv => if kv.1 = k then (kv.1, u) else kv) := by
  unfold KV at r ⊢
  induction r with
  | nil => exact .nil
  | @cons p q ps qs h t ih =>
    rw [List.map_cons, List.map_cons]; refine .cons ?_ ih; obtain ⟨h1, h2⟩ := h
    by_cases e : p.1 = k
    . rw [if_pos e, if_pos (h1.symm.trans e)]; exact ⟨h1, ry⟩
    . rw [if_neg e, if_neg (fun z => e (h1.trans z))]; exact ⟨h1, h2⟩
theorem KV.put {kvs : List (κ × V)} {vs : List (κ × Value)} (r : KV kvs vs) (k : κ) {y : V} {u : Value} (ry : RelV y u) : KV (putK kvs k y) (stored vs k u) := by
  unfold putK stored
  rw [r.any k]
  by_cases e : (vs.any fun kv => decide (kv.1 = k)) = true
  . rw [if_pos e, if_pos e]; exact r.repl k ry
  . rw [if_neg e, if_neg e]; exact Paired.snoc r ⟨rfl, ry⟩
theorem KV.length {kvs : List (κ × V)} {vs : List (κ × Value)} (r : KV kvs vs) : kvs.length = vs.length := Paired.length r
end
theorem kV_is {P : Program} {w : World} {k : Key} {u : Value} (r : RelV (kV k) u) : (mixKind P w).is k u = true := by
  cases k with
  | inl i => obtain ⟨t, e⟩ := (show ∃ t, u = Value.int i t from r); subst e; exact mixKind_int P w i t
  | inr x => obtain ⟨t, e⟩ := (show ∃ t, u = Value.str x t from r); subst e; exact mixKind_str P w x t
theorem items_are {P : Program} {w : World} : ∀ {ks : List Key} {us : List Value}, Vals (ks.map kV) us -> ItemsAre (mixKind P w) ks us
  | [], _, r => by rw [List.map_nil] at r; cases r; exact .nil
  | k :: ks, _, r => by
    rw [List.map_cons] at r
    cases r with
    | cons h t => exact .cons (kV_is h) (items_are t)
abbrev KT (H : Hp) : List (List Key × V) -> List (List Key × Addr × Value) -> Prop := Paired fun p q => p.1 = q.1 /\ H q.2.1 = some (.tup (p.1.map kV)) /\ RelV p.2 q.2.2
theorem KT.val {H : Hp} {kvs : List (List Key × V)} {xs : List (List Key × Addr × Value)} (r : KT H kvs xs) (k : List Key) : RelO (valV kvs k) ((atKey xs k).map (·.2)) := by
  induction r with
  | nil => exact True.intro
  | @cons p q ps qs h t ih =>
    obtain ⟨h1, _, h2⟩ := h
    by_cases e : p.1 = k
    . have e' : q.1 = k := h1.symm.trans e
      have b : atKey (q :: qs) k = some q.2 := by simp [atKey, List.find?_cons, e']
      rw [valV_pos e, b]; exact h2
    . have e' : ¬ q.1 = k := fun z => e (h1.trans z)
      have b : atKey (q :: qs) k = atKey qs k := by simp [atKey, List.find?_cons, e']
      rw [valV_neg e, b]; exact ih
theorem KT.repl {H : Hp} {kvs : List (List Key × V)} {xs : List (List Key × Addr × Value)} (r : KT H kvs xs) (k : List Key) {y : V} {u : Value} (ry : RelV y u) :
    KT H (kvs.map fun kv => if kv.1 = k then (kv.1, y) else kv) (xs.map (putAt k u)) := by
  induction r with
  | nil => exact .nil
  | @cons p q ps qs h t ih =>
    rw [List.map_cons, List.map_cons]; refine .cons ?_ ih; obtain ⟨h1, h2, h3⟩ := h
    unfold putAt
    by_cases e : p.1 = k
    . rw [if_pos e, if_pos (h1.symm.trans e)]; exact ⟨h1, h2, ry⟩
    . rw [if_neg e, if_neg (fun z => e (h1.trans z))]; exact ⟨h1, h2, h3⟩
theorem KT.put {H : Hp} {kvs : List (List Key × V)} {xs : List (List Key × Addr × Value)} (r : KT H kvs xs) (k : List Key) {b : Addr} {y : V} {u : Value} (hb : H b = some (.tup (k.map kV))) (ry : RelV y u) :
    KT H (putK kvs k y) (storedH xs k b u) := by
  have e : (kvs.any fun kv => decide (kv.1 = k)) = (atKey xs k).isSome := by
    rw [valV_any, (r.val k).isSome_eq, Option.isSome_map]
  unfold putK storedH
  rw [e]
  by_cases q : (atKey xs k).isSome = true
  . rw [if_pos q, if_pos q]; exact r.repl k ry
  . rw [if_neg q, if_neg q]; exact Paired.snoc r ⟨rfl, hb, ry⟩
theorem KT.keeps {H H' : Hp} {kvs : List (List Key × V)} {xs : List (List Key × Addr × Value)} (r : KT H kvs xs) (ht : ∀ b ys, H b = some (.tup ys) -> H' b = some (.tup ys)) : KT H' kvs xs :=
  Paired.mapP r fun _ _ z => ⟨z.1, ht _ _ z.2.1, z.2.2⟩
section
variable {P : Program} {w : World} {H : Hp} {h : Heap} {a : Addr}
theorem rd_of {u : HO} (ok : HOk P w H h) (e : Rd H a u) : ObjOk P w H h a u := e.ok ok
theorem dk_rd {kvs : List (Key × V)} (ok : HOk P w H h) (e : Rd H a (.dK kvs)) : kvs.length <= sizeLine /\ (a == sysModules) = false /\ ∃ vs, KV kvs vs /\ h.DictOf (mixKind P w) a vs :=
  show ObjOk P w H h a (.dK kvs) from rd_of ok e
theorem dk_of {kvs : List (Key × V)} (ok : HOk P w H h) (e : H a = some (.dK kvs)) : kvs.length <= sizeLine /\ (a == sysModules) = false /\ ∃ vs, KV kvs vs /\ h.DictOf (mixKind P w) a vs := dk_rd ok (.inl e)
theorem key_of {ks : List Key} (ok : HOk P w H h) (e : H a = some (.tup (ks.map kV))) : (tupleKind (mixKind P w)).is h ks a := by
  refine hld fun g_ k_ => ?_; obtain ⟨_, its, r, o, h1, h2, n, h3⟩ := (show ObjOk P w H h a (.tup (ks.map kV)) from ok a _ e); refine k_ ?_
  exact ⟨o, its.toArray, n, h1, h2, h3, by simpa using items_are r⟩
theorem dt_rd {kvs : List (List Key × V)} (ok : HOk P w H h) (e : Rd H a (.dT kvs)) : kvs.length <= sizeLine /\ (a == sysModules) = false /\
    ∃ xs, KT H kvs xs /\ h.DictOfH (tupleKind (mixKind P w)) a xs := by
  refine hld fun g_ k_ => ?_; obtain ⟨z, y, xs, r, o, es, ep, h1, h2, h3, h4, h5⟩ := (show ObjOk P w H h a (.dT kvs) from rd_of ok e); refine k_ ?_
  refine ⟨z, y, xs, r, o, es, ep, h1, h2, h3, h4, fun x hx => ?_, h5⟩
  have all : ∀ {l : List (List Key × V)} {m : List (List Key × Addr × Value)}, KT H l m -> ∀ x ∈ m, (tupleKind (mixKind P w)).is h x.1 x.2.1 := by
    intro l m q
    induction q with
    | nil => intro x hx; exact nomatch hx
    | @cons p q ps qs hq t ih =>
      intro x hx
      rcases List.mem_cons.mp hx with e | hx
      . subst e
        exact key_of ok (by rw [<- hq.1]; exact hq.2.1)
      . exact ih x hx
  exact all r x hx
theorem dt_of {kvs : List (List Key × V)} (ok : HOk P w H h) (e : H a = some (.dT kvs)) : kvs.length <= sizeLine /\ (a == sysModules) = false /\
    ∃ xs, KT H kvs xs /\ h.DictOfH (tupleKind (mixKind P w)) a xs := dt_rd ok (.inl e)
end
def DGet (H : Hp) (a : Addr) (y : V) (r : Option V) : Prop :=
  (∃ kvs k, Rd H a (.dK kvs) /\ y = kV k /\ r = valV kvs k) \/ ∃ kvs k b, Rd H a (.dT kvs) /\ y = .ref b /\ H b = some (.tup (k.map kV)) /\ r = valV kvs k
def DPut (H : Hp) (a : Addr) (y v : V) (H' : Hp) : Prop :=
  (∃ kvs k, H a = some (.dK kvs) /\ y = kV k /\ kvs.length < sizeLine /\ H' = upd H a (.dK (putK kvs k v))) \/
  ∃ kvs k b, H a = some (.dT kvs) /\ y = .ref b /\ H b = some (.tup (k.map kV)) /\ kvs.length < sizeLine /\ H' = upd H a (.dT (putK kvs k v))
theorem DGet.k {H : Hp} {a : Addr} {kvs : List (Key × V)} {k : Key} (e : H a = some (.dK kvs)) : DGet H a (kV k) (valV kvs k) := .inl ⟨kvs, k, .inl e, rfl, rfl⟩
theorem DPut.k {H : Hp} {a : Addr} {kvs : List (Key × V)} {k : Key} {v : V} (e : H a = some (.dK kvs)) (hl : kvs.length < sizeLine) : DPut H a (kV k) v (upd H a (.dK (putK kvs k v))) := .inl ⟨kvs, k, e, rfl, hl, rfl⟩
section
variable {X : Cx} {pins : List (Addr × Obj)} {σ : St} {H : Hp} {s : Shared} {a : Addr} {y v : V} {u r : Value} {o : Option V} {A : Around} {E : Value -> Shared -> Prop}
theorem Inv.big (I : Inv X pins σ H s) : sysModules < s.heap.objs.size := by
  have h : mainGlobals < s.heap.objs.size := (I.mod.glob.keeps I.bk).lt; exact Nat.lt_trans (by decide) h
theorem d_getItem {Q : Value -> Shared -> Prop} (hu : A.units + 1 < cLine) (I : Inv X pins σ H s) (g : DGet H a y (some v)) (ry : RelV y u) (h : ∀ w' s', Inv X pins σ H s' -> RelV v w' -> Q w' s') :
    wpAny (model X.prog X.w) A (getItem (.ref a) u) Q E s := by
  rcases g with ⟨kvs, k, e, ey, l⟩ | ⟨kvs, k, b, e, ey, eb, l⟩
  . subst ey
    refine hld fun g_ k_ => ?_; obtain ⟨z, hd, vs, rel, dd⟩ := dk_rd I.hok e; refine k_ ?_; obtain ⟨w', hw, rw'⟩ := RelO.some_of (v := v) (o := valueAt vs k) (by rw [l]; exact rel.val k)
    exact wpAny_getItem_of (kV_is ry) dd.mapOf hw (h w' _ (I.tok _) rw')
  . subst ey
    cases (show u = Value.ref b from ry)
    refine hld fun g_ k_ => ?_; obtain ⟨z, hd, xs, rel, dd⟩ := dt_rd I.hok e; refine k_ ?_; obtain ⟨w', hw, rw'⟩ := RelO.some_of (v := v) (o := (atKey xs k).map (·.2)) (by rw [l]; exact rel.val k)
    obtain ⟨p, hp, hp2⟩ := Option.map_eq_some_iff.mp hw; refine wpAny_getItem_heap (tupleKind_room_in1 hu) (key_of I.hok eb) dd hp ?_; rw [hp2]; exact h w' _ (I.tok _) rw'
theorem d_notIn {Q : Value -> Shared -> Prop} (hu : A.units + 1 < cLine) (I : Inv X pins σ H s) (g : DGet H a y o) (ry : RelV y u) (h : ∀ s', Inv X pins σ H s' -> Q (.bool (!o.isSome)) s') :
    wpAny (model X.prog X.w) A (compareOp .NotIn u (.ref a)) Q E s := by
  rcases g with ⟨kvs, k, e, ey, l⟩ | ⟨kvs, k, b, e, ey, eb, l⟩
  . subst ey
    refine hld fun g_ k_ => ?_; obtain ⟨z, hd, vs, rel, dd⟩ := dk_rd I.hok e; refine k_ ?_; refine wpAny_notIn_of (kV_is ry) hd dd.mapOf ?_; rw [<- (rel.val k).isSome_eq, <- l]; exact h _ (I.tok _)
  . subst ey
    cases (show u = Value.ref b from ry)
    refine hld fun g_ k_ => ?_; obtain ⟨z, hd, xs, rel, dd⟩ := dt_rd I.hok e; refine k_ ?_; refine wpAny_notIn_heap (tupleKind_room_in1 hu) (key_of I.hok eb) hd dd ?_; have q := (rel.val k).isSome_eq; rw [Option.isSome_map] at q; rw [<- q, <- l]; exact h _ (I.tok _)
theorem d_write {h' : Heap} {t' : Nat} {ob : HO} (I : Inv X pins σ H s) (mu : Mut (H a)) (hs : Heap.SameBut a s.heap h') (he : ∃ q, h'.get? a = some q) (new : ObjOk X.prog X.w (upd H a ob) h' a ob) :
    Inv X pins σ (upd H a ob) { s with heap := h', toks := t' } :=
  I.write (x := a) (e := a) mu (.inl rfl) (fun b q hb z => (hs.2 b hb).trans z) he new
theorem dk_new {P : Program} {w : World} {H' : Hp} {h' : Heap} {kvs : List (Key × V)} {vs : List (Key × Value)} (z : kvs.length <= sizeLine) (hd : (a == sysModules) = false) (rel : KV kvs vs) (dd : h'.DictOf (mixKind P w) a vs) :
    ObjOk P w H' h' a (.dK kvs) := ⟨z, hd, vs, rel, dd⟩
theorem d_setItem {H' : Hp} {Q : Unit -> Shared -> Prop} (hu : A.units + 1 < cLine) (I : Inv X pins σ H s) (g : DPut H a y v H') (ry : RelV y u) (rv : RelV v r) (h : ∀ s', Inv X pins σ H' s' -> Q () s') :
    wpAny (model X.prog X.w) A (setItem (.ref a) u r) Q E s := by
  rcases g with ⟨kvs, k, e, ey, l, eH⟩ | ⟨kvs, k, b, e, ey, eb, l, eH⟩
  . subst ey eH
    refine hld fun g_ k_ => ?_; obtain ⟨z, hd, vs, rel, dd⟩ := dk_of I.hok e; refine k_ ?_; have hz : vs.length <= sizeLine := by rw [<- rel.length]; exact z
    have hl : (putK kvs k v).length <= sizeLine := by have := length_putK kvs k v; omega
    refine wpAny_setItem_pairs (hsz := hz) (kV_is ry) dd fun h' dd' hs => h _ ?_; have he : ∃ q, h'.get? a = some q := let ⟨q, _, _, hq, _⟩ := dd'; ⟨q, hq⟩; exact d_write I (by rw [e]; exact True.intro) hs he (dk_new hl hd (rel.put k rv) dd')
  . subst ey eH
    cases (show u = Value.ref b from ry)
    refine hld fun g_ k_ => ?_; obtain ⟨z, hd, xs, rel, dd⟩ := dt_of I.hok e; refine k_ ?_; have hz : xs.length <= sizeLine := by rw [<- Paired.length rel]; exact z
    have hl : (putK kvs k v).length <= sizeLine := by have := length_putK kvs k v; omega
    refine wpAny_setItem_heap (hsz := hz) (tupleKind_room_in1 hu) (key_of I.hok eb) dd fun h' dd' hs => h _ ?_; refine hld fun g_ k_ => ?_; obtain ⟨q, es, ep, hq, h2, h3, h4, _, h5⟩ := dd'; refine k_ ?_; refine d_write I (by rw [e]; exact True.intro) hs ⟨q, hq⟩ ⟨hl, hd, _, (rel.put k eb rv).keeps fun c ys ec => ?_, q, es, ep, hq, h2, h3, h4, h5⟩
    rw [upd_ne (ne_of ec e (fun z => nomatch z))]; exact ec
end
def NoSl (i : Expr) : Prop := ∀ ov iv, subscripted i false ov iv = operate [ov, iv] (getItem ov iv)
theorem subD_of {prog : Program} {w : World} {A : Around} {E : Value -> Shared -> Prop} {s : Shared} {env : Env} {value slice : Expr} {pos : Pos} {T id : String} {Q : Value -> Shared -> Prop}
    (hl : typeLookup (.type T) "__getitem__" = pure (some (.builtin id))) (hs : NoSl slice)
    (h : wpAny (model prog w) A (eval value env) (fun o s₁ => wpAny (model prog w) A (eval slice env) (fun i s₂ => s₂.TypeIs o T /\ wpAny (model prog w) A (getItem o i) Q E s₂) E s₁) E s) :
    wpAny (model prog w) A (eval (.Subscript value slice pos) env) Q E s := by
  refine Subscript_ (wpAny_mono h (fun o s₁ h₁ => wpAny_mono h₁ (fun i s₂ h₂ => ?_) fun _ _ x => x) fun _ _ x => x); obtain ⟨hT, h₂⟩ := h₂
  unfold subscriptTail
  refine wpAny_bind ?_; rw [getitemInPython_of_ne hT.not_modules]; refine wpAny_bind (wpAny_specialOf hT hl ?_)
  have fin : wpAny (model prog w) A (subscripted slice false o i) (fun r s₃ => wpAny (model prog w) A (letTemporaryGo value o r >>= fun _ => pure r) Q E s₃) E s₂ := by
    rw [hs o i]; exact wpAny_operating (wpAny_mono h₂ (fun r s₃ h₃ => wpAny_bind (wpAny_letTemporaryGo (wpAny_pure h₃))) fun _ _ x => x)
  first
    | exact wpAny_pure (wpAny_bind fin)
    | exact wpAny_bind (wpAny_pure (wpAny_bind fin))
    | exact wpAny_bind fin
theorem dict_typeIs {X : Cx} {pins : List (Addr × Obj)} {σ : St} {H : Hp} {s : Shared} {a : Addr} {y : V} {o : Option V} (I : Inv X pins σ H s) (g : DGet H a y o) : s.TypeIs (.ref a) "dict" := by
  rcases g with ⟨kvs, k, e, _, _⟩ | ⟨kvs, k, b, e, _, _, _⟩
  . obtain ⟨_, _, vs, _, dd⟩ := dk_rd I.hok e
    exact dd.typeIs
  . obtain ⟨_, _, xs, _, dd⟩ := dt_rd I.hok e
    exact dd.typeIs
def tDGet (td ty : TE) : TE := fun σ H Q => td σ H fun x H1 => ty σ H1 fun y H2 => ∃ a v, x = .ref a /\ DGet H2 a y (some v) /\ Q v H2
def tDNotIn (ty td : TE) : TE := fun σ H Q => ty σ H fun y H1 => td σ H1 fun x H2 => ∃ a o, x = .ref a /\ DGet H2 a y o /\ Q (.bl (!o.isSome)) H2
def sDPut (td ty tv : TE) : TS := fun D σ H => tv σ H fun v H1 => td σ H1 fun x H2 => ty σ H2 fun y H3 => ∃ a H4, x = .ref a /\ DPut H3 a y v H4 /\ D.nx σ H4
section
variable {X : Cx} {o i e value : Expr} {pos pos' tpos : Pos} {td ty tv : TE}
theorem pe_dget (hu : X.A.units + 1 < cLine) (ho : PE X o td) (hi : PE X i ty) (hs : NoSl i) : PE X (.Subscript o i pos) (tDGet td ty) := by
  intro pins s σ H Q I h; refine subD_of PySem.F.slot_dict_getitem.lookup hs (thn (ho pins s σ H _ I h) fun u s1 ⟨x, H1, I1, rx, q1⟩ => thn (hi pins s1 σ H1 _ I1 q1) fun iv s2 ⟨y, H2, I2, ry, a, v, ex, g, q2⟩ => ?_); subst ex; obtain rfl : u = Value.ref a := rx; exact ⟨dict_typeIs I2 g, d_getItem hu I2 g ry fun w' s3 I3 rw' => ⟨v, H2, I3, rw', q2⟩⟩
theorem pc_dnotin (hu : X.A.units + 1 < cLine) (hi : PE X i ty) (ho : PE X o td) : PC X .NotIn i o (tDNotIn ty td) := by
  intro pins s σ H Q I h; refine thn (hi pins s σ H _ I h) fun iv s1 ⟨y, H1, I1, ry, q1⟩ => thn (ho pins s1 σ H1 _ I1 q1) fun u s2 ⟨x, H2, I2, rx, a, ov, ex, g, q2⟩ => ?_; subst ex; obtain rfl : u = Value.ref a := rx; exact d_notIn hu I2 g ry fun s3 I3 => ⟨.bl (!ov.isSome), H2, I3, rfl, q2⟩
theorem ps_dput (hu : X.A.units + 1 < cLine) (ho : PE X o td) (hi : PE X i ty) (hv : PE X value tv) (hs : swapsWith value (some (.Subscript o i pos')) pos.line X.env = pure false) :
    PS X (.Assign [.Subscript o i pos'] value pos) (sDPut td ty tv) := by
  intro pins s σ H D I h; refine wpAny_Assign_Subscript (thn (hv pins s σ H _ I h) fun r s1 ⟨v, H1, I1, rv, q1⟩ => thn (ho pins s1 σ H1 _ I1 q1) fun u s2 ⟨x, H2, I2, rx, q2⟩ => thn (hi pins s2 σ H2 _ I2 q2) fun iv s3 ⟨y, H3, I3, ry, a, H4, ex, g, q3⟩ => ?_) hs; subst ex; obtain rfl : u = Value.ref a := rx; exact d_setItem hu I3 g ry rv fun s4 I4 => ⟨σ, H4, I4, q3⟩
end
theorem dk_empty {P : Program} {w : World} {H : Hp} (h : Heap) (hb : sysModules < h.objs.size) : ObjOk P w H (h.push { cls := .type "dict", data := .dict #[] }) h.objs.size (.dK []) :=
  ⟨Nat.zero_le _, beq_eq_false_iff_ne.mpr (Ne.symm (Nat.ne_of_lt hb)), [], .nil, Heap.DictOf.new h⟩
def tDNewK : TE := fun _ H Q => ∀ p, H p = none -> Q (.ref p) (upd H p (.dK []))
section
variable {X : Cx} {pos : Pos}
theorem pe_dnewK : PE X (.Dict [] [] pos) tDNewK := fun pins s σ H Q I h =>
  wpAny_Dict_empty ⟨.ref s.heap.objs.size, _, I.laid (a := s.heap.objs.size) (o := .dK []) (t' := s.toks) (fun _ _ q => Heap.get?_push_of_some _ q) (Nat.le_refl _) (dk_empty s.heap I.big), rfl, h _ (I.hok.fresh (Nat.le_refl _))⟩
end
def tPairs : List (TE × TE) -> St -> Hp -> (List (V × V) -> Hp -> Prop) -> Prop
  | [], _, H, Q => Q [] H
  | (tk, tv) :: r, σ, H, Q => tk σ H fun x H1 => tv σ H1 fun y H2 => tPairs r σ H2 fun ps H3 => Q ((x, y) :: ps) H3
abbrev VV : List (V × V) -> List (Value × Value) -> Prop := Paired fun p q => RelV p.1 q.1 /\ RelV p.2 q.2
def PPs (X : Cx) (pos : Pos) (keys : List (Option Expr)) (values : List Expr) (trs : List (TE × TE)) : Prop :=
  ∀ (pins : List (Addr × Obj)) (s : Shared) (σ : St) (H : Hp) (Q : List (V × V) -> Hp -> Prop), Inv X pins σ H s -> tPairs trs σ H Q ->
    wpAny (model X.prog X.w) X.A (evalPairs (pairTrees keys values X.env pos)) (fun vs s' => ∃ ps H', Inv X pins σ H' s' /\ VV ps vs /\ Q ps H') X.xe s
theorem pps_nil {X : Cx} {pos : Pos} : PPs X pos [] [] [] := fun pins s σ H Q I h => pairTrees_nil_walk ⟨[], H, I, .nil, h⟩
theorem pps_cons {X : Cx} {pos : Pos} {k v : Expr} {ks : List (Option Expr)} {vs : List Expr} {tk tv : TE} {trs : List (TE × TE)} (hk : PE X k tk) (hv : PE X v tv) (hr : PPs X pos ks vs trs) :
    PPs X pos (some k :: ks) (v :: vs) ((tk, tv) :: trs) := fun pins s σ H Q I h =>
  pairTrees_cons_walk (thn (hk pins s σ H _ I h) fun u s1 ⟨x, H1, I1, rx, q1⟩ => thn (hv pins s1 σ H1 _ I1 q1) fun w2 s2 ⟨y, H2, I2, ry, q2⟩ =>
    thn (hr pins s2 σ H2 _ I2 q2) fun ws s3 ⟨ps, H3, I3, rel, q3⟩ => ⟨(x, y) :: ps, H3, I3, .cons ⟨rx, ry⟩ rel, q3⟩)
def mergeK (kvs more : List (Key × V)) : List (Key × V) := more.foldl (fun acc kv => putK acc kv.1 kv.2) kvs
theorem KV.merge : ∀ {more : List (Key × V)} {rs : List (Key × Value)} {kvs : List (Key × V)} {vs : List (Key × Value)}, KV more rs -> KV kvs vs -> KV (mergeK kvs more) (merged vs rs) := by
  intro more rs kvs vs r
  unfold KV at r
  induction r generalizing kvs vs with
  | nil => intro q; exact q
  | @cons p q ps qs h t ih =>
    intro r0
    have e : KV (putK kvs p.1 p.2) (stored vs q.1 q.2) := by
      have := r0.put p.1 h.2; rw [<- h.1]; exact this
    exact ih e
theorem length_mergeK : ∀ (more kvs : List (Key × V)), (mergeK kvs more).length <= kvs.length + more.length
  | [], kvs => by show kvs.length <= kvs.length + 0; omega
  | p :: r, kvs => by
    have h1 := length_mergeK r (putK kvs p.1 p.2); have h2 := length_putK kvs p.1 p.2
    show (mergeK (putK kvs p.1 p.2) r).length <= _
    rw [List.length_cons]; omega
theorem carries_of {P : Program} {w : World} : ∀ {kvs : List (Key × V)} {ws : List (Value × Value)}, VV (kvs.map fun kv => (kV kv.1, kv.2)) ws -> ∃ rs, Carries (mixKind P w) ws rs /\ KV kvs rs
  | [], _, r => by rw [List.map_nil] at r; cases r; exact ⟨[], True.intro, .nil⟩
  | p :: kvs, _, r => by
    rw [List.map_cons] at r
    cases r with
    | @cons a b as bs h t =>
      obtain ⟨rs, c, q⟩ := carries_of (P := P) (w := w) t; obtain ⟨b1, b2⟩ := b; exact ⟨(p.1, b2) :: rs, ⟨kV_is h.1, rfl, c⟩, .cons ⟨rfl, h.2⟩ q⟩
def tDisp (trs : List (TE × TE)) : TE := fun σ H Q => ∀ p, H p = none -> tPairs trs σ (upd H p (.dK [])) fun ps H2 => H2 p = some (.dK []) /\ ∃ kvs : List (Key × V), ps = kvs.map (fun kv => (kV kv.1, kv.2)) /\ kvs.length <= 15 /\ Q (.ref p) (upd H2 p (.dK (mergeK [] kvs)))
theorem pe_disp {X : Cx} {pos : Pos} {keys : List (Option Expr)} {values : List Expr} {trs : List (TE × TE)} (h : PPs X pos keys values trs) (hall : keys.all (·.isSome) = true) (hl : keys.length = values.length) (h0 : keys ≠ [])
    (h15 : keys.length <= 15) : PE X (.Dict keys values pos) (tDisp trs) := by
  intro pins s σ H Q I q; have hn := I.hok.fresh (Nat.le_refl s.heap.objs.size); have I1 := I.laid (a := s.heap.objs.size) (o := .dK []) (h' := s.heap.push { cls := .type "dict", data := .dict #[] }) (t' := s.toks) (fun _ _ q => Heap.get?_push_of_some _ q) (Nat.le_refl _) (dk_empty s.heap I.big); refine wpAny_Dict_walk (knd := mixKind X.prog X.w) hall hl h0 h15 (thn (h pins _ σ _ _ I1 (q _ hn)) fun ws s2 ⟨ps, H2, I2, rel, e, kvs, ep, lk, q2⟩ => ?_); subst ep; obtain ⟨rs, c, rk⟩ := carries_of (P := X.prog) (w := X.w) rel; refine hld fun g_ k_ => ?_; obtain ⟨z, hd, vs0, r0, dd⟩ := dk_of I2.hok e; refine k_ ?_
  cases r0
  refine ⟨rs, c, dd, fun h' dd' hs => ⟨.ref s.heap.objs.size, _, ?_, rfl, q2⟩⟩
  have hz : (mergeK [] kvs).length <= sizeLine := by
    have h1 := length_mergeK kvs []; rw [List.length_nil] at h1; rw [sizeLine_eq]; omega
  have he : ∃ q, h'.get? s.heap.objs.size = some q := let ⟨q, _, _, hq, _⟩ := dd'; ⟨q, hq⟩; exact d_write I2 (by rw [e]; exact True.intro) hs he (dk_new hz hd (rk.merge .nil) dd')
structure M1 (X : Cx) (o : Expr) (m : Str) (apos : Pos) (e : Expr) (cpos : Pos) : Prop where
  base : attributeBase o m X.env (eval o X.env) = eval o X.env
  few : ((backTo cpos (starEach [e] X.env)).all (fun x => !x.1) && (backToKw cpos (keywordEach [] X.env)).all (fun x => x.1.isSome)
    && decide (([e] : List Expr).length + ([] : List Keyword).length + (if ([] : List Keyword).isEmpty then 0 else 1) < 30)) = true
  line : (apos.endLine == cpos.line) = true
  trees : backTo cpos (starEach [e] X.env) = [(false, eval e X.env)]
structure M2 (X : Cx) (o : Expr) (m : Str) (apos : Pos) (e f : Expr) (cpos : Pos) : Prop where
  base : attributeBase o m X.env (eval o X.env) = eval o X.env
  few : ((backTo cpos (starEach [e, f] X.env)).all (fun x => !x.1) && (backToKw cpos (keywordEach [] X.env)).all (fun x => x.1.isSome)
    && decide (([e, f] : List Expr).length + ([] : List Keyword).length + (if ([] : List Keyword).isEmpty then 0 else 1) < 30)) = true
  line : (apos.endLine == cpos.line) = true
  trees : backTo cpos (starEach [e, f] X.env) = [(false, eval e X.env), (false, eval f X.env)]
def IsD (H : Hp) (a : Addr) : Prop := (∃ kvs, Rd H a (.dK kvs)) \/ ∃ kvs, Rd H a (.dT kvs)
theorem isD_at {X : Cx} {pins : List (Addr × Obj)} {σ : St} {H : Hp} {s : Shared} {a : Addr} (I : Inv X pins σ H s) (d : IsD H a) :
    s.TypeIs (.ref a) "dict" /\ (∀ b, Value.ref a = .ref b -> ∃ ob, s.heap.get? b = some ob /\ ob.dict = none) /\ (a == sysModules) = false := by
  rcases d with ⟨kvs, e⟩ | ⟨kvs, e⟩
  . obtain ⟨_, hd, vs, _, dd⟩ := dk_rd I.hok e
    refine ⟨dd.typeIs, fun b q => ?_, hd⟩
    cases q
    refine hld fun g_ k_ => ?_; obtain ⟨ob, _, _, h1, h2, _⟩ := dd; refine k_ ?_; exact ⟨ob, h1, h2.2.1⟩
  . obtain ⟨_, hd, xs, _, dd⟩ := dt_rd I.hok e
    refine ⟨dd.typeIs, fun b q => ?_, hd⟩
    cases q
    refine hld fun g_ k_ => ?_; obtain ⟨ob, _, _, h1, h2, _⟩ := dd; refine k_ ?_; exact ⟨ob, h1, h2.2.1⟩
section
variable {X : Cx} {pins : List (Addr × Obj)} {σ : St} {H : Hp} {s : Shared} {a : Addr} {y d : V} {u r : Value} {o : Option V} {A : Around} {E : Value -> Shared -> Prop}
theorem d_get2 {Q : Value -> Shared -> Prop} (hu : A.units + 1 < cLine) (I : Inv X pins σ H s) (g : DGet H a y o) (ry : RelV y u) (rd : RelV d r) (h : ∀ w' s', Inv X pins σ H s' -> RelV (o.getD d) w' -> Q w' s') :
    wpAny (model X.prog X.w) A (call (.builtin "dict.get") [.ref a, u, r]) Q E s := by
  rcases g with ⟨kvs, k, e, ey, l⟩ | ⟨kvs, k, b, e, ey, eb, l⟩
  . subst ey
    refine hld fun g_ k_ => ?_; obtain ⟨z, hd, vs, rel, dd⟩ := dk_rd I.hok e; refine k_ ?_; refine call_meetsIn PySem.F.slot_dict_get dd.typeIs PySem.F.entry_dict_get (PySem.F.args_dict_get_3 _ _ _) (meets_dict_get_default (mixKind X.prog X.w) a (kV_is ry) hd r) ⟨_, dd.mapOf, h _ _ (I.tok _) ?_⟩; rw [l]; exact (rel.val k).getD rd
  . subst ey
    cases (show u = Value.ref b from ry)
    refine hld fun g_ k_ => ?_; obtain ⟨z, hd, xs, rel, dd⟩ := dt_rd I.hok e; refine k_ ?_; refine call_meetsIn PySem.F.slot_dict_get dd.typeIs PySem.F.entry_dict_get (PySem.F.args_dict_get_3 _ _ _) (meetsH_dict_get_default (tupleKind (mixKind X.prog X.w)) a b hd r) ⟨tupleKind_room_in1 hu, k, xs, key_of I.hok eb, dd, h _ _ (I.tok _) ?_⟩; rw [l]; exact (rel.val k).getD rd
end
def tDGet2 (td ty tx : TE) : TE := fun σ H Q => td σ H fun x H1 => ∃ a, x = .ref a /\ IsD H1 a /\ ty σ H1 fun y H2 => tx σ H2 fun z H3 => ∃ o, DGet H3 a y o /\ Q (o.getD z) H3
section
variable {X : Cx} {o e f : Expr} {apos cpos : Pos} {td ty tx : TE}
theorem pe_dget2 (hu : X.A.units + 1 < cLine) (ho : PE X o td) (he : PE X e ty) (hf : PE X f tx) (m : M2 X o "get" apos e f cpos) : PE X (.Call (.Attribute o "get" apos) [e, f] [] cpos) (tDGet2 td ty tx) := by
  intro pins s σ H Q I h; refine wpAny_Call_method m.base m.few m.line PySem.F.plainAttrs_dict PySem.F.slot_dict_get PySem.F.type_dict_get (thn (ho pins s σ H _ I h) fun u s1 ⟨x, H1, I1, rx, a, ex, d, q1⟩ => ?_); subst ex; obtain rfl : u = Value.ref a := rx; obtain ⟨t1, t2, _⟩ := isD_at I1 d; refine ⟨t1, t2, ?_⟩; rw [m.trees]
  refine Calls.callWith_builtin rfl (Calls.evalArgs_plain (Calls.spliced_cons (thn (he pins s1 σ H1 _ I1 q1) fun iv s2 ⟨y, H2, I2, ry, q2⟩ =>
    Calls.spliced_cons (thn (hf pins s2 σ H2 _ I2 q2) fun fv s3 ⟨z, H3, I3, rz, ov, g, q3⟩ => Calls.spliced_nil ?_))))
  exact d_get2 hu I3 g ry rz fun w' s4 I4 rw' => ⟨_, H3, I4, rw', q3⟩
end
end L2
namespace L2
open PySem PySem.Spec PyProof.Rows
end L2
namespace PySem
section
variable {prog : Program} {w : World} {K : Type} [DecidableEq K] {knd : KeyKind prog w K} {A : Around} {E : Value -> Shared -> Prop} {s : Shared}
theorem setdef_pairs {d : Addr} {kvs : List (K × Value)} {k : K} {key df : Value} {Q : Value -> Shared -> Prop} (hkey : knd.is k key = true) (hm : s.heap.DictOf knd d kvs) (hsz : kvs.length <= sizeLine)
    (old : ∀ v, valueAt kvs k = some v -> Q v { s with toks := s.toks + 1 })
    (new : valueAt kvs k = none -> ∀ h', h'.DictOf knd d (kvs ++ [(k, df)]) -> Heap.SameBut d s.heap h' -> Q df { s with heap := h', toks := s.toks + 1 }) : wpAny (model prog w) A (dictSetDefault d key df) Q E s := by
  have hmap := hm.mapOf; refine hld fun g_ k_ => ?_; obtain ⟨o, es, ep, ho, hc, hd, hk, hp, hn⟩ := hm; refine k_ ?_
  have hes : es.size <= sizeLine := by
    have e1 := hp.length; have e2 : es.toList.length = es.size := by simp
    omega
  unfold dictSetDefault
  try with_reducible refine wpAny_holding ?_
  refine wpAny_bind (knd.pyHash hkey ?_); refine wpAny_bind (wpAny_dictFind_of (s := { s with toks := s.toks + 1 }) hkey ho hd hk ?_)
  have hidx : (es.findIdx? fun e => knd.is k e.key) = kvs.findIdx? fun kv => decide (kv.1 = k) := by
    rw [<- hp.findIdx k]; obtain ⟨l⟩ := es; simp
  have hfind : valueAt kvs k = (es.findIdx? fun e => knd.is k e.key).bind fun i => (es[i]?).map (·.val) := by
    refine hld fun g_ k_ => ?_; obtain ⟨o', es', ep', ho', _, hd', _, hf'⟩ := hmap; refine k_ ?_; rw [ho] at ho'
    cases ho'
    rw [hd] at hd'
    cases hd'
    rw [<- hf' k, findBy_of_findIdx?]
    cases es.findIdx? fun e => knd.is k e.key <;> rfl
  cases hi : es.findIdx? fun e => knd.is k e.key with
  | some i =>
    rw [hi] at hfind; refine wpAny_bind (wpAny_dictEntries (s := { s with toks := s.toks + 1 }) ho hd ?_)
    have hlt : i < es.size := (Array.findIdx?_eq_some_iff_findIdx_eq.mp hi).1; have he : es[i]? = some es[i] := Array.getElem?_eq_getElem hlt; rw [he]; exact wpAny_bind (wpAny_rule (wpAny_pure (old _ (by rw [hfind]; show (es[i]?).map _ = _; rw [he]; rfl))))
  | none =>
    rw [hi] at hfind; have hnot : k ∉ kvs.map (·.1) := not_mem_of_findIdx_none (hidx ▸ hi)
    refine wpAny_bind (wpAny_rule (wpAny_bind (wpAny_updateDictKeys (hz := hes) (s := { s with toks := s.toks + 1 }) ho hd (wpAny_pure (new hfind _ ⟨_, _, ep + 1, Heap.get?_update_self _ ho (Obj.isFreed_of_dict (Obj.data_mapDictKeys hd _)),
      hc.mapDictKeys _, Obj.data_mapDictKeys hd _, hk.push hkey _, ?_, ?_⟩ (Heap.SameBut.update ..))))))
    . have := hp.append hkey (knd.hash k) df
      obtain ⟨l⟩ := es
      simpa using this
    . rw [List.map_append, List.nodup_append]
      refine ⟨hn, by simp, fun a ha b hb e => ?_⟩
      have hb' : b = k := by simpa using hb
      exact hnot (hb' ▸ e ▸ ha)
theorem meets_setdef (hkd : K -> Value -> Bool) {d : Addr} {k : K} {key df : Value} (hkey : knd.is k key = true) (hd : (d == sysModules) = false) :
    MeetsIn prog w (Builtin.«dict.setdefault» ⟨[.ref d, key, df], []⟩) (fun _ R s => ∃ kvs, s.heap.DictOf knd d kvs /\ kvs.length <= sizeLine /\ (∀ v, valueAt kvs k = some v -> R (.ok (.ret v)) { s with toks := s.toks + 1 }) /\
      (valueAt kvs k = none -> ∀ h', h'.DictOf knd d (kvs ++ [(k, df)]) -> Heap.SameBut d s.heap h' -> R (.ok (.ret df)) { s with heap := h', toks := s.toks + 1 })) :=
  .of_wp fun A R s ⟨kvs, hm, hsz, h1, h2⟩ => by
    unfold Builtin.«dict.setdefault»
    refine wpAny_bind ?_
    unfold Builtin.Dict.keyAndDefault
    refine wpAny_bind (wpAny_notOrdered_dict hm.typeIs ?_)
    show wpAny _ _ (pure (d, key, some df)) _ _ s
    refine wpAny_pure ?_
    show wpAny _ _ (if (d == sysModules) = true then _ else (dictSetDefault d key df >>= _)) _ _ s
    rw [if_neg (by rw [hd]; exact Bool.false_ne_true)]
    exact wpAny_bind (setdef_pairs hkey hm hsz (fun v hv => wpAny_pure ⟨v, rfl, h1 v hv⟩) fun hn h' hm' hs' => wpAny_pure ⟨df, rfl, h2 hn h' hm' hs'⟩)
theorem vw_len : typeLookup (.type "dict_values") "__len__" = pure (some (.builtin "dict_values.__len__")) := by rw [typeLookup_type, builtinLookup_eq_fast]; kernel_rfl
theorem vw_self : isSubtype (.type "dict_values") (.type "dict_values") = pure true := by rw [isSubtype_type]; kernel_rfl
theorem hint_values {v d : Addr} {Q : Bool -> Shared -> Prop} (hv : s.heap.IsValuesView v d) (h : Q false s) : wpAny (model prog w) A (Builtin.List.listLengthHint (.ref v)) Q E s := by
  unfold Builtin.List.listLengthHint
  refine wpAny_bind (wpAny_specialOf hv.typeIs vw_len ?_); generalize hid : ("dict_values.__len__" : String) = id0
  wp_delta
  rw [show splitId id0 = some ("dict_values", "__len__") from by subst hid; decide +kernel]
  subst hid; refine wpAny_bind (wpAny_isInstance (T := "dict_values") (b := true) hv.typeIs vw_self ?_); refine wpAny_ite_split (fun hab => absurd hab (by decide)) (fun _ => ?_)
  refine wpAny_ite_split (fun _ => ?_) (fun hab => absurd (by decide +kernel) hab)
  refine wpAny_bind (wpAny_typeOf hv.typeIs ?_); exact wpAny_pure h
theorem items_values {kvs : List (K × Value)} {acc : Array Value} (h : ItemsOf (fun i v => ∃ k, kvs[i]? = some (k, v)) acc kvs.length) : acc = (kvs.map (·.2)).toArray := by
  refine Array.ext (by have := h.1; simpa using this) fun j h1 h2 => ?_
  obtain ⟨k, hk⟩ := h.2 j acc[j] (Array.getElem?_eq_getElem h1); have : (kvs.map (·.2))[j]? = some acc[j] := by rw [List.getElem?_map, hk]; rfl
  rw [List.getElem_toArray]; have h3 : j < (kvs.map (·.2)).length := by simpa using h2
  rw [List.getElem?_eq_getElem h3] at this; exact (Option.some.inj this).symm
theorem extend_values {R : Result -> Shared -> Prop} {v d : Addr} {kvs : List (K × Value)} (hh : A.handled = none) (hv : s.heap.IsValuesView v d) (hm : s.heap.DictOf knd d kvs) (hlen : kvs.length <= 2 ^ 20)
    (S : Addr) (res : Value) (c₀ : Nat) (hS : s.heap.get? S = some { cls := .type "list", data := .seq #[] c₀ })
    (hR : ∀ h' tk c', (∀ b o, b ≠ S -> s.heap.get? b = some o -> h'.get? b = some o) -> h'.get? S = some { cls := .type "list", dict := none, data := .seq (kvs.map (·.2)).toArray c', slots := #[] } -> R (.ok (.ret res)) { s with heap := h', toks := tk }) :
    wpAny (model prog w) A.in1 (Builtin.List.listExtendWith (.ref S) (.ref v) res)
      (fun fin s' => match fin with | .done f => R (.ok f) s' | .again c' => c'.quiet = true /\ codeAny (model prog w) A c' R s') (fun e s' => R (.error e) s') s := by
  obtain ⟨ep, hm⟩ := hm.dictAt
  have hSv : S ≠ v := fun e => by
    obtain ⟨o, ho, hc, _⟩ := hv; rw [e, ho] at hS
    cases hS
    exact absurd hc (by simp)
  have hSd : S ≠ d := fun e => by
    refine hld fun g_ k_ => ?_; obtain ⟨o, es, ho, hc, hd, _⟩ := hm; refine k_ ?_; rw [e, ho] at hS
    cases hS
    cases hd
  have hSl : S < s.heap.objs.size := Heap.lt_size hS; have hdl : d < s.heap.objs.size := hm.lt_size
  unfold Builtin.List.listExtendWith
  refine wpAny_bind (wpAny_typeOf (T := "dict_values") hv.typeIs ?_); have h1 : Builtin.List.listSameRef (.ref S) (.ref v) = false := by simp [Builtin.List.listSameRef, hSv]
  have h2 : (Value.type "dict_values" == Value.type "list") = false := by decide
  have h3 : (Value.type "dict_values" == Value.type "tuple") = false := by decide
  simp only [h1, h2, h3, Bool.or_false, Bool.false_eq_true, if_false]
  refine wpAny_bind (wpAny_pyIter_values hv hm ?_); have kp : ∀ b o, s.heap.get? b = some o -> (s.heap.push { cls := .type "dict_valueiterator", data := .fields #[.ref d, .int 0 0, .int kvs.length 0, .int ep 0] }).get? b = some o := fun b o e => Heap.get?_push_of_some _ e
  have hv1 : (s.heap.push { cls := .type "dict_valueiterator", data := .fields #[.ref d, .int 0 0, .int kvs.length 0, .int ep 0] }).IsValuesView v d := by
    obtain ⟨o, ho, r⟩ := hv; exact ⟨o, kp _ _ ho, r⟩
  refine wpAny_bind (wpAny_holding (hint_values hv1 ?_)); refine wpAny_ite_split (fun _ => ?_) (fun hab => absurd (by decide +kernel) hab)
  refine wpAny_bind (wpAny_rule ?_); have hSp := kp _ _ hS
  unfold Builtin.List.listTouch
  refine wpAny_bind (wpAny_bind (PyProof.Rows.listUpdate_at hSp rfl ?_)); have hS2 := PyProof.Rows.get?_update_seq (c := "list") hSp (fun y => y.push Value.none); refine PyProof.Rows.listUpdate_at hS2 rfl ?_; have hS3 := PyProof.Rows.get?_update_seq (c := "list") hS2 (fun y => y.pop); generalize hH : (((s.heap.push { cls := .type "dict_valueiterator", data := .fields #[.ref d, .int 0 0, .int kvs.length 0, .int ep 0] }).update S (Obj.mapSeq fun y => y.push Value.none)).update S (Obj.mapSeq fun y => y.pop)) = hp at hS3
  have oth : ∀ b o, b ≠ S -> (s.heap.push { cls := .type "dict_valueiterator", data := .fields #[.ref d, .int 0 0, .int kvs.length 0, .int ep 0] }).get? b = some o -> hp.get? b = some o := fun b o hb e => by
    rw [<- hH]; exact (Heap.get?_update_other _ _ (Ne.symm hb)).trans ((Heap.get?_update_other _ _ (Ne.symm hb)).trans e)
  have hit : hp.IsValIter s.heap.objs.size d 0 kvs.length ep := ⟨_, oth _ _ (Nat.ne_of_gt hSl) (Heap.get?_push_size _ rfl), rfl, rfl⟩
  have hdp : hp.DictAt knd d kvs ep := by
    obtain ⟨o, es, ho, r⟩ := hm; exact ⟨o, es, oth _ _ (Ne.symm hSd) (kp _ _ ho), r⟩
  have W := (Walks.dictValues (prog := prog) (w := w) (knd := knd) (A := A.in1) hh s.heap.objs.size d (Nat.ne_of_lt hdl) kvs ep).toS; refine wpAny_pure ⟨plainId_quiet F.plain_extend_loop _, ?_⟩; refine codeAny_extend_loopS W (by rw [sizeLine_eq]; omega) S (by simp [Nat.ne_of_lt hSl, hSd]) res kvs.length 0 { s with heap := hp } #[] _ rfl (Nat.zero_le _) ⟨hit, hdp⟩ hS3 (ItemsOf.nil _) fun s' acc' c' hmv hS' hacc => ?_
  rw [Moved.eq_with hmv]; rw [items_values hacc] at hS'; exact hR s'.heap s'.toks c' (fun b o hb e => hmv.heap b o (by simp [hb, Nat.ne_of_lt (Heap.lt_size e)]) (oth b o hb (kp b o e))) hS'
theorem call_list_values {Q : Value -> Shared -> Prop} {v d : Addr} {kvs : List (K × Value)} (hh : A.handled = none) (hv : s.heap.IsValuesView v d) (hm : s.heap.DictOf knd d kvs) (hlen : kvs.length <= 2 ^ 20)
    (hQ : ∀ h' tk c', (∀ b o, s.heap.get? b = some o -> h'.get? b = some o) -> h'.get? s.heap.objs.size = some { cls := .type "list", dict := none, data := .seq (kvs.map (·.2)).toArray c', slots := #[] } -> Q (.ref s.heap.objs.size) { s with heap := h', toks := tk }) :
    wpAny (model prog w) A (call (.type "list") [.ref v]) Q E s := by
  refine callType_codes (Q₁ := fun obj s₁ => obj = .ref s.heap.objs.size /\ s₁ = { s with heap := s.heap.push { cls := .type "list", data := .seq #[] } }) F.called_list (F.typeCall_list_1 _) F.entry_list_init
    (code_list_new _ ⟨rfl, rfl⟩) fun obj s₁ h₁ => ?_
  obtain ⟨rfl, rfl⟩ := h₁; have hS : (s.heap.push { cls := .type "list", data := .seq #[] }).get? s.heap.objs.size = some { cls := .type "list", data := .seq #[] } := Heap.get?_push_size _ rfl; refine ⟨⟨_, hS, rfl⟩, F.args_list_init_2 _ _, ?_⟩
  show wpAny _ _ (do let old <- Builtin.List.listItems (.ref s.heap.objs.size); Builtin.List.listUpdate (.ref s.heap.objs.size) (fun _ => #[]); letGo old.toList.reverse; Builtin.List.listExtendWith (.ref s.heap.objs.size) (.ref v) .none) _ _ _
  refine wpAny_bind (PyProof.Rows.listItems_at hS rfl ?_); refine wpAny_bind (PyProof.Rows.listUpdate_at hS rfl ?_); have hS₂ := Heap.get?_update_self (Obj.mapSeq (fun _ => (#[] : Array Value))) hS rfl
  have oth : ∀ b o, s.heap.get? b = some o -> ((s.heap.push { cls := .type "list", data := .seq #[] }).update s.heap.objs.size (Obj.mapSeq (fun _ => (#[] : Array Value)))).get? b = some o :=
    fun b o e => (Heap.get?_update_other _ _ (Nat.ne_of_gt (Heap.lt_size e))).trans (Heap.get?_push_of_some _ e)
  refine wpAny_bind (wpAny_letGo ?_); refine extend_values (A := A.in1) hh (by obtain ⟨o, ho, r⟩ := hv; exact ⟨o, oth _ _ ho, r⟩) (by obtain ⟨o, es, ep, ho, r⟩ := hm; exact ⟨o, es, ep, oth _ _ ho, r⟩) hlen _ .none _ hS₂ fun h' tk c' hk hS' => ?_
  exact ⟨rfl, hQ h' tk c' (fun b o e => hk b o (Nat.ne_of_lt (Heap.lt_size e)) (oth b o e)) hS'⟩
end
end PySem
namespace L2
open PySem PySem.Spec PyProof.Rows
section
variable {X : Cx} {o e f : Expr} {td ty tx : TE} {apos cpos p pos : Pos}
def tDSetDef (td ty tx : TE) : TE := fun σ H Q => td σ H fun x H1 => ∃ a, x = .ref a /\ IsD H1 a /\ ty σ H1 fun y H2 => tx σ H2 fun z H3 => ∃ kvs k, H3 a = some (.dK kvs) /\ y = kV k /\ kvs.length < sizeLine /\
  (∀ v, valV kvs k = some v -> Q v H3) /\ (valV kvs k = none -> Q z (upd H3 a (.dK (kvs ++ [(k, z)]))))
theorem paired_snoc {α β : Type} {F : α -> β -> Prop} {a : α} {b : β} (h : F a b) : ∀ {l : List α} {m : List β}, Paired F l m -> Paired F (l ++ [a]) (m ++ [b])
  | _, _, .nil => .cons h .nil
  | _, _, .cons r t => .cons r (paired_snoc h t)
theorem RelO.to_none {o : Option V} (r : RelO o none) : o = none := by
  cases o with
  | none => rfl
  | some v => exact (show False from r).elim
theorem RelO.to_some {o : Option V} {u : Value} (r : RelO o (some u)) : ∃ v, o = some v /\ RelV v u := by
  cases o with
  | none => exact (show False from r).elim
  | some v => exact ⟨v, rfl, r⟩
theorem pe_dsetdef (ho : PE X o td) (he : PE X e ty) (hf : PE X f tx) (m : M2 X o "setdefault" apos e f cpos) : PE X (.Call (.Attribute o "setdefault" apos) [e, f] [] cpos) (tDSetDef td ty tx) := by
  intro pins s σ H Q I h; refine wpAny_Call_method m.base m.few m.line PySem.F.plainAttrs_dict PySem.F.slot_dict_setdefault PySem.F.type_dict_setdefault (thn (ho pins s σ H _ I h) fun u s1 ⟨x, H1, I1, rx, a, ex, d, q1⟩ => ?_); subst ex; obtain rfl : u = Value.ref a := rx; obtain ⟨t1, t2, _⟩ := isD_at I1 d; refine ⟨t1, t2, ?_⟩; rw [m.trees]
  refine Calls.callWith_builtin rfl (Calls.evalArgs_plain (Calls.spliced_cons (thn (he pins s1 σ H1 _ I1 q1) fun iv s2 ⟨y, H2, I2, ry, q2⟩ =>
    Calls.spliced_cons (thn (hf pins s2 σ H2 _ I2 q2) fun fv s3 ⟨z, H3, I3, rz, kvs, k, ea, ey, hl, q3, q4⟩ => Calls.spliced_nil ?_))))
  subst ey; refine hld fun g_ k_ => ?_; obtain ⟨zl, hd, vs, rel, dd⟩ := dk_of I3.hok ea; refine k_ ?_; refine call_meetsIn PySem.F.slot_dict_setdefault dd.typeIs PySem.F.entry_dict_setdefault (PySem.F.args_dict_setdefault_3 _ _ _) (meets_setdef (knd := mixKind X.prog X.w) (fun _ _ => true) (kV_is ry) hd) ⟨vs, dd, by rw [<- rel.length]; exact zl, fun v hv => ?_, fun hn h' dd' hs => ?_⟩
  . have rk := rel.val k
    rw [hv] at rk; obtain ⟨v', ev, rv⟩ := rk.to_some; exact ⟨v', H3, I3.tok _, rv, q3 v' ev⟩
  . have rk := rel.val k
    rw [hn] at rk; have hex : ∃ q, h'.get? a = some q := let ⟨q, _, _, hq, _⟩ := dd'; ⟨q, hq⟩; refine ⟨z, _, d_write (t' := s3.toks + 1) I3 (by rw [ea]; exact True.intro) hs hex (dk_new (by rw [List.length_append, List.length_singleton]; omega) hd (paired_snoc ⟨rfl, rz⟩ rel) dd'), rz, q4 rk.to_none⟩
def tListVals (td : TE) : TE := fun σ H Q => td σ H fun x H1 => ∃ a kvs, x = .ref a /\ H1 a = some (.dK kvs) /\ kvs.length <= 1000000 /\ ∀ l, H1 l = none -> Q (.ref l) (upd H1 l (.lst (kvs.map (·.2))))
theorem pe_listVals (hc : X.calm = true) (hg : Gl X "list") (hm : X.mg "list" = none) (ho : PE X o td) (hbase : attributeBase o "values" X.env (eval o X.env) = eval o X.env := by rfl) (hline : (apos.endLine == cpos.line) = true := by rfl)
    (hs : starEach [Expr.Call (.Attribute o "values" apos) [] [] cpos] X.env = [(false, eval (.Call (.Attribute o "values" apos) [] [] cpos) X.env)] := by rfl) :
    PE X (.Call (.Name "list" p) [.Call (.Attribute o "values" apos) [] [] cpos] [] pos) (tListVals td) := by
  intro pins s σ H Q I h; refine Call_ (ld_blt I hg hm PyProof.Rows.boot_list (PyProof.Rows.callWith_type1 ?_ hs rfl)); rw [hs]; refine Calls.spliced_cons ?_; refine wpAny_Call_method0_late hbase hline (thn (ho pins s σ H _ I h) fun u s1 ⟨x, H1, I1, rx, a, kvs, ex, ea, hl, q⟩ => ?_); subst ex; obtain rfl : u = Value.ref a := rx; obtain ⟨t1, t2, _⟩ := isD_at I1 (.inl ⟨kvs, .inl ea⟩); refine ⟨"dict", "dict.values", PySem.F.plainAttrs_dict, PySem.F.slot_dict_values, PySem.F.type_dict_values, t1, t2, Calls.callWith_builtin rfl (PySem.evalArgs_none ?_)⟩; refine hld fun g_ k_ => ?_; obtain ⟨zl, hd, vs, rel, dd⟩ := dk_of I1.hok ea; refine k_ ?_; have hlen := rel.length; refine call_meetsIn PySem.F.slot_dict_values dd.typeIs PySem.F.entry_dict_values (PySem.F.args_dict_values_1 _) (meets_dict_values (mixKind X.prog X.w) a hd) ⟨⟨vs, dd⟩, Calls.spliced_nil ?_⟩; have hv : (s1.heap.push { cls := .type "dict_values", data := .fields #[.ref a] }).IsValuesView s1.heap.objs.size a := ⟨_, Heap.get?_push_size _ rfl, rfl, rfl⟩; refine call_list_values (knd := mixKind X.prog X.w) (I.ok.hd hc) hv (dd.push _) (by rw [<- hlen]; omega) fun h' tk c' hk hS => ?_
  have sz : (s1.heap.push { cls := .type "dict_values", data := .fields #[.ref a] }).objs.size = s1.heap.objs.size + 1 := Heap.size_push ..; have hf : H1 (s1.heap.objs.size + 1) = none := I1.hok.fresh (Nat.le_succ _)
  dsimp only at hS ⊢
  rw [sz] at hS ⊢; refine ⟨.ref (s1.heap.objs.size + 1), upd H1 (s1.heap.objs.size + 1) (.lst (kvs.map (·.2))), I1.laid (t' := tk) (fun b o e => hk b o (Heap.get?_push_of_some _ e)) (Nat.le_succ _) ?_, rfl, q _ hf⟩; refine ⟨by rw [List.length_map]; exact zl, vs.map (·.2), c', ?_, hS⟩
  clear hS hk hv dd hlen zl ea q t1 t2 hd hl
  induction rel with
  | nil => exact .nil
  | cons r _ ih => exact .cons r.2 ih
end
end L2
namespace L2
open PySem PySem.Spec PyProof.Rows
end L2
namespace L2
open PySem PySem.Spec PyProof.Rows
section
variable {M : Model} {A : Around} {E : Value -> Shared -> Prop} {s : Shared}
theorem setFlight_any {B : Heap} {l : List Env} {e : Addr} {cls a0 fl : Value} {fr : Option Addr} {Q : Unit -> Shared -> Prop} (hkb : B.StaysIn s.heap) (hl : s.heap.FunFrames B l) (ht : s.heap.TracedAtW B e cls a0 fl)
    (h : ∀ h' fl', B.StaysIn h' -> h'.FunFrames B l -> h'.TracedAtW B e cls a0 fl' -> s.heap.UpToSlots h' -> Q () { s with heap := h' }) : wpAny M A (setFlight (.ref e) fr) Q E s := by
  refine hld fun g_ k_ => ?_; obtain ⟨oe, vs, T, oT, ts, he, hcls, hd, h1, hnT, hTe, hT, hdT, h3⟩ := ht; refine k_ ?_; have hsz3 : 3 < ts.size := (Array.getElem?_eq_some_iff.mp h3).1; have other : ∀ b, b ≠ T -> (s.heap.update T (Obj.mapFields (·.setIfInBounds 3 (fr.elim Value.none fun f => rawInt f)))).get? b = s.heap.get? b := fun b hb => Heap.get?_update_other _ _ (Ne.symm hb)
  have noRec : ∀ b o, s.heap.get? b = some o -> (∀ vs, o.data ≠ .fields vs) -> b ≠ T := fun b o hb hnf q => by
    rw [q, hT] at hb; injection hb with hb; subst hb; exact hnf ts hdT
  unfold setFlight
  refine wpAny_bind (wpAny_field he hd h1 ?_); rw [if_pos (show (Value.ref T != Value.none) = true from by simp)]
  refine wpAny_setField hT hdT hsz3 (h _ (fr.elim Value.none fun f => rawInt f) (fun b o hbo => (other b fun q => by rw [q, hnT] at hbo; cases hbo).trans (hkb b o hbo))
    (hl.of_keeps fun b o hb hnf => ⟨o, (other b (noRec b o hb hnf)).trans hb, rfl⟩) ?_ fun b o hb hnf => ⟨o.slots, (other b (noRec b o hb hnf)).trans hb⟩)
  exact ⟨oe, vs, T, _, _, (other e (Ne.symm hTe)).trans he, hcls, hd, h1, hnT, hTe, Heap.get?_update_self _ hT (Obj.isFreed_of_fields (Obj.data_mapFields hdT _)), Obj.data_mapFields hdT _, by simp [hsz3]⟩
theorem leaving_any {B : Heap} {env : Env} {outer : List Env} {L e : Addr} {cls a0 fl : Value} {Q : Unit -> Shared -> Prop} (hfr : A.frames = some (env :: outer)) (hf : env.frame = some L) (hkb : B.StaysIn s.heap) (hen : B.get? e = none)
    (hl : s.heap.FunFrames B (env :: outer)) (ht : s.heap.TracedAtW B e cls a0 fl) (hQ : ∀ h', Heap.FlyingW B outer e cls a0 h' -> s.heap.UpToSlots h' -> Q () { s with heap := h' }) : wpAny M A (leaving env (.ref e)) Q E s := by
  refine hld fun g_ k_ => ?_; obtain ⟨oe, vs, T, oT, ts, he, ⟨hcls, h0⟩, hd, h1, hnT, hTe, hT, hdT, h3⟩ := id ht; refine k_ ?_
  unfold leaving noteFrame
  simp only [hf]
  refine wpAny_bind (wpAny_bind (wpAny_field he hd h1 ?_)); rw [if_pos (show (Value.ref T != Value.none) = true from by simp)]
  refine wpAny_bind (wpAny_field hT hdT h3 ?_)
  by_cases hb : (fl == rawInt L) = true
  . rw [if_pos hb]
    refine wpAny_pure ?_; exact wpAny_setFlight_noneW hkb hl ht fun h' x1 x2 x3 x4 => hQ h' ⟨x1, hen, x2.2.2, x3⟩ fun b o q hn => ⟨o.slots, x4 b o q hn⟩
  . rw [if_neg hb]
    refine wpAny_bind (wpAny_setField hT hdT (Array.getElem?_eq_some_iff.mp h3).1 ?_); have other : ∀ b, b ≠ T -> (s.heap.update T (Obj.mapFields (·.setIfInBounds 3 Value.none))).get? b = s.heap.get? b := fun b hb => Heap.get?_update_other _ _ (Ne.symm hb)
    have noRec : ∀ b o, s.heap.get? b = some o -> (∀ vs, o.data ≠ .fields vs) -> b ≠ T := fun b o hb hnf q => by
      rw [q, hT] at hb; injection hb with hb; subst hb; exact hnf ts hdT
    subst hcls
    refine wpAny_newEntryW hfr (hl.of_keeps fun b o hb hnf => ⟨o, (other b (noRec b o hb hnf)).trans hb, rfl⟩) hf ((other e (Ne.symm hTe)).trans he)
      (fun b o hbo => (other b fun q => by rw [q, hnT] at hbo; cases hbo).trans (hkb b o hbo)) hen hd (Array.getElem?_eq_some_iff.mp h1).1 h0
      fun h' ⟨x1, x2, x3, x4⟩ => hQ h' ⟨x1, hen, x2.2.2, x3⟩ fun b o q hn => x4 b o ((other b (noRec b o q hn)).trans q) hn
end
theorem frames_same {h h' B : Heap} : ∀ {l : List Env}, h.FunFrames B l -> (∀ b ∈ frs l, h'.get? b = h.get? b) -> h'.FunFrames B l
  | [], _, _ => trivial
  | env :: rest, ⟨k, ⟨L, o, hf, hn, ho, hd⟩, hr⟩, e => by
    have hin : L ∈ frs (env :: rest) := List.mem_filterMap.mpr ⟨env, List.mem_cons_self, hf⟩
    exact ⟨k, ⟨L, o, hf, hn, by rw [e L hin]; exact ho, hd⟩, frames_same hr fun b hb => e b (by
      obtain ⟨x, hx, q⟩ := List.mem_filterMap.mp hb; exact List.mem_filterMap.mpr ⟨x, List.mem_cons_of_mem _ hx, q⟩)⟩
theorem un_flyX {P : Program} {w : World} {H H' : Hp} {h0 h1 h2 : Heap} {fs ex : List Addr} (u : Un fs ex H H' h0 h1) (hok : HOk P w H' h1) (frf : ∀ b ∈ fs, H' b = none)
    (ka : ∀ b ob, h1.get? b = some ob -> b ∉ fs -> ((b ∉ ex /\ ∃ o0, h0.get? b = some o0) \/ H' b ≠ none) -> h2.get? b = some ob)
    (kb : ∀ b ∈ fs, ∀ ob, h1.get? b = some ob -> ∃ sl, h2.get? b = some { ob with slots := sl }) : Un fs ex H H' h0 h2 /\ HOk P w H' h2 := by
  refine ⟨⟨fun b ob e n hb hx => ka b ob (u.keep b ob e n hb hx) hb (.inl ⟨hx, _, e⟩), fun b ob e n hb hx => ?_, u.free, fun b ob e hx => ?_, u.tups, u.frzs, u.tbls⟩, fun b u' e => ?_⟩
  . obtain ⟨sl, e1⟩ := u.slot b ob e n hb hx
    obtain ⟨sl2, e2⟩ := kb b hb _ e1; exact ⟨sl2, e2⟩
  . obtain ⟨o1, e1⟩ := u.there b ob e hx
    by_cases hb : b ∈ fs
    . obtain ⟨sl, e2⟩ := kb b hb _ e1
      exact ⟨_, e2⟩
    . exact ⟨_, ka b o1 e1 hb (.inl ⟨hx, _, e⟩)⟩
  . refine (hok b u' e).stay (fun c v hc q => ?_) (fun _ q => q) fun _ _ q => q
    have hn : H' c ≠ none := by
      rcases hc with z | z
      . rw [z, e]; exact fun y => nomatch y
      . rw [z]; exact fun y => nomatch y
    exact ka c v q (fun hb => hn (frf c hb)) (.inr hn)
structure CFly (X : Cx) (H1 : Hp) (s₂ : Shared) (fp : List Addr) (C : Addr) (H' : Hp) (a : Addr) (cls a0 fl : Value) (B : Heap) (s' : Shared) : Prop where
  os : s'.os = s₂.os
  bare : AllBare s'.gens
  un : Un (frs X.stack) fp H1 H' s₂.heap s'.heap
  hok : HOk X.prog X.w H' s'.heap
  stays : B.StaysIn s'.heap
  hen : B.get? a = none
  ff : s'.heap.FunFrames B X.stack
  tr : s'.heap.TracedAtW B a cls a0 fl
  cov : ∀ b ob, s'.heap.get? b = some ob -> b ∉ frs X.stack -> b ≠ C -> ((b ∉ fp /\ ∃ o0, s₂.heap.get? b = some o0) \/ H' b ≠ none) -> B.get? b = some ob
  frf : ∀ b ∈ frs X.stack, H' b = none
  cn : H' C = none
  cb : B.get? C = none
section
variable {X : Cx} {H1 H' : Hp} {s₂ s' : Shared} {fp : List Addr} {C a : Addr} {cls a0 fl fl' : Value} {B h2 : Heap}
theorem CFly.there (F : CFly X H1 s₂ fp C H' a cls a0 fl B s') {b : Addr} (h : (b ∉ fp /\ ∃ o0, s₂.heap.get? b = some o0) \/ H' b ≠ none) : ∃ o1, s'.heap.get? b = some o1 := by
  rcases h with ⟨hx, o0, h0⟩ | hn
  . exact F.un.there b o0 h0 hx
  . cases q : H' b with
    | none => exact absurd q hn
    | some u => exact (F.hok b u q).ex
theorem ns_slots {m : Str -> Option Value} {h h' : Heap} (n : h.Ns C m) (k : h.UpToSlots h') : h'.Ns C m := by
  refine hld fun g_ k_ => ?_; obtain ⟨o, es, ep, e, d, r⟩ := n; refine k_ ?_; obtain ⟨sl, e'⟩ := k C o e (fun vs z => by rw [d] at z; cases z)
  exact ⟨_, es, ep, e', d, r⟩
theorem CFly.turn (hC : s₂.heap.objs.size <= C) (F : CFly X H1 s₂ fp C H' a cls a0 fl B s') (k1 : B.StaysIn h2) (k2 : h2.FunFrames B X.stack) (k3 : h2.TracedAtW B a cls a0 fl') (k4 : s'.heap.UpToSlots h2) : CFly X H1 s₂ fp C H' a cls a0 fl' B { s' with heap := h2 } := by
  have nC : ∀ b, ((b ∉ fp /\ ∃ o0, s₂.heap.get? b = some o0) \/ H' b ≠ none) -> b ≠ C := fun b h z => by
    rcases h with ⟨_, o0, h0⟩ | hn
    . have := Heap.lt_size h0
      rw [z] at this; exact absurd this (Nat.not_lt.mpr hC)
    . rw [z] at hn
      exact hn F.cn
  have ka : ∀ b ob, s'.heap.get? b = some ob -> b ∉ frs X.stack -> ((b ∉ fp /\ ∃ o0, s₂.heap.get? b = some o0) \/ H' b ≠ none) -> h2.get? b = some ob := fun b ob q hb hc => k1 b ob (F.cov b ob q hb (nC b hc) hc)
  have z := un_flyX F.un F.hok F.frf ka (fun b hb ob q => by
    obtain ⟨_, o', ho', hnf⟩ := F.ff.mem hb; rw [q] at ho'
    cases ho'
    exact k4 b ob q hnf)
  refine ⟨F.os, F.bare, z.1, z.2, k1, F.hen, k2, k3, fun b ob q hb hbC hc => ?_, F.frf, F.cn, F.cb⟩; obtain ⟨o1, q1⟩ := F.there hc; have h3 := F.cov b o1 q1 hb hbC hc; have h4 := k1 b o1 h3; have h5 : h2.get? b = some ob := q; rw [h5] at h4
  cases h4
  exact h3
theorem CFly.drop (hC : s₂.heap.objs.size <= C) (hfC : C ∉ frs X.stack) (F : CFly X H1 s₂ fp C H' a cls a0 fl B s') (hns : ∃ m, s'.heap.Ns C m) (hs : Heap.SameBut C s'.heap h2) : CFly X H1 s₂ fp C H' a cls a0 fl B { s' with heap := h2 } := by
  refine hld fun g_ k_ => ?_; obtain ⟨m, oc, es, ep, ec, dc, _⟩ := hns; refine k_ ?_
  have nC : ∀ b, ((b ∉ fp /\ ∃ o0, s₂.heap.get? b = some o0) \/ H' b ≠ none) -> b ≠ C := fun b h z => by
    rcases h with ⟨_, o0, h0⟩ | hn
    . have := Heap.lt_size h0
      rw [z] at this; exact absurd this (Nat.not_lt.mpr hC)
    . rw [z] at hn
      exact hn F.cn
  have hfr : ∀ b ∈ frs X.stack, h2.get? b = s'.heap.get? b := fun b hb => hs.2 b fun z => hfC (by rw [<- z]; exact hb)
  have z := un_flyX (h2 := h2) F.un F.hok F.frf (fun b ob q hb hc => (hs.2 b (nC b hc)).trans q) (fun b hb ob q => ⟨ob.slots, (hfr b hb).trans q⟩); refine hld fun g_ k_ => ?_; obtain ⟨oe, vs, T, oT, ts, he, hcls, hd, h1, hnT, hTe, hT, hdT, h3⟩ := F.tr; refine k_ ?_; have eC : a ≠ C := fun z => by rw [z, ec] at he; cases he; rw [dc] at hd; cases hd
  have tC : T ≠ C := fun z => by rw [z, ec] at hT; cases hT; rw [dc] at hdT; cases hdT
  exact ⟨F.os, F.bare, z.1, z.2, fun b o q => (hs.2 b (fun y => by rw [y, F.cb] at q; cases q)).trans (F.stays b o q), F.hen, frames_same F.ff hfr,
    ⟨oe, vs, T, oT, ts, (hs.2 a eC).trans he, hcls, hd, h1, hnT, hTe, (hs.2 T tC).trans hT, hdT, h3⟩, fun b ob q hb hbC hc => F.cov b ob ((hs.2 b hbC).symm.trans q) hb hbC hc, F.frf, F.cn, F.cb⟩
end
def compCxE (X : Cx) (N' : List Str) (scope : Scope) (cl : List (Str × Addr)) (C : Addr) (s₀ : Shared) (H₀ : Hp) (fp : List Addr) (xe : Value -> Shared -> Prop) : Cx := (compCx X N' scope cl C s₀ H₀ fp).wish xe
def XBlock (X : Cx) (H1 : Hp) (s₂ : Shared) (fp : List Addr) (C : Addr) (E : XK) (e : Value) (s' : Shared) : Prop :=
  ∃ a cls a0 H' B, e = .ref a /\ CFly X H1 s₂ fp C H' a cls a0 .none B s' /\ (∃ m, s'.heap.Ns C m) /\ E cls none H'
section
variable {X : Cx} {elt tg iter : Expr} {ifs : List Expr} {scope : Scope} {cl : List (Str × Addr)} {N' : List Str} {js : List (Option Nat)} {pos : Pos} {g : TG} {ti : TT} {te : TE} {E : XK}
theorem pass_comp {s₂ : Shared} {H1 : Hp} {fp : List Addr} {C : Addr} : Passes (CXe X.prog X.w) (compCxE X N' scope cl C s₂ H1 fp (XBlock X H1 s₂ fp C E)) E := by
  intro pins' τ H s e s' I2 hcx; refine hld fun g_ k_ => ?_; obtain ⟨a, cls, a0, H', B, rfl, os, bare, un, hok, frf, hfl, cov, hE⟩ := hcx; refine k_ ?_; have I' := I2.call' (ch := []) os un hok bare (fun b z => absurd z (by simp))
  have st : (PySem.W.hideAll B [C]).StaysIn B := fun b o q => PySem.W.of_hideAll _ q; obtain ⟨f1, f2, f3, f4⟩ := PySem.W.flyingW_base st hfl; have hcn : H' C = none := I'.free; refine ⟨a, cls, a0, H', PySem.W.hideAll B [C], rfl, ⟨I'.os, bare, I'.base, hok, f1, f2, f3, f4, fun b ob q hb hbC hc => ?_, frf, hcn, PySem.W.hideAll_none _ (List.mem_singleton.mpr rfl)⟩, ?_, hE⟩
  . refine PySem.W.hideAll_get _ (cov b ob q hb ?_) (fun z => hbC (List.mem_singleton.mp z))
    rcases hc with ⟨hx, o0, h0⟩ | hn
    . exact .inl (I2.base.there b o0 h0 hx)
    . exact .inr hn
  . obtain ⟨m, hn, _⟩ := I'.loc
    exact ⟨m, hn⟩
theorem comp_blockE {pins : List (Addr × Obj)} {σ : St} {H1 : Hp} {s₂ : Shared} {it : Addr} {fp : List Addr} {tn : Nat -> Heap -> Prop} {J : It} {Q : VK} {RR : Value -> Addr -> Result -> Shared -> Prop} {E' : Value -> Shared -> Prop}
    (K : CompOk X scope cl N' js) (hc : X.calm = true) (I : Inv X pins σ H1 s₂) (T : Turn X.prog X.w X.K tg J fp it tn) (st : tn 0 s₂.heap) (hf : ∀ b ∈ fp, FpOk X pins H1 b)
    (hg : ∀ C s₀ H₀ fp, PG (compCx X N' scope cl C s₀ H₀ fp) tg g) (hi : ∀ C s₀ H₀ fp, PIf (compCx X N' scope cl C s₀ H₀ fp) ifs ti)
    (he : ∀ C s₀ H₀ fp xe, Passes (CXe X.prog X.w) (compCxE X N' scope cl C s₀ H₀ fp xe) E -> PE (compCxE X N' scope cl C s₀ H₀ fp xe) elt te)
    (hW : CompW J js g ti te σ H1 Q)
    (hRR : ∀ D C s' H', Inv X pins σ H' s' -> (∃ m, s'.heap.Ns C m) -> FpOk X pins H' C -> Q (.ref D) H' -> RR (.ref D) C (.ok .next) s')
    (hRE : ∀ D C e s', s₂.heap.objs.size <= C -> C ∉ frs X.stack -> XBlock X H1 s₂ fp C E e s' -> notedBy (model X.prog X.w) X.A (compEnvC scope cl C X.env) (fun e s' => RR (.ref D) C (.error e) s') e s') :
    wpAny (model X.prog X.w) X.A (newList []) (fun acc s₃ => wpAny (model X.prog X.w) X.A (newFunctionEnv scope X.env.globals cl [] X.env.qual none .none (some X.env)) (fun cenv s₄ =>
      codeAny (model X.prog X.w) X.A (.compStart (.ListComp elt [⟨tg, iter, ifs, 0⟩] scope pos) 0 (.ref it) acc { cenv with scope := relabel scope X.env }) (RR acc cenv.locals) s₄) E' s₃) E' s₂ := by
  refine wpAny_newObj_type (wpAny_newFunctionEnv K.nocell (by intro y hy; simp at hy) (fun h₁ hns₁ hsb₁ => ?_) K.kind)
  dsimp only at hns₁ hsb₁ ⊢
  generalize hH2 : s₂.heap.push { cls := .type "list", dict := none, data := .seq ([] : List Value).toArray } = H2 at hns₁ hsb₁ ⊢; have hC : H2.objs.size = s₂.heap.objs.size + 1 := by rw [<- hH2, Heap.size_push]
  have hlt : s₂.heap.objs.size < H2.objs.size := by rw [hC]; exact Nat.lt_succ_self _
  have below : ∀ b, b < s₂.heap.objs.size -> b ≠ H2.objs.size := fun b hb => Nat.ne_of_lt (Nat.lt_trans hb hlt); have old : ∀ b o, s₂.heap.get? b = some o -> h₁.get? b = some o := fun b o e => hsb₁.extBut b o (below b (Heap.lt_size e)) (Heap.get?_push_of_some _ (hH2 ▸ Heap.get?_push_of_some _ e)); have acc : h₁.get? s₂.heap.objs.size = some { cls := .type "list", data := .seq ([] : List Value).toArray } := hsb₁.extBut _ _ (Nat.ne_of_lt hlt) (Heap.get?_push_of_some _ (hH2 ▸ Heap.get?_push_size _ rfl))
  have hfl : ∀ b ∈ fp, b < s₂.heap.objs.size := fun b hb => by
    obtain ⟨o, q, _⟩ := T.obj 0 _ st b hb; exact Heap.lt_size q
  have hCs : H2.objs.size ∉ frs X.stack := fun hm => by
    obtain ⟨_, o', ho', _⟩ := I.stack.mem hm; exact absurd (Nat.lt_trans hlt (Heap.lt_size ho')) (Nat.lt_irrefl _)
  refine hld fun g_ k_ => ?_; obtain ⟨W, ⟨m0, w0⟩, turn⟩ := hW s₂.heap.objs.size (I.hok.fresh (Nat.le_refl _)); refine k_ ?_
  have stat : ∀ {H' : Hp}, (∀ b ∈ fp, H' b = none) -> ∀ b ∈ fp, FpOk (compCx X N' scope cl H2.objs.size s₂ H1 fp) [] H' b := fun hn b hb =>
    ⟨hn b hb, below b (hfl b hb), fun z => (List.mem_cons.mp (I.stkSub b z)).elim (hf b hb).2.1 (hf b hb).2.2.1, .inl hb, fun x c e => (hf b hb).2.2.2.2.1 x c (K.cells x c e), fun p hp => absurd (show p ∈ ([] : List (Addr × Obj)) from hp) (by simp)⟩
  have loop : ∀ s₃ : Shared, s₃ = { s₂ with heap := h₁, toks := s₂.toks + ([] : List (Str × Value)).length } ->
      codeAny (model X.prog X.w) X.A (.compLoop (.ListComp elt [⟨tg, iter, ifs, 0⟩] scope pos) 0 (.ref it) (.ref s₂.heap.objs.size) (compEnvC scope cl H2.objs.size X.env))
        (RR (.ref s₂.heap.objs.size) H2.objs.size) s₃ := by
    rintro s₃ rfl
    have I0 := comp_start (tk := s₂.toks + ([] : List (Str × Value)).length) K I hf hfl hlt old hns₁ acc
    refine codeAny_loop rfl (fun n s' => ∃ i ys τ H', Inv (compCx X N' scope cl H2.objs.size s₂ H1 fp) [] τ H' s' /\ tn i s'.heap /\ (∀ b ∈ fp, H' b = none) /\ W i n ys τ H') (fun n s' hI => ?_) m0
      ⟨0, [], outSt js σ, _, I0, T.keep _ _ _ st (fun b _ o e => old b o e), fun b hb => by rw [upd_ne (Nat.ne_of_lt (hfl b hb))]; exact (hf b hb).1, w0⟩
    refine hld fun g_ k_ => ?_; obtain ⟨i, ys, τ, H', I', st', fr', w'⟩ := hI; refine k_ ?_
    show wpAny _ X.A ((compTurn (.ListComp elt [⟨tg, iter, ifs, 0⟩] scope pos) 0 (.ref it) (.ref s₂.heap.objs.size) (compEnvC scope cl H2.objs.size X.env)).onRaise (fun x => do noteFrame x (compEnvC scope cl H2.objs.size X.env); theTreesLotGoes x)) _ _ s'
    refine wpAny_noted ?_; rw [compTurn_list]; refine wpAny_bind (wpAny_standAt (wpAny_bind ?_))
    rcases turn i n ys τ H' w' with ⟨stop, qn⟩ | ⟨go, step⟩
    . refine wpAny_mono (T.done (compCx X N' scope cl H2.objs.size s₂ H1 fp) rfl rfl rfl hc i [] s' τ H' _ I' (stat fr') st' stop) (fun r s4 hr => ?_) fun _ _ e => e
      obtain ⟨hr, I4⟩ := hr; subst hr; refine wpAny_pure ?_; have u : Un (frs X.stack) fp H1 H' s₂.heap s4.heap := I4.base; refine hRR _ _ s4 H' (I.call' (ch := fp) I4.os u I4.hok I4.bare fun b hb => ⟨(hf b hb).2.2.2.1, (hf b hb).2.1, (hf b hb).2.2.2.2.1, (hf b hb).2.2.2.2.2⟩) ?_ (I.fpOk (Nat.le_of_lt hlt) I4.free) qn; obtain ⟨m, hn, _⟩ := I4.loc; exact ⟨m, hn⟩
    . refine wpAny_mono (T.item (compCx X N' scope cl H2.objs.size s₂ H1 fp) rfl rfl rfl hc i [] s' τ H' _ I' (stat fr') st' go) (fun r s4 hr => ?_) fun _ _ e => e
      obtain ⟨u, hr, h4⟩ := hr; subst hr; refine wpAny_bind (wpAny_mono h4 (fun _ s5 h5 => ?_) fun _ _ e => e); refine hld fun g_ k_ => ?_; obtain ⟨x, H5, I5, r5, y5, st5, fr5⟩ := h5; refine k_ ?_; have I5' := I5.pinned (stat fr5) (T.obj _ _ st5)
      have again : ∀ {s7 : Shared} {τ7 : St} {H7 : Hp} {zs : List V} {m' : Nat}, m' < n -> Inv (compCx X N' scope cl H2.objs.size s₂ H1 fp) ([] ++ pinsAt fp s5.heap) τ7 H7 s7 -> W (i + 1) m' zs τ7 H7 ->
          ∃ m, m < n /\ ∃ i ys τ H', Inv (compCx X N' scope cl H2.objs.size s₂ H1 fp) [] τ H' s7 /\ tn i s7.heap /\ (∀ b ∈ fp, H' b = none) /\ W i m ys τ H' := fun {s7 τ7 H7 zs m'} hm I7 w7 => by
        refine ⟨m', hm, i + 1, zs, τ7, H7, I7.unpinned, T.keep _ _ _ st5 fun b hb o e => (I7.pin (b, o) (List.mem_append_right _ (List.mem_append_right _ (mem_pinsAt hb e)))).1, fun b hb => ?_, w7⟩; obtain ⟨o, e, d⟩ := T.obj _ _ st5 b hb; exact (I7.pin (b, o) (List.mem_append_right _ (List.mem_append_right _ (mem_pinsAt hb e)))).2.1
      refine wpAny_bind (thnE (hg _ _ _ _ _ s5 τ H5 x u _ I5' r5 (step x H5 y5)) fun _ s6 h6 => ?_); obtain ⟨σ6, H6, I6, q6⟩ := h6; refine wpAny_bind (thnE (hi _ _ _ _ _ s6 σ6 H6 _ I6 q6) fun ok s7 h7 => ?_); obtain ⟨H7, I7, q7⟩ := h7
      cases ok with
      | false =>
        rw [if_neg Bool.false_ne_true] at q7; obtain ⟨m', hm, w7⟩ := q7; exact wpAny_pure ⟨rfl, again hm I7 w7⟩
      | true =>
        rw [if_pos rfl] at q7; refine wpAny_bind (wpAny_bind (wpAny_mono (he H2.objs.size s₂ H1 fp (XBlock X H1 s₂ fp H2.objs.size E) pass_comp _ s7 σ6 H7 _ (I7.wish _) q7) (fun yv s8 h8 => ?_) fun e s8 h8 => hRE _ _ e s8 (Nat.le_of_lt hlt) hCs h8)); refine hld fun g_ k_ => ?_; obtain ⟨y, H8, I8, r8, e8, z8, m', hm, w8⟩ := h8; refine k_ ?_; have I8 := I8.unwish; refine wpAny_bind (thnE (mt_append (X := compCx X N' scope cl H2.objs.size s₂ H1 fp) _ s8 σ6 H8 (.ref s₂.heap.objs.size) [y] (.ref s₂.heap.objs.size) [yv] (fun v H9 => H9 = upd H8 s₂.heap.objs.size (.lst (ys ++ [y]))) I8 rfl (.cons r8 .nil) ⟨_, ys, y, rfl, rfl, e8, z8, rfl⟩) fun _ s9 h9 => ?_); refine hld fun g_ k_ => ?_; obtain ⟨_, H9, I9, _, e9⟩ := h9; refine k_ ?_; subst e9; exact wpAny_pure (wpAny_pure ⟨rfl, again hm I9 w8⟩)
  exact codeAny_compStart_list (loop _ rfl) (T.self _ 0 _ _ _ (T.keep _ _ _ st fun b _ o e => old b o e) (loop _ rfl))
end
section
variable {P : Program} {w : World} {K : PySem.W.Frag} {mg : Str -> Option Value} {base : Heap} {N : List Str} {qual : Str} {scope0 : Scope} {f : Addr} {cd : Value} {A : Around} {outer : List Env} {s0 : Shared} {H0 : Hp} {E : XK}
theorem leavesX {pins : List (Addr × Obj)} {σ : St} {H' : Hp} {s' : Shared} {a : Addr} {cls a0 fl : Value} {B : Heap} (I' : Inv (cxOf (CXe P w) P w K mg base N qual scope0 f cd A outer s0 H0 E) pins σ H' s')
    (k1 : B.StaysIn s'.heap) (k2 : B.get? a = none) (k3 : s'.heap.FunFrames B (envOfC qual scope0 s0.heap.objs.size f cd :: outer)) (k4 : s'.heap.TracedAtW B a cls a0 fl)
    (cov : ∀ b ob, s'.heap.get? b = some ob -> b ∉ frs (envOfC qual scope0 s0.heap.objs.size f cd :: outer) -> ((∃ o0, s0.heap.get? b = some o0) \/ H' b ≠ none) -> B.get? b = some ob) (hE : E cls none H') :
    (cxOf (CXe P w) P w K mg base N qual scope0 f cd A outer s0 H0 E).xe (.ref a) s' := by
  have hfree : ∀ b ∈ frs (envOfC qual scope0 s0.heap.objs.size f cd :: outer), H' b = none := I'.stkFree; have hL : ∀ b ∈ frs (envOfC qual scope0 s0.heap.objs.size f cd :: outer), b = s0.heap.objs.size \/ b ∈ frs outer := fun b hb => List.mem_cons.mp (I'.stkSub b hb); refine leaving_any (L := s0.heap.objs.size) I'.ok.frames rfl k1 k2 k3 k4 fun h' x1 x2 => ?_; have hun : Un (frs outer) [] H0 H' s0.heap s'.heap := I'.base
  have old : ∀ b, b ∉ frs outer -> ((∃ o0, s0.heap.get? b = some o0) \/ H' b ≠ none) -> b ∉ frs (envOfC qual scope0 s0.heap.objs.size f cd :: outer) := by
    intro b hb hc hm
    rcases hL b hm with z | z
    . rcases hc with ⟨o0, h0⟩ | hn
      . rw [z] at h0
        exact absurd (Heap.lt_size h0) (Nat.lt_irrefl _)
      . exact hn (hfree b hm)
    . exact hb z
  have ka : ∀ b ob, s'.heap.get? b = some ob -> b ∉ frs outer -> ((∃ o0, s0.heap.get? b = some o0) \/ H' b ≠ none) -> B.get? b = some ob := fun b ob q hb hc => cov b ob q (old b hb hc) hc
  have z := un_fly hun I'.hok I'.outFree (fun b ob q hb hc => x1.1 b ob (ka b ob q hb hc)) (fun b hb ob q => by
    obtain ⟨_, o', ho', hnf⟩ := I'.funs.mem hb; rw [q] at ho'
    cases ho'
    exact x2 b ob q hnf)
  refine ⟨a, cls, a0, H', B, rfl, I'.os, I'.bare, z.1, z.2, I'.outFree, x1, fun b ob q hb hc => ?_, hE⟩
  have hs1 : ∃ o1, s'.heap.get? b = some o1 := by
    rcases hc with ⟨o0, h0⟩ | hn
    . exact I'.base.there b o0 h0 (fun z => absurd (show b ∈ ([] : List Addr) from z) (by simp))
    . cases q1 : H' b with
      | none => exact absurd q1 hn
      | some u' => exact (I'.hok b u' q1).ex
  obtain ⟨o1, q1⟩ := hs1; have h3 := ka b o1 q1 hb hc; have h4 := x1.1 b o1 h3; rw [q] at h4
  cases h4
  exact h3
variable {elt tg iter : Expr} {ifs : List Expr} {scope : Scope} {cl : List (Str × Addr)} {N' : List Str} {js : List (Option Nat)} {pos : Pos} {g : TG} {ti : TT} {te : TE} {wi : TI}
theorem pe_compE (K0 : CompOk (cxOf (CXe P w) P w K mg base N qual scope0 f cd A outer s0 H0 E) scope cl N' js) (hi : PI (cxOf (CXe P w) P w K mg base N qual scope0 f cd A outer s0 H0 E) tg iter wi)
    (hg : ∀ C s₀ H₀ fp, PG (compCx (cxOf (CXe P w) P w K mg base N qual scope0 f cd A outer s0 H0 E) N' scope cl C s₀ H₀ fp) tg g) (hif : ∀ C s₀ H₀ fp, PIf (compCx (cxOf (CXe P w) P w K mg base N qual scope0 f cd A outer s0 H0 E) N' scope cl C s₀ H₀ fp) ifs ti)
    (he : ∀ C s₀ H₀ fp xe, Passes (CXe P w) (compCxE (cxOf (CXe P w) P w K mg base N qual scope0 f cd A outer s0 H0 E) N' scope cl C s₀ H₀ fp xe) E -> PE (compCxE (cxOf (CXe P w) P w K mg base N qual scope0 f cd A outer s0 H0 E) N' scope cl C s₀ H₀ fp xe) elt te)
    (hs : ∀ x, foldedSetIterable iter (cxOf (CXe P w) P w K mg base N qual scope0 f cd A outer s0 H0 E).env x = pure x := by intro _; rfl) :
    PE (cxOf (CXe P w) P w K mg base N qual scope0 f cd A outer s0 H0 E) (.ListComp elt [⟨tg, iter, ifs, 0⟩] scope pos) (tComp wi js g ti te) := by
  intro pins s σ H Q I h; rw [eval_ListComp]; refine wpAny_comprehension_free (use := none) rfl hs K0.clos K0.kind K0.names (thn (hi pins s σ H _ I h) fun v s1 h1 => thn h1 fun itv s2 h2 => ?_); refine hld fun g_ k_ => ?_; obtain ⟨it, fp, tn, J, H2, e, I2, T, st2, f2, hW⟩ := h2; refine k_ ?_; subst e; refine comp_blockE (E := E) (RR := fun acc C => compPost (model P w) (cxOf (CXe P w) P w K mg base N qual scope0 f cd A outer s0 H0 E).A (cxOf (CXe P w) P w K mg base N qual scope0 f cd A outer s0 H0 E).xe none (EP (cxOf (CXe P w) P w K mg base N qual scope0 f cd A outer s0 H0 E) pins σ Q) acc C) K0 rfl I2 T st2 f2 hg hif he hW ?_ ?_
  . intro D C s' H' I' hn hC q
    obtain ⟨m, hm⟩ := hn; exact ⟨m, hm, fun h' hs' => ⟨.ref D, H', comp_free I' hC hs', rfl, q⟩⟩
  . rintro D C e s' hC hCs p_
    refine hld fun g_ k_ => ?_; obtain ⟨a, cls, a0, H', B, rfl, F, hn, hE⟩ := p_; refine k_ ?_
    show wpAny _ _ (noteFrame (.ref a) (envOfC qual scope0 s0.heap.objs.size f cd)) _ _ s'
    refine wpAny_noteFrame_onW (L := s0.heap.objs.size) I2.ok.frames F.ff rfl F.tr F.stays F.hen fun h2 N2 => ?_; obtain ⟨n1, n2, n3, n4⟩ := N2; have F2 := F.turn hC n1 n2 n3 n4; obtain ⟨m, hm⟩ := hn; have hm2 := ns_slots hm n4; refine ⟨m, hm2, fun h3 hs3 cenv hcl => ?_⟩; have F3 := F2.drop hC hCs ⟨m, hm2⟩ hs3
    unfold PySem.passOn
    refine hld fun g_ k_ => ?_; obtain ⟨oe, vs, T, oT, ts, he', hcls, hd, h1, hrest⟩ := id F3.tr; refine k_ ?_; refine wpAny_bind (wpAny_field he' hd h1 ?_); rw [if_neg (show ¬ ((Value.ref T == Value.none) = true) from by simp)]
    refine wpAny_bind (setFlight_any F3.stays F3.ff F3.tr fun h4 fl' y1 y2 y3 y4 => ?_); have F4 := F3.turn hC y1 y2 y3 y4; refine wpAny_throw ?_
    have hch : ∀ b ∈ fp, (b ∈ (cxOf (CXe P w) P w K mg base N qual scope0 f cd A outer s0 H0 E).ex \/ s0.heap.objs.size <= b) /\ b ≠ (cxOf (CXe P w) P w K mg base N qual scope0 f cd A outer s0 H0 E).env.locals /\ (∀ x c, (cxOf (CXe P w) P w K mg base N qual scope0 f cd A outer s0 H0 E).env.cells.lookup x = some c -> c ≠ b) /\ ∀ p ∈ (cxOf (CXe P w) P w K mg base N qual scope0 f cd A outer s0 H0 E).pn ++ pins, p.1 ≠ b :=
      fun b hb => ⟨(f2 b hb).2.2.2.1, (f2 b hb).2.1, (f2 b hb).2.2.2.2.1, (f2 b hb).2.2.2.2.2⟩
    have I4 := I2.call' (ch := fp) F4.os F4.un F4.hok F4.bare hch; refine leavesX I4 F4.stays F4.hen F4.ff F4.tr (fun b ob q hb hc => F4.cov b ob q hb ?_ ?_) hE
    . intro z
      rcases hc with ⟨o0, h0⟩ | hn'
      . have := Heap.lt_size h0
        have hsz := I2.sz; rw [z] at this; exact absurd (Nat.lt_of_lt_of_le this (Nat.le_trans hsz hC)) (Nat.lt_irrefl _)
      . rw [z] at hn'
        exact hn' F4.cn
    . rcases hc with ⟨o0, h0⟩ | hn'
      . refine .inl ⟨fun hb' => ?_, I2.base.there b o0 h0 (fun z => absurd (show b ∈ ([] : List Addr) from z) (by simp))⟩
        rcases (hch b hb').1 with z | z
        . exact absurd (show b ∈ ([] : List Addr) from z) (by simp)
        . exact absurd (Nat.lt_of_lt_of_le (Heap.lt_size h0) z) (Nat.lt_irrefl _)
      . exact .inr hn'
end
def Nx (n i : Nat) (p : Prop) : Prop := ∃ m', m' < n - i /\ m' = n - (i + 1) /\ i + 1 <= n /\ p
theorem Nx.mk {n i : Nat} {p : Prop} (h : i < n) (q : p) : Nx n i p := ⟨_, by omega, rfl, h, q⟩
theorem comp_range {n : Nat} {js : List (Option Nat)} {g : TG} {ti : TT} {te : TE} {σ : St} {H1 : Hp} {Q : VK} (Pv : Addr -> Nat -> List V -> St -> Hp -> Prop)
    (h0 : ∀ D, H1 D = none -> Pv D 0 [] (outSt js σ) (upd H1 D (.lst [])))
    (hs : ∀ D (i : Nat) ys τ H, i < n -> Pv D i ys τ H -> g (.int (i : Int)) τ H fun τ2 H2 => ti τ2 H2 fun b H3 =>
      if b = true then te τ2 H3 fun y H4 => H4 D = some (.lst ys) /\ ys.length < sizeLine /\ Nx n i (Pv D (i + 1) (ys ++ [y]) τ2 (upd H4 D (.lst (ys ++ [y]))))
      else Nx n i (Pv D (i + 1) ys τ2 H3))
    (hd : ∀ D ys τ H, Pv D n ys τ H -> Q (.ref D) H) : CompW (Itr 0 n) js g ti te σ H1 Q := by
  intro D hD; refine ⟨fun i m ys τ H => m = n - i /\ i <= n /\ Pv D i ys τ H, ⟨n, by simp, Nat.zero_le _, h0 D hD⟩, ?_⟩
  rintro i m ys τ H ⟨rfl, hi, p⟩
  by_cases hlt : i < n
  . refine .inr ⟨hlt, fun x H' y => ?_⟩
    obtain ⟨rfl, rfl⟩ := y; rw [Int.zero_add]; exact hs D i ys τ _ hlt p
  . have e : i = n := by omega
    subst e; exact .inl ⟨Nat.le_refl _, hd D ys τ H p⟩
end L2
namespace L2
open PySem PySem.Spec PyProof.Rows
section
variable {X : Cx}
theorem all_eq_self {zs : List V} (h : zs.all flatV = true) (n : Nat) (hn : n <= zs.length) : (List.range n).all (fun j => eqV (zs.getD j .non) (zs.getD j .non)) = true := by
  rw [List.all_eq_true]; intro j hj; have hj := List.mem_range.mp hj; have hl : j < zs.length := by omega
  refine eqV_self ?_; rw [List.getD_eq_getElem?_getD, List.getElem?_eq_getElem hl]; exact List.all_eq_true.mp h _ (List.getElem_mem hl)
end
end L2
namespace L2
open PySem PySem.Spec PyProof.Rows
theorem argBest_le (bt : Nat -> Nat -> Bool) : ∀ n, argBest bt n <= n
  | 0 => Nat.le_refl _
  | n + 1 => by
    have := argBest_le bt n
    show (if bt (n + 1) (argBest bt n) = true then n + 1 else argBest bt n) <= n + 1
    split <;> omega
theorem argBest_min (val : Nat -> Int) : ∀ n j, j <= n -> val (argBest (fun i j => decide (val i < val j)) n) <= val j
  | 0, j, h => by rw [show j = 0 by omega]; exact Int.le_refl _
  | n + 1, j, h => by
    have ih := argBest_min val n
    show val (if decide (val (n + 1) < val (argBest (fun i j => decide (val i < val j)) n)) = true then n + 1 else argBest (fun i j => decide (val i < val j)) n) <= val j
    by_cases c : val (n + 1) < val (argBest (fun i j => decide (val i < val j)) n)
    . rw [if_pos (decide_eq_true c)]
      by_cases e : j = n + 1
      . rw [e]; exact Int.le_refl _
      . have := ih j (by omega); omega
    . rw [if_neg (by rw [decide_eq_false c]; exact Bool.false_ne_true)]
      by_cases e : j = n + 1
      . rw [e]; omega
      . exact ih j (by omega)
theorem argBest_max (val : Nat -> Int) : ∀ n j, j <= n -> val j <= val (argBest (fun i j => decide (val i > val j)) n)
  | 0, j, h => by rw [show j = 0 by omega]; exact Int.le_refl _
  | n + 1, j, h => by
    have ih := argBest_max val n
    show val j <= val (if decide (val (n + 1) > val (argBest (fun i j => decide (val i > val j)) n)) = true then n + 1 else argBest (fun i j => decide (val i > val j)) n)
    by_cases c : val (n + 1) > val (argBest (fun i j => decide (val i > val j)) n)
    . rw [if_pos (decide_eq_true c)]
      by_cases e : j = n + 1
      . rw [e]; exact Int.le_refl _
      . have := ih j (by omega); omega
    . rw [if_neg (by rw [decide_eq_false c]; exact Bool.false_ne_true)]
      by_cases e : j = n + 1
      . rw [e]; omega
      . exact ih j (by omega)
theorem ints_items : ∀ {ns : List Int} {vs : List Value}, Vals (ns.map V.int) vs -> ∃ xs : List (Int × Tok), vs = xs.map (fun p => Value.int p.1 p.2) /\ xs.map (·.1) = ns
  | [], _, .nil => ⟨[], rfl, rfl⟩
  | n :: ns, v :: vs, .cons r rs => by
    obtain ⟨t, rfl⟩ := r; obtain ⟨xs, h1, h2⟩ := ints_items rs; exact ⟨(n, t) :: xs, by rw [h1]; rfl, by rw [<- h2]; rfl⟩
theorem numAt_of {xs : List (Int × Tok)} {ns : List Int} (h : xs.map (·.1) = ns) {i : Nat} (hi : i < ns.length) : numAt xs.toArray i = ns[i] := by
  subst h; rw [List.length_map] at hi
  unfold numAt
  simp [hi]
section
variable {X : Cx}
inductive rMinL (K : PySem.W.Frag) (xs : (List V)) (H : Hp) (Q : VK) : Prop
  | mk (p : Addr) (ns : List Int) (m : Int) (z1_ : xs = [.ref p]) (z2_ : SqL K H p (ns.map V.int)) (z3_ : m ∈ ns) (z4_ : (∀ n ∈ ns, m <= n)) (z5_ : Q (.int m) H) : rMinL K xs H Q
theorem call_minL (hc : X.calm = true) : CallR X (.builtin "min") (rMinL X.K) := by
  intro pins s σ H xs us Q I r h; obtain ⟨p, ns, m, rfl, hq, hm, hle, q⟩ := h; obtain ⟨u, rfl, rx⟩ := vals1 r
  cases rx
  obtain ⟨its, rv, pl, hz⟩ := I.list hq; obtain ⟨ys, h1, h2⟩ := ints_items rv; subst h1; have hlen : ys.length = ns.length := by rw [<- h2, List.length_map]
  have hpos : 0 < ns.length := List.length_pos_of_mem hm
  have hl : s.heap.IsList p (intItems ys.toArray) := by
    have := pl.isList
    unfold intItems
    simpa using this
  refine min_intList (xs := ys.toArray) (I.ok.hd hc) hl (by rw [List.size_toArray, hlen]; exact hpos) fun v h' tk hv k => ⟨.int m, H, I.kept k, ?_, q⟩
  have hb := argBest_le (fun i j => decide (numAt ys.toArray i < numAt ys.toArray j)) (ys.toArray.size - 1); obtain ⟨t, rfl⟩ := intItems_at hv; rw [List.size_toArray, hlen] at hb hv ⊢; have hbl : argBest (fun i j => decide (numAt ys.toArray i < numAt ys.toArray j)) (ns.length - 1) < ns.length := by omega
  have e : numAt ys.toArray (argBest (fun i j => decide (numAt ys.toArray i < numAt ys.toArray j)) (ns.length - 1)) = m := by
    refine Int.le_antisymm ?_ ?_
    . obtain ⟨j, hj⟩ := List.mem_iff_getElem?.mp hm
      obtain ⟨hjl, e⟩ := List.getElem?_eq_some_iff.mp hj; have := argBest_min (numAt ys.toArray) (ns.length - 1) j (by omega)
      rw [numAt_of h2 hjl, e] at this; exact this
    . rw [numAt_of h2 hbl]
      exact hle _ (List.getElem_mem _)
  rw [e]; exact ⟨_, rfl⟩
end
theorem comp_listF {K : PySem.W.Frag} {a : Addr} {xs : List V} {js : List (Option Nat)} {g : TG} {ti : TT} {te : TE} {σ : St} {H1 : Hp} {Q : VK} (Pv : Addr -> Nat -> List V -> St -> Hp -> Prop)
    (h0 : ∀ D, H1 D = none -> Pv D 0 [] (outSt js σ) (upd H1 D (.lst []))) (hl : ∀ D i ys τ H, i <= xs.length -> Pv D i ys τ H -> SqL K H a xs)
    (hs : ∀ D (i : Nat) x ys τ H, xs[i]? = some x -> Pv D i ys τ H -> g x τ H fun τ2 H2 => ti τ2 H2 fun b H3 =>
      if b = true then te τ2 H3 fun y H4 => H4 D = some (.lst ys) /\ ys.length < sizeLine /\ Nx xs.length i (Pv D (i + 1) (ys ++ [y]) τ2 (upd H4 D (.lst (ys ++ [y]))))
      else Nx xs.length i (Pv D (i + 1) ys τ2 H3))
    (hd : ∀ D ys τ H, Pv D xs.length ys τ H -> Q (.ref D) H) : CompW (Itl K a) js g ti te σ H1 Q := by
  intro D hD; refine ⟨fun i m ys τ H => m = xs.length - i /\ i <= xs.length /\ Pv D i ys τ H, ⟨xs.length, by simp, Nat.zero_le _, h0 D hD⟩, ?_⟩
  rintro i m ys τ H ⟨rfl, hi, p⟩
  have q := hl D i ys τ H hi p
  by_cases hlt : i < xs.length
  . refine .inr ⟨⟨xs, xs[i], q, by simp [hlt]⟩, fun x H' y => ?_⟩
    obtain ⟨e, y⟩ := y; subst e; exact hs D i x ys τ _ (y xs q) p
  . have e : i = xs.length := by omega
    subst e; exact .inl ⟨⟨xs, q, Nat.le_refl _⟩, hd D ys τ H p⟩
end L2
namespace PySem
section
variable {prog : Program} {w : World} {A : Around} {E : Value -> Shared -> Prop} {s : Shared} {l : Addr} {xs : Array (Int × Tok)}
theorem iter_intTuple {Q : Value -> Shared -> Prop} (hl : s.heap.IsTuple l (intItems xs))
    (h : ∀ s₂ : Shared, s₂ = { s with heap := s.heap.push { cls := .type "tuple_iterator", data := .fields #[.ref l, .int 0 0] } } ->
      (s₂.heap.IsTupleIter s.heap.objs.size l 0 /\ s₂.heap.IsTuple l (intItems xs)) -> (∀ b ∈ [s.heap.objs.size, l], b < s₂.heap.objs.size) -> l ≠ s.heap.objs.size -> Q (.ref s.heap.objs.size) s₂) :
    wpAny (model prog w) A (pyIter (.ref l)) Q E s := by
  have hlt : l < s.heap.objs.size := by obtain ⟨_, e, _⟩ := hl; exact Heap.lt_size e
  refine wpAny_pyIter_tuple hl (h _ rfl ⟨⟨_, Heap.get?_push_size _ rfl, rfl, rfl⟩, hl.at fun o e => Heap.get?_push_of_some _ e⟩ (fun b hb => ?_) (Nat.ne_of_lt hlt))
  show b < (s.heap.push _).objs.size
  rw [Heap.size_push]
  rcases List.mem_cons.mp hb with rfl | hb
  . exact Nat.lt_succ_self _
  . rcases List.mem_cons.mp hb with rfl | hb
    . exact Nat.lt_succ_of_lt hlt
    . cases hb
theorem oldT_kept {h' : Heap} (hk : ∀ b o, b ∉ [s.heap.objs.size] -> (s.heap.push { cls := .type "tuple_iterator", data := .fields #[.ref l, .int 0 0] }).get? b = some o -> h'.get? b = some o) :
    ∀ b o, s.heap.get? b = some o -> h'.get? b = some o := fun b o e => by
  refine hk b o (fun hm => ?_) (Heap.get?_push_of_some _ e)
  rcases List.mem_cons.mp hm with e1 | hm
  . exact absurd (e1 ▸ Heap.lt_size e) (Nat.lt_irrefl _)
  . cases hm
theorem max_intTuple {Q : Value -> Shared -> Prop} (hh : A.handled = none) (hl : s.heap.IsTuple l (intItems xs)) (hne : 0 < xs.size)
    (h : ∀ v h' tk, (intItems xs)[argBest (fun i j => decide (numAt xs i > numAt xs j)) (xs.size - 1)]? = some v -> (∀ b o, s.heap.get? b = some o -> h'.get? b = some o) -> Q v { s with heap := h', toks := tk }) :
    wpAny (model prog w) A (call (.builtin "max") [.ref l]) Q E s := by
  refine call_max_walk (iter_intTuple hl fun s₂ e st hfp hlI => ?_); subst e; refine ⟨_, _, _, _, _, _, _, rfl, Walks.tuple (A := A.in1) hh _ l hlI (intItems xs), st, hfp, by simpa [intItems] using hne, CmpOf.ints_gt (numAt xs) (fun _ _ => intItems_at), fun v h' tk hP hk => ?_⟩
  exact h v h' tk (by simpa [intItems] using hP) (oldT_kept hk)
theorem min_intTuple {Q : Value -> Shared -> Prop} (hh : A.handled = none) (hl : s.heap.IsTuple l (intItems xs)) (hne : 0 < xs.size)
    (h : ∀ v h' tk, (intItems xs)[argBest (fun i j => decide (numAt xs i < numAt xs j)) (xs.size - 1)]? = some v -> (∀ b o, s.heap.get? b = some o -> h'.get? b = some o) -> Q v { s with heap := h', toks := tk }) :
    wpAny (model prog w) A (call (.builtin "min") [.ref l]) Q E s := by
  refine call_min_walk (iter_intTuple hl fun s₂ e st hfp hlI => ?_); subst e; refine ⟨_, _, _, _, _, _, _, rfl, Walks.tuple (A := A.in1) hh _ l hlI (intItems xs), st, hfp, by simpa [intItems] using hne, CmpOf.ints_lt (numAt xs) (fun _ _ => intItems_at), fun v h' tk hP hk => ?_⟩
  exact h v h' tk (by simpa [intItems] using hP) (oldT_kept hk)
end
end PySem
namespace L2
open PySem PySem.Spec PyProof.Rows
section
variable {X : Cx}
inductive rMinT (K : PySem.W.Frag) (xs : (List V)) (H : Hp) (Q : VK) : Prop
  | mk (p : Addr) (ns : List Int) (m : Int) (z1_ : xs = [.ref p]) (z2_ : SqT K H p (ns.map V.int)) (z3_ : m ∈ ns) (z4_ : (∀ n ∈ ns, m <= n)) (z5_ : Q (.int m) H) : rMinT K xs H Q
inductive rMaxT (K : PySem.W.Frag) (xs : (List V)) (H : Hp) (Q : VK) : Prop
  | mk (p : Addr) (ns : List Int) (m : Int) (z1_ : xs = [.ref p]) (z2_ : SqT K H p (ns.map V.int)) (z3_ : m ∈ ns) (z4_ : (∀ n ∈ ns, n <= m)) (z5_ : Q (.int m) H) : rMaxT K xs H Q
theorem call_minT (hc : X.calm = true) : CallR X (.builtin "min") (rMinT X.K) := by
  intro pins s σ H xs us Q I r h; obtain ⟨p, ns, m, rfl, hq, hm, hle, q⟩ := h; obtain ⟨u, rfl, rx⟩ := vals1 r
  cases rx
  obtain ⟨its, rv, pl, hz⟩ := I.tuple hq; obtain ⟨ys, h1, h2⟩ := ints_items rv; subst h1; have hlen : ys.length = ns.length := by rw [<- h2, List.length_map]
  have hpos : 0 < ns.length := List.length_pos_of_mem hm
  have hl : s.heap.IsTuple p (intItems ys.toArray) := by
    have : s.heap.IsTuple p (ys.map fun p => Value.int p.1 p.2).toArray := pl
    unfold intItems
    simpa using this
  refine min_intTuple (xs := ys.toArray) (I.ok.hd hc) hl (by rw [List.size_toArray, hlen]; exact hpos) fun v h' tk hv k => ⟨.int m, H, I.kept k, ?_, q⟩
  have hb := argBest_le (fun i j => decide (numAt ys.toArray i < numAt ys.toArray j)) (ys.toArray.size - 1); obtain ⟨t, rfl⟩ := intItems_at hv; rw [List.size_toArray, hlen] at hb hv ⊢; have hbl : argBest (fun i j => decide (numAt ys.toArray i < numAt ys.toArray j)) (ns.length - 1) < ns.length := by omega
  have e : numAt ys.toArray (argBest (fun i j => decide (numAt ys.toArray i < numAt ys.toArray j)) (ns.length - 1)) = m := by
    refine Int.le_antisymm ?_ ?_
    . obtain ⟨j, hj⟩ := List.mem_iff_getElem?.mp hm
      obtain ⟨hjl, e⟩ := List.getElem?_eq_some_iff.mp hj; have := argBest_min (numAt ys.toArray) (ns.length - 1) j (by omega)
      rw [numAt_of h2 hjl, e] at this; exact this
    . rw [numAt_of h2 hbl]
      exact hle _ (List.getElem_mem _)
  rw [e]; exact ⟨_, rfl⟩
theorem call_maxT (hc : X.calm = true) : CallR X (.builtin "max") (rMaxT X.K) := by
  intro pins s σ H xs us Q I r h; obtain ⟨p, ns, m, rfl, hq, hm, hle, q⟩ := h; obtain ⟨u, rfl, rx⟩ := vals1 r
  cases rx
  obtain ⟨its, rv, pl, hz⟩ := I.tuple hq; obtain ⟨ys, h1, h2⟩ := ints_items rv; subst h1; have hlen : ys.length = ns.length := by rw [<- h2, List.length_map]
  have hpos : 0 < ns.length := List.length_pos_of_mem hm
  have hl : s.heap.IsTuple p (intItems ys.toArray) := by
    have : s.heap.IsTuple p (ys.map fun p => Value.int p.1 p.2).toArray := pl
    unfold intItems
    simpa using this
  refine max_intTuple (xs := ys.toArray) (I.ok.hd hc) hl (by rw [List.size_toArray, hlen]; exact hpos) fun v h' tk hv k => ⟨.int m, H, I.kept k, ?_, q⟩
  have hb := argBest_le (fun i j => decide (numAt ys.toArray i > numAt ys.toArray j)) (ys.toArray.size - 1); obtain ⟨t, rfl⟩ := intItems_at hv; rw [List.size_toArray, hlen] at hb hv ⊢; have hbl : argBest (fun i j => decide (numAt ys.toArray i > numAt ys.toArray j)) (ns.length - 1) < ns.length := by omega
  have e : numAt ys.toArray (argBest (fun i j => decide (numAt ys.toArray i > numAt ys.toArray j)) (ns.length - 1)) = m := by
    refine Int.le_antisymm ?_ ?_
    . rw [numAt_of h2 hbl]
      exact hle _ (List.getElem_mem _)
    . obtain ⟨j, hj⟩ := List.mem_iff_getElem?.mp hm
      obtain ⟨hjl, e⟩ := List.getElem?_eq_some_iff.mp hj; have := argBest_max (numAt ys.toArray) (ns.length - 1) j (by omega)
      rw [numAt_of h2 hjl, e] at this; exact this
  rw [e]; exact ⟨_, rfl⟩
theorem rc_tup {A : Around} {pins : List (Addr × Obj)} {σ : St} {H : Hp} {s : Shared} (I : Inv X pins σ H s) {c d : Addr} {xs ys : List V} (hc : H c = some (.tup xs)) (hd : H d = some (.tup ys)) (f1 : xs.all flatV = true) (f2 : ys.all flatV = true) (hu : A.units < cLine) : SeqAt.EqAt A s (.ref c) (.ref d) (eqL xs ys) := by
  by_cases e : c = d
  . subst e
    rw [hc] at hd
    cases hd
    rw [show eqL xs xs = true from by
      unfold eqL
      rw [show (xs.length == xs.length) = true from beq_iff_eq.mpr rfl, Bool.true_and]
      exact all_eq_self f1 _ (Nat.le_refl _)]
    exact SeqAt.EqAt.same _
  . obtain ⟨its, r, pl, _⟩ := I.tuple (SqT.of hc)
    obtain ⟨its2, r2, pl2, _⟩ := I.tuple (SqT.of hd); have l1 := r.length; have l2 := r2.length; refine SeqAt.EqAt.of_refs e ?_; have := SeqAt.RcAt.tuples (A := A) pl pl2 hu (eq_each (A := A.in1) r r2 f1 f2)
    have e2 : ((List.range (min its.toArray.size its2.toArray.size)).all (fun j => eqV (xs.getD j .non) (ys.getD j .non)) && its.toArray.size == its2.toArray.size) = eqL xs ys := by
      unfold eqL
      rw [List.size_toArray, List.size_toArray, <- l1, <- l2]
      by_cases hs : xs.length = ys.length
      . rw [hs, Nat.min_self, Bool.and_comm]
      . rw [show (xs.length == ys.length) = false from beq_eq_false_iff_ne.mpr hs, Bool.and_false, Bool.false_and]
    rw [e2] at this; exact this
structure TupsAt (H : Hp) (p : Addr) (rs : List Addr) (yss : List (List V)) : Prop where
  top : H p = some (.lst (rs.map V.ref))
  len : rs.length = yss.length
  each : ∀ (j : Nat) (c : Addr) (ys : List V), rs[j]? = some c -> yss[j]? = some ys -> H c = some (.tup ys)
  flat : ∀ ys ∈ yss, ys.all flatV = true
inductive rEqTr (K : PySem.W.Frag) (x : V) (y : V) (H : Hp) (Q : VK) : Prop
  | mk (t : _) (t' : _) (n : _) (L : _) (L' : _) (rs : _) (rs' : _) (yss : _) (z1_ : x = .ref t) (z2_ : y = .ref t') (z3_ : H t = some (.tup [.int n, .ref L])) (z4_ : H t' = some (.tup [.int n, .ref L'])) (z5_ : TupsAt H L rs yss) (z6_ : TupsAt H L' rs' yss) (z7_ : Q (.bl true) H) : rEqTr K x y H Q
theorem eqL_same {xs : List V} (h : xs.all flatV = true) : eqL xs xs = true := by
  unfold eqL
  rw [show (xs.length == xs.length) = true from beq_iff_eq.mpr rfl, Bool.true_and]
  exact all_eq_self h _ (Nat.le_refl _)
theorem op_eqTr (hu : X.A.units + 2 < cLine) : OpR X (compareOp .Eq) (rEqTr X.K) := by
  intro pins s σ H x y v u Q I rx ry h; obtain ⟨t, t', n, L, L', rs, rs', yss, rfl, rfl, ht, ht', G, G', q⟩ := h
  cases rx
  cases ry
  obtain ⟨its, r, pl, _⟩ := I.tuple (SqT.of (K := X.K) ht); obtain ⟨its2, r2, pl2, _⟩ := I.tuple (SqT.of (K := X.K) ht')
  cases r with
  | cons ra rb =>
    cases rb with
    | cons rb rn =>
      cases rn
      cases r2 with
      | cons ra2 rb2 =>
        cases rb2 with
        | cons rb2 rn2 =>
          cases rn2
          obtain ⟨k1, rfl⟩ := ra; obtain ⟨k2, rfl⟩ := ra2
          cases rb
          cases rb2
          refine SeqAt.eq_tupleAt (e := fun _ => true) pl pl2 (by omega) (fun j h1 h2 => ?_) ⟨.bl true, H, I, ?_, q⟩
          . have hj : j = 0 \/ j = 1 := by
              rw [List.size_toArray] at h1
              simp only [List.length_cons, List.length_nil] at h1
              omega
            rcases hj with rfl | rfl
            . have := SeqAt.EqAt.int_int (A := X.A.in1) (s := s) n k1 n k2
              rw [show (n == n) = true from beq_iff_eq.mpr rfl] at this
              exact this
            . show SeqAt.EqAt X.A.in1 s (.ref L) (.ref L') true
              by_cases e : L = L'
              . subst e
                exact SeqAt.EqAt.same _
              . obtain ⟨i3, r3, p3, _⟩ := I.list (SqL.of (K := X.K) G.top)
                obtain ⟨i4, r4, p4, _⟩ := I.list (SqL.of (K := X.K) G'.top); have l3 := r3.length; have l4 := r4.length; rw [List.length_map] at l3 l4; have gl := G.len; have gl' := G'.len; refine SeqAt.EqAt.of_refs e ?_; have := SeqAt.RcAt.lists (A := X.A.in1) (e := fun _ => true) p3.isList p4.isList (by rw [List.size_toArray, List.size_toArray]; omega) (by show X.A.units + 1 < cLine; omega) (fun j h1 h2 => ?_)
                . rw [show ((List.range i3.toArray.size).all fun _ => true) = true from by rw [List.all_eq_true]; intro _ _; rfl] at this
                  exact this
                . rw [List.size_toArray] at h1 h2
                  have hj : j < rs.length := by omega
                  have hj' : j < rs'.length := by omega
                  obtain ⟨u1, e1, q1⟩ := r3.get (show (rs.map V.ref)[j]? = some (V.ref rs[j]) by rw [List.getElem?_map, List.getElem?_eq_getElem hj]; rfl)
                  obtain ⟨u2, e2, q2⟩ := r4.get (show (rs'.map V.ref)[j]? = some (V.ref rs'[j]) by rw [List.getElem?_map, List.getElem?_eq_getElem hj']; rfl)
                  have e3 : i3.toArray[j] = u1 := by
                    rw [List.getElem?_eq_getElem h1] at e1
                    simpa using Option.some.inj e1
                  have e4 : i4.toArray[j] = u2 := by
                    rw [List.getElem?_eq_getElem h2] at e2
                    simpa using Option.some.inj e2
                  rw [e3, e4]; obtain rfl : u1 = Value.ref rs[j] := q1; obtain rfl : u2 = Value.ref rs'[j] := q2; have hjy : j < yss.length := by omega
                  have hy := List.getElem?_eq_getElem hjy; have fl := G.flat _ (List.getElem_mem hjy); have := rc_tup (A := X.A.in1.in1) I (G.each j _ _ (List.getElem?_eq_getElem hj) hy) (G'.each j _ _ (List.getElem?_eq_getElem hj') hy) fl fl (by show X.A.units + 1 + 1 < cLine; omega)
                  rw [eqL_same fl] at this; exact this
          . rfl
end
theorem TupsAt.up {H H' : Hp} {p : Addr} {rs : List Addr} {yss : List (List V)} (G : TupsAt H p rs yss) (s : Same H H') : TupsAt H' p rs yss := ⟨s _ _ G.top, G.len, fun j c ys h1 h2 => s _ _ (G.each j c ys h1 h2), G.flat⟩
end L2
namespace L2
open PySem PySem.Spec PyProof.Rows
section
variable {P : Program} {w : World} {K : PySem.W.Frag} {mg : Str -> Option Value} {base : Heap} {N : List Str} {qual : Str} {scope0 : Scope} {f : Addr} {cd : Value} {A : Around} {outer : List Env} {s0 : Shared} {H0 : Hp} {E : XK}
theorem ps_setCompE {i : Nat} {y : Str} {py spos : Pos} (hN : (cxOf (CXe P w) P w K mg base N qual scope0 f cd A outer s0 H0 E).N.Nodup) (hi0 : (cxOf (CXe P w) P w K mg base N qual scope0 f cd A outer s0 H0 E).N[i]? = some y) (hx : Loc (cxOf (CXe P w) P w K mg base N qual scope0 f cd A outer s0 H0 E).env.scope y) (K0 : CompOk (cxOf (CXe P w) P w K mg base N qual scope0 f cd A outer s0 H0 E) scope cl N' js) (hi : PI (cxOf (CXe P w) P w K mg base N qual scope0 f cd A outer s0 H0 E) tg iter wi)
    (hg : ∀ C s₀ H₀ fp, PG (compCx (cxOf (CXe P w) P w K mg base N qual scope0 f cd A outer s0 H0 E) N' scope cl C s₀ H₀ fp) tg g) (hif : ∀ C s₀ H₀ fp, PIf (compCx (cxOf (CXe P w) P w K mg base N qual scope0 f cd A outer s0 H0 E) N' scope cl C s₀ H₀ fp) ifs ti)
    (he : ∀ C s₀ H₀ fp xe, Passes (CXe P w) (compCxE (cxOf (CXe P w) P w K mg base N qual scope0 f cd A outer s0 H0 E) N' scope cl C s₀ H₀ fp xe) E -> PE (compCxE (cxOf (CXe P w) P w K mg base N qual scope0 f cd A outer s0 H0 E) N' scope cl C s₀ H₀ fp xe) elt te)
    (hsw : swapsWith (.ListComp elt [⟨tg, iter, ifs, 0⟩] scope pos) (some (.Name y py)) spos.line (cxOf (CXe P w) P w K mg base N qual scope0 f cd A outer s0 H0 E).env = pure true := by rfl) (hs : ∀ x, foldedSetIterable iter (cxOf (CXe P w) P w K mg base N qual scope0 f cd A outer s0 H0 E).env x = pure x := by intro _; rfl)
    (hf : (cxOf (CXe P w) P w K mg base N qual scope0 f cd A outer s0 H0 E).fn y = true \/ (cxOf (CXe P w) P w K mg base N qual scope0 f cd A outer s0 H0 E).env.scope.names.lookup y = some .local := by first | exact .inl rfl | exact .inr rfl | assumption) :
    PS (cxOf (CXe P w) P w K mg base N qual scope0 f cd A outer s0 H0 E) (.Assign [.Name y py] (.ListComp elt [⟨tg, iter, ifs, 0⟩] scope pos) spos) (tAsg (tComp wi js g ti te) (gName i)) := by
  intro pins s σ H D I h; rw [exec_Assign_Name_used _ _ _ _ hsw]; refine wpAny_bind (wpAny_standAt (wpAny_bind ?_))
  show wpAny _ (cxOf (CXe P w) P w K mg base N qual scope0 f cd A outer s0 H0 E).A (do let _ <- comprehension (.ListComp elt [⟨tg, iter, ifs, 0⟩] scope pos) scope (cxOf (CXe P w) P w K mg base N qual scope0 f cd A outer s0 H0 E).env _ (newList []) false (eval iter (cxOf (CXe P w) P w K mg base N qual scope0 f cd A outer s0 H0 E).env) (some (assign (.Name y py) (cxOf (CXe P w) P w K mg base N qual scope0 f cd A outer s0 H0 E).env))) _ _ s
  refine wpAny_bind (wpAny_mono (wpAny_comprehension_free (use := some (assign (.Name y py) (cxOf (CXe P w) P w K mg base N qual scope0 f cd A outer s0 H0 E).env)) (Q := fun _ s' => SP (cxOf (CXe P w) P w K mg base N qual scope0 f cd A outer s0 H0 E) pins D .next s') rfl hs K0.clos K0.kind K0.names
    (thn (hi pins s σ H _ I h) fun v s1 h1 => thn h1 fun itv s2 h2 => ?_)) (fun _ s' hq => wpAny_pure (wpAny_pure hq)) fun _ _ e => e)
  refine hld fun g_ k_ => ?_; obtain ⟨it, fp, tn, J, H2, e, I2, T, st2, f2, hW⟩ := h2; refine k_ ?_; subst e; refine comp_blockE (E := E) (RR := fun acc C => compPost (model P w) (cxOf (CXe P w) P w K mg base N qual scope0 f cd A outer s0 H0 E).A (cxOf (CXe P w) P w K mg base N qual scope0 f cd A outer s0 H0 E).xe (some (assign (.Name y py) (cxOf (CXe P w) P w K mg base N qual scope0 f cd A outer s0 H0 E).env)) (fun _ s' => SP (cxOf (CXe P w) P w K mg base N qual scope0 f cd A outer s0 H0 E) pins D .next s') acc C) K0 rfl I2 T st2 f2 hg hif he hW ?_ ?_
  . intro L C s' H' I' hn hC q
    obtain ⟨m, hm⟩ := hn
    show wpAny _ (cxOf (CXe P w) P w K mg base N qual scope0 f cd A outer s0 H0 E).A (assign (.Name y py) (cxOf (CXe P w) P w K mg base N qual scope0 f cd A outer s0 H0 E).env (.ref L)) _ _ _
    refine wpAny_assign_Name (store_ok2 (v := .ref L) I' hN hi0 hx rfl (fun s'' I'' hch => ?_) hf); obtain ⟨a, hsb, ha⟩ := hch
    have hCa : C ≠ a := by
      rcases ha with e | e
      . rw [e]; exact hC.2.1
      . exact Ne.symm (hC.2.2.2.2.1 _ _ e)
    refine ⟨m, hm.sameBut hsb hCa, fun h' hs' => ⟨_, H', comp_free I'' ?_ hs', q⟩⟩; exact hC
  . rintro D C e s' hC hCs p_
    refine hld fun g_ k_ => ?_; obtain ⟨a, cls, a0, H', B, rfl, F, hn, hE⟩ := p_; refine k_ ?_
    show wpAny _ _ (noteFrame (.ref a) (envOfC qual scope0 s0.heap.objs.size f cd)) _ _ s'
    refine wpAny_noteFrame_onW (L := s0.heap.objs.size) I2.ok.frames F.ff rfl F.tr F.stays F.hen fun h2 N2 => ?_; obtain ⟨n1, n2, n3, n4⟩ := N2; have F2 := F.turn hC n1 n2 n3 n4; obtain ⟨m, hm⟩ := hn; have hm2 := ns_slots hm n4; refine ⟨m, hm2, fun h3 hs3 cenv hcl => ?_⟩; have F3 := F2.drop hC hCs ⟨m, hm2⟩ hs3
    unfold PySem.passOn
    refine hld fun g_ k_ => ?_; obtain ⟨oe, vs, T, oT, ts, he', hcls, hd, h1, hrest⟩ := id F3.tr; refine k_ ?_; refine wpAny_bind (wpAny_field he' hd h1 ?_); rw [if_neg (show ¬ ((Value.ref T == Value.none) = true) from by simp)]
    refine wpAny_bind (setFlight_any F3.stays F3.ff F3.tr fun h4 fl' y1 y2 y3 y4 => ?_); have F4 := F3.turn hC y1 y2 y3 y4; refine wpAny_throw ?_
    have hch : ∀ b ∈ fp, (b ∈ (cxOf (CXe P w) P w K mg base N qual scope0 f cd A outer s0 H0 E).ex \/ s0.heap.objs.size <= b) /\ b ≠ (cxOf (CXe P w) P w K mg base N qual scope0 f cd A outer s0 H0 E).env.locals /\ (∀ x c, (cxOf (CXe P w) P w K mg base N qual scope0 f cd A outer s0 H0 E).env.cells.lookup x = some c -> c ≠ b) /\ ∀ p ∈ (cxOf (CXe P w) P w K mg base N qual scope0 f cd A outer s0 H0 E).pn ++ pins, p.1 ≠ b :=
      fun b hb => ⟨(f2 b hb).2.2.2.1, (f2 b hb).2.1, (f2 b hb).2.2.2.2.1, (f2 b hb).2.2.2.2.2⟩
    have I4 := I2.call' (ch := fp) F4.os F4.un F4.hok F4.bare hch; refine leavesX I4 F4.stays F4.hen F4.ff F4.tr (fun b ob q hb hc => F4.cov b ob q hb ?_ ?_) hE
    . intro z
      rcases hc with ⟨o0, h0⟩ | hn'
      . have := Heap.lt_size h0
        have hsz := I2.sz; rw [z] at this; exact absurd (Nat.lt_of_lt_of_le this (Nat.le_trans hsz hC)) (Nat.lt_irrefl _)
      . rw [z] at hn'
        exact hn' F4.cn
    . rcases hc with ⟨o0, h0⟩ | hn'
      . refine .inl ⟨fun hb' => ?_, I2.base.there b o0 h0 (fun z => absurd (show b ∈ ([] : List Addr) from z) (by simp))⟩
        rcases (hch b hb').1 with z | z
        . exact absurd (show b ∈ ([] : List Addr) from z) (by simp)
        . exact absurd (Nat.lt_of_lt_of_le (Heap.lt_size h0) z) (Nat.lt_irrefl _)
      . exact .inr hn'
end
end L2
namespace L2
open PySem PySem.Spec PyProof.Rows
section
variable {X : Cx} {k : Nat} {g : Addr} {fd : FuncData} {ps : List Str} {sp : Sp} {E : XK}
theorem run_fn1 {pins : List (Addr × Obj)} {σ : St} {H : Hp} {s : Shared} {Q : VK} {us : List Value} {vs : List V} (F : FnOk X.prog X.w X.K X.mg X.base CX0 k g fd ps sp) (hr : Room k X.A.in1) (hb : Binds X.K fd ps [])
    (I : Inv X pins σ H s) (r : Vals vs us) (h : sp vs H Q E) : wpAny (model X.prog X.w) X.A.in1 (call (.ref g) us) (EP X pins σ Q) (fun _ _ => False) s := by
  have hl : (us ++ []).length = ps.length := by rw [List.append_nil, <- r.length]; exact F.len _ _ _ _ h
  have hbb := hb s us I.kIn hl; rw [List.append_nil] at hbb; refine wpAny_call (codeAny_mono (F.run X.A.in1 X.stack s H ⟨us, []⟩ us vs Q E hr I.env0.in1 hbb r h) fun r s' hq => ?_)
  cases r with
  | error e => exact False.elim hq
  | ok fl =>
    cases fl with
    | ret u => exact I.after hq
    | next => exact False.elim hq
    | brk => exact False.elim hq
    | cont => exact False.elim hq
structure MinAt (X : Cx) (pins : List (Addr × Obj)) (σ : St) (H1 : Hp) (l I S : Addr) (xs : List V) (ks : Nat -> Str) (j i : Nat) (vb : Value) (tb : Tok) (H : Hp) (s : Shared) : Prop where
  inv : Inv X pins σ H s
  same : Same H1 H
  it : s.heap.IsListIter I l (j + 1)
  best : ∃ c, s.heap.get? S = some (seqObj "list" #[vb, .str (ks i) tb] c)
  rel : ∃ y, xs[i]? = some y /\ RelV y vb
  le : i <= j
  fI : FpOk X pins H I
  fS : FpOk X pins H S
  most : ∀ j', j' <= j -> ¬ (ks j').cps.toList < (ks i).cps.toList
theorem min_step {pins : List (Addr × Obj)} {σ : St} {H1 : Hp} {l I S : Addr} {xs : List V} {ks : Nat -> Str} {R : Result -> Shared -> Prop} (F : FnOk X.prog X.w X.K X.mg X.base CX0 k g fd ps sp) (hr : Room (k + 1) X.A) (hb : Binds X.K fd ps []) (hc : X.calm = true) (hSI : S ≠ I)
    (hl : H1 l = some (.lst xs)) (turn : ∀ (i : Nat) (y : V) (H2 : Hp) (Qk : VK), xs[i]? = some y -> Same H1 H2 -> (∀ H3, Same H2 H3 -> Qk (.str (ks i)) H3) -> sp [y] H2 Qk E)
    (hR : ∀ (i : Nat) (y : V) (u : Value) (H2 : Hp) (s2 : Shared), xs[i]? = some y -> RelV y u -> (∀ j, j < xs.length -> ¬ (ks j).cps.toList < (ks i).cps.toList) -> Same H1 H2 -> Inv X pins σ H2 s2 -> R (.ok (.ret u)) s2) :
    ∀ (r j i : Nat) (vb : Value) (tb : Tok) (H : Hp) (s : Shared), xs.length - (j + 1) = r -> j + 1 <= xs.length -> MinAt X pins σ H1 l I S xs ks j i vb tb H s ->
      codeAny (model X.prog X.w) X.A (.builtin "min.loop" ⟨[.ref I, .ref g, .ref S], []⟩) R s := by
  have hname : (toString "min" ++ toString ".loop" : String) = "min.loop" := by decide
  have fp : ∀ {H H' : Hp} {b : Addr}, FpOk X pins H b -> H' b = none -> FpOk X pins H' b := fun h n => ⟨n, h.2⟩; intro r
  induction r with
  | zero =>
    intro j i vb tb H s hrr hj M; obtain ⟨c, hS⟩ := M.best; obtain ⟨y, hy, ry⟩ := M.rel; obtain ⟨its, rv, p, hz⟩ := M.inv.list (SqL.of (M.same _ _ hl)); have hlen := rv.length; refine codeAny_builtin PySem.F.entry_min_loop ?_; rw [Around.under_plainId PySem.F.plain_min_loop _]
    show wpAny _ X.A.in1 (seqItems? (.ref S) >>= _) _ _ _
    refine wpAny_bind (wpAny_seqItems hS rfl ?_)
    show wpAny _ X.A.in1 (tryCatch (pyNext (.ref I)) _ >>= _) _ _ _
    refine hld fun g_ k_ => ?_; obtain ⟨f0, f1, f2, f3, f4, f5⟩ := M.fI; refine k_ ?_; refine wpAny_bind (wpAny_tryCatch (wpAny_pyNext_list_end (M.inv.ok.hd hc) M.it p.isList (by simp; omega) fun h' eb => ?_))
    have I1 : Inv X pins σ H { s with heap := h' } := M.inv.turned (t' := s.toks) (fun b o hb e => eb b o hb e) f0 f1 f3 f4 f5
    have hS' : h'.get? S = some (seqObj "list" #[vb, .str (ks i) tb] c) := eb S _ hSI hS; refine hld fun g_ k_ => ?_; obtain ⟨g0, g1, g2, g3, g4, g5⟩ := M.fS; refine k_ ?_; have s1 := Heap.SameBut.update h' S (Obj.mapSeq fun _ => (#[] : Array Value))
    show wpAny _ X.A.in1 (updateSeq S (fun _ => #[]) >>= _) _ _ _
    refine wpAny_bind ?_; refine wpAny_updateSeq hS' rfl (wpAny_bind (wpAny_letGo (wpAny_pure ?_))); have I2 : Inv X pins σ H { s with heap := h'.update S (Obj.mapSeq fun _ => (#[] : Array Value)) } := I1.turned (t' := s.toks) (fun b o hb e => (s1.2 b hb).trans e) g0 g1 g3 g4 g5
    exact hR i y vb H _ hy ry (fun j' hj' => M.most j' (by omega)) M.same I2
  | succ r ih =>
    intro j i vb tb H s hrr hj M; have hlt : j + 1 < xs.length := by omega
    obtain ⟨c, hS⟩ := M.best; obtain ⟨y, hy, ry⟩ := M.rel; obtain ⟨its, rv, p, hz⟩ := M.inv.list (SqL.of (M.same _ _ hl)); have hlen := rv.length; obtain ⟨u, hu, ru⟩ := rv.get (List.getElem?_eq_getElem hlt); refine codeAny_builtin PySem.F.entry_min_loop ?_; rw [Around.under_plainId PySem.F.plain_min_loop _]
    show wpAny _ X.A.in1 (seqItems? (.ref S) >>= _) _ _ _
    refine wpAny_bind (wpAny_seqItems hS rfl ?_)
    show wpAny _ X.A.in1 (tryCatch (pyNext (.ref I)) _ >>= _) _ _ _
    refine hld fun g_ k_ => ?_; obtain ⟨f0, f1, f2, f3, f4, f5⟩ := id M.fI; refine k_ ?_; refine wpAny_bind (wpAny_tryCatch (wpAny_pyNext_list_item M.it p.isList (x := u) (by simpa using hu) fun h' st' sb => ?_))
    have I1 : Inv X pins σ H { s with heap := h' } := M.inv.turned (t' := s.toks) (fun b o hb e => (sb.2 b hb).trans e) f0 f1 f3 f4 f5
    have hS' : h'.get? S = some (seqObj "list" #[vb, .str (ks i) tb] c) := (sb.2 S hSI).trans hS; refine hld fun g_ k_ => ?_; obtain ⟨oI, hoI, hoc, hod⟩ := id st'; refine k_ ?_
    have I1p := I1.pinned (fp := [S, I]) (fun b hb => by
      rcases List.mem_cons.mp hb with rfl | hb
      . exact M.fS
      . rw [List.mem_singleton.mp hb]; exact M.fI) (fun b hb => by
      rcases List.mem_cons.mp hb with rfl | hb
      . exact ⟨_, hS', fun v z => nomatch z⟩
      . rw [List.mem_singleton.mp hb]; exact ⟨_, hoI, fun v z => by rw [hod] at z; cases z⟩)
    show wpAny _ X.A.in1 (tryCatch (holding [u] (call (.ref g) [u])) _ >>= _) _ _ _
    refine wpAny_bind (wpAny_tryCatch (wpAny_holding (wpAny_mono (run_fn1 (Q := fun v H3 => v = .str (ks (j + 1)) /\ Same H H3) (E := E) F hr.in1 hb I1p (.cons ru .nil) (turn (j + 1) _ H _ (List.getElem?_eq_getElem hlt) M.same fun H3 s3 => ⟨rfl, s3⟩)) (fun x s2 he => ?_) fun _ _ hF => hF.elim))); refine hld fun g_ k_ => ?_; obtain ⟨v2, H3, I3, r3, rfl, s3⟩ := he; refine k_ ?_; obtain ⟨t2, rfl⟩ := r3; have pS := I3.pin (S, seqObj "list" #[vb, .str (ks i) tb] c) (List.mem_append_right _ (List.mem_append_right _ (mem_pinsAt (by simp) hS')))
    have pI := I3.pin (I, oI) (List.mem_append_right _ (List.mem_append_right _ (mem_pinsAt (by simp) hoI)))
    have I3u := I3.unpinned; have nS : s2.heap.get? S = some (seqObj "list" #[vb, .str (ks i) tb] c) := pS.1; have fS3 : FpOk X pins H3 S := fp M.fS pS.2.1; have fI3 : FpOk X pins H3 I := fp M.fI pI.2.1; have hit3 : s2.heap.IsListIter I l (j + 1 + 1) := ⟨oI, pI.1, hoc, hod⟩; have s13 := M.same.trans s3
    show wpAny _ X.A.in1 (tryCatch (holding [u, .str (ks (j + 1)) t2] (richCompare .Lt (.str (ks (j + 1)) t2) (.str (ks i) tb) >>= _)) _ >>= _) _ _ _
    refine wpAny_bind (wpAny_tryCatch (wpAny_holding (wpAny_bind (lt_str ?_)))); refine wpAny_bind (wpAny_holding (wpAny_truthy_bool ?_)); refine wpAny_bind (wpAny_letGo (wpAny_pure ?_))
    by_cases hb' : (ks (j + 1)).cps.toList < (ks i).cps.toList
    . have s1 := Heap.SameBut.update s2.heap S (Obj.mapSeq fun _ => #[u, .str (ks (j + 1)) t2])
      obtain ⟨c2, hc2⟩ : ∃ c2, (s2.heap.update S (Obj.mapSeq fun _ => #[u, .str (ks (j + 1)) t2])).get? S = some (seqObj "list" #[u, .str (ks (j + 1)) t2] c2) := ⟨_, get?_update_seq nS fun _ => #[u, .str (ks (j + 1)) t2]⟩
      simp only [hb', decide_true, if_true]
      refine wpAny_bind ?_; refine wpAny_updateSeq nS rfl (wpAny_bind (wpAny_letGo ?_)); rw [hname]; refine hld fun g_ k_ => ?_; obtain ⟨g0, g1, g2, g3, g4, g5⟩ := id fS3; refine k_ ?_; have I4 : Inv X pins σ H3 { s2 with heap := s2.heap.update S (Obj.mapSeq fun _ => #[u, .str (ks (j + 1)) t2]) } := I3u.turned (t' := s2.toks) (fun b o hb e => (s1.2 b hb).trans e) g0 g1 g3 g4 g5
      refine wpAny_pure ⟨plainId_quiet PySem.F.plain_min_loop _, ih (j + 1) (j + 1) u t2 H3 _ (by omega) hlt ⟨I4, s13, ⟨oI, (s1.2 I hSI.symm).trans pI.1, hoc, hod⟩, ⟨c2, hc2⟩, ⟨_, List.getElem?_eq_getElem hlt, ru⟩, Nat.le_refl _, fI3, fS3, fun j' hj' => ?_⟩⟩
      by_cases e : j' = j + 1
      . subst e
        exact List.lt_irrefl _
      . intro z
        exact M.most j' (by omega) (List.lt_trans z hb')
    . simp only [hb', decide_false, Bool.false_eq_true, if_false]
      refine wpAny_bind (wpAny_letGo ?_); rw [hname]; refine wpAny_pure ⟨plainId_quiet PySem.F.plain_min_loop _, ih (j + 1) i vb tb H3 s2 (by omega) hlt ⟨I3u, s13, hit3, ⟨c, nS⟩, ⟨y, hy, ry⟩, by have := M.le; omega, fI3, fS3, fun j' hj' => ?_⟩⟩
      by_cases e : j' = j + 1
      . subst e
        exact hb'
      . exact M.most j' (by omega)
def tMinKey (sp : Sp) (E : XK) (te : TE) : TE := fun σ H Q => (tCons te tNil) σ H fun vs H1 => ∃ (l : Addr) (xs : List V) (ks : Nat -> Str), vs = [.ref l] /\ H1 l = some (.lst xs) /\ 0 < xs.length /\
  (∀ (i : Nat) (y : V) (H2 : Hp) (Qk : VK), xs[i]? = some y -> Same H1 H2 -> (∀ H3, Same H2 H3 -> Qk (.str (ks i)) H3) -> sp [y] H2 Qk E) /\
  ∀ (i : Nat) (y : V) (H2 : Hp), xs[i]? = some y -> (∀ j, j < xs.length -> ¬ (ks j).cps.toList < (ks i).cps.toList) -> Same H1 H2 -> Q y H2
theorem pe_minKey {e : Expr} {te : TE} {kx : Str} {p kp kp1 pos : Pos} (F : FnOk X.prog X.w X.K X.mg X.base CX0 k g fd ps sp) (hr : Room (k + 1) X.A) (hb : Binds X.K fd ps []) (hc : X.calm = true) (hg : Gl X "min") (hm : X.mg "min" = none) (hgx : Gl X kx) (hmx : X.mg kx = some (.ref g))
    (he : PE X e te) (hdb : (kx == ("__debug__" : Str)) = false := by decide) (hs : starEach [e] X.env = [(false, eval e X.env)] := by rfl) :
    PE X (.Call (.Name "min" p) [e] [⟨some "key", .Name kx kp1, kp⟩] pos) (tMinKey sp E te) := by
  intro pins s σ H Q I0 h; refine wpAny_Call_Name_kw (ld_blt I0 hg hm PyProof.Rows.boot_min ?_); have pa : PA X [e] (tCons te tNil) := pa_cons he pa_nil (by rw [hs]; rfl)
  refine callWith_kw (thn (pa pos pins s σ H _ I0 h) fun us s1 ⟨vs, H1, I1, rv0, q1⟩ => ?_) (by rw [hs]; rfl) (by rw [hs]; rfl)
  refine hld fun g_ k_ => ?_; obtain ⟨l, xs, ks, rfl, hl, hpos, turn, q⟩ := q1; refine k_ ?_; obtain ⟨u0, rfl, ru0⟩ := vals1 rv0
  cases ru0
  refine kws_cons (ld_glob I1 hgx hmx ?_ hdb); refine kws_nil ?_
  show wpAny _ X.A (call (.builtin "min") [.ref l] [(Str.ofString "key", .ref g)]) _ _ s1
  have hname : (toString "min" ++ toString ".loop" : String) = "min.loop" := by decide
  obtain ⟨its, rv, pl, hz⟩ := I1.list (SqL.of hl); have hlen := rv.length; obtain ⟨u, hu, ru⟩ := rv.get (List.getElem?_eq_getElem hpos); refine kmk_tree PySem.F.kind_min PySem.F.plain_min PySem.F.entry_min (kmk_min_key _ _) ?_
  show wpAny _ X.A.in1 (Builtin.Builtins.bindParams "min" ["key", "default"] 0 ⟨[], [(Str.ofString "key", .ref g)]⟩ >>= _) _ _ s1
  refine wpAny_bind (wpAny_of_eq (show Builtin.Builtins.bindParams "min" ["key", "default"] 0 ⟨[], [(Str.ofString "key", .ref g)]⟩ = pure [some (.ref g), none] from rfl) ?_)
  refine wpAny_bind (wpAny_pure ?_); refine wpAny_bind (wpAny_pyIter_list pl.isList ?_); refine wpAny_bind (wpAny_newList ?_ (Nat.zero_le _)); rw [hname]; have hSz : (s1.heap.push { cls := .type "list_iterator", data := .fields #[.ref l, .int 0 0] }).objs.size = s1.heap.objs.size + 1 := size_push' ..
  have gI : ((s1.heap.push { cls := .type "list_iterator", data := .fields #[.ref l, .int 0 0] }).push (seqObj "list" #[] 0)).get? s1.heap.objs.size = some { cls := .type "list_iterator", data := .fields #[.ref l, .int 0 0] } :=
    Heap.get?_push_of_some _ (Heap.get?_push_size _ rfl)
  have gS : ((s1.heap.push { cls := .type "list_iterator", data := .fields #[.ref l, .int 0 0] }).push (seqObj "list" #[] 0)).get? (s1.heap.push { cls := .type "list_iterator", data := .fields #[.ref l, .int 0 0] }).objs.size = some (seqObj "list" #[] 0) := Heap.get?_push_size _ rfl; rw [hSz] at gS; refine wpAny_pure ⟨plainId_quiet PySem.F.plain_min_loop _, ?_⟩; obtain ⟨IT, hIT⟩ : ∃ IT, IT = s1.heap.objs.size := ⟨_, rfl⟩; obtain ⟨S, hSd⟩ : ∃ S, S = s1.heap.objs.size + 1 := ⟨_, rfl⟩; have hSI : S ≠ IT := by omega
  obtain ⟨h0, hh0⟩ : ∃ h0, h0 = (s1.heap.push { cls := .type "list_iterator", data := .fields #[.ref l, .int 0 0] }).push (seqObj "list" #[] 0) := ⟨_, rfl⟩; have I2 : Inv X pins σ H1 { s1 with heap := h0 } := I1.kept (t' := s1.toks) fun b o e => by rw [hh0]; exact Heap.get?_push_of_some _ (Heap.get?_push_of_some _ e)
  have fI : FpOk X pins H1 IT := I1.fpOk (by omega) (I1.hok.fresh (by omega))
  have fS : FpOk X pins H1 S := I1.fpOk (by omega) (I1.hok.fresh (by omega))
  have hfp : ∀ {H' : Hp} {b : Addr}, FpOk X pins H1 b -> H' b = none -> FpOk X pins H' b := fun h n => ⟨n, h.2⟩; rw [<- hh0, <- hIT] at gI; rw [<- hh0, <- hSd] at gS
  show codeAny _ X.A (.builtin "min.loop" ⟨[.ref s1.heap.objs.size, .ref g, .ref (s1.heap.push { cls := .type "list_iterator", data := .fields #[.ref l, .int 0 0] }).objs.size], []⟩) _ { s1 with heap := (s1.heap.push { cls := .type "list_iterator", data := .fields #[.ref l, .int 0 0] }).push (seqObj "list" #[] 0) }
  rw [hSz, <- hSd, <- hIT, <- hh0]; obtain ⟨its2, rv2, pl2, hz2⟩ := I2.list (SqL.of hl); have hlen2 := rv2.length; obtain ⟨u2, hu2, ru2⟩ := rv2.get (List.getElem?_eq_getElem hpos); refine codeAny_builtin PySem.F.entry_min_loop ?_; rw [Around.under_plainId PySem.F.plain_min_loop _]
  show wpAny _ X.A.in1 (seqItems? (.ref S) >>= _) _ _ _
  refine wpAny_bind (wpAny_seqItems gS rfl ?_)
  show wpAny _ X.A.in1 (tryCatch (pyNext (.ref IT)) _ >>= _) _ _ _
  refine hld fun g_ k_ => ?_; obtain ⟨f0, f1, f2, f3, f4, f5⟩ := id fI; refine k_ ?_; refine wpAny_bind (wpAny_tryCatch (wpAny_pyNext_list_item ⟨_, gI, rfl, rfl⟩ pl2.isList (x := u2) (by simpa using hu2) fun h' st' sb => ?_))
  have I3 : Inv X pins σ H1 { s1 with heap := h' } := I2.turned (t' := s1.toks) (fun b o hb e => (sb.2 b hb).trans e) f0 f1 f3 f4 f5
  have gS' : h'.get? S = some (seqObj "list" #[] 0) := (sb.2 S hSI).trans gS; refine hld fun g_ k_ => ?_; obtain ⟨oI, hoI, hoc, hod⟩ := id st'; refine k_ ?_
  have I3p := I3.pinned (fp := [S, IT]) (fun b hb => by
    rcases List.mem_cons.mp hb with rfl | hb
    . exact fS
    . rw [List.mem_singleton.mp hb]; exact fI) (fun b hb => by
    rcases List.mem_cons.mp hb with rfl | hb
    . exact ⟨_, gS', fun v z => nomatch z⟩
    . rw [List.mem_singleton.mp hb]; exact ⟨_, hoI, fun v z => by rw [hod] at z; cases z⟩)
  show wpAny _ X.A.in1 (tryCatch (holding [u2] (call (.ref g) [u2])) _ >>= _) _ _ _
  refine wpAny_bind (wpAny_tryCatch (wpAny_holding (wpAny_mono (run_fn1 (Q := fun v H3 => v = .str (ks 0) /\ Same H1 H3) (E := E) F hr.in1 hb I3p (.cons ru2 .nil) (turn 0 _ H1 _ (List.getElem?_eq_getElem hpos) (Same.refl _) fun H3 s3 => ⟨rfl, s3⟩)) (fun x s2 he => ?_) fun _ _ hF => hF.elim))); refine hld fun g_ k_ => ?_; obtain ⟨v2, H3, I4, r3, rfl, s3⟩ := he; refine k_ ?_; obtain ⟨t2, rfl⟩ := r3; have pS := I4.pin (S, seqObj "list" #[] 0) (List.mem_append_right _ (List.mem_append_right _ (mem_pinsAt (by simp) gS')))
  have pI := I4.pin (IT, oI) (List.mem_append_right _ (List.mem_append_right _ (mem_pinsAt (by simp) hoI)))
  have I4u := I4.unpinned; have nS : s2.heap.get? S = some (seqObj "list" #[] 0) := pS.1; have fS3 : FpOk X pins H3 S := hfp fS pS.2.1; have fI3 : FpOk X pins H3 IT := hfp fI pI.2.1; have s4 := Heap.SameBut.update s2.heap S (Obj.mapSeq fun _ => #[u2, .str (ks 0) t2]); obtain ⟨c2, hc2⟩ : ∃ c2, (s2.heap.update S (Obj.mapSeq fun _ => #[u2, .str (ks 0) t2])).get? S = some (seqObj "list" #[u2, .str (ks 0) t2] c2) := ⟨_, get?_update_seq nS fun _ => #[u2, .str (ks 0) t2]⟩
  show wpAny _ X.A.in1 (updateSeq S (fun _ => #[u2, .str (ks 0) t2]) >>= _) _ _ _
  refine wpAny_bind ?_; refine wpAny_updateSeq nS rfl ?_; rw [hname]; refine hld fun g_ k_ => ?_; obtain ⟨g0, g1, g2, g3, g4, g5⟩ := id fS3; refine k_ ?_; have I5 : Inv X pins σ H3 { s2 with heap := s2.heap.update S (Obj.mapSeq fun _ => #[u2, .str (ks 0) t2]) } := I4u.turned (t' := s2.toks) (fun b o hb e => (s4.2 b hb).trans e) g0 g1 g3 g4 g5
  refine wpAny_pure ⟨plainId_quiet PySem.F.plain_min_loop _, min_step (E := E) F hr hb hc hSI hl turn (fun i y v H4 s5 hy rvy hmost hs I6 => ?_) _ 0 0 u2 t2 H3 _ rfl hpos ⟨I5, s3, ⟨oI, (s4.2 IT hSI.symm).trans pI.1, hoc, hod⟩, ⟨c2, hc2⟩, ⟨_, List.getElem?_eq_getElem hpos, ru2⟩, Nat.le_refl _, fI3, fS3, fun j' hj' => ?_⟩⟩
  . exact ⟨y, H4, I6, rvy, q i y H4 hy hmost hs⟩
  . rw [show j' = 0 by omega]
    exact List.lt_irrefl _
end
end L2
namespace KM
inductive RT where
  | node (ts : List RT)
mutual
def RT.str : RT -> Tx
  | .node ts => brk (strL ts)
def strL : List RT -> Tx
  | [] => []
  | t :: ts => t.str ++ strL ts
end
mutual
def RT.size : RT -> Nat
  | .node ts => 1 + sizeL ts
def sizeL : List RT -> Nat
  | [] => 0
  | t :: ts => t.size + sizeL ts
end
mutual
/-- the knots above, the root numbered n and under p -/
def RT.lay (n : Nat) (p : Option Nat) : RT -> Ab
  | .node ts => p :: layL (n + 1) (some n) ts
def layL (n : Nat) (p : Option Nat) : List RT -> Ab
  | [] => []
  | t :: ts => t.lay n p ++ layL (n + t.size) p ts
end
mutual
/-- the form: the parts in order -/
def RT.canon : RT -> Tx
  | .node ts => brk (srt (canonL ts)).flatten
def canonL : List RT -> List Tx
  | [] => []
  | t :: ts => t.canon :: canonL ts
end
def pos (m : Nat) : List RT -> List Nat
  | [] => []
  | t :: ts => m :: pos (m + t.size) ts
def back : Int -> Tx -> Option Tx
  | _, [] => none
  | d, c :: r => if d + (if c = 40 then 1 else 0) - (if c = 41 then 1 else 0) < 1 then back (d + (if c = 40 then 1 else 0) - (if c = 41 then 1 else 0)) r else some r
end KM
namespace KD
open PySem L2 KM PyProof.Rows
theorem mkS_list (t : Tx) : (mkS t).cps.toList = t := rfl
end KD
namespace KM
end KM
namespace KD
open PySem L2 KM PyProof.Rows
structure KitE (P : Program) (w : World) (K : PySem.W.Frag) (mg : Str -> Option Value) (base : Heap) (k : Nat) (x : Str) (ps : List Str) (sp : Sp) (f : Addr) (fd : FuncData) : Prop where
  ok : FnOk P w K mg base (CXe P w) k f fd ps sp
  bd : Binds K fd ps []
  kp : PySem.W.keepIn K (.ref f) = true
  mg : mg x = some (.ref f)
inductive spAt (K : PySem.W.Frag) (vs : (List V)) (H : Hp) (Q : VK) (e_ : XK) : Prop
  | mk (a : Addr) (ns : List Int) (k : Nat) (z1_ : vs = [.ref a, vN k]) (z2_ : SqL K H a (ns.map V.int)) (z3_ : ∀ (i : Int) (H' : Hp), Same H H' -> Q (.int i) H') : spAt K vs H Q e_
end KD
namespace KM
section
variable {ab : Ab} {r : Nat}
theorem idx_of {l : List Nat} (h : l.Nodup) {i k : Nat} (hi : l[i]? = some k) : l.idxOf k = i := by
  obtain ⟨h1, rfl⟩ := List.getElem?_eq_some_iff.mp hi; exact h.idxOf_getElem i h1
theorem Bfs.tree (hroot : ab[r]? = some none) (only : ∀ j, ab[j]? = some none -> j = r) (hin : ∀ (j p : Nat), ab[j]? = some (some p) -> p < ab.length) {ord : List Nat} (B : Bfs ab r ord ord.length) (hw : ord.length = ab.length) :
    Tree ab r (fun k => ord.idxOf k) := by
  have mem : ∀ k, k < ab.length -> k ∈ ord := by
    intro k hk; refine Classical.byContradiction fun hn => ?_; have nd : (k :: ord).Nodup := List.nodup_cons.mpr ⟨hn, B.nd⟩
    have h := nd.length_le_of_subset (l₂ := List.range ab.length) fun j hj => List.mem_range.mpr (by
      rcases List.mem_cons.mp hj with e | e
      . rw [e]; exact hk
      . exact B.lt j e)
    rw [List.length_range, List.length_cons] at h
    omega
  refine ⟨hroot, only, fun j p h => ⟨hin j p h, ?_⟩, fun j hj => ?_⟩
  . obtain ⟨i, hi⟩ := List.mem_iff_getElem?.mp (mem p (hin j p h))
    obtain ⟨j', hj', he⟩ := B.late i p j (List.getElem?_eq_some_iff.mp hi).1 hi (mem_kids.mpr h)
    show ord.idxOf p < ord.idxOf j
    rw [idx_of B.nd hi, idx_of B.nd he]; exact hj'
  . show ord.idxOf j < ab.length
    have := List.idxOf_lt_length_of_mem (mem j hj)
    omega
theorem roots_one {r : Nat} : rootsTo ab ab.length = [r] ↔ ab[r]? = some none /\ ∀ j, ab[j]? = some none -> j = r := by
  constructor
  . intro h
    have hm : ∀ j, j ∈ rootsTo ab ab.length ↔ ab[j]? = some none := fun j => by
      unfold rootsTo
      rw [List.mem_filter, List.mem_range]
      constructor
      . intro z; exact eq_of_beq z.2
      . intro z; exact ⟨(List.getElem?_eq_some_iff.mp z).1, by rw [z]; exact beq_self_eq_true _⟩
    rw [h] at hm; exact ⟨(hm r).mp (by simp), fun j hj => by simpa using (hm j).mpr hj⟩
  . rintro ⟨h1, h2⟩
    refine List.perm_singleton.mp ((List.perm_ext_iff_of_nodup (List.Pairwise.sublist List.filter_sublist List.nodup_range) (by simp)).mpr fun j => ?_)
    rw [List.mem_singleton, List.mem_filter, List.mem_range]
    constructor
    . intro h; exact h2 j (eq_of_beq h.2)
    . rintro rfl
      exact ⟨(List.getElem?_eq_some_iff.mp h1).1, by rw [h1]; exact beq_self_eq_true _⟩
end
abbrev AI := List (Option Int)
def toI (o : Option Nat) : Option Int := o.map fun k => (k : Int)
def ofI (o : Option Int) : Option Nat := o.map Int.toNat
theorem ofI_toI (o : Option Nat) : ofI (toI o) = o := by cases o <;> simp [ofI, toI]
def Root1 (A : AI) (r : Nat) : Prop := A[r]? = some none /\ ∀ j, A[j]? = some none -> j = r
def InR (A : AI) : Prop := ∀ (j : Nat) (i : Int), A[j]? = some (some i) -> 0 <= i /\ i < A.length
def Rtd (A : AI) : Prop := ∃ (ab : Ab) (r : Nat) (rk : Nat -> Nat), A = ab.map toI /\ Tree ab r rk
theorem none_of {A : AI} {j : Nat} : (A.map ofI)[j]? = some none ↔ A[j]? = some none := by
  rw [List.getElem?_map]
  cases A[j]? with
  | none => simp
  | some o => cases o <;> simp [ofI]
theorem Root1.of {A : AI} {r : Nat} : Root1 A r ↔ (A.map ofI)[r]? = some none /\ ∀ j, (A.map ofI)[j]? = some none -> j = r := by
  unfold Root1
  rw [none_of]; exact and_congr_right fun _ => forall_congr' fun j => by rw [none_of]
theorem InR.back {A : AI} (h : InR A) : A = (A.map ofI).map toI := by
  rw [List.map_map]; refine (List.map_id A).symm.trans (List.map_congr_left fun o ho => ?_); obtain ⟨j, hj⟩ := List.mem_iff_getElem?.mp ho
  cases o with
  | none => rfl
  | some i =>
    have := (h j i hj).1
    show some i = some ((i.toNat : Nat) : Int)
    rw [Int.toNat_of_nonneg this]
theorem InR.par {A : AI} (h : InR A) : ∀ (j p : Nat), (A.map ofI)[j]? = some (some p) -> p < (A.map ofI).length := by
  intro j p hj; rw [List.getElem?_map] at hj; rw [List.length_map]
  cases q : A[j]? with
  | none => rw [q] at hj; cases hj
  | some o =>
    rw [q] at hj
    cases o with
    | none => cases Option.some.inj hj
    | some i =>
      have e : i.toNat = p := Option.some.inj (Option.some.inj hj); have := h j i q
      omega
theorem map_back (ab : Ab) : (ab.map toI).map ofI = ab := by
  rw [List.map_map]; exact (List.map_congr_left fun o _ => ofI_toI o).trans (List.map_id ab)
theorem Rtd.root {A : AI} (h : Rtd A) : ∃ r, Root1 A r := by
  obtain ⟨ab, r, rk, rfl, T⟩ := h; exact ⟨r, Root1.of.mpr (by rw [map_back]; exact ⟨T.root, T.only⟩)⟩
theorem Rtd.inR {A : AI} (h : Rtd A) : InR A := by
  obtain ⟨ab, r, rk, rfl, T⟩ := h; intro j i hj; rw [List.getElem?_map] at hj
  cases q : ab[j]? with
  | none => rw [q] at hj; cases hj
  | some o =>
    rw [q] at hj
    cases o with
    | none => cases Option.some.inj hj
    | some p =>
      have e : (p : Int) = i := Option.some.inj (Option.some.inj hj); have := (T.up j p q).1; rw [List.length_map]
      omega
theorem Rtd.tree {A : AI} (h : Rtd A) {r : Nat} (hr : Root1 A r) : ∃ rk, Tree (A.map ofI) r rk := by
  obtain ⟨ab, r', rk, rfl, T⟩ := h; rw [map_back]; have : r = r' := T.only r (by have := (Root1.of.mp hr).1; rwa [map_back] at this)
  rw [this]; exact ⟨rk, T⟩
end KM
namespace KD
open PySem L2 KM PyProof.Rows
def vI : Option Int -> V
  | none => .non
  | some i => .int i
theorem vI_toI (o : Option Nat) : vI (toI o) = vO o := by cases o <;> rfl
theorem map_vI (ab : Ab) : (ab.map toI).map vI = ab.map vO := by
  rw [List.map_map]; exact List.map_congr_left fun o _ => vI_toI o
inductive spRootX (C : Addr) (vs : (List V)) (H : Hp) (Q : VK) (E : XK) : Prop
  | mk (a : Addr) (A : AI) (z1_ : vs = [.ref a]) (z2_ : H a = some (.lst (A.map vI))) (z3_ : A.length <= 1000) (z4_ : (∀ (r : Nat) (H' : Hp), Root1 A r -> Same H H' -> Q (vN r) H')) (z5_ : ((¬ ∃ r, Root1 A r) -> ∀ H', Same H H' -> E (.ref C) none H')) : spRootX C vs H Q E
inductive spUnderX (C : Addr) (vs : (List V)) (H : Hp) (Q : VK) (E : XK) : Prop
  | mk (a : Addr) (A : AI) (z1_ : vs = [.ref a]) (z2_ : H a = some (.lst (A.map vI))) (z3_ : A.length <= 1000) (z4_ : (InR A -> ∀ (u : Addr) (as : List Addr) (H' : Hp), Same H H' -> UnderAt H' u as (A.map ofI) -> Q (.ref u) H')) (z5_ : (¬ InR A -> ∀ H', Same H H' -> E (.ref C) none H')) : spUnderX C vs H Q E
inductive spFormX (C : Addr) (vs : (List V)) (H : Hp) (Q : VK) (E : XK) : Prop
  | mk (a : Addr) (A : AI) (z1_ : vs = [.ref a]) (z2_ : H a = some (.lst (A.map vI))) (z3_ : A.length < 64) (z4_ : (∀ (ab : Ab) (r : Nat) (rk : Nat -> Nat) (H' : Hp), A = ab.map toI -> Tree ab r rk -> Same H H' -> Q (vT (fm ab r)) H')) (z5_ : (¬ Rtd A -> ∀ H', Same H H' -> E (.ref C) none H')) : spFormX C vs H Q E
end KD
namespace KM
end KM
namespace KD
open PySem L2 KM PyProof.Rows
theorem flat_vN (L : List Nat) : (L.map vN).all flatV = true := by
  rw [List.all_eq_true]; intro x hx; obtain ⟨k, _, rfl⟩ := List.mem_map.mp hx
  rfl
theorem cutTake (xs : List V) (k : Nat) : cutV xs none (some (k : Int)) = xs.take k := by
  unfold cutV
  rw [HT.sIx_none, HT.sIx_nat, List.drop_zero, Nat.sub_zero]
  by_cases h : k <= xs.length
  . rw [Nat.min_eq_left h]
  . rw [Nat.min_eq_right (by omega), List.take_length, List.take_of_length_le (by omega)]
end KD
namespace KM
def mrk (m : Option Nat) (k : Nat) : List Tx := if m = some k then [[42]] else []
theorem mrk_self (k : Nat) : mrk (some k) k = [[42]] := if_pos rfl
def formM (ab : Ab) (m : Option Nat) : Nat -> Nat -> Tx
  | 0, _ => []
  | f + 1, k => brk (srt ((kids ab k).map (formM ab m f) ++ mrk m k)).flatten
def fmM (ab : Ab) (m : Option Nat) (k : Nat) : Tx := formM ab m ab.length k
theorem formM_none (ab : Ab) : ∀ (f k : Nat), formM ab none f k = form ab f k
  | 0, _ => rfl
  | f + 1, k => by
    show brk (srt ((kids ab k).map (formM ab none f) ++ [])).flatten = brk _
    rw [List.append_nil]; have e : formM ab none f = form ab f := funext fun j => formM_none ab f j; rw [e]
theorem fmM_none (ab : Ab) (k : Nat) : fmM ab none k = fm ab k := formM_none ab _ k
section
variable {ab : Ab} {r : Nat} {rk : Nat -> Nat}
theorem Tree.stableM (T : Tree ab r rk) (m : Option Nat) : ∀ (d k f g : Nat), k < ab.length -> ab.length - rk k <= d -> ab.length - rk k <= f -> ab.length - rk k <= g -> formM ab m f k = formM ab m g k
  | 0, k, f, g, hk, hd, _, _ => by have := T.low k hk; omega
  | d + 1, k, f, g, hk, hd, hf, hg => by
    have h0 := T.low k hk; obtain ⟨f', rfl⟩ : ∃ f', f = f' + 1 := ⟨f - 1, by omega⟩
    obtain ⟨g', rfl⟩ : ∃ g', g = g' + 1 := ⟨g - 1, by omega⟩
    show brk _ = brk _
    congr 4
    refine List.map_congr_left fun c hc => ?_; have h1 := (T.up c k (mem_kids.mp hc)).2; have h2 := T.low c (kids_lt hc); exact T.stableM m d c f' g' (kids_lt hc) (by omega) (by omega) (by omega)
theorem Tree.fmM_eq (T : Tree ab r rk) (m : Option Nat) {k : Nat} (hk : k < ab.length) : fmM ab m k = brk (srt ((kids ab k).map (fmM ab m) ++ mrk m k)).flatten := by
  have e : fmM ab m k = formM ab m (ab.length + 1) k := T.stableM m _ k _ _ hk (Nat.le_refl _) (by omega) (by omega)
  rw [e]
  rfl
theorem Tree.down (T : Tree ab r rk) {P : Nat -> Prop} (h : ∀ k, k < ab.length -> (∀ c ∈ kids ab k, P c) -> P k) : ∀ (d k : Nat), ab.length - rk k <= d -> k < ab.length -> P k
  | 0, k, hd, hk => by have := T.low k hk; omega
  | d + 1, k, hd, hk => h k hk fun c hc => by
    have h1 := (T.up c k (mem_kids.mp hc)).2; have h2 := T.low c (kids_lt hc); exact T.down h d c (by omega) (kids_lt hc)
end
theorem mrk_len (m : Option Nat) (k : Nat) : ((mrk m k).map (·.length)).sum <= 1 := by
  unfold mrk
  split <;> simp
theorem formM_len (ab : Ab) (m : Option Nat) (f k : Nat) : (formM ab m (f + 1) k).length <= ((kids ab k).map fun c => (formM ab m f c).length).sum + 3 := by
  show (brk _).length <= _
  rw [brk_len, srt_len, List.map_append, List.sum_append, List.map_map]; have := mrk_len m k
  show _ + _ + 2 <= _
  have e : ((kids ab k).map ((fun x => x.length) ∘ formM ab m f)) = (kids ab k).map fun c => (formM ab m f c).length := rfl; rw [e]
  omega
theorem formsM_all (ab : Ab) (m : Option Nat) : ∀ f : Nat, ((List.range ab.length).map fun k => (formM ab m f k).length).sum <= 3 * ab.length * f
  | 0 => by
    have : ((List.range ab.length).map fun k => (formM ab m 0 k).length) = (List.range ab.length).map fun _ => 0 := rfl; rw [this, sum_const]; simp
  | f + 1 => by
    have e : ((List.range ab.length).map fun k => (formM ab m (f + 1) k).length).sum <= ((List.range ab.length).map fun k => ((kids ab k).map fun c => (formM ab m f c).length).sum + 3).sum :=
      sum_map_le _ _ _ fun k _ => formM_len ab m f k
    refine Nat.le_trans e ?_; rw [sum_map_add, sum_const, List.length_range]; have h1 : ((List.range ab.length).map fun k => ((kids ab k).map fun c => (formM ab m f c).length).sum).sum <= _ := sum_filter ab (fun c => (formM ab m f c).length) (List.range ab.length) List.nodup_range (List.range ab.length); have h2 := formsM_all ab m f; rw [Nat.mul_add]
    omega
theorem fmM_kids_len (ab : Ab) (m : Option Nat) (k : Nat) : ((kids ab k).map fun c => (fmM ab m c).length).sum <= 3 * ab.length * ab.length := by
  have h1 : ((kids ab k).map fun c => (fmM ab m c).length).sum <= ((List.range ab.length).map fun c => (formM ab m ab.length c).length).sum := by
    unfold kids fmM
    exact sub_sum (List.Sublist.map _ List.filter_sublist)
  exact Nat.le_trans h1 (formsM_all ab m _)
def sgn (c : Nat) : Int := if c = 40 then 1 else if c = 41 then -1 else 0
def dep : Tx -> Int
  | [] => 0
  | c :: t => sgn c + dep t
theorem dep_append : ∀ (a b : Tx), dep (a ++ b) = dep a + dep b
  | [], b => by show dep b = 0 + dep b; omega
  | c :: a, b => by
    show sgn c + dep (a ++ b) = sgn c + dep a + dep b
    rw [dep_append a b]; omega
structure Whole (p : Tx) : Prop where
  ne : p ≠ []
  zero : dep p = 0
  inner : ∀ (q s : Tx), p = q ++ s -> q ≠ [] -> s ≠ [] -> 0 < dep q
theorem whole_mark : Whole [42] := by
  refine ⟨by simp, rfl, fun q s h h1 h2 => ?_⟩
  match q, s, h with
  | [], _, _ => exact absurd rfl h1
  | [_], [], _ => exact absurd rfl h2
  | [_], _ :: _, h => simp at h
  | _ :: _ :: _, _, h => simp at h
theorem flat_dep {ps : List Tx} (h : ∀ p ∈ ps, Whole p) : dep ps.flatten = 0 := by
  induction ps with
  | nil => rfl
  | cons p ps ih =>
    rw [List.flatten_cons, dep_append, (h p List.mem_cons_self).zero, ih fun q hq => h q (List.mem_cons_of_mem _ hq)]
    rfl
theorem flat_pre : ∀ {ps : List Tx}, (∀ p ∈ ps, Whole p) -> ∀ (q s : Tx), ps.flatten = q ++ s -> 0 <= dep q
  | [], _, q, s, e => by
    have : q = [] := (List.append_eq_nil_iff.mp e.symm).1; subst this; exact Int.le_refl _
  | p :: ps, h, q, s, e => by
    rw [List.flatten_cons] at e; have hp := h p List.mem_cons_self
    rcases List.append_eq_append_iff.mp e with ⟨a, e1, e2⟩ | ⟨c, e1, e2⟩
    . rw [e1, dep_append, hp.zero]
      have := flat_pre (fun x hx => h x (List.mem_cons_of_mem _ hx)) a s e2
      omega
    . by_cases hq : q = []
      . subst hq; exact Int.le_refl _
      by_cases hc : c = []
      . subst hc
        rw [List.append_nil] at e1; rw [<- e1, hp.zero]; exact Int.le_refl _
      . have := hp.inner q c e1 hq hc
        omega
theorem whole_brk {ps : List Tx} (h : ∀ p ∈ ps, Whole p) : Whole (brk ps.flatten) := by
  refine ⟨by unfold brk; simp, ?_, fun q s e h1 h2 => ?_⟩
  . show sgn 40 + dep (ps.flatten ++ [41]) = 0
    rw [dep_append, flat_dep h]
    rfl
  . match q, h1 with
    | c :: q, _ =>
      have e' : 40 :: (ps.flatten ++ [41]) = c :: (q ++ s) := e; obtain ⟨rfl, e2⟩ := List.cons.inj e'
      show 0 < sgn 40 + dep q
      have : 0 <= dep q := by
        rcases List.append_eq_append_iff.mp e2 with ⟨a, e1, e3⟩ | ⟨a, e1, e3⟩
        . have : a = [] \/ s = [] := by
            match a, s, e3 with
            | [], _, _ => exact .inl rfl
            | _ :: a, [], _ => exact .inr rfl
            | _ :: a, _ :: s, e3 => simp at e3
          rcases this with rfl | rfl
          . rw [List.append_nil] at e1
            rw [e1, flat_dep h]; exact Int.le_refl _
          . exact absurd rfl h2
        . exact flat_pre h q a e1
      show 0 < (1 : Int) + dep q
      omega
theorem flat_inj : ∀ {ps qs : List Tx}, (∀ p ∈ ps, Whole p) -> (∀ q ∈ qs, Whole q) -> ps.flatten = qs.flatten -> ps = qs
  | [], [], _, _, _ => rfl
  | [], q :: qs, _, h2, e => by
    rw [List.flatten_cons, List.flatten_nil] at e; exact absurd (List.append_eq_nil_iff.mp e.symm).1 (h2 q List.mem_cons_self).ne
  | p :: ps, [], h1, _, e => by
    rw [List.flatten_cons, List.flatten_nil] at e; exact absurd (List.append_eq_nil_iff.mp e).1 (h1 p List.mem_cons_self).ne
  | p :: ps, q :: qs, h1, h2, e => by
    rw [List.flatten_cons, List.flatten_cons] at e; have hp := h1 p List.mem_cons_self; have hq := h2 q List.mem_cons_self
    have key : p = q /\ ps.flatten = qs.flatten := by
      rcases List.append_eq_append_iff.mp e with ⟨a, e1, e2⟩ | ⟨a, e1, e2⟩
      . by_cases ha : a = []
        . subst ha
          rw [List.append_nil] at e1; exact ⟨e1.symm, e2⟩
        . have := hq.inner p a e1 hp.ne ha
          rw [hp.zero] at this
          omega
      . by_cases ha : a = []
        . subst ha
          rw [List.append_nil] at e1; exact ⟨e1, e2.symm⟩
        . have := hp.inner q a e1 hq.ne ha
          rw [hq.zero] at this
          omega
    obtain ⟨rfl, e3⟩ := key; rw [flat_inj (fun x hx => h1 x (List.mem_cons_of_mem _ hx)) (fun x hx => h2 x (List.mem_cons_of_mem _ hx)) e3]
theorem brk_inj {s t : Tx} (h : brk s = brk t) : s = t := by
  have h' : 40 :: (s ++ [41]) = 40 :: (t ++ [41]) := h; exact List.append_cancel_right (List.cons.inj h').2
theorem mem_mrk {m : Option Nat} {k : Nat} {p : Tx} (h : p ∈ mrk m k) : p = [42] /\ m = some k := by
  unfold mrk at h
  split at h
  . rename_i q
    exact ⟨List.mem_singleton.mp h, q⟩
  . cases h
section
variable {ab : Ab} {r : Nat} {rk : Nat -> Nat}
theorem Tree.whole (T : Tree ab r rk) (m : Option Nat) {k : Nat} (hk : k < ab.length) : Whole (fmM ab m k) /\ (fmM ab m k).head? = some 40 := by
  refine T.down (P := fun k => Whole (fmM ab m k) /\ (fmM ab m k).head? = some 40) (fun k hk ih => ?_) _ k (Nat.le_refl _) hk; rw [T.fmM_eq m hk]; refine ⟨whole_brk fun p hp => ?_, rfl⟩; have hp' := (srt_perm _).mem_iff.mp hp
  rcases List.mem_append.mp hp' with h | h
  . obtain ⟨c, hc, rfl⟩ := List.mem_map.mp h
    exact (ih c hc).1
  . rw [(mem_mrk h).1]
    exact whole_mark
theorem parts_eq {ab' : Ab} {r' : Nat} {rk' : Nat -> Nat} (T : Tree ab r rk) (T' : Tree ab' r' rk') {m m' : Option Nat} {k k' : Nat} (hk : k < ab.length) (hk' : k' < ab'.length) (e : fmM ab m k = fmM ab' m' k') :
    srt ((kids ab k).map (fmM ab m)) = srt ((kids ab' k').map (fmM ab' m')) /\ (m = some k ↔ m' = some k') := by
  rw [T.fmM_eq m hk, T'.fmM_eq m' hk'] at e
  have wh : ∀ (p : Tx), p ∈ srt ((kids ab k).map (fmM ab m) ++ mrk m k) -> Whole p := fun p hp => by
    rcases List.mem_append.mp ((srt_perm _).mem_iff.mp hp) with h | h
    . obtain ⟨c, hc, rfl⟩ := List.mem_map.mp h
      exact (T.whole m (kids_lt hc)).1
    . rw [(mem_mrk h).1]; exact whole_mark
  have wh' : ∀ (p : Tx), p ∈ srt ((kids ab' k').map (fmM ab' m') ++ mrk m' k') -> Whole p := fun p hp => by
    rcases List.mem_append.mp ((srt_perm _).mem_iff.mp hp) with h | h
    . obtain ⟨c, hc, rfl⟩ := List.mem_map.mp h
      exact (T'.whole m' (kids_lt hc)).1
    . rw [(mem_mrk h).1]; exact whole_mark
  have e1 := flat_inj wh wh' (brk_inj e); have pm : ((kids ab k).map (fmM ab m) ++ mrk m k).Perm ((kids ab' k').map (fmM ab' m') ++ mrk m' k') := ((srt_perm _).symm.trans (e1 ▸ List.Perm.refl _)).trans (srt_perm _)
  have n1 : [42] ∉ (kids ab k).map (fmM ab m) := fun h => by
    obtain ⟨c, hc, q⟩ := List.mem_map.mp h; have := (T.whole m (kids_lt hc)).2; rw [q] at this
    cases this
  have n2 : [42] ∉ (kids ab' k').map (fmM ab' m') := fun h => by
    obtain ⟨c, hc, q⟩ := List.mem_map.mp h; have := (T'.whole m' (kids_lt hc)).2; rw [q] at this
    cases this
  have hm : m = some k ↔ m' = some k' := by
    constructor
    . intro h
      have : [42] ∈ (kids ab' k').map (fmM ab' m') ++ mrk m' k' := pm.mem_iff.mp (List.mem_append.mpr (.inr (by unfold mrk; rw [if_pos h]; exact List.mem_singleton.mpr rfl)))
      rcases List.mem_append.mp this with q | q
      . exact absurd q n2
      . exact (mem_mrk q).2
    . intro h
      have : [42] ∈ (kids ab k).map (fmM ab m) ++ mrk m k := pm.mem_iff.mpr (List.mem_append.mpr (.inr (by unfold mrk; rw [if_pos h]; exact List.mem_singleton.mpr rfl)))
      rcases List.mem_append.mp this with q | q
      . exact absurd q n1
      . exact (mem_mrk q).2
  refine ⟨srt_congr ?_, hm⟩
  have em : mrk m k = mrk m' k' := by
    unfold mrk
    by_cases h : m = some k
    . rw [if_pos h, if_pos (hm.mp h)]
    . rw [if_neg h, if_neg fun z => h (hm.mpr z)]
  rw [em] at pm; exact (List.perm_append_right_iff _).mp pm
end
end KM
namespace KM
inductive Reach (kd : Nat -> List Nat) (r : Nat) : List Nat -> Nat -> Prop
  | start : Reach kd r [r] 0
  | step {ord : List Nat} {pl k : Nat} : Reach kd r ord pl -> ord[pl]? = some k -> Reach kd r (ord ++ kd k) (pl + 1)
structure BfsK (ab : Ab) (kd : Nat -> List Nat) (r : Nat) (ord : List Nat) (pl : Nat) : Prop where
  nd : ord.Nodup
  lt : ∀ k ∈ ord, k < ab.length
  eq : ord = r :: (ord.take pl).flatMap kd
  le : pl <= ord.length
  late : ∀ (i k c : Nat), i < pl -> ord[i]? = some k -> c ∈ kd k -> ∃ j, i < j /\ ord[j]? = some c
  reach : Reach kd r ord pl
section
variable {ab : Ab} {r : Nat} {rk : Nat -> Nat} {kd : Nat -> List Nat}
theorem bfsK0 (h : ab[r]? = some none) : BfsK ab kd r [r] 0 where
  nd := by simp
  lt := by intro k hk; rw [List.mem_singleton] at hk; subst hk; exact (List.getElem?_eq_some_iff.mp h).1
  eq := by simp
  le := Nat.zero_le _
  late := by intro i k c h; omega
  reach := .start
theorem BfsK.len {ord : List Nat} {pl : Nat} (B : BfsK ab kd r ord pl) : ord.length <= ab.length := by
  have h := B.nd.length_le_of_subset (l₂ := List.range ab.length) fun k hk => List.mem_range.mpr (B.lt k hk); rw [List.length_range] at h; exact h
theorem BfsK.step (hroot : ab[r]? = some none) (hkd : ∀ k, k < ab.length -> (kd k).Perm (kids ab k)) {ord : List Nat} {pl k : Nat} (B : BfsK ab kd r ord pl) (hk : ord[pl]? = some k) : BfsK ab kd r (ord ++ kd k) (pl + 1) := by
  have hlt : pl < ord.length := (List.getElem?_eq_some_iff.mp hk).1; have hkl : k < ab.length := B.lt k (List.mem_of_getElem? hk); refine ⟨?_, ?_, ?_, ?_, ?_, B.reach.step hk⟩
  . rw [List.nodup_append]
    refine ⟨B.nd, ((hkd k hkl).nodup_iff).mpr (kids_nodup ab k), fun c hc c' hc' e => ?_⟩; subst e; have hp := mem_kids.mp ((hkd k hkl).mem_iff.mp hc'); rw [B.eq] at hc
    rcases List.mem_cons.mp hc with e | hc
    . subst e; rw [hroot] at hp; cases hp
    . obtain ⟨k', hk', hc2⟩ := List.mem_flatMap.mp hc
      have hk'l : k' < ab.length := B.lt k' (List.mem_of_mem_take hk')
      have e : k' = k := by
        have h2 := mem_kids.mp ((hkd k' hk'l).mem_iff.mp hc2); rw [hp] at h2; exact (Option.some.inj (Option.some.inj h2)).symm
      subst e; obtain ⟨i, hi⟩ := List.mem_iff_getElem?.mp hk'
      have hil : i < pl := by
        have := (List.getElem?_eq_some_iff.mp hi).1; rw [List.length_take] at this
        omega
      rw [List.getElem?_take_of_lt hil] at hi; have h3 : i < ord.length := by omega
      rw [List.getElem?_eq_getElem h3] at hi; rw [List.getElem?_eq_getElem hlt] at hk; have h4 : ord[i] = ord[pl] := by rw [Option.some.inj hi, Option.some.inj hk]
      have := (List.getElem_inj B.nd).mp h4
      omega
  . intro c hc
    rcases List.mem_append.mp hc with h | h
    . exact B.lt c h
    . exact kids_lt ((hkd k hkl).mem_iff.mp h)
  . have e : (ord ++ kd k).take (pl + 1) = ord.take pl ++ [k] := by
      rw [List.take_append_of_le_length (by omega), List.take_add_one, hk]
      rfl
    rw [e, List.flatMap_append]; have e2 : [k].flatMap kd = kd k := by simp
    rw [e2]; have e3 := B.eq; rw [<- List.cons_append, <- e3]
  . rw [List.length_append]; omega
  . intro i k' c hi he hc
    by_cases hip : i < pl
    . have h3 : i < ord.length := by omega
      rw [List.getElem?_append_left h3] at he; obtain ⟨j, hj, hjc⟩ := B.late i k' c hip he hc; exact ⟨j, hj, by rw [List.getElem?_append_left (List.getElem?_eq_some_iff.mp hjc).1]; exact hjc⟩
    . have hie : i = pl := by omega
      subst hie; rw [List.getElem?_append_left hlt, hk] at he
      cases he
      obtain ⟨j, hj⟩ := List.mem_iff_getElem?.mp hc; refine ⟨ord.length + j, by omega, ?_⟩
      rw [List.getElem?_append_right (by omega)]
      rw [Nat.add_sub_cancel_left]; exact hj
theorem BfsK.bfs {ord : List Nat} {pl : Nat} (B : BfsK ab (kids ab) r ord pl) : Bfs ab r ord pl := ⟨B.nd, B.lt, B.eq, B.le, B.late⟩
theorem BfsK.all (T : Tree ab r rk) (hkd : ∀ k, k < ab.length -> (kd k).Perm (kids ab k)) {ord : List Nat} (B : BfsK ab kd r ord ord.length) : ∀ (d j : Nat), rk j <= d -> j < ab.length -> j ∈ ord
  | d, j, hd, hj => by
    cases q : ab[j] with
    | none =>
      have := T.only j (by rw [List.getElem?_eq_getElem hj, q])
      subst this; rw [B.eq]; exact List.mem_cons_self
    | some p =>
      have hp : ab[j]? = some (some p) := by rw [List.getElem?_eq_getElem hj, q]
      obtain ⟨hpl, hr⟩ := T.up j p hp
      have hm : p ∈ ord := by
        match d, hd with
        | 0, hd => omega
        | d + 1, hd => exact BfsK.all T hkd B d p (by omega) hpl
      obtain ⟨i, hi⟩ := List.mem_iff_getElem?.mp hm; obtain ⟨j', _, hj'⟩ := B.late i p j (List.getElem?_eq_some_iff.mp hi).1 hi ((hkd p hpl).mem_iff.mpr (mem_kids.mpr hp)); exact List.mem_iff_getElem?.mpr ⟨j', hj'⟩
theorem BfsK.perm (T : Tree ab r rk) (hkd : ∀ k, k < ab.length -> (kd k).Perm (kids ab k)) {ord : List Nat} (B : BfsK ab kd r ord ord.length) : ord.Perm (List.range ab.length) :=
  (List.perm_ext_iff_of_nodup B.nd List.nodup_range).mpr fun j => ⟨fun h => List.mem_range.mpr (B.lt j h), fun h => B.all T hkd _ j (Nat.le_refl _) (List.mem_range.mp h)⟩
end
section
variable {kd kd' : Nat -> List Nat} {r r' : Nat} {F F' : Nat -> Tx}
theorem Reach.pos {ord : List Nat} {pl : Nat} (R : Reach kd r ord pl) : ∃ t, ord = r :: t := by
  induction R with
  | start => exact ⟨[], rfl⟩
  | step _ _ ih => obtain ⟨t, rfl⟩ := ih; exact ⟨_, rfl⟩
theorem Reach.same (hr : F r = F' r') (hs : ∀ {ord ord' : List Nat} {pl k k' : Nat}, Reach kd r ord pl -> Reach kd' r' ord' pl -> ord[pl]? = some k -> ord'[pl]? = some k' -> F k = F' k' -> (kd k).map F = (kd' k').map F') :
    ∀ (pl : Nat) {ord ord' : List Nat}, Reach kd r ord pl -> Reach kd' r' ord' pl ->
      ord.map F = ord'.map F' /\ (∀ (j c c' : Nat), 0 < j -> ord[j]? = some c -> ord'[j]? = some c' -> ∃ (i k k' : Nat), ord[i]? = some k /\ ord'[i]? = some k' /\ c ∈ kd k /\ c' ∈ kd' k')
  | 0, _, _, R, R' => by
    cases R; cases R'
    refine ⟨by show [F r] = [F' r']; rw [hr], fun j c c' hj h => ?_⟩
    rw [List.getElem?_eq_none (show [r].length <= j from hj)] at h
    cases h
  | pl + 1, _, _, R, R' => by
    cases R with
    | @step ord _ k R hk =>
      cases R' with
      | @step ord' _ k' R' hk' =>
        obtain ⟨e, up⟩ := Reach.same hr hs pl R R'; have hl : ord.length = ord'.length := by have := congrArg List.length e; rwa [List.length_map, List.length_map] at this
        have ek : F k = F' k' := by
          have := congrArg (·[pl]?) e
          simp only [List.getElem?_map, hk, hk', Option.map_some] at this
          exact Option.some.inj this
        have ep := hs R R' hk hk' ek; refine ⟨by rw [List.map_append, List.map_append, e, ep], fun j c c' hj h h' => ?_⟩
        by_cases hjl : j < ord.length
        . rw [List.getElem?_append_left hjl] at h
          rw [List.getElem?_append_left (by omega)] at h'
          obtain ⟨i, a, a', h1, h2, h3, h4⟩ := up j c c' hj h h'; exact ⟨i, a, a', by rw [List.getElem?_append_left (List.getElem?_eq_some_iff.mp h1).1]; exact h1, by rw [List.getElem?_append_left (List.getElem?_eq_some_iff.mp h2).1]; exact h2, h3, h4⟩
        . rw [List.getElem?_append_right (by omega)] at h h'
          exact ⟨pl, k, k', by rw [List.getElem?_append_left (List.getElem?_eq_some_iff.mp hk).1]; exact hk, by rw [List.getElem?_append_left (List.getElem?_eq_some_iff.mp hk').1]; exact hk', List.mem_of_getElem? h, List.mem_of_getElem? h'⟩
theorem Reach.ends (hr : F r = F' r') (hs : ∀ {ord ord' : List Nat} {pl k k' : Nat}, Reach kd r ord pl -> Reach kd' r' ord' pl -> ord[pl]? = some k -> ord'[pl]? = some k' -> F k = F' k' -> (kd k).map F = (kd' k').map F')
    {ord : List Nat} (R : Reach kd r ord ord.length) {ord' : List Nat} {pl' : Nat} (R' : Reach kd' r' ord' pl') (h : ord.length <= pl') : pl' = ord.length := by
  induction R' with
  | start => omega
  | @step o' p k' R' hk' ih =>
    by_cases hp : ord.length <= p
    . have e := ih hp
      subst e; have e1 := (Reach.same hr hs _ R R').1; have hl : ord.length = o'.length := by have := congrArg List.length e1; rwa [List.length_map, List.length_map] at this
      rw [List.getElem?_eq_none (by omega)] at hk'
      cases hk'
    . omega
end
structure MatesTo (ord ord' mt : List Nat) (i : Nat) : Prop where
  len : mt.length = ord.length
  done : ∀ (j k k' : Nat), j < i -> ord[j]? = some k -> ord'[j]? = some k' -> mt[k]? = some k'
theorem matesTo0 (ord ord' : List Nat) : MatesTo ord ord' (List.replicate ord.length 0) 0 := ⟨List.length_replicate, fun j k k' h => by omega⟩
theorem MatesTo.step {ord ord' mt : List Nat} {i k k' : Nat} (nd : ord.Nodup) (M : MatesTo ord ord' mt i) (hk : ord[i]? = some k) (hk' : ord'[i]? = some k') (hl : k < ord.length) : MatesTo ord ord' (mt.set k k') (i + 1) := by
  refine ⟨by rw [List.length_set]; exact M.len, fun j a a' hj ha ha' => ?_⟩
  rw [List.getElem?_set]
  by_cases e : j = i
  . subst e
    rw [hk] at ha; rw [hk'] at ha'
    cases ha
    cases ha'
    rw [if_pos rfl, if_pos (by rw [M.len]; exact hl)]
  . rw [if_neg]
    . exact M.done j a a' (by omega) ha ha'
    . intro z
      subst z; obtain ⟨h1, e1⟩ := List.getElem?_eq_some_iff.mp hk; obtain ⟨h2, e2⟩ := List.getElem?_eq_some_iff.mp ha; exact e ((List.getElem_inj nd).mp (e2.trans e1.symm))
structure Sorted (ab : Ab) (F : Nat -> Tx) (kd : Nat -> List Nat) : Prop where
  perm : ∀ k, k < ab.length -> (kd k).Perm (kids ab k)
  asc : ∀ k, k < ab.length -> ((kd k).map F).Pairwise (fun a b => a <= b)
theorem Sorted.eq {ab : Ab} {F : Nat -> Tx} {kd : Nat -> List Nat} (S : Sorted ab F kd) {k : Nat} (hk : k < ab.length) : (kd k).map F = srt ((kids ab k).map F) :=
  srt_of ((S.perm k hk).map F) (S.asc k hk)
section
variable {ab ab' : Ab} {r r' : Nat} {rk rk' : Nat -> Nat} {kd kd' : Nat -> List Nat} {m m' : Option Nat}
theorem mates_are (T : Tree ab r rk) (T' : Tree ab' r' rk') (S : Sorted ab (fmM ab m) kd) (S' : Sorted ab' (fmM ab' m') kd') (e : fmM ab m r = fmM ab' m' r') {ord ord' : List Nat} (B : BfsK ab kd r ord ord.length) (B' : BfsK ab' kd' r' ord' ord'.length) :
    ord.length = ord'.length /\ ∀ mt, MatesTo ord ord' mt ord.length -> Renum ab ab' mt /\ ∀ k, k < ab.length -> m = some k -> ∃ k', mt[k]? = some k' /\ m' = some k' := by
  have hR : ∀ {ord : List Nat} {pl : Nat}, Reach kd r ord pl -> ∀ k ∈ ord, k < ab.length := by
    intro ord pl R
    induction R with
    | start => intro k hk; rw [List.mem_singleton] at hk; subst hk; exact T.rlt
    | @step o p j R hj ih =>
      intro k hk
      rcases List.mem_append.mp hk with h | h
      . exact ih k h
      . exact kids_lt ((S.perm j (ih j (List.mem_of_getElem? hj))).mem_iff.mp h)
  have hR' : ∀ {ord : List Nat} {pl : Nat}, Reach kd' r' ord pl -> ∀ k ∈ ord, k < ab'.length := by
    intro ord pl R
    induction R with
    | start => intro k hk; rw [List.mem_singleton] at hk; subst hk; exact T'.rlt
    | @step o p j R hj ih =>
      intro k hk
      rcases List.mem_append.mp hk with h | h
      . exact ih k h
      . exact kids_lt ((S'.perm j (ih j (List.mem_of_getElem? hj))).mem_iff.mp h)
  have hs : ∀ {ord ord' : List Nat} {pl k k' : Nat}, Reach kd r ord pl -> Reach kd' r' ord' pl -> ord[pl]? = some k -> ord'[pl]? = some k' -> fmM ab m k = fmM ab' m' k' -> (kd k).map (fmM ab m) = (kd' k').map (fmM ab' m') := by
    intro o o' p k k' R R' h h' ef; have h1 := hR R k (List.mem_of_getElem? h); have h2 := hR' R' k' (List.mem_of_getElem? h'); rw [S.eq h1, S'.eq h2]; exact (parts_eq T T' h1 h2 ef).1
  have hl : ord.length = ord'.length := by
    rcases Nat.le_total ord.length ord'.length with h | h
    . exact (Reach.ends e hs B.reach B'.reach h).symm
    . refine Reach.ends (F := fmM ab' m') (F' := fmM ab m) e.symm (fun R R' h h' ef => (hs R' R h' h ef.symm).symm) B'.reach B.reach h
  refine ⟨hl, fun mt M => ?_⟩; have B2 : Reach kd' r' ord' ord.length := by rw [hl]; exact B'.reach
  obtain ⟨em, up⟩ := Reach.same e hs _ B.reach B2; have p1 := B.perm T S.perm; have p2 := B'.perm T' S'.perm; have n1 : ord.length = ab.length := by rw [p1.length_eq, List.length_range]
  have n2 : ord'.length = ab'.length := by rw [p2.length_eq, List.length_range]
  have hmt : ∀ (j k : Nat), ord[j]? = some k -> ∃ k', ord'[j]? = some k' /\ mt[k]? = some k' := by
    intro j k h; have hj := (List.getElem?_eq_some_iff.mp h).1; have hj' : j < ord'.length := by omega
    exact ⟨ord'[j], List.getElem?_eq_getElem hj', M.done j k _ hj h (List.getElem?_eq_getElem hj')⟩
  have at_ : ∀ (k : Nat), k < ab.length -> ∃ (j k' : Nat), ord[j]? = some k /\ ord'[j]? = some k' /\ mt[k]? = some k' := by
    intro k hk; obtain ⟨j, hj⟩ := List.mem_iff_getElem?.mp (p1.mem_iff.mpr (List.mem_range.mpr hk)); obtain ⟨k', h1, h2⟩ := hmt j k hj; exact ⟨j, k', hj, h1, h2⟩
  have mlen : mt.length = ab.length := by rw [M.len, n1]
  have mnd : mt.Nodup := by
    rw [List.nodup_iff_pairwise_ne, List.pairwise_iff_getElem]; intro i j hi hj hij heq; obtain ⟨a, a', h1, h2, h3⟩ := at_ i (by omega)
    obtain ⟨b, b', h4, h5, h6⟩ := at_ j (by omega)
    rw [List.getElem?_eq_getElem hi] at h3; rw [List.getElem?_eq_getElem hj] at h6; have z := (Option.some.inj h3).symm.trans (heq.trans (Option.some.inj h6)); subst z; obtain ⟨q1, e1⟩ := List.getElem?_eq_some_iff.mp h2; obtain ⟨q2, e2⟩ := List.getElem?_eq_some_iff.mp h5; have := (List.getElem_inj B'.nd).mp (e1.trans e2.symm); subst this; rw [h1] at h4
    cases h4
    omega
  have mperm : mt.Perm (List.range ab.length) := by
    refine (List.perm_ext_iff_of_nodup mnd List.nodup_range).mpr fun c => ?_; rw [List.mem_range]
    constructor
    . intro h
      obtain ⟨k, hk⟩ := List.mem_iff_getElem?.mp h; obtain ⟨j, k', h1, h2, h3⟩ := at_ k (by rw [<- mlen]; exact (List.getElem?_eq_some_iff.mp hk).1)
      rw [hk] at h3
      cases h3
      have := B'.lt c (List.mem_of_getElem? h2)
      omega
    . intro h
      obtain ⟨j, hj⟩ := List.mem_iff_getElem?.mp (p2.mem_iff.mpr (List.mem_range.mpr (show c < ab'.length by omega)))
      have hjl : j < ord.length := by rw [hl]; exact (List.getElem?_eq_some_iff.mp hj).1
      exact List.mem_of_getElem? (M.done j _ c hjl (List.getElem?_eq_getElem hjl) hj)
  refine ⟨⟨by omega, mperm, fun j p h => (T.up j p h).1, fun j k h => ?_⟩, fun k hkl hk => ?_⟩
  . have hjl : j < ab.length := by rw [<- mlen]; exact (List.getElem?_eq_some_iff.mp h).1
    obtain ⟨i, k', h1, h2, h3⟩ := at_ j hjl; rw [h] at h3
    cases h3
    have hkl := B'.lt k (List.mem_of_getElem? h2)
    by_cases hi : 0 < i
    . obtain ⟨i', a, a', g1, g2, g3, g4⟩ := up i j k hi h1 h2
      have c1 := mem_kids.mp ((S.perm a (B.lt a (List.mem_of_getElem? g1))).mem_iff.mp g3); have c2 := mem_kids.mp ((S'.perm a' (B'.lt a' (List.mem_of_getElem? g2))).mem_iff.mp g4); rw [c1, c2]; have : mt[a]? = some a' := M.done i' a a' (List.getElem?_eq_some_iff.mp g1).1 g1 g2
      show some (some a') = some (some (mt.getD a 0))
      rw [List.getD_eq_getElem?_getD, this]
      rfl
    . have hi0 : i = 0 := by omega
      subst hi0; obtain ⟨t, et⟩ := B.reach.pos; obtain ⟨t', et'⟩ := B'.reach.pos; rw [et] at h1; rw [et'] at h2; have z1 : r = j := Option.some.inj h1; have z2 : r' = k := Option.some.inj h2; subst z1 z2; rw [T.root, T'.root]
      rfl
  . subst hk
    obtain ⟨i, k', h1, h2, h3⟩ := at_ k hkl
    have ef : fmM ab (some k) k = fmM ab' m' k' := by
      have := congrArg (·[i]?) em
      simp only [List.getElem?_map, h1, h2, Option.map_some] at this
      exact Option.some.inj this
    exact ⟨k', h3, (parts_eq T T' hkl (B'.lt k' (List.mem_of_getElem? h2)) ef).2.mp rfl⟩
end
end KM
namespace KM
section
variable {ab : Ab} {r : Nat} {rk : Nat -> Nat}
theorem getD_of {nm : List Nat} {k k' : Nat} (h : nm[k]? = some k') : nm.getD k 0 = k' := by rw [List.getD_eq_getElem?_getD, h]; rfl
end
def swpR : List Tx -> Nat
  | [] => 1
  | x :: t => swpR t * (t.count x + 1)
def swp (l : List Tx) : Nat := swpR l.reverse
theorem swp_snoc (l : List Tx) (x : Tx) : swp (l ++ [x]) = swp l * (l.count x + 1) := by
  unfold swp
  rw [List.reverse_append]
  show swpR l.reverse * (l.reverse.count x + 1) = _
  rw [List.count_reverse]
def fact : Nat -> Nat
  | 0 => 1
  | n + 1 => fact n * (n + 1)
theorem swpR_le : ∀ l, swpR l <= fact l.length
  | [] => Nat.le_refl _
  | x :: t => Nat.mul_le_mul (swpR_le t) (by have := List.count_le_length (a := x) (l := t); omega)
theorem fact_mono {a b : Nat} (h : a <= b) : fact a <= fact b := by
  induction h with
  | refl => exact Nat.le_refl _
  | @step b _ ih => exact Nat.le_trans ih (Nat.le_mul_of_pos_right _ (by omega))
theorem swp_le (l : List Tx) : swp l <= fact l.length := by
  unfold swp
  have := swpR_le l.reverse
  rwa [List.length_reverse] at this
def waysTo (ab : Ab) : Nat -> Nat
  | 0 => 1
  | i + 1 => waysTo ab i * swp ((kids ab i).map (fm ab))
def ways (ab : Ab) : Nat := waysTo ab ab.length
end KM
namespace KD
open PySem L2 KM PyProof.Rows
structure KitD (P : Program) (w : World) (K : PySem.W.Frag) (mg : Str -> Option Value) (base : Heap) (k : Nat) (x : Str) (ps : List Str) (sp : Sp) (f : Addr) (fd : FuncData) : Prop where
  ok : FnOk P w K mg base (CXe P w) k f fd ps sp
  bd : Binds K fd ps []
  bd1 : Binds K fd ps [.none]
  kp : PySem.W.keepIn K (.ref f) = true
  mg : mg x = some (.ref f)
theorem KitE.quiet {P : Program} {w : World} {K : PySem.W.Frag} {mg : Str -> Option Value} {base : Heap} {k : Nat} {x : Str} {ps : List Str} {sp sp' : Sp} {f : Addr} {fd : FuncData} (G : KitE P w K mg base k x ps sp f fd)
    (h : ∀ vs H Q E, sp' vs H Q E -> sp vs H Q E0) : Kit P w K mg base k x ps sp' f fd := ⟨G.ok.quiet h, G.bd, G.kp, G.mg⟩
theorem vals_non : Vals [V.non] [Value.none] := .cons (show RelV .non .none from rfl) .nil
structure ListsAt (H : Hp) (u : Addr) (as : List Addr) (n : Nat) (kd : Nat -> List Nat) : Prop where
  top : H u = some (.lst (as.map V.ref))
  len : as.length = n
  each : ∀ (i : Nat) (c : Addr), as[i]? = some c -> H c = some (.lst ((kd i).map vN))
theorem UnderAt.lists {H : Hp} {u : Addr} {as : List Addr} {ab : Ab} (U : UnderAt H u as ab) : ListsAt H u as ab.length (kids ab) := ⟨U.top, U.len, U.each⟩
inductive spDownK (vs : (List V)) (H : Hp) (Q : VK) (e_ : XK) : Prop
  | mk (u : Addr) (as : List Addr) (ab : Ab) (kd : Nat -> List Nat) (r : Nat) (z1_ : vs = [vN r, .ref u]) (z2_ : ListsAt H u as ab.length kd) (z3_ : (∀ k, k < ab.length -> (kd k).Perm (kids ab k))) (z4_ : ab[r]? = some none) (z5_ : ab.length <= 1000) (z6_ : ∀ (o : Addr) (ord : List Nat) (H' : Hp), Same H H' -> H' o = some (.lst (ord.map vN)) -> BfsK ab kd r ord ord.length -> Q (.ref o) H') : spDownK vs H Q e_
def fms (ab : Ab) (m : Option Nat) : List Tx := (List.range ab.length).map (fmM ab m)
theorem fms_len (ab : Ab) (m : Option Nat) : (fms ab m).length = ab.length := by unfold fms; rw [List.length_map, List.length_range]
theorem fms_get {ab : Ab} {m : Option Nat} {k : Nat} (h : k < ab.length) : (fms ab m)[k]? = some (fmM ab m k) := by
  unfold fms
  rw [List.getElem?_map, List.getElem?_range h]
  rfl
inductive spKnots (C : Addr) (vs : (List V)) (H : Hp) (Q : VK) (E : XK) : Prop
  | mk (a : Addr) (A : AI) (m : Option Nat) (z1_ : vs = [.ref a, vO m]) (z2_ : H a = some (.lst (A.map vI))) (z3_ : A.length < 64) (z4_ : (∀ (ab : Ab) (r : Nat) (rk : Nat -> Nat) (p : Addr) (H' : Hp), A = ab.map toI -> Tree ab r rk -> Same H H' -> H p = none -> H' p = some (.lst ((fms ab m).map vT)) -> Q (.ref p) H')) (z5_ : (¬ Rtd A -> ∀ H', Same H H' -> E (.ref C) none H')) : spKnots C vs H Q E
theorem kids_lt_len {ab : Ab} {r : Nat} (hr : ab[r]? = some none) (k : Nat) : (kids ab k).length < ab.length := by
  have nd : (r :: kids ab k).Nodup := List.nodup_cons.mpr ⟨(fun h => (by rw [mem_kids.mp h] at hr; cases hr)), kids_nodup ab k⟩
  have h := nd.length_le_of_subset (l₂ := List.range ab.length) fun j hj => List.mem_range.mpr (by
    rcases List.mem_cons.mp hj with e | e
    . rw [e]; exact (List.getElem?_eq_some_iff.mp hr).1
    . exact kids_lt e)
  rw [List.length_range, List.length_cons] at h
  omega
structure FilledM (ab : Ab) (m : Option Nat) (ord : List Nat) (fs : List Tx) (i : Nat) : Prop where
  len : fs.length = ab.length
  done : ∀ (j k : Nat), ord.length - i <= j -> ord[j]? = some k -> fs[k]? = some (fmM ab m k)
theorem FilledM.kid {ab : Ab} {r : Nat} {m : Option Nat} {ord : List Nat} {fs : List Tx} {i k c : Nat} (B : Bfs ab r ord ord.length) (F : FilledM ab m ord fs i) (hi : i < ord.length) (hk : ord[ord.length - 1 - i]? = some k) (hc : c ∈ kids ab k) : fs[c]? = some (fmM ab m c) := by
  obtain ⟨j, hj, hjc⟩ := B.late _ k c (by omega) hk hc
  exact F.done j c (by omega) hjc
theorem FilledM.step {ab : Ab} {r : Nat} {rk : Nat -> Nat} (T : Tree ab r rk) {m : Option Nat} {ord : List Nat} {fs : List Tx} {i k : Nat} (B : Bfs ab r ord ord.length) (F : FilledM ab m ord fs i) (hi : i < ord.length) (hk : ord[ord.length - 1 - i]? = some k) :
    FilledM ab m ord (fs.set k (brk (srt ((kids ab k).map (fmM ab m) ++ mrk m k)).flatten)) (i + 1) := by
  have hkl : k < ab.length := B.lt k (List.mem_iff_getElem?.mpr ⟨_, hk⟩); refine ⟨by rw [List.length_set]; exact F.len, fun j k' hj hk' => ?_⟩
  rw [List.getElem?_set]
  by_cases e : k = k'
  . subst e
    rw [if_pos rfl, if_pos (by rw [F.len]; exact hkl), T.fmM_eq m hkl]
  . rw [if_neg e]
    refine F.done j k' ?_ hk'
    by_cases h : ord.length - i <= j
    . exact h
    . exfalso
      have : j = ord.length - 1 - i := by omega
      subst this; rw [hk] at hk'; exact e (Option.some.inj hk')
theorem FilledM.all {ab : Ab} {r : Nat} {rk : Nat -> Nat} (T : Tree ab r rk) {m : Option Nat} {ord : List Nat} {fs : List Tx} (B : Bfs ab r ord ord.length) (F : FilledM ab m ord fs ord.length) : fs = fms ab m := by
  refine List.ext_getElem? fun k => ?_
  by_cases h : k < ab.length
  . obtain ⟨j, hj⟩ := List.mem_iff_getElem?.mp (B.all T _ k (Nat.le_refl _) h)
    rw [F.done j k (by omega) hj, fms_get h]
  . rw [List.getElem?_eq_none (by rw [F.len]; omega), List.getElem?_eq_none (by rw [fms_len]; omega)]
end KD
namespace KD
open PySem L2 KM PyProof.Rows
theorem toI_inj : ∀ {a b : Ab}, a.map toI = b.map toI -> a = b := fun {a b} h => by
  have := congrArg (List.map ofI) h
  rwa [map_back, map_back] at this
theorem form_quiet {C : Addr} : ∀ (vs : List V) (H : Hp) (Q : VK) (E : XK), spForm vs H Q E -> spFormX C vs H Q E0 := by
  rintro vs H Q E p_
  refine hld fun g_ k_ => ?_; obtain ⟨a, ab, r, rk, rfl, ha, T, hn, q⟩ := p_; refine k_ ?_; refine ⟨a, ab.map toI, rfl, by rw [map_vI]; exact ha, by rw [List.length_map]; exact hn, fun ab' r' rk' H' e T' s => ?_, fun h => absurd ⟨ab, r, rk, rfl, T⟩ h⟩
  have e' := toI_inj e; subst e'; rw [T.only r' T'.root]; exact q H' s
end KD
namespace KM
section
variable (F F' : Nat -> Tx)
theorem nodup_map {α β : Type} {l : List α} {f : α -> β} (nd : l.Nodup) (h : ∀ a ∈ l, ∀ b ∈ l, f a = f b -> a = b) : (l.map f).Nodup := by
  rw [List.nodup_iff_pairwise_ne] at nd ⊢; refine List.pairwise_map.mpr (nd.imp_of_mem ?_); intro a b ha hb hne e; exact hne (h a ha b hb e)
end
theorem nodup_full {l : List Nat} {n : Nat} (nd : l.Nodup) (h : ∀ c ∈ l, c < n) (hl : l.length = n) : l.Perm (List.range n) := by
  refine (List.perm_ext_iff_of_nodup nd List.nodup_range).mpr fun c => ⟨fun hc => List.mem_range.mpr (h c hc), fun hc => ?_⟩; refine Classical.byContradiction fun hn => ?_; have nd2 : (c :: l).Nodup := List.nodup_cons.mpr ⟨hn, nd⟩
  have h2 := nd2.length_le_of_subset (l₂ := List.range n) fun j hj => by
    rcases List.mem_cons.mp hj with e | e
    . rw [e]; exact hc
    . exact List.mem_range.mpr (h j e)
  rw [List.length_range, List.length_cons] at h2
  omega
section
variable {ab ab' : Ab} {r r' : Nat} {rk rk' : Nat -> Nat}
theorem Renum.root2 (T : Tree ab r rk) (T' : Tree ab' r' rk') {nm : List Nat} (R : Renum ab ab' nm) : nm.getD r 0 = r' := by
  have hr : r < nm.length := by rw [R.nlen]; exact T.rlt
  have := R.at' r (nm.getD r 0) (by rw [getD_lt hr]; exact List.getElem?_eq_getElem hr)
  rw [T.root] at this; exact T'.only _ this
end
end KM
namespace KM
abbrev Ln := List (Nat × Nat)
def nrm (p : Nat × Nat) : Nat × Nat := if p.1 <= p.2 then p else (p.2, p.1)
def nb (k : Nat) (p : Nat × Nat) : List Nat := (if p.1 = k then [p.2] else []) ++ (if p.2 = k then [p.1] else [])
def near (ls : Ln) (k : Nat) : List Nat := ls.flatMap (nb k)
def par (ab : Ab) (k : Nat) : List Nat := match ab[k]? with
  | some (some p) => [p]
  | _ => []
def ed1 (ab : Ab) (k : Nat) : Option (Nat × Nat) := (ab[k]?.getD none).map fun p => (k, p)
def eds (ab : Ab) : Ln := (List.range ab.length).filterMap (ed1 ab)
def FreeOf (ab : Ab) (ls : Ln) : Prop := (ls.map nrm).Perm ((eds ab).map nrm)
theorem nrm_flip (a b : Nat) : nrm (b, a) = nrm (a, b) := by
  unfold nrm
  by_cases h : a <= b
  . by_cases h2 : b <= a
    . have : a = b := by omega
      subst this; rfl
    . rw [if_neg (show ¬ (b, a).1 <= (b, a).2 from h2), if_pos (show (a, b).1 <= (a, b).2 from h)]
  . rw [if_pos (show (b, a).1 <= (b, a).2 by show b <= a; omega), if_neg (show ¬ (a, b).1 <= (a, b).2 from h)]
theorem nrm_cases (p : Nat × Nat) : nrm p = p \/ nrm p = (p.2, p.1) := by
  unfold nrm
  split
  . exact .inl rfl
  . exact .inr rfl
theorem nrm_eq {p q : Nat × Nat} (h : nrm p = nrm q) : q = p \/ q = (p.2, p.1) := by
  obtain ⟨a, b⟩ := p; obtain ⟨c, d⟩ := q
  rcases nrm_cases (a, b) with e | e <;> rcases nrm_cases (c, d) with e' | e' <;> rw [e, e'] at h
  . exact .inl h.symm
  . right
    have h1 := congrArg Prod.fst h; have h2 := congrArg Prod.snd h
    dsimp only at h1 h2
    rw [h1, h2]
  . right
    exact h.symm
  . left
    have h1 := congrArg Prod.fst h; have h2 := congrArg Prod.snd h
    dsimp only at h1 h2
    rw [h1, h2]
theorem nb_flip (k a b : Nat) : (nb k (b, a)).Perm (nb k (a, b)) := List.perm_append_comm
theorem nb_nrm (k : Nat) (p : Nat × Nat) : (nb k (nrm p)).Perm (nb k p) := by
  rcases nrm_cases p with e | e <;> rw [e]
  exact nb_flip k p.1 p.2
theorem flatMap_congr_perm {α β : Type} {f g : α -> List β} : ∀ {l : List α}, (∀ a ∈ l, (f a).Perm (g a)) -> (l.flatMap f).Perm (l.flatMap g)
  | [], _ => .refl _
  | a :: l, h => by
    rw [List.flatMap_cons, List.flatMap_cons]; exact (h a List.mem_cons_self).append (flatMap_congr_perm fun b hb => h b (List.mem_cons_of_mem _ hb))
theorem flatMap_perm {α β : Type} (f : α -> List β) {l l' : List α} (h : l.Perm l') : (l.flatMap f).Perm (l'.flatMap f) := by
  induction h with
  | nil => exact .refl _
  | cons x _ ih => rw [List.flatMap_cons, List.flatMap_cons]; exact ih.append_left _
  | swap x y t =>
    rw [List.flatMap_cons, List.flatMap_cons, List.flatMap_cons, List.flatMap_cons, <- List.append_assoc, <- List.append_assoc]; exact List.perm_append_comm.append_right _
  | trans _ _ i1 i2 => exact i1.trans i2
theorem flatMap_append_perm {α β : Type} (f g : α -> List β) : ∀ l : List α, (l.flatMap fun a => f a ++ g a).Perm (l.flatMap f ++ l.flatMap g)
  | [] => .refl _
  | a :: l => by
    rw [List.flatMap_cons, List.flatMap_cons, List.flatMap_cons]; have ih := flatMap_append_perm f g l; refine ((ih.append_left _)).trans ?_; rw [List.append_assoc, List.append_assoc]; refine List.Perm.append_left _ ?_; rw [<- List.append_assoc, <- List.append_assoc]; exact List.perm_append_comm.append_right _
theorem near_nrm (ls : Ln) (k : Nat) : (near (ls.map nrm) k).Perm (near ls k) := by
  unfold near
  rw [List.flatMap_map]; exact flatMap_congr_perm fun p _ => nb_nrm k p
theorem near_perm {ls ls' : Ln} (h : (ls.map nrm).Perm (ls'.map nrm)) (k : Nat) : (near ls k).Perm (near ls' k) :=
  ((near_nrm ls k).symm.trans (flatMap_perm _ h)).trans (near_nrm ls' k)
theorem mem_near {ls : Ln} {k c : Nat} : c ∈ near ls k ↔ (k, c) ∈ ls \/ (c, k) ∈ ls := by
  unfold near
  rw [List.mem_flatMap]
  constructor
  . rintro ⟨⟨a, b⟩, hp, h⟩
    unfold nb at h
    rcases List.mem_append.mp h with h | h
    . split at h
      . rename_i e
        have e' : a = k := e; have h' : c = b := List.mem_singleton.mp (by assumption)
        rw [<- e', h']; exact .inl hp
      . cases h
    . split at h
      . rename_i e
        have e' : b = k := e; have h' : c = a := List.mem_singleton.mp (by assumption)
        rw [<- e', h']; exact .inr hp
      . cases h
  . rintro (h | h)
    . exact ⟨_, h, List.mem_append.mpr (.inl (by show c ∈ (if k = k then [c] else []); rw [if_pos rfl]; exact List.mem_singleton.mpr rfl))⟩
    . exact ⟨_, h, List.mem_append.mpr (.inr (by show c ∈ (if k = k then [c] else []); rw [if_pos rfl]; exact List.mem_singleton.mpr rfl))⟩
theorem near_symm {ls : Ln} {k c : Nat} (h : c ∈ near ls k) : k ∈ near ls c := mem_near.mpr ((mem_near.mp h).symm)
def oL {β γ : Type} (g : β -> List γ) : Option β -> List γ
  | some b => g b
  | none => []
theorem flatMap_filterMap' {α β γ : Type} (f : α -> Option β) (g : β -> List γ) : ∀ l : List α, (l.filterMap f).flatMap g = l.flatMap fun a => oL g (f a)
  | [] => rfl
  | a :: l => by
    rw [List.flatMap_cons, List.filterMap_cons]
    cases f a with
    | none => show _ = [] ++ _; rw [List.nil_append]; exact flatMap_filterMap' f g l
    | some b => show (b :: _).flatMap g = g b ++ _; rw [List.flatMap_cons, flatMap_filterMap' f g l]
theorem flatMap_one {k n : Nat} (hk : k < n) (x : List Nat) : ((List.range n).flatMap fun j => if j = k then x else []) = x := by
  induction n with
  | zero => omega
  | succ n ih =>
    rw [List.range_succ, List.flatMap_append]
    by_cases e : k = n
    . subst e
      have z : ((List.range k).flatMap fun j => if j = k then x else []) = [] := by
        rw [List.flatMap_eq_nil_iff]; intro j hj; rw [if_neg (by have := List.mem_range.mp hj; omega)]
      rw [z]
      simp
    . rw [ih (by omega)]
      have : ([n].flatMap fun j => if j = k then x else []) = [] := by
        show (if n = k then x else []) ++ [] = []
        rw [if_neg (Ne.symm e)]
        rfl
      rw [this, List.append_nil]
theorem flatMap_if {p : Nat -> Bool} : ∀ l : List Nat, (l.flatMap fun j => if p j then [j] else []) = l.filter p
  | [] => rfl
  | a :: l => by
    rw [List.flatMap_cons, flatMap_if l]
    by_cases h : p a = true
    . rw [if_pos h, List.filter_cons_of_pos h]; rfl
    . rw [if_neg h, List.filter_cons_of_neg h]; rfl
section
variable {ab : Ab} {r : Nat} {rk : Nat -> Nat}
theorem near_eds {k : Nat} (hk : k < ab.length) : (near (eds ab) k).Perm (kids ab k ++ par ab k) := by
  unfold near eds
  rw [flatMap_filterMap']
  have e : (fun j => oL (nb k) (ed1 ab j)) = fun j => (if j = k then par ab k else []) ++ (if ab[j]? == some (some k) then [j] else []) := by
    funext j
    unfold ed1
    cases q : ab[j]?.getD none with
    | none =>
      have h1 : (if j = k then par ab k else []) = [] := by
        split
        . rename_i z
          subst z
          unfold par
          cases q2 : ab[j]? with
          | none => rfl
          | some o => rw [q2] at q; cases o with
            | none => rfl
            | some p => cases q
        . rfl
      have h2 : (ab[j]? == some (some k)) = false := by
        rw [beq_eq_false_iff_ne]; intro z; rw [z] at q
        cases q
      rw [h1, h2]
      rfl
    | some p =>
      have hp : ab[j]? = some (some p) := by
        cases q2 : ab[j]? with
        | none => rw [q2] at q; cases q
        | some o => rw [q2] at q; exact congrArg some q
      show (if j = k then [p] else []) ++ (if p = k then [j] else []) = _
      congr 1
      . split
        . rename_i z
          subst z
          unfold par
          rw [hp]
        . rfl
      . rw [hp]
        by_cases z : p = k
        . subst z; rw [if_pos rfl, if_pos (beq_self_eq_true _)]
        . rw [if_neg z, if_neg]
          intro z2; exact z (Option.some.inj (Option.some.inj (eq_of_beq z2)))
  rw [e]; refine (flatMap_append_perm _ _ _).trans ?_; rw [flatMap_one hk, flatMap_if]; exact List.perm_append_comm
theorem FreeOf.near {ls : Ln} (f : FreeOf ab ls) {k : Nat} (hk : k < ab.length) : (near ls k).Perm (kids ab k ++ par ab k) := (near_perm f k).trans (near_eds hk)
theorem mem_par {k p : Nat} : p ∈ par ab k ↔ ab[k]? = some (some p) := by
  unfold par
  split
  . rename_i q h
    rw [h, List.mem_singleton]
    constructor
    . rintro rfl; rfl
    . intro z; exact (Option.some.inj (Option.some.inj z)).symm
  . rename_i h
    constructor
    . intro z; cases z
    . intro z; exact absurd z (h p)
theorem FreeOf.joined {ls : Ln} (f : FreeOf ab ls) {k : Nat} (hk : k < ab.length) (c : Nat) : c ∈ KM.near ls k ↔ ab[c]? = some (some k) \/ ab[k]? = some (some c) := by
  rw [(f.near hk).mem_iff, List.mem_append, mem_kids, mem_par]
theorem tree_uniq {ab' : Ab} {rk' : Nat -> Nat} {ls : Ln} (T : Tree ab r rk) (T' : Tree ab' r rk') (f : FreeOf ab ls) (f' : FreeOf ab' ls) (hl : ab'.length = ab.length) : ab' = ab := by
  have key : ∀ (d k : Nat), rk k <= d -> k < ab.length -> ab'[k]? = ab[k]? := by
    intro d
    induction d with
    | zero =>
      intro k hd hk
      cases q : ab[k] with
      | none =>
        have := T.only k (by rw [List.getElem?_eq_getElem hk, q])
        subst this; rw [T.root, T'.root]
      | some p =>
        have := (T.up k p (by rw [List.getElem?_eq_getElem hk, q])).2
        omega
    | succ d ih =>
      intro k hd hk
      cases q : ab[k] with
      | none =>
        have := T.only k (by rw [List.getElem?_eq_getElem hk, q])
        subst this; rw [T.root, T'.root]
      | some p =>
        have hp : ab[k]? = some (some p) := by rw [List.getElem?_eq_getElem hk, q]
        obtain ⟨h1, h2⟩ := T.up k p hp; have e := ih p (by omega) h1
        rcases (f'.joined (by omega) p).mp ((f.joined hk p).mpr (.inr hp)) with z | z
        . rw [e] at z
          have := (T.up p k z).2
          omega
        . rw [z, hp]
  refine List.ext_getElem? fun k => ?_
  by_cases hk : k < ab.length
  . exact key _ k (Nat.le_refl _) hk
  . rw [List.getElem?_eq_none (by omega), List.getElem?_eq_none (by omega)]
theorem FreeOf.closed {ls : Ln} (T : Tree ab r rk) (f : FreeOf ab ls) {S : Nat -> Prop} {v : Nat} (hv : v < ab.length) (h0 : S v) (hc : ∀ k c, k < ab.length -> S k -> c ∈ KM.near ls k -> S c) : ∀ k, k < ab.length -> S k := by
  have hr : S r := by
    have up : ∀ (d k : Nat), rk k <= d -> k < ab.length -> S k -> S r := by
      intro d
      induction d with
      | zero =>
        intro k hd hk hs
        cases q : ab[k] with
        | none => rw [<- T.only k (by rw [List.getElem?_eq_getElem hk, q])]; exact hs
        | some p => have := (T.up k p (by rw [List.getElem?_eq_getElem hk, q])).2; omega
      | succ d ih =>
        intro k hd hk hs
        cases q : ab[k] with
        | none => rw [<- T.only k (by rw [List.getElem?_eq_getElem hk, q])]; exact hs
        | some p =>
          have hp : ab[k]? = some (some p) := by rw [List.getElem?_eq_getElem hk, q]
          obtain ⟨h1, h2⟩ := T.up k p hp; exact ih p (by omega) h1 (hc k p hk hs ((f.joined hk p).mpr (.inr hp)))
    exact up _ v (Nat.le_refl _) hv h0
  have down : ∀ (d k : Nat), rk k <= d -> k < ab.length -> S k := by
    intro d
    induction d with
    | zero =>
      intro k hd hk
      cases q : ab[k] with
      | none => rw [T.only k (by rw [List.getElem?_eq_getElem hk, q])]; exact hr
      | some p => have := (T.up k p (by rw [List.getElem?_eq_getElem hk, q])).2; omega
    | succ d ih =>
      intro k hd hk
      cases q : ab[k] with
      | none => rw [T.only k (by rw [List.getElem?_eq_getElem hk, q])]; exact hr
      | some p =>
        have hp : ab[k]? = some (some p) := by rw [List.getElem?_eq_getElem hk, q]
        obtain ⟨h1, h2⟩ := T.up k p hp; exact hc p k h1 (ih p (by omega) h1) ((f.joined h1 k).mpr (.inl hp))
  exact fun k hk => down _ k (Nat.le_refl _) hk
end
theorem sub_perm {α : Type} [BEq α] [LawfulBEq α] : ∀ {l l' : List α}, l.Nodup -> (∀ x ∈ l, x ∈ l') -> l'.length <= l.length -> l.Perm l'
  | [], l', _, _, h => by
    have : l' = [] := List.eq_nil_of_length_eq_zero (Nat.le_zero.mp h); rw [this]
  | x :: t, l', nd, hs, h => by
    obtain ⟨n1, n2⟩ := List.nodup_cons.mp nd; have hx := hs x List.mem_cons_self; have p := List.perm_cons_erase hx; have hlen := p.length_eq; rw [List.length_cons] at hlen h; refine List.Perm.trans ((List.perm_cons x).mpr (sub_perm n2 (fun y hy => ?_) (by omega))) p.symm
    exact (List.mem_erase_of_ne (fun z => n1 (by rw [<- z]; exact hy))).mpr (hs y (List.mem_cons_of_mem _ hy))
section
variable {ab : Ab} {r : Nat} {rk : Nat -> Nat}
theorem eds_fst : (eds ab).map Prod.fst = (List.range ab.length).filter fun k => (ab[k]?.getD none).isSome := by
  unfold eds
  generalize List.range ab.length = l
  induction l with
  | nil => rfl
  | cons a l ih =>
    rw [List.filterMap_cons]
    unfold ed1 at ih ⊢
    cases q : ab[a]?.getD none with
    | none => rw [List.filter_cons_of_neg (by rw [q]; simp)]; exact ih
    | some p => rw [List.filter_cons_of_pos (by rw [q]; rfl)]; show a :: _ = _; rw [<- ih]
theorem Tree.eds_len (T : Tree ab r rk) : (eds ab).length + 1 = ab.length := by
  have h : (r :: (eds ab).map Prod.fst).Perm (List.range ab.length) := by
    rw [eds_fst]; refine (List.perm_ext_iff_of_nodup (List.nodup_cons.mpr ⟨fun z => ?_, List.nodup_range.sublist List.filter_sublist⟩) List.nodup_range).mpr fun k => ?_
    . have := (List.mem_filter.mp z).2
      rw [T.root] at this
      cases this
    . rw [List.mem_cons, List.mem_filter, List.mem_range]
      constructor
      . rintro (rfl | h)
        . exact T.rlt
        . exact h.1
      . intro hk
        cases q : ab[k] with
        | none => exact .inl (T.only k (by rw [List.getElem?_eq_getElem hk, q]))
        | some p => exact .inr ⟨hk, by rw [List.getElem?_eq_getElem hk, q]; rfl⟩
  have := h.length_eq; rw [List.length_cons, List.length_map, List.length_range] at this; exact this
theorem mem_eds {k p : Nat} : (k, p) ∈ eds ab ↔ ab[k]? = some (some p) := by
  unfold eds
  rw [List.mem_filterMap]
  constructor
  . rintro ⟨j, _, h⟩
    unfold ed1 at h
    cases q : ab[j]?.getD none with
    | none => rw [q] at h; cases h
    | some x =>
      rw [q] at h; have e := Option.some.inj h; have e1 : j = k := congrArg Prod.fst e; have e2 : x = p := congrArg Prod.snd e; subst e1 e2
      cases q2 : ab[j]? with
      | none => rw [q2] at q; cases q
      | some o => rw [q2] at q; exact congrArg some q
  . intro h
    refine ⟨k, List.mem_range.mpr (List.getElem?_eq_some_iff.mp h).1, ?_⟩
    unfold ed1
    rw [h]
    rfl
theorem Tree.eds_nodup (T : Tree ab r rk) : ((eds ab).map nrm).Nodup := by
  have nd : (eds ab).Nodup := by
    have : ((eds ab).map Prod.fst).Nodup := by rw [eds_fst]; exact List.nodup_range.sublist List.filter_sublist
    rw [List.nodup_iff_pairwise_ne] at this ⊢; exact (List.pairwise_map.mp this).imp fun h z => h (by rw [z])
  refine nodup_map nd fun a ha b hb e => ?_; obtain ⟨k, p⟩ := a; obtain ⟨k', p'⟩ := b
  rcases nrm_eq e with z | z
  . exact z.symm
  . have h1 := (T.up k p (mem_eds.mp ha)).2
    have h2 := (T.up k' p' (mem_eds.mp hb)).2; have z1 : k' = p := congrArg Prod.fst z; have z2 : p' = k := congrArg Prod.snd z; subst z1 z2
    omega
theorem Tree.freeOf (T : Tree ab r rk) {ls : Ln} (hn : ls.length + 1 = ab.length) (h : ∀ k p, ab[k]? = some (some p) -> p ∈ near ls k) : FreeOf ab ls := by
  have hl := T.eds_len; refine (sub_perm T.eds_nodup (fun x hx => ?_) (by rw [List.length_map, List.length_map]; omega)).symm
  obtain ⟨⟨k, p⟩, hkp, rfl⟩ := List.mem_map.mp hx
  rcases mem_near.mp (h k p (mem_eds.mp hkp)) with z | z
  . exact List.mem_map.mpr ⟨_, z, rfl⟩
  . exact List.mem_map.mpr ⟨_, z, nrm_flip k p⟩
theorem FreeOf.len (T : Tree ab r rk) {ls : Ln} (f : FreeOf ab ls) : ls.length + 1 = ab.length := by
  have h1 := T.eds_len; have h2 := f.length_eq; rw [List.length_map, List.length_map] at h2
  omega
theorem FreeOf.lt (T : Tree ab r rk) {ls : Ln} (f : FreeOf ab ls) {p : Nat × Nat} (h : p ∈ ls) : p.1 < ab.length /\ p.2 < ab.length := by
  obtain ⟨⟨k, q⟩, hq, e⟩ := List.mem_map.mp (f.mem_iff.mp (List.mem_map.mpr ⟨p, h, rfl⟩)); have hk := mem_eds.mp hq; have h1 := (List.getElem?_eq_some_iff.mp hk).1; have h2 := (T.up k q hk).1
  rcases nrm_eq e with z | z
  . rw [z]; exact ⟨h1, h2⟩
  . rw [z]; exact ⟨h2, h1⟩
end
end KM
namespace KM
structure GB (ls : Ln) (n v : Nat) (ord : List Nat) (pa : Nat -> Option Nat) (pl : Nat) : Prop where
  nd : ord.Nodup
  lt : ∀ k ∈ ord, k < n
  head : ∃ t, ord = v :: t
  pav : pa v = none
  up : ∀ (j c : Nat), 0 < j -> ord[j]? = some c -> ∃ (i k : Nat), i < j /\ ord[i]? = some k /\ pa c = some k /\ c ∈ near ls k
  le : pl <= ord.length
  closed : ∀ (i k : Nat), i < pl -> ord[i]? = some k -> ∀ c ∈ near ls k, c ∈ ord
section
variable {ls : Ln} {n v : Nat} {ord : List Nat} {pa : Nat -> Option Nat} {pl : Nat}
theorem gb0 (hv : v < n) : GB ls n v [v] (fun _ => none) 0 where
  nd := by simp
  lt := by intro k hk; rw [List.mem_singleton] at hk; subst hk; exact hv
  head := ⟨[], rfl⟩
  pav := rfl
  up := by
    intro j c hj h; rw [List.getElem?_eq_none (show [v].length <= j from hj)] at h
    cases h
  le := Nat.zero_le _
  closed := by intro i k h; omega
theorem GB.meet (B : GB ls n v ord pa pl) {k c : Nat} (hk : ord[pl]? = some k) (hc : c ∈ near ls k) (hn : c ∉ ord) (hcl : c < n) : GB ls n v (ord ++ [c]) (fun j => if j = c then some k else pa j) pl where
  nd := by
    rw [List.nodup_append]; refine ⟨B.nd, by simp, fun a ha b hb e => ?_⟩
    rw [List.mem_singleton] at hb; subst hb e; exact hn ha
  lt := by
    intro j hj
    rcases List.mem_append.mp hj with h | h
    . exact B.lt j h
    . rw [List.mem_singleton] at h; subst h; exact hcl
  head := by
    obtain ⟨t, e⟩ := B.head; exact ⟨t ++ [c], by rw [e]; rfl⟩
  pav := by
    obtain ⟨t, e⟩ := B.head
    show (if v = c then some k else pa v) = none
    rw [if_neg, B.pav]; intro z; exact hn (by rw [<- z, e]; exact List.mem_cons_self)
  up := by
    intro j d hj h
    by_cases hjl : j < ord.length
    . rw [List.getElem?_append_left hjl] at h
      obtain ⟨i, a, h1, h2, h3, h4⟩ := B.up j d hj h; refine ⟨i, a, h1, by rw [List.getElem?_append_left (by omega)]; exact h2, ?_, h4⟩
      show (if d = c then some k else pa d) = some a
      rw [if_neg, h3]; intro z; exact hn (z ▸ List.mem_of_getElem? h)
    . have hpl := (List.getElem?_eq_some_iff.mp hk).1
      rw [List.getElem?_append_right (by omega)] at h
      have hd : d = c := by
        have := List.mem_of_getElem? h; exact List.mem_singleton.mp this
      subst hd; exact ⟨pl, k, by omega, by rw [List.getElem?_append_left hpl]; exact hk, if_pos rfl, hc⟩
  le := by rw [List.length_append]; have := B.le; omega
  closed := by
    intro i a hi h d hd; have := B.le; rw [List.getElem?_append_left (by omega)] at h
    exact List.mem_append.mpr (.inl (B.closed i a hi h d hd))
theorem GB.next (B : GB ls n v ord pa pl) {k : Nat} (hk : ord[pl]? = some k) (h : ∀ c ∈ near ls k, c ∈ ord) : GB ls n v ord pa (pl + 1) :=
  ⟨B.nd, B.lt, B.head, B.pav, B.up, (List.getElem?_eq_some_iff.mp hk).1, fun i a hi ha => by
    by_cases e : i < pl
    . exact B.closed i a e ha
    . have : i = pl := by omega
      subst this; rw [hk] at ha
      cases ha
      exact h⟩
theorem GB.len (B : GB ls n v ord pa pl) : ord.length <= n := by
  have h := B.nd.length_le_of_subset (l₂ := List.range n) fun k hk => List.mem_range.mpr (B.lt k hk); rw [List.length_range] at h; exact h
def hung (n : Nat) (pa : Nat -> Option Nat) : Ab := (List.range n).map pa
theorem hung_len : (hung n pa).length = n := by unfold hung; rw [List.length_map, List.length_range]
theorem hung_get {k : Nat} (h : k < n) : (hung n pa)[k]? = some (pa k) := by unfold hung; rw [List.getElem?_map, List.getElem?_range h]; rfl
theorem GB.tree (B : GB ls n v ord pa pl) (hw : ord.length = n) : Tree (hung n pa) v (fun k => ord.idxOf k) /\ ∀ (k p : Nat), (hung n pa)[k]? = some (some p) -> p ∈ near ls k := by
  have pm := nodup_full B.nd B.lt hw; have hmem : ∀ k, k < n -> k ∈ ord := fun k hk => pm.mem_iff.mpr (List.mem_range.mpr hk)
  have hv : v < n := by
    obtain ⟨t, e⟩ := B.head; exact B.lt v (by rw [e]; exact List.mem_cons_self)
  have key : ∀ (k : Nat), k < n -> (k = v /\ pa k = none) \/ ∃ (i j p : Nat), i < j /\ ord[j]? = some k /\ ord[i]? = some p /\ pa k = some p /\ k ∈ near ls p := by
    intro k hk; obtain ⟨j, hj⟩ := List.mem_iff_getElem?.mp (hmem k hk)
    by_cases h0 : 0 < j
    . obtain ⟨i, p, h1, h2, h3, h4⟩ := B.up j k h0 hj
      exact .inr ⟨i, j, p, h1, hj, h2, h3, h4⟩
    . have : j = 0 := by omega
      subst this; obtain ⟨t, e⟩ := B.head; rw [e] at hj; have : v = k := Option.some.inj hj; subst this; exact .inl ⟨rfl, B.pav⟩
  have get : ∀ (k : Nat) (o : Option Nat), (hung n pa)[k]? = some o -> k < n /\ pa k = o := by
    intro k o h; have hk : k < n := by have := (List.getElem?_eq_some_iff.mp h).1; rwa [hung_len] at this
    rw [hung_get hk] at h; exact ⟨hk, Option.some.inj h⟩
  refine ⟨⟨by rw [hung_get hv, B.pav], fun k h => ?_, fun k p h => ?_, fun k h => ?_⟩, fun k p h => ?_⟩
  . obtain ⟨hk, e⟩ := get k _ h
    rcases key k hk with z | ⟨_, _, p, _, _, _, z, _⟩
    . exact z.1
    . rw [e] at z; cases z
  . obtain ⟨hk, e⟩ := get k _ h
    rcases key k hk with z | ⟨i, j, q, h1, h2, h3, z, _⟩
    . rw [e] at z; cases z.2
    . rw [e] at z
      cases z
      rw [hung_len]; refine ⟨B.lt p (List.mem_of_getElem? h3), ?_⟩
      show ord.idxOf p < ord.idxOf k
      rw [idx_of B.nd h2, idx_of B.nd h3]; exact h1
  . rw [hung_len] at h ⊢
    have := List.idxOf_lt_length_of_mem (hmem k h)
    show ord.idxOf k < n
    omega
  . obtain ⟨hk, e⟩ := get k _ h
    rcases key k hk with z | ⟨_, _, q, _, _, _, z, h4⟩
    . rw [e] at z; cases z.2
    . rw [e] at z
      cases z
      exact near_symm h4
theorem GB.free (B : GB ls n v ord pa pl) (hw : ord.length = n) (hn : ls.length + 1 = n) : FreeOf (hung n pa) ls :=
  (B.tree hw).1.freeOf (by rw [hung_len]; exact hn) (B.tree hw).2
theorem GB.whole {ab : Ab} {r : Nat} {rk : Nat -> Nat} (T : Tree ab r rk) (f : FreeOf ab ls) (B : GB ls ab.length v ord pa ord.length) : ord.length = ab.length := by
  have hv : v < ab.length := by
    obtain ⟨t, e⟩ := B.head; exact B.lt v (by rw [e]; exact List.mem_cons_self)
  have all := f.closed T (S := fun k => k ∈ ord) hv (by obtain ⟨t, e⟩ := B.head; rw [e]; exact List.mem_cons_self) fun k c hk hs hc => by
    obtain ⟨i, hi⟩ := List.mem_iff_getElem?.mp hs; exact B.closed i k (List.getElem?_eq_some_iff.mp hi).1 hi c hc
  have h1 := B.len; have h2 := List.nodup_range.length_le_of_subset (l₁ := List.range ab.length) (l₂ := ord) fun j hj => all j (List.mem_range.mp hj); rw [List.length_range] at h2
  omega
end
def IsFree (n : Nat) (ls : Ln) : Prop := ∃ (ab : Ab) (r : Nat) (rk : Nat -> Nat), Tree ab r rk /\ ab.length = n /\ FreeOf ab ls
def RootedAt (n : Nat) (ls : Ln) (v : Nat) (ab : Ab) : Prop := ab.length = n /\ (∃ rk, Tree ab v rk) /\ FreeOf ab ls
theorem RootedAt.uniq {n v : Nat} {ls : Ln} {ab ab' : Ab} (h : RootedAt n ls v ab) (h' : RootedAt n ls v ab') : ab' = ab := by
  obtain ⟨l, ⟨rk, T⟩, f⟩ := h; obtain ⟨l', ⟨rk', T'⟩, f'⟩ := h'; exact tree_uniq T T' f f' (by omega)
theorem GB.rooted {ls : Ln} {n v : Nat} {ord : List Nat} {pa : Nat -> Option Nat} {pl : Nat} (B : GB ls n v ord pa pl) (hw : ord.length = n) (hn : ls.length + 1 = n) : RootedAt n ls v (hung n pa) :=
  ⟨hung_len, ⟨_, (B.tree hw).1⟩, B.free hw hn⟩
theorem near_lt {ls : Ln} {n k c : Nat} (hlt : ∀ p ∈ ls, p.1 < n /\ p.2 < n) (h : c ∈ near ls k) : c < n := by
  rcases mem_near.mp h with z | z
  . exact (hlt _ z).2
  . exact (hlt _ z).1
theorem gb_ex {ls : Ln} {n v : Nat} (hv : v < n) (hlt : ∀ p ∈ ls, p.1 < n /\ p.2 < n) : ∃ ord pa, GB ls n v ord pa ord.length := by
  have inner : ∀ (l : List Nat) (k : Nat) {ord : List Nat} {pa : Nat -> Option Nat} {pl : Nat}, GB ls n v ord pa pl -> ord[pl]? = some k -> (∀ c ∈ l, c ∈ near ls k) ->
      ∃ ord' pa', GB ls n v ord' pa' pl /\ ord'[pl]? = some k /\ (∀ c ∈ ord, c ∈ ord') /\ ∀ c ∈ l, c ∈ ord' := by
    intro l
    induction l with
    | nil => intro k ord pa pl B hk _; exact ⟨ord, pa, B, hk, fun c h => h, fun c h => nomatch h⟩
    | cons c l ih =>
      intro k ord pa pl B hk hl
      by_cases hc : c ∈ ord
      . obtain ⟨o, p, B', hk', h1, h2⟩ := ih k B hk fun d hd => hl d (List.mem_cons_of_mem _ hd)
        refine ⟨o, p, B', hk', h1, fun d hd => ?_⟩
        rcases List.mem_cons.mp hd with rfl | hd
        . exact h1 _ hc
        . exact h2 d hd
      . have B1 := B.meet hk (hl c List.mem_cons_self) hc (near_lt hlt (hl c List.mem_cons_self))
        obtain ⟨o, p, B', hk', h1, h2⟩ := ih k B1 (by rw [List.getElem?_append_left (List.getElem?_eq_some_iff.mp hk).1]; exact hk) fun d hd => hl d (List.mem_cons_of_mem _ hd)
        refine ⟨o, p, B', hk', fun d hd => h1 d (List.mem_append.mpr (.inl hd)), fun d hd => ?_⟩
        rcases List.mem_cons.mp hd with rfl | hd
        . exact h1 _ (List.mem_append.mpr (.inr (List.mem_singleton.mpr rfl)))
        . exact h2 d hd
  have outer : ∀ (d : Nat) {ord : List Nat} {pa : Nat -> Option Nat} {pl : Nat}, GB ls n v ord pa pl -> n - pl <= d -> ∃ ord pa, GB ls n v ord pa ord.length := by
    intro d
    induction d with
    | zero =>
      intro ord pa pl B h; have h1 := B.len; have h2 := B.le; have : pl = ord.length := by omega
      subst this; exact ⟨ord, pa, B⟩
    | succ d ih =>
      intro ord pa pl B h
      by_cases e : pl = ord.length
      . subst e; exact ⟨ord, pa, B⟩
      . have h2 := B.le
        have hl : pl < ord.length := by omega
        obtain ⟨o, p, B', hk', _, h3⟩ := inner (near ls ord[pl]) ord[pl] B (List.getElem?_eq_getElem hl) fun c h => h; exact ih (B'.next hk' h3) (by omega)
  exact outer _ (gb0 hv) (Nat.le_refl _)
theorem rooted_ex {n : Nat} {ls : Ln} (h : IsFree n ls) {v : Nat} (hv : v < n) : ∃ ab, RootedAt n ls v ab := by
  obtain ⟨ab, r, rk, T, rfl, f⟩ := h; obtain ⟨ord, pa, B⟩ := gb_ex hv (fun p hp => f.lt T hp); exact ⟨_, B.rooted (B.whole T f) (f.len T)⟩
theorem isFree_of {n : Nat} {ls : Ln} {v : Nat} {ab : Ab} (h : RootedAt n ls v ab) : IsFree n ls := by
  obtain ⟨l, ⟨rk, T⟩, f⟩ := h; exact ⟨ab, v, rk, T, l, f⟩
inductive Dep (ab : Ab) : Nat -> Nat -> Prop
  | root {k : Nat} : ab[k]? = some none -> Dep ab k 0
  | up {k p d : Nat} : ab[k]? = some (some p) -> Dep ab p d -> Dep ab k (d + 1)
theorem Dep.det {ab : Ab} {k d d' : Nat} (h : Dep ab k d) (h' : Dep ab k d') : d = d' := by
  induction h generalizing d' with
  | root e =>
    cases h' with
    | root => rfl
    | up e' => rw [e] at e'; cases e'
  | up e _ ih =>
    cases h' with
    | root e' => rw [e] at e'; cases e'
    | up e' h' =>
      rw [e] at e'
      cases e'
      rw [ih h']
theorem Tree.dep {ab : Ab} {r : Nat} {rk : Nat -> Nat} (T : Tree ab r rk) : ∀ (b k : Nat), rk k <= b -> k < ab.length -> ∃ d, Dep ab k d /\ d <= rk k
  | b, k, hb, hk => by
    cases q : ab[k] with
    | none => exact ⟨0, .root (by rw [List.getElem?_eq_getElem hk, q]), Nat.zero_le _⟩
    | some p =>
      have hp : ab[k]? = some (some p) := by rw [List.getElem?_eq_getElem hk, q]
      obtain ⟨h1, h2⟩ := T.up k p hp
      match b, hb with
      | 0, hb => omega
      | b + 1, hb =>
        obtain ⟨d, hd, hle⟩ := T.dep b p (by omega) h1
        exact ⟨d + 1, .up hp hd, by omega⟩
end KM
namespace KM
section
variable {A B : Ab} {u v : Nat} {rk rk' : Nat -> Nat} {ls : Ln}
inductive UpN (A : Ab) (x : Nat) : Nat -> Nat -> Prop
  | zero : UpN A x x 0
  | succ {a p i : Nat} : UpN A x a i -> A[a]? = some (some p) -> UpN A x p (i + 1)
theorem UpN.front {x y a i : Nat} (h : UpN A y a i) (e : A[x]? = some (some y)) : UpN A x a (i + 1) := by
  induction h with
  | zero => exact UpN.zero.succ e
  | succ _ e2 ih => exact ih.succ e2
theorem Dep.upN (T : Tree A u rk) {x d : Nat} (h : Dep A x d) : UpN A x u d := by
  induction h with
  | root e =>
    have := T.only _ e; subst this; exact .zero
  | up e _ ih => exact ih.front e
theorem UpN.turn (T : Tree A u rk) (T' : Tree B v rk') (f : FreeOf A ls) (f' : FreeOf B ls) (hl : B.length = A.length) {w d : Nat} (hw : Dep B w d) (h0 : ∀ p, A[w]? = some (some p) -> B[p]? = some (some w)) {a i : Nat} (h : UpN A w a i) :
    Dep B a (d + i) /\ ∀ p, A[a]? = some (some p) -> B[p]? = some (some a) := by
  induction h with
  | zero => exact ⟨hw, h0⟩
  | @succ a p i _ e ih =>
    obtain ⟨h1, h2⟩ := ih; have hp := h2 p e; refine ⟨.up hp h1, fun q hq => ?_⟩; have hpl := (T.up a p e).1; have r1 := (T.up a p e).2; have r2 := (T.up p q hq).2
    rcases (f'.joined (show p < B.length by omega) q).mp ((f.joined hpl q).mpr (.inr hq)) with z | z
    . exact z
    . rw [hp] at z
      have : a = q := Option.some.inj (Option.some.inj z); subst this
      omega
theorem dep_symm (T : Tree A u rk) (T' : Tree B v rk') (f : FreeOf A ls) (f' : FreeOf B ls) (hl : B.length = A.length) {d : Nat} (h : Dep A v d) : Dep B u d := by
  have := (UpN.turn T T' f f' hl (.root T'.root) (fun p hp => ?_) (h.upN T)).1
  . rwa [Nat.zero_add] at this
  . have hv : v < A.length := (List.getElem?_eq_some_iff.mp hp).1
    rcases (f'.joined (show v < B.length by omega) p).mp ((f.joined hv p).mpr (.inr hp)) with z | z
    . exact z
    . rw [T'.root] at z; cases z
end
structure Ecc (n : Nat) (ls : Ln) (v e : Nat) : Prop where
  most : ∀ (ab : Ab) (k d : Nat), RootedAt n ls v ab -> k < n -> Dep ab k d -> d <= e
  there : ∀ (ab : Ab), RootedAt n ls v ab -> ∃ k, k < n /\ Dep ab k e
theorem Ecc.det {n : Nat} {ls : Ln} (F : IsFree n ls) {v e e' : Nat} (hv : v < n) (h : Ecc n ls v e) (h' : Ecc n ls v e') : e = e' := by
  obtain ⟨ab, R⟩ := rooted_ex F hv; obtain ⟨k, hk, hd⟩ := h.there ab R; obtain ⟨k', hk', hd'⟩ := h'.there ab R; have h1 := h'.most ab k e R hk hd; have h2 := h.most ab k' e' R hk' hd'
  omega
theorem middles_joined {n : Nat} {ls : Ln} (F : IsFree n ls) {u v e : Nat} (hu : u < n) (hv : v < n) (hne : u ≠ v) (eu : Ecc n ls u e) (ev : Ecc n ls v e) (hmin : ∀ w e', w < n -> Ecc n ls w e' -> e <= e') : v ∈ near ls u := by
  obtain ⟨A, RA⟩ := rooted_ex F hu; obtain ⟨lA, ⟨rk, T⟩, fA⟩ := id RA; refine Classical.byContradiction fun hn => ?_; have hvA : v < A.length := by omega
  cases q : A[v] with
  | none => exact hne (T.only v (by rw [List.getElem?_eq_getElem hvA, q])).symm
  | some w =>
    have hw : A[v]? = some (some w) := by rw [List.getElem?_eq_getElem hvA, q]
    obtain ⟨hwl, hwr⟩ := T.up v w hw; have hwu : w ≠ u := fun z => hn (by rw [<- z]; exact (fA.joined hwl v).mpr (.inl hw))
    cases q2 : A[w] with
    | none => exact hwu (T.only w (by rw [List.getElem?_eq_getElem hwl, q2]))
    | some q2' =>
      have hq : A[w]? = some (some q2') := by rw [List.getElem?_eq_getElem hwl, q2]
      obtain ⟨hql, hqr⟩ := T.up w q2' hq
      -- the farness of w is less
      obtain ⟨C, RC⟩ := rooted_ex F (show w < n by omega)
      obtain ⟨lC, ⟨rkC, TC⟩, fC⟩ := id RC
      have less : ∀ x d, x < n -> Dep C x d -> d + 1 <= e := by
        intro x d hx hd; obtain ⟨B, RB⟩ := rooted_ex F hx; obtain ⟨lB, ⟨rkB, TB⟩, fB⟩ := id RB; have hdB : Dep B w d := dep_symm TC TB fC fB (by omega) hd
        have toE : ∀ {y dy : Nat}, y < n -> Ecc n ls y e -> Dep B y dy -> dy <= e := by
          intro y dy hy ey hdy; obtain ⟨Y, RY⟩ := rooted_ex F hy; obtain ⟨lY, ⟨rkY, TY⟩, fY⟩ := id RY; exact ey.most Y x dy RY hx (dep_symm TB TY fB fY (by omega) hdy)
        rcases (fB.joined (show v < B.length by omega) w).mp ((fA.joined hvA w).mpr (.inr hw)) with z | z
        . -- B[w] = v: from w upward in A is downward in B
          have h0 : ∀ p, A[w]? = some (some p) -> B[p]? = some (some w) := by
            intro p hp; rw [hq] at hp; have : q2' = p := Option.some.inj (Option.some.inj hp); subst this
            rcases (fB.joined (show w < B.length by omega) q2').mp ((fA.joined hwl q2').mpr (.inr hq)) with y | y
            . exact y
            . rw [z] at y
              have : v = q2' := Option.some.inj (Option.some.inj y); subst this
              omega
          obtain ⟨j, hj, _⟩ := T.dep _ w (Nat.le_refl _) hwl; have hun := hj.upN T
          have hjp : 0 < j := by
            cases hun with
            | zero => exact absurd rfl hwu
            | succ => omega
          have := (UpN.turn T TB fA fB (by omega) hdB h0 hun).1
          have := toE hu eu this
          omega
        . -- B[v] = w
          have := toE hv ev (.up z hdB); exact this
      -- then w would be nearer
      obtain ⟨x0, hx0, hmx⟩ : ∃ x d, x < n /\ Dep C x d /\ ∀ x' d', x' < n -> Dep C x' d' -> d' <= d := by
        have aux : ∀ (m : Nat), m <= n -> 0 < m -> ∃ x d, x < n /\ Dep C x d /\ ∀ x' d', x' < m -> Dep C x' d' -> d' <= d := by
          intro m
          induction m with
          | zero => intro _ h; omega
          | succ m ih =>
            intro hm _; obtain ⟨dm, hdm, _⟩ := TC.dep _ m (Nat.le_refl _) (by omega)
            by_cases h0 : 0 < m
            . obtain ⟨x, d, hx, hd, hall⟩ := ih (by omega) h0
              by_cases hle : dm <= d
              . refine ⟨x, d, hx, hd, fun x' d' hx' hd' => ?_⟩
                by_cases e' : x' = m
                . subst e'
                  rw [hd'.det hdm]; exact hle
                . exact hall x' d' (by omega) hd'
              . refine ⟨m, dm, by omega, hdm, fun x' d' hx' hd' => ?_⟩
                by_cases e' : x' = m
                . subst e'
                  rw [hd'.det hdm]; exact Nat.le_refl _
                . have := hall x' d' (by omega) hd'; omega
            . have : m = 0 := by omega
              subst this
              exact ⟨0, dm, by omega, hdm, fun x' d' hx' hd' => by
                have : x' = 0 := by omega
                subst this; rw [hd'.det hdm]; exact Nat.le_refl _⟩
        exact aux n (Nat.le_refl _) (by omega)
      obtain ⟨hx, hd, hall⟩ := hmx
      have ew : Ecc n ls w hx0 := by
        refine ⟨fun ab k d R hk h => ?_, fun ab R => ?_⟩
        . rw [RC.uniq R] at h
          exact hall k d hk h
        . rw [RC.uniq R]
          exact ⟨x0, hx, hd⟩
      have := hmin w hx0 (by omega) ew
      have := less x0 hx0 hx hd
      omega
end KM
namespace KM
section
variable {A B : Ab} {u v : Nat} {rk rk' : Nat -> Nat} {ls : Ln}
theorem form_same (T : Tree A u rk) (T' : Tree B v rk') (f : FreeOf A ls) (f' : FreeOf B ls) (hl : B.length = A.length) {k p : Nat} (h : A[k]? = some (some p)) (h' : B[k]? = some (some p)) : fm A k = fm B k := by
  have hk := (List.getElem?_eq_some_iff.mp h).1
  have key : ∀ p, A[k]? = some (some p) -> B[k]? = some (some p) -> fm A k = fm B k := by
    refine T.down (P := fun k => ∀ p, A[k]? = some (some p) -> B[k]? = some (some p) -> fm A k = fm B k) (fun k hk ih p h h' => ?_) _ k (Nat.le_refl _) hk; have hk' : k < B.length := by omega
    have pp : (kids A k).Perm (kids B k) := by
      have h1 := (f.near hk).symm.trans (f'.near hk'); have e1 : par A k = [p] := by unfold par; rw [h]
      have e2 : par B k = [p] := by unfold par; rw [h']
      rw [e1, e2] at h1; exact (List.perm_append_right_iff _).mp h1
    rw [T.fm_eq hk, T'.fm_eq hk']
    congr 2
    refine srt_congr ?_; have e : (kids A k).map (fm A) = (kids A k).map (fm B) := List.map_congr_left fun c hc => ih c hc k (mem_kids.mp hc) (mem_kids.mp (pp.mem_iff.mp hc)); rw [e]; exact pp.map _
  exact key p h h'
end
noncomputable def At (n : Nat) (ls : Ln) (v : Nat) : Ab := Classical.epsilon fun ab => RootedAt n ls v ab
theorem at_spec {n : Nat} {ls : Ln} (F : IsFree n ls) {v : Nat} (hv : v < n) : RootedAt n ls v (At n ls v) := Classical.epsilon_spec (rooted_ex F hv)
theorem at_eq {n : Nat} {ls : Ln} {v : Nat} {ab : Ab} (F : IsFree n ls) (hv : v < n) (h : RootedAt n ls v ab) : At n ls v = ab := h.uniq (at_spec F hv)
noncomputable def br (n : Nat) (ls : Ln) (b k : Nat) : Tx := fm (At n ls b) k
noncomputable def rf (n : Nat) (ls : Ln) (v : Nat) : Tx := fm (At n ls v) v
section
variable {n : Nat} {ls : Ln}
theorem IsFree.lt (F : IsFree n ls) {p : Nat × Nat} (h : p ∈ ls) : p.1 < n /\ p.2 < n := by
  obtain ⟨ab, r, rk, T, rfl, f⟩ := F; exact f.lt T h
theorem IsFree.near_lt (F : IsFree n ls) {k c : Nat} (h : c ∈ near ls k) : c < n /\ k < n := ⟨KM.near_lt (fun p hp => F.lt hp) h, KM.near_lt (fun p hp => F.lt hp) (near_symm h)⟩
theorem RootedAt.kid {v : Nat} {ab : Ab} (R : RootedAt n ls v ab) {c : Nat} (h : c ∈ near ls v) (hv : v < n) : ab[c]? = some (some v) := by
  obtain ⟨l, ⟨rk, T⟩, f⟩ := R
  rcases (f.joined (by omega) c).mp h with z | z
  . exact z
  . rw [T.root] at z; cases z
theorem RootedAt.fm_br (F : IsFree n ls) {v k p : Nat} {ab : Ab} (R : RootedAt n ls v ab) (h : ab[k]? = some (some p)) : fm ab k = br n ls p k := by
  obtain ⟨l, ⟨rk, T⟩, f⟩ := id R; have hpl := (T.up k p h).1; have hp : p < n := by omega
  obtain ⟨l', ⟨rk', T'⟩, f'⟩ := id (at_spec F hp); exact form_same T T' f f' (by omega) h ((at_spec F hp).kid ((f.joined hpl k).mpr (.inl h)) hp)
theorem near_root {v : Nat} {ab : Ab} (R : RootedAt n ls v ab) (hv : v < n) : (near ls v).Perm (kids ab v) := by
  obtain ⟨l, ⟨rk, T⟩, f⟩ := R; have := f.near (show v < ab.length by omega)
  have e : par ab v = [] := by unfold par; rw [T.root]
  rwa [e, List.append_nil] at this
theorem rf_eq (F : IsFree n ls) {v : Nat} (hv : v < n) : rf n ls v = brk (srt ((near ls v).map (br n ls v))).flatten := by
  have R := at_spec F hv; obtain ⟨l, ⟨rk, T⟩, f⟩ := id R
  unfold rf
  rw [T.fm_eq (by omega)]
  congr 2
  refine srt_congr ?_; have e : (kids (At n ls v) v).map (fm (At n ls v)) = (kids (At n ls v) v).map (br n ls v) := List.map_congr_left fun c hc => R.fm_br F (mem_kids.mp hc); rw [e]; exact ((near_root R hv).map _).symm
theorem near_part {v k p : Nat} {ab : Ab} (R : RootedAt n ls v ab) (h : ab[k]? = some (some p)) : (near ls k).Perm (p :: kids ab k) := by
  obtain ⟨l, ⟨rk, T⟩, f⟩ := R; have hk := (List.getElem?_eq_some_iff.mp h).1; have := f.near hk; have e : par ab k = [p] := by unfold par; rw [h]
  rw [e] at this; exact this.trans (List.perm_append_singleton p _)
theorem br_eq (F : IsFree n ls) {b k : Nat} (h : k ∈ near ls b) {rest : List Nat} (hp : (near ls k).Perm (b :: rest)) : br n ls b k = brk (srt (rest.map (br n ls k))).flatten := by
  obtain ⟨hk, hb⟩ := F.near_lt h; have R := at_spec F hb; obtain ⟨l, ⟨rk, T⟩, f⟩ := id R; have hpar := R.kid h hb
  unfold br
  rw [T.fm_eq (by omega)]
  congr 2
  refine srt_congr ?_; have e : (kids (At n ls b) k).map (fm (At n ls b)) = (kids (At n ls b) k).map (br n ls k) := List.map_congr_left fun c hc => R.fm_br F (mem_kids.mp hc); rw [e]; exact (((List.perm_cons b).mp ((near_part R hpar).symm.trans hp)).map _)
theorem br_whole (F : IsFree n ls) {b k : Nat} (h : k ∈ near ls b) : Whole (br n ls b k) := by
  obtain ⟨hk, hb⟩ := F.near_lt h; obtain ⟨l, ⟨rk, T⟩, f⟩ := at_spec F hb; have := (T.whole none (k := k) (by omega)).1
  rwa [fmM_none] at this
theorem parts_same {ps qs : List Tx} (h1 : ∀ p ∈ ps, Whole p) (h2 : ∀ p ∈ qs, Whole p) (e : brk (srt ps).flatten = brk (srt qs).flatten) : ps.Perm qs := by
  have := flat_inj (fun p hp => h1 p ((srt_perm ps).mem_iff.mp hp)) (fun p hp => h2 p ((srt_perm qs).mem_iff.mp hp)) (brk_inj e); exact ((srt_perm ps).symm.trans (this ▸ List.Perm.refl _)).trans (srt_perm qs)
noncomputable def cnt (n : Nat) (ls : Ln) (k : Nat) : Nat := (List.range n).countP fun j => rf n ls j == rf n ls k
end
end KM
namespace KM
def fsE (E : Nat -> Nat -> Bool) : Nat -> List Nat
  | 0 => []
  | i + 1 => if (List.range i).any (fun j => E j i) = true then fsE E i else fsE E i ++ [i]
def clsE (E : Nat -> Nat -> Bool) (n k : Nat) : List Nat := (List.range n).filter fun j => E j k
def grpE (n : Nat) (E : Nat -> Nat -> Bool) : List (List Nat) := (fsE E n).map (clsE E n)
structure EqvE (n : Nat) (E : Nat -> Nat -> Bool) : Prop where
  refl : ∀ i, i < n -> E i i = true
  symm : ∀ i j, i < n -> j < n -> E i j = true -> E j i = true
  trans : ∀ i j k, i < n -> j < n -> k < n -> E i j = true -> E j k = true -> E i k = true
theorem fsE_lt {E : Nat -> Nat -> Bool} : ∀ {i k : Nat}, k ∈ fsE E i -> k < i
  | 0, k, h => nomatch h
  | i + 1, k, h => by
    unfold fsE at h
    split at h
    . have := fsE_lt h; omega
    . rcases List.mem_append.mp h with h | h
      . have := fsE_lt h; omega
      . rw [List.mem_singleton] at h; omega
theorem fsE_len (E : Nat -> Nat -> Bool) : ∀ i, (fsE E i).length <= i
  | 0 => Nat.le_refl _
  | i + 1 => by
    unfold fsE
    split
    . have := fsE_len E i; omega
    . rw [List.length_append, List.length_singleton]; have := fsE_len E i; omega
theorem fsE_rep {E : Nat -> Nat -> Bool} {n : Nat} (Q : EqvE n E) : ∀ {i : Nat}, i <= n -> ∀ j, j < i -> ∃ k ∈ fsE E i, E k j = true
  | 0, _, j, h => by omega
  | i + 1, hi, j, h => by
    have step : ∀ k, k ∈ fsE E i -> k ∈ fsE E (i + 1) := fun k hk => by
      show k ∈ (if (List.range i).any (fun j => E j i) = true then fsE E i else fsE E i ++ [i])
      split
      . exact hk
      . exact List.mem_append.mpr (.inl hk)
    by_cases e : j < i
    . obtain ⟨k, hk, hkj⟩ := fsE_rep Q (by omega) j e
      exact ⟨k, step k hk, hkj⟩
    . have : j = i := by omega
      subst this
      by_cases ha : (List.range j).any (fun l => E l j) = true
      . obtain ⟨l, hl, z⟩ := List.any_eq_true.mp ha
        have hl := List.mem_range.mp hl; obtain ⟨k, hk, hkl⟩ := fsE_rep Q (by omega) l hl
        have := fsE_lt hk; exact ⟨k, step k hk, Q.trans k l j (by omega) (by omega) (by omega) hkl z⟩
      . refine ⟨j, ?_, Q.refl j (by omega)⟩
        show j ∈ (if (List.range j).any (fun l => E l j) = true then fsE E j else fsE E j ++ [j])
        rw [if_neg ha]; exact List.mem_append.mpr (.inr (List.mem_singleton.mpr rfl))
theorem fsE_apart {E : Nat -> Nat -> Bool} {n : Nat} (Q : EqvE n E) : ∀ {i : Nat}, i <= n -> (fsE E i).Pairwise fun a b => E a b = false
  | 0, _ => .nil
  | i + 1, hi => by
    unfold fsE
    split
    . exact fsE_apart Q (by omega)
    . rename_i h
      rw [List.pairwise_append]; refine ⟨fsE_apart Q (by omega), List.pairwise_singleton _ _, fun a ha b hb => ?_⟩
      rw [List.mem_singleton] at hb; subst hb; rw [Bool.eq_false_iff]; intro z; exact h (List.any_eq_true.mpr ⟨a, List.mem_range.mpr (fsE_lt ha), z⟩)
theorem clsE_hit {E : Nat -> Nat -> Bool} {i k : Nat} (h : E i k = true) : clsE E (i + 1) k = clsE E i k ++ [i] := by
  unfold clsE
  rw [List.range_succ, List.filter_append]
  congr 1
  rw [List.filter_cons_of_pos (p := fun j => E j k) h]
  rfl
theorem clsE_miss {E : Nat -> Nat -> Bool} {i k : Nat} (h : E i k = false) : clsE E (i + 1) k = clsE E i k := by
  unfold clsE
  rw [List.range_succ, List.filter_append, List.filter_cons_of_neg (by rw [h]; simp)]
  simp
theorem clsE_len (E : Nat -> Nat -> Bool) (i k : Nat) : (clsE E i k).length <= i := by
  have h := List.length_filter_le (fun j => E j k) (List.range i); rw [List.length_range] at h; exact h
def eqAt {κ : Type} [DecidableEq κ] (ts : List κ) (i j : Nat) : Bool := decide (ts[i]? = ts[j]?)
theorem eqvAt {κ : Type} [DecidableEq κ] (ts : List κ) (n : Nat) : EqvE n (eqAt ts) where
  refl := fun i _ => decide_eq_true rfl
  symm := fun i j _ _ h => decide_eq_true (of_decide_eq_true h).symm
  trans := fun i j k _ _ _ h1 h2 => decide_eq_true ((of_decide_eq_true h1).trans (of_decide_eq_true h2))
def grp {κ : Type} [DecidableEq κ] (ts : List κ) : List (List Nat) := grpE ts.length (eqAt ts)
end KM
namespace KD
open PySem L2 KM PyProof.Rows
theorem rtd_of {A : AI} {ab : Ab} {r : Nat} {rk : Nat -> Nat} (e : A = ab.map toI) (T : Tree ab r rk) : Rtd A := ⟨ab, r, rk, e, T⟩
theorem root_quiet {C : Addr} : ∀ (vs : List V) (H : Hp) (Q : VK) (E : XK), spRoot vs H Q E -> spRootX C vs H Q E0 := by
  rintro vs H Q E p_
  refine hld fun g_ k_ => ?_; obtain ⟨a, ab, r, rk, rfl, ha, T, hn, q⟩ := p_; refine k_ ?_; refine ⟨a, ab.map toI, rfl, by rw [map_vI]; exact ha, by rw [List.length_map]; exact hn, fun r' H' hr s => ?_, fun h => absurd (rtd_of rfl T).root h⟩
  have := Root1.of.mp hr; rw [map_back] at this; rw [T.only r' this.1]; exact q H' s
theorem under_quiet {C : Addr} : ∀ (vs : List V) (H : Hp) (Q : VK) (E : XK), spUnder vs H Q E -> spUnderX C vs H Q E0 := by
  rintro vs H Q E p_
  refine hld fun g_ k_ => ?_; obtain ⟨a, ab, rfl, ha, hp, hn, q⟩ := p_; refine k_ ?_; refine ⟨a, ab.map toI, rfl, by rw [map_vI]; exact ha, by rw [List.length_map]; exact hn, fun _ u as H' s U => ?_, fun h => absurd (fun j i hj => ?_) h⟩
  . rw [map_back] at U
    exact q u as H' s U
  . rw [List.getElem?_map] at hj
    cases z : ab[j]? with
    | none => rw [z] at hj; cases hj
    | some o =>
      rw [z] at hj
      cases o with
      | none => cases Option.some.inj hj
      | some p =>
        have e : (p : Int) = i := Option.some.inj (Option.some.inj hj); have := hp j p z; rw [List.length_map]
        omega
inductive spByForms (P : Addr) (lp : Pos) (lq : Str) (vs : (List V)) (H : Hp) (Q : VK) (e_ : XK) : Prop
  | mk (a b : Addr) (ab : Ab) (r : Nat) (rk : Nat -> Nat) (m : Option Nat) (z1_ : vs = [.ref a, .ref b]) (z2_ : H a = some (.lst (ab.map vO))) (z3_ : H b = some (.lst ((fms ab m).map vT))) (z4_ : Tree ab r rk) (z5_ : ab.length < 64) (z6_ : Tab P lp lq H) (z7_ : ∀ (o : Addr) (ord : List Nat) (kd : Nat -> List Nat) (H' : Hp), SameT P H H' -> Tab P lp lq H' -> H' o = some (.lst (ord.map vN)) -> Sorted ab (fmM ab m) kd -> BfsK ab kd r ord ord.length -> Q (.ref o) H') : spByForms P lp lq vs H Q e_
inductive spMates (vs : (List V)) (H : Hp) (Q : VK) (e_ : XK) : Prop
  | mk (a b : Addr) (ord ord' : List Nat) (z1_ : vs = [.ref a, .ref b]) (z2_ : H a = some (.lst (ord.map vN))) (z3_ : H b = some (.lst (ord'.map vN))) (z4_ : ord.length = ord'.length) (z5_ : ord.Nodup) (z6_ : (∀ k ∈ ord, k < ord.length)) (z7_ : ord.length <= 1000) (z8_ : ∀ (p : Addr) (mt : List Nat) (H' : Hp), Same H H' -> H p = none -> H' p = some (.lst (mt.map vN)) -> MatesTo ord ord' mt ord.length -> Q (.ref p) H') : spMates vs H Q e_
inductive spMatched (C P : Addr) (lp : Pos) (lq : Str) (vs : (List V)) (H : Hp) (Q : VK) (E : XK) : Prop
  | mk (a b : Addr) (A B : AI) (z1_ : vs = [.ref a, .ref b]) (z2_ : H a = some (.lst (A.map vI))) (z3_ : H b = some (.lst (B.map vI))) (z4_ : A.length < 64) (z5_ : B.length < 64) (z6_ : Tab P lp lq H) (z7_ : (∀ (ab ab' : Ab) (r r' : Nat) (rk rk' : Nat -> Nat), A = ab.map toI -> B = ab'.map toI -> Tree ab r rk -> Tree ab' r' rk' -> (fm ab r ≠ fm ab' r' -> ∀ (p : Addr) (H' : Hp), SameT P H H' -> Tab P lp lq H' -> H p = none -> H' p = some (.tup [.str (Str.ofString "unlike"), vT (fm ab r), vT (fm ab' r')]) -> Q (.ref p) H') /\ (fm ab r = fm ab' r' -> ∀ (p l : Addr) (mt : List Nat) (H' : Hp), SameT P H H' -> Tab P lp lq H' -> H p = none -> H' p = some (.tup [.str (Str.ofString "alike"), .ref l]) -> H' l = some (.lst (mt.map vN)) -> Renum ab ab' mt -> Q (.ref p) H'))) (z8_ : (¬ (Rtd A /\ Rtd B) -> ∀ H', Same H H' -> E (.ref C) none H')) : spMatched C P lp lq vs H Q E
inductive spSwaps (vs : (List V)) (H : Hp) (Q : VK) (e_ : XK) : Prop
  | mk (a : Addr) (ts : List Tx) (z1_ : vs = [.ref a]) (z2_ : H a = some (.lst (ts.map vT))) (z3_ : ts.length <= 20) (z4_ : ∀ H', Same H H' -> Q (.int ((swp ts : Nat) : Int)) H') : spSwaps vs H Q e_
inductive spHowMany (C : Addr) (vs : (List V)) (H : Hp) (Q : VK) (E : XK) : Prop
  | mk (a : Addr) (A : AI) (z1_ : vs = [.ref a]) (z2_ : H a = some (.lst (A.map vI))) (z3_ : A.length <= 20) (z4_ : (∀ (ab : Ab) (r : Nat) (rk : Nat -> Nat) (H' : Hp), A = ab.map toI -> Tree ab r rk -> Same H H' -> Q (.int ((ways ab : Nat) : Int)) H')) (z5_ : (¬ Rtd A -> ∀ H', Same H H' -> E (.ref C) none H')) : spHowMany C vs H Q E
structure GroupsAt (H : Hp) (l : Addr) (as : List Addr) (gs : List (List Nat)) : Prop where
  top : H l = some (.lst (as.map V.ref))
  len : as.length = gs.length
  each : ∀ (i : Nat) (c : Addr) (g : List Nat), as[i]? = some c -> gs[i]? = some g -> H c = some (.lst (g.map vN))
inductive spGrouped (vs : (List V)) (H : Hp) (Q : VK) (e_ : XK) : Prop
  | mk (a : Addr) (ts : List Tx) (z1_ : vs = [.ref a]) (z2_ : H a = some (.lst (ts.map vT))) (z3_ : ts.length <= 1000) (z4_ : ∀ (l : Addr) (as : List Addr) (H' : Hp), Same H H' -> GroupsAt H' l as (grp ts) -> Q (.ref l) H') : spGrouped vs H Q e_
theorem mkS_inj {s t : Tx} (h : mkS s = mkS t) : s = t := by
  have := congrArg (fun z => z.cps.toList) h
  rwa [mkS_list, mkS_list] at this
theorem vT_inj {s t : Tx} : vT s = vT t ↔ s = t := ⟨fun h => mkS_inj (V.str.inj h), fun h => by rw [h]⟩
end KD
namespace KD
open PySem L2 KM PyProof.Rows
def lamOf (st : Stmt) : Arguments × Expr × Scope × Pos := match defBody st with
  | .Assign _ (.ListComp (.Call _ _ [⟨_, .Lambda a b s p, _⟩] _) _ _ _) _ :: _ => (a, b, s, p)
  | _ => ({ posonlyargs := [], args := [], vararg := none, kwonlyargs := [], kw_defaults := [], kwarg := none, defaults := [] }, .Constant .none 0 ⟨0, 0, 0, 0⟩, { kind := .function, names := [], isGenerator := false, isCoroutine := false }, ⟨0, 0, 0, 0⟩)
def lqF : Str := ("by_forms" ++ ".<locals>.") ++ "<lambda>"
theorem sortK_mono {K : PySem.W.Frag} {P : Addr} {lp : Pos} {lq : Str} {j : Nat} : ∀ (τ : L2.St) (H : Hp) (Q Q' : VK), (∀ v H, Q v H -> Q' v H) -> tSortK K P lp lq j (tVar 0) τ H Q -> tSortK K P lp lq j (tVar 0) τ H Q' := by
  rintro τ H Q Q' h p_
  refine hld fun g_ k_ => ?_; obtain ⟨v0, e0, v, e1, a, F, ks, ts, r1, r2, r3, r4, r5, r6, r7, q⟩ := p_; refine k_ ?_; exact ⟨v0, e0, v, e1, a, F, ks, ts, r1, r2, r3, r4, r5, r6, r7, fun L out H2 a1 a2 a3 a4 a5 a6 => h _ _ (q L out H2 a1 a2 a3 a4 a5 a6)⟩
end KD
namespace KD
open PySem L2 KM PyProof.Rows
theorem kitList (K : PySem.W.Frag) : PySem.W.kitOne K (.type "list") (.type "list") = some true := rfl
theorem kitTup (K : PySem.W.Frag) : PySem.W.kitOne K (.type "tuple") (.type "tuple") = some true := rfl
end KD
namespace KD
open PySem L2 KM PyProof.Rows
inductive spLawT (K : PySem.W.Frag) (T : Addr) (lp : Pos) (lq : Str) (vs : (List V)) (H : Hp) (Q : VK) (e_ : XK) : Prop
  | mk (a : Addr) (ns : List Int) (z1_ : vs = [.ref a]) (z2_ : SqL K H a (ns.map V.int)) (z3_ : ns.length <= 63) (z4_ : Tab T lp lq H) (z5_ : ∀ H', Tab T lp lq H' -> Q (.bl true) H') : spLawT K T lp lq vs H Q e_
inductive spMatchedQ (T : Addr) (lp : Pos) (lq : Str) (vs : (List V)) (H : Hp) (Q : VK) (e_ : XK) : Prop
  | mk (a b : Addr) (ab ab' : Ab) (r r' : Nat) (rk rk' : Nat -> Nat) (z1_ : vs = [.ref a, .ref b]) (z2_ : H a = some (.lst (ab.map vO))) (z3_ : H b = some (.lst (ab'.map vO))) (z4_ : ab.length < 64) (z5_ : ab'.length < 64) (z6_ : Tab T lp lq H) (z7_ : Tree ab r rk) (z8_ : Tree ab' r' rk') (z9_ : (fm ab r ≠ fm ab' r' -> ∀ (p : Addr) (H' : Hp), SameT T H H' -> Tab T lp lq H' -> H p = none -> H' p = some (.tup [.str (Str.ofString "unlike"), vT (fm ab r), vT (fm ab' r')]) -> Q (.ref p) H')) (z10_ : (fm ab r = fm ab' r' -> ∀ (p l : Addr) (mt : List Nat) (H' : Hp), SameT T H H' -> Tab T lp lq H' -> H p = none -> H' p = some (.tup [.str (Str.ofString "alike"), .ref l]) -> H' l = some (.lst (mt.map vN)) -> Renum ab ab' mt -> Q (.ref p) H')) : spMatchedQ T lp lq vs H Q e_
theorem matched_quiet {C T : Addr} {lp : Pos} {lq : Str} : ∀ (vs : List V) (H : Hp) (Q : VK) (E : XK), spMatchedQ T lp lq vs H Q E -> spMatched C T lp lq vs H Q E0 := by
  rintro vs H Q E p_
  refine hld fun g_ k_ => ?_; obtain ⟨a, b, ab, ab', r, r', rk, rk', rfl, ha, hb, h1, h2, ht, T1, T2, q1, q2⟩ := p_; refine k_ ?_; refine ⟨a, b, ab.map toI, ab'.map toI, rfl, by rw [map_vI]; exact ha, by rw [map_vI]; exact hb, by rw [List.length_map]; exact h1, by rw [List.length_map]; exact h2, ht, fun ab2 ab2' s s' sk sk' e e' S1 S2 => ?_, fun h => absurd ⟨rtd_of rfl T1, rtd_of rfl T2⟩ h⟩
  have e1 := toI_inj e; have e2 := toI_inj e'; subst e1 e2; rw [T1.only s S1.root, T2.only s' S2.root]; exact ⟨q1, q2⟩
theorem min_sub (i j n : Nat) : min j n - min i n <= j - i := by
  rcases Nat.le_total j n with h | h
  . rw [Nat.min_eq_left h]
    rcases Nat.le_total i n with h2 | h2
    . rw [Nat.min_eq_left h2]; exact Nat.le_refl _
    . rw [Nat.min_eq_right h2, Nat.sub_eq_zero_of_le h]; exact Nat.zero_le _
  . rw [Nat.min_eq_right h]
    rcases Nat.le_total i n with h2 | h2
    . rw [Nat.min_eq_left h2]; exact Nat.sub_le_sub_right h _
    . rw [Nat.min_eq_right h2, Nat.sub_self]; exact Nat.zero_le _
theorem cutMid2 (l : List Int) (i j : Nat) : ∃ cs : List Int, cutV (l.map V.int) (some (i : Int)) (some (j : Int)) = cs.map V.int /\ cs.length <= j - i := by
  refine ⟨(l.drop (HT.sIx l.length 0 (some (i : Int)))).take (HT.sIx l.length l.length (some (j : Int)) - HT.sIx l.length 0 (some (i : Int))), ?_, ?_⟩
  . unfold cutV
    rw [List.length_map, List.map_take, List.map_drop]
  . rw [HT.sIx_nat, HT.sIx_nat, List.length_take, List.length_drop]
    exact Nat.le_trans (Nat.min_le_left _ _) (min_sub i j l.length)
end KD
namespace L2
open PySem PySem.Spec PyProof.Rows
theorem Room.units1 {k : Nat} {A : Around} (r : Room k A) : A.units + 1 < cLine := by have := r.un; omega
end L2
namespace KD
open PySem L2 KM PyProof.Rows
theorem pair_at {α : Type} {R : α -> α -> Prop} : ∀ {l : List α} {i j : Nat} {a b : α}, l.Pairwise R -> l[i]? = some a -> l[j]? = some b -> i < j -> R a b
  | [], i, j, a, b, _, h, _, _ => by cases h
  | x :: l, 0, j + 1, a, b, h, ha, hb, _ => by
    cases ha
    exact (List.pairwise_cons.mp h).1 b (List.mem_of_getElem? hb)
  | x :: l, i + 1, j + 1, a, b, h, ha, hb, hl => pair_at (List.pairwise_cons.mp h).2 ha hb (by omega)
theorem _root_.List.Nodup.idx {α : Type} {l : List α} (h : l.Nodup) {i j : Nat} {a : α} (hi : l[i]? = some a) (hj : l[j]? = some a) : i = j := by
  rcases Nat.lt_trichotomy i j with q | q | q
  . exact absurd rfl (pair_at h hi hj q)
  . exact q
  . exact absurd rfl (pair_at h hj hi q)
def kvOf (ts : List Tx) (ks : List Nat) (as : List Addr) : List (Key × V) := (ks.zip as).map fun p => (.inr (mkS (ts.getD p.1 [])), V.ref p.2)
theorem kvOf_len (ts : List Tx) (ks : List Nat) (as : List Addr) : (kvOf ts ks as).length <= ks.length := by
  unfold kvOf
  rw [List.length_map, List.length_zip]
  omega
theorem kvOf_snoc (ts : List Tx) (ks : List Nat) (as : List Addr) (k : Nat) (c : Addr) (h : ks.length = as.length) : kvOf ts (ks ++ [k]) (as ++ [c]) = kvOf ts ks as ++ [(.inr (mkS (ts.getD k [])), V.ref c)] := by
  unfold kvOf
  rw [List.zip_append h, List.map_append]
  rfl
theorem kvOf_some (ts : List Tx) (t : Tx) {v : V} : ∀ (ks : List Nat) (as : List Addr), valV (kvOf ts ks as) (.inr (mkS t)) = some v -> ∃ (j k : Nat) (c : Addr), ks[j]? = some k /\ as[j]? = some c /\ ts.getD k [] = t /\ v = .ref c
  | [], _, h => by cases h
  | _ :: _, [], h => by cases h
  | k :: ks, c :: as, h => by
    have e : kvOf ts (k :: ks) (c :: as) = (.inr (mkS (ts.getD k [])), V.ref c) :: kvOf ts ks as := rfl; rw [e] at h
    by_cases z : ts.getD k [] = t
    . rw [valV_pos (by rw [z])] at h
      exact ⟨0, k, c, rfl, rfl, z, (Option.some.inj h).symm⟩
    . rw [valV_neg (fun y => z (KM.mkS_inj (Sum.inr.inj y)))] at h
      refine hld fun g_ k_ => ?_; obtain ⟨j, k', c', h1, h2, h3, h4⟩ := kvOf_some ts t ks as h; refine k_ ?_; exact ⟨j + 1, k', c', h1, h2, h3, h4⟩
theorem kvOf_none (ts : List Tx) (t : Tx) : ∀ (ks : List Nat) (as : List Addr), ks.length = as.length -> valV (kvOf ts ks as) (.inr (mkS t)) = none -> ∀ k ∈ ks, ts.getD k [] ≠ t
  | [], _, _, _, k, hk => nomatch hk
  | _ :: _, [], hl, _, _, _ => nomatch hl
  | k0 :: ks, c :: as, hl, h, k, hk => by
    have e : kvOf ts (k0 :: ks) (c :: as) = (.inr (mkS (ts.getD k0 [])), V.ref c) :: kvOf ts ks as := rfl; rw [e] at h
    by_cases z : ts.getD k0 [] = t
    . rw [valV_pos (by rw [z])] at h
      cases h
    . rw [valV_neg (fun y => z (KM.mkS_inj (Sum.inr.inj y)))] at h
      rcases List.mem_cons.mp hk with rfl | hk
      . exact z
      . exact kvOf_none ts t ks as (Nat.succ.inj hl) h k hk
structure GrpIn (ts : List Tx) (i : Nat) (H0 H : Hp) (d : Addr) (as : List Addr) : Prop where
  same : Same H0 H
  dn : H0 d = none
  top : H d = some (.dK (kvOf ts (fsE (eqAt ts) i) as))
  len : (fsE (eqAt ts) i).length = as.length
  nd : as.Nodup
  new : ∀ c ∈ as, H0 c = none
  each : ∀ (j : Nat) (c : Addr) (k : Nat), as[j]? = some c -> (fsE (eqAt ts) i)[j]? = some k -> H c = some (.lst ((clsE (eqAt ts) i k).map vN))
theorem eqAt_iff {ts : List Tx} {i k : Nat} {t : Tx} (hi : ts[i]? = some t) (hk : k < ts.length) : eqAt ts i k = decide (ts.getD k [] = t) := by
  unfold eqAt
  rw [hi, List.getElem?_eq_getElem hk, List.getD_eq_getElem?_getD, List.getElem?_eq_getElem hk]
  show decide (some t = some ts[k]) = decide (ts[k] = t)
  by_cases h : ts[k] = t
  . rw [h, decide_eq_true rfl, decide_eq_true rfl]
  . rw [decide_eq_false h, decide_eq_false fun z => h (Option.some.inj z).symm]
theorem eqAt_symm {ts : List Tx} (i k : Nat) : eqAt ts i k = eqAt ts k i := by
  unfold eqAt
  by_cases h : ts[i]? = ts[k]?
  . rw [h]
  . rw [decide_eq_false h, decide_eq_false fun z => h z.symm]
theorem GrpIn.hit {ts : List Tx} {i : Nat} {H0 H : Hp} {d : Addr} {as : List Addr} (G : GrpIn ts i H0 H d as) {t : Tx} (hi : ts[i]? = some t) {v : V} (h : valV (kvOf ts (fsE (eqAt ts) i) as) (.inr (mkS t)) = some v) :
    ∃ (c : Addr) (g : List Nat), v = .ref c /\ H c = some (.lst (g.map vN)) /\ g.length <= i /\ GrpIn ts (i + 1) H0 (upd H c (.lst (g.map vN ++ [vN i]))) d as := by
  have hil : i < ts.length := (List.getElem?_eq_some_iff.mp hi).1; refine hld fun g_ k_ => ?_; obtain ⟨j, k, c, hj, hc, hk, rfl⟩ := kvOf_some ts t _ _ h; refine k_ ?_; have hkl : k < i := fsE_lt (List.mem_of_getElem? hj); have hEik : eqAt ts i k = true := by rw [eqAt_iff hi (by omega)]; exact decide_eq_true hk
  have hf : fsE (eqAt ts) (i + 1) = fsE (eqAt ts) i := by
    show (if (List.range i).any (fun j => eqAt ts j i) = true then fsE (eqAt ts) i else fsE (eqAt ts) i ++ [i]) = _
    rw [if_pos (List.any_eq_true.mpr ⟨k, List.mem_range.mpr hkl, by rw [eqAt_symm]; exact hEik⟩)]
  have ec := G.each j c k hc hj; have hcn : H0 c = none := G.new c (List.mem_of_getElem? hc)
  have hdc : d ≠ c := fun z => by
    have := G.top; rw [z, ec] at this
    cases this
  refine ⟨c, clsE (eqAt ts) i k, rfl, ec, clsE_len _ _ _, same_upd G.same hcn _, G.dn, by rw [hf, upd_ne hdc]; exact G.top, by rw [hf]; exact G.len, G.nd, G.new, fun j' c' k' hc' hk' => ?_⟩
  rw [hf] at hk'
  by_cases hjj : j' = j
  . subst hjj
    rw [hc] at hc'; rw [hj] at hk'
    cases hc'
    cases hk'
    rw [upd_same, clsE_hit hEik, List.map_append]
    rfl
  . have hcc : c' ≠ c := fun z => hjj (G.nd.idx (by rw [hc', z]) hc)
    have hk2 : k' < i := fsE_lt (List.mem_of_getElem? hk')
    have hm : eqAt ts i k' = false := by
      have hap := fsE_apart (eqvAt ts ts.length) (Nat.le_of_lt hil)
      have hkk : eqAt ts k k' = false := by
        rcases Nat.lt_or_gt_of_ne hjj with lt | lt
        . rw [eqAt_symm]; exact pair_at (R := fun a b => eqAt ts a b = false) hap hk' hj lt
        . exact pair_at (R := fun a b => eqAt ts a b = false) hap hj hk' lt
      cases z : eqAt ts i k' with
      | false => rfl
      | true =>
        have := (eqvAt ts ts.length).trans k i k' (by omega) hil (by omega) (by rw [eqAt_symm]; exact hEik) z
        rw [this] at hkk
        cases hkk
    rw [upd_ne hcc, clsE_miss hm]; exact G.each j' c' k' hc' hk'
theorem GrpIn.miss {ts : List Tx} {i : Nat} {H0 H : Hp} {d : Addr} {as : List Addr} (G : GrpIn ts i H0 H d as) {t : Tx} (hi : ts[i]? = some t) (h : valV (kvOf ts (fsE (eqAt ts) i) as) (.inr (mkS t)) = none) {c : Addr} (hc : H c = none) :
    GrpIn ts (i + 1) H0 (upd (upd (upd H c (.lst [])) d (.dK (kvOf ts (fsE (eqAt ts) i) as ++ [(.inr (mkS t), V.ref c)]))) c (.lst ([] ++ [vN i]))) d (as ++ [c]) := by
  have hil : i < ts.length := (List.getElem?_eq_some_iff.mp hi).1; have hno := kvOf_none ts t _ _ G.len h
  have hE : ∀ k ∈ fsE (eqAt ts) i, eqAt ts i k = false := fun k hk => by
    have := fsE_lt hk; rw [eqAt_iff hi (by omega)]
    exact decide_eq_false (hno k hk)
  have hany : (List.range i).any (fun j => eqAt ts j i) = false := by
    rw [Bool.eq_false_iff]; intro z; obtain ⟨j, hj, e⟩ := List.any_eq_true.mp z; have hj := List.mem_range.mp hj; obtain ⟨k, hk, e2⟩ := fsE_rep (eqvAt ts ts.length) (Nat.le_of_lt hil) j hj; have := fsE_lt hk; have h3 := (eqvAt ts ts.length).trans k j i (by omega) (by omega) hil e2 e
    have h4 := hE k hk; rw [eqAt_symm, h3] at h4
    cases h4
  have hf : fsE (eqAt ts) (i + 1) = fsE (eqAt ts) i ++ [i] := by
    show (if (List.range i).any (fun j => eqAt ts j i) = true then fsE (eqAt ts) i else fsE (eqAt ts) i ++ [i]) = _
    rw [if_neg (by rw [hany]; exact Bool.false_ne_true)]
  have hdc : d ≠ c := ne_of_none G.top hc; have hc0 : H0 c = none := G.same.free hc; have hgd : ts.getD i [] = t := by rw [List.getD_eq_getElem?_getD, hi]; rfl
  have hcn : c ∉ as := fun hm => by
    obtain ⟨j, hj⟩ := List.mem_iff_getElem?.mp hm; have hjl : j < (fsE (eqAt ts) i).length := by rw [G.len]; exact (List.getElem?_eq_some_iff.mp hj).1
    have := G.each j c _ hj (List.getElem?_eq_getElem hjl); rw [hc] at this
    cases this
  refine ⟨same_upd (same_upd (same_upd G.same hc0 _) G.dn _) hc0 _, G.dn, ?_, by rw [hf, List.length_append, List.length_append, G.len]; rfl, ?_, ?_, fun j c' k' hc' hk' => ?_⟩
  . rw [upd_ne hdc, upd_same, hf, kvOf_snoc _ _ _ _ _ G.len, hgd]
  . rw [List.nodup_append]
    exact ⟨G.nd, by simp, fun x hx y hy e => by rw [List.mem_singleton] at hy; subst hy; subst e; exact hcn hx⟩
  . intro x hx
    rcases List.mem_append.mp hx with hx | hx
    . exact G.new x hx
    . rw [List.mem_singleton] at hx; subst hx; exact hc0
  . rw [hf] at hk'
    by_cases hj : j < as.length
    . rw [List.getElem?_append_left hj] at hc'
      rw [List.getElem?_append_left (by rw [G.len]; exact hj)] at hk'
      have hcc : c' ≠ c := fun z => hcn (by rw [<- z]; exact List.mem_of_getElem? hc')
      have ec := G.each j c' k' hc' hk'; have hcd : c' ≠ d := fun z => by rw [z, G.top] at ec; cases ec
      rw [upd_ne hcc, upd_ne hcd, upd_ne hcc, clsE_miss (hE k' (List.mem_of_getElem? hk'))]; exact ec
    . rw [List.getElem?_append_right (by omega)] at hc'
      rw [List.getElem?_append_right (by rw [G.len]; omega)] at hk'
      have hj0 : j - as.length = 0 := by
        have := (List.getElem?_eq_some_iff.mp hc').1; rw [List.length_singleton] at this
        omega
      rw [hj0] at hc'; rw [G.len, hj0] at hk'
      cases hc'
      cases hk'
      rw [upd_same]
      have : clsE (eqAt ts) (i + 1) i = [i] := by
        rw [clsE_hit (decide_eq_true rfl)]
        have : clsE (eqAt ts) i i = [] := by
          refine List.filter_eq_nil_iff.mpr fun j hj => ?_; exact List.any_eq_false.mp hany j hj
        rw [this]
        rfl
      rw [this]
      rfl
theorem GrpIn.up {ts : List Tx} {i : Nat} {H0 H H' : Hp} {d : Addr} {as : List Addr} (G : GrpIn ts i H0 H d as) (s : Same H H') : GrpIn ts i H0 H' d as :=
  ⟨G.same.trans s, G.dn, s _ _ G.top, G.len, G.nd, G.new, fun j c k h1 h2 => s _ _ (G.each j c k h1 h2)⟩
theorem kvOf_vals (ts : List Tx) : ∀ (ks : List Nat) (as : List Addr), ks.length = as.length -> (kvOf ts ks as).map (·.2) = as.map V.ref
  | [], [], _ => rfl
  | k :: ks, c :: as, h => by
    show V.ref c :: (kvOf ts ks as).map (·.2) = _
    rw [kvOf_vals ts ks as (Nat.succ.inj h)]
    rfl
theorem GrpIn.done {ts : List Tx} {H0 H : Hp} {d l : Addr} {as : List Addr} (G : GrpIn ts ts.length H0 H d as) (hl : H l = none) : GroupsAt (upd H l (.lst ((kvOf ts (fsE (eqAt ts) ts.length) as).map (·.2)))) l as (grp ts) := by
  refine ⟨by rw [upd_same, kvOf_vals _ _ _ G.len], by unfold grp grpE; rw [List.length_map, G.len], fun i c g hc hg => ?_⟩
  unfold grp grpE at hg
  rw [List.getElem?_map] at hg
  cases z : (fsE (eqAt ts) ts.length)[i]? with
  | none => rw [z] at hg; cases hg
  | some k =>
    rw [z] at hg
    cases hg
    have ec := G.each i c k hc z; rw [upd_ne (ne_of_none ec hl)]; exact ec
end KD
namespace KM
end KM
namespace KD
open PySem L2 KM PyProof.Rows
end KD
namespace KM
end KM
namespace KD
open PySem L2 KM PyProof.Rows
end KD
namespace KD
open PySem L2 KM PyProof.Rows
abbrev LI := List (Int × Int)
def vP (p : Int × Int) : List V := [.int p.1, .int p.2]
def toL (ls : Ln) : LI := ls.map fun p => ((p.1 : Int), (p.2 : Int))
def ofL (li : LI) : Ln := li.map fun p => (p.1.toNat, p.2.toNat)
theorem toL_len (ls : Ln) : (toL ls).length = ls.length := List.length_map _
abbrev LinesAt (H : Hp) (L : Addr) (ps : List Addr) (li : LI) : Prop := TupsAt H L ps (li.map vP)
theorem flat_vP (p : Int × Int) : (vP p).all flatV = true := rfl
theorem LinesAt.at {H : Hp} {L : Addr} {ps : List Addr} {li : LI} (G : LinesAt H L ps li) {i : Nat} (h : i < li.length) : ∃ c, ps[i]? = some c /\ H c = some (.tup (vP li[i])) := by
  have hl : i < ps.length := by rw [G.len, List.length_map]; exact h
  refine ⟨ps[i], List.getElem?_eq_getElem hl, G.each i _ _ (List.getElem?_eq_getElem hl) ?_⟩; rw [List.getElem?_map, List.getElem?_eq_getElem h]
  rfl
structure TreeAt (H : Hp) (t L : Addr) (ps : List Addr) (c : Int) (li : LI) : Prop where
  tup : H t = some (.tup [.int c, .ref L])
  ls : LinesAt H L ps li
theorem TreeAt.up {H H' : Hp} {t L : Addr} {ps : List Addr} {c : Int} {li : LI} (G : TreeAt H t L ps c li) (s : Same H H') : TreeAt H' t L ps c li := ⟨s _ _ G.tup, G.ls.up s⟩
structure ValidL (c : Int) (li : LI) : Prop where
  len : c = ((li.length : Nat) : Int) + 1
  lt : ∀ p ∈ li, (0 <= p.1 /\ p.1 < c) /\ 0 <= p.2 /\ p.2 < c
theorem ValidL.ofL {c : Int} {li : LI} (h : ValidL c li) : ∀ p ∈ ofL li, p.1 < li.length + 1 /\ p.2 < li.length + 1 := fun p hp => by
  obtain ⟨q, hq, rfl⟩ := List.mem_map.mp hp; have := h.lt q hq; have := h.len
  show q.1.toNat < _ /\ q.2.toNat < _
  omega
def FreeL (c : Int) (li : LI) : Prop := ValidL c li /\ IsFree (li.length + 1) (ofL li)
structure LsAt (H0 H : Hp) (b : Addr) (bs : List Addr) (f : Nat -> List Nat) : Prop where
  same : Same H0 H
  top : H b = some (.lst (bs.map V.ref))
  nd : bs.Nodup
  new : ∀ c ∈ bs, H0 c = none
  bn : H0 b = none
  each : ∀ (k : Nat) (c : Addr), bs[k]? = some c -> H c = some (.lst ((f k).map vN))
theorem LsAt.ne {H0 H : Hp} {b : Addr} {bs : List Addr} {f : Nat -> List Nat} (G : LsAt H0 H b bs f) {k : Nat} {c : Addr} (h : bs[k]? = some c) : b ≠ c := fun z => by
  have e := G.each k c h; rw [<- z, G.top] at e; have e := HO.lst.inj (Option.some.inj e)
  cases bs with
  | nil => cases h
  | cons x xs =>
    cases q : f k with
    | nil => rw [q] at e; cases e
    | cons y ys => rw [q] at e; cases (List.cons.inj e).1
theorem LsAt.push {H0 H : Hp} {b : Addr} {bs : List Addr} {f : Nat -> List Nat} (G : LsAt H0 H b bs f) {k x : Nat} {c : Addr} (h : bs[k]? = some c) : LsAt H0 (upd H c (.lst ((f k).map vN ++ [vN x]))) b bs (fun j => if j = k then f j ++ [x] else f j) := by
  refine ⟨same_upd G.same (G.new c (List.mem_of_getElem? h)) _, by rw [upd_ne (G.ne h)]; exact G.top, G.nd, G.new, G.bn, fun j d hd => ?_⟩
  by_cases e : j = k
  . subst e
    rw [h] at hd
    cases hd
    rw [upd_same, if_pos rfl, List.map_append]
    rfl
  . rw [if_neg e, upd_ne (fun z => e (G.nd.idx (by rw [hd, z]) h))]
    exact G.each j d hd
theorem near_snoc (ls : Ln) (p : Nat × Nat) (k : Nat) : near (ls ++ [p]) k = near ls k ++ nb k p := by
  unfold near
  rw [List.flatMap_append]
  simp
theorem near_two (ls : Ln) (a b k : Nat) : near (ls ++ [(a, b)]) k = if k = b then (if k = a then near ls k ++ [b] else near ls k) ++ [a] else (if k = a then near ls k ++ [b] else near ls k) := by
  rw [near_snoc]
  unfold nb
  by_cases h1 : k = a
  . by_cases h2 : k = b
    . rw [if_pos h2, if_pos h1, if_pos h1.symm, if_pos h2.symm, List.append_assoc]
    . rw [if_neg h2, if_pos h1, if_pos h1.symm, if_neg (fun z => h2 z.symm), List.append_nil]
  . by_cases h2 : k = b
    . rw [if_pos h2, if_neg h1, if_neg (fun z => h1 z.symm), if_pos h2.symm]
      rfl
    . rw [if_neg h2, if_neg h1, if_neg (fun z => h1 z.symm), if_neg (fun z => h2 z.symm), List.append_nil, List.append_nil]
structure BesideAt (H : Hp) (b : Addr) (bs : List Addr) (n : Nat) (ls : Ln) : Prop where
  top : H b = some (.lst (bs.map V.ref))
  len : bs.length = n
  each : ∀ (k : Nat) (c : Addr), bs[k]? = some c -> H c = some (.lst ((near ls k).map vN))
theorem BesideAt.up {H H' : Hp} {b : Addr} {bs : List Addr} {n : Nat} {ls : Ln} (G : BesideAt H b bs n ls) (s : Same H H') : BesideAt H' b bs n ls := ⟨s _ _ G.top, G.len, fun k c h => s _ _ (G.each k c h)⟩
inductive spBeside (C : Addr) (vs : (List V)) (H : Hp) (Q : VK) (E : XK) : Prop
  | mk (t L : Addr) (ps : List Addr) (c : Int) (li : LI) (z1_ : vs = [.ref t]) (z2_ : TreeAt H t L ps c li) (z3_ : li.length <= 60) (z4_ : (ValidL c li -> ∀ (b : Addr) (bs : List Addr) (H' : Hp), Same H H' -> BesideAt H' b bs (li.length + 1) (ofL li) -> Q (.ref b) H')) (z5_ : (¬ ValidL c li -> ∀ H', Same H H' -> E (.ref C) none H')) : spBeside C vs H Q E
def kvW (ord : List Nat) (pa : Nat -> Option Nat) : List (Key × V) := ord.map fun k : Nat => (.inl (k : Int), vO (pa k))
inductive spWalked (C : Addr) (vs : (List V)) (H : Hp) (Q : VK) (E : XK) : Prop
  | mk (b : Addr) (bs : List Addr) (n v : Nat) (ls : Ln) (z1_ : vs = [.ref b, vN v]) (z2_ : BesideAt H b bs n ls) (z3_ : v < n) (z4_ : n <= 100) (z5_ : ls.length <= 100) (z6_ : (∀ p ∈ ls, p.1 < n /\ p.2 < n)) (z7_ : (∀ (d : Addr) (ord : List Nat) (pa : Nat -> Option Nat) (H' : Hp), Same H H' -> H d = none -> H' d = some (.dK (kvW ord pa)) -> GB ls n v ord pa ord.length -> ord.length = n -> Q (.ref d) H')) (z8_ : (∀ (ord : List Nat) (pa : Nat -> Option Nat) (H' : Hp), Same H H' -> GB ls n v ord pa ord.length -> ord.length ≠ n -> E (.ref C) none H')) : spWalked C vs H Q E
inductive spHung (C : Addr) (vs : (List V)) (H : Hp) (Q : VK) (E : XK) : Prop
  | mk (b : Addr) (bs : List Addr) (n v : Nat) (ls : Ln) (z1_ : vs = [.ref b, vN v]) (z2_ : BesideAt H b bs n ls) (z3_ : v < n) (z4_ : n <= 100) (z5_ : ls.length + 1 = n) (z6_ : (∀ p ∈ ls, p.1 < n /\ p.2 < n)) (z7_ : (IsFree n ls -> ∀ (p : Addr) (H' : Hp), Same H H' -> H p = none -> H' p = some (.lst ((At n ls v).map vO)) -> Q (.ref p) H')) (z8_ : (¬ IsFree n ls -> ∀ H', Same H H' -> E (.ref C) none H')) : spHung C vs H Q E
inductive spRootedAt (C : Addr) (vs : (List V)) (H : Hp) (Q : VK) (E : XK) : Prop
  | mk (t L : Addr) (ps : List Addr) (c : Int) (li : LI) (v : Nat) (z1_ : vs = [.ref t, vN v]) (z2_ : TreeAt H t L ps c li) (z3_ : li.length <= 60) (z4_ : v < li.length + 1) (z5_ : (FreeL c li -> ∀ (p : Addr) (H' : Hp), Same H H' -> H p = none -> H' p = some (.lst ((At (li.length + 1) (ofL li) v).map vO)) -> Q (.ref p) H')) (z6_ : (¬ FreeL c li -> ∀ H', Same H H' -> E (.ref C) none H')) : spRootedAt C vs H Q E
noncomputable def rfs (n : Nat) (ls : Ln) : List Tx := (List.range n).map (rf n ls)
inductive spFAlike (C : Addr) (vs : (List V)) (H : Hp) (Q : VK) (E : XK) : Prop
  | mk (t L : Addr) (ps : List Addr) (c : Int) (li : LI) (z1_ : vs = [.ref t]) (z2_ : TreeAt H t L ps c li) (z3_ : li.length <= 60) (z4_ : (FreeL c li -> ∀ (l : Addr) (as : List Addr) (H' : Hp), Same H H' -> GroupsAt H' l as (grp (rfs (li.length + 1) (ofL li))) -> Q (.ref l) H')) (z5_ : (¬ FreeL c li -> ∀ H', Same H H' -> E (.ref C) none H')) : spFAlike C vs H Q E
inductive spFMany (C : Addr) (vs : (List V)) (H : Hp) (Q : VK) (E : XK) : Prop
  | mk (t L : Addr) (ps : List Addr) (c : Int) (li : LI) (z1_ : vs = [.ref t]) (z2_ : TreeAt H t L ps c li) (z3_ : li.length < 20) (z4_ : (FreeL c li -> ∀ (H' : Hp), Same H H' -> Q (.int ((ways (At (li.length + 1) (ofL li) 0) * cnt (li.length + 1) (ofL li) 0 : Nat) : Int)) H')) (z5_ : (¬ FreeL c li -> ∀ H', Same H H' -> E (.ref C) none H')) : spFMany C vs H Q E
theorem _root_.KM.GB.free_iff {ls : Ln} {n v : Nat} {ord : List Nat} {pa : Nat -> Option Nat} (B : GB ls n v ord pa ord.length) (hn : ls.length + 1 = n) (hv : v < n) : IsFree n ls ↔ ord.length = n := by
  constructor
  . rintro p_
    refine hld fun g_ k_ => ?_; obtain ⟨ab, r, rk, T, rfl, f⟩ := p_; refine k_ ?_; exact B.whole T f
  . intro h
    exact isFree_of (B.rooted h hn)
theorem _root_.KM.GB.hung_at {ls : Ln} {n v : Nat} {ord : List Nat} {pa : Nat -> Option Nat} (B : GB ls n v ord pa ord.length) (hn : ls.length + 1 = n) (hv : v < n) (hw : ord.length = n) : hung n pa = At n ls v := (at_eq (isFree_of (B.rooted hw hn)) hv (B.rooted hw hn)).symm
theorem kvW_none {ord : List Nat} {pa : Nat -> Option Nat} {c : Nat} : valV (kvW ord pa) (.inl (c : Int)) = none ↔ c ∉ ord := by
  induction ord with
  | nil => exact ⟨fun _ h => (nomatch h), fun _ => rfl⟩
  | cons k ord ih =>
    have e : kvW (k :: ord) pa = (.inl (k : Int), vO (pa k)) :: kvW ord pa := rfl; rw [e]
    by_cases h : k = c
    . subst h
      rw [valV_pos rfl]; exact ⟨fun z => (nomatch z), fun z => absurd List.mem_cons_self z⟩
    . rw [valV_neg (fun z => h (by have := Sum.inl.inj z; omega)), ih, List.mem_cons]
      exact ⟨fun z y => y.elim (fun w => h w.symm) z, fun z y => z (.inr y)⟩
theorem kvW_some {ord : List Nat} {pa : Nat -> Option Nat} {c : Nat} (h : c ∈ ord) : valV (kvW ord pa) (.inl (c : Int)) = some (vO (pa c)) := by
  induction ord with
  | nil => cases h
  | cons k ord ih =>
    have e : kvW (k :: ord) pa = (.inl (k : Int), vO (pa k)) :: kvW ord pa := rfl; rw [e]
    by_cases hk : k = c
    . subst hk
      rw [valV_pos rfl]
    . rw [valV_neg (fun z => hk (by have := Sum.inl.inj z; omega))]
      exact ih ((List.mem_cons.mp h).resolve_left fun z => hk z.symm)
theorem kvW_meet {ord : List Nat} {pa : Nat -> Option Nat} {c k : Nat} (h : c ∉ ord) : putK (kvW ord pa) (.inl (c : Int)) (vN k) = kvW (ord ++ [c]) (fun j => if j = c then some k else pa j) := by
  rw [putK_new _ (kvW_none.mpr h)]
  unfold kvW
  rw [List.map_append]
  congr 1
  . refine List.map_congr_left fun j hj => ?_
    show (_, vO (pa j)) = (_, vO (if j = c then some k else pa j))
    rw [if_neg (fun z : j = c => h (by rw [<- z]; exact hj))]
  . show [(_, vN k)] = [(_, vO (if c = c then some k else pa c))]
    rw [if_pos rfl]
    rfl
theorem near_len (ls : Ln) (k : Nat) : (near ls k).length <= 2 * ls.length := by
  unfold near
  induction ls with
  | nil => exact Nat.zero_le _
  | cons p ls ih =>
    rw [List.flatMap_cons, List.length_append, List.length_cons]
    have : (nb k p).length <= 2 := by
      unfold nb
      rw [List.length_append]
      split <;> split <;> simp
    omega
theorem first_group (g : Nat -> Tx) (n : Nat) : ∃ g0, (grp ((List.range (n + 1)).map g))[0]? = some g0 /\ g0.length = (List.range (n + 1)).countP fun j => g j == g 0 := by
  have hl : ((List.range (n + 1)).map g).length = n + 1 := by rw [List.length_map, List.length_range]
  have hg : ∀ j, j < n + 1 -> ((List.range (n + 1)).map g)[j]? = some (g j) := fun j hj => by rw [List.getElem?_map, List.getElem?_range hj]; rfl
  have h0 : ∀ m, (fsE (eqAt ((List.range (n + 1)).map g)) (m + 1))[0]? = some 0 := fun m => by
    induction m with
    | zero => rfl
    | succ m ih =>
      show (if (List.range (m + 1)).any (fun j => eqAt ((List.range (n + 1)).map g) j (m + 1)) = true then fsE (eqAt ((List.range (n + 1)).map g)) (m + 1) else fsE (eqAt ((List.range (n + 1)).map g)) (m + 1) ++ [m + 1])[0]? = some 0
      split
      . exact ih
      . rw [List.getElem?_append_left (List.getElem?_eq_some_iff.mp ih).1]
        exact ih
  refine ⟨clsE (eqAt ((List.range (n + 1)).map g)) (n + 1) 0, ?_, ?_⟩
  . unfold grp grpE
    rw [hl, List.getElem?_map, h0]
    rfl
  . unfold clsE
    rw [<- List.countP_eq_length_filter]; refine List.countP_congr fun j hj => ?_; have hj := List.mem_range.mp hj
    unfold eqAt
    rw [hg j hj, hg 0 (Nat.succ_pos n), decide_eq_true_iff, beq_iff_eq]; exact ⟨Option.some.inj, congrArg some⟩
end KD
namespace KM
def renum (ab : Ab) (nm : List Nat) : Ab := (List.range ab.length).map fun k => (ab[nm.idxOf k]?.getD none).map fun p => nm.getD p 0
theorem renum_ok {ab : Ab} {r : Nat} {rk : Nat -> Nat} {nm : List Nat} (T : Tree ab r rk) (hp : nm.Perm (List.range ab.length)) : Renum ab (renum ab nm) nm where
  len := by unfold renum; rw [List.length_map, List.length_range]
  perm := hp
  par := fun j p h => (T.up j p h).1
  at' := fun j k h => by
    have hk : k < ab.length := List.mem_range.mp (hp.mem_iff.mp (List.mem_of_getElem? h)); have nd : nm.Nodup := hp.nodup_iff.mpr List.nodup_range
    have hj : nm.idxOf k = j := by
      obtain ⟨hj, e⟩ := List.getElem?_eq_some_iff.mp h; rw [<- e]; exact nd.idxOf_getElem j hj
    unfold renum
    rw [List.getElem?_map, List.getElem?_range hk]
    show some ((ab[nm.idxOf k]?.getD none).map fun p => nm.getD p 0) = _
    rw [hj]
def Joins (ls ls' : Ln) (mt : List Nat) : Prop := ∀ p ∈ ls, mt.getD p.2 0 ∈ near ls' (mt.getD p.1 0)
theorem Joins.near {ls ls' : Ln} {mt : List Nat} (J : Joins ls ls' mt) {k c : Nat} (h : c ∈ near ls k) : mt.getD c 0 ∈ KM.near ls' (mt.getD k 0) := by
  rcases mem_near.mp h with z | z
  . exact J _ z
  . exact near_symm (J _ z)
theorem perm_lt {mt : List Nat} {n : Nat} (hp : mt.Perm (List.range n)) {v : Nat} (hv : v < n) : mt[v]? = some (mt.getD v 0) /\ mt.getD v 0 < n := by
  have hl : v < mt.length := by rw [hp.length_eq, List.length_range]; exact hv
  have e : mt[v]? = some (mt.getD v 0) := by rw [List.getD_eq_getElem?_getD, List.getElem?_eq_getElem hl]; rfl
  exact ⟨e, List.mem_range.mp (hp.mem_iff.mp (List.mem_of_getElem? e))⟩
section
variable {n : Nat} {ls ls' : Ln}
theorem IsFree.len (F : IsFree n ls) : ls.length + 1 = n := by
  obtain ⟨ab, r, rk, T, rfl, f⟩ := F; exact f.len T
theorem joins_iff (F : IsFree n ls) (F' : IsFree n ls') {mt : List Nat} (hp : mt.Perm (List.range n)) {v : Nat} (hv : v < n) : Joins ls ls' mt ↔ Renum (At n ls v) (At n ls' (mt.getD v 0)) mt := by
  obtain ⟨hal, ⟨rk, T⟩, f⟩ := at_spec F hv; obtain ⟨ev, hw⟩ := perm_lt hp hv
  constructor
  . intro J
    have R := renum_ok (nm := mt) T (by rw [hal]; exact hp)
    have T' := R.tree T; have hl' : (renum (At n ls v) mt).length = n := R.len.trans hal
    have hfr : FreeOf (renum (At n ls v) mt) ls' := T'.freeOf (by rw [hl']; exact F'.len) fun k p h => by
      have hk : k < n := by rw [<- hl']; exact (List.getElem?_eq_some_iff.mp h).1
      obtain ⟨j, hj⟩ := List.mem_iff_getElem?.mp (hp.mem_iff.mpr (List.mem_range.mpr hk)); have e := R.at' j k hj; rw [h] at e
      cases q : (At n ls v)[j]?.getD none with
      | none => rw [q] at e; cases Option.some.inj e
      | some c =>
        rw [q] at e; have e2 : p = mt.getD c 0 := Option.some.inj (Option.some.inj e)
        have hjc : (At n ls v)[j]? = some (some c) := by
          cases z : (At n ls v)[j]? with
          | none => rw [z] at q; cases q
          | some o => rw [z] at q; exact congrArg some q
        have hjl := (List.getElem?_eq_some_iff.mp hjc).1; have hn := (f.joined hjl c).mpr (.inr hjc); have := J.near hn; rw [getD_of hj] at this; rw [e2]; exact this
    have hR : RootedAt n ls' (mt.getD v 0) (renum (At n ls v) mt) := ⟨hl', ⟨_, T'⟩, hfr⟩; rw [at_eq F' hw hR]; exact R
  . intro R p hm
    obtain ⟨hbl, ⟨rk', T'⟩, f'⟩ := at_spec F' hw; obtain ⟨h1, h2⟩ := F.lt hm; obtain ⟨e1, l1⟩ := perm_lt hp h1; obtain ⟨e2, l2⟩ := perm_lt hp h2; have hn : p.2 ∈ KM.near ls p.1 := mem_near.mpr (.inl hm)
    rcases (f.joined (by rw [hal]; exact h1) p.2).mp hn with z | z
    . have e := R.at' p.2 _ e2
      rw [z] at e; exact (f'.joined (by rw [hbl]; exact l1) _).mpr (.inl e)
    . have e := R.at' p.1 _ e1
      rw [z] at e; exact (f'.joined (by rw [hbl]; exact l1) _).mpr (.inr e)
end
end KM
namespace L2
open PySem PySem.Spec PyProof.Rows
end L2
namespace KD
open PySem L2 KM PyProof.Rows
inductive spAreKnotsI (vs : (List V)) (H : Hp) (Q : VK) (e_ : XK) : Prop
  | mk (a : Addr) (ks : List Int) (n : Nat) (z1_ : vs = [.ref a, vN n]) (z2_ : H a = some (.lst (ks.map V.int))) (z3_ : ks.length = n) (z4_ : n <= 1000) (z5_ : ∀ H', Same H H' -> Q (.bl true) H') : spAreKnotsI vs H Q e_
inductive spKept (vs : (List V)) (H : Hp) (Q : VK) (e_ : XK) : Prop
  | mk (t L t' L' : Addr) (ps ps' : List Addr) (c : Int) (li : LI) (z1_ : vs = [.ref t, .ref t']) (z2_ : TreeAt H t L ps c li) (z3_ : TreeAt H t' L' ps' c li) (z4_ : li.length <= 100) (z5_ : ∀ H', Same H H' -> Q (.bl true) H') : spKept vs H Q e_
inductive spLinesOf (vs : (List V)) (H : Hp) (Q : VK) (e_ : XK) : Prop
  | mk (a b : Addr) (ab : Ab) (ns : List Int) (z1_ : vs = [.ref a, .ref b]) (z2_ : H a = some (.lst (ab.map vO))) (z3_ : H b = some (.lst (ns.map V.int))) (z4_ : Up ab) (z5_ : ab.length <= 100) (z6_ : ns.length <= 100) (z7_ : ∀ (L : Addr) (ps : List Addr) (ls : Ln) (H' : Hp), Same H H' -> LinesAt H' L ps (toL ls) -> FreeOf ab ls -> Q (.ref L) H') : spLinesOf vs H Q e_
def edsTo (ab : Ab) (i : Nat) : Ln := (List.range i).filterMap (ed1 ab)
theorem edsTo_step {ab : Ab} {i p : Nat} (h : ab[i]? = some (some p)) : edsTo ab (i + 1) = edsTo ab i ++ [(i, p)] := by
  unfold edsTo
  rw [List.range_succ, List.filterMap_append]; have : ed1 ab i = some (i, p) := by unfold ed1; rw [h]; rfl
  simp [this]
theorem edsTo_one {ab : Ab} (h : ab[0]? = some none) : edsTo ab 1 = [] := by
  unfold edsTo
  have : ed1 ab 0 = none := by unfold ed1; rw [h]; rfl
  simp [List.range_succ, this]
theorem lines_ins {H : Hp} {L c : Addr} {ps : List Addr} {ls : Ln} (G : LinesAt H L ps (toL ls)) (p : Nat × Nat) (hc : H c = some (.tup (vP ((p.1 : Int), (p.2 : Int))))) (j : Nat) (hj : j <= ls.length) :
    LinesAt (upd H L (.lst ((ps.map V.ref).take j ++ V.ref c :: (ps.map V.ref).drop j))) L (ps.take j ++ c :: ps.drop j) (toL (ls.take j ++ p :: ls.drop j)) := by
  have hpl : ps.length = ls.length := by rw [G.len, List.length_map, toL_len]
  have ne : ∀ d zs, H d = some (.tup zs) -> d ≠ L := fun d zs h z => by
    have := G.top; rw [<- z, h] at this
    cases this
  have hts : (toL (ls.take j ++ p :: ls.drop j)).map vP = ((toL ls).map vP).take j ++ vP ((p.1 : Int), (p.2 : Int)) :: ((toL ls).map vP).drop j := by
    unfold toL
    rw [List.map_append, List.map_cons, List.map_append, List.map_cons, List.map_take, List.map_drop, List.map_take, List.map_drop]
  have hlt : (ps.take j).length = j := by rw [List.length_take]; omega
  have hltt : (((toL ls).map vP).take j).length = j := by rw [List.length_take, List.length_map, toL_len]; omega
  refine ⟨?_, ?_, fun i d ys hd hy => ?_, fun ys hy => ?_⟩
  . rw [upd_same, List.map_append, List.map_cons, List.map_take, List.map_drop]
  . rw [hts, List.length_append, List.length_append, hlt, hltt, List.length_cons, List.length_cons, List.length_drop, List.length_drop, List.length_map, toL_len, hpl]
  . rw [hts] at hy
    by_cases h1 : i < j
    . rw [List.getElem?_append_left (by omega), List.getElem?_take_of_lt h1] at hd
      rw [List.getElem?_append_left (by omega), List.getElem?_take_of_lt h1] at hy
      have e := G.each i d ys hd hy; rw [upd_ne (ne d ys e)]; exact e
    . rw [List.getElem?_append_right (by omega), hlt] at hd
      rw [List.getElem?_append_right (by omega), hltt] at hy
      cases q : i - j with
      | zero =>
        rw [q] at hd hy
        cases hd
        cases hy
        rw [upd_ne (ne _ _ hc)]; exact hc
      | succ m =>
        rw [q, List.getElem?_cons_succ, List.getElem?_drop] at hd hy; have e := G.each (j + m) d ys hd hy; rw [upd_ne (ne d ys e)]; exact e
  . obtain ⟨p', _, rfl⟩ := List.mem_map.mp hy
    rfl
theorem perm_ins2 {α : Type} (l : List α) (x : α) (j : Nat) : (l.take j ++ x :: l.drop j).Perm (l ++ [x]) := by
  refine (List.perm_middle.trans ?_).trans (List.perm_append_singleton _ _).symm; rw [List.take_append_drop]
theorem lines_copy {H : Hp} {L h : Addr} {ps : List Addr} {li : LI} (G : LinesAt H L ps li) (hh : H h = none) : LinesAt (upd H h (.lst (ps.map V.ref))) h ps li :=
  ⟨upd_same, G.len, fun j c ys h1 h2 => (same_new hh _) _ _ (G.each j c ys h1 h2), G.flat⟩
end KD
namespace KM
end KM
namespace L2
open PySem PySem.Spec PyProof.Rows
end L2
namespace KD
open PySem L2 KM PyProof.Rows
end KD
namespace L2
open PySem PySem.Spec PyProof.Rows
theorem kV_of {P : Program} {w : World} {k : Key} {u : Value} (h : (mixKind P w).is k u = true) : RelV (kV k) u := by
  rcases keyIs_shape (show keyIs k u = true from h) with ⟨i, t, rfl, rfl⟩ | ⟨x, t, rfl, rfl⟩
  . exact ⟨t, rfl⟩
  . exact ⟨t, rfl⟩
theorem KV.at {κ : Type} : ∀ {kvs : List (κ × V)} {vs : List (κ × Value)}, KV kvs vs -> ∀ {i : Nat} {kv : κ × V}, kvs[i]? = some kv -> ∃ v, vs[i]? = some (kv.1, v) /\ RelV kv.2 v
  | _, _, .nil, _, _, h => (nomatch h)
  | _, _, .cons (a := a) (b := b) r t, 0, kv, h => by
    have e : a = kv := Option.some.inj h; subst e; refine ⟨b.2, ?_, r.2⟩
    show some b = _
    rw [r.1]
  | _, _, .cons _ t, i + 1, kv, h => KV.at t (i := i) h
theorem KV.at2 {κ : Type} : ∀ {kvs : List (κ × V)} {vs : List (κ × Value)}, KV kvs vs -> ∀ {i : Nat} {q : κ × Value}, vs[i]? = some q -> ∃ x, kvs[i]? = some (q.1, x) /\ RelV x q.2
  | _, _, .nil, _, _, h => (nomatch h)
  | _, _, .cons (a := a) (b := b) r t, 0, q, h => by
    have e : b = q := Option.some.inj h; subst e; refine ⟨a.2, ?_, r.2⟩
    show some a = _
    rw [<- r.1]
  | _, _, .cons _ t, i + 1, q, h => KV.at2 t (i := i) h
def Itd (d : Addr) (o : Obj) (kvs : List (Key × V)) : It :=
  ⟨fun i H => H d = some (.frz o (.dK kvs)) /\ i < kvs.length, fun i H x H' => H' = H /\ ∃ kv, kvs[i]? = some kv /\ x = kV kv.1, fun i H => H d = some (.frz o (.dK kvs)) /\ kvs.length <= i⟩
theorem frz_at {X : Cx} {pins : List (Addr × Obj)} {σ : St} {H : Hp} {s : Shared} {d : Addr} {o : Obj} {kvs : List (Key × V)} {es : Array DictEntry} {ep : Nat} (I : Inv X pins σ H s) (h : H d = some (.frz o (.dK kvs))) (he : o.data = .dict es ep) :
    ∃ vs, KV kvs vs /\ s.heap.DictAt (mixKind X.prog X.w) d vs ep := by
  refine hld fun g_ k_ => ?_; obtain ⟨ho, hz, hS, vs, rel, ob, es', ep', e1, e2, e3, e4⟩ := (show ObjOk X.prog X.w H s.heap d (.frz o (.dK kvs)) from I.hok d _ h); refine k_ ?_
  rw [ho] at e1
  cases e1
  rw [he] at e3
  cases e3
  exact ⟨vs, rel, o, es, ho, e2, he, e4⟩
theorem turn_dict {P : Program} {w : World} {K : PySem.W.Frag} {tg : Expr} (d it : Addr) (ob : Obj) (kvs : List (Key × V)) {es : Array DictEntry} {ep : Nat} (he : ob.data = .dict es ep) : Turn P w K tg (Itd d ob kvs) [it] it (fun i h => h.IsKeyIter it d i kvs.length ep) where
  mem := by simp
  obj := fun i h st b hb => by
    have e : b = it := by simpa using hb
    subst e; obtain ⟨o, e, c, d⟩ := st; exact ⟨o, e, fun v z => by rw [d] at z; cases z⟩
  keep := fun i h h' st k => st.at fun o e => k it (by simp) o e
  item := by
    intro X hP hw hK hc i pins s σ H E I hf st hg; subst hP hw hK; obtain ⟨hd, hi⟩ := hg; obtain ⟨vs, rel, da⟩ := frz_at I hd he; have hl := rel.length; obtain ⟨v, hv, _⟩ := rel.at (List.getElem?_eq_getElem hi); refine hld fun g_ k_ => ?_; obtain ⟨f0, f1, f2, f3, f4, f5⟩ := hf it (by simp); refine k_ ?_
    rw [hl] at st; refine wpAny_pyNext_dict_item st da hv fun key h' hkey st' sb => ?_; have I1 : Inv X pins σ H { s with heap := h' } := I.turned (t' := s.toks) (fun b o hb e => (sb.2 b hb).trans e) f0 f1 f3 f4 f5
    obtain ⟨o, e, c, dd⟩ := id st'; exact ⟨key, rfl, go_of (s := { s with heap := h' }) e c dd (by decide) ⟨kV kvs[i].1, H, I1, kV_of hkey, ⟨rfl, kvs[i], List.getElem?_eq_getElem hi, rfl⟩, by rw [hl]; exact st', fun b hb => (hf b hb).1⟩⟩
  done := by
    intro X hP hw hK hc i pins s σ H E I hf st hg; subst hP hw hK; obtain ⟨hd, hi⟩ := hg; obtain ⟨vs, rel, da⟩ := frz_at I hd he; have hl := rel.length; refine hld fun g_ k_ => ?_; obtain ⟨f0, f1, f2, f3, f4, f5⟩ := hf it (by simp); refine k_ ?_
    rw [hl] at st; exact wpAny_pyNext_dict_end (I.ok.hd hc) st da (List.getElem?_eq_none (by omega)) fun h' eb => ⟨rfl, I.turned (t' := s.toks) (fun b o hb e => eb b o hb e) f0 f1 f3 f4 f5⟩
  self := fun _ _ _ _ _ st h => wpAny_pyIter_keyiter st h
section
variable {X : Cx} {tg : Expr}
def iDict (td : TE) : TI := fun σ H R => td σ H fun x H1 => ∃ d kvs, x = .ref d /\ H1 d = some (.dK kvs) /\ ∀ o, R (Itd d o kvs) (upd H1 d (.frz o (.dK kvs)))
theorem pi_dict {l : Expr} {td : TE} (hl : PE X l td) : PI X tg l (iDict td) := by
  intro pins s σ H R I h; refine thn (hl pins s σ H _ I h) fun v s1 ⟨x, H1, I1, r1, q1⟩ => ?_; refine hld fun g_ k_ => ?_; obtain ⟨d, kvs, e, hd, q⟩ := q1; refine k_ ?_; subst e
  cases r1
  refine hld fun g_ k_ => ?_; obtain ⟨hz, hS, vs, rel, ob, es, ep, he, c1, c2, c3⟩ := (show ObjOk X.prog X.w H1 s1.heap d (.dK kvs) from I1.hok d _ hd); refine k_ ?_
  have da : s1.heap.DictAt (mixKind X.prog X.w) d vs ep := ⟨ob, es, he, c1, c2, c3⟩; have I2 : Inv X pins σ (upd H1 d (.frz ob (.dK kvs))) s1 := I1.write (t' := s1.toks) (x := d) (e := d) (by rw [hd]; exact trivial) (.inl rfl) (fun b u _ hu => hu) ⟨_, he⟩ ⟨he, hz, hS, vs, rel, ob, es, ep, he, c1, c2, c3⟩
  refine wpAny_pyIter_dict hS da ?_; refine ⟨s1.heap.objs.size, [s1.heap.objs.size], _, _, upd H1 d (.frz ob (.dK kvs)), rfl, I2.kept (t' := s1.toks) fun b o e => Heap.get?_push_of_some _ e, turn_dict d _ ob kvs c2, ⟨_, Heap.get?_push_size _ rfl, rfl, by rw [rel.length]; rfl⟩, fun b hb => ?_, q ob⟩
  have e : b = s1.heap.objs.size := by simpa using hb
  subst e; exact I2.fpOk (Nat.le_refl _) (I2.hok.fresh (Nat.le_refl _))
theorem for_dict {d : Addr} {o : Obj} {kvs : List (Key × V)} {g : TG} {tb : TS} {D : Ends} {σ : St} {H : Hp} (Pv : Nat -> St -> Hp -> Prop) (h0 : Pv 0 σ H) (hl : ∀ i σ H, i <= kvs.length -> Pv i σ H -> H d = some (.frz o (.dK kvs)))
    (hs : ∀ i kv σ H, kvs[i]? = some kv -> Pv i σ H -> g (kV kv.1) σ H fun σ2 H2 => tb { D with nx := Pv (i + 1), ct := Pv (i + 1), bk := D.nx } σ2 H2) (hd : ∀ σ H, Pv kvs.length σ H -> D.nx σ H) :
    ∃ W : Nat -> Nat -> St -> Hp -> Prop, (∃ m, W 0 m σ H) /\ ∀ i m σ H, W i m σ H ->
      ((Itd d o kvs).stop i H /\ D.nx σ H) \/ ((Itd d o kvs).go i H /\ ∃ N : St -> Hp -> Prop, (∀ σ' H', N σ' H' -> ∃ m', m' < m /\ W (i + 1) m' σ' H') /\ ∀ x H', (Itd d o kvs).yld i H x H' -> g x σ H' fun σ2 H2 => tb { D with nx := N, ct := N, bk := D.nx } σ2 H2) := by
  refine ⟨fun i m σ H => m = kvs.length - i /\ i <= kvs.length /\ Pv i σ H, ⟨kvs.length, by simp, Nat.zero_le _, h0⟩, ?_⟩
  rintro i m σ H ⟨rfl, hi, p⟩
  have q := hl i σ H hi p
  by_cases hlt : i < kvs.length
  . refine .inr ⟨⟨q, hlt⟩, Pv (i + 1), fun σ' H' p' => ⟨kvs.length - (i + 1), by omega, rfl, hlt, p'⟩, fun x H' y => ?_⟩
    obtain ⟨e, kv, hkv, rfl⟩ := y; subst e; exact hs i kv σ _ hkv p
  . have e : i = kvs.length := by omega
    subst e; exact .inl ⟨⟨q, Nat.le_refl _⟩, hd σ H p⟩
def valsAt (p d : Addr) : HO := .ext fun h => h.IsValuesView p d
inductive rVals (x : V) (vs : (List V)) (H : Hp) (Q : VK) : Prop
  | mk (d : _) (kvs : _) (z1_ : x = .ref d) (z2_ : vs = []) (z3_ : H d = some (.dK kvs)) (z4_ : ∀ p, H p = none -> Q (.ref p) (upd H p (valsAt p d))) : rVals x vs H Q
theorem mt_values : MtR X "dict.values" rVals := by
  intro pins s σ H x vs v us Q I rx rv h; obtain ⟨d, kvs, rfl, rfl, hd, q⟩ := h
  cases rx
  have hus := rv.zero; subst hus; refine hld fun g_ k_ => ?_; obtain ⟨hz, hS, ws, rel, dd⟩ := dk_of I.hok hd; refine k_ ?_; refine call_meetsIn PySem.F.slot_dict_values dd.typeIs PySem.F.entry_dict_values (PySem.F.args_dict_values_1 _) (meets_dict_values (mixKind X.prog X.w) d hS) ⟨⟨ws, dd⟩, ?_⟩; refine ⟨.ref _, upd H s.heap.objs.size (valsAt s.heap.objs.size d), I.laid (t' := s.toks) (fun _ _ q => Heap.get?_push_of_some _ q) (Nat.le_refl _) ?_, rfl, q _ I.fresh⟩; refine ⟨⟨_, Heap.get?_push_size _ rfl, rfl, rfl⟩, ⟨_, Heap.get?_push_size _ rfl⟩, fun h1 h2 hv k => ?_⟩; obtain ⟨o, e, c, f⟩ := hv; exact ⟨o, k o e, c, f⟩
inductive rMaxV (xs : (List V)) (H : Hp) (Q : VK) : Prop
  | mk (p d : Addr) (kvs : List (Key × V)) (ns : List Int) (m : Int) (z1_ : xs = [.ref p]) (z2_ : H p = some (valsAt p d)) (z3_ : H d = some (.dK kvs)) (z4_ : kvs.map (·.2) = ns.map V.int) (z5_ : m ∈ ns) (z6_ : (∀ n ∈ ns, n <= m)) (z7_ : Q (.int m) H) : rMaxV xs H Q
theorem call_maxV (hc : X.calm = true) : CallR X (.builtin "max") rMaxV := by
  intro pins s σ H xs us Q I r h; obtain ⟨p, d, kvs, ns, m, rfl, hp, hd, hns, hm, hle, q⟩ := h; obtain ⟨u, rfl, rx⟩ := vals1 r
  cases rx
  obtain ⟨hv, _, _⟩ := (show ObjOk X.prog X.w H s.heap p (valsAt p d) from I.hok p _ hp)
  refine hld fun g_ k_ => ?_; obtain ⟨hz, hS, vs, rel, dd⟩ := dk_of I.hok hd; refine k_ ?_; obtain ⟨ep, da⟩ := dd.dictAt; have hlen : vs.length = ns.length := by rw [<- rel.length, <- List.length_map (f := fun kv : Key × V => kv.2), hns, List.length_map]
  have hpos : 0 < ns.length := List.length_pos_of_mem hm; have hdl := da.lt_size
  have hval : ∀ (i : Nat) (v : Value), (∃ k, vs[i]? = some (k, v)) -> ∃ t, v = .int (ns.getD i 0) t := fun i v ⟨k, hk⟩ => by
    obtain ⟨x, hx, rx⟩ := rel.at2 hk; have e : (kvs.map (·.2))[i]? = some x := by rw [List.getElem?_map, hx]; rfl
    rw [hns, List.getElem?_map] at e
    cases hni : ns[i]? with
    | none => rw [hni] at e; cases e
    | some j =>
      rw [hni] at e; have e' : V.int j = x := Option.some.inj e; subst e'; obtain ⟨t, ht⟩ := rx; exact ⟨t, by rw [List.getD_eq_getElem?_getD, hni]; exact ht⟩
  refine call_max_walk (wpAny_pyIter_values (knd := mixKind X.prog X.w) hv da ?_); refine ⟨_, [s.heap.objs.size, d], [s.heap.objs.size], _, _, _, _, rfl, Walks.dictValues (A := X.A.in1) (I.ok.hd hc) s.heap.objs.size d (Nat.ne_of_lt hdl) vs ep, ⟨⟨_, Heap.get?_push_size _ rfl, rfl, rfl⟩, da.push _⟩, fun b hb => ?_, by omega, CmpOf.ints_gt (fun i => ns.getD i 0) hval, fun v h' tk hP hk => ?_⟩
  . show b < (s.heap.push _).objs.size
    rw [Heap.size_push]
    rcases List.mem_cons.mp hb with rfl | hb
    . exact Nat.lt_succ_self _
    . rw [List.mem_singleton.mp hb]
      exact Nat.lt_succ_of_lt hdl
  . have I1 : Inv X pins σ H { s with heap := h', toks := tk } := I.kept fun b o e => hk b o (fun z => absurd (List.mem_singleton.mp z ▸ Heap.lt_size e) (Nat.lt_irrefl _)) (Heap.get?_push_of_some _ e)
    obtain ⟨t, rfl⟩ := hval _ _ hP; refine ⟨.int m, H, I1, ⟨t, ?_⟩, q⟩; have hb := argBest_le (fun i j => decide (ns.getD i 0 > ns.getD j 0)) (vs.length - 1); have hbl : argBest (fun i j => decide (ns.getD i 0 > ns.getD j 0)) (vs.length - 1) < ns.length := by omega
    have e : ns.getD (argBest (fun i j => decide (ns.getD i 0 > ns.getD j 0)) (vs.length - 1)) 0 = m := by
      refine Int.le_antisymm ?_ ?_
      . refine hle _ ?_
        rw [List.getD_eq_getElem?_getD, List.getElem?_eq_getElem hbl]; exact List.getElem_mem _
      . obtain ⟨j, hj⟩ := List.mem_iff_getElem?.mp hm
        obtain ⟨hjl, e⟩ := List.getElem?_eq_some_iff.mp hj; have := argBest_max (fun i => ns.getD i 0) (vs.length - 1) j (by omega)
        rw [List.getD_eq_getElem?_getD, hj] at this; exact this
    rw [e]
end
end L2
namespace KM
section
variable {n : Nat} {ls ls' : Ln}
noncomputable def ecc (n : Nat) (ls : Ln) (v : Nat) : Nat := Classical.epsilon fun e => Ecc n ls v e
theorem ecc_of {ab : Ab} {v e : Nat} (R : RootedAt n ls v ab) (h1 : ∀ k d, k < n -> Dep ab k d -> d <= e) (h2 : ∃ k, k < n /\ Dep ab k e) : Ecc n ls v e where
  most := fun ab' k d R' hk hd => by rw [R.uniq R'] at hd; exact h1 k d hk hd
  there := fun ab' R' => by rw [R.uniq R']; exact h2
theorem ecc_ex (F : IsFree n ls) {v : Nat} (hv : v < n) : ∃ e, Ecc n ls v e := by
  have R := at_spec F hv; obtain ⟨hl, ⟨rk, T⟩, _⟩ := id R
  have hd : ∀ k, k < n -> ∃ d, Dep (At n ls v) k d := fun k hk => by
    obtain ⟨d, h, _⟩ := T.dep (rk k) k (Nat.le_refl _) (by omega)
    exact ⟨d, h⟩
  have go : ∀ m, m <= n -> 0 < m -> ∃ e, (∀ k d, k < m -> Dep (At n ls v) k d -> d <= e) /\ ∃ k, k < m /\ Dep (At n ls v) k e := by
    intro m
    induction m with
    | zero => intro _ h; omega
    | succ m ih =>
      intro hm _; obtain ⟨d, hdm⟩ := hd m (by omega)
      by_cases hz : 0 < m
      . obtain ⟨e, h1, k, hk, h2⟩ := ih (by omega) hz
        by_cases c : d <= e
        . refine ⟨e, fun k' d' hk' h' => ?_, k, by omega, h2⟩
          by_cases q : k' = m
          . subst q
            rw [h'.det hdm]; exact c
          . exact h1 k' d' (by omega) h'
        . refine ⟨d, fun k' d' hk' h' => ?_, m, by omega, hdm⟩
          by_cases q : k' = m
          . subst q
            rw [h'.det hdm]; exact Nat.le_refl _
          . have := h1 k' d' (by omega) h'
            omega
      . refine ⟨d, fun k' d' hk' h' => ?_, m, by omega, hdm⟩
        have q : k' = m := by omega
        subst q; rw [h'.det hdm]; exact Nat.le_refl _
  obtain ⟨e, h1, h2⟩ := go n (Nat.le_refl _) (by omega)
  exact ⟨e, ecc_of R h1 h2⟩
theorem ecc_spec (F : IsFree n ls) {v : Nat} (hv : v < n) : Ecc n ls v (ecc n ls v) := Classical.epsilon_spec (ecc_ex F hv)
theorem ecc_eq (F : IsFree n ls) {v e : Nat} (hv : v < n) (h : Ecc n ls v e) : ecc n ls v = e := Ecc.det F hv (ecc_spec F hv) h
noncomputable def mids (n : Nat) (ls : Ln) : List Nat := (List.range n).filter fun v => (List.range n).all fun w => decide (ecc n ls v <= ecc n ls w)
theorem mem_mids {v : Nat} : v ∈ mids n ls ↔ v < n /\ ∀ w, w < n -> ecc n ls v <= ecc n ls w := by
  unfold mids
  rw [List.mem_filter, List.mem_range, List.all_eq_true]
  constructor
  . rintro ⟨h1, h2⟩
    exact ⟨h1, fun w hw => of_decide_eq_true (h2 w (List.mem_range.mpr hw))⟩
  . rintro ⟨h1, h2⟩
    exact ⟨h1, fun w hw => decide_eq_true (h2 w (List.mem_range.mp hw))⟩
theorem mids_nodup : (mids n ls).Nodup := List.nodup_range.filter _
theorem mids_lt {v : Nat} (h : v ∈ mids n ls) : v < n := (mem_mids.mp h).1
theorem mids_len : (mids n ls).length <= n := by
  unfold mids
  refine Nat.le_trans (List.length_filter_le _ _) ?_; rw [List.length_range]; exact Nat.le_refl _
theorem min_ex (f : Nat -> Nat) : ∀ m, 0 < m -> ∃ v, v < m /\ ∀ w, w < m -> f v <= f w
  | 0, h => by omega
  | m + 1, _ => by
    by_cases hz : 0 < m
    . obtain ⟨v, hv, h⟩ := min_ex f m hz
      by_cases c : f v <= f m
      . refine ⟨v, by omega, fun w hw => ?_⟩
        by_cases q : w = m
        . rw [q]; exact c
        . exact h w (by omega)
      . refine ⟨m, by omega, fun w hw => ?_⟩
        by_cases q : w = m
        . rw [q]; exact Nat.le_refl _
        . have := h w (by omega); omega
    . refine ⟨m, by omega, fun w hw => ?_⟩
      rw [show w = m by omega]
      exact Nat.le_refl _
theorem mids_ne (hn : 0 < n) : mids n ls ≠ [] := fun z => by
  obtain ⟨v, hv, h⟩ := min_ex (ecc n ls) n hn; have : v ∈ mids n ls := mem_mids.mpr ⟨hv, h⟩; rw [z] at this
  cases this
theorem mids_joined (F : IsFree n ls) {u v : Nat} (hu : u ∈ mids n ls) (hv : v ∈ mids n ls) (hne : u ≠ v) : v ∈ near ls u := by
  obtain ⟨h1, h2⟩ := mem_mids.mp hu; obtain ⟨h3, h4⟩ := mem_mids.mp hv; have e : ecc n ls v = ecc n ls u := Nat.le_antisymm (h4 u h1) (h2 v h3); have ev := ecc_spec F h3; rw [e] at ev; refine middles_joined F h1 h3 hne (ecc_spec F h1) ev fun w e' hw he => ?_; rw [<- ecc_eq F hw he]; exact h2 w hw
theorem mids_cases (F : IsFree n ls) (hn : 0 < n) : (∃ m, mids n ls = [m]) \/ ∃ a b, mids n ls = [a, b] /\ a ≠ b /\ b ∈ near ls a := by
  have hne := mids_ne (ls := ls) hn; have nd := mids_nodup (n := n) (ls := ls); have hj : ∀ {u v}, u ∈ mids n ls -> v ∈ mids n ls -> u ≠ v -> v ∈ near ls u := fun hu hv h => mids_joined F hu hv h; have hlt : ∀ v ∈ mids n ls, v < n := fun v hv => mids_lt hv; generalize mids n ls = l at hne nd hj hlt
  match l, hne, nd with
  | [m], _, _ => exact .inl ⟨m, rfl⟩
  | [a, b], _, nd =>
    have hab : a ≠ b := fun z => by rw [z] at nd; simp at nd
    exact .inr ⟨a, b, rfl, hab, hj (by simp) (by simp) hab⟩
  | a :: b :: c :: t, _, nd =>
    exfalso
    have hab : a ≠ b := fun z => by rw [z] at nd; simp at nd
    have hac : a ≠ c := fun z => by rw [z] at nd; simp at nd
    have hbc : b ≠ c := fun z => by rw [z] at nd; simp at nd
    have h1 := hj (u := a) (v := b) (by simp) (by simp) hab
    have h2 := hj (u := a) (v := c) (by simp) (by simp) hac
    have h3 := hj (u := b) (v := c) (by simp) (by simp) hbc
    have ha := hlt a (by simp)
    have R := at_spec F ha; have k1 := R.kid h1 ha; have k2 := R.kid h2 ha; obtain ⟨hl, ⟨rk, T⟩, fo⟩ := id R; have hb := hlt b (by simp)
    rcases (fo.joined (show b < (At n ls a).length by omega) c).mp h3 with z | z
    . rw [k2] at z
      exact hab (Option.some.inj (Option.some.inj z))
    . rw [k1] at z
      exact hac (Option.some.inj (Option.some.inj z))
def dash (ts : List Tx) : Tx := match srt ts with
  | [s, t] => s ++ 45 :: t
  | _ => []
noncomputable def ff (n : Nat) (ls : Ln) : Tx := match mids n ls with
  | [a, b] => dash [br n ls b a, br n ls a b]
  | m :: _ => rf n ls m
  | [] => []
theorem ff_one {m : Nat} (h : mids n ls = [m]) : ff n ls = rf n ls m := by unfold ff; rw [h]
theorem ff_two {a b : Nat} (h : mids n ls = [a, b]) : ff n ls = dash [br n ls b a, br n ls a b] := by unfold ff; rw [h]
end
end KM
namespace KM
theorem dep_fn {ab : Ab} {r : Nat} {rk : Nat -> Nat} (T : Tree ab r rk) : ∃ dp : Nat -> Nat, ∀ k, k < ab.length -> Dep ab k (dp k) :=
  ⟨fun k => if h : k < ab.length then Classical.choose (T.dep (rk k) k (Nat.le_refl _) h) else 0, fun k hk => by
    show Dep ab k (dite _ _ _)
    rw [dif_pos hk]; exact (Classical.choose_spec (T.dep (rk k) k (Nat.le_refl _) hk)).1⟩
theorem exists_most : ∀ (l : List Nat), l ≠ [] -> ∃ m, m ∈ l /\ ∀ x ∈ l, x <= m
  | [], h => absurd rfl h
  | [a], _ => ⟨a, List.mem_singleton.mpr rfl, fun x hx => by rw [List.mem_singleton.mp hx]; exact Nat.le_refl _⟩
  | a :: b :: t, _ => by
    obtain ⟨m, hm, hle⟩ := exists_most (b :: t) (by simp)
    by_cases c : a <= m
    . refine ⟨m, List.mem_cons_of_mem _ hm, fun x hx => ?_⟩
      rcases List.mem_cons.mp hx with rfl | hx
      . exact c
      . exact hle x hx
    . refine ⟨a, List.mem_cons_self, fun x hx => ?_⟩
      rcases List.mem_cons.mp hx with rfl | hx
      . exact Nat.le_refl _
      . have := hle x hx; omega
noncomputable def eccs (n : Nat) (ls : Ln) : List Nat := (List.range n).map (ecc n ls)
theorem eccs_len (n : Nat) (ls : Ln) : (eccs n ls).length = n := by unfold eccs; rw [List.length_map, List.length_range]
theorem eccs_get {n i : Nat} {ls : Ln} (h : i < n) : (eccs n ls)[i]? = some (ecc n ls i) := by unfold eccs; rw [List.getElem?_map, List.getElem?_range h]; rfl
theorem mem_eccs {n x : Nat} {ls : Ln} : x ∈ eccs n ls ↔ ∃ v, v < n /\ ecc n ls v = x := by
  unfold eccs
  rw [List.mem_map]
  constructor
  . rintro ⟨v, hv, e⟩; exact ⟨v, List.mem_range.mp hv, e⟩
  . rintro ⟨v, hv, e⟩; exact ⟨v, List.mem_range.mpr hv, e⟩
noncomputable def midTo (n : Nat) (ls : Ln) (m i : Nat) : List Nat := (List.range i).filter fun v => decide (ecc n ls v = m)
theorem midTo_hit {n m i : Nat} {ls : Ln} (h : ecc n ls i = m) : midTo n ls m (i + 1) = midTo n ls m i ++ [i] := by
  unfold midTo
  rw [List.range_succ, List.filter_append]
  congr 1
  exact List.filter_cons_of_pos (p := fun v => decide (ecc n ls v = m)) (decide_eq_true h)
theorem midTo_miss {n m i : Nat} {ls : Ln} (h : ecc n ls i ≠ m) : midTo n ls m (i + 1) = midTo n ls m i := by
  unfold midTo
  rw [List.range_succ, List.filter_append]; have e : [i].filter (fun v => decide (ecc n ls v = m)) = [] := List.filter_cons_of_neg (p := fun v => decide (ecc n ls v = m)) (by rw [decide_eq_false h]; exact Bool.false_ne_true)
  rw [e, List.append_nil]
theorem midTo_len (n m i : Nat) (ls : Ln) : (midTo n ls m i).length <= i := by
  unfold midTo
  refine Nat.le_trans (List.length_filter_le _ _) ?_; rw [List.length_range]; exact Nat.le_refl _
theorem midTo_all {n m : Nat} {ls : Ln} (h1 : m ∈ eccs n ls) (h2 : ∀ x ∈ eccs n ls, m <= x) : midTo n ls m n = mids n ls := by
  unfold midTo mids
  refine List.filter_congr fun v hv => ?_; have hv := List.mem_range.mp hv; rw [Bool.eq_iff_iff, decide_eq_true_iff, List.all_eq_true]; obtain ⟨u, hu, e⟩ := mem_eccs.mp h1
  constructor
  . intro h w hw
    refine decide_eq_true ?_; rw [h]; exact h2 _ (mem_eccs.mpr ⟨w, List.mem_range.mp hw, rfl⟩)
  . intro h
    have h3 := of_decide_eq_true (h u (List.mem_range.mpr hu)); have h4 := h2 _ (mem_eccs.mpr ⟨v, hv, rfl⟩)
    omega
theorem least_ecc {n : Nat} (ls : Ln) (hn : 0 < n) : ∃ m, m ∈ eccs n ls /\ ∀ x ∈ eccs n ls, m <= x := by
  obtain ⟨v, hv, h⟩ := min_ex (ecc n ls) n hn; refine ⟨_, mem_eccs.mpr ⟨v, hv, rfl⟩, fun x hx => ?_⟩; obtain ⟨w, hw, rfl⟩ := mem_eccs.mp hx; exact h w hw
end KM
namespace KM
theorem br_len {n : Nat} {ls : Ln} (F : IsFree n ls) {a b : Nat} (h : b ∈ near ls a) : (br n ls a b).length <= 2 * n * n := by
  obtain ⟨hb, ha⟩ := F.near_lt h; have R := at_spec F ha; have hk := R.kid h ha; obtain ⟨hl, _, _⟩ := id R; have h1 := fm_kids_len (At n ls a) a; rw [hl] at h1; refine Nat.le_trans (mem_le_sum (List.mem_map.mpr ⟨b, mem_kids.mpr hk, rfl⟩)) h1
end KM
namespace KM
end KM
namespace L2
open PySem PySem.Spec PyProof.Rows
theorem comp_enumF {K : PySem.W.Frag} {a : Addr} {xs : List V} {js : List (Option Nat)} {g : TG} {ti : TT} {te : TE} {σ : St} {H1 : Hp} {Q : VK} (Pv : Addr -> Nat -> List V -> St -> Hp -> Prop)
    (h0 : ∀ D, H1 D = none -> Pv D 0 [] (outSt js σ) (upd H1 D (.lst []))) (hl : ∀ D i ys τ H, i <= xs.length -> Pv D i ys τ H -> SqL K H a xs)
    (hs : ∀ D (i : Nat) x p ys τ H, xs[i]? = some x -> Pv D i ys τ H -> H p = none -> g (.ref p) τ (upd H p (.tup [.int i, x])) fun τ2 H2 => ti τ2 H2 fun b H3 =>
      if b = true then te τ2 H3 fun y H4 => H4 D = some (.lst ys) /\ ys.length < sizeLine /\ Nx xs.length i (Pv D (i + 1) (ys ++ [y]) τ2 (upd H4 D (.lst (ys ++ [y]))))
      else Nx xs.length i (Pv D (i + 1) ys τ2 H3))
    (hd : ∀ D ys τ H, Pv D xs.length ys τ H -> Q (.ref D) H) : CompW (Ite K a) js g ti te σ H1 Q := by
  intro D hD; refine ⟨fun i m ys τ H => m = xs.length - i /\ i <= xs.length /\ Pv D i ys τ H, ⟨xs.length, by simp, Nat.zero_le _, h0 D hD⟩, ?_⟩
  rintro i m ys τ H ⟨rfl, hi, p⟩
  have q := hl D i ys τ H hi p
  by_cases hlt : i < xs.length
  . refine .inr ⟨⟨xs, xs[i], q, by simp [hlt]⟩, fun x H' y => ?_⟩
    refine hld fun g_ k_ => ?_; obtain ⟨pp, z, rfl, hp, rfl, hz⟩ := y; refine k_ ?_; exact hs D i z pp ys τ _ (hz xs q) p hp
  . have e : i = xs.length := by omega
    subst e; exact .inl ⟨⟨xs, q, Nat.le_refl _⟩, hd D ys τ H p⟩
end L2
namespace KD
open PySem L2 KM PyProof.Rows
theorem dashS : (Str.ofString "-") = mkS [45] := by decide +kernel
theorem join_dash (s t : Tx) : Txt.join (Str.ofString "-") [mkS s, mkS t] = mkS (s ++ 45 :: t) := by
  show Builtin.Str.glued _ _ = _
  rw [StrLaws.glued_eq_join, dashS]
  show mkS s ++ mkS [45] ++ mkS t = _
  rw [mkS_app, mkS_app, List.append_assoc]
  rfl
theorem srt_two (s t : Tx) : ∃ a b, srt [s, t] = [a, b] /\ a.length + b.length = s.length + t.length := by
  have hp := srt_perm [s, t]; have hl := hp.length_eq; have hs := (hp.map (·.length)).sum_nat
  match srt [s, t], hl, hs with
  | [a, b], _, hs => exact ⟨a, b, rfl, by simpa using hs⟩
theorem dash_two {s t a b : Tx} (h : srt [s, t] = [a, b]) : dash [s, t] = a ++ 45 :: b := by unfold dash; rw [h]
theorem kvW_put {ord : List Nat} {pa : Nat -> Option Nat} {c : Nat} (h : c ∉ ord) : putK (kvW ord pa) (.inl (c : Int)) (vO (pa c)) = kvW (ord ++ [c]) pa := by
  rw [putK_new _ (kvW_none.mpr h)]
  unfold kvW
  rw [List.map_append]
  rfl
theorem kvW_vals (ord : List Nat) (dp : Nat -> Nat) : (kvW ord fun k => some (dp k)).map (·.2) = ((ord.map dp).map fun n : Nat => (n : Int)).map V.int := by
  unfold kvW
  rw [List.map_map, List.map_map, List.map_map]
  rfl
theorem vN_int (l : List Nat) : l.map vN = (l.map fun n : Nat => (n : Int)).map V.int := by rw [List.map_map]; rfl
theorem not_mem_take {α : Type} {l : List α} {i : Nat} {x : α} (nd : l.Nodup) (h : l[i]? = some x) : x ∉ l.take i := fun z => by
  obtain ⟨j, hj⟩ := List.mem_iff_getElem?.mp z; rw [List.getElem?_take] at hj
  split at hj
  . rename_i hji
    have hjl := (List.getElem?_eq_some_iff.mp hj).1; have := (List.getElem?_inj hjl nd).mp (hj.trans h.symm)
    omega
  . cases hj
theorem mem_take_of {α : Type} {l : List α} {i j : Nat} {x : α} (h : l[j]? = some x) (hj : j < i) : x ∈ l.take i := by
  refine List.mem_iff_getElem?.mpr ⟨j, ?_⟩; rw [List.getElem?_take, if_pos hj]; exact h
inductive spFarness (C : Addr) (vs : (List V)) (H : Hp) (Q : VK) (E : XK) : Prop
  | mk (b : Addr) (bs : List Addr) (n v : Nat) (ls : Ln) (z1_ : vs = [.ref b, vN v]) (z2_ : BesideAt H b bs n ls) (z3_ : v < n) (z4_ : n <= 100) (z5_ : ls.length + 1 = n) (z6_ : (∀ p ∈ ls, p.1 < n /\ p.2 < n)) (z7_ : (IsFree n ls -> ∀ H', Same H H' -> Q (vN (ecc n ls v)) H')) (z8_ : (¬ IsFree n ls -> ∀ H', Same H H' -> E (.ref C) none H')) : spFarness C vs H Q E
inductive spMiddles (C : Addr) (vs : (List V)) (H : Hp) (Q : VK) (E : XK) : Prop
  | mk (t L : Addr) (ps : List Addr) (c : Int) (li : LI) (z1_ : vs = [.ref t]) (z2_ : TreeAt H t L ps c li) (z3_ : li.length <= 60) (z4_ : (FreeL c li -> ∀ (p : Addr) (H' : Hp), Same H H' -> H p = none -> H' p = some (.lst ((mids (li.length + 1) (ofL li)).map vN)) -> Q (.ref p) H')) (z5_ : (¬ FreeL c li -> ∀ H', Same H H' -> E (.ref C) none H')) : spMiddles C vs H Q E
inductive spFreeForm (C : Addr) (vs : (List V)) (H : Hp) (Q : VK) (E : XK) : Prop
  | mk (t L : Addr) (ps : List Addr) (c : Int) (li : LI) (z1_ : vs = [.ref t]) (z2_ : TreeAt H t L ps c li) (z3_ : li.length <= 60) (z4_ : (FreeL c li -> ∀ (H' : Hp), Same H H' -> Q (vT (ff (li.length + 1) (ofL li))) H')) (z5_ : (¬ FreeL c li -> ∀ H', Same H H' -> E (.ref C) none H')) : spFreeForm C vs H Q E
theorem inV_vN (p : Nat) (l : List Nat) : inV (vN p) (l.map vN) = decide (p ∈ l) := by
  unfold inV
  rw [Bool.eq_iff_iff, List.any_eq_true, decide_eq_true_iff]
  constructor
  . rintro ⟨y, hy, e⟩
    obtain ⟨j, hj, rfl⟩ := List.mem_map.mp hy; have e' : ((j : Int) == (p : Int)) = true := e; have : (j : Int) = (p : Int) := by simpa using e'
    rw [show p = j by omega]
    exact hj
  . intro h
    exact ⟨vN p, List.mem_map_of_mem h, eqV_self rfl⟩
end KD
namespace KM
theorem form_signs (ab : Ab) : ∀ (f k c : Nat), c ∈ form ab f k -> c = 40 \/ c = 41
  | 0, k, c, h => by
    have e : form ab 0 k = [] := rfl; rw [e] at h
    cases h
  | f + 1, k, c, h => by
    have h' : c ∈ brk (srt ((kids ab k).map (form ab f))).flatten := h
    unfold brk at h'
    rcases List.mem_cons.mp h' with z | z
    . exact .inl z
    rcases List.mem_append.mp z with z | z
    . obtain ⟨l, hl, hc⟩ := List.mem_flatten.mp z
      obtain ⟨j, hj, rfl⟩ := List.mem_map.mp ((srt_perm _).mem_iff.mp hl); exact form_signs ab f j c hc
    . exact .inr (List.mem_singleton.mp z)
theorem fm_dash (ab : Ab) (k : Nat) : 45 ∉ fm ab k := fun h => by
  rcases form_signs ab _ k 45 h with z | z <;> omega
theorem rf_dash (n : Nat) (ls : Ln) (k : Nat) : 45 ∉ rf n ls k := fm_dash _ _
theorem br_dash (n : Nat) (ls : Ln) (b k : Nat) : 45 ∉ br n ls b k := fm_dash _ _
theorem cut_dash : ∀ {x x' y y' : Tx}, 45 ∉ x -> 45 ∉ x' -> x ++ 45 :: y = x' ++ 45 :: y' -> x = x' /\ y = y'
  | [], [], y, y', _, _, h => ⟨rfl, (List.cons.inj h).2⟩
  | [], a :: x', y, y', _, h2, h => by
    have := (List.cons.inj h).1; exact absurd (by rw [<- this]; exact List.mem_cons_self) h2
  | a :: x, [], y, y', h1, _, h => by
    have := (List.cons.inj h).1; exact absurd (by rw [this]; exact List.mem_cons_self) h1
  | a :: x, b :: x', y, y', h1, h2, h => by
    obtain ⟨e1, e2⟩ := List.cons.inj h; obtain ⟨e3, e4⟩ := cut_dash (fun z => h1 (List.mem_cons_of_mem _ z)) (fun z => h2 (List.mem_cons_of_mem _ z)) e2; exact ⟨by rw [e1, e3], e4⟩
theorem srt_2 (s t : Tx) : ∃ x y, srt [s, t] = [x, y] := by
  have hl := (srt_perm [s, t]).length_eq
  match srt [s, t], hl with
  | [x, y], _ => exact ⟨x, y, rfl⟩
theorem dash_inj {s t s' t' : Tx} (h1 : 45 ∉ s) (h2 : 45 ∉ t) (h3 : 45 ∉ s') (h4 : 45 ∉ t') (h : dash [s, t] = dash [s', t']) : [s, t].Perm [s', t'] := by
  obtain ⟨x, y, e⟩ := srt_2 s t; obtain ⟨x', y', e'⟩ := srt_2 s' t'; have p := srt_perm [s, t]; have p' := srt_perm [s', t']
  unfold dash at h
  rw [e, e'] at h; rw [e] at p; rw [e'] at p'; have hx : x ∈ [s, t] := p.mem_iff.mp (by simp)
  have hx' : x' ∈ [s', t'] := p'.mem_iff.mp (by simp)
  have nx : 45 ∉ x := by
    rcases List.mem_cons.mp hx with rfl | hx
    . exact h1
    . rw [List.mem_singleton.mp hx]; exact h2
  have nx' : 45 ∉ x' := by
    rcases List.mem_cons.mp hx' with rfl | hx'
    . exact h3
    . rw [List.mem_singleton.mp hx']; exact h4
  obtain ⟨e1, e2⟩ := cut_dash nx nx' h; subst e1 e2; exact p.symm.trans p'
theorem dash_has (s t : Tx) : 45 ∈ dash [s, t] := by
  obtain ⟨x, y, e⟩ := srt_2 s t
  unfold dash
  rw [e]; exact List.mem_append.mpr (.inr List.mem_cons_self)
section
variable {n n' : Nat} {ls ls' : Ln}
theorem rf_of2 (F : IsFree n ls) (F' : IsFree n' ls') {k j k' j' : Nat} (h : j ∈ near ls k) (h' : j' ∈ near ls' k') (e1 : br n ls k j = br n' ls' k' j') (e2 : br n ls j k = br n' ls' j' k') : rf n ls k = rf n' ls' k' := by
  obtain ⟨hj, hk⟩ := F.near_lt h; obtain ⟨hj', hk'⟩ := F'.near_lt h'; have p1 := List.perm_cons_erase h; have p2 := List.perm_cons_erase h'; rw [rf_eq F hk, rf_eq F' hk']; rw [br_eq F (near_symm h) p1, br_eq F' (near_symm h') p2] at e2
  have wh : ∀ {n : Nat} {ls : Ln} (F : IsFree n ls) (k : Nat) (l : List Nat), (∀ c ∈ l, c ∈ near ls k) -> ∀ p ∈ l.map (br n ls k), Whole p := fun F k l hl p hp => by
    obtain ⟨c, hc, rfl⟩ := List.mem_map.mp hp; exact br_whole F (hl c hc)
  have pp := parts_same (wh F k _ fun c hc => List.mem_of_mem_erase hc) (wh F' k' _ fun c hc => List.mem_of_mem_erase hc) e2
  congr 2
  refine srt_congr ((p1.map _).trans (List.Perm.trans ?_ (p2.map _).symm)); rw [List.map_cons, List.map_cons, e1]; exact (List.perm_cons _).mpr pp
def LeastMid (n : Nat) (ls : Ln) (m : Nat) : Prop := m ∈ mids n ls /\ ∀ j ∈ mids n ls, ¬ rf n ls j < rf n ls m
theorem least_pair {x y x' y' m m' : Tx} (hm : m = x \/ m = y) (hm' : m' = x' \/ m' = y') (h1 : ¬ x < m) (h2 : ¬ y < m) (h3 : ¬ x' < m') (h4 : ¬ y' < m') (h : (x = x' /\ y = y') \/ (x = y' /\ y = x')) : m = m' := by
  have key : ¬ m' < m -> ¬ m < m' -> m = m' := fun a b => List.le_antisymm a b
  rcases h with ⟨rfl, rfl⟩ | ⟨rfl, rfl⟩
  . refine key (fun z => ?_) (fun z => ?_)
    . rcases hm' with rfl | rfl
      . exact h1 z
      . exact h2 z
    . rcases hm with rfl | rfl
      . exact h3 z
      . exact h4 z
  . refine key (fun z => ?_) (fun z => ?_)
    . rcases hm' with rfl | rfl
      . exact h2 z
      . exact h1 z
    . rcases hm with rfl | rfl
      . exact h4 z
      . exact h3 z
theorem ff_mid (F : IsFree n ls) (F' : IsFree n' ls') (hn : 0 < n) (hn' : 0 < n') (e : ff n ls = ff n' ls') {m m' : Nat} (hm : LeastMid n ls m) (hm' : LeastMid n' ls' m') : rf n ls m = rf n' ls' m' := by
  obtain ⟨m1, m2⟩ := hm; obtain ⟨m1', m2'⟩ := hm'
  rcases mids_cases F hn with ⟨a, ea⟩ | ⟨a, b, ea, hab, hj⟩
  . rcases mids_cases F' hn' with ⟨a', ea'⟩ | ⟨a', b', ea', hab', hj'⟩
    . rw [ea] at m1
      rw [ea'] at m1'; rw [ff_one ea, ff_one ea'] at e; rw [List.mem_singleton.mp m1, List.mem_singleton.mp m1']; exact e
    . rw [ff_one ea, ff_two ea'] at e
      exact absurd (by rw [e]; exact dash_has _ _) (rf_dash n ls a)
  . rcases mids_cases F' hn' with ⟨a', ea'⟩ | ⟨a', b', ea', hab', hj'⟩
    . rw [ff_two ea, ff_one ea'] at e
      exact absurd (by rw [<- e]; exact dash_has _ _) (rf_dash n' ls' a')
    . rw [ff_two ea, ff_two ea'] at e
      have p := dash_inj (br_dash _ _ _ _) (br_dash _ _ _ _) (br_dash _ _ _ _) (br_dash _ _ _ _) e
      have hx : (br n ls b a = br n' ls' b' a' /\ br n ls a b = br n' ls' a' b') \/ (br n ls b a = br n' ls' a' b' /\ br n ls a b = br n' ls' b' a') := by
        have h1 : br n ls b a ∈ [br n' ls' b' a', br n' ls' a' b'] := p.mem_iff.mp (by simp)
        rcases List.mem_cons.mp h1 with z | z
        . rw [z] at p
          have := (List.perm_cons _).mp p; exact .inl ⟨z, by simpa using this⟩
        . have z := List.mem_singleton.mp z
          rw [z] at p; have := (List.perm_cons _).mp (p.trans (List.Perm.swap _ _ _)); exact .inr ⟨z, by simpa using this⟩
      rw [ea] at m1 m2; rw [ea'] at m1' m2'
      have hm1 : rf n ls m = rf n ls a \/ rf n ls m = rf n ls b := by
        rcases List.mem_cons.mp m1 with z | z
        . exact .inl (by rw [z])
        . exact .inr (by rw [List.mem_singleton.mp z])
      have hm1' : rf n' ls' m' = rf n' ls' a' \/ rf n' ls' m' = rf n' ls' b' := by
        rcases List.mem_cons.mp m1' with z | z
        . exact .inl (by rw [z])
        . exact .inr (by rw [List.mem_singleton.mp z])
      refine least_pair hm1 hm1' (m2 a (by simp)) (m2 b (by simp)) (m2' a' (by simp)) (m2' b' (by simp)) ?_
      rcases hx with ⟨z1, z2⟩ | ⟨z1, z2⟩
      . exact .inl ⟨rf_of2 F F' hj hj' z2 z1, rf_of2 F F' (near_symm hj) (near_symm hj') z1 z2⟩
      . exact .inr ⟨rf_of2 F F' hj (near_symm hj') z2 z1, rf_of2 F F' (near_symm hj) hj' z1 z2⟩
theorem joins_of (F : IsFree n ls) (F' : IsFree n' ls') {m m' : Nat} (hm : m < n) (hm' : m' < n') {mt : List Nat} (R : Renum (At n ls m) (At n' ls' m') mt) : n' = n /\ mt.Perm (List.range n) /\ Joins ls ls' mt := by
  obtain ⟨hl, ⟨rk, T⟩, _⟩ := at_spec F hm; obtain ⟨hl', ⟨rk', T'⟩, _⟩ := at_spec F' hm'; have hnn : n' = n := by rw [<- hl, <- hl', R.len]
  subst hnn; have hp : mt.Perm (List.range n') := by rw [<- hl]; exact R.perm
  refine ⟨rfl, hp, (joins_iff F F' hp hm).mpr ?_⟩; rw [R.root2 T T']; exact R
end
end KM
namespace KD
open PySem L2 KM PyProof.Rows
theorem TreeAt.upT {H H' : Hp} {T : Addr} {lp : Pos} {lq : Str} {t L : Addr} {ps : List Addr} {c : Int} {li : LI} (G : TreeAt H t L ps c li) (tb : Tab T lp lq H) (s : SameT T H H') : TreeAt H' t L ps c li :=
  ⟨s _ _ (tb.ne G.tup (fun _ z => nomatch z)) G.tup, ⟨s _ _ (tb.ne G.ls.top (fun _ z => nomatch z)) G.ls.top, G.ls.len, fun j a ys h1 h2 => s _ _ (tb.ne (G.ls.each j a ys h1 h2) (fun _ z => nomatch z)) (G.ls.each j a ys h1 h2), G.ls.flat⟩⟩
inductive spMidRoot (vs : (List V)) (H : Hp) (Q : VK) (e_ : XK) : Prop
  | mk (t L : Addr) (ps : List Addr) (c : Int) (li : LI) (z1_ : vs = [.ref t]) (z2_ : TreeAt H t L ps c li) (z3_ : li.length <= 60) (z4_ : FreeL c li) (z5_ : ∀ (p : Addr) (m : Nat) (H' : Hp), Same H H' -> LeastMid (li.length + 1) (ofL li) m -> H' p = some (.lst ((At (li.length + 1) (ofL li) m).map vO)) -> Q (.ref p) H') : spMidRoot vs H Q e_
inductive spFMatched (C T : Addr) (lp : Pos) (lq : Str) (vs : (List V)) (H : Hp) (Q : VK) (E : XK) : Prop
  | mk (t L t' L' : Addr) (ps ps' : List Addr) (c c' : Int) (li li' : LI) (z1_ : vs = [.ref t, .ref t']) (z2_ : TreeAt H t L ps c li) (z3_ : TreeAt H t' L' ps' c' li') (z4_ : li.length <= 60) (z5_ : li'.length <= 60) (z6_ : Tab T lp lq H) (z7_ : (FreeL c li -> FreeL c' li' -> (ff (li.length + 1) (ofL li) ≠ ff (li'.length + 1) (ofL li') -> ∀ (p : Addr) (H' : Hp), SameT T H H' -> Tab T lp lq H' -> H' p = some (.tup [.str (Str.ofString "unlike"), vT (ff (li.length + 1) (ofL li)), vT (ff (li'.length + 1) (ofL li'))]) -> Q (.ref p) H') /\ (ff (li.length + 1) (ofL li) = ff (li'.length + 1) (ofL li') -> ∀ (p l : Addr) (mt : List Nat) (H' : Hp), SameT T H H' -> Tab T lp lq H' -> H' p = some (.tup [.str (Str.ofString "alike"), .ref l]) -> H' l = some (.lst (mt.map vN)) -> li'.length + 1 = li.length + 1 /\ mt.Perm (List.range (li.length + 1)) /\ Joins (ofL li) (ofL li') mt -> Q (.ref p) H'))) (z8_ : (¬ (FreeL c li /\ FreeL c' li') -> ∀ H', Same H H' -> E (.ref C) none H')) : spFMatched C T lp lq vs H Q E
end KD
namespace KM
structure FW (ls : Ln) (n : Nat) (fd : List Nat) : Prop where
  nd : fd.Nodup
  lt : ∀ x ∈ fd, x < n
  head : ∃ t, fd = 0 :: t
  up : ∀ (j c : Nat), 0 < j -> fd[j]? = some c -> ∃ (i k : Nat), i < j /\ fd[i]? = some k /\ c ∈ near ls k
def Shut (ls : Ln) (fd : List Nat) : Prop := ∀ p ∈ ls, p.1 ∈ fd ↔ p.2 ∈ fd
section
variable {ls : Ln} {n : Nat} {fd : List Nat}
theorem fw0 (hn : 0 < n) : FW ls n [0] where
  nd := by simp
  lt := fun x hx => by rw [List.mem_singleton.mp hx]; exact hn
  head := ⟨[], rfl⟩
  up := fun j c hj h => by
    have := (List.getElem?_eq_some_iff.mp h).1; rw [List.length_singleton] at this
    omega
theorem FW.len (W : FW ls n fd) : fd.length <= n := by
  have h := W.nd.length_le_of_subset (l₂ := List.range n) fun x hx => List.mem_range.mpr (W.lt x hx)
  rwa [List.length_range] at h
theorem FW.add (W : FW ls n fd) {k c : Nat} (hk : k ∈ fd) (hc : c ∈ near ls k) (hn : c ∉ fd) (hcl : c < n) : FW ls n (fd ++ [c]) where
  nd := by
    rw [List.nodup_append]; exact ⟨W.nd, by simp, fun x hx y hy e => hn (by rw [<- List.mem_singleton.mp hy, <- e]; exact hx)⟩
  lt := fun x hx => by
    rcases List.mem_append.mp hx with h | h
    . exact W.lt x h
    . rw [List.mem_singleton.mp h]; exact hcl
  head := by
    obtain ⟨t, e⟩ := W.head; exact ⟨t ++ [c], by rw [e]; rfl⟩
  up := fun j d hj h => by
    by_cases hjl : j < fd.length
    . rw [List.getElem?_append_left hjl] at h
      obtain ⟨i, k', h1, h2, h3⟩ := W.up j d hj h; exact ⟨i, k', h1, by rw [List.getElem?_append_left (by omega)]; exact h2, h3⟩
    . rw [List.getElem?_append_right (by omega)] at h
      have hd : d = c := by
        have h0 := (List.getElem?_eq_some_iff.mp h).1; rw [List.length_singleton] at h0; rw [show j - fd.length = 0 by omega] at h
        exact (Option.some.inj h).symm
      subst hd; obtain ⟨i, hi⟩ := List.mem_iff_getElem?.mp hk; have hil := (List.getElem?_eq_some_iff.mp hi).1; exact ⟨i, k, by omega, by rw [List.getElem?_append_left hil]; exact hi, hc⟩
theorem Shut.near (S : Shut ls fd) {k c : Nat} (hk : k ∈ fd) (hc : c ∈ KM.near ls k) : c ∈ fd := by
  rcases mem_near.mp hc with h | h
  . exact (S _ h).mp hk
  . exact (S _ h).mpr hk
theorem FW.same (W : FW ls n fd) (S : Shut ls fd) {ord : List Nat} {pa : Nat -> Option Nat} (B : GB ls n 0 ord pa ord.length) : fd.length = ord.length := by
  have h1 : ∀ (b j c : Nat), j <= b -> ord[j]? = some c -> c ∈ fd := by
    intro b
    induction b with
    | zero =>
      intro j c hj hc; obtain ⟨t, e⟩ := B.head; have : j = 0 := by omega
      subst this; rw [e] at hc; have : 0 = c := Option.some.inj hc; subst this; obtain ⟨t', e'⟩ := W.head; rw [e']; exact List.mem_cons_self
    | succ b ih =>
      intro j c hj hc
      by_cases h0 : 0 < j
      . obtain ⟨i, k, hi, hk, _, hn⟩ := B.up j c h0 hc
        exact S.near (ih i k (by omega) hk) hn
      . exact ih j c (by omega) hc
  have h2 : ∀ (b j c : Nat), j <= b -> fd[j]? = some c -> c ∈ ord := by
    intro b
    induction b with
    | zero =>
      intro j c hj hc; obtain ⟨t, e⟩ := W.head; have : j = 0 := by omega
      subst this; rw [e] at hc; have : 0 = c := Option.some.inj hc; subst this; obtain ⟨t', e'⟩ := B.head; rw [e']; exact List.mem_cons_self
    | succ b ih =>
      intro j c hj hc
      by_cases h0 : 0 < j
      . obtain ⟨i, k, hi, hk, hn⟩ := W.up j c h0 hc
        obtain ⟨i', hi'⟩ := List.mem_iff_getElem?.mp (ih i k (by omega) hk)
        exact B.closed i' k (List.getElem?_eq_some_iff.mp hi').1 hi' c hn
      . exact ih j c (by omega) hc
  have p : fd.Perm ord := (List.perm_ext_iff_of_nodup W.nd B.nd).mpr fun x => by
    constructor
    . intro hx
      obtain ⟨j, hj⟩ := List.mem_iff_getElem?.mp hx; exact h2 j j x (Nat.le_refl _) hj
    . intro hx
      obtain ⟨j, hj⟩ := List.mem_iff_getElem?.mp hx; exact h1 j j x (Nat.le_refl _) hj
  exact p.length_eq
structure Turn1 (ls : Ln) (n i : Nat) (f0 fd : List Nat) : Prop where
  w : FW ls n fd
  shut : Shut ls f0 -> fd = f0
  grow : f0.length < fd.length \/ (fd = f0 /\ ∀ p ∈ ls.take i, p.1 ∈ fd ↔ p.2 ∈ fd)
theorem Turn1.start {f0 : List Nat} (W : FW ls n f0) : Turn1 ls n 0 f0 f0 := ⟨W, fun _ => rfl, .inr ⟨rfl, fun p hp => (nomatch hp)⟩⟩
theorem Turn1.add {i : Nat} {f0 : List Nat} (t : Turn1 ls n i f0 fd) (hl : f0.length <= fd.length) {p : Nat × Nat} (hp : p ∈ ls) {k c : Nat} (hkc : (k, c) = p \/ (c, k) = p) (hk : k ∈ fd) (hc : c ∉ fd) (hcl : c < n) {m : Nat} : Turn1 ls n m f0 (fd ++ [c]) := by
  have hn : c ∈ near ls k := by
    rcases hkc with z | z
    . exact mem_near.mpr (.inl (by rw [z]; exact hp))
    . exact mem_near.mpr (.inr (by rw [z]; exact hp))
  refine ⟨t.w.add hk hn hc hcl, fun S => ?_, .inl (by rw [List.length_append, List.length_singleton]; omega)⟩
  have e := t.shut S; subst e; exact absurd (S.near hk hn) hc
theorem Turn1.len {i : Nat} {f0 : List Nat} (t : Turn1 ls n i f0 fd) : f0.length <= fd.length := by
  rcases t.grow with z | ⟨z, _⟩
  . omega
  . rw [z]; exact Nat.le_refl _
theorem Turn1.next {i : Nat} {f0 : List Nat} (t : Turn1 ls n i f0 fd) {p : Nat × Nat} (hp : ls[i]? = some p) (hb : f0.length < fd.length \/ (p.1 ∈ fd ↔ p.2 ∈ fd)) : Turn1 ls n (i + 1) f0 fd := by
  refine ⟨t.w, t.shut, ?_⟩
  rcases t.grow with z | ⟨z1, z2⟩
  . exact .inl z
  . rcases hb with z | z
    . exact .inl z
    . refine .inr ⟨z1, fun q hq => ?_⟩
      rw [List.take_add_one, hp] at hq
      rcases List.mem_append.mp hq with h | h
      . exact z2 q h
      . have : q = p := by simpa using h
        rw [this]; exact z
theorem Turn1.done {f0 : List Nat} (t : Turn1 ls n ls.length f0 fd) {m : Nat} (h : m + 1 <= f0.length \/ Shut ls f0) : m + 2 <= fd.length \/ Shut ls fd := by
  rcases h with h | h
  . rcases t.grow with z | ⟨_, z⟩
    . exact .inl (by omega)
    . rw [List.take_length] at z
      exact .inr z
  . rw [t.shut h]
    exact .inr h
end
end KM
namespace L2
open PySem PySem.Spec PyProof.Rows
section
variable {X : Cx}
inductive rEqNil (K : PySem.W.Frag) (x : V) (y : V) (H : Hp) (Q : VK) : Prop
  | mk (a : _) (b : _) (xs : _) (z1_ : x = .ref a) (z2_ : y = .ref b) (z3_ : SqL K H a xs) (z4_ : SqL K H b []) (z5_ : Q (.bl xs.isEmpty) H) : rEqNil K x y H Q
theorem op_eqNil (hu : X.A.units < cLine) : OpR X (compareOp .Eq) (rEqNil X.K) := by
  intro pins s σ H x y v u Q I rx ry h; obtain ⟨a, b, xs, rfl, rfl, ha, hb, q⟩ := h
  cases rx
  cases ry
  obtain ⟨its, r, pl, _⟩ := I.list ha; obtain ⟨its2, r2, pl2, _⟩ := I.list hb; have l1 := r.length; have l2 := r2.length; rw [List.length_nil] at l2
  by_cases hs : its.toArray.size = its2.toArray.size
  . refine SeqAt.eq_listAt (e := fun _ => true) pl.isList pl2.isList hs hu (fun j h1 h2 => ?_) ⟨.bl xs.isEmpty, H, I, ?_, q⟩
    . rw [List.size_toArray] at h2
      omega
    . rw [List.size_toArray, List.size_toArray] at hs
      show Value.bool _ = Value.bool _
      have hx : xs = [] := List.eq_nil_of_length_eq_zero (by omega)
      rw [List.size_toArray, show its.length = 0 by omega, hx]
      rfl
  . refine SeqAt.eq_list_lengthsAt pl.isList pl2.isList (by simpa using hs) hu ⟨.bl xs.isEmpty, H, I, ?_, q⟩
    rw [List.size_toArray, List.size_toArray] at hs
    show Value.bool _ = Value.bool _
    cases xs with
    | nil => rw [List.length_nil] at l1; omega
    | cons x xs => rfl
end
end L2
namespace KD
open PySem L2 KM PyProof.Rows
theorem toL_ofL {li : LI} (h : ∀ p ∈ li, 0 <= p.1 /\ 0 <= p.2) : toL (ofL li) = li := by
  unfold toL ofL
  rw [List.map_map]
  conv => rhs; rw [<- List.map_id li]
  refine List.map_congr_left fun p hp => ?_; obtain ⟨h1, h2⟩ := h p hp; obtain ⟨a, b⟩ := p
  show (((a.toNat : Nat) : Int), ((b.toNat : Nat) : Int)) = (a, b)
  have h1 : 0 <= a := h1; have h2 : 0 <= b := h2; rw [show ((a.toNat : Nat) : Int) = a by omega, show ((b.toNat : Nat) : Int) = b by omega]
inductive spIsFreeL (vs : (List V)) (H : Hp) (Q : VK) (e_ : XK) : Prop
  | mk (L : Addr) (ps : List Addr) (c : Int) (li : LI) (z1_ : vs = [.int c, .ref L]) (z2_ : LinesAt H L ps li) (z3_ : li.length <= 60) (z4_ : ∀ (r : Bool) (H' : Hp), (r = true ↔ FreeL c li) -> Same H H' -> Q (.bl r) H') : spIsFreeL vs H Q e_
inductive spSpoiltF (vs : (List V)) (H : Hp) (Q : VK) (e_ : XK) : Prop
  | mk (L : Addr) (ps : List Addr) (n : Nat) (li : LI) (wy c : Int) (z1_ : vs = [vN n, .ref L, .int wy, .int c]) (z2_ : LinesAt H L ps li) (z3_ : li.length <= 14) (z4_ : 0 < n) (z5_ : n <= 60) (z6_ : ∀ (t L' : Addr) (ps' : List Addr) (c' : Int) (li' : LI) (H' : Hp), Same H H' -> TreeAt H' t L' ps' c' li' -> li'.length <= 15 -> Q (.ref t) H') : spSpoiltF vs H Q e_
inductive spAskedF (C T : Addr) (lp : Pos) (lq : Str) (vs : (List V)) (H : Hp) (Q : VK) (E : XK) : Prop
  | mk (t L : Addr) (ps : List Addr) (c : Int) (li : LI) (k : Nat) (z1_ : vs = [vN k, .ref t]) (z2_ : TreeAt H t L ps c li) (z3_ : li.length <= 15) (z4_ : Tab T lp lq H) (z5_ : (FreeL c li -> ∀ (v : V) (H' : Hp), SameT T H H' -> Tab T lp lq H' -> Q v H')) (z6_ : (¬ FreeL c li -> ∀ H', Same H H' -> E (.ref C) none H')) : spAskedF C T lp lq vs H Q E
inductive spRefusesF (T : Addr) (lp : Pos) (lq : Str) (vs : (List V)) (H : Hp) (Q : VK) (e_ : XK) : Prop
  | mk (t L : Addr) (ps : List Addr) (c : Int) (li : LI) (k : Nat) (z1_ : vs = [vN k, .ref t]) (z2_ : TreeAt H t L ps c li) (z3_ : li.length <= 15) (z4_ : Tab T lp lq H) (z5_ : ∀ (b : Bool) (H' : Hp), (FreeL c li ↔ b = false) -> SameT T H H' -> Tab T lp lq H' -> Q (.bl b) H') : spRefusesF T lp lq vs H Q e_
theorem free_one : FreeL 1 [] := by
  refine ⟨⟨rfl, fun p hp => (nomatch hp)⟩, [none], 0, id, ⟨rfl, fun j h => ?_, fun j p h => ?_, fun j hj => hj⟩, rfl, .refl _⟩
  . have := (List.getElem?_eq_some_iff.mp h).1
    rw [List.length_singleton] at this
    omega
  . have hj := (List.getElem?_eq_some_iff.mp h).1
    rw [List.length_singleton] at hj; have : j = 0 := by omega
    subst this
    cases h
theorem free_two : FreeL 2 [(1, 0)] := by
  refine ⟨⟨rfl, fun p hp => ?_⟩, [none, some 0], 0, id, ⟨rfl, fun j h => ?_, fun j p h => ?_, fun j hj => ?_⟩, rfl, ?_⟩
  . rw [List.mem_singleton.mp hp]
    exact ⟨⟨by decide, by decide⟩, by decide, by decide⟩
  . match j, h with
    | 0, _ => rfl
    | 1, h => cases h
  . match j, h with
    | 0, h => cases h
    | 1, h => cases h; exact ⟨by decide, by decide⟩
  . exact hj
  . exact .refl _
theorem lines_set {H : Hp} {L c : Addr} {ps : List Addr} {li : LI} (G : LinesAt H L ps li) (k : Nat) (p : Int × Int) (hc : H c = some (.tup (vP p))) (hk : k < li.length) :
    LinesAt (upd H L (.lst ((ps.map V.ref).set k (.ref c)))) L (ps.set k c) (li.set k p) := by
  have hLt : ∀ (a : Addr) (ys : List V), H a = some (.tup ys) -> a ≠ L := fun a ys h => ne_of h G.top (fun z => nomatch z); refine ⟨by rw [upd_same, List.map_set], by rw [List.length_set, G.len, List.length_map, List.length_map, List.length_set], fun j a ys h1 h2 => ?_, fun ys hys => ?_⟩
  . rw [List.map_set] at h2
    have hpl : ps.length = li.length := by rw [G.len, List.length_map]
    by_cases hjk : k = j
    . subst hjk
      rw [List.getElem?_set_self (by omega)] at h1
      rw [List.getElem?_set_self (by rw [List.length_map]; exact hk)] at h2
      cases h1
      cases h2
      rw [upd_ne (hLt _ _ hc)]; exact hc
    . rw [List.getElem?_set_ne hjk] at h1 h2
      have h3 := G.each j a ys h1 h2; rw [upd_ne (hLt _ _ h3)]; exact h3
  . obtain ⟨q, _, rfl⟩ := List.mem_map.mp hys
    exact flat_vP q
theorem lines_erase {H : Hp} {L : Addr} {ps : List Addr} {li : LI} (G : LinesAt H L ps li) (k : Nat) : LinesAt (upd H L (.lst ((ps.map V.ref).eraseIdx k))) L (ps.eraseIdx k) (li.eraseIdx k) := by
  have hLt : ∀ (a : Addr) (ys : List V), H a = some (.tup ys) -> a ≠ L := fun a ys h => ne_of h G.top (fun z => nomatch z); have hpl : ps.length = li.length := by rw [G.len, List.length_map]
  have hm : ∀ {α β : Type} (f : α -> β) (l : List α) (k : Nat), (l.map f).eraseIdx k = (l.eraseIdx k).map f := fun {α β} f l => by
    induction l with
    | nil => intro k; rfl
    | cons a l ih =>
      intro k
      cases k with
      | zero => rfl
      | succ k => rw [List.map_cons, List.eraseIdx_cons_succ, List.eraseIdx_cons_succ, List.map_cons, ih]
  refine ⟨by rw [upd_same, hm], ?_, fun j a ys h1 h2 => ?_, fun ys hys => ?_⟩
  . rw [List.length_map, List.length_eraseIdx, List.length_eraseIdx, hpl]
  . rw [<- hm] at h2
    rw [List.getElem?_eraseIdx] at h1 h2
    split at h1
    . rename_i hlt
      rw [if_pos hlt] at h2; have h3 := G.each j a ys h1 h2; rw [upd_ne (hLt _ _ h3)]; exact h3
    . rename_i hlt
      rw [if_neg hlt] at h2; have h3 := G.each (j + 1) a ys h1 h2; rw [upd_ne (hLt _ _ h3)]; exact h3
  . obtain ⟨q, _, rfl⟩ := List.mem_map.mp hys
    exact flat_vP q
theorem lines_app {H : Hp} {L c : Addr} {ps : List Addr} {li : LI} (G : LinesAt H L ps li) (p : Int × Int) (hc : H c = some (.tup (vP p))) : LinesAt (upd H L (.lst (ps.map V.ref ++ [.ref c]))) L (ps ++ [c]) (li ++ [p]) := by
  have hLt : ∀ (a : Addr) (ys : List V), H a = some (.tup ys) -> a ≠ L := fun a ys h => ne_of h G.top (fun z => nomatch z); have hpl : ps.length = li.length := by rw [G.len, List.length_map]
  refine ⟨by rw [upd_same, List.map_append]; rfl, by rw [List.length_map, List.length_append, List.length_append, hpl]; rfl, fun j a ys h1 h2 => ?_, fun ys hys => ?_⟩
  . rw [List.map_append] at h2
    by_cases hj : j < ps.length
    . rw [List.getElem?_append_left hj] at h1
      rw [List.getElem?_append_left (by rw [List.length_map]; omega)] at h2
      have h3 := G.each j a ys h1 h2; rw [upd_ne (hLt _ _ h3)]; exact h3
    . rw [List.getElem?_append_right (by omega)] at h1
      rw [List.getElem?_append_right (by rw [List.length_map]; omega), List.length_map] at h2
      have h0 := (List.getElem?_eq_some_iff.mp h1).1; rw [List.length_singleton] at h0; rw [show j - ps.length = 0 by omega] at h1
      rw [show j - li.length = 0 by omega] at h2
      cases h1
      cases h2
      rw [upd_ne (hLt _ _ hc)]; exact hc
  . obtain ⟨q, _, rfl⟩ := List.mem_map.mp hys
    exact flat_vP q
end KD
namespace L2
open PySem PySem.Spec PyProof.Rows
abbrev TN := St -> Hp -> Prop
theorem cutS {t u : TS} {D : Ends} {σ : St} {H : Hp} (h : ∀ N : TN, (∀ σ' H', u D σ' H' -> N σ' H') -> t { D with nx := N } σ H) : tSeq t u D σ H := h (u D) fun _ _ z => z
theorem for_rangeN {lo : Int} {n : Nat} {g : TG} {tb : TS} {D : Ends} {σ : St} {H : Hp} (Pv : Nat -> TN) (h0 : Pv 0 σ H)
    (hs : ∀ i σ H, i < n -> Pv i σ H -> ∀ N : TN, (∀ σ' H', Pv (i + 1) σ' H' -> N σ' H') -> g (.int (lo + i)) σ H fun σ2 H2 => tb { D with nx := N, ct := N, bk := D.nx } σ2 H2) (hd : ∀ σ H, Pv n σ H -> D.nx σ H) :
    ∃ W : Nat -> Nat -> TN, (∃ m, W 0 m σ H) /\ ∀ i m σ H, W i m σ H ->
      ((Itr lo n).stop i H /\ D.nx σ H) \/ ((Itr lo n).go i H /\ ∃ N : TN, (∀ σ' H', N σ' H' -> ∃ m', m' < m /\ W (i + 1) m' σ' H') /\ ∀ x H', (Itr lo n).yld i H x H' -> g x σ H' fun σ2 H2 => tb { D with nx := N, ct := N, bk := D.nx } σ2 H2) :=
  for_range Pv h0 (fun i σ H hi p => hs i σ H hi p _ fun _ _ z => z) hd
theorem for_listN {K : PySem.W.Frag} {a : Addr} {xs : List V} {g : TG} {tb : TS} {D : Ends} {σ : St} {H : Hp} (Pv : Nat -> TN) (h0 : Pv 0 σ H) (hl : ∀ i σ H, i <= xs.length -> Pv i σ H -> SqL K H a xs)
    (hs : ∀ i x σ H, xs[i]? = some x -> Pv i σ H -> ∀ N : TN, (∀ σ' H', Pv (i + 1) σ' H' -> N σ' H') -> g x σ H fun σ2 H2 => tb { D with nx := N, ct := N, bk := D.nx } σ2 H2) (hd : ∀ σ H, Pv xs.length σ H -> D.nx σ H) :
    ∃ W : Nat -> Nat -> TN, (∃ m, W 0 m σ H) /\ ∀ i m σ H, W i m σ H ->
      ((Itl K a).stop i H /\ D.nx σ H) \/ ((Itl K a).go i H /\ ∃ N : TN, (∀ σ' H', N σ' H' -> ∃ m', m' < m /\ W (i + 1) m' σ' H') /\ ∀ x H', (Itl K a).yld i H x H' -> g x σ H' fun σ2 H2 => tb { D with nx := N, ct := N, bk := D.nx } σ2 H2) :=
  for_list Pv h0 hl (fun i x σ H hx p => hs i x σ H hx p _ fun _ _ z => z) hd
theorem bl1 {p : List Value -> Prop} (h : ∀ a, p [a]) (us : List Value) (hl : us.length = 1) : p us := by
  obtain ⟨a, rfl⟩ := List.length_eq_one_iff.mp hl; exact h a
theorem bl1s {p : List Value -> Prop} (h : ∀ a, p [a]) (us : List Value) (hl : us.length + 1 = 2) : p us := bl1 h us (Nat.succ.inj hl)
theorem bl2 {p : List Value -> Prop} (h : ∀ a b, p [a, b]) (us : List Value) (hl : us.length = 2) : p us := by
  cases us with
  | nil => cases hl
  | cons a r => exact bl1 (p := fun r => p (a :: r)) (h a) r (Nat.succ.inj hl)
theorem bl3 {p : List Value -> Prop} (h : ∀ a b c, p [a, b, c]) (us : List Value) (hl : us.length = 3) : p us := by
  cases us with
  | nil => cases hl
  | cons a r => exact bl2 (p := fun r => p (a :: r)) (h a) r (Nat.succ.inj hl)
theorem bl4 {p : List Value -> Prop} (h : ∀ a b c d, p [a, b, c, d]) (us : List Value) (hl : us.length = 4) : p us := by
  cases us with
  | nil => cases hl
  | cons a r => exact bl3 (p := fun r => p (a :: r)) (h a) r (Nat.succ.inj hl)
end L2
set_option maxHeartbeats 4000000
namespace K08
open PySem L2 KM KD PyProof.Rows
def top (i : Nat) : Stmt := PySem.Challenge.pw_shapekin_k08_no_free_trees.main.body.getD i (.Pass ⟨0, 0, 0, 0⟩)
abbrev sForm : Stmt := top 5
abbrev sKnotForms : Stmt := top 6
abbrev sOver : Stmt := top 7
abbrev sRoot : Stmt := top 8
abbrev sUnder : Stmt := top 9
abbrev sDown : Stmt := top 10
abbrev sMatched : Stmt := top 12
abbrev sHowMany : Stmt := top 13
abbrev sByForms : Stmt := top 14
abbrev sMatesOf : Stmt := top 15
abbrev sSwaps : Stmt := top 16
abbrev sGrouped : Stmt := top 17
abbrev sMiddles : Stmt := top 19
abbrev sRootedAt : Stmt := top 20
abbrev sFreeForm : Stmt := top 21
abbrev sFreeMatched : Stmt := top 22
abbrev sFreeHowMany : Stmt := top 23
abbrev sFreeAlikeKnots : Stmt := top 24
abbrev sRootedInTheMiddle : Stmt := top 25
abbrev sFarness : Stmt := top 26
abbrev sHungUp : Stmt := top 27
abbrev sWalked : Stmt := top 28
abbrev sKnotsBeside : Stmt := top 29
abbrev sUpto : Stmt := top 31
abbrev sWhole : Stmt := top 32
abbrev sAt : Stmt := top 33
abbrev sRooted : Stmt := top 34
abbrev sLinesOf : Stmt := top 35
abbrev sAreKnots : Stmt := top 36
abbrev sKeptWhole : Stmt := top 37
abbrev sIsFree : Stmt := top 38
abbrev sSpoilt : Stmt := top 39
abbrev sAsked : Stmt := top 40
abbrev sRefuses : Stmt := top 41
abbrev sLaw : Stmt := top 42
end K08
namespace K08
open PySem L2 KM KD PyProof.Rows
section
variable {P : Program} {w : World} {K : PySem.W.Frag} {mg : Str -> Option Value} {base : Heap} {f : Addr} {fd : FuncData}
theorem scOver : FnScope ["parts"] ["parts"] (defScope sOver) := ⟨rfl, rfl, rfl, by decide +kernel, rfl, by decide +kernel, by decide +kernel⟩
theorem ok_over (F : Fun K "form_over" "form_over" sOver f fd) (ms : mg "sorted" = none) : FnOk P w K mg base CX0 1 f fd ["parts"] spOver := by
  refine F.ok scOver (fun vs H Q E h => ?_) (fun cdv A outer s H vs Q E hr h => ?_)
  . obtain ⟨p, ts, rfl, _⟩ := h
    rfl
  obtain ⟨p, ts, rfl, hp, h64, hlen, q⟩ := h
  refine ⟨_, pss_one (ps_ret (pe_op op_add_str (pe_op op_add_str pe_str (pe_bm PySem.F.plainAttrs_str PySem.F.slot_str_join PySem.F.type_str_join mt_join pe_str
    (pa_cons (pe_callB call_sortedS rfl ms boot_sorted (pa_cons (pv 0) pa_nil)) pa_nil))) pe_str)), ?_⟩
  rw [<- vT_map] at hp; refine ⟨rfl, _, rfl, p, ts.map mkS, rfl, SqL.of hp, by rw [List.length_map]; exact h64, fun l ss' h1 h2 h3 => ?_⟩
  have es := sorted_is h1 h2; subst es
  have el : (((srt ts).map mkS).map (·.length)).sum = (ts.map (·.length)).sum := by
    rw [len_vT]; exact ((srt_perm ts).map _).sum_nat
  have ef : (mkS (srt ts).flatten).length = (ts.map (·.length)).sum := by rw [mkS_len, srt_len]
  have e0 : (Str.ofString "").length = 0 := by rw [ep]; rfl
  have e1 : (Str.ofString "(").length = 1 := by rw [lp]; rfl
  have e2 : (Str.ofString ")").length = 1 := by rw [rp]; rfl
  refine ⟨_, l, (srt ts).map mkS, rfl, rfl, SqL.of upd_same, ?_, ?_⟩
  . rw [el, e0]
    omega
  rw [join_is]; refine ⟨_, _, rfl, rfl, ?_, _, _, rfl, rfl, ?_, ?_⟩
  . rw [ef, e1]
    exact small (by omega)
  . rw [Str.length_append, ef, e1, e2]
    exact small (by omega)
  rw [brk_is]; exact q _ (same_new h3 _)
theorem scRoot : FnScope ["above", "roots"] ["above"] (defScope sRoot) := ⟨rfl, rfl, rfl, by decide +kernel, rfl, by decide +kernel, by decide +kernel⟩
theorem ndKU : (["knot", "upper"] : List Str).Nodup := by decide +kernel
theorem ok_rootX {C : Addr} (F : Fun K "root_of" "root_of" sRoot f fd) (me : mg "enumerate" = none) (ml : mg "len" = none) (mC : mg "NoTree" = some (.ref C)) (xc : XC K C) : FnOk P w K mg base (CXe P w) 1 f fd ["above"] (spRootX C) := by
  refine F.okX scRoot (fun vs H Q E h => ?_) (fun cdv A outer s H vs Q E hr h => ?_)
  . obtain ⟨a, A1, rfl, _⟩ := h
    rfl
  obtain ⟨a, A1, rfl, ha, hn, q, qe⟩ := h; obtain ⟨ab, hab⟩ : ∃ ab : Ab, ab = A1.map ofI := ⟨_, rfl⟩; have hlab : ab.length = A1.length := by rw [hab, List.length_map]
  refine ⟨_, pss_cons (ps_setComp (N' := ["knot", "upper"]) (js := [none, none]) (i := 1) scRoot.nd rfl (Or.inl rfl) (CompOk.plain rfl (by decide +kernel) (by decide +kernel) rfl (by decide)) rfl (pi_enum rfl me (pa_cons (pv 0) pa_nil))
      (fun _ _ _ _ => pg_tupC (n := 2) rfl (pgs_cons (pg_name (i := 0) ndKU rfl (Or.inl rfl)) (pgs_cons (pg_name (i := 1) ndKU rfl (Or.inl rfl)) pgs_nil))) (fun _ _ _ _ => pif_one (pt_cmp (pc_isN (pv 1)))) (fun _ _ _ _ => pv 0))
    (pss_cons (ps_if (pt_cmpR op_ne (pe_callB call_len_seq rfl ml PySem.boot_len (pa_cons (pv 1) pa_nil)) pe_int (nomark _)) (pss_one (ps_raise xc rfl xraise rfl mC (pa_cons pe_str pa_nil))) pss_nil)
    (pss_one (ps_ret (pe_ix ix_list (pv 1) pe_int (fun _ _ => rfl))))), ?_⟩
  refine ⟨_, rfl, a, rfl, ⟨_, SqL.of ha⟩, fun D hD => ?_⟩; refine ⟨fun i m ys τ H2 => m = ab.length - i /\ i <= ab.length /\ ys = (rootsTo ab i).map vN /\ (∃ o1 o2, τ = [o1, o2]) /\ Same H H2 /\ H2 D = some (.lst ys), ⟨ab.length, by simp, Nat.zero_le _, rfl, ⟨_, _, rfl⟩, same_new hD _, upd_same⟩, ?_⟩
  rintro i m ys τ H2 p_
  refine hld fun g_ k_ => ?_; obtain ⟨rfl, hi, rfl, ⟨o1, o2, rfl⟩, s2, e2⟩ := p_; refine k_ ?_; have hl : (A1.map vI).length = ab.length := by rw [List.length_map, hlab]
  by_cases hlt : i < ab.length
  . refine .inr ⟨⟨_, _, SqL.of (s2 _ _ ha), get_map (List.getElem?_eq_getElem (hlab ▸ hlt))⟩, fun x H' y => ?_⟩
    refine hld fun g_ k_ => ?_; obtain ⟨p, z, rfl, hp, rfl, hz⟩ := y; refine k_ ?_; have ez := hz _ (SqL.of (s2 _ _ ha)); rw [get_map (List.getElem?_eq_getElem (hlab ▸ hlt))] at ez
    cases ez
    refine ⟨p, _, rfl, SqT.of upd_same, rfl, _, _, rfl, _, _, rfl, rfl, _, rfl, _, rfl, ?_⟩; have s3 : Same H (upd H2 p (.tup [.int i, vI A1[i]])) := s2.trans (same_new hp _); have e3 : (upd H2 p (.tup [.int i, vI A1[i]])) D = some (.lst ((rootsTo ab i).map vN)) := by rw [upd_ne (ne_of_none e2 hp)]; exact e2
    have hz := rootsTo_len ab i; have hlA : i < A1.length := hlab ▸ hlt
    cases q' : A1[i] with
    | none =>
      have h0 : ab[i]? = some none := by rw [hab, none_of, List.getElem?_eq_getElem hlA, q']
      rw [q'] at s3 e3; refine iteT ⟨_, rfl, e3, smallt (by rw [List.length_map]; omega), ab.length - (i + 1), by omega, rfl, hlt, ?_, ⟨_, _, rfl⟩, same_upd s3 hD _, upd_same⟩
      rw [rootsTo_hit h0, List.map_append]
      rfl
    | some k =>
      have h0 : ab[i]? ≠ some none := by rw [hab, ne_eq, none_of, List.getElem?_eq_getElem hlA, q']; intro z; cases z
      rw [q'] at s3 e3; refine iteF ⟨ab.length - (i + 1), by omega, rfl, hlt, by rw [rootsTo_miss h0], ⟨_, _, rfl⟩, s3, e3⟩
  . have e : i = ab.length := by omega
    subst e; refine .inl ⟨⟨_, SqL.of (s2 _ _ ha), by rw [hl]; exact Nat.le_refl _⟩, ?_⟩
    refine ⟨_, rfl, D, _, rfl, .inl (SqL.of e2), rfl, _, rfl, ?_⟩
    by_cases hr1 : ∃ r, Root1 A1 r
    . obtain ⟨r, hr1⟩ := hr1
      have hr2 : rootsTo ab ab.length = [r] := roots_one.mpr (by rw [hab]; exact Root1.of.mp hr1)
      rw [hr2] at e2 ⊢; refine iteNS rfl ?_; refine ⟨_, rfl, D, _, _, _, rfl, rfl, SqL.of e2, rfl, ?_⟩; exact q r _ hr1 s2
    . have hz : ¬ V.int ((((rootsTo ab ab.length).map vN).length : Nat) : Int) = V.int 1 := fun z => by
        have z' := V.int.inj z; rw [List.length_map] at z'; obtain ⟨r, e⟩ := List.length_eq_one_iff.mp (show (rootsTo ab ab.length).length = 1 by omega)
        have := roots_one.mp e; rw [hab] at this; exact hr1 ⟨r, Root1.of.mpr this⟩
      rw [decide_eq_false hz]; exact iteT ⟨(by show 1 <= sizeLine; decide), qe hr1 _ s2⟩
theorem scUnder : FnScope ["above", "under", "knot", "upper"] ["above"] (defScope sUnder) := ⟨rfl, rfl, rfl, by decide +kernel, rfl, by decide +kernel, by decide +kernel⟩
structure UnTo (H0 H : Hp) (u : Addr) (as : List Addr) (ab : Ab) (i : Nat) : Prop where
  same : Same H0 H
  top : H u = some (.lst (as.map V.ref))
  len : as.length = ab.length
  nd : as.Nodup
  new : ∀ c ∈ as, H0 c = none
  newu : H0 u = none
  each : ∀ (k : Nat) (c : Addr), as[k]? = some c -> H c = some (.lst ((kidsTo ab k i).map vN))
theorem ndU : (["upper"] : List Str).Nodup := by decide +kernel
theorem ok_underX {C : Addr} (F : Fun K "knots_under" "knots_under" sUnder f fd) (me : mg "enumerate" = none) (ml : mg "len" = none) (mC : mg "NoTree" = some (.ref C)) (xc : XC K C) : FnOk P w K mg base (CXe P w) 1 f fd ["above"] (spUnderX C) := by
  refine F.okX scUnder (fun vs H Q E h => ?_) (fun cdv A outer s H vs Q E hr h => ?_)
  . obtain ⟨a, A1, rfl, _⟩ := h
    rfl
  obtain ⟨a, A1, rfl, ha, hn, q, qe⟩ := h; obtain ⟨ab, hab⟩ : ∃ ab : Ab, ab = A1.map ofI := ⟨_, rfl⟩; have hlab : ab.length = A1.length := by rw [hab, List.length_map]
  refine ⟨_, pss_cons (ps_setComp (N' := ["upper"]) (js := [none]) (i := 1) scUnder.nd rfl (Or.inl rfl) (CompOk.plain rfl (by decide +kernel) (by decide +kernel) rfl (by decide)) rfl (pi_list (pv 0))
      (fun _ _ _ _ => pg_name (i := 0) ndU rfl (Or.inl rfl)) (fun _ _ _ _ => pif_nil) (fun _ _ _ _ => pe_lst pa_nil))
    (pss_cons (ps_for ownX rfl (pi_enum rfl me (pa_cons (pv 0) pa_nil)) (pg_tup rfl (pgs_cons (pg_name (i := 2) scUnder.nd rfl (Or.inl rfl)) (pgs_cons (pg_name (i := 3) scUnder.nd rfl (Or.inl rfl)) pgs_nil)))
      (pss_one (ps_if (pt_cmp (pc_notN (pv 3)))
        (pss_cons (ps_if (PW.pt (pw_or (pt_cmpR op_lt (pv 3) pe_int (nomark _)) (pw_or1 (pt_cmpR op_ge (pv 3) (pe_callB call_len_seq rfl ml PySem.boot_len (pa_cons (pv 0) pa_nil)) (nomark _))))) (pss_one (ps_raise xc rfl xraise rfl mC (pa_cons pe_str pa_nil))) pss_nil)
        (pss_one (ps_expr (pe_bm PySem.F.plainAttrs_list PySem.F.slot_list_append PySem.F.type_list_append mt_append (pe_ix ix_list (pv 1) (pv 3) (fun _ _ => rfl)) (pa_cons (pv 2) pa_nil))))) pss_nil)))
    (pss_one (ps_ret (pv 1)))), ?_⟩
  have hl : (A1.map vI).length = ab.length := by rw [List.length_map, hlab]
  refine ⟨_, rfl, a, rfl, ⟨_, SqL.of ha⟩, ?_⟩
  refine comp_list (xs := A1.map vI) (fun D i ys τ H2 => (∃ o, τ = [o]) /\ ∃ as : List Addr, ys = as.map V.ref /\ as.Nodup /\ Same H H2 /\ H D = none /\ H2 D = some (.lst ys) /\ (∀ c ∈ as, H c = none /\ H2 c = some (.lst []) /\ c ≠ D)) (small (by rw [hl]; omega))
    (fun D hD => ⟨⟨_, rfl⟩, [], rfl, List.nodup_nil, same_new hD _, hD, upd_same, fun c hc => nomatch hc⟩) (fun D i ys τ H2 _ ⟨_, as, _, _, s2, _⟩ => SqL.of (s2 _ _ ha)) ?_ ?_ (fun _ _ _ _ _ h z => h _ _ z) (fun _ _ _ _ h z => ⟨z.1, fun p hp => h _ _ (z.2 p hp)⟩)
  . rintro D i x ys τ H2 hx hy p_
    refine hld fun g_ k_ => ?_; obtain ⟨⟨o, rfl⟩, as, rfl, nd, s2, hD, e2, each⟩ := p_; refine k_ ?_; refine ⟨(by show 0 <= sizeLine; decide), fun p hp => ?_⟩
    have hpD : D ≠ p := ne_of_none e2 hp; refine ⟨by rw [upd_ne hpD]; exact e2, ⟨_, rfl⟩, as ++ [p], by rw [List.map_append]; rfl, ?_, ?_, hD, upd_same, fun c hc => ?_⟩
    . rw [List.nodup_append]
      refine ⟨nd, by simp, fun c hc c' hc' e => ?_⟩
      rw [List.mem_singleton] at hc'; subst hc' e; rw [(each _ hc).2.1] at hp
      cases hp
    . exact same_upd (s2.trans (same_new hp _)) hD _
    . rcases List.mem_append.mp hc with h | h
      . obtain ⟨h1, h2, h3⟩ := each c h
        exact ⟨h1, by rw [upd_ne h3, upd_ne (ne_of_none h2 hp)]; exact h2, h3⟩
      . rw [List.mem_singleton] at h
        subst h; exact ⟨s2.free hp, by rw [upd_ne (Ne.symm hpD), upd_same], Ne.symm hpD⟩
  . rintro D ys τ H2 hy p_
    refine hld fun g_ k_ => ?_; obtain ⟨_, as, rfl, nd, s2, hD, e2, each⟩ := p_; refine k_ ?_; rw [hl, List.length_map] at hy; have U0 : UnTo H H2 D as ab 0 := ⟨s2, e2, hy, nd, fun c hc => (each c hc).1, hD, fun k c h => (each c (List.mem_of_getElem? h)).2.1⟩; refine ⟨_, rfl, a, rfl, ⟨_, SqL.of (s2 _ _ ha)⟩, for_enum (K := K) (a := a) (xs := A1.map vI) (fun i σ H3 => (∃ o1 o2, σ = [some (.ref a), some (.ref D), o1, o2]) /\ (∀ (j : Nat) (z : Int), j < i -> A1[j]? = some (some z) -> 0 <= z /\ z < A1.length) /\ UnTo H H3 D as ab i) ⟨⟨_, _, rfl⟩, (fun j z h => absurd h (Nat.not_lt_zero _)), U0⟩ (fun i σ H3 _ ⟨_, _, U⟩ => SqL.of (U.same _ _ ha)) ?_ ?_⟩
    . rintro i x p σ H3 hx p_ hp
      refine hld fun g_ k_ => ?_; obtain ⟨⟨o1, o2, rfl⟩, hin, U⟩ := p_; refine k_ ?_; obtain ⟨o, hoA, rfl⟩ := of_map hx; have ho : ab[i]? = some (ofI o) := by rw [hab, List.getElem?_map, hoA]; rfl
      have hil : i < ab.length := (List.getElem?_eq_some_iff.mp ho).1; have one : (1 : Nat) <= sizeLine := by decide
      refine ⟨p, _, rfl, SqT.of upd_same, rfl, _, _, rfl, _, _, rfl, rfl, _, rfl, _, rfl, ?_⟩; have up : ∀ b u, H3 b = some u -> (upd H3 p (.tup [.int i, vI o])) b = some u := same_new hp _
      cases o with
      | none =>
        refine iteF ⟨⟨_, _, rfl⟩, (fun j z hj hz => (Nat.lt_succ_iff_lt_or_eq.mp hj).elim (fun hj => hin j z hj hz) fun e => by rw [e, hoA] at hz; cases hz), U.same.trans up, up _ _ U.top, U.len, U.nd, U.new, U.newu, fun k c h => ?_⟩
        rw [kidsTo_miss (by rw [ho]; intro z; cases z)]
        exact up _ _ (U.each k c h)
      | some z =>
        refine iteT ?_; refine ⟨_, rfl, _, _, rfl, rfl, _, rfl, ?_⟩
        by_cases hz0 : z < 0
        . rw [decide_eq_true hz0]
          exact iteT (iteT ⟨one, qe (fun hI => absurd (hI i z hoA).1 (by omega)) _ (U.same.trans up)⟩)
        rw [decide_eq_false hz0]; refine iteF ⟨_, rfl, _, rfl, a, _, rfl, .inl (SqL.of (up _ _ (U.same _ _ ha))), _, _, rfl, rfl, _, rfl, ?_⟩
        by_cases hzn : ((((A1.map vI).length : Nat) : Int) <= z)
        . rw [decide_eq_true hzn]
          exact iteT ⟨one, qe (fun hI => absurd (hI i z hoA).2 (by rw [List.length_map] at hzn; omega)) _ (U.same.trans up)⟩
        rw [decide_eq_false hzn]; refine iteF ?_; obtain ⟨k, rfl⟩ := Int.eq_ofNat_of_zero_le (show 0 <= z by omega)
        rw [hl] at hzn; have hk : k < ab.length := by omega
        have hka : k < as.length := by rw [U.len]; exact hk
        have ho : ab[i]? = some (some k) := ho; have hc : as[k]? = some as[k] := List.getElem?_eq_getElem hka; have ec := U.each k _ hc; refine ⟨_, rfl, _, rfl, D, _, _, _, rfl, rfl, SqL.of (up _ _ U.top), at_map hc, .inl ⟨rfl, _, SqL.of (up _ _ ec)⟩, _, rfl, as[k], _, _, rfl, rfl, up _ _ ec, ?_, ?_⟩
        . have := kidsTo_len ab k i
          rw [List.length_map]; exact smallt (by omega)
        have hcn : H as[k] = none := U.new _ (List.getElem_mem hka)
        have hcD : D ≠ as[k] := ne_of U.top ec (by
          intro z; have z' := HO.lst.inj z; have l1 := congrArg List.length z'; rw [List.length_map, List.length_map, U.len] at l1
          cases q1 : as with
          | nil => rw [q1] at hka; simp at hka
          | cons c0 r0 =>
            rw [q1, List.map_cons] at z'
            cases q2 : kidsTo ab k i with
            | nil => rw [q2] at z'; cases z'
            | cons d0 s0 => rw [q2, List.map_cons] at z'; cases z')
        refine ⟨⟨_, _, rfl⟩, (fun j z hj hz => (Nat.lt_succ_iff_lt_or_eq.mp hj).elim (fun hj => hin j z hj hz) fun e => by rw [e, hoA] at hz; cases hz; constructor <;> omega), same_upd (U.same.trans up) hcn _, by rw [upd_ne hcD]; exact up _ _ U.top, U.len, U.nd, U.new, U.newu, fun k' c' h => ?_⟩
        by_cases e : k' = k
        . subst e
          rw [hc] at h
          cases h
          rw [upd_same, kidsTo_hit ho, List.map_append]
          rfl
        . have hne : c' ≠ as[k] := by
            intro z; obtain ⟨h1, e1⟩ := List.getElem?_eq_some_iff.mp h; exact e ((List.getElem_inj U.nd).mp (e1.trans z))
          rw [upd_ne hne, kidsTo_miss (by rw [ho]; intro z; exact e (Option.some.inj (Option.some.inj z)).symm)]
          exact up _ _ (U.each k' c' h)
    . rintro σ H3 p_
      refine hld fun g_ k_ => ?_; obtain ⟨⟨o1, o2, rfl⟩, hin, U⟩ := p_; refine k_ ?_; rw [hl] at U hin; have hI : InR A1 := fun j z h => hin j z (by rw [hlab]; exact (List.getElem?_eq_some_iff.mp h).1) h
      exact ⟨_, rfl, q hI D as H3 U.same (by rw [<- hab]; exact ⟨U.top, U.len, fun i c h => by rw [<- kidsTo_all]; exact U.each i c h⟩)⟩
theorem scDown : FnScope ["root", "under", "order", "place"] ["root", "under"] (defScope sDown) := ⟨rfl, rfl, rfl, by decide +kernel, rfl, by decide +kernel, by decide +kernel⟩
theorem ok_downK (F : Fun K "downward" "downward" sDown f fd) (ml : mg "len" = none) : FnOk P w K mg base CX0 1 f fd ["root", "under"] spDownK := by
  refine F.ok scDown (fun vs H Q E h => ?_) (fun cdv A outer s H vs Q E hr h => ?_)
  . obtain ⟨u, as, ab, kd, r, rfl, _⟩ := h
    rfl
  obtain ⟨u, as, ab, kd, r, rfl, U, hkd, T, hn, q⟩ := h
  refine ⟨_, pss_cons (ps_set (i := 2) scDown.nd rfl (Or.inl rfl) (pe_lst (pa_cons (pv 0) pa_nil)))
    (pss_cons (ps_set (i := 3) scDown.nd rfl (Or.inl rfl) pe_int)
    (pss_cons (ps_while PassesOwn.never (pt_cmpR op_lt (pv 3) (pe_callB call_len_seq rfl ml PySem.boot_len (pa_cons (pv 2) pa_nil)) (nomark _))
      (pss_cons (ps_expr (pe_bm PySem.F.plainAttrs_list PySem.F.slot_list_extend PySem.F.type_list_extend mt_extend (pv 2) (pa_cons (pe_ix ix_list (pv 1) (pe_ix ix_list (pv 2) (pv 3) (fun _ _ => rfl)) (fun _ _ => rfl)) pa_nil)))
      (pss_one (ps_set (i := 3) scDown.nd rfl (Or.inl rfl) (pe_op op_add (pv 3) pe_int)))))
    (pss_one (ps_ret (pv 2))))), ?_⟩
  refine ⟨_, rfl, (by show 1 <= sizeLine; decide), fun o ho => ?_⟩
  refine while_by (fun σ H2 => ∃ (ord : List Nat) (pl : Nat), σ = [some (vN r), some (.ref u), some (.ref o), some (vN pl)] /\ Same H H2 /\ H2 o = some (.lst (ord.map vN)) /\ BfsK ab kd r ord pl)
    (fun σ _ => match σ with | [_, _, _, some (.int z)] => ab.length - z.toNat | _ => 0) ⟨[r], 0, rfl, same_new ho _, upd_same, bfsK0 T⟩ ?_ ?_
  . rintro σ H2 p_
    refine hld fun g_ k_ => ?_; obtain ⟨ord, pl, rfl, s2, e2, B⟩ := p_; refine k_ ?_; refine ⟨_, rfl, _, rfl, o, _, rfl, .inl (SqL.of e2), _, _, rfl, rfl, _, rfl, ?_⟩; have hl : (ord.map vN).length = ord.length := List.length_map _; refine ite2 (fun c => ?_) (fun c => ?_)
    . have c' := of_decide_eq_true c
      rw [hl] at c'; have hp : pl < ord.length := by omega
      have hk : ord[pl]? = some ord[pl] := List.getElem?_eq_getElem hp; have hkl : ord[pl] < ab.length := B.lt _ (List.getElem_mem hp); have hka : ord[pl] < as.length := by rw [U.len]; exact hkl
      have hc : as[ord[pl]]? = some as[ord[pl]] := List.getElem?_eq_getElem hka; have ec := s2 _ _ (U.each _ _ hc); have B' := B.step T hkd hk; have hbl := B'.len; have hbl0 := B.len; refine ⟨_, rfl, .inl ⟨rfl, _, SqL.of e2⟩, _, rfl, _, rfl, _, rfl, o, _, _, _, rfl, rfl, SqL.of e2, at_map hk, u, _, _, _, rfl, rfl, SqL.of (s2 _ _ U.top), at_map hc, o, as[ord[pl]], _, _, rfl, rfl, e2, ec, ?_, ?_⟩
      . rw [List.length_map, List.length_map, <- List.length_append]
        exact small (by omega)
      refine ⟨_, rfl, _, _, rfl, rfl, ?_⟩; refine ⟨⟨ord ++ kd ord[pl], pl + 1, ?_, same_upd s2 ho _, ?_, B'⟩, ?_⟩
      . have e : ((pl : Nat) : Int) + 1 = ((pl + 1 : Nat) : Int) := by omega
        show [some (vN r), some (V.ref u), some (V.ref o), some (V.int ((pl : Int) + 1))] = _
        rw [e]
        rfl
      . rw [upd_same, List.map_append]
      . show ab.length - ((pl : Int) + 1).toNat < ab.length - (pl : Int).toNat
        omega
    . have c' := of_decide_eq_false (Bool.eq_false_iff.mpr c)
      rw [hl] at c'; have hp : pl = ord.length := by have := B.le; omega
      subst hp; exact ⟨_, rfl, q o ord H2 s2 e2 B⟩
  . rintro σ H2 Q1 Q2 hQ p_
    refine hld fun g_ k_ => ?_; obtain ⟨v1, h1, v2, h2, p2, ys, e1, e2, i, j, e3, e4, k, e5, h⟩ := p_; refine k_ ?_; exact ⟨v1, h1, v2, h2, p2, ys, e1, e2, i, j, e3, e4, k, e5, hQ _ _ h⟩
theorem scKnots : FnScope ["above", "marked", "root", "under", "order", "forms", "knot", "parts"] ["above", "marked"] (defScope sKnotForms) := ⟨rfl, rfl, rfl, by decide +kernel, rfl, by decide +kernel, by decide +kernel⟩
theorem ndPF : (["part", "forms"] : List Str).Nodup := by decide +kernel
theorem ok_knots {C f1 f2 f3 f4 : Addr} {d1 d2 d3 d4 : FuncData} {tk : Tok} (F : FunD K "knot_forms" "knot_forms" sKnotForms f fd) (GO : Kit P w K mg base 1 "form_over" ["parts"] spOver f1 d1) (GR : KitE P w K mg base 1 "root_of" ["above"] (spRootX C) f2 d2)
    (GU : KitE P w K mg base 1 "knots_under" ["above"] (spUnderX C) f3 d3) (GD : Kit P w K mg base 1 "downward" ["root", "under"] spDownK f4 d4) (ml : mg "len" = none) (mr : mg "reversed" = none) (mC : mg "NoTree" = some (.ref C)) (xc : XC K C)
    (mM : mg "MARK" = some (.str (Str.ofString "*") tk)) : FnOk P w K mg base (CXe P w) 2 f fd ["above", "marked"] (spKnots C) := by
  refine F.okX scKnots (fun vs H Q E h => ?_) (fun cdv A outer s H vs Q E hr h => ?_)
  . obtain ⟨a, A1, m, rfl, _⟩ := h
    rfl
  obtain ⟨a, A1, m, rfl, ha, hn, q, qe⟩ := h; obtain ⟨ab, hab⟩ : ∃ ab : Ab, ab = A1.map ofI := ⟨_, rfl⟩; have hlab : ab.length = A1.length := by rw [hab, List.length_map]
  refine ⟨_, pss_cons (ps_set (i := 2) scKnots.nd rfl (Or.inl rfl) (pe_call GR.ok hr rfl GR.mg GR.kp GR.bd .nil passX (pa_cons (pv 0) pa_nil)))
    (pss_cons (ps_set (i := 3) scKnots.nd rfl (Or.inl rfl) (pe_call GU.ok hr rfl GU.mg GU.kp GU.bd .nil passX (pa_cons (pv 0) pa_nil)))
    (pss_cons (ps_set (i := 4) scKnots.nd rfl (Or.inl rfl) (pe_call GD.ok hr rfl GD.mg GD.kp GD.bd .nil pass0 (pa_cons (pv 2) (pa_cons (pv 3) pa_nil))))
    (pss_cons (ps_if (pt_cmpR op_ne (pe_callB call_len_seq rfl ml PySem.boot_len (pa_cons (pv 4) pa_nil)) (pe_callB call_len_seq rfl ml PySem.boot_len (pa_cons (pv 0) pa_nil)) (nomark _)) (pss_one (ps_raise xc rfl xraise rfl mC (pa_cons pe_str pa_nil))) pss_nil)
    (pss_cons (ps_set (i := 5) scKnots.nd rfl (Or.inr rfl) (pe_op op_rep (pe_lst (pa_cons pe_str pa_nil)) (pe_callB call_len_seq rfl ml PySem.boot_len (pa_cons (pv 0) pa_nil))))
    (pss_cons (ps_for ownX rfl (pi_rev rfl mr (pa_cons (pv 4) pa_nil)) (pg_name (i := 6) scKnots.nd rfl (Or.inl rfl))
      (pss_cons (ps_setComp (N' := ["part", "forms"]) (js := [none, some 5]) (i := 7) scKnots.nd rfl (Or.inl rfl)
          (CompOk.free1 (x := "forms") (nms := [(".0", .local), ("part", .local), ("forms", .cell)]) rfl (by decide +kernel) (by decide +kernel) rfl rfl rfl rfl (by decide +kernel) (by
            intro j i h
            match j, h with
            | 0, h => cases h
            | 1, h => cases h; exact ⟨rfl, rfl⟩) rfl (Or.inl rfl)) rfl
          (pi_list (pe_ix ix_list (pv 3) (pv 6) (fun _ _ => rfl))) (fun _ _ _ _ => pg_name (i := 0) ndPF rfl (Or.inl rfl)) (fun _ _ _ _ => pif_nil) (fun _ _ _ _ => pe_ix ix_listC (pv 1) (pv 0) (fun _ _ => rfl)))
      (pss_cons (ps_if (pt_cmpR op_eq (pv 6) (pv 1) (nomark _)) (pss_one (ps_expr (pe_bm PySem.F.plainAttrs_list PySem.F.slot_list_append PySem.F.type_list_append mt_append (pv 7) (pa_cons (pe_glob (v := .str (Str.ofString "*")) rfl mM ⟨tk, rfl⟩) pa_nil)))) pss_nil)
      (pss_one (ps_asg (pe_call GO.ok hr rfl GO.mg GO.kp GO.bd .nil pass0 (pa_cons (pv 7) pa_nil)) (pg_sub (pv 5) (pv 6) set_list))))))
    (pss_one (ps_ret (pv 5)))))))), ?_⟩
  refine ⟨_, rfl, a, A1, rfl, ha, by omega, fun r H1 hr1 s1 => ?_, fun h H1 s1 => qe (fun z => h z.root) _ s1⟩
  refine ⟨_, rfl, a, A1, rfl, s1 _ _ ha, by omega, fun hI u as H2 s2 U => ?_, fun h H2 s2 => qe (fun z => h z.inR) _ (s1.trans s2)⟩
  rw [<- hab] at U; have hrt := Root1.of.mp hr1; rw [<- hab] at hrt; refine ⟨_, rfl, _, rfl, u, as, ab, kids ab, r, rfl, U.lists, fun _ _ => .refl _, hrt.1, by omega, fun o ord H3 s3 eo BK => ?_⟩
  have B := BK.bfs; have s03 : Same H H3 := s1.trans (s2.trans s3); have ha3 := s03 _ _ ha; have hl : (A1.map vI).length = ab.length := by rw [List.length_map, hlab]
  have hlo : (ord.map vN).length = ord.length := List.length_map _; refine ⟨_, rfl, o, _, rfl, .inl (SqL.of eo), _, rfl, a, _, rfl, .inl (SqL.of ha3), rfl, _, rfl, ?_⟩
  by_cases hw : ord.length = ab.length
  case neg =>
    have hz : ¬ V.int (((ord.map vN).length : Nat) : Int) = V.int (((A1.map vI).length : Nat) : Int) := fun z => by
      have z' := V.int.inj z; rw [hlo, hl] at z'
      omega
    rw [decide_eq_false hz]; refine iteT ⟨(by show 1 <= sizeLine; decide), qe (fun z => ?_) _ s03⟩
    obtain ⟨rk, T⟩ := z.tree hr1; rw [<- hab] at T; exact hw (B.whole T)
  have T := B.tree hrt.1 hrt.2 (by rw [hab]; exact hI.par) hw
  generalize (fun k => ord.idxOf k) = rk at T; refine iteNS (by rw [hlo, hl, hw]) ?_
  refine ⟨(by show 1 <= sizeLine; decide), fun e he => ?_⟩
  have s4 : Same H3 (upd H3 e (.lst [.str (Str.ofString "")])) := same_new he _; refine ⟨_, rfl, a, _, rfl, .inl (SqL.of (s4 _ _ ha3)), e, _, _, rfl, rfl, upd_same, by omega, by rw [hl]; omega, ?_, fun fs hfs => ?_⟩
  . show 1 * _ <= sizeLine
    rw [hl]; exact small (by omega)
  have hrep : (List.replicate (((A1.map vI).length : Nat) : Int).toNat [V.str (Str.ofString "")]).flatten = (List.replicate ab.length ([] : Tx)).map vT := by
    rw [hl, Int.toNat_natCast, List.map_replicate]; have ee : V.str (Str.ofString "") = vT [] := by rw [ep]; rfl
    rw [ee]
    induction ab.length with
    | zero => rfl
    | succ n ih => rw [List.replicate_succ, List.flatten_cons, ih, List.replicate_succ]; rfl
  have hfs3 : H3 fs = none := s4.free hfs
  have F0 : FilledM ab m ord (List.replicate ab.length ([] : Tx)) 0 := ⟨List.length_replicate, fun j k hj hk => by
    have := (List.getElem?_eq_some_iff.mp hk).1
    omega⟩
  refine ⟨_, rfl, o, _, rfl, SqL.of ((s4.trans (same_new hfs _)) _ _ eo), for_rev (K := K) (a := o) (xs := ord.map vN) (fun i σ H4 => ∃ (kn pt : Option V) (ts : List Tx), σ = [some (.ref a), some (vO m), some (vN r), some (.ref u), some (.ref o), some (.ref fs), kn, pt] /\ Same H3 H4 /\ H4 fs = some (.lst (ts.map vT)) /\ FilledM ab m ord ts i)
    ⟨none, none, _, rfl, s4.trans (same_new hfs _), by rw [upd_same, hrep], F0⟩ (fun i σ H4 _ ⟨_, _, _, _, s5, _⟩ => SqL.of (s5 _ _ eo)) ?_ ?_⟩
  . rintro i x σ H4 hi hx p_
    refine hld fun g_ k_ => ?_; obtain ⟨kn, pt, ts, rfl, s5, ef, Fi⟩ := p_; refine k_ ?_; rw [hlo] at hi; rw [hlo] at hx; obtain ⟨k, hk, rfl⟩ := of_map hx; have hkl : k < ab.length := B.lt k (List.mem_iff_getElem?.mpr ⟨_, hk⟩); have hka : k < as.length := by rw [U.len]; exact hkl
    have hc : as[k]? = some as[k] := List.getElem?_eq_getElem hka; have ec3 := s3 _ _ (U.each k _ hc); have ec := s5 _ _ ec3; have hkids := kids_lt_len hrt.1 k; refine ⟨_, rfl, _, rfl, u, _, _, _, rfl, rfl, SqL.of (s5 _ _ (s3 _ _ U.top)), at_map hc, as[k], rfl, ⟨_, SqL.of ec⟩, ?_⟩
    refine comp_list (xs := (kids ab k).map vN) (fun D j ys τ H5 => (∃ o1, τ = [o1, some (.ref fs)]) /\ ys = ((kids ab k).take j).map (fun c => vT (fmM ab m c)) /\ Same H4 H5 /\ H4 D = none /\ H5 D = some (.lst ys)) (small (by rw [List.length_map]; omega))
      (fun D hD => ⟨⟨_, rfl⟩, rfl, same_new hD _, hD, upd_same⟩) (fun D j ys τ H5 _ ⟨_, _, s6, _⟩ => SqL.of (s6 _ _ ec)) ?_ ?_ (fun _ _ _ _ _ h z => h _ _ z) (fun τ H5 Q1 Q2 h z => ?_)
    . rintro D j x ys τ H5 hx hy p_
      refine hld fun g_ k_ => ?_; obtain ⟨⟨o1, rfl⟩, rfl, s6, hD, e6⟩ := p_; refine k_ ?_; obtain ⟨c, hc', rfl⟩ := of_map hx; have hck : c ∈ kids ab k := List.mem_of_getElem? hc'; have hf := Fi.kid B hi hk hck; refine ⟨_, rfl, _, rfl, fs, _, _, _, rfl, rfl, SqL.of (s6 _ _ ef), at_map hf, e6, ⟨_, rfl⟩, ?_, same_upd s6 hD _, hD, upd_same⟩; rw [List.take_add_one, hc', List.map_append]
      rfl
    . rintro D ys τ H5 hy p_
      refine hld fun g_ k_ => ?_; obtain ⟨_, rfl, s6, hD, e6⟩ := p_; refine k_ ?_; rw [List.length_map, List.take_length] at e6; have hm : (kids ab k).map (fun c => vT (fmM ab m c)) = ((kids ab k).map (fmM ab m)).map vT := by rw [List.map_map]; rfl
      rw [hm] at e6; have hlen := fmM_kids_len ab m k; have h2 : 3 * ab.length * ab.length <= 3 * 64 * 64 := Nat.mul_le_mul (Nat.mul_le_mul (Nat.le_refl _) (by omega)) (by omega)
      have eml : V.str (Str.ofString "*") = vT [42] := rfl; refine ⟨_, rfl, _, rfl, by cases m <;> rfl, _, rfl, ?_⟩
      by_cases hmk : m = some k
      case' pos =>
        have ed : decide (vN k = vO m) = true := by rw [hmk]; exact decide_eq_true rfl
        rw [ed]; refine iteT ⟨_, rfl, .inl ⟨rfl, _, SqL.of e6⟩, D, _, _, rfl, rfl, e6, smallt (by rw [List.length_map, List.length_map]; omega), ?_⟩
        have e7 : (upd H5 D (.lst (((kids ab k).map (fmM ab m)).map vT ++ [V.str (Str.ofString "*")]))) D = some (.lst (((kids ab k).map (fmM ab m) ++ mrk m k).map vT)) := by
          rw [upd_same, List.map_append, hmk, mrk_self]
          rfl
        have s7 : Same H4 (upd H5 D (.lst (((kids ab k).map (fmM ab m)).map vT ++ [V.str (Str.ofString "*")]))) := same_upd s6 hD _
        revert e7 s7
        generalize upd H5 D (.lst (((kids ab k).map (fmM ab m)).map vT ++ [V.str (Str.ofString "*")])) = H6; intro e7 s7
      case' neg =>
        have ed : decide (vN k = vO m) = false := decide_eq_false fun z => by
          cases m with
          | none => cases z
          | some j =>
            have := V.int.inj z; exact hmk (by rw [show j = k by omega])
        rw [ed]; refine iteF ?_
        have e7 : H5 D = some (.lst (((kids ab k).map (fmM ab m) ++ mrk m k).map vT)) := by
          rw [show mrk m k = [] from if_neg hmk, List.append_nil]
          exact e6
        have s7 : Same H4 H5 := s6
        revert e7 s7
        generalize H5 = H6; intro e7 s7
      all_goals
        have hm1 : (mrk m k).length <= 1 := by unfold mrk; split <;> simp
        refine ⟨_, rfl, D, _, rfl, e7, by rw [List.length_append, List.length_map]; omega, ?_, fun H7 s8 => ?_⟩
        . rw [List.map_append, List.sum_append, List.map_map]
          have := mrk_len m k; have e9 : ((kids ab k).map ((fun x => x.length) ∘ fmM ab m)) = (kids ab k).map fun c => (fmM ab m c).length := rfl; rw [e9]
          omega
        refine ⟨_, rfl, _, rfl, fs, _, _, k, rfl, rfl, (s7.trans s8) _ _ ef, ixN_nat (by rw [List.length_map, Fi.len]; exact hkl), ?_⟩
        refine ⟨_, _, _, rfl, same_upd (s5.trans (s7.trans s8)) hfs3 _, ?_, Fi.step T B hi hk⟩; rw [upd_same, List.map_set]
    . obtain ⟨v1, h1, v2, h2, p, xs, i', v, e1, e2, e3, e4, e5⟩ := z
      exact ⟨v1, h1, v2, h2, p, xs, i', v, e1, e2, e3, e4, h _ _ e5⟩
  . rintro σ H4 p_
    refine hld fun g_ k_ => ?_; obtain ⟨kn, pt, ts, rfl, s5, ef, Fi⟩ := p_; refine k_ ?_; rw [hlo] at Fi; rw [Fi.all T B] at ef; exact ⟨_, rfl, q ab r rk fs H4 (by rw [hab]; exact hI.back) T (s03.trans s5) (s03.free hfs3) ef⟩
end
end K08
namespace K08
open PySem L2 KM KD PyProof.Rows
section
variable {P : Program} {w : World} {K : PySem.W.Frag} {mg : Str -> Option Value} {base : Heap} {f : Addr} {fd : FuncData}
theorem scForm : FnScope ["above"] ["above"] (defScope sForm) := ⟨rfl, rfl, rfl, by decide +kernel, rfl, by decide +kernel, by decide +kernel⟩
theorem ok_formX {C f1 f2 : Addr} {d1 d2 : FuncData} (F : Fun K "form_of" "form_of" sForm f fd) (GK : KitD P w K mg base 2 "knot_forms" ["above", "marked"] (spKnots C) f1 d1) (GR : KitE P w K mg base 1 "root_of" ["above"] (spRootX C) f2 d2) : FnOk P w K mg base (CXe P w) 3 f fd ["above"] (spFormX C) := by
  refine F.okX scForm (fun vs H Q E h => ?_) (fun cdv A outer s H vs Q E hr h => ?_)
  . obtain ⟨a, A1, rfl, _⟩ := h
    rfl
  obtain ⟨a, A1, rfl, ha, hn, q, qe⟩ := h; refine ⟨_, pss_one (ps_ret (pe_ix ix_list (pe_call GK.ok hr rfl GK.mg GK.kp GK.bd1 vals_non passX (pa_cons (pv 0) pa_nil)) (pe_call GR.ok (hr.mono (by decide)) rfl GR.mg GR.kp GR.bd .nil passX (pa_cons (pv 0) pa_nil)) (fun _ _ => rfl))), ?_⟩
  refine ⟨_, rfl, a, A1, none, rfl, ha, hn, fun ab r rk p H1 e T s1 hp ep => ?_, qe⟩; have hr1 : Root1 A1 r := Root1.of.mpr (by rw [e, map_back]; exact ⟨T.root, T.only⟩)
  refine ⟨_, rfl, a, A1, rfl, s1 _ _ ha, by omega, fun r' H2 hr2 s2 => ?_, fun h => absurd ⟨r, hr1⟩ h⟩
  have : r' = r := hr1.2 r' hr2.1; subst this; refine ⟨p, _, _, _, rfl, rfl, SqL.of (s2 _ _ ep), at_map (fms_get T.rlt), ?_⟩; rw [fmM_none]; exact q ab r' rk H2 e T (s1.trans s2)
end
end K08
namespace K08
open PySem L2 KM KD PyProof.Rows
section
variable {P : Program} {w : World} {K : PySem.W.Frag} {mg : Str -> Option Value} {base : Heap} {f : Addr} {fd : FuncData}
theorem scUpto : FnScope ["_law_script", "_law_small", "_law_great"] ["_law_script", "_law_small", "_law_great"] (defScope sUpto) := ⟨rfl, rfl, rfl, by decide +kernel, rfl, by decide +kernel, by decide +kernel⟩
theorem ok_upto (F : Fun K "_law_upto" "_law_upto" sUpto f fd) (ml : mg "len" = none) : FnOk P w K mg base CX0 1 f fd ["_law_script", "_law_small", "_law_great"] (spUpto K) := by
  refine F.ok scUpto (fun vs H Q E h => ?_) (fun cdv A outer s H vs Q E hr h => ?_)
  . obtain ⟨a, xs, sm, gr, rfl, _⟩ := h
    rfl
  obtain ⟨a, xs, sm, gr, rfl, ha, hn, q⟩ := h; refine ⟨_, pss_cons (ps_if (pt_cmpR op_gt (pe_callB call_len_seq rfl ml PySem.boot_len (pa_cons (pv 0) pa_nil)) pe_int (nomark _)) (pss_one (ps_ret (pv 2))) pss_nil) (pss_one (ps_ret (pv 1))), ?_⟩; refine ⟨_, rfl, a, _, rfl, .inl ha, _, _, rfl, rfl, _, rfl, ?_⟩; rw [show decide ((63 : Int) < ((xs.length : Nat) : Int)) = false from decide_eq_false (by omega)]
  exact iteF ⟨_, rfl, q _ (Same.refl _)⟩
end
end K08
namespace K08
open PySem L2 KM KD PyProof.Rows
section
variable {P : Program} {w : World} {K : PySem.W.Frag} {mg : Str -> Option Value} {base : Heap} {f : Addr} {fd : FuncData}
theorem scWhole : FnScope ["_law_found"] ["_law_found"] (defScope sWhole) := ⟨rfl, rfl, rfl, by decide +kernel, rfl, by decide +kernel, by decide +kernel⟩
theorem ok_whole (F : Fun K "_law_whole" "_law_whole" sWhole f fd) (mi : mg "isinstance" = none) (mn : mg "int" = none) (mb : mg "bool" = none) : FnOk P w K mg base CX0 1 f fd ["_law_found"] spWhole := by
  refine F.ok scWhole (fun vs H Q E h => ?_) (fun cdv A outer s H vs Q E hr h => ?_)
  . obtain ⟨i, rfl, _⟩ := h
    rfl
  obtain ⟨i, rfl, q⟩ := h
  refine ⟨_, pss_one (ps_ret (pe_and (pe_callB call_isi rfl mi boot_isinstance (pa_cons (pv 0) (pa_cons (pe_bltn (v := .ty "int") rfl mn PyProof.Rows.boot_int rfl) pa_nil)))
    (pe_one (pe_not (pe_callB call_isi rfl mi boot_isinstance (pa_cons (pv 0) (pa_cons (pe_bltn (v := .ty "bool") rfl mb PyProof.Rows.boot_bool rfl) pa_nil))))))), ?_⟩
  refine ⟨_, rfl, _, _, _, _, rfl, TyOf.int i, (show PySem.W.kitOne K (.type "int") (.type "int") = some true from rfl), _, rfl, iteT ?_⟩
  refine ⟨_, rfl, _, _, _, _, rfl, TyOf.int i, (show PySem.W.kitOne K (.type "int") (.type "bool") = some false from rfl), _, rfl, ?_⟩
  exact q _ (Same.refl _)
end
end K08
namespace K08
open PySem L2 KM KD PyProof.Rows
section
variable {P : Program} {w : World} {K : PySem.W.Frag} {mg : Str -> Option Value} {base : Heap} {f : Addr} {fd : FuncData}
theorem iteB {c : Bool} {A B : Prop} (h : c = true -> A) (h2 : c = false -> B) : if c = true then A else B := by
  cases c with
  | true => exact iteT (h rfl)
  | false => exact iteF (h2 rfl)
theorem scAt : FnScope ["_law_script", "_law_k"] ["_law_script", "_law_k"] (defScope sAt) := ⟨rfl, rfl, rfl, by decide +kernel, rfl, by decide +kernel, by decide +kernel⟩
theorem ok_at (F : Fun K "_law_at" "_law_at" sAt f fd) (ml : mg "len" = none) : FnOk P w K mg base CX0 1 f fd ["_law_script", "_law_k"] (spAt K) := by
  refine F.ok scAt (fun vs H Q E h => ?_) (fun cdv A outer s H vs Q E hr h => ?_)
  . obtain ⟨a, ns, k, rfl, _⟩ := h
    rfl
  obtain ⟨a, ns, k, rfl, ha, q⟩ := h; refine ⟨_, pss_cons (ps_if (pt_cmpR op_lt (pv 1) (pe_callB call_len_seq rfl ml PySem.boot_len (pa_cons (pv 0) pa_nil)) (nomark _)) (pss_one (ps_ret (pe_ix ix_list (pv 0) (pv 1) (fun _ _ => rfl)))) pss_nil) (pss_one (ps_ret pe_int)), ?_⟩; refine ⟨_, rfl, _, rfl, a, _, rfl, .inl ha, _, _, rfl, rfl, _, rfl, iteB (fun hlt => ?_) fun _ => q 0 H fun _ _ z => z⟩; have hlt := of_decide_eq_true hlt; rw [List.length_map] at hlt; have hk : k < ns.length := by omega
  exact ⟨_, rfl, _, rfl, a, _, _, _, rfl, rfl, ha, at_map (List.getElem?_eq_getElem hk), q _ H fun _ _ z => z⟩
end
end K08
namespace K08
open PySem L2 KM KD PyProof.Rows
section
variable {P : Program} {w : World} {K : PySem.W.Frag} {mg : Str -> Option Value} {base : Heap} {f : Addr} {fd : FuncData}
theorem scRooted : FnScope ["_law_cells", "_law_above", "_law_way", "_law_k", "_law_cell", "_law_spot", "_law_half", "_law_copy", "_law_one"] ["_law_cells"] (defScope sRooted) := ⟨rfl, rfl, rfl, by decide +kernel, rfl, by decide +kernel, by decide +kernel⟩
theorem cut_take (xs : List V) (k : Nat) : cutV xs none (some (k : Int)) = xs.take k := by
  unfold cutV
  rw [HT.sIx_none, HT.sIx_nat, List.drop_zero, Nat.sub_zero]
  by_cases h : k <= xs.length
  . rw [Nat.min_eq_left h]
  . rw [Nat.min_eq_right (by omega), List.take_length, List.take_of_length_le (by omega)]
theorem spot_ok (c k : Int) (hk : 0 < k) : ∃ j : Int, 0 <= j /\ j < k /\ atI [V.int 0, V.int ((k - 1) / 2), V.int (c / 4 % k), V.int (c / 4 % k)] (c % 4) = some (.int j) := by
  have h0 := Int.emod_nonneg (c / 4) (show k ≠ 0 by omega)
  have h1 := Int.emod_lt_of_pos (c / 4) hk; have hc : c % 4 = ((0 : Nat) : Int) \/ c % 4 = ((1 : Nat) : Int) \/ c % 4 = ((2 : Nat) : Int) \/ c % 4 = ((3 : Nat) : Int) := by omega
  rcases hc with e | e | e | e
  . exact ⟨0, by omega, hk, by rw [e]; exact atI_nat rfl⟩
  . exact ⟨(k - 1) / 2, by omega, by omega, by rw [e]; exact atI_nat rfl⟩
  . exact ⟨c / 4 % k, h0, h1, by rw [e]; exact atI_nat rfl⟩
  . exact ⟨c / 4 % k, h0, h1, by rw [e]; exact atI_nat rfl⟩
theorem snocV (ab : Ab) {j : Int} (h : 0 <= j) : ab.map vO ++ [V.int j] = (ab ++ [some j.toNat]).map vO := by
  rw [List.map_append]; have : V.int j = vO (some j.toNat) := by show V.int j = V.int ((j.toNat : Nat) : Int); rw [Int.toNat_of_nonneg h]
  rw [this]
  rfl
theorem ok_rooted (F : Fun K "_law_rooted" "_law_rooted" sRooted f fd) (ml : mg "len" = none) (mr : mg "range" = none) : FnOk P w K mg base CX0 1 f fd ["_law_cells"] spRooted := by
  refine F.ok scRooted (fun vs H Q E h => ?_) (fun cdv A outer s H vs Q E hr h => ?_)
  . obtain ⟨a, ns, rfl, _⟩ := h
    rfl
  obtain ⟨a, ns, rfl, ha, hn, q⟩ := h
  refine ⟨_, pss_cons (ps_set (i := 1) scRooted.nd rfl (Or.inl rfl) (pe_lst (pa_cons pe_non pa_nil)))
    (pss_cons (ps_set (i := 2) scRooted.nd rfl (Or.inl rfl) (pe_op op_mod (pe_ix ix_list (pe_op op_cat (pv 0) (pe_lst (pa_cons pe_int pa_nil))) pe_int (fun _ _ => rfl)) pe_int))
    (pss_cons (ps_for PassesOwn.never rfl (pi_range2 rfl mr (pa_cons pe_int (pa_cons (pe_op op_add (pe_callB call_len_seq rfl ml PySem.boot_len (pa_cons (pv 0) pa_nil)) pe_int) pa_nil))) (pg_name (i := 3) scRooted.nd rfl (Or.inl rfl))
      (pss_cons (ps_set (i := 4) scRooted.nd rfl (Or.inl rfl) (pe_ix ix_list (pv 0) (pe_op op_sub (pv 3) pe_int) (fun _ _ => rfl)))
      (pss_cons (ps_set (i := 5) scRooted.nd rfl (Or.inl rfl) (pe_ix ix_list (pe_lst (pa_cons pe_int (pa_cons (pe_op op_fdiv (pe_op op_sub (pv 3) pe_int) pe_int) (pa_cons (pe_op op_mod (pe_op op_fdiv (pv 4) pe_int) (pv 3)) (pa_cons (pe_op op_mod (pe_op op_fdiv (pv 4) pe_int) (pv 3)) pa_nil))))) (pe_op op_mod (pv 4) pe_int) (fun _ _ => rfl)))
      (pss_cons (ps_if (pt_cmpR op_eq (pv 2) pe_int (nomark _)) (pss_one (ps_set (i := 5) scRooted.nd rfl (Or.inl rfl) (pe_op op_sub (pv 3) pe_int))) pss_nil)
      (pss_cons (ps_if (pt_cmpR op_eq (pv 2) pe_int (nomark _)) (pss_one (ps_set (i := 5) scRooted.nd rfl (Or.inl rfl) pe_int)) pss_nil)
      (pss_one (ps_expr (pe_bm PySem.F.plainAttrs_list PySem.F.slot_list_append PySem.F.type_list_append mt_append (pv 1) (pa_cons (pv 5) pa_nil)))))))))
    (pss_cons (ps_if (PW.pt (pw_and (pt_cmpR op_eq (pv 2) pe_int (nomark _)) (pw_and1 (pt_cmpR op_gt (pe_callB call_len_seq rfl ml PySem.boot_len (pa_cons (pv 0) pa_nil)) pe_int (nomark _)))))
      (pss_cons (ps_set (i := 6) scRooted.nd rfl (Or.inl rfl) (pe_slice sl_list (pv 1) po_none (po_some (pe_op op_fdiv (pe_callB call_len_seq rfl ml PySem.boot_len (pa_cons (pv 0) pa_nil)) pe_int))))
      (pss_cons (ps_set (i := 1) scRooted.nd rfl (Or.inl rfl) (pe_lst (pa_cons pe_non pa_nil)))
      (pss_one (ps_for PassesOwn.never rfl (pi_range1 rfl mr (pa_cons pe_int pa_nil)) (pg_name (i := 7) scRooted.nd rfl (Or.inl rfl))
        (pss_one (ps_for PassesOwn.never rfl (pi_list (pv 6)) (pg_name (i := 8) scRooted.nd rfl (Or.inl rfl))
          (pss_one (ps_if (pt_cmp (pc_isN (pv 8)))
            (pss_one (ps_expr (pe_bm PySem.F.plainAttrs_list PySem.F.slot_list_append PySem.F.type_list_append mt_append (pv 1) (pa_cons pe_int pa_nil))))
            (pss_one (ps_expr (pe_bm PySem.F.plainAttrs_list PySem.F.slot_list_append PySem.F.type_list_append mt_append (pv 1) (pa_cons (pe_op op_add (pe_op op_add (pv 8) pe_int) (pe_op op_mul (pv 7) (pe_callB call_len_seq rfl ml PySem.boot_len (pa_cons (pv 6) pa_nil)))) pa_nil))))))))))))
      pss_nil)
    (pss_one (ps_ret (pv 1)))))), ?_⟩
  have hl : (ns.map V.int).length = ns.length := List.length_map _; refine cutS fun N hN => ?_; refine ⟨(by show 1 <= sizeLine; decide), fun ar har => hN _ _ ?_⟩
  refine cutS fun N hN => ?_; have s1 : Same H (upd H ar (.lst [.non])) := same_new har _; refine ⟨_, rfl, (by show 1 <= sizeLine; decide), fun z hz => ?_⟩
  have s2 : Same H (upd (upd H ar (.lst [.non])) z (.lst [.int 0])) := s1.trans (same_new hz _); refine ⟨a, z, _, _, rfl, rfl, s2 _ _ ha, upd_same, ?_, fun y hy => ?_⟩
  . show _ + 1 <= sizeLine
    rw [hl]; exact small (by omega)
  have s3 := s2.trans (same_new hy (.lst (ns.map V.int ++ [.int 0])))
  obtain ⟨v0, hv0⟩ : ∃ v0 : Int, atI (ns.map V.int ++ [V.int 0]) 0 = some (.int v0) := by
    cases ns with
    | nil => exact ⟨0, atI_nat (j := 0) rfl⟩
    | cons n r => exact ⟨n, atI_nat (j := 0) rfl⟩
  refine ⟨y, _, 0, _, rfl, rfl, SqL.of upd_same, hv0, _, _, rfl, rfl, (by show (0 : Int) < 9; decide), hN _ _ ?_⟩
  refine cutS fun N hN => ?_
  have e1 : (upd (upd (upd H ar (.lst [.non])) z (.lst [.int 0])) y (.lst (ns.map V.int ++ [.int 0]))) ar = some (.lst (([none] : Ab).map vO)) := by
    have h1 : (upd H ar (.lst [.non])) ar = some (.lst [.non]) := upd_same; have h2 := same_new hz (.lst [V.int 0]) _ _ h1; exact same_new hy _ _ _ h2
  refine ⟨_, rfl, a, _, rfl, .inl (SqL.of (s3 _ _ ha)), _, _, rfl, rfl, 1, _, rfl, ⟨by decide, by decide, by omega, by rw [hl]; omega⟩, ?_⟩
  have et : ((((ns.map V.int).length : Nat) : Int) + 1 - 1).toNat = ns.length := by rw [hl]; omega
  rw [et]
  refine for_rangeN (lo := 1) (n := ns.length) (fun i σ H2 => ∃ (o3 o4 o5 : Option V) (ab : Ab), σ = [some (.ref a), some (.ref ar), some (.int (v0 % 9)), o3, o4, o5, none, none, none] /\ Same H H2 /\ H2 ar = some (.lst (ab.map vO)) /\ Up ab /\ ab.length = i + 1)
    ⟨none, none, none, [none], rfl, s3, e1, up1, rfl⟩ ?_ ?_
  . rintro i σ H2 hi p_ M hM
    refine hld fun g_ k_ => ?_; obtain ⟨o3, o4, o5, ab, rfl, s4, ea, U, hab⟩ := p_; refine k_ ?_; have hx : ns[i]? = some ns[i] := List.getElem?_eq_getElem hi; have ei : (1 + (i : Int)) - 1 = (i : Int) := by omega
    obtain ⟨j, hj0, hj1, hj⟩ := spot_ok ns[i] (1 + (i : Int)) (by omega)
    refine cutS fun N1 hN1 => ?_; refine ⟨_, rfl, _, rfl, _, _, rfl, rfl, a, _, _, .int ns[i], rfl, rfl, SqL.of (s4 _ _ ha), by rw [ei]; exact at_map hx, hN1 _ _ ?_⟩
    refine cutS fun N1 hN1 => ?_
    refine ⟨_, rfl, _, _, rfl, rfl, _, _, rfl, rfl, ⟨by decide, by decide⟩, _, rfl, _, _, rfl, rfl, ⟨by decide, by decide⟩, _, rfl, _, _, rfl, rfl, (by show (0 : Int) < 1 + (i : Int); omega),
      _, rfl, _, _, rfl, rfl, ⟨by decide, by decide⟩, _, rfl, _, _, rfl, rfl, (by show (0 : Int) < 1 + (i : Int); omega), (by show 4 <= sizeLine; decide), fun t ht => ?_⟩
    refine ⟨_, rfl, _, _, rfl, rfl, (by show (0 : Int) < 4; decide), t, _, _, _, rfl, rfl, SqL.of upd_same, hj, hN1 _ _ ?_⟩
    have s5 : Same H2 (upd H2 t (.lst [V.int 0, V.int ((1 + (i : Int) - 1) / 2), V.int (ns[i] / 4 % (1 + (i : Int))), V.int (ns[i] / 4 % (1 + (i : Int)))])) := same_new ht _; have ea5 := s5 _ _ ea
    have hz : ∀ {j' : Int} {H3 : Hp} {o3' o4' : Option V}, 0 <= j' -> j' < 1 + (i : Int) -> Same H H3 -> H3 ar = some (.lst (ab.map vO)) ->
        ∃ (o3 o4 o5 : Option V) (ab' : Ab), [some (V.ref a), some (.ref ar), some (.int (v0 % 9)), o3', o4', some (.int j'), none, none, none] = [some (V.ref a), some (.ref ar), some (.int (v0 % 9)), o3, o4, o5, none, none, none] /\
          Same H (upd H3 ar (.lst (ab.map vO ++ [.int j']))) /\ (upd H3 ar (.lst (ab.map vO ++ [.int j']))) ar = some (.lst (ab'.map vO)) /\ Up ab' /\ ab'.length = i + 1 + 1 := by
      intro j' H3 o3' o4' h0 h1 hs he; refine ⟨_, _, _, ab ++ [some j'.toNat], rfl, same_upd hs har _, by rw [upd_same, snocV ab h0], U.snoc (by omega), by rw [List.length_append, hab]; rfl⟩
    have hsz : (ab.map vO).length < sizeLine := by rw [List.length_map, hab]; exact smallt (by omega)
    refine cutS fun N1 hN1 => ?_; refine ⟨_, rfl, rfl, _, rfl, ?_⟩; refine ite2 (fun _ => ?_) (fun _ => ?_)
    . refine ⟨_, rfl, _, _, rfl, rfl, hN1 _ _ ?_⟩
      refine ⟨_, rfl, rfl, _, rfl, ?_⟩; refine ite2 (fun _ => ?_) (fun _ => ?_)
      . exact ⟨_, rfl, .inl ⟨rfl, _, SqL.of ea5⟩, _, rfl, ar, _, _, rfl, rfl, ea5, hsz, hM _ _ (hz (by omega) (by omega) (s4.trans s5) ea5)⟩
      . exact ⟨_, rfl, .inl ⟨rfl, _, SqL.of ea5⟩, _, rfl, ar, _, _, rfl, rfl, ea5, hsz, hM _ _ (hz (by omega) (by omega) (s4.trans s5) ea5)⟩
    . refine hN1 _ _ ?_
      refine ⟨_, rfl, rfl, _, rfl, ?_⟩; refine ite2 (fun _ => ?_) (fun _ => ?_)
      . exact ⟨_, rfl, .inl ⟨rfl, _, SqL.of ea5⟩, _, rfl, ar, _, _, rfl, rfl, ea5, hsz, hM _ _ (hz (by omega) (by omega) (s4.trans s5) ea5)⟩
      . exact ⟨_, rfl, .inl ⟨rfl, _, SqL.of ea5⟩, _, rfl, ar, _, _, rfl, rfl, ea5, hsz, hM _ _ (hz hj0 hj1 (s4.trans s5) ea5)⟩
  . rintro σ H2 p_
    refine hld fun g_ k_ => ?_; obtain ⟨o3, o4, o5, ab, rfl, s4, ea, U, hab⟩ := p_; refine k_ ?_; refine hN _ _ ?_; refine cutS fun N hN => ?_; have done : ∀ {o6 o7 o8 : Option V} {H3 : Hp}, Same H H3 -> H3 ar = some (.lst (ab.map vO)) -> Q (.ref ar) H3 := fun hs he => q ar ab _ hs U (by omega) har he
    refine ⟨_, rfl, rfl, _, rfl, ?_⟩; refine ite2 (fun _ => ?_) (fun _ => ?_)
    . refine ⟨_, rfl, a, _, rfl, .inl (SqL.of (s4 _ _ ha)), _, _, rfl, rfl, _, rfl, ?_⟩
      refine ite2 (fun c => ?_) (fun _ => ?_)
      . have c' := of_decide_eq_true c
        rw [hl] at c'; have ed : (((ns.map V.int).length : Nat) : Int) / 2 = ((ns.length / 2 : Nat) : Int) := by rw [hl]; omega
        refine ⟨_, rfl, _, rfl, a, _, rfl, .inl (SqL.of (s4 _ _ ha)), _, _, rfl, rfl, ⟨by decide, by decide⟩, _, rfl, ar, _, rfl, SqL.of ea, fun hf hhf => ?_⟩
        rw [ed, cut_take, <- List.map_take]; have Uh : Up (ab.take (ns.length / 2)) := U.take (by omega)
        have hh : (ab.take (ns.length / 2)).length = ns.length / 2 := by rw [List.length_take]; omega
        have s5 := same_new hhf (.lst ((ab.take (ns.length / 2)).map vO)); refine ⟨(by show 1 <= sizeLine; decide), fun br hbr => ?_⟩
        have s6 := same_new hbr (.lst [V.non]); have ehf := s6 _ _ (show (upd H2 hf (.lst ((ab.take (ns.length / 2)).map vO))) hf = _ from upd_same)
        have nbr : H br = none := (s4.trans s5).free hbr; have nhb : hf ≠ br := ne_of_none upd_same hbr
        refine ⟨2, rfl, by decide, by decide, for_rangeN (n := 2) (fun c σ H3 => ∃ (o7 o8 : Option V) (wb : Ab), σ = [some (.ref a), some (.ref br), some (.int (v0 % 9)), o3, o4, o5, some (.ref hf), o7, o8] /\ Same H H3 /\ H3 hf = some (.lst ((ab.take (ns.length / 2)).map vO)) /\ H3 br = some (.lst (wb.map vO)) /\ Up wb /\ wb.length = 1 + c * (ns.length / 2))
          ⟨none, none, [none], rfl, s4.trans (s5.trans s6), ehf, upd_same, up1, by simp⟩ ?_ ?_⟩
        . rintro c σ H3 hc p_ M hM
          refine hld fun g_ k_ => ?_; obtain ⟨o7, o8, wb, rfl, s7, e7, eb, Uw, hw⟩ := p_; refine k_ ?_
          refine ⟨_, rfl, hf, rfl, ⟨_, SqL.of e7⟩, for_listN (K := K) (a := hf) (xs := (ab.take (ns.length / 2)).map vO) (fun j σ H4 => ∃ (o8 : Option V) (wb : Ab), σ = [some (.ref a), some (.ref br), some (.int (v0 % 9)), o3, o4, o5, some (.ref hf), some (.int (0 + (c : Int))), o8] /\ Same H H4 /\ H4 hf = some (.lst ((ab.take (ns.length / 2)).map vO)) /\ H4 br = some (.lst (wb.map vO)) /\ Up wb /\ wb.length = 1 + c * (ns.length / 2) + j)
            ⟨o8, wb, rfl, s7, e7, eb, Uw, hw⟩ (fun j σ H4 _ ⟨_, _, _, _, e8, _⟩ => SqL.of e8) ?_ ?_⟩
          . rintro j x σ H4 hx p_ M1 hM1
            refine hld fun g_ k_ => ?_; obtain ⟨o8, wb, rfl, s8, e8, eb, Uw, hw⟩ := p_; refine k_ ?_; obtain ⟨o, ho, rfl⟩ := of_map hx; have hjl : j < ns.length / 2 := by have := (List.getElem?_eq_some_iff.mp ho).1; rw [hh] at this; exact this
            have hbl : (wb.map vO).length < sizeLine := by
              rw [List.length_map, hw]; have : c * (ns.length / 2) <= 2 * (ns.length / 2) := Nat.mul_le_mul_right _ (by omega)
              exact smallt (by omega)
            have fin : ∀ {v : Int} {ox : Option V}, 0 <= v -> v < (wb.length : Int) -> ∃ (o8 : Option V) (wb' : Ab), [some (V.ref a), some (.ref br), some (.int (v0 % 9)), o3, o4, o5, some (.ref hf), some (.int (0 + (c : Int))), ox] = [some (V.ref a), some (.ref br), some (.int (v0 % 9)), o3, o4, o5, some (.ref hf), some (.int (0 + (c : Int))), o8] /\
                Same H (upd H4 br (.lst (wb.map vO ++ [.int v]))) /\ (upd H4 br (.lst (wb.map vO ++ [.int v]))) hf = some (.lst ((ab.take (ns.length / 2)).map vO)) /\ (upd H4 br (.lst (wb.map vO ++ [.int v]))) br = some (.lst (wb'.map vO)) /\ Up wb' /\ wb'.length = 1 + c * (ns.length / 2) + (j + 1) := by
              intro v ox h0 h1; exact ⟨ox, wb ++ [some v.toNat], rfl, same_upd s8 nbr _, by rw [upd_ne nhb]; exact e8, by rw [upd_same, snocV wb h0], Uw.snoc (by omega), by rw [List.length_append, hw]; rfl⟩
            have hwp := Uw.pos; refine ⟨_, rfl, _, rfl, ?_⟩
            cases o with
            | none =>
              exact iteT ⟨_, rfl, .inl ⟨rfl, _, SqL.of eb⟩, br, _, _, rfl, rfl, eb, hbl, hM1 _ _ (fin (by omega) (by omega))⟩
            | some p =>
              have hpj : p < j := by
                by_cases hj0 : 0 < j
                . obtain ⟨p', hp', hlt⟩ := Uh.up j hj0 (by rw [hh]; exact hjl)
                  rw [ho] at hp'
                  cases hp'
                  exact hlt
                . have : j = 0 := by omega
                  subst this; rw [Uh.root] at ho
                  cases ho
              have hlen : (((ab.take (ns.length / 2)).map vO).length : Nat) = ns.length / 2 := by rw [List.length_map, hh]
              refine iteF ⟨_, rfl, .inl ⟨rfl, _, SqL.of eb⟩, _, rfl, _, _, rfl, rfl, _, rfl, _, rfl, hf, _, rfl, .inl (SqL.of e8), _, _, rfl, rfl, .inl ⟨by omega, by omega⟩, _, _, rfl, rfl, br, _, _, rfl, rfl, eb, hbl, hM1 _ _ (fin ?_ ?_)⟩
              . have : (0 : Int) <= (0 + (c : Int)) * (((ab.take (ns.length / 2)).map vO).length : Nat) := Int.mul_nonneg (by omega) (by omega)
                omega
              . rw [hlen, hw]
                have : (0 + (c : Int)) * ((ns.length / 2 : Nat) : Int) = ((c * (ns.length / 2) : Nat) : Int) := by rw [Int.zero_add, Int.natCast_mul]
                rw [this]
                omega
          . rintro σ H4 p_
            refine hld fun g_ k_ => ?_; obtain ⟨o8, wb, rfl, s8, e8, eb, Uw, hw⟩ := p_; refine k_ ?_; rw [List.length_map, hh] at hw; exact hM _ _ ⟨_, _, wb, rfl, s8, e8, eb, Uw, by rw [hw, Nat.add_mul]; omega⟩
        . rintro σ H3 p_
          refine hld fun g_ k_ => ?_; obtain ⟨o7, o8, wb, rfl, s7, e7, eb, Uw, hw⟩ := p_; refine k_ ?_; exact hN _ _ ⟨_, rfl, q br wb _ s7 Uw (by omega) nbr eb⟩
      . exact hN _ _ ⟨_, rfl, q ar ab _ s4 U (by omega) har ea⟩
    . exact iteF (hN _ _ ⟨_, rfl, q ar ab _ s4 U (by omega) har ea⟩)
end
end K08
namespace K08
open PySem L2 KM KD PyProof.Rows
section
variable {P : Program} {w : World} {K : PySem.W.Frag} {mg : Str -> Option Value} {base : Heap} {f : Addr} {fd : FuncData}
theorem scMatesOf : FnScope ["one_order", "other_order", "mates", "knot", "mate"] ["one_order", "other_order"] (defScope sMatesOf) := ⟨rfl, rfl, rfl, by decide +kernel, rfl, by decide +kernel, by decide +kernel⟩
theorem ok_mates (F : Fun K "mates_of" "mates_of" sMatesOf f fd) (ml : mg "len" = none) (mz : mg "zip" = none) : FnOk P w K mg base CX0 1 f fd ["one_order", "other_order"] spMates := by
  refine F.ok scMatesOf (fun vs H Q E h => ?_) (fun cdv A outer s H vs Q E hr h => ?_)
  . obtain ⟨a, b, ord, ord', rfl, _⟩ := h
    rfl
  obtain ⟨a, b, ord, ord', rfl, ha, hb, hl, nd, hlt, hn, q⟩ := h
  refine ⟨_, pss_cons (ps_set (i := 2) scMatesOf.nd rfl (Or.inl rfl) (pe_op op_rep (pe_lst (pa_cons pe_int pa_nil)) (pe_callB call_len_seq rfl ml PySem.boot_len (pa_cons (pv 0) pa_nil))))
    (pss_cons (ps_for PassesOwn.never rfl (pi_zip rfl mz (pa_cons (pv 0) (pa_cons (pv 1) pa_nil))) (pg_tup rfl (pgs_cons (pg_name (i := 3) scMatesOf.nd rfl (Or.inl rfl)) (pgs_cons (pg_name (i := 4) scMatesOf.nd rfl (Or.inl rfl)) pgs_nil)))
      (pss_one (ps_asg (pv 4) (pg_sub (pv 2) (pv 3) set_list))))
    (pss_one (ps_ret (pv 2)))), ?_⟩
  have hlo : (ord.map vN).length = ord.length := List.length_map _; refine ⟨(by show 1 <= sizeLine; decide), fun e he => ?_⟩
  have s4 : Same H (upd H e (.lst [.int 0])) := same_new he _; refine ⟨_, rfl, a, _, rfl, .inl (SqL.of (s4 _ _ ha)), e, _, _, rfl, rfl, upd_same, by omega, by rw [hlo]; omega, ?_, fun fs hfs => ?_⟩
  . show 1 * _ <= sizeLine
    rw [hlo]; exact small (by omega)
  have hrep : (List.replicate (((ord.map vN).length : Nat) : Int).toNat [V.int 0]).flatten = (List.replicate ord.length 0).map vN := by
    rw [hlo, Int.toNat_natCast, List.map_replicate]; have ee : V.int 0 = vN 0 := rfl; rw [ee]
    induction ord.length with
    | zero => rfl
    | succ n ih => rw [List.replicate_succ, List.flatten_cons, ih, List.replicate_succ]; rfl
  have hfs0 : H fs = none := s4.free hfs; have s5 : Same H (upd (upd H e (.lst [.int 0])) fs (.lst (List.replicate (((ord.map vN).length : Nat) : Int).toNat [V.int 0]).flatten)) := s4.trans (same_new hfs _)
  refine ⟨_, rfl, _, rfl, a, b, rfl, ⟨_, SqL.of (s5 _ _ ha)⟩, ⟨_, SqL.of (s5 _ _ hb)⟩, for_zip (K := K) (a := a) (b := b) (xs := ord.map vN) (ys := ord'.map vN) (by rw [List.length_map, List.length_map, hl])
    (fun i σ H3 => ∃ (o1 o2 : Option V) (mt : List Nat), σ = [some (.ref a), some (.ref b), some (.ref fs), o1, o2] /\ Same H H3 /\ H3 fs = some (.lst (mt.map vN)) /\ MatesTo ord ord' mt i)
    ⟨_, _, _, rfl, s5, by rw [upd_same, hrep], matesTo0 ord ord'⟩ (fun i σ H3 _ ⟨_, _, _, _, s6, _⟩ => ⟨SqL.of (s6 _ _ ha), SqL.of (s6 _ _ hb)⟩) ?_ ?_⟩
  . rintro i x y p σ H3 hx hy p_ hp
    refine hld fun g_ k_ => ?_; obtain ⟨o1, o2, mt, rfl, s6, em, M⟩ := p_; refine k_ ?_; obtain ⟨k, hk, rfl⟩ := of_map hx; obtain ⟨k', hk', rfl⟩ := of_map hy; have hkl : k < ord.length := hlt k (List.mem_of_getElem? hk); have hfp : fs ≠ p := ne_of_none em hp; refine ⟨p, _, rfl, SqT.of upd_same, rfl, _, _, rfl, _, _, rfl, rfl, ?_⟩; refine ⟨_, rfl, _, rfl, _, rfl, fs, _, _, k, rfl, rfl, (by rw [upd_ne hfp]; exact em), ixN_nat (by rw [List.length_map, M.len]; exact hkl), ?_⟩
    refine ⟨_, _, _, rfl, same_upd (s6.trans (same_new hp _)) hfs0 _, ?_, M.step nd hk hk' hkl⟩; rw [upd_same, List.map_set]
  . rintro σ H3 p_
    refine hld fun g_ k_ => ?_; obtain ⟨o1, o2, mt, rfl, s6, em, M⟩ := p_; refine k_ ?_; rw [hlo] at M; exact ⟨_, rfl, q fs mt H3 s6 hfs0 em M⟩
theorem scByForms : FnScope ["above", "forms", "under"] ["above", "forms"] (defScope sByForms) := ⟨rfl, rfl, rfl, by decide +kernel, rfl, by decide +kernel, by decide +kernel⟩
theorem ndPaF : (["parts", "forms"] : List Str).Nodup := by decide +kernel
theorem lamF : LamIx (lamOf sByForms).1 (lamOf sByForms).2.1 (lamOf sByForms).2.2.1 "part" "forms" := ⟨⟨_, _, _, rfl⟩, rfl, rfl, rfl, rfl, by decide +kernel, by decide, by decide, by decide, fun _ _ _ _ _ _ => rfl⟩
theorem ok_byForms {T c bm f1 f2 f3 : Addr} {d1 d2 d3 : FuncData} (F : FunC K "by_forms" "by_forms" sByForms f c fd) (GU : Kit P w K mg base 1 "knots_under" ["above"] spUnder f1 d1) (GD : Kit P w K mg base 1 "downward" ["root", "under"] spDownK f2 d2)
    (GR : Kit P w K mg base 1 "root_of" ["above"] spRoot f3 d3) (ms : mg "sorted" = none) (ck : CodeK K c T) (hcT : c ≠ T) (hgT : mainGlobals ≠ T) (bk : BltK K base bm) (hbT : bm ≠ T) : FnOk P w K mg base CX0 2 f fd ["above", "forms"] (spByForms T (lamOf sByForms).2.2.2 lqF) := by
  refine F.ok scByForms (fun vs H Q E h => ?_) (fun A outer s H vs Q E hr h => ?_)
  . obtain ⟨a, b, ab, r, rk, m, rfl, _⟩ := h
    rfl
  obtain ⟨a, b, ab, r, rk, m, rfl, ha, hb, Tr, hn, ht, q⟩ := h
  refine ⟨_, pss_cons (ps_setComp (N' := ["parts", "forms"]) (js := [none, some 1]) (i := 2) scByForms.nd rfl (Or.inl rfl)
      (CompOk.free1 (x := "forms") (nms := [(".0", .local), ("parts", .local), ("sorted", .globalImplicit), ("forms", .cell)]) rfl (by decide +kernel) (by decide +kernel) rfl rfl rfl rfl (by decide +kernel) (by
        intro j i h
        match j, h with
        | 0, h => cases h
        | 1, h => cases h; exact ⟨rfl, rfl⟩) rfl (Or.inl rfl)) rfl
      (pi_list (pe_call GU.ok hr rfl GU.mg GU.kp GU.bd .nil pass0 (pa_cons (pv 0) pa_nil))) (fun _ _ _ _ => pg_name (i := 0) ndPaF rfl (Or.inl rfl)) (fun _ _ _ _ => pif_nil)
      (fun _ _ _ _ => pe_sortKeyC (j := 1) K lqF rfl rfl lamF rfl rfl rfl ck hcT hgT bk hbT hr.depth rfl ms (pv 0) rfl (Or.inl rfl) (Or.inr (Or.inl rfl)) (closure_one rfl rfl) rfl (by intro z; cases z)))
    (pss_one (ps_ret (pe_call GD.ok hr rfl GD.mg GD.kp GD.bd .nil pass0 (pa_cons (pe_call GR.ok hr rfl GR.mg GR.kp GR.bd .nil pass0 (pa_cons (pv 0) pa_nil)) (pa_cons (pv 2) pa_nil))))), ?_⟩
  refine ⟨_, rfl, a, ab, rfl, ha, fun j p hj => (Tr.up j p hj).1, by omega, fun u as H1 s1 U => ?_⟩
  refine ⟨u, rfl, ⟨_, SqL.of U.top⟩, ?_⟩; have hla : (as.map V.ref).length = ab.length := by rw [List.length_map, U.len]
  have ht1 := ht.same s1; have huT : u ≠ T := ht1.ne U.top (fun _ z => nomatch z); have hbT1 : b ≠ T := ht1.ne (s1 _ _ hb) (fun _ z => nomatch z); have haT1 : a ≠ T := ht1.ne (s1 _ _ ha) (fun _ z => nomatch z)
  refine comp_list (xs := as.map V.ref) (fun D i ys τ H5 => (∃ o1, τ = [o1, some (.ref b)]) /\ SameT T H1 H5 /\ Tab T (lamOf sByForms).2.2.2 lqF H5 /\ H1 D = none /\ H5 D = some (.lst ys) /\ ∃ (Ls : List Addr) (ks : List (List Nat)), ys = Ls.map V.ref /\ Ls.length = i /\ ks.length = i /\
      (∀ (t : Nat) (c : Addr) (g : List Nat), Ls[t]? = some c -> ks[t]? = some g -> H5 c = some (.lst (g.map vN)) /\ c ≠ D /\ c ≠ T) /\ ∀ (t : Nat) (g : List Nat), ks[t]? = some g -> g.Perm (kids ab t) /\ (g.map (fmM ab m)).Pairwise (fun a b => a <= b))
    (small (by rw [hla]; omega)) (fun D hD => ?_) (fun D i ys τ H5 _ ⟨_, st, _⟩ => SqL.of (st _ _ huT U.top)) ?_ ?_ (fun _ _ _ _ _ h z => h _ _ z) sortK_mono
  . have hDT : D ≠ T := ht1.new hD
    refine ⟨⟨_, rfl⟩, .of (same_new hD _), ht1.same (same_new hD _), hD, upd_same, [], [], rfl, rfl, rfl, fun t c g h => ?_, fun t g h => ?_⟩
    . cases h
    . cases h
  . rintro D i x ys τ H5 hx hy p_
    refine hld fun g_ k_ => ?_; obtain ⟨⟨o1, rfl⟩, st, tb, hD, e5, Ls, ks, rfl, l1, l2, each, srt⟩ := p_; refine k_ ?_; obtain ⟨c0, hc0, rfl⟩ := of_map hx; have hil : i < ab.length := by rw [<- U.len]; exact (List.getElem?_eq_some_iff.mp hc0).1
    have ec1 := U.each i c0 hc0; have hcT0 : c0 ≠ T := ht1.ne ec1 (fun _ z => nomatch z); have ec := st _ _ hcT0 ec1; have eb := st _ _ hbT1 (s1 _ _ hb); have hDT : D ≠ T := ht1.new hD; have hkids := kids_lt_len Tr.root i; rw [<- vT_map] at eb; refine ⟨_, rfl, _, rfl, c0, b, kids ab i, (fms ab m).map mkS, rfl, SqL.of ec, rfl, SqL.of eb, fun k hk => by rw [List.length_map, fms_len]; exact kids_lt hk, by omega, tb, fun L out H6 st6 tb6 hL1 hL2 hpm hasc => ?_⟩
    have hLT : L ≠ T := tb.new hL1; have e6D : H6 D = some (.lst (Ls.map V.ref)) := st6 _ _ hDT e5; have hLD : D ≠ L := ne_of_none e6D hL2; have hD6 : (upd H6 L (.lst (out.map fun k : Nat => V.int (k : Int)))) D = some (.lst (Ls.map V.ref)) := by rw [upd_ne hLD]; exact e6D
    have s6 : SameT T H1 (upd (upd H6 L (.lst (out.map fun k : Nat => V.int (k : Int)))) D (.lst (Ls.map V.ref ++ [.ref L]))) := fun b o n h => by
      have h6 := st6 _ _ n (st _ _ n h); rw [upd_ne (ne_of_none h hD), upd_ne (ne_of_none h6 hL2)]; exact h6
    have t6 : Tab T (lamOf sByForms).2.2.2 lqF (upd (upd H6 L (.lst (out.map fun k : Nat => V.int (k : Int)))) D (.lst (Ls.map V.ref ++ [.ref L]))) := by
      have tL := tb6.same (same_new hL2 (.lst (out.map fun k : Nat => V.int (k : Int))))
      rcases tL with t | ⟨c', t, t2⟩
      . exact .inl (by rw [upd_ne (Ne.symm hDT)]; exact t)
      . exact .inr ⟨c', by rw [upd_ne (Ne.symm hDT)]; exact t, by rw [upd_ne (ne_of t2 hD6 (fun z => nomatch z))]; exact t2⟩
    have hsrt : (out.map (fmM ab m)).Pairwise (fun a b => a <= b) := by
      refine List.pairwise_map.mpr (hasc.imp_of_mem ?_); intro x y mx my hxy
      have e : ∀ z, z ∈ out -> (((fms ab m).map mkS).getD z ⟨#[]⟩).cps.toList = fmM ab m z := fun z hz => by
        have hzl := kids_lt (hpm.mem_iff.mp hz); rw [List.getD_eq_getElem?_getD, List.getElem?_map, fms_get hzl]; exact mkS_list _
      rw [e x mx, e y my] at hxy; exact List.not_lt.mp hxy
    refine ⟨hD6, ⟨_, rfl⟩, s6, t6, hD, upd_same, Ls ++ [L], ks ++ [out], by rw [List.map_append]; rfl, by rw [List.length_append, l1]; rfl, by rw [List.length_append, l2]; rfl, fun t c g hc hg => ?_, fun t g hg => ?_⟩
    . by_cases htl : t < i
      . rw [List.getElem?_append_left (by omega)] at hc hg
        obtain ⟨h1, h2, h3⟩ := each t c g hc hg; have h6 := st6 _ _ h3 h1; exact ⟨by rw [upd_ne h2, upd_ne (ne_of_none h6 hL2)]; exact h6, h2, h3⟩
      . rw [List.getElem?_append_right (by omega)] at hc hg
        have ht0 : t - Ls.length = 0 := by
          have := (List.getElem?_eq_some_iff.mp hc).1; rw [List.length_singleton] at this
          omega
        have ht1 : t - ks.length = 0 := by omega
        rw [ht0] at hc; rw [ht1] at hg; have z1 : L = c := Option.some.inj hc; have z2 : out = g := Option.some.inj hg; subst z1 z2; exact ⟨by rw [upd_ne (Ne.symm hLD), upd_same]; rfl, Ne.symm hLD, hLT⟩
    . by_cases htl : t < i
      . rw [List.getElem?_append_left (by omega)] at hg
        exact srt t g hg
      . rw [List.getElem?_append_right (by omega)] at hg
        have ht1 : t - ks.length = 0 := by
          have := (List.getElem?_eq_some_iff.mp hg).1; rw [List.length_singleton] at this
          omega
        rw [ht1] at hg; have z2 : out = g := Option.some.inj hg; subst z2; have : t = i := by omega
        subst this; exact ⟨hpm, hsrt⟩
  . rintro D ys τ H5 hy p_
    refine hld fun g_ k_ => ?_; obtain ⟨_, st, tb, hD, e5, Ls, ks, rfl, l1, l2, each, srt⟩ := p_; refine k_ ?_; rw [hla] at l1 l2; have haT : a ≠ T := haT1; refine ⟨_, rfl, a, ab, r, rk, rfl, st _ _ haT (s1 _ _ ha), Tr, by omega, fun H7 s7 => ?_⟩
    have hks : ∀ k, k < ab.length -> ∃ g, ks[k]? = some g /\ ks.getD k [] = g := fun k hk => by
      have h1 : k < ks.length := by omega
      exact ⟨ks[k], List.getElem?_eq_getElem h1, by rw [List.getD_eq_getElem?_getD, List.getElem?_eq_getElem h1]; rfl⟩
    refine ⟨_, rfl, D, Ls, ab, (fun k => ks.getD k []), r, rfl, ⟨s7 _ _ e5, l1, fun k c hc => ?_⟩, fun k hk => ?_, Tr.root, by omega, fun o ord H8 s8 eo B => ?_⟩
    . have hk : k < ab.length := by rw [<- l1]; exact (List.getElem?_eq_some_iff.mp hc).1
      obtain ⟨g, hg, eg⟩ := hks k hk
      try dsimp only
      rw [eg]; exact s7 _ _ (each k c g hc hg).1
    . obtain ⟨g, hg, eg⟩ := hks k hk
      try dsimp only
      rw [eg]; exact (srt k g hg).1
    . refine q o ord _ H8 ((SameT.of s1).trans (st.trans ((SameT.of s7).trans (SameT.of s8)))) (tb.same (s7.trans s8)) eo ⟨fun k hk => ?_, fun k hk => ?_⟩ B
      . obtain ⟨g, hg, eg⟩ := hks k hk
        try dsimp only
        rw [eg]; exact (srt k g hg).1
      . obtain ⟨g, hg, eg⟩ := hks k hk
        try dsimp only
        rw [eg]; exact (srt k g hg).2
end
end K08
namespace K08
open PySem L2 KM KD PyProof.Rows
section
variable {P : Program} {w : World} {K : PySem.W.Frag} {mg : Str -> Option Value} {base : Heap} {f : Addr} {fd : FuncData}
theorem scMatched : FnScope ["one", "other", "one_forms", "other_forms", "one_form", "other_form"] ["one", "other"] (defScope sMatched) := ⟨rfl, rfl, rfl, by decide +kernel, rfl, by decide +kernel, by decide +kernel⟩
theorem ok_matched {C T f1 f2 f3 f4 : Addr} {lp : Pos} {d1 d2 d3 d4 : FuncData} (F : Fun K "matched" "matched" sMatched f fd) (GK : KitD P w K mg base 2 "knot_forms" ["above", "marked"] (spKnots C) f1 d1) (GR : KitE P w K mg base 1 "root_of" ["above"] (spRootX C) f2 d2)
    (GB : Kit P w K mg base 2 "by_forms" ["above", "forms"] (spByForms T lp lqF) f3 d3) (GM : Kit P w K mg base 1 "mates_of" ["one_order", "other_order"] spMates f4 d4) : FnOk P w K mg base (CXe P w) 3 f fd ["one", "other"] (spMatched C T lp lqF) := by
  refine F.okX scMatched (fun vs H Q E h => ?_) (fun cdv A outer s H vs Q E hr h => ?_)
  . obtain ⟨a, b, A1, B1, rfl, _⟩ := h
    rfl
  obtain ⟨a, b, A1, B1, rfl, ha, hb, hA, hB, ht, q, qe⟩ := h; have hr1 : Room 1 _ := hr.mono (by decide)
  refine ⟨_, pss_cons (ps_set (i := 2) scMatched.nd rfl (Or.inl rfl) (pe_call GK.ok hr rfl GK.mg GK.kp GK.bd1 vals_non passX (pa_cons (pv 0) pa_nil)))
    (pss_cons (ps_set (i := 3) scMatched.nd rfl (Or.inl rfl) (pe_call GK.ok hr rfl GK.mg GK.kp GK.bd1 vals_non passX (pa_cons (pv 1) pa_nil)))
    (pss_cons (ps_set (i := 4) scMatched.nd rfl (Or.inl rfl) (pe_ix ix_list (pv 2) (pe_call GR.ok hr1 rfl GR.mg GR.kp GR.bd .nil passX (pa_cons (pv 0) pa_nil)) (fun _ _ => rfl)))
    (pss_cons (ps_set (i := 5) scMatched.nd rfl (Or.inl rfl) (pe_ix ix_list (pv 3) (pe_call GR.ok hr1 rfl GR.mg GR.kp GR.bd .nil passX (pa_cons (pv 1) pa_nil)) (fun _ _ => rfl)))
    (pss_cons (ps_if (pt_cmpR op_ne (pv 4) (pv 5) (nomark _)) (pss_one (ps_ret (pe_tup (pa_cons pe_str (pa_cons (pv 4) (pa_cons (pv 5) pa_nil)))))) pss_nil)
    (pss_one (ps_ret (pe_tup (pa_cons pe_str (pa_cons (pe_call GM.ok hr1 rfl GM.mg GM.kp GM.bd .nil pass0 (pa_cons (pe_call GB.ok hr rfl GB.mg GB.kp GB.bd .nil pass0 (pa_cons (pv 0) (pa_cons (pv 2) pa_nil))) (pa_cons (pe_call GB.ok hr rfl GB.mg GB.kp GB.bd .nil pass0 (pa_cons (pv 1) (pa_cons (pv 3) pa_nil))) pa_nil))) pa_nil))))))))), ?_⟩
  refine ⟨_, rfl, a, A1, none, rfl, ha, hA, fun ab r rk p1 H1 e1 T1 s1 hp1 ep1 => ?_, fun h H1 s1 => qe (fun z => h z.1) _ s1⟩; refine ⟨_, rfl, b, B1, none, rfl, s1 _ _ hb, hB, fun ab' r' rk' p2 H2 e2 T2 s2 hp2 ep2 => ?_, fun h H2 s2 => qe (fun z => h z.2) _ (s1.trans s2)⟩; have hr1' : Root1 A1 r := Root1.of.mpr (by rw [e1, map_back]; exact ⟨T1.root, T1.only⟩)
  have hr2' : Root1 B1 r' := Root1.of.mpr (by rw [e2, map_back]; exact ⟨T2.root, T2.only⟩)
  have s02 := s1.trans s2; refine ⟨_, rfl, _, rfl, a, A1, rfl, s02 _ _ ha, by omega, fun r0 H3 hr0 s3 => ?_, fun h => absurd ⟨r, hr1'⟩ h⟩
  have er : r0 = r := hr1'.2 r0 hr0.1; subst er; refine ⟨p1, _, _, _, rfl, rfl, SqL.of (s3 _ _ (s2 _ _ ep1)), at_map (fms_get T1.rlt), ?_⟩; refine ⟨_, rfl, _, rfl, b, B1, rfl, (s02.trans s3) _ _ hb, by omega, fun r1 H4 hr0' s4 => ?_, fun h => absurd ⟨r', hr2'⟩ h⟩
  have er' : r1 = r' := hr2'.2 r1 hr0'.1; subst er'; have s04 := s02.trans (s3.trans s4); refine ⟨p2, _, _, _, rfl, rfl, SqL.of ((s3.trans s4) _ _ ep2), at_map (fms_get T2.rlt), ?_⟩; refine ⟨_, rfl, _, rfl, rfl, _, rfl, ?_⟩; obtain ⟨qn, qy⟩ := q ab ab' r0 r1 rk rk' e1 e2 T1 T2; have ht4 := ht.same s04
  by_cases hf : fm ab r0 = fm ab' r1
  . have hz : vT (fmM ab none r0) = vT (fmM ab' none r1) := by rw [fmM_none, fmM_none, hf]
    refine iteNS hz ?_; have ha4 := s04 _ _ ha; have hb4 := s04 _ _ hb; rw [e1, map_vI] at ha4; rw [e2, map_vI] at hb4; have l1 : ab.length < 64 := by rw [e1, List.length_map] at hA; exact hA
    have l2 : ab'.length < 64 := by rw [e2, List.length_map] at hB; exact hB
    refine ⟨_, rfl, _, rfl, a, p1, ab, r0, rk, none, rfl, ha4, (s2.trans (s3.trans s4)) _ _ ep1, T1, l1, ht4, fun o1 ord1 kd1 H5 st5 tb5 eo1 S1 B1 => ?_⟩; have hbT : b ≠ T := ht4.ne hb4 (fun _ z => nomatch z); have hp2T : p2 ≠ T := ht4.ne ((s3.trans s4) _ _ ep2) (fun _ z => nomatch z); refine ⟨_, rfl, _, rfl, b, p2, ab', r1, rk', none, rfl, st5 _ _ hbT hb4, st5 _ _ hp2T ((s3.trans s4) _ _ ep2), T2, l2, tb5, fun o2 ord2 kd2 H6 st6 tb6 eo2 S2 B2 => ?_⟩; obtain ⟨hlen, hmt⟩ := mates_are T1 T2 S1 S2 (by rw [fmM_none, fmM_none]; exact hf) B1 B2
    have n1 : ord1.length = ab.length := by rw [(B1.perm T1 S1.perm).length_eq, List.length_range]
    have ho1T : o1 ≠ T := tb5.ne eo1 (fun _ z => nomatch z); refine ⟨o1, o2, ord1, ord2, rfl, st6 _ _ ho1T eo1, eo2, hlen, B1.nd, fun k hk => by rw [n1]; exact B1.lt k hk, by omega, fun l mt H7 s7 hl7 em M => ?_⟩
    refine ⟨(by show 2 <= sizeLine; decide), fun t htn => ?_⟩
    have st : SameT T H (upd H7 t (.tup [.str (Str.ofString "alike"), .ref l])) := (SameT.of s04).trans (st5.trans (st6.trans ((SameT.of s7).trans (SameT.of (same_new htn _))))); have tb7 := tb6.same (s7.trans (same_new htn (.tup [.str (Str.ofString "alike"), .ref l]))); have tb7' := tb6.same s7; have htH : H t = none := (((SameT.of s04).trans (st5.trans (st6.trans (SameT.of s7)))).free tb7' htn).resolve_left (tb7'.new htn); exact qy hf t l mt _ st tb7 htH upd_same (by rw [upd_ne (ne_of_none em htn)]; exact em) (hmt mt M).1
  . have hz : ¬ vT (fmM ab none r0) = vT (fmM ab' none r1) := by rw [fmM_none, fmM_none, vT_inj]; exact hf
    rw [decide_eq_false hz]; refine iteT ⟨_, rfl, _, rfl, (by show 3 <= sizeLine; decide), fun t htn => ?_⟩
    rw [fmM_none, fmM_none]; exact qn hf t _ (.of (s04.trans (same_new htn _))) (ht4.same (same_new htn _)) (s04.free htn) upd_same
end
end K08
namespace K08
open PySem L2 KM KD PyProof.Rows
section
variable {P : Program} {w : World} {K : PySem.W.Frag} {mg : Str -> Option Value} {base : Heap} {f : Addr} {fd : FuncData}
theorem scSwaps : FnScope ["forms", "met", "ways", "form"] ["forms"] (defScope sSwaps) := ⟨rfl, rfl, rfl, by decide +kernel, rfl, by decide +kernel, by decide +kernel⟩
def Met (l : List Tx) (kvs : List (Key × V)) : Prop := kvs.length <= l.length /\ ∀ x : Tx, valV kvs (.inr (mkS x)) = if l.count x = 0 then none else some (.int ((l.count x : Nat) : Int))
theorem Met.get {l : List Tx} {kvs : List (Key × V)} (M : Met l kvs) (x : Tx) : (valV kvs (.inr (mkS x))).getD (.int 0) = .int ((l.count x : Nat) : Int) := by
  rw [M.2 x]
  by_cases h : l.count x = 0
  . rw [if_pos h, h]; rfl
  . rw [if_neg h]; rfl
theorem Met.put {l : List Tx} {kvs : List (Key × V)} (M : Met l kvs) (x : Tx) : Met (l ++ [x]) (putK kvs (.inr (mkS x)) (.int (((l.count x : Nat) : Int) + 1))) := by
  refine ⟨Nat.le_trans (length_putK _ _ _) (by rw [List.length_append, List.length_singleton]; have := M.1; omega), fun y => ?_⟩
  rw [valV_put, List.count_append]
  by_cases h : y = x
  . subst h
    rw [if_pos rfl, List.count_singleton_self, if_neg (by omega)]
    rfl
  . rw [if_neg (fun z => h (KM.mkS_inj (Sum.inr.inj z))), M.2 y, List.count_singleton]
    have hb : (x == y) = false := beq_eq_false_iff_ne.mpr (fun z => h z.symm); rw [hb]
    rfl
theorem ok_swaps (F : Fun K "swaps" "swaps" sSwaps f fd) : FnOk P w K mg base CX0 1 f fd ["forms"] spSwaps := by
  refine F.ok scSwaps (fun vs H Q E h => ?_) (fun cdv A outer s H vs Q E hr h => ?_)
  . obtain ⟨a, ts, rfl, _⟩ := h
    rfl
  obtain ⟨a, ts, rfl, ha, hn, q⟩ := h
  refine ⟨_, pss_cons (ps_set (i := 1) scSwaps.nd rfl (Or.inl rfl) pe_dnewK)
    (pss_cons (ps_set (i := 2) scSwaps.nd rfl (Or.inl rfl) pe_int)
    (pss_cons (ps_for PassesOwn.never rfl (pi_list (pv 0)) (pg_name (i := 3) scSwaps.nd rfl (Or.inl rfl))
      (pss_cons (ps_dput hr.units1 (pv 1) (pv 3) (pe_op op_add (pe_dget2 hr.units1 (pv 1) (pv 3) pe_int ⟨rfl, rfl, rfl, rfl⟩) pe_int) rfl)
      (pss_one (ps_set (i := 2) scSwaps.nd rfl (Or.inl rfl) (pe_op op_mul (pv 2) (pe_dget hr.units1 (pv 1) (pv 3) (fun _ _ => rfl)))))))
    (pss_one (ps_ret (pv 2))))), ?_⟩
  refine fun d hd => ?_; have s1 : Same H (upd H d (.dK [])) := same_new hd _
  refine ⟨_, rfl, a, rfl, ⟨_, SqL.of (s1 _ _ ha)⟩, for_list (K := K) (a := a) (xs := ts.map vT)
    (fun i σ H3 => ∃ (o : Option V) (kvs : List (Key × V)), σ = [some (.ref a), some (.ref d), some (.int ((swp (ts.take i) : Nat) : Int)), o] /\ Same H H3 /\ H3 d = some (.dK kvs) /\ Met (ts.take i) kvs)
    ⟨_, _, rfl, s1, upd_same, Nat.zero_le _, fun x => rfl⟩ (fun i σ H3 _ ⟨_, _, _, s2, _⟩ => SqL.of (s2 _ _ ha)) ?_ ?_⟩
  . rintro i x σ H3 hx p_
    refine hld fun g_ k_ => ?_; obtain ⟨o, kvs, rfl, s2, ed, M⟩ := p_; refine k_ ?_; obtain ⟨t, ht, rfl⟩ := of_map hx; have hil : i < ts.length := (List.getElem?_eq_some_iff.mp ht).1; have hti : ts.take (i + 1) = ts.take i ++ [t] := by rw [List.take_succ, ht]; rfl
    have hlt : (ts.take i).length <= 20 := by rw [List.length_take]; omega
    refine ⟨_, rfl, d, rfl, .inl ⟨_, .inl ed⟩, _, rfl, _, DGet.k (k := .inr (mkS t)) ed, _, _, M.get t, rfl, ?_⟩; refine ⟨_, rfl, _, rfl, d, _, rfl, DPut.k (k := .inr (mkS t)) ed (smallt (by have := M.1; omega)), ?_⟩
    have M' := M.put t; rw [<- hti] at M'; refine ⟨_, rfl, _, rfl, _, rfl, d, _, rfl, .inl ⟨_, .inr (mkS t), .inl upd_same, rfl, ((valV_put _ _ _ _).trans (if_pos rfl)).symm⟩, ?_⟩; have hc : (ts.take i).count t + 1 <= 1000 := by have := List.count_le_length (a := t) (l := ts.take i); omega
    refine ⟨_, _, rfl, rfl, .inr ⟨?_, ?_⟩, some (vT t), _, ?_, same_upd s2 hd _, upd_same, M'⟩
    . show (-(2 ^ 64) : Int) < (((ts.take i).count t : Nat) : Int) + 1
      omega
    . show (((ts.take i).count t : Nat) : Int) + 1 < 2 ^ 64
      omega
    . rw [hti, swp_snoc]
      show [_, _, some (V.int (((swp (ts.take i) : Nat) : Int) * ((((ts.take i).count t : Nat) : Int) + 1))), _] = _
      rw [Int.natCast_mul, Int.natCast_add]
      rfl
  . rintro σ H3 p_
    refine hld fun g_ k_ => ?_; obtain ⟨o, kvs, rfl, s2, ed, M⟩ := p_; refine k_ ?_; rw [List.length_map, List.take_length]; exact ⟨_, rfl, q _ s2⟩
end
end K08
namespace K08
open PySem L2 KM KD PyProof.Rows
section
variable {P : Program} {w : World} {K : PySem.W.Frag} {mg : Str -> Option Value} {base : Heap} {f : Addr} {fd : FuncData}
theorem scHowMany : FnScope ["above", "forms", "ways", "parts"] ["above"] (defScope sHowMany) := ⟨rfl, rfl, rfl, by decide +kernel, rfl, by decide +kernel, by decide +kernel⟩
theorem ndPFh : (["part", "forms"] : List Str).Nodup := by decide +kernel
theorem fact20 : fact 20 < 2 ^ 64 := by decide
theorem ok_howMany {C f1 f2 f3 : Addr} {d1 d2 d3 : FuncData} (F : Fun K "how_many" "how_many" sHowMany f fd) (GK : KitD P w K mg base 2 "knot_forms" ["above", "marked"] (spKnots C) f1 d1) (GU : KitE P w K mg base 1 "knots_under" ["above"] (spUnderX C) f2 d2)
    (GS : Kit P w K mg base 1 "swaps" ["forms"] spSwaps f3 d3) : FnOk P w K mg base (CXe P w) 3 f fd ["above"] (spHowMany C) := by
  refine F.okX scHowMany (fun vs H Q E h => ?_) (fun cdv A outer s H vs Q E hr h => ?_)
  . obtain ⟨a, A1, rfl, _⟩ := h
    rfl
  obtain ⟨a, A1, rfl, ha, hn, q, qe⟩ := h; have hr1 : Room 1 _ := hr.mono (by decide)
  refine ⟨_, pss_cons (ps_set (i := 1) scHowMany.nd rfl (Or.inr rfl) (pe_call GK.ok hr rfl GK.mg GK.kp GK.bd1 vals_non passX (pa_cons (pv 0) pa_nil)))
    (pss_cons (ps_set (i := 2) scHowMany.nd rfl (Or.inl rfl) pe_int)
    (pss_cons (ps_for ownX rfl (pi_list (pe_call GU.ok hr1 rfl GU.mg GU.kp GU.bd .nil passX (pa_cons (pv 0) pa_nil))) (pg_name (i := 3) scHowMany.nd rfl (Or.inl rfl))
      (pss_one (ps_set (i := 2) scHowMany.nd rfl (Or.inl rfl) (pe_op op_mul (pv 2) (pe_call GS.ok hr1 rfl GS.mg GS.kp GS.bd .nil pass0 (pa_cons
        (pe_comp (N' := ["part", "forms"]) (js := [none, some 1])
          (CompOk.free1 (x := "forms") (nms := [(".0", .local), ("part", .local), ("forms", .cell)]) rfl (by decide +kernel) (by decide +kernel) rfl rfl rfl rfl (by decide +kernel) (by
            intro j i h
            match j, h with
            | 0, h => cases h
            | 1, h => cases h; exact ⟨rfl, rfl⟩) rfl (Or.inl rfl)) rfl
          (pi_list (pv 3)) (fun _ _ _ _ => pg_name (i := 0) ndPFh rfl (Or.inl rfl)) (fun _ _ _ _ => pif_nil) (fun _ _ _ _ => pe_ix ix_listC (pv 1) (pv 0) (fun _ _ => rfl))) pa_nil))))))
    (pss_one (ps_ret (pv 2))))), ?_⟩
  refine ⟨_, rfl, a, A1, none, rfl, ha, by omega, fun ab r rk p1 H1 e1 T1 s1 hp1 ep1 => ?_, fun h H1 s1 => qe h _ s1⟩
  have hnab : ab.length <= 20 := by rw [e1, List.length_map] at hn; exact hn
  refine ⟨_, rfl, a, A1, rfl, s1 _ _ ha, by omega, fun hI u as H2 s2 U => ?_, fun h => absurd (rtd_of e1 T1).inR h⟩
  rw [e1, map_back] at U; have s02 := s1.trans s2; have ep1 := s2 _ _ ep1
  refine ⟨u, rfl, ⟨_, SqL.of U.top⟩, for_list (K := K) (a := u) (xs := as.map V.ref)
    (fun i σ H3 => (∃ o : Option V, σ = [some (.ref a), some (.ref p1), some (.int ((waysTo ab i : Nat) : Int)), o]) /\ Same H2 H3)
    ⟨⟨_, rfl⟩, Same.refl _⟩ (fun i σ H3 _ ⟨_, s3⟩ => SqL.of (s3 _ _ U.top)) ?_ ?_⟩
  . rintro i x σ H3 hx ⟨⟨o, rfl⟩, s3⟩
    obtain ⟨c, hc, rfl⟩ := of_map hx; have hil : i < ab.length := by rw [<- U.len]; exact (List.getElem?_eq_some_iff.mp hc).1
    have ec := s3 _ _ (U.each i c hc); have hkids := kids_lt_len T1.root i; refine ⟨_, rfl, _, rfl, c, rfl, ⟨_, SqL.of ec⟩, ?_⟩
    refine comp_list (xs := (kids ab i).map vN) (fun D j ys τ H5 => (∃ o1, τ = [o1, some (.ref p1)]) /\ ys = ((kids ab i).take j).map (fun c => vT (fmM ab none c)) /\ Same H3 H5 /\ H3 D = none /\ H5 D = some (.lst ys)) (small (by rw [List.length_map]; omega))
      (fun D hD => ⟨⟨_, rfl⟩, rfl, same_new hD _, hD, upd_same⟩) (fun D j ys τ H5 _ ⟨_, _, s6, _⟩ => SqL.of (s6 _ _ ec)) ?_ ?_ (fun _ _ _ _ _ h z => h _ _ z) (fun τ H5 Q1 Q2 h z => ?_)
    . rintro D j x ys τ H5 hx hy p_
      refine hld fun g_ k_ => ?_; obtain ⟨⟨o1, rfl⟩, rfl, s6, hD, e6⟩ := p_; refine k_ ?_; obtain ⟨c, hc', rfl⟩ := of_map hx; have hck : c < ab.length := (List.getElem?_eq_some_iff.mp (mem_kids.mp (List.mem_of_getElem? hc'))).1; refine ⟨_, rfl, _, rfl, p1, _, _, _, rfl, rfl, SqL.of ((s3.trans s6) _ _ ep1), at_map (fms_get hck), e6, ⟨_, rfl⟩, ?_, same_upd s6 hD _, hD, upd_same⟩; rw [List.take_add_one, hc', List.map_append]
      rfl
    . rintro D ys τ H5 hy p_
      refine hld fun g_ k_ => ?_; obtain ⟨_, rfl, s6, hD, e6⟩ := p_; refine k_ ?_; rw [List.length_map, List.take_length] at e6
      have hm : (kids ab i).map (fun c => vT (fmM ab none c)) = ((kids ab i).map (fm ab)).map vT := by
        rw [List.map_map]; exact List.map_congr_left fun c _ => by rw [fmM_none]; rfl
      rw [hm] at e6; have hk20 : (kids ab i).length <= 20 := by omega
      refine ⟨D, _, rfl, e6, by rw [List.length_map]; exact hk20, fun H6 s7 => ?_⟩
      have hle : swp ((kids ab i).map (fm ab)) < 2 ^ 64 := by
        refine Nat.lt_of_le_of_lt (swp_le _) (Nat.lt_of_le_of_lt (fact_mono ?_) fact20); rw [List.length_map]; exact hk20
      refine ⟨_, _, rfl, rfl, .inr ⟨?_, ?_⟩, ⟨some (.ref c), ?_⟩, s3.trans (s6.trans s7)⟩
      . omega
      . omega
      . show [_, _, some (V.int (((waysTo ab i : Nat) : Int) * ((swp ((kids ab i).map (fm ab)) : Nat) : Int))), _] = _
        rw [<- Int.natCast_mul]
        rfl
    . obtain ⟨v1, h1, v2, h2, p, xs, i', v, e1, e2, e3, e4, e5⟩ := z
      exact ⟨v1, h1, v2, h2, p, xs, i', v, e1, e2, e3, e4, h _ _ e5⟩
  . rintro σ H3 ⟨⟨o, rfl⟩, s3⟩
    rw [List.length_map, U.len]; exact ⟨_, rfl, q ab r rk _ e1 T1 (s02.trans s3)⟩
end
end K08
namespace K08
open PySem L2 KM KD PyProof.Rows
section
variable {P : Program} {w : World} {K : PySem.W.Frag} {mg : Str -> Option Value} {base : Heap} {f : Addr} {fd : FuncData}
theorem scGrouped : FnScope ["marks", "groups", "knot", "mark"] ["marks"] (defScope sGrouped) := ⟨rfl, rfl, rfl, by decide +kernel, rfl, by decide +kernel, by decide +kernel⟩
theorem ok_grouped (F : Fun K "grouped" "grouped" sGrouped f fd) (me : mg "enumerate" = none) (mli : mg "list" = none) : FnOk P w K mg base CX0 1 f fd ["marks"] spGrouped := by
  refine F.ok scGrouped (fun vs H Q E h => ?_) (fun cdv A outer s H vs Q E hr h => ?_)
  . obtain ⟨a, ts, rfl, _⟩ := h
    rfl
  obtain ⟨a, ts, rfl, ha, hn, q⟩ := h
  refine ⟨_, pss_cons (ps_set (i := 1) scGrouped.nd rfl (Or.inl rfl) pe_dnewK)
    (pss_cons (ps_for PassesOwn.never rfl (pi_enum rfl me (pa_cons (pv 0) pa_nil)) (pg_tup rfl (pgs_cons (pg_name (i := 2) scGrouped.nd rfl (Or.inl rfl)) (pgs_cons (pg_name (i := 3) scGrouped.nd rfl (Or.inl rfl)) pgs_nil)))
      (pss_one (ps_expr (pe_bm PySem.F.plainAttrs_list PySem.F.slot_list_append PySem.F.type_list_append mt_append (pe_dsetdef (pv 1) (pv 3) (pe_lst pa_nil) ⟨rfl, rfl, rfl, rfl⟩) (pa_cons (pv 2) pa_nil)))))
    (pss_one (ps_ret (pe_listVals rfl rfl mli (pv 1))))), ?_⟩
  refine fun d hd => ?_; have s1 : Same H (upd H d (.dK [])) := same_new hd _
  refine ⟨_, rfl, a, rfl, ⟨_, SqL.of (s1 _ _ ha)⟩, for_enum (K := K) (a := a) (xs := ts.map vT)
    (fun i σ H3 => (∃ o1 o2, σ = [some (.ref a), some (.ref d), o1, o2]) /\ ∃ as, GrpIn ts i H H3 d as)
    ⟨⟨_, _, rfl⟩, [], s1, hd, upd_same, rfl, List.nodup_nil, (fun c hc => (nomatch hc)), (fun j c k h => (nomatch h))⟩ (fun i σ H3 _ ⟨_, _, G⟩ => SqL.of (G.same _ _ ha)) ?_ ?_⟩
  . rintro i x p σ H3 hx p_ hp
    refine hld fun g_ k_ => ?_; obtain ⟨⟨o1, o2, rfl⟩, as, G⟩ := p_; refine k_ ?_; obtain ⟨t, ht, rfl⟩ := of_map hx; have hil : i < ts.length := (List.getElem?_eq_some_iff.mp ht).1; have G1 := G.up (same_new hp (.tup [.int i, vT t])); refine ⟨p, _, rfl, SqT.of upd_same, rfl, _, _, rfl, _, _, rfl, rfl, ?_⟩; refine ⟨_, rfl, d, rfl, .inl ⟨_, .inl G1.top⟩, _, rfl, (by show 0 <= sizeLine; decide), fun c hc => ?_⟩
    have G2 := G1.up (same_new hc (.lst [])); have hkl := kvOf_len ts (fsE (eqAt ts) i) as; have hfl := fsE_len (eqAt ts) i; refine ⟨_, .inr (mkS t), G2.top, rfl, smallt (by omega), fun v hv => ?_, fun hv => ?_⟩
    . obtain ⟨c', g, rfl, ec, hg, G3⟩ := G2.hit ht hv
      refine ⟨.inl ⟨rfl, _, SqL.of ec⟩, _, rfl, c', _, _, rfl, rfl, ec, smallt (by rw [List.length_map]; omega), ⟨_, _, rfl⟩, as, G3⟩
    . have G3 := G1.miss ht hv hc
      have hdc : c ≠ d := Ne.symm (ne_of_none G1.top hc); have ec : (upd (upd (upd H3 p (.tup [.int i, vT t])) c (.lst [])) d (.dK (kvOf ts (fsE (eqAt ts) i) as ++ [(.inr (mkS t), V.ref c)]))) c = some (.lst []) := by rw [upd_ne hdc, upd_same]
      refine ⟨.inl ⟨rfl, _, SqL.of ec⟩, _, rfl, c, _, _, rfl, rfl, ec, smallt (Nat.zero_le _), ⟨_, _, rfl⟩, _, G3⟩
  . rintro σ H3 p_
    refine hld fun g_ k_ => ?_; obtain ⟨⟨o1, o2, rfl⟩, as, G⟩ := p_; refine k_ ?_; rw [List.length_map] at G; have hkl := kvOf_len ts (fsE (eqAt ts) ts.length) as; have hfl := fsE_len (eqAt ts) ts.length; refine ⟨_, rfl, d, _, rfl, G.top, by omega, fun l hl => q l as _ (G.same.trans (same_new hl _)) ?_⟩
    exact G.done hl
end
end K08
namespace K08
open PySem L2 KM KD PyProof.Rows
section
variable {P : Program} {w : World} {K : PySem.W.Frag} {mg : Str -> Option Value} {base : Heap} {f : Addr} {fd : FuncData}
theorem scBeside : FnScope ["tree", "lines", "beside", "line"] ["tree"] (defScope sKnotsBeside) := ⟨rfl, rfl, rfl, by decide +kernel, rfl, by decide +kernel, by decide +kernel⟩
theorem ndKn1 : (["knot"] : List Str).Nodup := by decide +kernel
theorem ok_beside {C : Addr} (F : Fun K "knots_beside" "knots_beside" sKnotsBeside f fd) (ml : mg "len" = none) (mr : mg "range" = none) (mn : mg "min" = none) (mx : mg "max" = none) (mC : mg "NoTree" = some (.ref C)) (xc : XC K C) : FnOk P w K mg base (CXe P w) 1 f fd ["tree"] (spBeside C) := by
  refine F.okX scBeside (fun vs H Q E h => ?_) (fun cdv A outer s H vs Q E hr h => ?_)
  . obtain ⟨t, L, ps, c, li, rfl, _⟩ := h
    rfl
  obtain ⟨t, L, ps, c, li, rfl, G, hn, q, qe⟩ := h
  refine ⟨_, pss_cons (ps_set (i := 1) scBeside.nd rfl (Or.inl rfl) (pe_ix ix_tup (pv 0) pe_int (fun _ _ => rfl)))
    (pss_cons (ps_if (pt_cmpR op_ne (pe_ix ix_tup (pv 0) pe_int (fun _ _ => rfl)) (pe_op op_add (pe_callB call_len_seq rfl ml PySem.boot_len (pa_cons (pv 1) pa_nil)) pe_int) (nomark _)) (pss_one (ps_raise xc rfl xraise rfl mC (pa_cons pe_str pa_nil))) pss_nil)
    (pss_cons (ps_setComp (N' := ["knot"]) (js := [none]) (i := 2) scBeside.nd rfl (Or.inl rfl) (CompOk.plain rfl (by decide +kernel) (by decide +kernel) rfl (by decide)) rfl
        (pi_range1 rfl mr (pa_cons (pe_ix ix_tup (pv 0) pe_int (fun _ _ => rfl)) pa_nil)) (fun _ _ _ _ => pg_name (i := 0) ndKn1 rfl (Or.inl rfl)) (fun _ _ _ _ => pif_nil) (fun _ _ _ _ => pe_lst pa_nil))
    (pss_cons (ps_for ownX rfl (pi_list (pv 1)) (pg_name (i := 3) scBeside.nd rfl (Or.inl rfl))
      (pss_cons (ps_if (PW.pt (pw_or (pt_cmpR op_lt (pe_callB (call_minT rfl) rfl mn PyProof.Rows.boot_min (pa_cons (pv 3) pa_nil)) pe_int (nomark _))
          (pw_or1 (pt_cmpR op_ge (pe_callB (call_maxT rfl) rfl mx PyProof.Rows.boot_max (pa_cons (pv 3) pa_nil)) (pe_callB call_len_seq rfl ml PySem.boot_len (pa_cons (pv 2) pa_nil)) (nomark _))))) (pss_one (ps_raise xc rfl xraise rfl mC (pa_cons pe_str pa_nil))) pss_nil)
      (pss_cons (ps_expr (pe_bm PySem.F.plainAttrs_list PySem.F.slot_list_append PySem.F.type_list_append mt_append (pe_ix ix_list (pv 2) (pe_ix ix_tup (pv 3) pe_int (fun _ _ => rfl)) (fun _ _ => rfl)) (pa_cons (pe_ix ix_tup (pv 3) pe_int (fun _ _ => rfl)) pa_nil)))
      (pss_one (ps_expr (pe_bm PySem.F.plainAttrs_list PySem.F.slot_list_append PySem.F.type_list_append mt_append (pe_ix ix_list (pv 2) (pe_ix ix_tup (pv 3) pe_int (fun _ _ => rfl)) (fun _ _ => rfl)) (pa_cons (pe_ix ix_tup (pv 3) pe_int (fun _ _ => rfl)) pa_nil)))))))
    (pss_one (ps_ret (pv 2)))))), ?_⟩
  have one : (1 : Nat) <= sizeLine := by decide
  have hpl : ps.length = li.length := by rw [G.ls.len, List.length_map]
  have hl : (ps.map V.ref).length = li.length := by rw [List.length_map, hpl]
  refine ⟨_, rfl, t, _, _, _, rfl, rfl, SqT.of G.tup, rfl, ?_⟩; refine ⟨_, rfl, t, _, _, _, rfl, rfl, SqT.of G.tup, rfl, _, rfl, L, _, rfl, .inl (SqL.of G.ls.top), _, _, rfl, rfl, rfl, _, rfl, ?_⟩
  by_cases hc : c = ((li.length : Nat) : Int) + 1
  case neg =>
    rw [decide_eq_false (show ¬ V.int c = V.int ((((ps.map V.ref).length : Nat) : Int) + 1) from fun z => hc (by have := V.int.inj z; rw [hl] at this; exact this))]
    exact iteT ⟨one, qe (fun z => hc z.len) _ (Same.refl _)⟩
  refine iteNS (by rw [hl, hc]) ?_
  have hcn : c = ((li.length + 1 : Nat) : Int) := by omega
  refine ⟨_, rfl, t, _, _, _, rfl, rfl, SqT.of G.tup, rfl, c, rfl, by omega, by omega, ?_⟩
  rw [show c.toNat = li.length + 1 by omega]
  refine comp_range (fun D i ys τ H2 => (∃ o, τ = [o]) /\ ∃ bs : List Addr, ys = bs.map V.ref /\ bs.length = i /\ bs.Nodup /\ Same H H2 /\ H D = none /\ H2 D = some (.lst ys) /\ ∀ b ∈ bs, H b = none /\ H2 b = some (.lst []) /\ b ≠ D)
    (fun D hD => ⟨⟨_, rfl⟩, [], rfl, rfl, List.nodup_nil, same_new hD _, hD, upd_same, fun b hb => (nomatch hb)⟩) ?_ ?_
  . rintro D i ys τ H2 hi p_
    refine hld fun g_ k_ => ?_; obtain ⟨⟨o, rfl⟩, bs, rfl, hbi, nd, s2, hD, e2, each⟩ := p_; refine k_ ?_
    dsimp only [gName, tAlways]
    rw [if_pos rfl]; refine ⟨(by show 0 <= sizeLine; decide), fun p hp => ?_⟩
    have hpD : D ≠ p := ne_of_none e2 hp; refine ⟨by rw [upd_ne hpD]; exact e2, smallt (by rw [List.length_map]; omega), Nx.mk hi ⟨⟨_, rfl⟩, bs ++ [p], by rw [List.map_append]; rfl, by rw [List.length_append, hbi]; rfl, ?_, ?_, hD, upd_same, fun b hb => ?_⟩⟩
    . rw [List.nodup_append]
      refine ⟨nd, by simp, fun b hb b' hb' e => ?_⟩
      rw [List.mem_singleton] at hb'; subst hb' e; rw [(each _ hb).2.1] at hp
      cases hp
    . exact same_upd (s2.trans (same_new hp _)) hD _
    . rcases List.mem_append.mp hb with h | h
      . obtain ⟨h1, h2, h3⟩ := each b h
        exact ⟨h1, by rw [upd_ne h3, upd_ne (ne_of_none h2 hp)]; exact h2, h3⟩
      . rw [List.mem_singleton] at h
        subst h; exact ⟨s2.free hp, by rw [upd_ne (Ne.symm hpD), upd_same], Ne.symm hpD⟩
  rintro D ys τ H2 p_
  refine hld fun g_ k_ => ?_; obtain ⟨_, bs, rfl, hbl, nd, s2, hD, e2, each⟩ := p_; refine k_ ?_; have B0 : LsAt H H2 D bs (near ((ofL li).take 0)) := ⟨s2, e2, nd, fun b hb => (each b hb).1, hD, fun k b h => (each b (List.mem_of_getElem? h)).2.1⟩; have hbm : (bs.map V.ref).length = li.length + 1 := by rw [List.length_map, hbl]
  refine ⟨_, rfl, L, rfl, ⟨_, SqL.of (s2 _ _ G.ls.top)⟩, for_list (K := K) (a := L) (xs := ps.map V.ref) (fun i σ H3 => (∃ o, σ = [some (.ref t), some (.ref L), some (.ref D), o]) /\ (∀ (j : Nat) (p : Int × Int), j < i -> li[j]? = some p -> (0 <= p.1 /\ p.1 < c) /\ 0 <= p.2 /\ p.2 < c) /\ LsAt H H3 D bs (near ((ofL li).take i)))
    ⟨⟨_, rfl⟩, fun j p h => absurd h (Nat.not_lt_zero _), B0⟩ (fun i σ H3 _ ⟨_, _, B⟩ => SqL.of (B.same _ _ G.ls.top)) ?_ ?_⟩
  . rintro i x σ H3 hx p_
    obtain ⟨⟨o, rfl⟩, hin, B⟩ := p_; obtain ⟨d, hd, rfl⟩ := of_map hx; have hil : i < li.length := by rw [<- hpl]; exact (List.getElem?_eq_some_iff.mp hd).1
    have hli : li[i]? = some li[i] := List.getElem?_eq_getElem hil; obtain ⟨d', hd', ed'⟩ := LinesAt.at (G.ls.up B.same) hil; rw [hd] at hd'
    cases hd'
    generalize hpq : li[i] = pq at hli ed'; obtain ⟨pa, pb⟩ := pq; have edI : SqT K H3 d ([pa, pb].map V.int) := SqT.of ed'
    have hmin : ∃ m, m ∈ [pa, pb] /\ ∀ n ∈ [pa, pb], m <= n := by
      by_cases h : pa <= pb
      . exact ⟨pa, by simp, fun n hn => by rcases List.mem_cons.mp hn with rfl | hn; omega; rw [List.mem_singleton] at hn; omega⟩
      . exact ⟨pb, by simp, fun n hn => by rcases List.mem_cons.mp hn with rfl | hn; omega; rw [List.mem_singleton] at hn; omega⟩
    have hmax : ∃ m, m ∈ [pa, pb] /\ ∀ n ∈ [pa, pb], n <= m := by
      by_cases h : pb <= pa
      . exact ⟨pa, by simp, fun n hn => by rcases List.mem_cons.mp hn with rfl | hn; omega; rw [List.mem_singleton] at hn; omega⟩
      . exact ⟨pb, by simp, fun n hn => by rcases List.mem_cons.mp hn with rfl | hn; omega; rw [List.mem_singleton] at hn; omega⟩
    obtain ⟨mi, mi1, mi2⟩ := hmin; obtain ⟨ma, ma1, ma2⟩ := hmax; have bad : ¬ ((0 <= pa /\ pa < c) /\ 0 <= pb /\ pb < c) -> ¬ ValidL c li := fun h z => h (z.lt _ (List.mem_of_getElem? hli)); refine ⟨_, rfl, d, [pa, pb], mi, rfl, edI, mi1, mi2, _, _, rfl, rfl, _, rfl, ?_⟩
    by_cases hmi : mi < 0
    . rw [decide_eq_true hmi]
      refine iteT (iteT ⟨one, qe (bad fun z => ?_) _ B.same⟩)
      rcases List.mem_cons.mp mi1 with rfl | h
      . omega
      . rw [List.mem_singleton] at h; omega
    rw [decide_eq_false hmi]; refine iteF ⟨_, rfl, d, [pa, pb], ma, rfl, edI, ma1, ma2, _, rfl, D, _, rfl, .inl (SqL.of B.top), _, _, rfl, rfl, _, rfl, ?_⟩
    by_cases hma : c <= ma
    . rw [decide_eq_true (show (((bs.map V.ref).length : Nat) : Int) <= ma by rw [hbm]; omega)]
      refine iteT ⟨one, qe (bad fun z => ?_) _ B.same⟩
      rcases List.mem_cons.mp ma1 with rfl | h
      . omega
      . rw [List.mem_singleton] at h; omega
    rw [decide_eq_false (show ¬ (((bs.map V.ref).length : Nat) : Int) <= ma by rw [hbm]; omega)]
    have g1 := mi2 pa (by simp)
    have g2 := mi2 pb (by simp)
    have g3 := ma2 pa (by simp)
    have g4 := ma2 pb (by simp)
    obtain ⟨x1, hx1⟩ := Int.eq_ofNat_of_zero_le (show 0 <= pa by omega)
    obtain ⟨x2, hx2⟩ := Int.eq_ofNat_of_zero_le (show 0 <= pb by omega)
    subst hx1 hx2; have hb1 : x1 < bs.length := by omega
    have hb2 : x2 < bs.length := by omega
    have hc1 := List.getElem?_eq_getElem hb1; have hc2 := List.getElem?_eq_getElem hb2; have ec1 := B.each x1 _ hc1
    have hnl : ∀ k, (near ((ofL li).take i) k).length <= 1000 := fun k => by
      refine Nat.le_trans (near_len _ k) ?_; rw [List.length_take]
      omega
    refine iteF ⟨_, rfl, _, rfl, d, _, _, _, rfl, rfl, SqT.of ed', rfl, D, _, _, _, rfl, rfl, SqL.of B.top, at_map hc1, .inl ⟨rfl, _, SqL.of ec1⟩, _, rfl, d, _, _, _, rfl, rfl, SqT.of ed', rfl, bs[x1], _, _, rfl, rfl, ec1, smallt (by rw [List.length_map]; exact Nat.le_trans (hnl x1) (by decide)), ?_⟩
    have B1 := B.push (x := x2) hc1; have ed1 := LinesAt.at (G.ls.up B1.same) hil; obtain ⟨d', hd', ed1⟩ := ed1; rw [hd] at hd'
    cases hd'
    rw [hpq] at ed1; have ec2 := B1.each x2 _ hc2; refine ⟨_, rfl, _, rfl, d, _, _, _, rfl, rfl, SqT.of ed1, rfl, D, _, _, _, rfl, rfl, SqL.of B1.top, at_map hc2, .inl ⟨rfl, _, SqL.of ec2⟩, _, rfl, d, _, _, _, rfl, rfl, SqT.of ed1, rfl, bs[x2], _, _, rfl, rfl, ec2, ?_, ?_⟩
    . refine smallt ?_
      rw [List.length_map]; have := hnl x2
      split
      . rw [List.length_append, List.length_singleton]; omega
      . omega
    have B2 := B1.push (x := x1) hc2; refine ⟨⟨_, rfl⟩, fun j p hj hp => ?_, ?_⟩
    . by_cases e : j = i
      . subst e
        rw [hli] at hp
        cases hp
        exact ⟨⟨by omega, by omega⟩, by omega, by omega⟩
      . exact hin j p (by omega) hp
    . have hof : (ofL li).take (i + 1) = (ofL li).take i ++ [(x1, x2)] := by
        rw [List.take_add_one]
        have : (ofL li)[i]? = some (x1, x2) := by
          show (li.map _)[i]? = _
          rw [List.getElem?_map, hli]
          rfl
        rw [this]
        rfl
      have hfun : near ((ofL li).take (i + 1)) = fun j => if j = x2 then (if j = x1 then near ((ofL li).take i) j ++ [x2] else near ((ofL li).take i) j) ++ [x1] else (if j = x1 then near ((ofL li).take i) j ++ [x2] else near ((ofL li).take i) j) := by
        funext j
        rw [hof]; exact near_two _ x1 x2 j
      rw [hfun]; exact B2
  . rintro σ H3 p_
    obtain ⟨⟨o, rfl⟩, hin, B⟩ := p_; rw [hl, show (ofL li).take li.length = ofL li from List.take_of_length_le (by show (li.map _).length <= _; rw [List.length_map]; exact Nat.le_refl _)] at B
    rw [hl] at hin
    exact ⟨_, rfl, q ⟨hc, fun p hp => by
      obtain ⟨j, hj⟩ := List.mem_iff_getElem?.mp hp; exact hin j p (List.getElem?_eq_some_iff.mp hj).1 hj⟩ D bs H3 B.same ⟨B.top, hbl, B.each⟩⟩
end
end K08
namespace K08
open PySem L2 KM KD PyProof.Rows
section
variable {P : Program} {w : World} {K : PySem.W.Frag} {mg : Str -> Option Value} {base : Heap} {f : Addr} {fd : FuncData}
theorem scWalked : FnScope ["beside", "start", "above", "order", "place", "knot", "met"] ["beside", "start"] (defScope sWalked) := ⟨rfl, rfl, rfl, by decide +kernel, rfl, by decide +kernel, by decide +kernel⟩
theorem ok_walked {C : Addr} (F : Fun K "walked" "walked" sWalked f fd) (ml : mg "len" = none) (mC : mg "NoTree" = some (.ref C)) (xc : XC K C) : FnOk P w K mg base (CXe P w) 1 f fd ["beside", "start"] (spWalked C) := by
  refine F.okX scWalked (fun vs H Q E h => ?_) (fun cdv A outer s H vs Q E hr h => ?_)
  . obtain ⟨b, bs, n, v, ls, rfl, _⟩ := h
    rfl
  obtain ⟨b, bs, n, v, ls, rfl, G, hv, hn, hln, hlt, q, qe⟩ := h
  refine ⟨_, pss_cons (ps_set (i := 2) scWalked.nd rfl (Or.inl rfl) (pe_disp (pps_cons (pv 1) pe_non pps_nil) rfl rfl (by decide) (by decide)))
    (pss_cons (ps_set (i := 3) scWalked.nd rfl (Or.inl rfl) (pe_lst (pa_cons (pv 1) pa_nil)))
    (pss_cons (ps_set (i := 4) scWalked.nd rfl (Or.inl rfl) pe_int)
    (pss_cons (ps_while ownX (pt_cmpR op_lt (pv 4) (pe_callB call_len_seq rfl ml PySem.boot_len (pa_cons (pv 3) pa_nil)) (nomark _))
      (pss_cons (ps_set (i := 5) scWalked.nd rfl (Or.inl rfl) (pe_ix ix_list (pv 3) (pv 4) (fun _ _ => rfl)))
      (pss_cons (ps_for ownX rfl (pi_list (pe_ix ix_list (pv 0) (pv 5) (fun _ _ => rfl))) (pg_name (i := 6) scWalked.nd rfl (Or.inl rfl))
        (pss_one (ps_if (pt_cmp (pc_dnotin hr.units1 (pv 6) (pv 2)))
          (pss_cons (ps_dput hr.units1 (pv 2) (pv 6) (pv 5) rfl)
          (pss_one (ps_expr (pe_bm PySem.F.plainAttrs_list PySem.F.slot_list_append PySem.F.type_list_append mt_append (pv 3) (pa_cons (pv 6) pa_nil))))) pss_nil)))
      (pss_one (ps_set (i := 4) scWalked.nd rfl (Or.inl rfl) (pe_op op_add (pv 4) pe_int))))))
    (pss_cons (ps_if (pt_cmpR op_ne (pe_callB call_len_seq rfl ml PySem.boot_len (pa_cons (pv 3) pa_nil)) (pe_callB call_len_seq rfl ml PySem.boot_len (pa_cons (pv 0) pa_nil)) (nomark _)) (pss_one (ps_raise xc rfl xraise rfl mC (pa_cons pe_str pa_nil))) pss_nil)
    (pss_one (ps_ret (pv 2))))))), ?_⟩
  intro d hd; have hlb : (bs.map V.ref).length = n := by rw [List.length_map, G.len]
  refine ⟨_, rfl, upd_same, [(.inl (v : Int), .non)], rfl, (by show 1 <= 15; decide), ?_⟩
  have ekv : mergeK [] [((.inl (v : Int) : Key), V.non)] = kvW [v] (fun _ => none) := rfl; rw [ekv]; have s1 : Same H (upd (upd H d (.dK [])) d (.dK (kvW [v] fun _ => none))) := same_upd (same_new hd _) hd _; have ed : (upd (upd H d (.dK [])) d (.dK (kvW [v] fun _ => none))) d = some (.dK (kvW [v] fun _ => none)) := upd_same; generalize upd (upd H d (.dK [])) d (.dK (kvW [v] fun _ => none)) = H1 at s1 ed; refine ⟨_, rfl, (by show 1 <= sizeLine; decide), fun o ho => ?_⟩
  have ho0 : H o = none := s1.free ho; have hod : d ≠ o := ne_of_none ed ho
  refine while_by (fun σ H2 => ∃ (ord : List Nat) (pa : Nat -> Option Nat) (pl : Nat) (o5 o6 : Option V), σ = [some (.ref b), some (vN v), some (.ref d), some (.ref o), some (vN pl), o5, o6] /\ Same H H2 /\ H2 d = some (.dK (kvW ord pa)) /\ H2 o = some (.lst (ord.map vN)) /\ GB ls n v ord pa pl)
    (fun σ _ => match σ with | [_, _, _, _, some (.int z), _, _] => n - z.toNat | _ => 0) ⟨[v], _, 0, _, _, rfl, s1.trans (same_new ho _), by rw [upd_ne hod]; exact ed, upd_same, gb0 hv⟩ ?_ ?_
  . rintro σ H2 p_
    refine hld fun g_ k_ => ?_; obtain ⟨ord, pa, pl, o5, o6, rfl, s2, e2, e3, B⟩ := p_; refine k_ ?_; have hl : (ord.map vN).length = ord.length := List.length_map _; refine ⟨_, rfl, _, rfl, o, _, rfl, .inl (SqL.of e3), _, _, rfl, rfl, _, rfl, ?_⟩; refine ite2 (fun c => ?_) (fun c => ?_)
    . have c' := of_decide_eq_true c
      rw [hl] at c'; have hp : pl < ord.length := by omega
      have hk : ord[pl]? = some ord[pl] := List.getElem?_eq_getElem hp; generalize ord[pl] = k at hk; have hkl : k < n := B.lt _ (List.mem_of_getElem? hk); have hkb : k < bs.length := by rw [G.len]; exact hkl
      have hc : bs[k]? = some bs[k] := List.getElem?_eq_getElem hkb; have ec := G.each k _ hc; generalize bs[k] = cb at hc ec; refine ⟨_, rfl, _, rfl, o, _, _, _, rfl, rfl, SqL.of e3, at_map hk, ?_⟩
      refine ⟨_, rfl, _, rfl, b, _, _, _, rfl, rfl, SqL.of (s2 _ _ G.top), at_map hc, cb, rfl, ⟨_, SqL.of (s2 _ _ ec)⟩, for_list (K := K) (a := cb) (xs := (near ls k).map vN)
        (fun i σ H3 => ∃ (ord : List Nat) (pa : Nat -> Option Nat) (o6 : Option V), σ = [some (.ref b), some (vN v), some (.ref d), some (.ref o), some (vN pl), some (vN k), o6] /\ Same H H3 /\ H3 d = some (.dK (kvW ord pa)) /\ H3 o = some (.lst (ord.map vN)) /\ GB ls n v ord pa pl /\ ord[pl]? = some k /\ ∀ c ∈ (near ls k).take i, c ∈ ord)
        ⟨ord, pa, _, rfl, s2, e2, e3, B, hk, fun c hc => (nomatch hc)⟩ (fun i σ H3 _ ⟨_, _, _, _, s3, _⟩ => SqL.of (s3 _ _ ec)) ?_ ?_⟩
      . rintro i x σ H3 hx p_
        refine hld fun g_ k_ => ?_; obtain ⟨ord, pa, o6, rfl, s3, e2, e3, B, hk, hin⟩ := p_; refine k_ ?_; obtain ⟨c, hci, rfl⟩ := of_map hx; have hcn : c ∈ near ls k := List.mem_of_getElem? hci; have hcl : c < n := near_lt hlt hcn; have htk : (near ls k).take (i + 1) = (near ls k).take i ++ [c] := by rw [List.take_add_one, hci]; rfl
        have hbl := B.len; refine ⟨_, rfl, _, rfl, d, _, rfl, DGet.k (k := .inl (c : Int)) e2, ?_⟩
        by_cases hm : c ∈ ord
        . rw [kvW_some hm]
          refine ⟨_, rfl, iteF ⟨ord, pa, _, rfl, s3, e2, e3, B, hk, fun x hx => ?_⟩⟩; rw [htk] at hx
          rcases List.mem_append.mp hx with hx | hx
          . exact hin x hx
          . rw [List.mem_singleton] at hx; subst hx; exact hm
        . rw [kvW_none.mpr hm]
          refine ⟨_, rfl, iteT ⟨_, rfl, _, rfl, _, rfl, d, _, rfl, DPut.k (k := .inl (c : Int)) e2 (smallt (by show (ord.map _).length <= _; rw [List.length_map]; omega)), ?_⟩⟩
          rw [kvW_meet hm]; have e3' : (upd H3 d (.dK (kvW (ord ++ [c]) fun j => if j = c then some k else pa j))) o = some (.lst (ord.map vN)) := by rw [upd_ne (Ne.symm hod)]; exact e3
          refine ⟨_, rfl, .inl ⟨rfl, _, SqL.of e3'⟩, _, rfl, o, _, _, rfl, rfl, e3', smallt (by rw [List.length_map]; omega), ?_⟩
          refine ⟨ord ++ [c], _, some (vN c), rfl, same_upd (same_upd s3 hd _) ho0 _, by rw [upd_ne hod, upd_same], by rw [upd_same, List.map_append]; rfl, B.meet hk hcn hm hcl, ?_, fun x hx => ?_⟩
          . rw [List.getElem?_append_left (List.getElem?_eq_some_iff.mp hk).1]; exact hk
          . rw [htk] at hx
            rcases List.mem_append.mp hx with hx | hx
            . exact List.mem_append.mpr (.inl (hin x hx))
            . exact List.mem_append.mpr (.inr hx)
      . rintro σ H3 p_
        refine hld fun g_ k_ => ?_; obtain ⟨ord, pa, o6, rfl, s3, e2, e3, B, hk, hin⟩ := p_; refine k_ ?_; rw [List.length_map, List.take_length] at hin; have B' := B.next hk hin; have hle := B'.le; have hbl := B.len; refine ⟨_, rfl, _, _, rfl, rfl, ⟨ord, pa, pl + 1, some (vN k), o6, ?_, s3, e2, e3, B'⟩, ?_⟩
        . have e : ((pl : Nat) : Int) + 1 = ((pl + 1 : Nat) : Int) := by omega
          show [some (V.ref b), some (vN v), some (V.ref d), some (V.ref o), some (V.int ((pl : Int) + 1)), _, _] = _
          rw [e]
          rfl
        . show n - ((pl : Int) + 1).toNat < n - (pl : Int).toNat
          omega
    . have c' := of_decide_eq_false (Bool.eq_false_iff.mpr c)
      rw [hl] at c'; have hp : pl = ord.length := by have := B.le; omega
      subst hp; refine ⟨_, rfl, o, _, rfl, .inl (SqL.of e3), _, rfl, b, _, rfl, .inl (SqL.of (s2 _ _ G.top)), rfl, _, rfl, ?_⟩
      by_cases hw : ord.length = n
      . refine iteNS (by rw [hl, hlb, hw]) ?_
        exact ⟨_, rfl, q d ord pa H2 s2 hd e2 B hw⟩
      . rw [decide_eq_false (show ¬ V.int (((ord.map vN).length : Nat) : Int) = V.int (((bs.map V.ref).length : Nat) : Int) from fun z => hw (by have := V.int.inj z; rw [hl, hlb] at this; omega))]
        exact iteT ⟨(by show 1 <= sizeLine; decide), qe ord pa H2 s2 B hw⟩
  . rintro σ H2 Q1 Q2 hQ p_
    refine hld fun g_ k_ => ?_; obtain ⟨v1, h1, v2, h2, p2, ys, e1, e2, i, j, e3, e4, k, e5, h⟩ := p_; refine k_ ?_; exact ⟨v1, h1, v2, h2, p2, ys, e1, e2, i, j, e3, e4, k, e5, hQ _ _ h⟩
end
end K08
namespace K08
open PySem L2 KM KD PyProof.Rows
section
variable {P : Program} {w : World} {K : PySem.W.Frag} {mg : Str -> Option Value} {base : Heap} {f : Addr} {fd : FuncData}
theorem scHung : FnScope ["beside", "root", "above"] ["beside", "root"] (defScope sHungUp) := ⟨rfl, rfl, rfl, by decide +kernel, rfl, by decide +kernel, by decide +kernel⟩
theorem ndKnA : (["knot", "above"] : List Str).Nodup := by decide +kernel
theorem ok_hung {C f1 : Addr} {d1 : FuncData} (F : Fun K "hung_up" "hung_up" sHungUp f fd) (GW : KitE P w K mg base 1 "walked" ["beside", "start"] (spWalked C) f1 d1) (ml : mg "len" = none) (mr : mg "range" = none) : FnOk P w K mg base (CXe P w) 2 f fd ["beside", "root"] (spHung C) := by
  refine F.okX scHung (fun vs H Q E h => ?_) (fun cdv A outer s H vs Q E hr h => ?_)
  . obtain ⟨b, bs, n, v, ls, rfl, _⟩ := h
    rfl
  obtain ⟨b, bs, n, v, ls, rfl, G, hv, hn, hln, hlt, q, qe⟩ := h
  refine ⟨_, pss_cons (ps_set (i := 2) scHung.nd rfl (Or.inr rfl) (pe_call GW.ok hr rfl GW.mg GW.kp GW.bd .nil passX (pa_cons (pv 0) (pa_cons (pv 1) pa_nil))))
    (pss_one (ps_ret (pe_comp (N' := ["knot", "above"]) (js := [none, some 2])
        (CompOk.free1 (x := "above") (nms := [(".0", .local), ("knot", .local), ("above", .cell)]) rfl (by decide +kernel) (by decide +kernel) rfl rfl rfl rfl (by decide +kernel) (by
            intro j i h
            match j, h with
            | 0, h => cases h
            | 1, h => cases h; exact ⟨rfl, rfl⟩) rfl (Or.inl rfl)) rfl
        (pi_range1 rfl mr (pa_cons (pe_callB call_len_seq rfl ml PySem.boot_len (pa_cons (pv 0) pa_nil)) pa_nil)) (fun _ _ _ _ => pg_name (i := 0) ndKnA rfl (Or.inl rfl)) (fun _ _ _ _ => pif_nil) (fun _ _ _ _ => pe_dget hr.units1 (pv 1) (pv 0) (fun _ _ => rfl))))), ?_⟩
  have hlb : (bs.map V.ref).length = n := by rw [List.length_map, G.len]
  refine ⟨_, rfl, _, rfl, b, bs, n, v, ls, rfl, G, hv, hn, by omega, hlt, fun d ord pa H1 s1 _ ed B hw => ?_, fun ord pa H1 s1 B hw => qe (fun z => hw ((B.free_iff hln hv).mp z)) H1 s1⟩
  have hF := (B.free_iff hln hv).mpr hw; have hat := B.hung_at hln hv hw; have pm := nodup_full B.nd B.lt hw; refine ⟨_, rfl, b, _, rfl, .inl (SqL.of (s1 _ _ G.top)), _, rfl, by omega, by rw [hlb]; omega, ?_⟩
  rw [hlb, Int.toNat_natCast]; refine comp_range (fun D i ys τ H5 => (∃ o, τ = [o, some (.ref d)]) /\ ys = ((hung n pa).take i).map vO /\ Same H1 H5 /\ H1 D = none /\ H5 D = some (.lst ys)) (fun D hD => ⟨⟨_, rfl⟩, rfl, same_new hD _, hD, upd_same⟩) ?_ ?_
  . rintro D i ys τ H5 hi p_
    refine hld fun g_ k_ => ?_; obtain ⟨⟨o, rfl⟩, rfl, s5, hD, e5⟩ := p_; refine k_ ?_
    dsimp only [gName, tAlways]
    rw [if_pos rfl]; have hm : i ∈ ord := pm.mem_iff.mpr (List.mem_range.mpr hi); refine ⟨_, rfl, _, rfl, d, vO (pa i), rfl, .inl ⟨_, .inl (i : Int), .inl (s5 _ _ ed), rfl, (kvW_some hm).symm⟩, e5, smallt (by rw [List.length_map, List.length_take]; omega), Nx.mk hi ⟨⟨_, rfl⟩, ?_, same_upd s5 hD _, hD, upd_same⟩⟩
    rw [List.take_add_one, hung_get hi, List.map_append]
    rfl
  . rintro D ys τ H5 p_
    refine hld fun g_ k_ => ?_; obtain ⟨_, rfl, s5, hD, e5⟩ := p_; refine k_ ?_; rw [List.take_of_length_le (by rw [hung_len]; exact Nat.le_refl _), hat] at e5
    exact q hF D H5 (s1.trans s5) (s1.free hD) e5
theorem scRootedAt : FnScope ["tree", "knot"] ["tree", "knot"] (defScope sRootedAt) := ⟨rfl, rfl, rfl, by decide +kernel, rfl, by decide +kernel, by decide +kernel⟩
theorem ok_rootedAt {C f1 f2 : Addr} {d1 d2 : FuncData} (F : Fun K "rooted_at" "rooted_at" sRootedAt f fd) (GB : KitE P w K mg base 1 "knots_beside" ["tree"] (spBeside C) f1 d1) (GU : KitE P w K mg base 2 "hung_up" ["beside", "root"] (spHung C) f2 d2) : FnOk P w K mg base (CXe P w) 3 f fd ["tree", "knot"] (spRootedAt C) := by
  refine F.okX scRootedAt (fun vs H Q E h => ?_) (fun cdv A outer s H vs Q E hr h => ?_)
  . obtain ⟨t, L, ps, c, li, v, rfl, _⟩ := h
    rfl
  obtain ⟨t, L, ps, c, li, v, rfl, G, hn, hv, q, qe⟩ := h; have hr1 : Room 1 _ := hr.mono (by decide)
  refine ⟨_, pss_one (ps_ret (pe_call GU.ok hr rfl GU.mg GU.kp GU.bd .nil passX (pa_cons (pe_call GB.ok hr1 rfl GB.mg GB.kp GB.bd .nil passX (pa_cons (pv 0) pa_nil)) (pa_cons (pv 1) pa_nil)))), ?_⟩; have hol : (ofL li).length = li.length := List.length_map _; refine ⟨_, rfl, t, L, ps, c, li, rfl, G, hn, fun hV b bs H1 s1 B => ?_, fun hV H1 s1 => qe (fun z => hV z.1) H1 s1⟩; refine ⟨_, rfl, b, bs, li.length + 1, v, ofL li, rfl, B, hv, by omega, by rw [hol], hV.ofL, fun hF p H2 s2 hp ep => q ⟨hV, hF⟩ p H2 (s1.trans s2) (s1.free hp) ep, fun hF H2 s2 => qe (fun z => hF z.2) H2 (s1.trans s2)⟩
end
end K08
namespace K08
open PySem L2 KM KD PyProof.Rows
section
variable {P : Program} {w : World} {K : PySem.W.Frag} {mg : Str -> Option Value} {base : Heap} {f : Addr} {fd : FuncData}
theorem scFAlike : FnScope ["tree", "beside"] ["tree"] (defScope sFreeAlikeKnots) := ⟨rfl, rfl, rfl, by decide +kernel, rfl, by decide +kernel, by decide +kernel⟩
theorem ndKnB : (["knot", "beside"] : List Str).Nodup := by decide +kernel
theorem ok_fAlike {C f1 f2 f3 f4 : Addr} {d1 d2 d3 d4 : FuncData} (F : Fun K "free_alike_knots" "free_alike_knots" sFreeAlikeKnots f fd) (GB : KitE P w K mg base 1 "knots_beside" ["tree"] (spBeside C) f1 d1) (GU : KitE P w K mg base 2 "hung_up" ["beside", "root"] (spHung C) f2 d2)
    (GF : KitE P w K mg base 3 "form_of" ["above"] (spFormX C) f3 d3) (GG : Kit P w K mg base 1 "grouped" ["marks"] spGrouped f4 d4) (ml : mg "len" = none) (mr : mg "range" = none) : FnOk P w K mg base (CXe P w) 4 f fd ["tree"] (spFAlike C) := by
  refine F.okX scFAlike (fun vs H Q E h => ?_) (fun cdv A outer s H vs Q E hr h => ?_)
  . obtain ⟨t, L, ps, c, li, rfl, _⟩ := h
    rfl
  obtain ⟨t, L, ps, c, li, rfl, G, hn, q, qe⟩ := h; have hr1 : Room 1 _ := hr.mono (by decide)
  have hr2 : Room 2 _ := hr.mono (by decide)
  refine ⟨_, pss_cons (ps_set (i := 1) scFAlike.nd rfl (Or.inr rfl) (pe_call GB.ok hr1 rfl GB.mg GB.kp GB.bd .nil passX (pa_cons (pv 0) pa_nil)))
    (pss_one (ps_ret (pe_call GG.ok hr1 rfl GG.mg GG.kp GG.bd .nil pass0 (pa_cons
        (pe_compE (N' := ["knot", "beside"]) (js := [none, some 1])
          (CompOk.free1 (x := "beside") (nms := [(".0", .local), ("knot", .local), ("form_of", .globalImplicit), ("hung_up", .globalImplicit), ("beside", .cell)]) rfl (by decide +kernel) (by decide +kernel) rfl rfl rfl rfl (by decide +kernel) (by
            intro j i h
            match j, h with
            | 0, h => cases h
            | 1, h => cases h; exact ⟨rfl, rfl⟩) rfl (Or.inl rfl))
          (pi_range1 rfl mr (pa_cons (pe_callB call_len_seq rfl ml PySem.boot_len (pa_cons (pv 1) pa_nil)) pa_nil)) (fun _ _ _ _ => pg_name (i := 0) ndKnB rfl (Or.inl rfl)) (fun _ _ _ _ => pif_nil)
          (fun _ _ _ _ _ pass => pe_call GF.ok hr rfl GF.mg GF.kp GF.bd .nil pass (pa_cons (pe_call GU.ok hr2 rfl GU.mg GU.kp GU.bd .nil pass (pa_cons (pv 1) (pa_cons (pv 0) pa_nil))) pa_nil))) pa_nil)))), ?_⟩
  have hol : (ofL li).length = li.length := List.length_map _; refine ⟨_, rfl, t, L, ps, c, li, rfl, G, hn, fun hV b bs H1 s1 B => ?_, fun hV H1 s1 => qe (fun z => hV z.1) H1 s1⟩; have hlb : (bs.map V.ref).length = li.length + 1 := by rw [List.length_map, B.len]
  refine ⟨_, rfl, b, _, rfl, .inl (SqL.of B.top), _, rfl, by omega, by rw [hlb]; omega, ?_⟩
  rw [hlb, Int.toNat_natCast]
  by_cases hF : IsFree (li.length + 1) (ofL li)
  . have hrl : (rfs (li.length + 1) (ofL li)).length = li.length + 1 := by unfold rfs; rw [List.length_map, List.length_range]
    refine comp_range (fun D i ys τ H5 => (∃ o, τ = [o, some (.ref b)]) /\ ys = ((rfs (li.length + 1) (ofL li)).take i).map vT /\ Same H1 H5 /\ H1 D = none /\ H5 D = some (.lst ys)) (fun D hD => ⟨⟨_, rfl⟩, rfl, same_new hD _, hD, upd_same⟩) ?_ ?_
    . rintro D i ys τ H5 hi p_
      refine hld fun g_ k_ => ?_; obtain ⟨⟨o, rfl⟩, rfl, s5, hD, e5⟩ := p_; refine k_ ?_
      dsimp only [gName, tAlways]
      rw [if_pos rfl]; have hrg : (rfs (li.length + 1) (ofL li))[i]? = some (rf (li.length + 1) (ofL li) i) := by unfold rfs; rw [List.getElem?_map, List.getElem?_range hi]; rfl
      refine ⟨_, rfl, _, rfl, b, bs, li.length + 1, i, ofL li, rfl, B.up s5, hi, by omega, by rw [hol], hV.ofL, fun _ p H6 s6 hp ep => ?_, fun h => absurd hF h⟩
      obtain ⟨hal, ⟨rk, T⟩, _⟩ := at_spec hF hi; have ep' : H6 p = some (.lst (((At (li.length + 1) (ofL li) i).map toI).map vI)) := by rw [map_vI]; exact ep
      refine ⟨p, _, rfl, ep', by rw [List.length_map, hal]; omega, fun ab r rk' H7 e T' s7 => ?_, fun h => absurd (rtd_of rfl T) h⟩
      have e' := toI_inj e; have hr0 : r = i := by rw [<- e'] at T'; exact T.only r T'.root
      rw [<- e', hr0]; refine ⟨(s6.trans s7) _ _ e5, smallt (by rw [List.length_map, List.length_take]; omega), Nx.mk hi ⟨⟨_, rfl⟩, ?_, same_upd (s5.trans (s6.trans s7)) hD _, hD, upd_same⟩⟩
      rw [List.take_add_one, hrg, List.map_append]
      rfl
    . rintro D ys τ H5 p_
      refine hld fun g_ k_ => ?_; obtain ⟨_, rfl, s5, hD, e5⟩ := p_; refine k_ ?_; rw [List.take_of_length_le (by rw [hrl]; exact Nat.le_refl _)] at e5
      exact ⟨D, _, rfl, e5, by rw [hrl]; omega, fun l as H6 s6 Gr => q ⟨hV, hF⟩ l as H6 (s1.trans (s5.trans s6)) Gr⟩
  . refine comp_range (fun D i ys τ H5 => i = 0 /\ (∃ o, τ = [o, some (.ref b)]) /\ Same H1 H5) (fun D hD => ⟨rfl, ⟨_, rfl⟩, same_new hD _⟩) ?_ ?_
    . rintro D i ys τ H5 hi p_
      refine hld fun g_ k_ => ?_; obtain ⟨rfl, ⟨o, rfl⟩, s5⟩ := p_; refine k_ ?_
      dsimp only [gName, tAlways]
      rw [if_pos rfl]; exact ⟨_, rfl, _, rfl, b, bs, li.length + 1, 0, ofL li, rfl, B.up s5, hi, by omega, by rw [hol], hV.ofL, fun h => absurd h hF, fun h H6 s6 => qe (fun z => hF z.2) _ (s1.trans (s5.trans s6))⟩
    . rintro D ys τ H5 ⟨z, _⟩
      omega
theorem scFMany : FnScope ["tree"] ["tree"] (defScope sFreeHowMany) := ⟨rfl, rfl, rfl, by decide +kernel, rfl, by decide +kernel, by decide +kernel⟩
theorem ok_fMany {C f1 f2 f3 : Addr} {d1 d2 d3 : FuncData} (F : Fun K "free_how_many" "free_how_many" sFreeHowMany f fd) (GH : KitE P w K mg base 3 "how_many" ["above"] (spHowMany C) f1 d1) (GR : KitE P w K mg base 3 "rooted_at" ["tree", "knot"] (spRootedAt C) f2 d2) (GA : KitE P w K mg base 4 "free_alike_knots" ["tree"] (spFAlike C) f3 d3)
    (ml : mg "len" = none) : FnOk P w K mg base (CXe P w) 5 f fd ["tree"] (spFMany C) := by
  refine F.okX scFMany (fun vs H Q E h => ?_) (fun cdv A outer s H vs Q E hr h => ?_)
  . obtain ⟨t, L, ps, c, li, rfl, _⟩ := h
    rfl
  obtain ⟨t, L, ps, c, li, rfl, G, hn, q, qe⟩ := h; have hr3 : Room 3 _ := hr.mono (by decide)
  refine ⟨_, pss_one (ps_ret (pe_op op_mul (pe_call GH.ok hr3 rfl GH.mg GH.kp GH.bd .nil passX (pa_cons (pe_call GR.ok hr3 rfl GR.mg GR.kp GR.bd .nil passX (pa_cons (pv 0) (pa_cons pe_int pa_nil))) pa_nil))
    (pe_callB call_len_seq rfl ml PySem.boot_len (pa_cons (pe_ix ix_list (pe_call GA.ok hr rfl GA.mg GA.kp GA.bd .nil passX (pa_cons (pv 0) pa_nil)) pe_int (fun _ _ => rfl)) pa_nil)))), ?_⟩
  refine ⟨_, rfl, t, L, ps, c, li, 0, rfl, G, by omega, by omega, fun hF p H1 s1 hp ep => ?_, fun hF H1 s1 => qe hF _ s1⟩
  obtain ⟨hal, ⟨rk, T⟩, _⟩ := at_spec hF.2 (Nat.succ_pos li.length); have ep' : H1 p = some (.lst (((At (li.length + 1) (ofL li) 0).map toI).map vI)) := by rw [map_vI]; exact ep
  refine ⟨p, _, rfl, ep', by rw [List.length_map, hal]; omega, fun ab r rk' H2 e T' s2 => ?_, fun h => absurd (rtd_of rfl T) h⟩
  have e' := toI_inj e; rw [<- e']; have s02 := s1.trans s2; refine ⟨_, rfl, t, L, ps, c, li, rfl, G.up s02, by omega, fun _ l as H3 s3 Gr => ?_, fun h => absurd hF h⟩
  obtain ⟨g0, hg0, hc0⟩ := first_group (rf (li.length + 1) (ofL li)) li.length; have hg0' : (grp (rfs (li.length + 1) (ofL li)))[0]? = some g0 := hg0; have h0l : 0 < as.length := by rw [Gr.len]; exact (List.getElem?_eq_some_iff.mp hg0').1
  have hc := List.getElem?_eq_getElem h0l; have ec := Gr.each 0 _ _ hc hg0'; have hcn : g0.length = cnt (li.length + 1) (ofL li) 0 := hc0; have hgl : (g0.map vN).length = g0.length := List.length_map _
  have hcl : cnt (li.length + 1) (ofL li) 0 <= 1000 := by
    unfold KM.cnt
    refine Nat.le_trans List.countP_le_length ?_; rw [List.length_range]
    omega
  refine ⟨l, _, _, _, rfl, rfl, SqL.of Gr.top, at_map (i := 0) hc, as[0], _, rfl, .inl (SqL.of ec), _, _, rfl, rfl, .inr ⟨?_, ?_⟩, ?_⟩
  . show -(2 ^ 64) < (((g0.map vN).length : Nat) : Int)
    omega
  . show (((g0.map vN).length : Nat) : Int) < 2 ^ 64
    rw [hgl, hcn]
    omega
  . show Q (V.int (((ways (At (li.length + 1) (ofL li) 0) : Nat) : Int) * (((g0.map vN).length : Nat) : Int))) H3
    rw [hgl, hcn, <- Int.natCast_mul]; exact q hF H3 (s02.trans s3)
end
end K08
namespace K08
open PySem L2 KM KD PyProof.Rows
section
variable {P : Program} {w : World} {K : PySem.W.Frag} {mg : Str -> Option Value} {base : Heap} {f : Addr} {fd : FuncData}
theorem scFarness : FnScope ["beside", "knot", "above", "steps", "met"] ["beside", "knot"] (defScope sFarness) := ⟨rfl, rfl, rfl, by decide +kernel, rfl, by decide +kernel, by decide +kernel⟩
theorem ok_farness {C f1 : Addr} {d1 : FuncData} (F : Fun K "farness" "farness" sFarness f fd) (GW : KitE P w K mg base 1 "walked" ["beside", "start"] (spWalked C) f1 d1) (mx : mg "max" = none) : FnOk P w K mg base (CXe P w) 2 f fd ["beside", "knot"] (spFarness C) := by
  refine F.okX scFarness (fun vs H Q E h => ?_) (fun cdv A outer s H vs Q E hr h => ?_)
  . obtain ⟨b, bs, n, v, ls, rfl, _⟩ := h
    rfl
  obtain ⟨b, bs, n, v, ls, rfl, G, hv, hn, hln, hlt, q, qe⟩ := h
  refine ⟨_, pss_cons (ps_set (i := 2) scFarness.nd rfl (Or.inl rfl) (pe_call GW.ok hr rfl GW.mg GW.kp GW.bd .nil passX (pa_cons (pv 0) (pa_cons (pv 1) pa_nil))))
    (pss_cons (ps_set (i := 3) scFarness.nd rfl (Or.inl rfl) pe_dnewK)
    (pss_cons (ps_for ownX rfl (pi_dict (pv 2)) (pg_name (i := 4) scFarness.nd rfl (Or.inl rfl))
      (pss_one (ps_dput hr.units1 (pv 3) (pv 4) (pe_ifExp (pt_cmp (pc_isN (pe_dget hr.units1 (pv 2) (pv 4) (fun _ _ => rfl)))) pe_int
        (pe_op op_add (pe_dget hr.units1 (pv 3) (pe_dget hr.units1 (pv 2) (pv 4) (fun _ _ => rfl)) (fun _ _ => rfl)) pe_int)) rfl)))
    (pss_one (ps_ret (pe_callB (call_maxV rfl) rfl mx PyProof.Rows.boot_max (pa_cons (pe_bm0 PySem.F.plainAttrs_dict PySem.F.slot_dict_values PySem.F.type_dict_values mt_values (pv 3)) pa_nil)))))), ?_⟩
  refine ⟨_, rfl, _, rfl, b, bs, n, v, ls, rfl, G, hv, hn, by omega, hlt, fun d ord pa H1 s1 hd ed B hw => ?_, fun ord pa H1 s1 B hw => qe (fun z => hw ((B.free_iff hln hv).mp z)) H1 s1⟩
  have hF := (B.free_iff hln hv).mpr hw; have pm := nodup_full B.nd B.lt hw; have R := B.rooted hw hln; obtain ⟨hla, ⟨rk, T⟩, fo⟩ := id R; obtain ⟨dp, hdp⟩ := dep_fn T; rw [hla] at hdp; have hin : ∀ k, k ∈ ord ↔ k < n := fun k => by rw [pm.mem_iff, List.mem_range]
  intro st hst; have hst0 : H st = none := s1.free hst; have hds : d ≠ st := ne_of_none ed hst; have ed2 : (upd H1 st (.dK [])) d = some (.dK (kvW ord pa)) := by rw [upd_ne hds]; exact ed
  refine ⟨_, rfl, d, _, rfl, ed2, fun ob => ?_⟩; have hkl : (kvW ord pa).length = n := by unfold kvW; rw [List.length_map, hw]
  refine for_dict (d := d) (o := ob) (kvs := kvW ord pa) (fun i σ H5 => (∃ o4, σ = [some (.ref b), some (vN v), some (.ref d), some (.ref st), o4]) /\ Same H H5 /\ H5 d = some (.frz ob (.dK (kvW ord pa))) /\ H5 st = some (.dK (kvW (ord.take i) fun k => some (dp k))))
    ⟨⟨_, rfl⟩, same_upd (s1.trans (same_new hst _)) hd _, upd_same, by rw [upd_ne (Ne.symm hds), upd_same]; rfl⟩ (fun i σ H5 _ ⟨_, _, h, _⟩ => h) ?_ ?_
  . rintro i kv σ H5 hkv p_
    refine hld fun g_ k_ => ?_; obtain ⟨⟨o4, rfl⟩, s5, e5, f5⟩ := p_; refine k_ ?_; have hkv' : (ord.map fun k : Nat => ((.inl (k : Int) : Key), vO (pa k)))[i]? = some kv := hkv; rw [List.getElem?_map] at hkv'
    cases hk : ord[i]? with
    | none => rw [hk] at hkv'; cases hkv'
    | some k =>
      rw [hk] at hkv'; have e0 : ((.inl (k : Int) : Key), vO (pa k)) = kv := Option.some.inj hkv'; subst e0; have hkm : k ∈ ord := List.mem_of_getElem? hk; have hkn : k < n := (hin k).mp hkm; have hnt := not_mem_take B.nd hk; have htk : ord.take (i + 1) = ord.take i ++ [k] := by rw [List.take_add_one, hk]; rfl
      have hsm : (kvW (ord.take i) fun k => some (dp k)).length < sizeLine := smallt (by unfold kvW; rw [List.length_map, List.length_take]; omega)
      have gd : DGet H5 d (V.int (k : Int)) (some (vO (pa k))) := .inl ⟨_, .inl (k : Int), .inr ⟨ob, e5⟩, rfl, (kvW_some hkm).symm⟩; have hhu := hung_get (pa := pa) hkn
      cases hpk : pa k with
      | none =>
        rw [hpk] at gd hhu; have h0 : dp k = 0 := (hdp k hkn).det (.root hhu); refine ⟨_, rfl, _, rfl, d, _, rfl, gd, _, rfl, iteT ⟨_, rfl, _, rfl, st, _, rfl, DPut.k (k := .inl (k : Int)) f5 hsm, ⟨_, rfl⟩, same_upd s5 hst0 _, by rw [upd_ne hds]; exact e5, ?_⟩⟩
        rw [upd_same, htk, <- kvW_put hnt]
        show some (HO.dK (putK _ _ (V.int 0))) = some (HO.dK (putK _ _ (vO (some (dp k)))))
        rw [h0]
        rfl
      | some p =>
        rw [hpk] at gd hhu; obtain ⟨hpl, _⟩ := T.up k p hhu; rw [hla] at hpl; have h0 : dp k = dp p + 1 := (hdp k hkn).det (.up hhu (hdp p hpl))
        have hp0 : 0 < i := by
          rcases Nat.eq_zero_or_pos i with z | z
          . subst z
            obtain ⟨t, ht⟩ := B.head; rw [ht] at hk; have : v = k := Option.some.inj hk; subst this; rw [B.pav] at hpk
            cases hpk
          . exact z
        refine hld fun g_ k_ => ?_; obtain ⟨j, k2, hj, hk2, hp2, _⟩ := B.up i k hp0 hk; refine k_ ?_; rw [hpk] at hp2; have : p = k2 := Option.some.inj hp2; subst this; have hpt : p ∈ ord.take i := mem_take_of hk2 hj; have gs : DGet H5 st (V.int (p : Int)) (some (vO (some (dp p)))) := .inl ⟨_, .inl (p : Int), .inl f5, rfl, (kvW_some (pa := fun k => some (dp k)) hpt).symm⟩; refine ⟨_, rfl, _, rfl, d, _, rfl, gd, _, rfl, iteF ⟨_, rfl, _, rfl, _, rfl, d, _, rfl, gd, st, _, rfl, gs, _, _, rfl, rfl, _, rfl, _, rfl, st, _, rfl, DPut.k (k := .inl (k : Int)) f5 hsm, ⟨_, rfl⟩, same_upd s5 hst0 _, by rw [upd_ne hds]; exact e5, ?_⟩⟩
        rw [upd_same, htk, <- kvW_put hnt]
        show some (HO.dK (putK _ _ (V.int (((dp p : Nat) : Int) + 1)))) = some (HO.dK (putK _ _ (vO (some (dp k)))))
        rw [h0]
        rfl
  . rintro σ H5 p_
    refine hld fun g_ k_ => ?_; obtain ⟨⟨o4, rfl⟩, s5, e5, f5⟩ := p_; refine k_ ?_; rw [hkl, <- hw, List.take_length] at f5
    have hne : ord.map dp ≠ [] := fun z => by
      have : ord = [] := List.map_eq_nil_iff.mp z; rw [this] at hw
      simp at hw
      omega
    obtain ⟨m, hm, hle⟩ := exists_most _ hne; refine ⟨_, rfl, .inr (.inr (.inl ⟨rfl, .inl ⟨_, f5⟩⟩)), st, _, rfl, rfl, f5, fun p hp => ?_⟩; have hsp : st ≠ p := ne_of_none f5 hp; refine ⟨p, st, _, (ord.map dp).map fun n : Nat => (n : Int), (m : Int), rfl, upd_same, by rw [upd_ne hsp]; exact f5, kvW_vals ord dp, List.mem_map_of_mem hm, fun x hx => ?_, ?_⟩
    . obtain ⟨y, hy, rfl⟩ := List.mem_map.mp hx
      have := hle y hy
      omega
    . have E : Ecc n ls v m := ecc_of R (fun k e hk he => by
        rw [he.det (hdp k hk)]; exact hle _ (List.mem_map_of_mem ((hin k).mpr hk))) (by
        obtain ⟨k, hk, e⟩ := List.mem_map.mp hm; have hk' := (hin k).mp hk; exact ⟨k, hk', by rw [<- e]; exact hdp k hk'⟩)
      rw [<- ecc_eq hF hv E]; exact q hF _ (s5.trans (same_new hp _))
end
end K08
namespace K08
open PySem L2 KM KD PyProof.Rows
section
variable {P : Program} {w : World} {K : PySem.W.Frag} {mg : Str -> Option Value} {base : Heap} {f : Addr} {fd : FuncData}
theorem scMiddles : FnScope ["tree", "beside", "farnesses", "least"] ["tree"] (defScope sMiddles) := ⟨rfl, rfl, rfl, by decide +kernel, rfl, by decide +kernel, by decide +kernel⟩
theorem ndKBm : (["knot", "beside"] : List Str).Nodup := by decide +kernel
theorem ndKFL : (["knot", "far", "least"] : List Str).Nodup := by decide +kernel
theorem ok_middles {C f1 f2 : Addr} {d1 d2 : FuncData} (F : Fun K "middles" "middles" sMiddles f fd) (GB : KitE P w K mg base 1 "knots_beside" ["tree"] (spBeside C) f1 d1) (GF : KitE P w K mg base 2 "farness" ["beside", "knot"] (spFarness C) f2 d2)
    (ml : mg "len" = none) (mr : mg "range" = none) (mm : mg "min" = none) (me : mg "enumerate" = none) : FnOk P w K mg base (CXe P w) 3 f fd ["tree"] (spMiddles C) := by
  refine F.okX scMiddles (fun vs H Q E h => ?_) (fun cdv A outer s H vs Q E hr h => ?_)
  . obtain ⟨t, L, ps, c, li, rfl, _⟩ := h
    rfl
  obtain ⟨t, L, ps, c, li, rfl, G, hn, q, qe⟩ := h; have hr1 : Room 1 _ := hr.mono (by decide)
  refine ⟨_, pss_cons (ps_set (i := 1) scMiddles.nd rfl (Or.inr rfl) (pe_call GB.ok hr1 rfl GB.mg GB.kp GB.bd .nil passX (pa_cons (pv 0) pa_nil)))
    (pss_cons (ps_setCompE (N' := ["knot", "beside"]) (js := [none, some 1]) (i := 2) scMiddles.nd rfl (Or.inl rfl)
          (CompOk.free1 (x := "beside") (nms := [(".0", .local), ("knot", .local), ("farness", .globalImplicit), ("beside", .cell)]) rfl (by decide +kernel) (by decide +kernel) rfl rfl rfl rfl (by decide +kernel) (by
            intro j i h
            match j, h with
            | 0, h => cases h
            | 1, h => cases h; exact ⟨rfl, rfl⟩) rfl (Or.inl rfl))
          (pi_range1 rfl mr (pa_cons (pe_callB call_len_seq rfl ml PySem.boot_len (pa_cons (pv 1) pa_nil)) pa_nil)) (fun _ _ _ _ => pg_name (i := 0) ndKBm rfl (Or.inl rfl)) (fun _ _ _ _ => pif_nil)
          (fun _ _ _ _ _ pass => pe_call GF.ok hr rfl GF.mg GF.kp GF.bd .nil pass (pa_cons (pv 1) (pa_cons (pv 0) pa_nil))))
    (pss_cons (ps_set (i := 3) scMiddles.nd rfl (Or.inr rfl) (pe_callB (call_minL rfl) rfl mm PyProof.Rows.boot_min (pa_cons (pv 2) pa_nil)))
    (pss_one (ps_ret (pe_comp (N' := ["knot", "far", "least"]) (js := [none, none, some 3])
        (CompOk.free1 (x := "least") (nms := [(".0", .local), ("knot", .local), ("far", .local), ("least", .cell)]) rfl (by decide +kernel) (by decide +kernel) rfl rfl rfl rfl (by decide +kernel) (by
            intro j i h
            match j, h with
            | 0, h => cases h
            | 1, h => cases h
            | 2, h => cases h; exact ⟨rfl, rfl⟩) rfl (Or.inl rfl)) rfl
        (pi_enum rfl me (pa_cons (pv 2) pa_nil)) (fun _ _ _ _ => pg_tupC (n := 2) rfl (pgs_cons (pg_name (i := 0) ndKFL rfl (Or.inl rfl)) (pgs_cons (pg_name (i := 1) ndKFL rfl (Or.inl rfl)) pgs_nil)))
        (fun _ _ _ _ => pif_one (pt_cmpR op_eq (pv 1) (pv 2) (nomark _))) (fun _ _ _ _ => pv 0)))))), ?_⟩
  have hol : (ofL li).length = li.length := List.length_map _; refine ⟨_, rfl, t, L, ps, c, li, rfl, G, hn, fun hV b bs H1 s1 B => ?_, fun hV H1 s1 => qe (fun z => hV z.1) H1 s1⟩; have hlb : (bs.map V.ref).length = li.length + 1 := by rw [List.length_map, B.len]
  refine ⟨_, rfl, b, _, rfl, .inl (SqL.of B.top), _, rfl, by omega, by rw [hlb]; omega, ?_⟩
  rw [hlb, Int.toNat_natCast]
  by_cases hF : IsFree (li.length + 1) (ofL li)
  . have hel := eccs_len (li.length + 1) (ofL li)
    refine comp_range (fun D i ys τ H5 => (∃ o, τ = [o, some (.ref b)]) /\ ys = ((eccs (li.length + 1) (ofL li)).take i).map vN /\ Same H1 H5 /\ H1 D = none /\ H5 D = some (.lst ys)) (fun D hD => ⟨⟨_, rfl⟩, rfl, same_new hD _, hD, upd_same⟩) ?_ ?_
    . rintro D i ys τ H5 hi p_
      refine hld fun g_ k_ => ?_; obtain ⟨⟨o, rfl⟩, rfl, s5, hD, e5⟩ := p_; refine k_ ?_
      dsimp only [gName, tAlways]
      rw [if_pos rfl]; refine ⟨_, rfl, _, rfl, b, bs, li.length + 1, i, ofL li, rfl, B.up s5, hi, by omega, by rw [hol], hV.ofL, fun _ H6 s6 => ?_, fun h => absurd hF h⟩
      refine ⟨s6 _ _ e5, smallt (by rw [List.length_map, List.length_take]; omega), Nx.mk hi ⟨⟨_, rfl⟩, ?_, same_upd (s5.trans s6) hD _, hD, upd_same⟩⟩
      rw [List.take_add_one, eccs_get hi, List.map_append]
      rfl
    . rintro D ys τ H5 p_
      refine hld fun g_ k_ => ?_; obtain ⟨_, rfl, s5, hD, e5⟩ := p_; refine k_ ?_; rw [List.take_of_length_le (by rw [hel]; exact Nat.le_refl _)] at e5
      obtain ⟨m, hm, hle⟩ := least_ecc (n := li.length + 1) (ofL li) (Nat.succ_pos _); have e5' := e5; rw [vN_int] at e5'; refine ⟨_, rfl, D, _, (m : Int), rfl, SqL.of e5', List.mem_map_of_mem hm, fun x hx => ?_, ?_⟩
      . obtain ⟨y, hy, rfl⟩ := List.mem_map.mp hx
        have := hle y hy
        omega
      refine ⟨_, rfl, D, rfl, ⟨_, SqL.of e5⟩, ?_⟩
      refine comp_enumF (K := K) (a := D) (xs := (eccs (li.length + 1) (ofL li)).map vN) (fun D2 i ys τ H6 => (∃ o1 o2, τ = [o1, o2, some (vN m)]) /\ ys = (midTo (li.length + 1) (ofL li) m i).map vN /\ Same H5 H6 /\ H5 D2 = none /\ H6 D2 = some (.lst ys))
        (fun D2 hD2 => ⟨⟨_, _, rfl⟩, rfl, same_new hD2 _, hD2, upd_same⟩) (fun D2 i ys τ H6 _ ⟨_, _, s6, _⟩ => SqL.of (s6 _ _ e5)) ?_ ?_
      . rintro D2 i x p ys τ H6 hx p_ hp
        refine hld fun g_ k_ => ?_; obtain ⟨⟨o1, o2, rfl⟩, rfl, s6, hD2, e6⟩ := p_; refine k_ ?_; have hx' := (List.getElem?_eq_some_iff.mp hx).1; have hil : i < li.length + 1 := by rw [List.length_map, hel] at hx'; exact hx'
        obtain ⟨y, hy, rfl⟩ := of_map hx; rw [eccs_get hil] at hy; have ey : ecc (li.length + 1) (ofL li) i = y := Option.some.inj hy; subst ey; have s7 : Same H5 (upd H6 p (.tup [.int i, vN (ecc (li.length + 1) (ofL li) i)])) := s6.trans (same_new hp _); have e7 : (upd H6 p (.tup [.int i, vN (ecc (li.length + 1) (ofL li) i)])) D2 = some (.lst ((midTo (li.length + 1) (ofL li) m i).map vN)) := same_new hp _ _ _ e6; have hml := midTo_len (li.length + 1) m i (ofL li); refine ⟨p, _, rfl, SqT.of upd_same, rfl, _, _, rfl, _, _, rfl, rfl, ?_⟩; refine ⟨_, rfl, _, rfl, rfl, decide (ecc (li.length + 1) (ofL li) i = m), ?_, ?_⟩
        . show V.bl (decide (vN (ecc (li.length + 1) (ofL li) i) = vN m)) = _
          congr 1
          by_cases z : ecc (li.length + 1) (ofL li) i = m
          . rw [z]; exact (decide_eq_true rfl).trans (decide_eq_true rfl).symm
          . rw [decide_eq_false z, decide_eq_false fun y => z (by have := V.int.inj y; omega)]
        by_cases z : ecc (li.length + 1) (ofL li) i = m
        . rw [decide_eq_true z]
          try dsimp only
          rw [if_pos rfl]; refine ⟨_, rfl, e7, smallt (by rw [List.length_map]; omega), Nx.mk hx' ⟨⟨_, _, rfl⟩, ?_, same_upd s7 hD2 _, hD2, upd_same⟩⟩
          rw [midTo_hit z, List.map_append]
          rfl
        . rw [decide_eq_false z]
          try dsimp only
          rw [if_neg Bool.false_ne_true]; exact Nx.mk hx' ⟨⟨_, _, rfl⟩, by rw [midTo_miss z], s7, hD2, e7⟩
      . rintro D2 ys τ H6 p_
        refine hld fun g_ k_ => ?_; obtain ⟨_, rfl, s6, hD2, e6⟩ := p_; refine k_ ?_; rw [List.length_map, hel, midTo_all hm hle] at e6; have s16 := s1.trans (s5.trans s6); exact q ⟨hV, hF⟩ D2 H6 s16 ((s1.trans s5).free hD2) e6
  . refine comp_range (fun D i ys τ H5 => i = 0 /\ (∃ o, τ = [o, some (.ref b)]) /\ Same H1 H5) (fun D hD => ⟨rfl, ⟨_, rfl⟩, same_new hD _⟩) ?_ ?_
    . rintro D i ys τ H5 hi p_
      refine hld fun g_ k_ => ?_; obtain ⟨rfl, ⟨o, rfl⟩, s5⟩ := p_; refine k_ ?_
      dsimp only [gName, tAlways]
      rw [if_pos rfl]; exact ⟨_, rfl, _, rfl, b, bs, li.length + 1, 0, ofL li, rfl, B.up s5, hi, by omega, by rw [hol], hV.ofL, fun h => absurd h hF, fun h H6 s6 => qe (fun z => hF z.2) _ (s1.trans (s5.trans s6))⟩
    . rintro D ys τ H5 ⟨z, _⟩
      omega
end
end K08
namespace K08
open PySem L2 KM KD PyProof.Rows
section
variable {P : Program} {w : World} {K : PySem.W.Frag} {mg : Str -> Option Value} {base : Heap} {f : Addr} {fd : FuncData}
theorem scFreeForm : FnScope ["tree", "roots", "parts"] ["tree"] (defScope sFreeForm) := ⟨rfl, rfl, rfl, by decide +kernel, rfl, by decide +kernel, by decide +kernel⟩
theorem ok_freeForm {C f1 f2 f3 f4 : Addr} {d1 d2 d3 d4 : FuncData} (F : Fun K "free_form" "free_form" sFreeForm f fd) (GM : KitE P w K mg base 3 "middles" ["tree"] (spMiddles C) f1 d1) (GR : KitE P w K mg base 3 "rooted_at" ["tree", "knot"] (spRootedAt C) f2 d2)
    (GF : KitE P w K mg base 3 "form_of" ["above"] (spFormX C) f3 d3) (GK : KitD P w K mg base 2 "knot_forms" ["above", "marked"] (spKnots C) f4 d4) (ml : mg "len" = none) (ms : mg "sorted" = none) : FnOk P w K mg base (CXe P w) 4 f fd ["tree"] (spFreeForm C) := by
  refine F.okX scFreeForm (fun vs H Q E h => ?_) (fun cdv A outer s H vs Q E hr h => ?_)
  . obtain ⟨t, L, ps, c, li, rfl, _⟩ := h
    rfl
  obtain ⟨t, L, ps, c, li, rfl, G, hn, q, qe⟩ := h; have hr2 : Room 2 _ := hr.mono (by decide)
  refine ⟨_, pss_cons (ps_set (i := 1) scFreeForm.nd rfl (Or.inl rfl) (pe_call GM.ok hr rfl GM.mg GM.kp GM.bd .nil passX (pa_cons (pv 0) pa_nil)))
    (pss_cons (ps_if (pt_cmpR op_eq (pe_callB call_len_seq rfl ml PySem.boot_len (pa_cons (pv 1) pa_nil)) pe_int (nomark _))
      (pss_one (ps_ret (pe_call GF.ok hr rfl GF.mg GF.kp GF.bd .nil passX (pa_cons (pe_call GR.ok hr rfl GR.mg GR.kp GR.bd .nil passX (pa_cons (pv 0) (pa_cons (pe_ix ix_list (pv 1) pe_int (fun _ _ => rfl)) pa_nil))) pa_nil)))) pss_nil)
    (pss_cons (ps_set (i := 2) scFreeForm.nd rfl (Or.inl rfl) (pe_lst
      (pa_cons (pe_ix ix_list (pe_call GK.ok hr2 rfl GK.mg GK.kp GK.bd1 vals_non passX (pa_cons (pe_call GR.ok hr rfl GR.mg GR.kp GR.bd .nil passX (pa_cons (pv 0) (pa_cons (pe_ix ix_list (pv 1) pe_int (fun _ _ => rfl)) pa_nil))) pa_nil)) (pe_ix ix_list (pv 1) pe_int (fun _ _ => rfl)) (fun _ _ => rfl))
      (pa_cons (pe_ix ix_list (pe_call GK.ok hr2 rfl GK.mg GK.kp GK.bd1 vals_non passX (pa_cons (pe_call GR.ok hr rfl GR.mg GR.kp GR.bd .nil passX (pa_cons (pv 0) (pa_cons (pe_ix ix_list (pv 1) pe_int (fun _ _ => rfl)) pa_nil))) pa_nil)) (pe_ix ix_list (pv 1) pe_int (fun _ _ => rfl)) (fun _ _ => rfl)) pa_nil))))
    (pss_one (ps_ret (pe_bm PySem.F.plainAttrs_str PySem.F.slot_str_join PySem.F.type_str_join mt_join pe_str (pa_cons (pe_callB call_sortedS rfl ms boot_sorted (pa_cons (pv 2) pa_nil)) pa_nil)))))), ?_⟩
  refine ⟨_, rfl, t, L, ps, c, li, rfl, G, hn, fun hF rt H1 s1 hrt ert => ?_, fun hF H1 s1 => qe hF _ s1⟩; have hF2 := hF.2; have G1 := G.up s1; obtain ⟨n, hnl⟩ : ∃ n, n = li.length + 1 := ⟨_, rfl⟩; have hn0 : 0 < n := by omega
  have hff := q hF; rw [<- hnl] at ert hF2 hff
  have Q0 : ∀ (v : Nat), v < n -> ∀ (p : Addr) (H3 : Hp), H3 p = some (.lst ((At n (ofL li) v).map vO)) -> H3 p = some (.lst (((At n (ofL li) v).map toI).map vI)) /\ ((At n (ofL li) v).map toI).length < 64 := fun v hv p H3 e => by
    obtain ⟨hal, _, _⟩ := at_spec hF2 hv; exact ⟨by rw [map_vI]; exact e, by rw [List.length_map, hal]; omega⟩
  rcases mids_cases hF2 hn0 with ⟨m, em⟩ | ⟨a, b, em, hab, hj⟩
  . have hml : m < n := mids_lt (ls := ofL li) (by rw [em]; simp)
    rw [ff_one em] at hff; rw [em] at ert; refine ⟨_, rfl, rt, _, rfl, .inl (SqL.of ert), rfl, true, rfl, iteT ?_⟩; refine ⟨_, rfl, _, rfl, rt, _, _, _, rfl, rfl, SqL.of ert, at_map (xs := [m]) (i := 0) rfl, t, L, ps, c, li, m, rfl, G1, hn, by omega, fun _ p H2 s2 hp ep => ?_, fun h => absurd hF h⟩
    rw [<- hnl] at ep; obtain ⟨hal, ⟨rk, T⟩, _⟩ := at_spec hF2 hml; obtain ⟨ep', hal'⟩ := Q0 m hml p H2 ep; refine ⟨p, _, rfl, ep', hal', fun ab r rk' H3 e T' s3 => ?_, fun h => absurd (rtd_of rfl T) h⟩; have e' := toI_inj e; have hr0 : r = m := by rw [<- e'] at T'; exact T.only r T'.root
    rw [<- e', hr0]; exact hff _ (s1.trans (s2.trans s3))
  . have hal : a < n := mids_lt (ls := ofL li) (by rw [em]; simp)
    have hbl : b < n := mids_lt (ls := ofL li) (by rw [em]; simp)
    rw [ff_two em] at hff; rw [em] at ert; refine ⟨_, rfl, rt, _, rfl, .inl (SqL.of ert), rfl, false, rfl, iteF ?_⟩; refine ⟨_, rfl, _, rfl, rt, _, _, _, rfl, rfl, SqL.of ert, at_map (xs := [a, b]) (i := 1) rfl, t, L, ps, c, li, b, rfl, G1, hn, by omega, fun _ p H2 s2 hp ep => ?_, fun h => absurd hF h⟩
    rw [<- hnl] at ep; obtain ⟨hlb, ⟨rkb, Tb⟩, _⟩ := at_spec hF2 hbl; obtain ⟨hla, ⟨rka, Ta⟩, _⟩ := at_spec hF2 hal; obtain ⟨ep', hpl⟩ := Q0 b hbl p H2 ep; refine ⟨p, _, none, rfl, ep', hpl, fun ab r rk' p3 H3 e T' s3 hp3 ep3 => ?_, fun h => absurd (rtd_of rfl Tb) h⟩; have e' := toI_inj e; subst e'; have s13 := s2.trans s3; refine ⟨_, rfl, rt, _, _, _, rfl, rfl, SqL.of (s13 _ _ ert), at_map (xs := [a, b]) (i := 0) rfl, p3, _, _, _, rfl, rfl, SqL.of ep3, at_map (fms_get (by rw [hlb]; exact hal)), ?_⟩
    rw [fmM_none]; refine ⟨_, rfl, _, rfl, rt, _, _, _, rfl, rfl, SqL.of (s13 _ _ ert), at_map (xs := [a, b]) (i := 0) rfl, t, L, ps, c, li, a, rfl, G1.up s13, hn, by omega, fun _ p4 H4 s4 hp4 ep4 => ?_, fun h => absurd hF h⟩
    rw [<- hnl] at ep4; obtain ⟨ep4', hpl4⟩ := Q0 a hal p4 H4 ep4; refine ⟨p4, _, none, rfl, ep4', hpl4, fun ab r rk' p5 H5 e T' s5 hp5 ep5 => ?_, fun h => absurd (rtd_of rfl Ta) h⟩; have e' := toI_inj e; subst e'; have s15 := s13.trans (s4.trans s5); refine ⟨_, rfl, rt, _, _, _, rfl, rfl, SqL.of (s15 _ _ ert), at_map (xs := [a, b]) (i := 1) rfl, p5, _, _, _, rfl, rfl, SqL.of ep5, at_map (fms_get (by rw [hla]; exact hbl)), ?_⟩
    rw [fmM_none]; refine ⟨(by show 2 <= sizeLine; decide), fun pp hpp => ?_⟩
    have l1 : (br n (ofL li) b a).length <= 2 * 64 * 64 := Nat.le_trans (br_len hF2 (near_symm hj)) (Nat.mul_le_mul (Nat.mul_le_mul (Nat.le_refl _) (by omega)) (by omega))
    have l2 : (br n (ofL li) a b).length <= 2 * 64 * 64 := Nat.le_trans (br_len hF2 hj) (Nat.mul_le_mul (Nat.mul_le_mul (Nat.le_refl _) (by omega)) (by omega))
    have epp : (upd H5 pp (.lst [vT (fm (At n (ofL li) b) a), vT (fm (At n (ofL li) a) b)])) pp = some (.lst (([br n (ofL li) b a, br n (ofL li) a b].map mkS).map V.str)) := upd_same; have s6 := same_new hpp (.lst [vT (fm (At n (ofL li) b) a), vT (fm (At n (ofL li) a) b)]); generalize upd H5 pp (.lst [vT (fm (At n (ofL li) b) a), vT (fm (At n (ofL li) a) b)]) = H6 at epp s6; refine ⟨rfl, _, rfl, pp, _, rfl, SqL.of epp, (by show 2 < 64; decide), fun l ss' h1 h2 h3 => ?_⟩
    have es := sorted_is h1 h2; subst es; obtain ⟨x, y, exy, hxy⟩ := srt_two (br n (ofL li) b a) (br n (ofL li) a b); rw [dash_two exy] at hff; refine ⟨_, l, (srt [br n (ofL li) b a, br n (ofL li) a b]).map mkS, rfl, rfl, SqL.of upd_same, ?_, ?_⟩
    . rw [exy]
      have e1 : (Str.ofString "-").length = 1 := by rw [dashS]; rfl
      show ((mkS x).length + ((mkS y).length + 0)) + 2 * _ <= 16777216
      rw [e1, mkS_len, mkS_len]
      omega
    . rw [exy]
      show Q (V.str (Txt.join (Str.ofString "-") [mkS x, mkS y])) _
      rw [join_dash]; exact hff _ (s1.trans (s15.trans (s6.trans (same_new h3 _))))
end
end K08
namespace K08
open PySem L2 KM KD PyProof.Rows
section
variable {P : Program} {w : World} {K : PySem.W.Frag} {mg : Str -> Option Value} {base : Heap} {f : Addr} {fd : FuncData}
theorem scMidRoot : FnScope ["tree"] ["tree"] (defScope sRootedInTheMiddle) := ⟨rfl, rfl, rfl, by decide +kernel, rfl, by decide +kernel, by decide +kernel⟩
theorem ndKTr : (["knot", "tree"] : List Str).Nodup := by decide +kernel
theorem ok_midRoot {C f1 f2 f3 : Addr} {d1 d2 d3 : FuncData} (F : Fun K "rooted_in_the_middle" "rooted_in_the_middle" sRootedInTheMiddle f fd) (GM : KitE P w K mg base 3 "middles" ["tree"] (spMiddles C) f1 d1) (GR : KitE P w K mg base 3 "rooted_at" ["tree", "knot"] (spRootedAt C) f2 d2)
    (GF : Kit P w K mg base 3 "form_of" ["above"] spForm f3 d3) (mm : mg "min" = none) : FnOk P w K mg base (CXe P w) 5 f fd ["tree"] spMidRoot := by
  refine F.okX scMidRoot (fun vs H Q E h => ?_) (fun cdv A outer s H vs Q E hr h => ?_)
  . obtain ⟨t, L, ps, c, li, rfl, _⟩ := h
    rfl
  obtain ⟨t, L, ps, c, li, rfl, G, hn, hF, q⟩ := h; have hr3 : Room 3 _ := hr.mono (by decide)
  refine ⟨_, pss_one (ps_ret (pe_minKey (E := E0) GF.ok hr GF.bd rfl rfl mm rfl GF.mg
    (pe_compE (N' := ["knot", "tree"]) (js := [none, some 0])
      (CompOk.free1 (x := "tree") (nms := [(".0", .local), ("knot", .local), ("rooted_at", .globalImplicit), ("tree", .cell)]) rfl (by decide +kernel) (by decide +kernel) rfl rfl rfl rfl (by decide +kernel) (by
        intro j i h
        match j, h with
        | 0, h => cases h
        | 1, h => cases h; exact ⟨rfl, rfl⟩) rfl (Or.inl rfl))
      (pi_list (pe_call GM.ok hr3 rfl GM.mg GM.kp GM.bd .nil passX (pa_cons (pv 0) pa_nil))) (fun _ _ _ _ => pg_name (i := 0) ndKTr rfl (Or.inl rfl)) (fun _ _ _ _ => pif_nil)
      (fun _ _ _ _ _ pass => pe_call GR.ok hr3 rfl GR.mg GR.kp GR.bd .nil pass (pa_cons (pv 1) (pa_cons (pv 0) pa_nil)))))), ?_⟩
  refine ⟨_, rfl, t, L, ps, c, li, rfl, G, hn, fun _ rt H1 s1 hrt ert => ?_, fun h => absurd hF h⟩; obtain ⟨n, hnl⟩ : ∃ n, n = li.length + 1 := ⟨_, rfl⟩; have hF2 := hF.2; rw [<- hnl] at ert hF2 q; have hml := mids_len (n := n) (ls := ofL li); have hlt : ∀ (j m : Nat), (mids n (ofL li))[j]? = some m -> m < n := fun j m h => mids_lt (List.mem_of_getElem? h); have hne := mids_ne (n := n) (ls := ofL li) (by omega)
  have hmem : ∀ m, m ∈ mids n (ofL li) ↔ m ∈ mids n (ofL li) := fun m => Iff.rfl; obtain ⟨ms, hms⟩ : ∃ ms, ms = mids n (ofL li) := ⟨_, rfl⟩; rw [<- hms] at ert hml hlt hne; have hlm : (ms.map vN).length = ms.length := List.length_map _; refine ⟨rt, rfl, ⟨_, SqL.of ert⟩, ?_⟩
  refine comp_listF (K := K) (a := rt) (xs := ms.map vN) (fun D i ys τ H5 => (∃ o, τ = [o, some (.ref t)]) /\ Same H1 H5 /\ H1 D = none /\ H5 D = some (.lst ys) /\ ∃ pr : List Addr, ys = pr.map V.ref /\ pr.length = i /\ ∀ (j : Nat) (p : Addr) (m : Nat), pr[j]? = some p -> ms[j]? = some m -> H5 p = some (.lst ((At n (ofL li) m).map vO)) /\ p ≠ D)
    (fun D hD => ⟨⟨_, rfl⟩, same_new hD _, hD, upd_same, [], rfl, rfl, fun j p m h => (nomatch h)⟩) (fun D i ys τ H5 _ ⟨_, s5, _⟩ => SqL.of (s5 _ _ ert)) ?_ ?_
  . rintro D i x ys τ H5 hx p_
    refine hld fun g_ k_ => ?_; obtain ⟨⟨o, rfl⟩, s5, hD, e5, pr, rfl, hpl, each⟩ := p_; refine k_ ?_; have hx' := (List.getElem?_eq_some_iff.mp hx).1; obtain ⟨m, hmi, rfl⟩ := of_map hx; have hm := hlt i m hmi
    dsimp only [gName, tAlways]
    rw [if_pos rfl]; refine ⟨_, rfl, _, rfl, t, L, ps, c, li, m, rfl, G.up (s1.trans s5), hn, by omega, fun _ p H6 s6 hp ep => ?_, fun h => absurd hF h⟩
    rw [<- hnl] at ep; have hpD : p ≠ D := Ne.symm (ne_of_none e5 hp); refine ⟨s6 _ _ e5, smallt (by rw [List.length_map]; omega), Nx.mk hx' ⟨⟨_, rfl⟩, same_upd (s5.trans s6) hD _, hD, upd_same, pr ++ [p], by rw [List.map_append]; rfl, by rw [List.length_append, hpl]; rfl, fun j p' m' hj hm' => ?_⟩⟩
    by_cases hjl : j < pr.length
    . rw [List.getElem?_append_left hjl] at hj
      obtain ⟨h1, h2⟩ := each j p' m' hj hm'; exact ⟨by rw [upd_ne h2]; exact s6 _ _ h1, h2⟩
    . rw [List.getElem?_append_right (by omega)] at hj
      have hj0 : j - pr.length = 0 := by
        have := (List.getElem?_eq_some_iff.mp hj).1; rw [List.length_singleton] at this
        omega
      rw [hj0] at hj
      cases hj
      have hji : j = i := by omega
      subst hji; rw [hmi] at hm'
      cases hm'
      exact ⟨by rw [upd_ne hpD]; exact ep, hpD⟩
  . rintro D ys τ H5 p_
    refine hld fun g_ k_ => ?_; obtain ⟨_, s5, hD, e5, pr, rfl, hpl, each⟩ := p_; refine k_ ?_; rw [hlm] at hpl; have hpos : 0 < ms.length := List.length_pos_iff.mpr hne; have hgd : ∀ (i m : Nat), ms[i]? = some m -> ms.getD i 0 = m := fun i m h => by rw [List.getD_eq_getElem?_getD, h]; rfl
    have hmi : ∀ i, i < pr.length -> ms[i]? = some (ms.getD i 0) := fun i hi => by rw [List.getD_eq_getElem?_getD, List.getElem?_eq_getElem (show i < ms.length by omega)]; rfl
    refine ⟨D, pr.map V.ref, fun i => mkS (rf n (ofL li) (ms.getD i 0)), rfl, e5, by rw [List.length_map]; omega, fun i y H6 Qk hy s6 hQ => ?_, fun i y H6 hy hmost s6 => ?_⟩
    . obtain ⟨p, hp, rfl⟩ := of_map hy
      have hil := (List.getElem?_eq_some_iff.mp hp).1; have hm := hmi i hil; have hmn := hlt _ _ hm; obtain ⟨hal, ⟨rk, T⟩, _⟩ := at_spec hF2 hmn; exact ⟨p, At n (ofL li) (ms.getD i 0), ms.getD i 0, rk, rfl, s6 _ _ (each i p _ hp hm).1, T, by omega, fun H7 s7 => hQ H7 s7⟩
    . obtain ⟨p, hp, rfl⟩ := of_map hy
      have hil := (List.getElem?_eq_some_iff.mp hp).1; have hm := hmi i hil; refine q p (ms.getD i 0) H6 (s1.trans (s5.trans s6)) ⟨by rw [<- hms]; exact List.mem_of_getElem? hm, fun j hj => ?_⟩ (s6 _ _ (each i p _ hp hm).1)
      rw [<- hms] at hj; obtain ⟨jj, hjj⟩ := List.mem_iff_getElem?.mp hj; have hjl := (List.getElem?_eq_some_iff.mp hjj).1; have h0 := hmost jj (by rw [List.length_map]; omega)
      have h1 : ¬ rf n (ofL li) (ms.getD jj 0) < rf n (ofL li) (ms.getD i 0) := h0; rw [hgd jj j hjj] at h1; exact h1
end
end K08
namespace K08
open PySem L2 KM KD PyProof.Rows
section
variable {P : Program} {w : World} {K : PySem.W.Frag} {mg : Str -> Option Value} {base : Heap} {f : Addr} {fd : FuncData}
theorem scFMatched : FnScope ["one", "other", "one_form", "other_form"] ["one", "other"] (defScope sFreeMatched) := ⟨rfl, rfl, rfl, by decide +kernel, rfl, by decide +kernel, by decide +kernel⟩
theorem ok_fMatched {C T f1 f2 f3 : Addr} {lp : Pos} {d1 d2 d3 : FuncData} (F : Fun K "free_matched" "free_matched" sFreeMatched f fd) (GF : KitE P w K mg base 4 "free_form" ["tree"] (spFreeForm C) f1 d1) (GM : KitE P w K mg base 5 "rooted_in_the_middle" ["tree"] spMidRoot f2 d2)
    (GMd : Kit P w K mg base 3 "matched" ["one", "other"] (spMatchedQ T lp lqF) f3 d3) : FnOk P w K mg base (CXe P w) 6 f fd ["one", "other"] (spFMatched C T lp lqF) := by
  refine F.okX scFMatched (fun vs H Q E h => ?_) (fun cdv A outer s H vs Q E hr h => ?_)
  . obtain ⟨t, L, t', L', ps, ps', c, c', li, li', rfl, _⟩ := h
    rfl
  obtain ⟨t, L, t', L', ps, ps', c, c', li, li', rfl, G, G', hn, hn', htb, q, qe⟩ := h; have hr3 : Room 3 _ := hr.mono (by decide)
  have hr4 : Room 4 _ := hr.mono (by decide)
  refine ⟨_, pss_cons (ps_set (i := 2) scFMatched.nd rfl (Or.inl rfl) (pe_call GF.ok hr4 rfl GF.mg GF.kp GF.bd .nil passX (pa_cons (pv 0) pa_nil)))
    (pss_cons (ps_set (i := 3) scFMatched.nd rfl (Or.inl rfl) (pe_call GF.ok hr4 rfl GF.mg GF.kp GF.bd .nil passX (pa_cons (pv 1) pa_nil)))
    (pss_cons (ps_if (pt_cmpR op_ne (pv 2) (pv 3) (nomark _)) (pss_one (ps_ret (pe_tup (pa_cons pe_str (pa_cons (pv 2) (pa_cons (pv 3) pa_nil)))))) pss_nil)
    (pss_one (ps_ret (pe_call GMd.ok hr3 rfl GMd.mg GMd.kp GMd.bd .nil pass0 (pa_cons (pe_call GM.ok hr rfl GM.mg GM.kp GM.bd .nil passX (pa_cons (pv 0) pa_nil)) (pa_cons (pe_call GM.ok hr rfl GM.mg GM.kp GM.bd .nil passX (pa_cons (pv 1) pa_nil)) pa_nil))))))), ?_⟩
  refine ⟨_, rfl, t, L, ps, c, li, rfl, G, hn, fun hF H1 s1 => ?_, fun hF H1 s1 => qe (fun z => hF z.1) H1 s1⟩; refine ⟨_, rfl, t', L', ps', c', li', rfl, G'.up s1, hn', fun hF' H2 s2 => ?_, fun hF' H2 s2 => qe (fun z => hF' z.2) H2 (s1.trans s2)⟩; obtain ⟨q1, q2⟩ := q hF hF'; have s12 := s1.trans s2; refine ⟨_, rfl, _, rfl, rfl, _, rfl, ?_⟩
  by_cases e : ff (li.length + 1) (ofL li) = ff (li'.length + 1) (ofL li')
  case neg =>
    rw [decide_eq_false (show ¬ vT (ff (li.length + 1) (ofL li)) = vT (ff (li'.length + 1) (ofL li')) from fun z => e (vT_inj.mp z))]
    refine iteT ⟨_, rfl, _, rfl, (by show 3 <= sizeLine; decide), fun p hp => ?_⟩
    have s3 := s12.trans (same_new hp (.tup [.str (Str.ofString "unlike"), vT (ff (li.length + 1) (ofL li)), vT (ff (li'.length + 1) (ofL li'))])); exact q1 e p _ (SameT.of s3) (htb.same s3) upd_same
  refine iteNS (by rw [e]) ?_
  refine ⟨_, rfl, t, L, ps, c, li, rfl, G.up s12, hn, hF, fun p m H3 s3 hm ep => ?_⟩; have s13 := s12.trans s3; refine ⟨_, rfl, t', L', ps', c', li', rfl, G'.up s13, hn', hF', fun p' m' H4 s4 hm' ep' => ?_⟩; have s14 := s13.trans s4; have hml := mids_lt hm.1; have hml' := mids_lt hm'.1; obtain ⟨hal, ⟨rk, T1⟩, _⟩ := at_spec hF.2 hml; obtain ⟨hal', ⟨rk', T1'⟩, _⟩ := at_spec hF'.2 hml'; have hrf := ff_mid hF.2 hF'.2 (Nat.succ_pos _) (Nat.succ_pos _) e hm hm'; refine ⟨p, p', _, _, m, m', rk, rk', rfl, s4 _ _ ep, ep', by omega, by omega, htb.same s14, T1, T1', fun hne => absurd hrf hne, fun _ pp l mt H5 sT tb hpp epp el R => ?_⟩
  exact q2 e pp l mt H5 ((SameT.of s14).trans sT) tb epp el (joins_of hF.2 hF'.2 hml hml' R)
end
end K08
namespace K08
open PySem L2 KM KD PyProof.Rows
section
variable {P : Program} {w : World} {K : PySem.W.Frag} {mg : Str -> Option Value} {base : Heap} {f : Addr} {fd : FuncData}
theorem scLinesOf : FnScope ["_law_above", "_law_cells", "_law_lines", "_law_k", "_law_pair", "_law_cell"] ["_law_above", "_law_cells"] (defScope sLinesOf) := ⟨rfl, rfl, rfl, by decide +kernel, rfl, by decide +kernel, by decide +kernel⟩
theorem ok_linesOf (F : Fun K "_law_lines_of" "_law_lines_of" sLinesOf f fd) (ml : mg "len" = none) (mr : mg "range" = none) : FnOk P w K mg base CX0 1 f fd ["_law_above", "_law_cells"] spLinesOf := by
  refine F.ok scLinesOf (fun vs H Q E h => ?_) (fun cdv A outer s H vs Q E hr h => ?_)
  . obtain ⟨a, b, ab, ns, rfl, _⟩ := h
    rfl
  obtain ⟨a, b, ab, ns, rfl, ha, hb, U, hn, hns, q⟩ := h
  refine ⟨_, pss_cons (ps_set (i := 2) scLinesOf.nd rfl (Or.inl rfl) (pe_lst pa_nil))
    (pss_cons (ps_for PassesOwn.never rfl (pi_range2 rfl mr (pa_cons pe_int (pa_cons (pe_callB call_len_seq rfl ml PySem.boot_len (pa_cons (pv 0) pa_nil)) pa_nil))) (pg_name (i := 3) scLinesOf.nd rfl (Or.inl rfl))
      (pss_cons (ps_set (i := 4) scLinesOf.nd rfl (Or.inl rfl) (pe_tup (pa_cons (pv 3) (pa_cons (pe_ix ix_list (pv 0) (pv 3) (fun _ _ => rfl)) pa_nil))))
      (pss_cons (ps_set (i := 5) scLinesOf.nd rfl (Or.inl rfl) (pv 3))
      (pss_cons (ps_if (pt_cmpR op_lt (pv 3) (pe_callB call_len_seq rfl ml PySem.boot_len (pa_cons (pv 1) pa_nil)) (nomark _)) (pss_one (ps_set (i := 5) scLinesOf.nd rfl (Or.inl rfl) (pe_ix ix_list (pv 1) (pv 3) (fun _ _ => rfl)))) pss_nil)
      (pss_cons (ps_if (pt_cmpR op_eq (pe_op op_mod (pe_op op_fdiv (pv 5) pe_int) pe_int) pe_int (nomark _)) (pss_one (ps_set (i := 4) scLinesOf.nd rfl (Or.inl rfl) (pe_tup (pa_cons (pe_ix ix_list (pv 0) (pv 3) (fun _ _ => rfl)) (pa_cons (pv 3) pa_nil))))) pss_nil)
      (pss_one (ps_expr (pe_bm PySem.F.plainAttrs_list PySem.F.slot_list_insert PySem.F.type_list_insert mt_insert (pv 2) (pa_cons (pe_op op_mod (pe_op op_fdiv (pv 5) pe_int) (pe_op op_add (pe_callB call_len_seq rfl ml PySem.boot_len (pa_cons (pv 2) pa_nil)) pe_int)) (pa_cons (pv 4) pa_nil))))))))))
    (pss_one (ps_ret (pv 2)))), ?_⟩
  have hl : (ab.map vO).length = ab.length := List.length_map _; have hlb : (ns.map V.int).length = ns.length := List.length_map _; refine ⟨(by show 0 <= sizeLine; decide), fun L hL => ?_⟩
  have s1 : Same H (upd H L (.lst [])) := same_new hL _; refine ⟨_, rfl, a, _, rfl, .inl (SqL.of (s1 _ _ ha)), _, _, rfl, ⟨by omega, by omega, by omega, by rw [hl]; omega⟩, ?_⟩
  rw [show ((((ab.map vO).length : Nat) : Int) - 1).toNat = ab.length - 1 by rw [hl]; omega]
  have hU := U.pos
  refine for_range (lo := 1) (n := ab.length - 1) (fun i σ H3 => (∃ o3 o4 o5, σ = [some (.ref a), some (.ref b), some (.ref L), o3, o4, o5]) /\ Same H H3 /\ ∃ (ps : List Addr) (ls : Ln), LinesAt H3 L ps (toL ls) /\ (ls.map nrm).Perm ((edsTo ab (i + 1)).map nrm) /\ ls.length = i)
    ⟨⟨_, _, _, rfl⟩, s1, [], [], ⟨upd_same, rfl, (fun j c ys h => (nomatch h)), (fun ys h => (nomatch h))⟩, (by rw [edsTo_one U.root]), rfl⟩ ?_ ?_
  . rintro i σ H3 hi p_
    refine hld fun g_ k_ => ?_; obtain ⟨⟨o3, o4, o5, rfl⟩, s3, ps, ls, G, hpm, hli⟩ := p_; refine k_ ?_; have ek : (1 : Int) + ((i : Nat) : Int) = ((i + 1 : Nat) : Int) := by omega
    rw [ek]; have hk : i + 1 < ab.length := by omega
    obtain ⟨p, hp⟩ : ∃ p, ab[i + 1]? = some (some p) := by
      cases z : ab[i + 1] with
      | none => exact absurd (U.tree.only (i + 1) (by rw [List.getElem?_eq_getElem hk, z])) (by omega)
      | some p => exact ⟨p, by rw [List.getElem?_eq_getElem hk, z]⟩
    have hst := edsTo_step hp; have ha3 := s3 _ _ ha; have hb3 := s3 _ _ hb; refine ⟨_, rfl, _, rfl, _, rfl, a, _, _, _, rfl, rfl, SqL.of ha3, at_map hp, (by show 2 <= sizeLine; decide), fun p1 hp1 => ?_⟩
    have s4 := same_new hp1 (.tup [V.int ((i + 1 : Nat) : Int), vO (some p)]); have e1 : (upd H3 p1 (.tup [V.int ((i + 1 : Nat) : Int), vO (some p)])) p1 = some (.tup (vP (((i + 1 : Nat) : Int), (p : Int)))) := upd_same; generalize upd H3 p1 (.tup [V.int ((i + 1 : Nat) : Int), vO (some p)]) = H4 at s4 e1; refine ⟨_, rfl, ?_⟩; refine ⟨_, rfl, _, rfl, b, _, rfl, .inl (SqL.of (s4 _ _ hb3)), _, _, rfl, rfl, _, rfl, ?_⟩; refine ite2 (fun c => ?_) (fun c => ?_)
    . have c' := of_decide_eq_true c
      rw [hlb] at c'; have hx : ns[i + 1]? = some ns[i + 1] := List.getElem?_eq_getElem (by omega)
      refine ⟨_, rfl, _, rfl, b, _, _, _, rfl, rfl, SqL.of (s4 _ _ hb3), at_map hx, ?_⟩; generalize ns[i + 1] = cv; refine ⟨_, rfl, _, _, rfl, rfl, ⟨by decide, by decide⟩, _, _, rfl, rfl, (by show (0 : Int) < 2; decide), rfl, _, rfl, ?_⟩
      refine ite2 (fun c2 => ?_) (fun c2 => ?_)
      . refine ⟨_, rfl, _, rfl, a, _, _, _, rfl, rfl, SqL.of (s4 _ _ ha3), at_map hp, _, rfl, (by show 2 <= sizeLine; decide), fun p2 hp2 => ?_⟩
        have s5 := s4.trans (same_new hp2 (.tup [vO (some p), V.int ((i + 1 : Nat) : Int)])); have e2 : (upd H4 p2 (.tup [vO (some p), V.int ((i + 1 : Nat) : Int)])) p2 = some (.tup (vP ((p : Int), ((i + 1 : Nat) : Int)))) := upd_same; have G5 := G.up s5; have hlL : (ps.map V.ref).length = ls.length := by rw [List.length_map, G.len, List.length_map, toL_len]
        refine ⟨_, rfl, .inl ⟨rfl, _, SqL.of G5.top⟩, _, rfl, _, _, rfl, rfl, ⟨by decide, by decide⟩, _, rfl, L, _, rfl, .inl (SqL.of G5.top), _, _, rfl, rfl, _, _, rfl, rfl, ?_, _, rfl, L, _, _, _, rfl, rfl, G5.top, ?_, ?_, smallt (by rw [hlL]; omega), ?_⟩
        . show (0 : Int) < (((ps.map V.ref).length : Nat) : Int) + 1
          omega
        . exact Int.emod_nonneg _ (by omega)
        . exact Int.le_of_lt_add_one (Int.emod_lt_of_pos _ (by omega))
        refine ⟨⟨_, _, _, rfl⟩, same_upd (s3.trans s5) hL _, _, _, lines_ins G5 (p, i + 1) e2 _ ?_, ?_, ?_⟩
        . have h1 := Int.emod_lt_of_pos ((cv / 5)) (show (0 : Int) < (((ps.map V.ref).length : Nat) : Int) + 1 by omega)
          have h2 := Int.emod_nonneg ((cv / 5)) (show (((ps.map V.ref).length : Nat) : Int) + 1 ≠ 0 by omega)
          rw [hlL] at h1 h2
          show ((cv / 5) % ((((ps.map V.ref).length : Nat) : Int) + 1)).toNat <= ls.length
          rw [hlL]
          omega
        . refine ((perm_ins2 ls (p, i + 1) _).map nrm).trans ?_
          rw [hst, List.map_append, List.map_append]; refine List.Perm.append hpm ?_
          show [nrm (p, i + 1)].Perm [nrm (i + 1, p)]
          rw [nrm_flip]
        . rw [(perm_ins2 ls (p, i + 1) _).length_eq, List.length_append, hli]
          rfl
      . skip
        have G5 := G.up s4; have hlL : (ps.map V.ref).length = ls.length := by rw [List.length_map, G.len, List.length_map, toL_len]
        refine ⟨_, rfl, .inl ⟨rfl, _, SqL.of G5.top⟩, _, rfl, _, _, rfl, rfl, ⟨by decide, by decide⟩, _, rfl, L, _, rfl, .inl (SqL.of G5.top), _, _, rfl, rfl, _, _, rfl, rfl, ?_, _, rfl, L, _, _, _, rfl, rfl, G5.top, ?_, ?_, smallt (by rw [hlL]; omega), ?_⟩
        . show (0 : Int) < (((ps.map V.ref).length : Nat) : Int) + 1
          omega
        . exact Int.emod_nonneg _ (by omega)
        . exact Int.le_of_lt_add_one (Int.emod_lt_of_pos _ (by omega))
        refine ⟨⟨_, _, _, rfl⟩, same_upd (s3.trans s4) hL _, _, _, lines_ins G5 (i + 1, p) e1 _ ?_, ?_, ?_⟩
        . have h1 := Int.emod_lt_of_pos ((cv / 5)) (show (0 : Int) < (((ps.map V.ref).length : Nat) : Int) + 1 by omega)
          have h2 := Int.emod_nonneg ((cv / 5)) (show (((ps.map V.ref).length : Nat) : Int) + 1 ≠ 0 by omega)
          rw [hlL] at h1 h2
          show ((cv / 5) % ((((ps.map V.ref).length : Nat) : Int) + 1)).toNat <= ls.length
          rw [hlL]
          omega
        . refine ((perm_ins2 ls (i + 1, p) _).map nrm).trans ?_
          rw [hst, List.map_append, List.map_append]; refine List.Perm.append hpm ?_
          show [nrm (i + 1, p)].Perm [nrm (i + 1, p)]
          exact .refl _
        . rw [(perm_ins2 ls (i + 1, p) _).length_eq, List.length_append, hli]
          rfl
    . obtain ⟨cv, hcv⟩ : ∃ cv : Int, cv = ((i + 1 : Nat) : Int) := ⟨_, rfl⟩
      refine ⟨_, rfl, _, _, rfl, rfl, ⟨by decide, by decide⟩, _, _, rfl, rfl, (by show (0 : Int) < 2; decide), rfl, _, rfl, ?_⟩
      refine ite2 (fun c2 => ?_) (fun c2 => ?_)
      . refine ⟨_, rfl, _, rfl, a, _, _, _, rfl, rfl, SqL.of (s4 _ _ ha3), at_map hp, _, rfl, (by show 2 <= sizeLine; decide), fun p2 hp2 => ?_⟩
        have s5 := s4.trans (same_new hp2 (.tup [vO (some p), V.int ((i + 1 : Nat) : Int)])); have e2 : (upd H4 p2 (.tup [vO (some p), V.int ((i + 1 : Nat) : Int)])) p2 = some (.tup (vP ((p : Int), ((i + 1 : Nat) : Int)))) := upd_same; have G5 := G.up s5; have hlL : (ps.map V.ref).length = ls.length := by rw [List.length_map, G.len, List.length_map, toL_len]
        refine ⟨_, rfl, .inl ⟨rfl, _, SqL.of G5.top⟩, _, rfl, _, _, rfl, rfl, ⟨by decide, by decide⟩, _, rfl, L, _, rfl, .inl (SqL.of G5.top), _, _, rfl, rfl, _, _, rfl, rfl, ?_, _, rfl, L, _, _, _, rfl, rfl, G5.top, ?_, ?_, smallt (by rw [hlL]; omega), ?_⟩
        . show (0 : Int) < (((ps.map V.ref).length : Nat) : Int) + 1
          omega
        . exact Int.emod_nonneg _ (by omega)
        . exact Int.le_of_lt_add_one (Int.emod_lt_of_pos _ (by omega))
        refine ⟨⟨_, _, _, rfl⟩, same_upd (s3.trans s5) hL _, _, _, lines_ins G5 (p, i + 1) e2 _ ?_, ?_, ?_⟩
        . have h1 := Int.emod_lt_of_pos ((((i + 1 : Nat) : Int) / 5)) (show (0 : Int) < (((ps.map V.ref).length : Nat) : Int) + 1 by omega)
          have h2 := Int.emod_nonneg ((((i + 1 : Nat) : Int) / 5)) (show (((ps.map V.ref).length : Nat) : Int) + 1 ≠ 0 by omega)
          rw [hlL] at h1 h2
          show ((((i + 1 : Nat) : Int) / 5) % ((((ps.map V.ref).length : Nat) : Int) + 1)).toNat <= ls.length
          rw [hlL]
          omega
        . refine ((perm_ins2 ls (p, i + 1) _).map nrm).trans ?_
          rw [hst, List.map_append, List.map_append]; refine List.Perm.append hpm ?_
          show [nrm (p, i + 1)].Perm [nrm (i + 1, p)]
          rw [nrm_flip]
        . rw [(perm_ins2 ls (p, i + 1) _).length_eq, List.length_append, hli]
          rfl
      . skip
        have G5 := G.up s4; have hlL : (ps.map V.ref).length = ls.length := by rw [List.length_map, G.len, List.length_map, toL_len]
        refine ⟨_, rfl, .inl ⟨rfl, _, SqL.of G5.top⟩, _, rfl, _, _, rfl, rfl, ⟨by decide, by decide⟩, _, rfl, L, _, rfl, .inl (SqL.of G5.top), _, _, rfl, rfl, _, _, rfl, rfl, ?_, _, rfl, L, _, _, _, rfl, rfl, G5.top, ?_, ?_, smallt (by rw [hlL]; omega), ?_⟩
        . show (0 : Int) < (((ps.map V.ref).length : Nat) : Int) + 1
          omega
        . exact Int.emod_nonneg _ (by omega)
        . exact Int.le_of_lt_add_one (Int.emod_lt_of_pos _ (by omega))
        refine ⟨⟨_, _, _, rfl⟩, same_upd (s3.trans s4) hL _, _, _, lines_ins G5 (i + 1, p) e1 _ ?_, ?_, ?_⟩
        . have h1 := Int.emod_lt_of_pos ((((i + 1 : Nat) : Int) / 5)) (show (0 : Int) < (((ps.map V.ref).length : Nat) : Int) + 1 by omega)
          have h2 := Int.emod_nonneg ((((i + 1 : Nat) : Int) / 5)) (show (((ps.map V.ref).length : Nat) : Int) + 1 ≠ 0 by omega)
          rw [hlL] at h1 h2
          show ((((i + 1 : Nat) : Int) / 5) % ((((ps.map V.ref).length : Nat) : Int) + 1)).toNat <= ls.length
          rw [hlL]
          omega
        . refine ((perm_ins2 ls (i + 1, p) _).map nrm).trans ?_
          rw [hst, List.map_append, List.map_append]; refine List.Perm.append hpm ?_
          show [nrm (i + 1, p)].Perm [nrm (i + 1, p)]
          exact .refl _
        . rw [(perm_ins2 ls (i + 1, p) _).length_eq, List.length_append, hli]
          rfl
  . rintro σ H3 p_
    refine hld fun g_ k_ => ?_; obtain ⟨⟨o3, o4, o5, rfl⟩, s3, ps, ls, G, hpm, hli⟩ := p_; refine k_ ?_; rw [show ab.length - 1 + 1 = ab.length by omega] at hpm
    exact ⟨_, rfl, q L ps ls H3 s3 G hpm⟩
end
end K08
namespace K08
open PySem L2 KM KD PyProof.Rows
section
variable {P : Program} {w : World} {K : PySem.W.Frag} {mg : Str -> Option Value} {base : Heap} {f : Addr} {fd : FuncData}
theorem scAreKnots : FnScope ["_law_found", "_law_many", "_law_one"] ["_law_found", "_law_many"] (defScope sAreKnots) := ⟨rfl, rfl, rfl, by decide +kernel, rfl, by decide +kernel, by decide +kernel⟩
theorem ok_areKnotsI {f1 : Addr} {d1 : FuncData} (F : Fun K "_law_are_knots" "_law_are_knots" sAreKnots f fd) (GW : Kit P w K mg base 1 "_law_whole" ["_law_found"] spWhole f1 d1) (ml : mg "len" = none) (mi : mg "isinstance" = none) (mli : mg "list" = none) : FnOk P w K mg base CX0 2 f fd ["_law_found", "_law_many"] spAreKnotsI := by
  refine F.ok scAreKnots (fun vs H Q E h => ?_) (fun cdv A outer s H vs Q E hr h => ?_)
  . obtain ⟨a, ks, n, rfl, _⟩ := h
    rfl
  obtain ⟨a, ks, n, rfl, ha, hn, hn1, q⟩ := h
  refine ⟨_, pss_cons (ps_if (PW.pt (pw_or (pt_not (pt_val (pe_callB call_isi rfl mi boot_isinstance (pa_cons (pv 0) (pa_cons (pe_bltn (v := .ty "list") rfl mli PyProof.Rows.boot_list rfl) pa_nil)))))
      (pw_or1 (pt_cmpR op_ne (pe_callB call_len_seq rfl ml PySem.boot_len (pa_cons (pv 0) pa_nil)) (pv 1) (nomark _))))) pss_never pss_nil)
    (pss_cons (ps_for PassesOwn.never rfl (pi_list (pv 0)) (pg_name (i := 2) scAreKnots.nd rfl (Or.inl rfl))
      (pss_one (ps_if (pt_not (pt_val (pe_call GW.ok hr rfl GW.mg GW.kp GW.bd .nil pass0 (pa_cons (pv 2) pa_nil)))) pss_never pss_nil)))
    (pss_one (ps_ret pe_bl))), ?_⟩
  refine ⟨_, rfl, _, _, _, _, rfl, TyOf.lst ha, kitList K, _, rfl, iteF ?_⟩; refine ⟨_, rfl, a, _, rfl, .inl (SqL.of ha), _, rfl, rfl, _, rfl, iteNS (by rw [List.length_map, hn]; rfl) ?_⟩
  refine ⟨_, rfl, a, rfl, ⟨_, SqL.of ha⟩, for_list (K := K) (a := a) (xs := ks.map V.int) (fun i σ H3 => (∃ o, σ = [some (.ref a), some (vN n), o]) /\ Same H H3) ⟨⟨_, rfl⟩, Same.refl _⟩ (fun i σ H3 _ ⟨_, s3⟩ => SqL.of (s3 _ _ ha)) ?_ ?_⟩
  . rintro i x σ H3 hx ⟨⟨o, rfl⟩, s3⟩
    obtain ⟨k, hk, rfl⟩ := of_map hx; exact ⟨_, rfl, k, rfl, fun H4 s4 => ⟨_, rfl, iteF ⟨⟨_, rfl⟩, s3.trans s4⟩⟩⟩
  . rintro σ H3 ⟨⟨o, rfl⟩, s3⟩
    exact q H3 s3
end
end K08
namespace K08
open PySem L2 KM KD PyProof.Rows
section
variable {P : Program} {w : World} {K : PySem.W.Frag} {mg : Str -> Option Value} {base : Heap} {f : Addr} {fd : FuncData}
theorem scKept : FnScope ["_law_handed", "_law_tree", "_law_pair"] ["_law_handed", "_law_tree"] (defScope sKeptWhole) := ⟨rfl, rfl, rfl, by decide +kernel, rfl, by decide +kernel, by decide +kernel⟩
theorem ok_kept {f1 f2 : Addr} {d1 d2 : FuncData} (F : Fun K "_law_kept_whole" "_law_kept_whole" sKeptWhole f fd) (GW : Kit P w K mg base 1 "_law_whole" ["_law_found"] spWhole f1 d1) (GA : Kit P w K mg base 2 "_law_are_knots" ["_law_found", "_law_many"] spAreKnotsI f2 d2) (ml : mg "len" = none) (mi : mg "isinstance" = none) (mli : mg "list" = none) (mtu : mg "tuple" = none) :
    FnOk P w K mg base CX0 3 f fd ["_law_handed", "_law_tree"] spKept := by
  refine F.ok scKept (fun vs H Q E h => ?_) (fun cdv A outer s H vs Q E hr h => ?_)
  . obtain ⟨t, L, t', L', ps, ps', c, li, rfl, _⟩ := h
    rfl
  obtain ⟨t, L, t', L', ps, ps', c, li, rfl, G, G', hn, q⟩ := h; have hr1 : Room 1 _ := hr.mono (by decide)
  refine ⟨_, pss_cons (ps_if (PW.pt (pw_or (pt_not (pt_val (pe_callB call_isi rfl mi boot_isinstance (pa_cons (pv 0) (pa_cons (pe_bltn (v := .ty "tuple") rfl mtu PyProof.Rows.boot_tuple rfl) pa_nil)))))
      (pw_or1 (pt_cmpR op_ne (pe_callB call_len_seq rfl ml PySem.boot_len (pa_cons (pv 0) pa_nil)) pe_int (nomark _))))) pss_never pss_nil)
    (pss_cons (ps_if (pt_not (pt_val (pe_call GW.ok hr1 rfl GW.mg GW.kp GW.bd .nil pass0 (pa_cons (pe_ix ix_tup (pv 0) pe_int (fun _ _ => rfl)) pa_nil)))) pss_never pss_nil)
    (pss_cons (ps_for PassesOwn.never rfl (pi_list (pe_ix ix_tup (pv 0) pe_int (fun _ _ => rfl))) (pg_name (i := 2) scKept.nd rfl (Or.inl rfl))
      (pss_one (ps_if (PW.pt (pw_or (pt_not (pt_val (pe_callB call_isi rfl mi boot_isinstance (pa_cons (pv 2) (pa_cons (pe_bltn (v := .ty "tuple") rfl mtu PyProof.Rows.boot_tuple rfl) pa_nil)))))
        (pw_or1 (pt_not (pt_val (pe_call GA.ok hr rfl GA.mg GA.kp GA.bd .nil pass0 (pa_cons (pe_callTy call_list_of rfl mli PyProof.Rows.boot_list (pa_cons (pv 2) pa_nil)) (pa_cons pe_int pa_nil)))))))) pss_never pss_nil)))
    (pss_one (ps_ret (pe_cmpR (op_eqTr (by have := hr.un; show (A.deeper (envOfC "_law_kept_whole" (defScope sKeptWhole) s.heap.objs.size f cdv)).units + 2 < cLine; omega)) (pv 0) (pv 1) (nomark _)))))), ?_⟩
  refine ⟨_, rfl, _, _, _, _, rfl, TyOf.tup G.tup, kitTup K, _, rfl, iteF ?_⟩; refine ⟨_, rfl, t, _, rfl, .inr (SqT.of G.tup), rfl, _, rfl, iteNS rfl ?_⟩; refine ⟨_, rfl, t, _, _, _, rfl, rfl, SqT.of G.tup, rfl, c, rfl, fun H1 s1 => ⟨_, rfl, iteF ?_⟩⟩; have G1 := G.up s1; refine ⟨_, rfl, t, _, _, _, rfl, rfl, SqT.of G1.tup, rfl, L, rfl, ⟨_, SqL.of G1.ls.top⟩, for_list (K := K) (a := L) (xs := ps.map V.ref) (fun i σ H3 => (∃ o, σ = [some (.ref t), some (.ref t'), o]) /\ Same H1 H3) ⟨⟨_, rfl⟩, Same.refl _⟩ (fun i σ H3 _ ⟨_, s3⟩ => SqL.of (s3 _ _ G1.ls.top)) ?_ ?_⟩
  . rintro i x σ H3 hx ⟨⟨o, rfl⟩, s3⟩
    obtain ⟨d, hd, rfl⟩ := of_map hx
    have hil : i < li.length := by
      have := (List.getElem?_eq_some_iff.mp hd).1; rw [G.ls.len, List.length_map] at this; exact this
    obtain ⟨d', hd', ed⟩ := LinesAt.at (G1.ls.up s3) hil; rw [hd] at hd'
    cases hd'
    refine ⟨_, rfl, _, _, _, _, rfl, TyOf.tup ed, kitTup K, _, rfl, iteF ?_⟩; refine ⟨_, rfl, d, _, rfl, .inr (SqT.of ed), fun l hl => ?_⟩; refine ⟨l, [li[i].1, li[i].2], 2, rfl, upd_same, rfl, by decide, fun H4 s4 => ⟨_, rfl, iteF ⟨⟨_, rfl⟩, s3.trans ((same_new hl _).trans s4)⟩⟩⟩
  . rintro σ H3 ⟨⟨o, rfl⟩, s3⟩
    have s13 := s1.trans s3; exact ⟨_, rfl, _, rfl, t, t', c, L, L', ps, ps', _, rfl, rfl, (G.up s13).tup, (G'.up s13).tup, (G.up s13).ls, (G'.up s13).ls, q _ s13⟩
end
end K08
namespace K08
open PySem L2 KM KD PyProof.Rows
section
variable {P : Program} {w : World} {K : PySem.W.Frag} {mg : Str -> Option Value} {base : Heap} {f : Addr} {fd : FuncData}
theorem scIsFree : FnScope ["_law_many", "_law_lines", "_law_pair", "_law_found", "_law_turn", "_law_one", "_law_other"] ["_law_many", "_law_lines"] (defScope sIsFree) := ⟨rfl, rfl, rfl, by decide +kernel, rfl, by decide +kernel, by decide +kernel⟩
theorem ok_isFree (F : Fun K "_law_is_free" "_law_is_free" sIsFree f fd) (ml : mg "len" = none) (mr : mg "range" = none) (mn : mg "min" = none) (mx : mg "max" = none) : FnOk P w K mg base CX0 1 f fd ["_law_many", "_law_lines"] spIsFreeL := by
  refine F.ok scIsFree (fun vs H Q E h => ?_) (fun cdv A outer s H vs Q E hr h => ?_)
  . obtain ⟨L, ps, c, li, rfl, _⟩ := h
    rfl
  obtain ⟨L, ps, c, li, rfl, G, hn, q⟩ := h
  refine ⟨_, pss_cons (ps_if (PW.pt (pw_or (pt_cmpR op_lt (pv 0) pe_int (nomark _)) (pw_or1 (pt_cmpR op_ne (pe_callB call_len_seq rfl ml PySem.boot_len (pa_cons (pv 1) pa_nil)) (pe_op op_sub (pv 0) pe_int) (nomark _))))) (pss_one (ps_ret pe_bl)) pss_nil)
    (pss_cons (ps_for PassesOwn.never rfl (pi_list (pv 1)) (pg_name (i := 2) scIsFree.nd rfl (Or.inl rfl))
      (pss_one (ps_if (PW.pt (pw_or (pt_cmpR op_lt (pe_callB (call_minT rfl) rfl mn PyProof.Rows.boot_min (pa_cons (pv 2) pa_nil)) pe_int (nomark _))
          (pw_or1 (pt_cmpR op_ge (pe_callB (call_maxT rfl) rfl mx PyProof.Rows.boot_max (pa_cons (pv 2) pa_nil)) (pv 0) (nomark _))))) (pss_one (ps_ret pe_bl)) pss_nil)))
    (pss_cons (ps_set (i := 3) scIsFree.nd rfl (Or.inl rfl) (pe_lst (pa_cons pe_int pa_nil)))
    (pss_cons (ps_for PassesOwn.never rfl (pi_range1 rfl mr (pa_cons (pv 0) pa_nil)) (pg_name (i := 4) scIsFree.nd rfl (Or.inl rfl))
      (pss_one (ps_for PassesOwn.never rfl (pi_list (pv 1)) (pg_tup rfl (pgs_cons (pg_name (i := 5) scIsFree.nd rfl (Or.inl rfl)) (pgs_cons (pg_name (i := 6) scIsFree.nd rfl (Or.inl rfl)) pgs_nil)))
        (pss_cons (ps_if (PW.pt (pw_and (pt_cmpR op_in_seq (pv 5) (pv 3) (by with_unfolding_all rfl)) (pw_and1 (pt_cmpR op_notIn_seq (pv 6) (pv 3) (by with_unfolding_all rfl)))))
          (pss_one (ps_expr (pe_bm PySem.F.plainAttrs_list PySem.F.slot_list_append PySem.F.type_list_append mt_append (pv 3) (pa_cons (pv 6) pa_nil)))) pss_nil)
        (pss_one (ps_if (PW.pt (pw_and (pt_cmpR op_in_seq (pv 6) (pv 3) (by with_unfolding_all rfl)) (pw_and1 (pt_cmpR op_notIn_seq (pv 5) (pv 3) (by with_unfolding_all rfl)))))
          (pss_one (ps_expr (pe_bm PySem.F.plainAttrs_list PySem.F.slot_list_append PySem.F.type_list_append mt_append (pv 3) (pa_cons (pv 5) pa_nil)))) pss_nil))))))
    (pss_one (ps_ret (pe_cmpR op_eq (pe_callB call_len_seq rfl ml PySem.boot_len (pa_cons (pv 3) pa_nil)) (pv 0) (nomark _))))))), ?_⟩
  have hpl : ps.length = li.length := by rw [G.len, List.length_map]
  have hl : (ps.map V.ref).length = li.length := by rw [List.length_map, hpl]
  have no : ¬ FreeL c li -> ∀ H', Same H H' -> Q (.bl false) H' := fun h H' s' => q false H' ⟨fun z => absurd z Bool.false_ne_true, fun z => absurd z h⟩ s'; refine ⟨_, rfl, _, _, rfl, rfl, _, rfl, ?_⟩
  by_cases h1 : c < 1
  . rw [decide_eq_true h1]
    exact iteT (iteT (no (fun z => by have := z.1.len; omega) _ (Same.refl _)))
  rw [decide_eq_false h1]; refine iteF ⟨_, rfl, L, _, rfl, .inl (SqL.of G.top), _, rfl, _, _, rfl, rfl, rfl, _, rfl, ?_⟩
  by_cases hc : c = ((li.length : Nat) : Int) + 1
  case neg =>
    rw [decide_eq_false (show ¬ V.int (((ps.map V.ref).length : Nat) : Int) = V.int (c - 1) from fun z => hc (by have := V.int.inj z; rw [hl] at this; omega))]
    exact iteT (no (fun z => hc z.1.len) _ (Same.refl _))
  refine iteNS (by rw [hl, hc]; congr 1; omega) ?_
  have hcn : c = ((li.length + 1 : Nat) : Int) := by omega
  refine ⟨_, rfl, L, rfl, ⟨_, SqL.of G.top⟩, for_list (K := K) (a := L) (xs := ps.map V.ref) (fun i σ H3 => (∃ o2 o3 o4 o5 o6, σ = [some (.int c), some (.ref L), o2, o3, o4, o5, o6]) /\ (∀ (j : Nat) (p : Int × Int), j < i -> li[j]? = some p -> (0 <= p.1 /\ p.1 < c) /\ 0 <= p.2 /\ p.2 < c) /\ Same H H3)
    ⟨⟨_, _, _, _, _, rfl⟩, fun j p h => absurd h (Nat.not_lt_zero _), Same.refl _⟩ (fun i σ H3 _ ⟨_, _, s3⟩ => SqL.of (s3 _ _ G.top)) ?_ ?_⟩
  . rintro i x σ H3 hx p_
    refine hld fun g_ k_ => ?_; obtain ⟨⟨o2, o3, o4, o5, o6, rfl⟩, hin, s3⟩ := p_; refine k_ ?_; obtain ⟨d, hd, rfl⟩ := of_map hx; have hil : i < li.length := by rw [<- hpl]; exact (List.getElem?_eq_some_iff.mp hd).1
    have hli : li[i]? = some li[i] := List.getElem?_eq_getElem hil; obtain ⟨d', hd', ed'⟩ := LinesAt.at (G.up s3) hil; rw [hd] at hd'
    cases hd'
    generalize hpq : li[i] = pq at hli ed'; obtain ⟨pa, pb⟩ := pq; have edI : SqT K H3 d ([pa, pb].map V.int) := SqT.of ed'
    have hmin : ∃ m, m ∈ [pa, pb] /\ ∀ n ∈ [pa, pb], m <= n := by
      by_cases h : pa <= pb
      . exact ⟨pa, by simp, fun n hn => by rcases List.mem_cons.mp hn with rfl | hn; omega; rw [List.mem_singleton] at hn; omega⟩
      . exact ⟨pb, by simp, fun n hn => by rcases List.mem_cons.mp hn with rfl | hn; omega; rw [List.mem_singleton] at hn; omega⟩
    have hmax : ∃ m, m ∈ [pa, pb] /\ ∀ n ∈ [pa, pb], n <= m := by
      by_cases h : pb <= pa
      . exact ⟨pa, by simp, fun n hn => by rcases List.mem_cons.mp hn with rfl | hn; omega; rw [List.mem_singleton] at hn; omega⟩
      . exact ⟨pb, by simp, fun n hn => by rcases List.mem_cons.mp hn with rfl | hn; omega; rw [List.mem_singleton] at hn; omega⟩
    obtain ⟨mi, mi1, mi2⟩ := hmin; obtain ⟨ma, ma1, ma2⟩ := hmax; have bad : ¬ ((0 <= pa /\ pa < c) /\ 0 <= pb /\ pb < c) -> ¬ FreeL c li := fun h z => h (z.1.lt _ (List.mem_of_getElem? hli)); refine ⟨_, rfl, d, [pa, pb], mi, rfl, edI, mi1, mi2, _, _, rfl, rfl, _, rfl, ?_⟩
    by_cases hmi : mi < 0
    . rw [decide_eq_true hmi]
      refine iteT (iteT (no (bad fun z => ?_) _ s3))
      rcases List.mem_cons.mp mi1 with rfl | h
      . omega
      . rw [List.mem_singleton] at h; omega
    rw [decide_eq_false hmi]; refine iteF ⟨_, rfl, d, [pa, pb], ma, rfl, edI, ma1, ma2, _, rfl, _, _, rfl, rfl, _, rfl, ?_⟩
    by_cases hma : c <= ma
    . rw [decide_eq_true hma]
      refine iteT (no (bad fun z => ?_) _ s3)
      rcases List.mem_cons.mp ma1 with rfl | h
      . omega
      . rw [List.mem_singleton] at h; omega
    rw [decide_eq_false hma]; have g1 := mi2 pa (by simp)
    have g2 := mi2 pb (by simp)
    have g3 := ma2 pa (by simp)
    have g4 := ma2 pb (by simp)
    refine iteF ⟨⟨_, _, _, _, _, rfl⟩, fun j p hj hp => ?_, s3⟩
    by_cases e : j = i
    . subst e
      rw [hli] at hp
      cases hp
      exact ⟨⟨by omega, by omega⟩, by omega, by omega⟩
    . exact hin j p (by omega) hp
  rintro σ H3 p_
  refine hld fun g_ k_ => ?_; obtain ⟨⟨o2, o3, o4, o5, o6, rfl⟩, hin, s3⟩ := p_; refine k_ ?_; rw [hl] at hin
  have hV : ValidL c li := ⟨hc, fun p hp => by
    obtain ⟨j, hj⟩ := List.mem_iff_getElem?.mp hp; exact hin j p (List.getElem?_eq_some_iff.mp hj).1 hj⟩
  have hto : toL (ofL li) = li := toL_ofL fun p hp => ⟨(hV.lt p hp).1.1, (hV.lt p hp).2.1⟩; have hof := hV.ofL; obtain ⟨ls, hls⟩ : ∃ ls, ls = ofL li := ⟨_, rfl⟩
  have hfree : FreeL c li ↔ IsFree (li.length + 1) ls := by
    rw [hls]; exact ⟨fun z => z.2, fun z => ⟨hV, z⟩⟩
  rw [<- hls] at hto hof; have hlsl : ls.length = li.length := by rw [hls]; exact List.length_map _
  rw [<- hto] at G; obtain ⟨n, hnl⟩ : ∃ n, n = li.length + 1 := ⟨_, rfl⟩; rw [<- hnl] at hfree hof; have hl' : (ps.map V.ref).length = ls.length := by rw [hl, hlsl]
  rw [show c = ((n : Nat) : Int) by omega]
  refine ⟨(by show 1 <= sizeLine; decide), fun p hp => ?_⟩
  have hp0 : H p = none := s3.free hp; have s4 : Same H (upd H3 p (.lst [V.int 0])) := s3.trans (same_new hp _); refine ⟨_, rfl, _, rfl, by omega, by omega, ?_⟩
  rw [Int.toNat_natCast]
  refine for_range (lo := 0) (n := n) (fun i σ H5 => (∃ o2 o4 o5 o6, σ = [some (.int ((n : Nat) : Int)), some (.ref L), o2, some (.ref p), o4, o5, o6]) /\ Same H H5 /\ ∃ fd : List Nat, H5 p = some (.lst (fd.map vN)) /\ FW ls n fd /\ (i + 1 <= fd.length \/ Shut ls fd))
    ⟨⟨_, _, _, _, rfl⟩, s4, [0], upd_same, fw0 (by omega), .inl (Nat.le_refl _)⟩ ?_ ?_
  . rintro i σ H5 hi p_
    refine hld fun g_ k_ => ?_; obtain ⟨⟨o2, o4, o5, o6, rfl⟩, s5, f0, e5, W0, hgr⟩ := p_; refine k_ ?_
    refine ⟨_, rfl, L, rfl, ⟨_, SqL.of (s5 _ _ G.top)⟩, for_list (K := K) (a := L) (xs := ps.map V.ref) (fun m σ H6 => (∃ o2 o4 o5 o6, σ = [some (.int ((n : Nat) : Int)), some (.ref L), o2, some (.ref p), o4, o5, o6]) /\ Same H H6 /\ ∃ fd : List Nat, H6 p = some (.lst (fd.map vN)) /\ Turn1 ls n m f0 fd)
      ⟨⟨_, _, _, _, rfl⟩, s5, f0, e5, Turn1.start W0⟩ (fun m σ H6 _ ⟨_, s6, _⟩ => SqL.of (s6 _ _ G.top)) ?_ ?_⟩
    . rintro m x σ H6 hx p_
      refine hld fun g_ k_ => ?_; obtain ⟨⟨o2, o4, o5, o6, rfl⟩, s6, fd, e6, Tn⟩ := p_; refine k_ ?_; obtain ⟨d, hd, rfl⟩ := of_map hx; have hil : m < ls.length := by rw [hlsl, <- hpl]; exact (List.getElem?_eq_some_iff.mp hd).1
      obtain ⟨d', hd', ed⟩ := LinesAt.at (G.up s6) (show m < (toL ls).length by rw [toL_len]; exact hil)
      rw [hd] at hd'
      cases hd'
      have hpi : ls[m]? = some ls[m] := List.getElem?_eq_getElem hil; have hpe : (toL ls)[m]'(by rw [toL_len]; exact hil) = (((ls[m]).1 : Int), ((ls[m]).2 : Int)) := List.getElem_map _
      rw [hpe] at ed; have hmem := List.mem_of_getElem? hpi; have hlt' := hof _ hmem; generalize ls[m] = pq at ed hlt' hpi hmem; obtain ⟨x1, x2⟩ := pq; have hfl := Tn.w.len; have hfs : (fd.map vN).length < sizeLine := smallt (by rw [List.length_map]; omega)
      have hlen := Tn.len; refine ⟨d, _, rfl, SqT.of ed, rfl, _, _, rfl, _, _, rfl, rfl, ?_⟩; refine ⟨_, rfl, _, rfl, p, _, rfl, .inl (SqL.of e6), rfl, flat_vN _, decide (x1 ∈ fd), (by show V.bl (inV (vN x1) (fd.map vN)) = _; rw [inV_vN]), ?_⟩
      by_cases m1 : x1 ∈ fd
      . rw [decide_eq_true m1]
        refine iteT ⟨_, rfl, _, rfl, p, _, rfl, .inl (SqL.of e6), rfl, flat_vN _, !decide (x2 ∈ fd), (by show V.bl (!inV (vN x2) (fd.map vN)) = _; rw [inV_vN]), ?_⟩
        by_cases m2 : x2 ∈ fd
        . rw [decide_eq_true m2]
          refine iteF ⟨_, rfl, _, rfl, p, _, rfl, .inl (SqL.of e6), rfl, flat_vN _, true, (by show V.bl (inV (vN x2) (fd.map vN)) = _; rw [inV_vN, decide_eq_true m2]), iteT ?_⟩
          refine ⟨_, rfl, _, rfl, p, _, rfl, .inl (SqL.of e6), rfl, flat_vN _, false, (by show V.bl (!inV (vN x1) (fd.map vN)) = _; rw [inV_vN, decide_eq_true m1]; rfl), iteF ?_⟩
          exact ⟨⟨_, _, _, _, rfl⟩, s6, fd, e6, Tn.next hpi (.inr ⟨fun _ => m2, fun _ => m1⟩)⟩
        . rw [decide_eq_false m2]
          refine iteT ⟨_, rfl, .inl ⟨rfl, _, SqL.of e6⟩, _, rfl, p, _, _, rfl, rfl, e6, hfs, ?_⟩; have Tn2 : Turn1 ls n m f0 (fd ++ [x2]) := Tn.add hlen hmem (.inl rfl) m1 m2 hlt'.2; have e7 : (upd H6 p (.lst (fd.map vN ++ [vN x2]))) p = some (.lst ((fd ++ [x2]).map vN)) := by rw [upd_same, List.map_append]; rfl
          have s7 := same_upd s6 hp0 (.lst (fd.map vN ++ [vN x2])); have n1 : x1 ∈ fd ++ [x2] := List.mem_append.mpr (.inl m1); have n2 : x2 ∈ fd ++ [x2] := by simp
          refine ⟨_, rfl, _, rfl, p, _, rfl, .inl (SqL.of e7), rfl, flat_vN _, true, (by show V.bl (inV (vN x2) ((fd ++ [x2]).map vN)) = _; rw [inV_vN, decide_eq_true n2]), iteT ?_⟩
          refine ⟨_, rfl, _, rfl, p, _, rfl, .inl (SqL.of e7), rfl, flat_vN _, false, (by show V.bl (!inV (vN x1) ((fd ++ [x2]).map vN)) = _; rw [inV_vN, decide_eq_true n1]; rfl), iteF ?_⟩
          exact ⟨⟨_, _, _, _, rfl⟩, s7, fd ++ [x2], e7, Tn2.next hpi (.inr ⟨fun _ => n2, fun _ => n1⟩)⟩
      . rw [decide_eq_false m1]
        refine iteF (iteF ⟨_, rfl, _, rfl, p, _, rfl, .inl (SqL.of e6), rfl, flat_vN _, decide (x2 ∈ fd), (by show V.bl (inV (vN x2) (fd.map vN)) = _; rw [inV_vN]), ?_⟩)
        by_cases m2 : x2 ∈ fd
        . rw [decide_eq_true m2]
          refine iteT ⟨_, rfl, _, rfl, p, _, rfl, .inl (SqL.of e6), rfl, flat_vN _, true, (by show V.bl (!inV (vN x1) (fd.map vN)) = _; rw [inV_vN, decide_eq_false m1]; rfl), iteT ?_⟩
          have Tn2 : Turn1 ls n m f0 (fd ++ [x1]) := Tn.add hlen hmem (.inr rfl) m2 m1 hlt'.1; have e7 : (upd H6 p (.lst (fd.map vN ++ [vN x1]))) p = some (.lst ((fd ++ [x1]).map vN)) := by rw [upd_same, List.map_append]; rfl
          have s7 := same_upd s6 hp0 (.lst (fd.map vN ++ [vN x1])); have n2 : x2 ∈ fd ++ [x1] := List.mem_append.mpr (.inl m2); have n1 : x1 ∈ fd ++ [x1] := by simp
          exact ⟨_, rfl, .inl ⟨rfl, _, SqL.of e6⟩, _, rfl, p, _, _, rfl, rfl, e6, hfs, ⟨_, _, _, _, rfl⟩, s7, fd ++ [x1], e7, Tn2.next hpi (.inr ⟨fun _ => n2, fun _ => n1⟩)⟩
        . rw [decide_eq_false m2]
          exact iteF (iteF ⟨⟨_, _, _, _, rfl⟩, s6, fd, e6, Tn.next hpi (.inr ⟨fun z => absurd z m1, fun z => absurd z m2⟩)⟩)
    . rintro σ H6 p_
      refine hld fun g_ k_ => ?_; obtain ⟨⟨o2, o4, o5, o6, rfl⟩, s6, fd, e6, Tn⟩ := p_; refine k_ ?_; rw [hl'] at Tn; exact ⟨⟨_, _, _, _, rfl⟩, s6, fd, e6, Tn.w, Tn.done hgr⟩
  . rintro σ H5 p_
    refine hld fun g_ k_ => ?_; obtain ⟨⟨o2, o4, o5, o6, rfl⟩, s5, fd, e5, W, hgr⟩ := p_; refine k_ ?_; have hfl := W.len
    have hsh : Shut ls fd := by
      rcases hgr with z | z
      . omega
      . exact z
    obtain ⟨ord, pa, B⟩ := gb_ex (ls := ls) (n := n) (v := 0) (by omega) hof
    have hlen := W.same hsh B; have hfi := B.free_iff (by omega) (by omega)
    refine ⟨_, rfl, p, _, rfl, .inl (SqL.of e5), _, rfl, rfl, ?_⟩; refine q _ H5 ?_ s5; rw [hfree, hfi, decide_eq_true_iff]
    constructor
    . intro z
      have z' := V.int.inj z; rw [List.length_map] at z'
      omega
    . intro z
      congr 1
      rw [List.length_map]
      omega
end
end K08
namespace K08
open PySem L2 KM KD PyProof.Rows
section
variable {P : Program} {w : World} {K : PySem.W.Frag} {mg : Str -> Option Value} {base : Heap} {f : Addr} {fd : FuncData}
theorem scSpoiltF : FnScope ["_law_many", "_law_lines", "_law_way", "_law_cell", "_law_made", "_law_spot", "_law_one", "_law_other"] ["_law_many", "_law_lines", "_law_way", "_law_cell"] (defScope sSpoilt) := ⟨rfl, rfl, rfl, by decide +kernel, rfl, by decide +kernel, by decide +kernel⟩
theorem ifNeF {i j : Int} {A B : Prop} (h : i ≠ j) (hb : B) : if decide (V.int i = V.int j) = true then A else B := by
  rw [decide_eq_false (fun z => h (V.int.inj z))]; exact iteF hb
theorem ifEqF {i j : Int} {A B : Prop} (h : i = j) (ha : A) : if decide (V.int i = V.int j) = true then A else B := by
  rw [decide_eq_true (by rw [h])]
  exact iteT ha
theorem six_atF (c a1 a2 a3 a4 a5 a6 : Int) : ∃ z : Int, atI [V.int a1, V.int a2, V.int a3, V.int a4, V.int a5, V.int a6] (c % 6) = some (V.int z) := by
  have hc : c % 6 = ((0 : Nat) : Int) \/ c % 6 = ((1 : Nat) : Int) \/ c % 6 = ((2 : Nat) : Int) \/ c % 6 = ((3 : Nat) : Int) \/ c % 6 = ((4 : Nat) : Int) \/ c % 6 = ((5 : Nat) : Int) := by omega
  rcases hc with e | e | e | e | e | e <;> rw [e]
  . exact ⟨a1, atI_nat rfl⟩
  . exact ⟨a2, atI_nat rfl⟩
  . exact ⟨a3, atI_nat rfl⟩
  . exact ⟨a4, atI_nat rfl⟩
  . exact ⟨a5, atI_nat rfl⟩
  . exact ⟨a6, atI_nat rfl⟩
theorem three_atF (c a1 a2 a3 : Int) : ∃ z : Int, atI [V.int a1, V.int a2, V.int a3] (c % 3) = some (V.int z) := by
  have hc : c % 3 = ((0 : Nat) : Int) \/ c % 3 = ((1 : Nat) : Int) \/ c % 3 = ((2 : Nat) : Int) := by omega
  rcases hc with e | e | e <;> rw [e]
  . exact ⟨a1, atI_nat rfl⟩
  . exact ⟨a2, atI_nat rfl⟩
  . exact ⟨a3, atI_nat rfl⟩
theorem seqN {n k : Nat} (h : k < n) : seqIndex? (k : Int) n = some k := by
  unfold seqIndex?
  have h1 : ¬ ((k : Nat) : Int) < 0 := by omega
  simp only [h1, if_false]
  rw [if_pos (by simp; omega)]
  simp
theorem ok_spoiltF (F : Fun K "_law_spoilt" "_law_spoilt" sSpoilt f fd) (ml : mg "len" = none) (mli : mg "list" = none) : FnOk P w K mg base CX0 1 f fd ["_law_many", "_law_lines", "_law_way", "_law_cell"] spSpoiltF := by
  refine F.ok scSpoiltF (fun vs H Q E h => ?_) (fun cdv A outer s H vs Q E hr h => ?_)
  . obtain ⟨L, ps, n, li, wy, c, rfl, _⟩ := h
    rfl
  obtain ⟨L, ps, n, li, wy, c, rfl, G, hln, hn0, hn, q⟩ := h
  refine ⟨_, pss_cons (ps_set (i := 4) scSpoiltF.nd rfl (Or.inl rfl) (pe_callTy call_list_of rfl mli PyProof.Rows.boot_list (pa_cons (pv 1) pa_nil)))
    (pss_cons (ps_if (pt_cmpR op_eq (pv 2) pe_int (nomark _)) (pss_one (ps_ret (pe_tup (pa_cons (pe_ix ix_list (pe_lst (pa_cons (pe_op op_add (pv 0) pe_int) (pa_cons (pe_op op_sub (pv 0) pe_int) (pa_cons pe_int pa_nil)))) (pe_op op_mod (pv 3) pe_int) (fun _ _ => rfl)) (pa_cons (pv 4) pa_nil))))) pss_nil)
    (pss_cons (ps_if (pt_cmpR (op_eqNil hr.units0) (pv 4) (pe_lst pa_nil) (nomark _)) (pss_one (ps_ret (pe_tup (pa_cons (pv 0) (pa_cons (pv 4) pa_nil))))) pss_nil)
    (pss_cons (ps_set (i := 5) scSpoiltF.nd rfl (Or.inl rfl) (pe_op op_mod (pv 3) (pe_callB call_len_seq rfl ml PySem.boot_len (pa_cons (pv 4) pa_nil))))
    (pss_cons (ps_asg (pe_ix ix_list (pv 4) (pv 5) (fun _ _ => rfl)) (pg_tup rfl (pgs_cons (pg_name (i := 6) scSpoiltF.nd rfl (Or.inl rfl)) (pgs_cons (pg_name (i := 7) scSpoiltF.nd rfl (Or.inl rfl)) pgs_nil))))
    (pss_cons (ps_if (pt_cmpR op_eq (pv 2) pe_int (nomark _)) (pss_one (ps_expr (pe_bm PySem.F.plainAttrs_list PySem.F.slot_list_pop PySem.F.type_list_pop mt_popAt (pv 4) (pa_cons (pv 5) pa_nil)))) pss_nil)
    (pss_cons (ps_if (pt_cmpR op_eq (pv 2) pe_int (nomark _)) (pss_one (ps_expr (pe_bm PySem.F.plainAttrs_list PySem.F.slot_list_append PySem.F.type_list_append mt_append (pv 4) (pa_cons (pe_tup (pa_cons (pv 7) (pa_cons (pv 6) pa_nil))) pa_nil)))) pss_nil)
    (pss_cons (ps_if (pt_cmpR op_eq (pv 2) pe_int (nomark _)) (pss_one (ps_asg (pe_tup (pa_cons (pv 6) (pa_cons (pv 6) pa_nil))) (pg_sub (pv 4) (pv 5) set_list))) pss_nil)
    (pss_cons (ps_if (pt_cmpR op_eq (pv 2) pe_int (nomark _)) (pss_one (ps_asg (pe_tup (pa_cons (pv 6) (pa_cons (pe_ix ix_list (pe_lst (pa_cons (pe_un un_neg pe_int) (pa_cons (pv 0) (pa_cons (pe_op op_pow pe_int pe_int) (pa_cons (pe_un un_neg pe_int)
      (pa_cons (pe_op op_sub pe_int (pv 0)) (pa_cons (pe_un un_neg (pe_op op_pow pe_int pe_int)) pa_nil))))))) (pe_op op_mod (pv 3) pe_int) (fun _ _ => rfl)) pa_nil))) (pg_sub (pv 4) (pv 5) set_list))) pss_nil)
    (pss_cons (ps_if (pt_cmpR op_eq (pv 2) pe_int (nomark _)) (pss_one (ps_asg (pe_tup (pa_cons (pv 6) (pa_cons (pe_op op_mod (pe_op op_fdiv (pv 3) pe_int) (pv 0)) pa_nil))) (pg_sub (pv 4) (pv 5) set_list))) pss_nil)
    (pss_one (ps_ret (pe_tup (pa_cons (pv 0) (pa_cons (pv 4) pa_nil)))))))))))))), ?_⟩
  have two : (2 : Nat) <= sizeLine := by decide
  refine ⟨_, rfl, L, _, rfl, .inl (SqL.of G.top), fun p hp => ?_⟩; have s1 := same_new hp (.lst (ps.map V.ref)); have Gp := lines_copy G hp; generalize upd H p (.lst (ps.map V.ref)) = H1 at s1 Gp; have hpl : ps.length = li.length := by rw [G.len, List.length_map]
  have fin : ∀ (H8 : Hp) (t : Addr) (ps' : List Addr) (c' : Int) (li' : LI), H8 t = none -> Same H H8 -> LinesAt H8 p ps' li' -> li'.length <= 15 -> Q (.ref t) (upd H8 t (.tup [.int c', .ref p])) := fun H8 t ps' c' li' ht s8 G8 h15 =>
    q t p ps' c' li' _ (s8.trans (same_new ht _)) ⟨upd_same, G8.up (same_new ht _)⟩ h15
  by_cases h6 : wy = 6
  . subst h6
    obtain ⟨z, hz⟩ := three_atF c (((n : Nat) : Int) + 1) (((n : Nat) : Int) - 1) 0; refine ⟨_, rfl, rfl, _, rfl, ifEqF rfl ⟨_, rfl, _, _, rfl, rfl, _, rfl, _, _, rfl, rfl, (by show 3 <= sizeLine; decide), fun p2 hp2 => ?_⟩⟩
    have s2 := same_new hp2 (.lst [V.int (((n : Nat) : Int) + 1), V.int (((n : Nat) : Int) - 1), V.int 0]); refine ⟨_, rfl, _, _, rfl, rfl, (show (0 : Int) < 3 by decide), p2, _, _, _, rfl, rfl, SqL.of upd_same, hz, _, rfl, two, fun t ht => ?_⟩
    exact fin _ t ps z li ht (s1.trans s2) (Gp.up s2) (by omega)
  refine ⟨_, rfl, rfl, _, rfl, ifNeF h6 ?_⟩; refine ⟨_, rfl, (by show 0 <= sizeLine; decide), fun z hz => ?_⟩
  have s2 := same_new hz (.lst []); have Gp := Gp.up s2; have s12 := s1.trans s2; refine ⟨p, z, _, rfl, rfl, SqL.of Gp.top, SqL.of upd_same, ?_⟩; generalize upd H1 z (.lst []) = H2 at s2 Gp s12
  by_cases h0 : li = []
  . have hps : ps = [] := List.eq_nil_of_length_eq_zero (by rw [hpl, h0]; rfl)
    refine ⟨true, (by rw [hps]; rfl), iteT ⟨_, rfl, _, rfl, two, fun t ht => fin _ t ps ((n : Nat) : Int) li ht s12 Gp (by omega)⟩⟩
  have hlp : 0 < li.length := List.length_pos_iff.mpr h0; have hlm : (ps.map V.ref).length = li.length := by rw [List.length_map, hpl]
  refine ⟨false, (by
    cases ps with
    | nil => rw [List.length_nil] at hpl; omega
    | cons x xs => rfl), iteF ?_⟩
  have hlI : (0 : Int) < (((ps.map V.ref).length : Nat) : Int) := by rw [hlm]; omega
  refine ⟨_, rfl, _, rfl, p, _, rfl, .inl (SqL.of Gp.top), _, _, rfl, rfl, hlI, ?_⟩; obtain ⟨k, hk⟩ := Int.eq_ofNat_of_zero_le (Int.emod_nonneg c (show (((ps.map V.ref).length : Nat) : Int) ≠ 0 by omega))
  have hkl : k < li.length := by
    have := Int.emod_lt_of_pos c hlI; rw [hk, hlm] at this
    omega
  change gName 5 (V.int (c % (((ps.map V.ref).length : Nat) : Int))) _ _ _; rw [hk]; have hkp : ps[k]? = some ps[k] := List.getElem?_eq_getElem (by omega)
  obtain ⟨d, hd, ed⟩ := LinesAt.at Gp hkl; obtain ⟨pq, hpq⟩ : ∃ pq, pq = li[k] := ⟨_, rfl⟩; rw [<- hpq] at ed; clear hpq; obtain ⟨xa, xb⟩ := pq; refine ⟨_, rfl, _, rfl, p, _, _, _, rfl, rfl, SqL.of Gp.top, at_map hd, d, _, rfl, SqT.of ed, rfl, _, _, rfl, _, _, rfl, rfl, ?_⟩; have hkx : ixN (ps.map V.ref).length ((k : Nat) : Int) = some k := ixN_nat (by rw [hlm]; exact hkl)
  have hls : ∀ x : Int × Int, (li.set k x).length <= 15 := fun x => by rw [List.length_set]; omega
  by_cases h1 : wy = 1
  . subst h1
    refine ⟨_, rfl, rfl, _, rfl, ifEqF rfl ⟨_, rfl, .inl ⟨rfl, _, SqL.of Gp.top⟩, _, rfl, p, _, _, k, _, rfl, rfl, Gp.top, by omega, by omega, seqN (by rw [hlm]; exact hkl), (by rw [List.getElem?_map, hkp]; rfl), ?_⟩⟩
    refine ⟨_, rfl, rfl, _, rfl, ifNeF (by decide) ⟨_, rfl, rfl, _, rfl, ifNeF (by decide) ⟨_, rfl, rfl, _, rfl, ifNeF (by decide) ⟨_, rfl, rfl, _, rfl, ifNeF (by decide) ⟨_, rfl, _, rfl, two, fun t ht => ?_⟩⟩⟩⟩⟩
    exact fin _ t _ ((n : Nat) : Int) (li.eraseIdx k) ht (same_upd s12 hp _) (lines_erase Gp k) (by rw [List.length_eraseIdx]; split <;> omega)
  refine ⟨_, rfl, rfl, _, rfl, ifNeF h1 ?_⟩
  by_cases h2 : wy = 2
  . subst h2
    refine ⟨_, rfl, rfl, _, rfl, ifEqF rfl ⟨_, rfl, .inl ⟨rfl, _, SqL.of Gp.top⟩, _, rfl, _, rfl, two, fun t2 ht2 => ?_⟩⟩; have s3 := same_new ht2 (.tup [V.int xb, V.int xa]); have G3 := Gp.up s3; refine ⟨p, _, _, rfl, rfl, G3.top, smallt (by rw [hlm]; omega), ?_⟩
    refine ⟨_, rfl, rfl, _, rfl, ifNeF (by decide) ⟨_, rfl, rfl, _, rfl, ifNeF (by decide) ⟨_, rfl, rfl, _, rfl, ifNeF (by decide) ⟨_, rfl, _, rfl, two, fun t ht => ?_⟩⟩⟩⟩
    exact fin _ t _ ((n : Nat) : Int) (li ++ [(xb, xa)]) ht (same_upd (s12.trans s3) hp _) (lines_app G3 (xb, xa) upd_same) (by rw [List.length_append, List.length_singleton]; omega)
  refine ⟨_, rfl, rfl, _, rfl, ifNeF h2 ?_⟩
  by_cases h3 : wy = 3
  . subst h3
    refine ⟨_, rfl, rfl, _, rfl, ifEqF rfl ⟨_, rfl, _, rfl, two, fun t2 ht2 => ?_⟩⟩; have s3 := same_new ht2 (.tup [V.int xa, V.int xa]); have G3 := Gp.up s3; refine ⟨_, rfl, _, rfl, p, _, _, k, rfl, rfl, G3.top, hkx, ?_⟩; refine ⟨_, rfl, rfl, _, rfl, ifNeF (by decide) ⟨_, rfl, rfl, _, rfl, ifNeF (by decide) ⟨_, rfl, _, rfl, two, fun t ht => ?_⟩⟩⟩
    exact fin _ t _ ((n : Nat) : Int) (li.set k (xa, xa)) ht (same_upd (s12.trans s3) hp _) (lines_set G3 k (xa, xa) upd_same hkl) (hls _)
  refine ⟨_, rfl, rfl, _, rfl, ifNeF h3 ?_⟩
  by_cases h4 : wy = 4
  . subst h4
    obtain ⟨z, hz⟩ := six_atF c (-1) ((n : Nat) : Int) ((10 : Int) ^ (20 : Int).toNat) (-2) (0 - ((n : Nat) : Int)) (-((10 : Int) ^ (20 : Int).toNat)); refine ⟨_, rfl, rfl, _, rfl, ifEqF rfl ⟨_, rfl, 1, rfl, _, rfl, _, _, rfl, rfl, ⟨by decide, by decide, by decide⟩, 2, rfl, _, rfl, _, _, rfl, rfl, _, _, rfl, rfl, ⟨by decide, by decide, by decide⟩, _, rfl, (by show 6 <= sizeLine; decide), fun p2 hp2 => ?_⟩⟩
    have s3 := same_new hp2 (.lst [V.int (-1), V.int ((n : Nat) : Int), V.int ((10 : Int) ^ (20 : Int).toNat), V.int (-2), V.int (0 - ((n : Nat) : Int)), V.int (-((10 : Int) ^ (20 : Int).toNat))]); refine ⟨_, rfl, _, _, rfl, rfl, (show (0 : Int) < 6 by decide), p2, _, _, _, rfl, rfl, SqL.of upd_same, hz, two, fun t2 ht2 => ?_⟩
    have s4 := same_new ht2 (.tup [V.int xa, V.int z]); have G4 := Gp.up (s3.trans s4); refine ⟨_, rfl, _, rfl, p, _, _, k, rfl, rfl, G4.top, hkx, ?_⟩; refine ⟨_, rfl, rfl, _, rfl, ifNeF (by decide) ⟨_, rfl, _, rfl, two, fun t ht => ?_⟩⟩
    exact fin _ t _ ((n : Nat) : Int) (li.set k (xa, z)) ht (same_upd (s12.trans (s3.trans s4)) hp _) (lines_set G4 k (xa, z) upd_same hkl) (hls _)
  refine ⟨_, rfl, rfl, _, rfl, ifNeF h4 ?_⟩
  by_cases h5 : wy = 5
  . subst h5
    have hnI : (0 : Int) < ((n : Nat) : Int) := by omega
    refine ⟨_, rfl, rfl, _, rfl, ifEqF rfl ⟨_, rfl, _, rfl, _, _, rfl, rfl, ⟨by decide, by decide⟩, _, rfl, _, _, rfl, rfl, hnI, two, fun t2 ht2 => ?_⟩⟩
    have s3 := same_new ht2 (.tup [V.int xa, V.int (c / 2 % ((n : Nat) : Int))]); have G3 := Gp.up s3; refine ⟨_, rfl, _, rfl, p, _, _, k, rfl, rfl, G3.top, hkx, ?_⟩; refine ⟨_, rfl, _, rfl, two, fun t ht => ?_⟩; exact fin _ t _ ((n : Nat) : Int) (li.set k (xa, c / 2 % ((n : Nat) : Int))) ht (same_upd (s12.trans s3) hp _) (lines_set G3 k (xa, c / 2 % ((n : Nat) : Int)) upd_same hkl) (hls _)
  refine ⟨_, rfl, rfl, _, rfl, ifNeF h5 ?_⟩; exact ⟨_, rfl, _, rfl, two, fun t ht => fin _ t ps ((n : Nat) : Int) li ht s12 Gp (by omega)⟩
end
end K08
namespace K08
open PySem L2 KM KD PyProof.Rows
section
variable {P : Program} {w : World} {K : PySem.W.Frag} {mg : Str -> Option Value} {base : Heap} {f : Addr} {fd : FuncData}
theorem ifNe {i j : Int} {A B : Prop} (h : i ≠ j) (hb : B) : if decide (V.int i = V.int j) = true then A else B := by
  rw [decide_eq_false (fun z => h (V.int.inj z))]; exact iteF hb
theorem ifEq {i j : Int} {A B : Prop} (h : i = j) (ha : A) : if decide (V.int i = V.int j) = true then A else B := by
  rw [decide_eq_true (by rw [h])]
  exact iteT ha
theorem kit_self1 (K : PySem.W.Frag) (t : Value) : PySem.W.kitOne K t t = some true := by
  unfold PySem.W.kitOne
  rw [if_pos (beq_iff_eq.mpr rfl)]
theorem scAsked : FnScope ["_law_way", "_law_tree"] ["_law_way", "_law_tree"] (defScope sAsked) := ⟨rfl, rfl, rfl, by decide +kernel, rfl, by decide +kernel, by decide +kernel⟩
theorem ok_asked {C T f1 f2 f3 f4 f5 f6 : Addr} {lp : Pos} {d1 d2 d3 d4 d5 d6 : FuncData} (F : Fun K "_law_asked" "_law_asked" sAsked f fd) (G1 : KitE P w K mg base 3 "middles" ["tree"] (spMiddles C) f1 d1) (G2 : KitE P w K mg base 3 "rooted_at" ["tree", "knot"] (spRootedAt C) f2 d2) (G3 : KitE P w K mg base 4 "free_form" ["tree"] (spFreeForm C) f3 d3)
    (G4 : KitE P w K mg base 6 "free_matched" ["one", "other"] (spFMatched C T lp lqF) f4 d4) (G5 : KitE P w K mg base 5 "free_how_many" ["tree"] (spFMany C) f5 d5) (G6 : KitE P w K mg base 4 "free_alike_knots" ["tree"] (spFAlike C) f6 d6) : FnOk P w K mg base (CXe P w) 7 f fd ["_law_way", "_law_tree"] (spAskedF C T lp lqF) := by
  refine F.okX scAsked (fun vs H Q E h => ?_) (fun cdv A outer s H vs Q E hr h => ?_)
  . obtain ⟨t, L, ps, c, li, k, rfl, _⟩ := h
    rfl
  obtain ⟨t, L, ps, c, li, i, rfl, G, hn, ht, q, qe⟩ := h; have hr3 : Room 3 _ := hr.mono (by decide)
  have hr4 : Room 4 _ := hr.mono (by decide)
  have hr5 : Room 5 _ := hr.mono (by decide)
  refine ⟨_, pss_one (ps_if (pt_cmpR op_eq (pv 0) pe_int (nomark _)) (pss_one (ps_expr (pe_call G1.ok hr3 rfl G1.mg G1.kp G1.bd .nil passX (pa_cons (pv 1) pa_nil))))
    (pss_one (ps_if (pt_cmpR op_eq (pv 0) pe_int (nomark _)) (pss_one (ps_expr (pe_call G2.ok hr3 rfl G2.mg G2.kp G2.bd .nil passX (pa_cons (pv 1) (pa_cons pe_int pa_nil)))))
    (pss_one (ps_if (pt_cmpR op_eq (pv 0) pe_int (nomark _)) (pss_one (ps_expr (pe_call G3.ok hr4 rfl G3.mg G3.kp G3.bd .nil passX (pa_cons (pv 1) pa_nil))))
    (pss_one (ps_if (pt_cmpR op_eq (pv 0) pe_int (nomark _)) (pss_one (ps_expr (pe_call G4.ok hr rfl G4.mg G4.kp G4.bd .nil passX (pa_cons (pv 1) (pa_cons (pe_tup (pa_cons pe_int (pa_cons (pe_lst pa_nil) pa_nil))) pa_nil)))))
    (pss_one (ps_if (pt_cmpR op_eq (pv 0) pe_int (nomark _)) (pss_one (ps_expr (pe_call G4.ok hr rfl G4.mg G4.kp G4.bd .nil passX (pa_cons (pe_tup (pa_cons pe_int (pa_cons (pe_lst (pa_cons (pe_tup (pa_cons pe_int (pa_cons pe_int pa_nil))) pa_nil)) pa_nil))) (pa_cons (pv 1) pa_nil)))))
    (pss_one (ps_if (pt_cmpR op_eq (pv 0) pe_int (nomark _)) (pss_one (ps_expr (pe_call G5.ok hr5 rfl G5.mg G5.kp G5.bd .nil passX (pa_cons (pv 1) pa_nil))))
      (pss_one (ps_expr (pe_call G6.ok hr4 rfl G6.mg G6.kp G6.bd .nil passX (pa_cons (pv 1) pa_nil))))))))))))))), ?_⟩
  by_cases h0 : (i : Int) = 0
  . exact ⟨_, rfl, rfl, _, rfl, ifEq h0 ⟨_, rfl, t, L, ps, c, li, rfl, G, by omega, fun hF p H' s' _ _ => q hF _ H' (.of s') (ht.same s'), qe⟩⟩
  refine ⟨_, rfl, rfl, _, rfl, ifNe h0 ?_⟩
  by_cases h1 : (i : Int) = 1
  . exact ⟨_, rfl, rfl, _, rfl, ifEq h1 ⟨_, rfl, t, L, ps, c, li, 0, rfl, G, by omega, by omega, fun hF p H' s' _ _ => q hF _ H' (.of s') (ht.same s'), qe⟩⟩
  refine ⟨_, rfl, rfl, _, rfl, ifNe h1 ?_⟩
  by_cases h2 : (i : Int) = 2
  . exact ⟨_, rfl, rfl, _, rfl, ifEq h2 ⟨_, rfl, t, L, ps, c, li, rfl, G, by omega, fun hF H' s' => q hF _ H' (.of s') (ht.same s'), qe⟩⟩
  refine ⟨_, rfl, rfl, _, rfl, ifNe h2 ?_⟩
  by_cases h3 : (i : Int) = 3
  . refine ⟨_, rfl, rfl, _, rfl, ifEq h3 ⟨_, rfl, (by show 0 <= sizeLine; decide), fun p hp => ⟨(by show 2 <= sizeLine; decide), fun t2 ht2 => ?_⟩⟩⟩
    have s1 : Same H (upd (upd H p (.lst [])) t2 (.tup [V.int 1, V.ref p])) := (same_new hp _).trans (same_new ht2 _); have T2 : TreeAt (upd (upd H p (.lst [])) t2 (.tup [V.int 1, V.ref p])) t2 p [] 1 [] := ⟨upd_same, ⟨(same_new ht2 _) _ _ upd_same, rfl, fun j a ys h => (nomatch h), fun ys h => (nomatch h)⟩⟩; exact ⟨t, L, t2, p, ps, [], c, 1, li, [], rfl, G.up s1, T2, by omega, by decide, ht.same s1, fun hF _ => ⟨fun _ pp H' st tb _ => q hF _ H' ((SameT.of s1).trans st) tb, fun _ pp l mt H' st tb _ _ _ => q hF _ H' ((SameT.of s1).trans st) tb⟩, fun h H' s' => qe (fun z => h ⟨z, free_one⟩) H' (s1.trans s')⟩
  refine ⟨_, rfl, rfl, _, rfl, ifNe h3 ?_⟩
  by_cases h4 : (i : Int) = 4
  . refine ⟨_, rfl, rfl, _, rfl, ifEq h4 ⟨(by show 2 <= sizeLine; decide), fun u hu => ⟨(by show 1 <= sizeLine; decide), fun p hp => ⟨(by show 2 <= sizeLine; decide), fun t2 ht2 => ⟨_, rfl, ?_⟩⟩⟩⟩⟩
    have s1 : Same H (upd (upd (upd H u (.tup [V.int 1, V.int 0])) p (.lst [V.ref u])) t2 (.tup [V.int 2, V.ref p])) := (same_new hu _).trans ((same_new hp _).trans (same_new ht2 _))
    have T2 : TreeAt (upd (upd (upd H u (.tup [V.int 1, V.int 0])) p (.lst [V.ref u])) t2 (.tup [V.int 2, V.ref p])) t2 p [u] 2 [(1, 0)] := by
      refine ⟨upd_same, ⟨(same_new ht2 _) _ _ upd_same, rfl, fun j a ys h1 h2 => ?_, fun ys h => ?_⟩⟩
      . match j, h1, h2 with
        | 0, h1, h2 =>
          cases h1
          cases h2
          exact ((same_new hp _).trans (same_new ht2 _)) _ _ upd_same
      . rw [List.mem_singleton.mp h]
        exact flat_vP (1, 0)
    exact ⟨t2, p, t, L, [u], ps, 2, c, [(1, 0)], li, rfl, T2, G.up s1, by decide, by omega, ht.same s1, fun _ hF => ⟨fun _ pp H' st tb _ => q hF _ H' ((SameT.of s1).trans st) tb, fun _ pp l mt H' st tb _ _ _ => q hF _ H' ((SameT.of s1).trans st) tb⟩, fun h H' s' => qe (fun z => h ⟨free_two, z⟩) H' (s1.trans s')⟩
  refine ⟨_, rfl, rfl, _, rfl, ifNe h4 ?_⟩
  by_cases h5 : (i : Int) = 5
  . exact ⟨_, rfl, rfl, _, rfl, ifEq h5 ⟨_, rfl, t, L, ps, c, li, rfl, G, by omega, fun hF H' s' => q hF _ H' (.of s') (ht.same s'), qe⟩⟩
  refine ⟨_, rfl, rfl, _, rfl, ifNe h5 ?_⟩; exact ⟨_, rfl, t, L, ps, c, li, rfl, G, by omega, fun hF l as H' s' _ => q hF _ H' (.of s') (ht.same s'), qe⟩
theorem scRefuses : FnScope ["_law_way", "_law_tree", "e"] ["_law_way", "_law_tree"] (defScope sRefuses) := ⟨rfl, rfl, rfl, by decide +kernel, rfl, by decide +kernel, by decide +kernel⟩
theorem ok_refuses {C CT T f1 : Addr} {lp : Pos} {d1 : FuncData} {k : Nat} (F : Fun K "_law_refuses" "_law_refuses" sRefuses f fd) (GA : KitE P w K mg base k "_law_asked" ["_law_way", "_law_tree"] (spAskedF C T lp lqF) f1 d1) (mC : mg "NoTree" = some (.ref C)) (mT : mg "TreeError" = some (.ref CT)) (xc : XC K C)
    (x2 : PySem.W.exmOne K (.ref C) (.ref CT) = some true) (kv : PySem.W.kitOne K (.ref C) (.type "ValueError") = some true) (mi : mg "isinstance" = none) (mv : mg "ValueError" = none) : FnOk P w K mg base CX0 (k + 1) f fd ["_law_way", "_law_tree"] (spRefusesF T lp lqF) := by
  refine F.ok scRefuses (fun vs H Q E h => ?_) (fun cdv A outer s H vs Q E hr h => ?_)
  . obtain ⟨t, L, ps, c, li, k, rfl, _⟩ := h
    rfl
  obtain ⟨t, L, ps, c, li, i, rfl, G, hn, ht, q⟩ := h
  refine ⟨_, pss_cons (ps_try (psx_one (psx_expr (pex_call GA.ok hr rfl GA.mg GA.kp GA.bd .nil (pa_cons (pv 0) (pa_cons (pv 1) pa_nil))))) (ph_as (i := 2) ⟨rfl, .inl mT⟩ scRefuses.nd rfl rfl
    (fun _ => pss_one (ps_ret (pe_and (pe_callB call_isiS rfl mi boot_isinstance (pa_cons (pv 2) (pa_cons (pe_glob (v := .ref C) rfl mC rfl) pa_nil))) (pe_one (pe_callB call_isiS rfl mi boot_isinstance (pa_cons (pv 2) (pa_cons (pe_bltn (v := .ty "ValueError") rfl mv PyProof.Rows.Boot.«ValueError» rfl) pa_nil))))))) ph_never) pss_nil)
    (pss_one (ps_ret pe_bl)), ?_⟩
  refine ⟨_, rfl, _, rfl, t, L, ps, c, li, i, rfl, G, hn, ht, fun hR v H' s' t' => q false _ ⟨fun _ => rfl, fun _ => hR⟩ s' t', fun hR H' s' => ⟨true, x2, iteT ⟨C, rfl, fun x hx => ?_⟩⟩⟩; exact ⟨_, rfl, x, C, _, true, rfl, upd_same, xc, ⟨true, rfl, iteT ⟨_, rfl, x, C, _, true, rfl, upd_same, xc, q true _ ⟨fun z => absurd z hR, fun z => absurd z (by decide)⟩ (.of (s'.trans (same_new hx _))) (ht.same (s'.trans (same_new hx _))), .inl ⟨_, rfl, kv⟩⟩⟩, .inr (.inl ⟨C, rfl, kit_self1 K _⟩)⟩
end
end K08
namespace K08
open PySem L2 KM KD PyProof.Rows
section
variable {P : Program} {w : World} {K : PySem.W.Frag} {mg : Str -> Option Value} {base : Heap} {f : Addr} {fd : FuncData}
theorem scLaw : FnScope ["_law_script", "_law_cells", "_law_above", "_law_lines", "_law_tree", "_law_handed", "_law_due", "_law_way"] ["_law_script"] (defScope sLaw) := ⟨rfl, rfl, rfl, by decide +kernel, rfl, by decide +kernel, by decide +kernel⟩
theorem ok_law {T f1 f2 f3 f4 f5 f6 f7 f8 : Addr} {lp : Pos} {d1 d2 d3 d4 d5 d6 d7 d8 : FuncData} {k : Nat} (hk64 : k <= 64) (F : Fun K "law" "law" sLaw f fd) (GP : Kit P w K mg base 1 "_law_upto" ["_law_script", "_law_small", "_law_great"] (spUpto K) f2 d2)
    (GR : Kit P w K mg base 1 "_law_rooted" ["_law_cells"] spRooted f3 d3) (GLo : Kit P w K mg base 1 "_law_lines_of" ["_law_above", "_law_cells"] spLinesOf f4 d4) (GA : Kit P w K mg base 1 "_law_at" ["_law_script", "_law_k"] (spAt K) f1 d1)
    (GSp : Kit P w K mg base 1 "_law_spoilt" ["_law_many", "_law_lines", "_law_way", "_law_cell"] spSpoiltF f5 d5) (GI : Kit P w K mg base 1 "_law_is_free" ["_law_many", "_law_lines"] spIsFreeL f6 d6) (GRf : Kit P w K mg base k "_law_refuses" ["_law_way", "_law_tree"] (spRefusesF T lp lqF) f7 d7)
    (GKp : Kit P w K mg base 3 "_law_kept_whole" ["_law_handed", "_law_tree"] spKept f8 d8) (ml : mg "len" = none) (mli : mg "list" = none) (mr : mg "range" = none) :
    FnOk P w K mg base CX0 65 f fd ["_law_script"] (spLawT K T lp lqF) := by
  refine F.ok scLaw (fun vs H Q E h => ?_) (fun cdv A outer s H vs Q E hr h => ?_)
  . obtain ⟨a, ns, rfl, _⟩ := h
    rfl
  obtain ⟨a, ns, rfl, hS, h63, htb, q⟩ := h; have hr1 : Room 1 _ := hr.mono (by decide)
  have hr3 : Room 3 _ := hr.mono (by decide)
  have hrk : Room k _ := hr.mono hk64
  refine ⟨_, pss_cons (ps_set (i := 0) scLaw.nd rfl (Or.inl rfl) (pe_slice sl_list (pv 0) po_none (po_some pe_int)))
    (pss_cons (ps_set (i := 1) scLaw.nd rfl (Or.inl rfl) (pe_slice sl_list (pv 0) (po_some pe_int) (po_some (pe_call GP.ok hr1 rfl GP.mg GP.kp GP.bd .nil pass0 (pa_cons (pv 0) (pa_cons pe_int (pa_cons pe_int pa_nil)))))))
    (pss_cons (ps_set (i := 2) scLaw.nd rfl (Or.inl rfl) (pe_call GR.ok hr1 rfl GR.mg GR.kp GR.bd .nil pass0 (pa_cons (pv 1) pa_nil)))
    (pss_cons (ps_set (i := 3) scLaw.nd rfl (Or.inl rfl) (pe_call GLo.ok hr1 rfl GLo.mg GLo.kp GLo.bd .nil pass0 (pa_cons (pv 2) (pa_cons (pv 0) pa_nil))))
    (pss_cons (ps_set (i := 4) scLaw.nd rfl (Or.inl rfl) (pe_call GSp.ok hr1 rfl GSp.mg GSp.kp GSp.bd .nil pass0 (pa_cons (pe_callB call_len_seq rfl ml PySem.boot_len (pa_cons (pv 2) pa_nil)) (pa_cons (pv 3) (pa_cons (pe_op op_mod (pe_call GA.ok hr1 rfl GA.mg GA.kp GA.bd .nil pass0 (pa_cons (pv 0) (pa_cons pe_int pa_nil))) pe_int)
      (pa_cons (pe_call GA.ok hr1 rfl GA.mg GA.kp GA.bd .nil pass0 (pa_cons (pv 0) (pa_cons pe_int pa_nil))) pa_nil))))))
    (pss_cons (ps_set (i := 5) scLaw.nd rfl (Or.inl rfl) (pe_tup (pa_cons (pe_ix ix_tup (pv 4) pe_int (fun _ _ => rfl)) (pa_cons (pe_callTy call_list_of rfl mli PyProof.Rows.boot_list (pa_cons (pe_ix ix_tup (pv 4) pe_int (fun _ _ => rfl)) pa_nil)) pa_nil))))
    (pss_cons (ps_set (i := 6) scLaw.nd rfl (Or.inl rfl) (pe_not (pe_call GI.ok hr1 rfl GI.mg GI.kp GI.bd .nil pass0 (pa_cons (pe_ix ix_tup (pv 4) pe_int (fun _ _ => rfl)) (pa_cons (pe_ix ix_tup (pv 4) pe_int (fun _ _ => rfl)) pa_nil)))))
    (pss_cons (ps_for PassesOwn.never rfl (pi_range1 rfl mr (pa_cons pe_int pa_nil)) (pg_name (i := 7) scLaw.nd rfl (Or.inl rfl))
      (pss_one (ps_if (pt_cmpR op_ne (pe_call GRf.ok hrk rfl GRf.mg GRf.kp GRf.bd .nil pass0 (pa_cons (pv 7) (pa_cons (pv 5) pa_nil))) (pv 6) (nomark _)) pss_never pss_nil)))
    (pss_one (ps_ret (pe_call GKp.ok hr3 rfl GKp.mg GKp.kp GKp.bd .nil pass0 (pa_cons (pv 5) (pa_cons (pv 4) pa_nil)))))))))))), ?_⟩
  refine ⟨_, rfl, _, rfl, a, _, rfl, hS, fun p1 hp1 => ?_⟩; have e1 : cutV (ns.map V.int) none (some (99 : Int)) = (ns.take 99).map V.int := (cutTake _ 99).trans List.map_take.symm; rw [e1]; generalize hms : ns.take 99 = ms; have hn0 : ms.length <= 63 := by rw [<- hms, List.length_take]; omega
  have hn1 : (ms.map V.int).length <= 63 := by rw [List.length_map]; exact hn0
  refine ⟨_, rfl, _, rfl, _, rfl, p1, _, 13, 99, rfl, SqL.of upd_same, hn1, fun H2 s2 => ?_⟩; have ep1 := s2 _ _ (show (upd H p1 (.lst (ms.map V.int))) p1 = _ from upd_same)
  refine ⟨_, rfl, p1, _, rfl, SqL.of ep1, fun p2 hp2 => ?_⟩; obtain ⟨cs, ecs, hcs⟩ := cutMid2 ms 3 13; have ecs' : cutV (ms.map V.int) (some 3) (some 13) = cs.map V.int := ecs; rw [ecs']; have s3 := same_new hp2 (.lst (cs.map V.int)); refine ⟨_, rfl, p2, cs, rfl, upd_same, by omega, fun ar ab H3 s4 U hlen har ear => ?_⟩
  have ep1 := s4 _ _ (s3 _ _ ep1); have tb3 : Tab T lp lqF H3 := htb.same ((same_new hp1 _).trans (s2.trans (s3.trans s4))); have hl : (ab.map vO).length = ab.length := List.length_map _; have hpos := U.pos; have h11 : ab.length <= 11 := by omega
  clear s2 s3 s4; refine ⟨_, rfl, _, rfl, ar, p1, ab, ms, rfl, ear, ep1, U, by omega, by omega, fun L0 ps0 ls0 H4 s5 G0 f0 => ?_⟩
  have hl0 := f0.len U.tree; have tb4 := tb3.same s5; have ep1 := s5 _ _ ep1; refine ⟨_, rfl, ar, _, rfl, .inl (SqL.of (s5 _ _ ear)), _, rfl, _, rfl, p1, ms, 0, rfl, SqL.of ep1, fun i0 H5 s6 => ⟨_, _, rfl, rfl, (show (0 : Int) < 8 by decide), _, rfl, p1, ms, 1, rfl, SqL.of (s6 _ _ ep1), fun i1 H6 s7 => ?_⟩⟩
  have s67 := s6.trans s7; refine ⟨L0, ps0, (ab.map vO).length, toL ls0, _, i1, rfl, G0.up s67, by rw [toL_len]; omega, by omega, by omega, fun t L ps c li H7 s8 Tr h15 => ?_⟩
  have tb7 := tb4.same (s67.trans s8); refine ⟨_, rfl, t, _, _, _, rfl, rfl, SqT.of Tr.tup, rfl, _, rfl, t, _, _, _, rfl, rfl, SqT.of Tr.tup, rfl, L, _, rfl, .inl (SqL.of Tr.ls.top), fun h1 hh1 => ⟨(by show 2 <= sizeLine; decide), fun th hth => ?_⟩⟩
  have s9 : Same H7 (upd (upd H7 h1 (.lst (ps.map V.ref))) th (.tup [.int c, .ref h1])) := (same_new hh1 _).trans (same_new hth _); have Th : TreeAt (upd (upd H7 h1 (.lst (ps.map V.ref))) th (.tup [.int c, .ref h1])) th h1 ps c li := ⟨upd_same, (lines_copy Tr.ls hh1).up (same_new hth _)⟩; have Tr := Tr.up s9; have tb8 := tb7.same s9; generalize upd (upd H7 h1 (.lst (ps.map V.ref))) th (.tup [.int c, .ref h1]) = H8 at s9 Th Tr tb8; refine ⟨_, rfl, t, _, _, _, rfl, rfl, SqT.of Tr.tup, rfl, _, rfl, t, _, _, _, rfl, rfl, SqT.of Tr.tup, rfl, L, ps, c, li, rfl, Tr.ls, by omega, fun b H9 hb s10 => ⟨b, rfl, ?_⟩⟩
  have Th := Th.up s10; have Tr := Tr.up s10; have tb9 := tb8.same s10; refine ⟨7, rfl, by omega, by omega, ?_⟩
  refine for_range (lo := 0) (n := 7) (fun i σ H10 => (∃ x0 x1 x2 x3 o7, σ = [x0, x1, x2, x3, some (.ref t), some (.ref th), some (.bl (!b)), o7]) /\ TreeAt H10 t L ps c li /\ TreeAt H10 th h1 ps c li /\ Tab T lp lqF H10) ⟨⟨_, _, _, _, _, rfl⟩, Tr, Th, tb9⟩ ?_ ?_
  . rintro i σ H10 hi p_
    refine hld fun g_ k_ => ?_; obtain ⟨⟨x0, x1, x2, x3, o7, rfl⟩, Tr, Th, tb10⟩ := p_; refine k_ ?_
    have hbb : ∀ b' : Bool, (FreeL c li ↔ b' = false) -> b' = !b := fun b' h => by
      cases b with
      | true => exact h.mp (hb.mp rfl)
      | false =>
        cases b' with
        | true => rfl
        | false => exact absurd (hb.mpr (h.mpr rfl)) Bool.false_ne_true
    rw [Int.zero_add]; refine ⟨_, rfl, _, rfl, th, h1, ps, c, li, i, rfl, Th, h15, tb10, fun b' H11 hb' s11 tb11 => ?_⟩; rw [hbb b' hb']; exact ⟨_, rfl, rfl, _, rfl, iteNS rfl ⟨⟨_, _, _, _, _, rfl⟩, Tr.upT tb10 s11, Th.upT tb10 s11, tb11⟩⟩
  . rintro σ H10 p_
    refine hld fun g_ k_ => ?_; obtain ⟨⟨x0, x1, x2, x3, o7, rfl⟩, Tr, Th, tb10⟩ := p_; refine k_ ?_; exact ⟨_, rfl, _, rfl, th, h1, t, L, ps, ps, c, li, rfl, Th, Tr, by omega, fun H11 s11 => q _ (tb10.same s11)⟩
end
end K08
namespace K08
open PySem L2 KM KD PyProof.Rows
theorem all_mk {l : PySem.W.OpenLaw} {w : World} {K : PySem.W.Frag} {h : Heap} {mg : Str -> Option Value} {fa f1 f2 f3 f4 f5 f6 f7 f8 f9 f10 f11 f12 f13 f14 f15 f16 f17 f18 f19 f20 f21 f22 f23 f24 f25 f26 f27 f28 f29 f30 f31 f32 f33 f34 f35 CTreeError CNoTree : Addr} (X : K.In h) (G : h.Ns mainGlobals mg) (hfa : mg "law" = some (.ref fa))
    {od1 an1 od2 an2 od3 an3 od4 an4 od5 an5 od6 an6 od7 an7 od8 an8 od9 an9 od10 an10 od11 an11 od12 an12 od13 an13 od14 an14 od15 an15 od16 an16 od17 an17 od18 an18 od19 an19 od20 an20 od21 an21 od22 an22 od23 an23 od24 an24 od25 an25 od26 an26 od27 an27 od28 an28 od29 an29 od30 an30 od31 an31 od32 an32 od33 an33 od34 an34 od35 an35 : Option Addr} {sl1 sl2 sl3 sl4 sl5 sl6 sl7 sl8 sl9 sl10 sl11 sl12 sl13 sl14 sl15 sl16 sl17 sl18 sl19 sl20 sl21 sl22 sl23 sl24 sl25 sl26 sl27 sl28 sl29 sl30 sl31 sl32 sl33 sl34 sl35 : Array (Option Value)} {oc1 kV1 dc1 pm1 cd1 ct1 oc2 kV2 dc2 pm2 cd2 ct2 oc3 kV3 dc3 pm3 cd3 ct3 oc4 kV4 dc4 pm4 cd4 ct4 oc5 kV5 dc5 pm5 cd5 ct5 oc6 kV6 dc6 pm6 cd6 ct6 oc7 kV7 dc7 pm7 cd7 ct7 oc8 kV8 dc8 pm8 cd8 ct8 oc9 kV9 dc9 pm9 ct9 oc10 kV10 dc10 pm10 cd10 ct10 oc11 kV11 dc11 pm11 cd11 ct11 oc12 kV12 dc12 pm12 cd12 ct12 oc13 kV13 dc13 pm13 cd13 ct13 oc14 kV14 dc14 pm14 cd14 ct14 oc15 kV15 dc15 pm15 cd15 ct15 oc16 kV16 dc16 pm16 cd16 ct16 oc17 kV17 dc17 pm17 cd17 ct17 oc18 kV18 dc18 pm18 cd18 ct18 oc19 kV19 dc19 pm19 cd19 ct19 oc20 kV20 dc20 pm20 cd20 ct20 oc21 kV21 dc21 pm21 cd21 ct21 oc22 kV22 dc22 pm22 cd22 ct22 oc23 kV23 dc23 pm23 cd23 ct23 oc24 kV24 dc24 pm24 cd24 ct24 oc25 kV25 dc25 pm25 cd25 ct25 oc26 kV26 dc26 pm26 cd26 ct26 oc27 kV27 dc27 pm27 cd27 ct27 oc28 kV28 dc28 pm28 cd28 ct28 oc29 kV29 dc29 pm29 cd29 ct29 oc30 kV30 dc30 pm30 cd30 ct30 oc31 kV31 dc31 pm31 cd31 ct31 oc32 kV32 dc32 pm32 cd32 ct32 oc33 kV33 dc33 pm33 cd33 ct33 oc34 kV34 dc34 pm34 cd34 ct34 oc35 kV35 dc35 pm35 cd35 ct35 : Value}
    {dT2 : Addr} {tC2 : Value} {tD2 : Option Addr} {tN2 : Nat} {tS2 : Array (Option Value)}
    {cL T bm : Addr} {lcD : Option Addr} {lcV : Array Value} {lcS : Array (Option Value)} {lcF : Str} {lcT lcU lcY : Tok} {lcG lcX : Int} {lcB : Bool}
    {tkMARK : Tok}
    (qTreeError : PySem.W.nsIn K mainGlobals "TreeError" = some (some (.ref CTreeError)))
    (qNoTree : PySem.W.nsIn K mainGlobals "NoTree" = some (some (.ref CNoTree)))
    (qMARK : PySem.W.nsIn K mainGlobals "MARK" = some (some (.str (Str.ofString "*") tkMARK)))
    (nt1 : PySem.W.excIn K CNoTree [.type "ValueError", .type "Exception", .type "BaseException", .type "object"] "ValueError.__new__" = true)
    (nt2 : PySem.W.findIn K (.ref CNoTree) "__getattribute__" = some (some (.builtin "BaseException.__getattribute__")))
    (nt3 : PySem.W.findIn K (.ref CNoTree) "__getattr__" = some none)
    (nt4 : PySem.W.hasDictIn K CNoTree = true)
    (nt5 : PySem.W.findIn K (.ref CNoTree) "__class__" = some (some (.builtin "object.__class__")))
    (nt6 : PySem.W.specialIn K (.builtin "object.__class__") "__get__" = some (some (.builtin "getset_descriptor.__get__")))
    (nt7 : PySem.W.takesIn K (.builtin "object.__class__") = some true)
    (nt8 : PySem.W.mroIn K CNoTree (.type "object") = some true)
    (nt9 : PySem.W.mroIn K CNoTree (.type "BaseException") = some true)
    (y2 : PySem.W.exmOne K (.ref CNoTree) (.ref CTreeError) = some true)
    (y3 : PySem.W.kitOne K (.ref CNoTree) (.type "ValueError") = some true)
    (a1 : PySem.W.nsIn K mainGlobals "form_of" = some (some (.ref f1))) (l1 : K.lookup f1 = some ⟨oc1, od1, .func (PySem.W.fnOf "form_of" "form_of" (defArgs sForm) (defBody sForm) (defScope sForm) .none kV1 dc1 pm1 an1 cd1 ct1), sl1⟩) (c1 : PySem.W.codeIn K cd1 "form_of" = true) (k1 : PySem.W.keepIn K (.ref f1) = true)
    (a2 : PySem.W.nsIn K mainGlobals "knot_forms" = some (some (.ref f2))) (l2 : K.lookup f2 = some ⟨oc2, od2, .func (PySem.W.fnOf "knot_forms" "knot_forms" (defArgs sKnotForms) (defBody sKnotForms) (defScope sKnotForms) (.ref dT2) kV2 dc2 pm2 an2 cd2 ct2), sl2⟩) (c2 : PySem.W.codeIn K cd2 "knot_forms" = true) (k2 : PySem.W.keepIn K (.ref f2) = true) (t2 : K.lookup dT2 = some ⟨tC2, tD2, .seq #[.none] tN2, tS2⟩)
    (a3 : PySem.W.nsIn K mainGlobals "form_over" = some (some (.ref f3))) (l3 : K.lookup f3 = some ⟨oc3, od3, .func (PySem.W.fnOf "form_over" "form_over" (defArgs sOver) (defBody sOver) (defScope sOver) .none kV3 dc3 pm3 an3 cd3 ct3), sl3⟩) (c3 : PySem.W.codeIn K cd3 "form_over" = true) (k3 : PySem.W.keepIn K (.ref f3) = true)
    (a4 : PySem.W.nsIn K mainGlobals "root_of" = some (some (.ref f4))) (l4 : K.lookup f4 = some ⟨oc4, od4, .func (PySem.W.fnOf "root_of" "root_of" (defArgs sRoot) (defBody sRoot) (defScope sRoot) .none kV4 dc4 pm4 an4 cd4 ct4), sl4⟩) (c4 : PySem.W.codeIn K cd4 "root_of" = true) (k4 : PySem.W.keepIn K (.ref f4) = true)
    (a5 : PySem.W.nsIn K mainGlobals "knots_under" = some (some (.ref f5))) (l5 : K.lookup f5 = some ⟨oc5, od5, .func (PySem.W.fnOf "knots_under" "knots_under" (defArgs sUnder) (defBody sUnder) (defScope sUnder) .none kV5 dc5 pm5 an5 cd5 ct5), sl5⟩) (c5 : PySem.W.codeIn K cd5 "knots_under" = true) (k5 : PySem.W.keepIn K (.ref f5) = true)
    (a6 : PySem.W.nsIn K mainGlobals "downward" = some (some (.ref f6))) (l6 : K.lookup f6 = some ⟨oc6, od6, .func (PySem.W.fnOf "downward" "downward" (defArgs sDown) (defBody sDown) (defScope sDown) .none kV6 dc6 pm6 an6 cd6 ct6), sl6⟩) (c6 : PySem.W.codeIn K cd6 "downward" = true) (k6 : PySem.W.keepIn K (.ref f6) = true)
    (a7 : PySem.W.nsIn K mainGlobals "matched" = some (some (.ref f7))) (l7 : K.lookup f7 = some ⟨oc7, od7, .func (PySem.W.fnOf "matched" "matched" (defArgs sMatched) (defBody sMatched) (defScope sMatched) .none kV7 dc7 pm7 an7 cd7 ct7), sl7⟩) (c7 : PySem.W.codeIn K cd7 "matched" = true) (k7 : PySem.W.keepIn K (.ref f7) = true)
    (a8 : PySem.W.nsIn K mainGlobals "how_many" = some (some (.ref f8))) (l8 : K.lookup f8 = some ⟨oc8, od8, .func (PySem.W.fnOf "how_many" "how_many" (defArgs sHowMany) (defBody sHowMany) (defScope sHowMany) .none kV8 dc8 pm8 an8 cd8 ct8), sl8⟩) (c8 : PySem.W.codeIn K cd8 "how_many" = true) (k8 : PySem.W.keepIn K (.ref f8) = true)
    (a9 : PySem.W.nsIn K mainGlobals "by_forms" = some (some (.ref f9))) (l9 : K.lookup f9 = some ⟨oc9, od9, .func (PySem.W.fnOf "by_forms" "by_forms" (defArgs sByForms) (defBody sByForms) (defScope sByForms) .none kV9 dc9 pm9 an9 (.ref cL) ct9), sl9⟩) (c9 : PySem.W.codeIn K (.ref cL) "by_forms" = true) (k9 : PySem.W.keepIn K (.ref f9) = true)
    (a10 : PySem.W.nsIn K mainGlobals "mates_of" = some (some (.ref f10))) (l10 : K.lookup f10 = some ⟨oc10, od10, .func (PySem.W.fnOf "mates_of" "mates_of" (defArgs sMatesOf) (defBody sMatesOf) (defScope sMatesOf) .none kV10 dc10 pm10 an10 cd10 ct10), sl10⟩) (c10 : PySem.W.codeIn K cd10 "mates_of" = true) (k10 : PySem.W.keepIn K (.ref f10) = true)
    (a11 : PySem.W.nsIn K mainGlobals "swaps" = some (some (.ref f11))) (l11 : K.lookup f11 = some ⟨oc11, od11, .func (PySem.W.fnOf "swaps" "swaps" (defArgs sSwaps) (defBody sSwaps) (defScope sSwaps) .none kV11 dc11 pm11 an11 cd11 ct11), sl11⟩) (c11 : PySem.W.codeIn K cd11 "swaps" = true) (k11 : PySem.W.keepIn K (.ref f11) = true)
    (a12 : PySem.W.nsIn K mainGlobals "grouped" = some (some (.ref f12))) (l12 : K.lookup f12 = some ⟨oc12, od12, .func (PySem.W.fnOf "grouped" "grouped" (defArgs sGrouped) (defBody sGrouped) (defScope sGrouped) .none kV12 dc12 pm12 an12 cd12 ct12), sl12⟩) (c12 : PySem.W.codeIn K cd12 "grouped" = true) (k12 : PySem.W.keepIn K (.ref f12) = true)
    (a13 : PySem.W.nsIn K mainGlobals "middles" = some (some (.ref f13))) (l13 : K.lookup f13 = some ⟨oc13, od13, .func (PySem.W.fnOf "middles" "middles" (defArgs sMiddles) (defBody sMiddles) (defScope sMiddles) .none kV13 dc13 pm13 an13 cd13 ct13), sl13⟩) (c13 : PySem.W.codeIn K cd13 "middles" = true) (k13 : PySem.W.keepIn K (.ref f13) = true)
    (a14 : PySem.W.nsIn K mainGlobals "rooted_at" = some (some (.ref f14))) (l14 : K.lookup f14 = some ⟨oc14, od14, .func (PySem.W.fnOf "rooted_at" "rooted_at" (defArgs sRootedAt) (defBody sRootedAt) (defScope sRootedAt) .none kV14 dc14 pm14 an14 cd14 ct14), sl14⟩) (c14 : PySem.W.codeIn K cd14 "rooted_at" = true) (k14 : PySem.W.keepIn K (.ref f14) = true)
    (a15 : PySem.W.nsIn K mainGlobals "free_form" = some (some (.ref f15))) (l15 : K.lookup f15 = some ⟨oc15, od15, .func (PySem.W.fnOf "free_form" "free_form" (defArgs sFreeForm) (defBody sFreeForm) (defScope sFreeForm) .none kV15 dc15 pm15 an15 cd15 ct15), sl15⟩) (c15 : PySem.W.codeIn K cd15 "free_form" = true) (k15 : PySem.W.keepIn K (.ref f15) = true)
    (a16 : PySem.W.nsIn K mainGlobals "free_matched" = some (some (.ref f16))) (l16 : K.lookup f16 = some ⟨oc16, od16, .func (PySem.W.fnOf "free_matched" "free_matched" (defArgs sFreeMatched) (defBody sFreeMatched) (defScope sFreeMatched) .none kV16 dc16 pm16 an16 cd16 ct16), sl16⟩) (c16 : PySem.W.codeIn K cd16 "free_matched" = true) (k16 : PySem.W.keepIn K (.ref f16) = true)
    (a17 : PySem.W.nsIn K mainGlobals "free_how_many" = some (some (.ref f17))) (l17 : K.lookup f17 = some ⟨oc17, od17, .func (PySem.W.fnOf "free_how_many" "free_how_many" (defArgs sFreeHowMany) (defBody sFreeHowMany) (defScope sFreeHowMany) .none kV17 dc17 pm17 an17 cd17 ct17), sl17⟩) (c17 : PySem.W.codeIn K cd17 "free_how_many" = true) (k17 : PySem.W.keepIn K (.ref f17) = true)
    (a18 : PySem.W.nsIn K mainGlobals "free_alike_knots" = some (some (.ref f18))) (l18 : K.lookup f18 = some ⟨oc18, od18, .func (PySem.W.fnOf "free_alike_knots" "free_alike_knots" (defArgs sFreeAlikeKnots) (defBody sFreeAlikeKnots) (defScope sFreeAlikeKnots) .none kV18 dc18 pm18 an18 cd18 ct18), sl18⟩) (c18 : PySem.W.codeIn K cd18 "free_alike_knots" = true) (k18 : PySem.W.keepIn K (.ref f18) = true)
    (a19 : PySem.W.nsIn K mainGlobals "rooted_in_the_middle" = some (some (.ref f19))) (l19 : K.lookup f19 = some ⟨oc19, od19, .func (PySem.W.fnOf "rooted_in_the_middle" "rooted_in_the_middle" (defArgs sRootedInTheMiddle) (defBody sRootedInTheMiddle) (defScope sRootedInTheMiddle) .none kV19 dc19 pm19 an19 cd19 ct19), sl19⟩) (c19 : PySem.W.codeIn K cd19 "rooted_in_the_middle" = true) (k19 : PySem.W.keepIn K (.ref f19) = true)
    (a20 : PySem.W.nsIn K mainGlobals "farness" = some (some (.ref f20))) (l20 : K.lookup f20 = some ⟨oc20, od20, .func (PySem.W.fnOf "farness" "farness" (defArgs sFarness) (defBody sFarness) (defScope sFarness) .none kV20 dc20 pm20 an20 cd20 ct20), sl20⟩) (c20 : PySem.W.codeIn K cd20 "farness" = true) (k20 : PySem.W.keepIn K (.ref f20) = true)
    (a21 : PySem.W.nsIn K mainGlobals "hung_up" = some (some (.ref f21))) (l21 : K.lookup f21 = some ⟨oc21, od21, .func (PySem.W.fnOf "hung_up" "hung_up" (defArgs sHungUp) (defBody sHungUp) (defScope sHungUp) .none kV21 dc21 pm21 an21 cd21 ct21), sl21⟩) (c21 : PySem.W.codeIn K cd21 "hung_up" = true) (k21 : PySem.W.keepIn K (.ref f21) = true)
    (a22 : PySem.W.nsIn K mainGlobals "walked" = some (some (.ref f22))) (l22 : K.lookup f22 = some ⟨oc22, od22, .func (PySem.W.fnOf "walked" "walked" (defArgs sWalked) (defBody sWalked) (defScope sWalked) .none kV22 dc22 pm22 an22 cd22 ct22), sl22⟩) (c22 : PySem.W.codeIn K cd22 "walked" = true) (k22 : PySem.W.keepIn K (.ref f22) = true)
    (a23 : PySem.W.nsIn K mainGlobals "knots_beside" = some (some (.ref f23))) (l23 : K.lookup f23 = some ⟨oc23, od23, .func (PySem.W.fnOf "knots_beside" "knots_beside" (defArgs sKnotsBeside) (defBody sKnotsBeside) (defScope sKnotsBeside) .none kV23 dc23 pm23 an23 cd23 ct23), sl23⟩) (c23 : PySem.W.codeIn K cd23 "knots_beside" = true) (k23 : PySem.W.keepIn K (.ref f23) = true)
    (a24 : PySem.W.nsIn K mainGlobals "_law_upto" = some (some (.ref f24))) (l24 : K.lookup f24 = some ⟨oc24, od24, .func (PySem.W.fnOf "_law_upto" "_law_upto" (defArgs sUpto) (defBody sUpto) (defScope sUpto) .none kV24 dc24 pm24 an24 cd24 ct24), sl24⟩) (c24 : PySem.W.codeIn K cd24 "_law_upto" = true) (k24 : PySem.W.keepIn K (.ref f24) = true)
    (a25 : PySem.W.nsIn K mainGlobals "_law_whole" = some (some (.ref f25))) (l25 : K.lookup f25 = some ⟨oc25, od25, .func (PySem.W.fnOf "_law_whole" "_law_whole" (defArgs sWhole) (defBody sWhole) (defScope sWhole) .none kV25 dc25 pm25 an25 cd25 ct25), sl25⟩) (c25 : PySem.W.codeIn K cd25 "_law_whole" = true) (k25 : PySem.W.keepIn K (.ref f25) = true)
    (a26 : PySem.W.nsIn K mainGlobals "_law_at" = some (some (.ref f26))) (l26 : K.lookup f26 = some ⟨oc26, od26, .func (PySem.W.fnOf "_law_at" "_law_at" (defArgs sAt) (defBody sAt) (defScope sAt) .none kV26 dc26 pm26 an26 cd26 ct26), sl26⟩) (c26 : PySem.W.codeIn K cd26 "_law_at" = true) (k26 : PySem.W.keepIn K (.ref f26) = true)
    (a27 : PySem.W.nsIn K mainGlobals "_law_rooted" = some (some (.ref f27))) (l27 : K.lookup f27 = some ⟨oc27, od27, .func (PySem.W.fnOf "_law_rooted" "_law_rooted" (defArgs sRooted) (defBody sRooted) (defScope sRooted) .none kV27 dc27 pm27 an27 cd27 ct27), sl27⟩) (c27 : PySem.W.codeIn K cd27 "_law_rooted" = true) (k27 : PySem.W.keepIn K (.ref f27) = true)
    (a28 : PySem.W.nsIn K mainGlobals "_law_lines_of" = some (some (.ref f28))) (l28 : K.lookup f28 = some ⟨oc28, od28, .func (PySem.W.fnOf "_law_lines_of" "_law_lines_of" (defArgs sLinesOf) (defBody sLinesOf) (defScope sLinesOf) .none kV28 dc28 pm28 an28 cd28 ct28), sl28⟩) (c28 : PySem.W.codeIn K cd28 "_law_lines_of" = true) (k28 : PySem.W.keepIn K (.ref f28) = true)
    (a29 : PySem.W.nsIn K mainGlobals "_law_are_knots" = some (some (.ref f29))) (l29 : K.lookup f29 = some ⟨oc29, od29, .func (PySem.W.fnOf "_law_are_knots" "_law_are_knots" (defArgs sAreKnots) (defBody sAreKnots) (defScope sAreKnots) .none kV29 dc29 pm29 an29 cd29 ct29), sl29⟩) (c29 : PySem.W.codeIn K cd29 "_law_are_knots" = true) (k29 : PySem.W.keepIn K (.ref f29) = true)
    (a30 : PySem.W.nsIn K mainGlobals "_law_kept_whole" = some (some (.ref f30))) (l30 : K.lookup f30 = some ⟨oc30, od30, .func (PySem.W.fnOf "_law_kept_whole" "_law_kept_whole" (defArgs sKeptWhole) (defBody sKeptWhole) (defScope sKeptWhole) .none kV30 dc30 pm30 an30 cd30 ct30), sl30⟩) (c30 : PySem.W.codeIn K cd30 "_law_kept_whole" = true) (k30 : PySem.W.keepIn K (.ref f30) = true)
    (a31 : PySem.W.nsIn K mainGlobals "_law_is_free" = some (some (.ref f31))) (l31 : K.lookup f31 = some ⟨oc31, od31, .func (PySem.W.fnOf "_law_is_free" "_law_is_free" (defArgs sIsFree) (defBody sIsFree) (defScope sIsFree) .none kV31 dc31 pm31 an31 cd31 ct31), sl31⟩) (c31 : PySem.W.codeIn K cd31 "_law_is_free" = true) (k31 : PySem.W.keepIn K (.ref f31) = true)
    (a32 : PySem.W.nsIn K mainGlobals "_law_spoilt" = some (some (.ref f32))) (l32 : K.lookup f32 = some ⟨oc32, od32, .func (PySem.W.fnOf "_law_spoilt" "_law_spoilt" (defArgs sSpoilt) (defBody sSpoilt) (defScope sSpoilt) .none kV32 dc32 pm32 an32 cd32 ct32), sl32⟩) (c32 : PySem.W.codeIn K cd32 "_law_spoilt" = true) (k32 : PySem.W.keepIn K (.ref f32) = true)
    (a33 : PySem.W.nsIn K mainGlobals "_law_asked" = some (some (.ref f33))) (l33 : K.lookup f33 = some ⟨oc33, od33, .func (PySem.W.fnOf "_law_asked" "_law_asked" (defArgs sAsked) (defBody sAsked) (defScope sAsked) .none kV33 dc33 pm33 an33 cd33 ct33), sl33⟩) (c33 : PySem.W.codeIn K cd33 "_law_asked" = true) (k33 : PySem.W.keepIn K (.ref f33) = true)
    (a34 : PySem.W.nsIn K mainGlobals "_law_refuses" = some (some (.ref f34))) (l34 : K.lookup f34 = some ⟨oc34, od34, .func (PySem.W.fnOf "_law_refuses" "_law_refuses" (defArgs sRefuses) (defBody sRefuses) (defScope sRefuses) .none kV34 dc34 pm34 an34 cd34 ct34), sl34⟩) (c34 : PySem.W.codeIn K cd34 "_law_refuses" = true) (k34 : PySem.W.keepIn K (.ref f34) = true)
    (a35 : PySem.W.nsIn K mainGlobals "law" = some (some (.ref f35))) (l35 : K.lookup f35 = some ⟨oc35, od35, .func (PySem.W.fnOf "law" "law" (defArgs sLaw) (defBody sLaw) (defScope sLaw) .none kV35 dc35 pm35 an35 cd35 ct35), sl35⟩) (c35 : PySem.W.codeIn K cd35 "law" = true) (k35 : PySem.W.keepIn K (.ref f35) = true)
    (z1 : PySem.W.nsIn K mainGlobals "len" = some none) (z2 : PySem.W.nsIn K mainGlobals "enumerate" = some none) (z3 : PySem.W.nsIn K mainGlobals "sorted" = some none) (z4 : PySem.W.nsIn K mainGlobals "reversed" = some none) (z5 : PySem.W.nsIn K mainGlobals "range" = some none) (z6 : PySem.W.nsIn K mainGlobals "isinstance" = some none) (z7 : PySem.W.nsIn K mainGlobals "int" = some none) (z8 : PySem.W.nsIn K mainGlobals "bool" = some none) (z9 : PySem.W.nsIn K mainGlobals "list" = some none) (z10 : PySem.W.nsIn K mainGlobals "min" = some none) (z11 : PySem.W.nsIn K mainGlobals "max" = some none) (z12 : PySem.W.nsIn K mainGlobals "tuple" = some none) (z13 : PySem.W.nsIn K mainGlobals "zip" = some none) (z14 : PySem.W.nsIn K mainGlobals "ValueError" = some none)
    (lk1 : K.lookup cL = some ⟨.type "code", lcD, .fields lcV, lcS⟩) (lk2 : lcV[11]? = some (.ref T)) (lk3 : lcV.getD 18 .none = .str lcF lcT) (lk4 : lcV.getD 7 .none = .int lcG lcU) (lk5 : lcV.getD 9 .none = .bool lcB) (lk6 : lcV.getD 10 .none = .int lcX lcY) (lk7 : K.lookup T = none) (lk8 : PySem.W.nsIn K mainGlobals "__builtins__" = some (some (.ref bm))) (lk10 : bm ≠ builtinsNs) (lk11 : bm ≠ mainGlobals) (lk12 : bm ≠ T) (lk13 : cL ≠ T) (lk14 : mainGlobals ≠ T) :
    (∃ c, CodeK K c T) /\ K.lookup T = none /\ ∃ fd : FuncData, (∀ (s : Shared) (v : Value), BindsTo s fd ⟨[v], []⟩ [("_law_script", v)]) /\ ∀ base : Heap, K.In base -> base.Ns mainGlobals mg -> base.get? bm = some modO -> FnOk l.prog w K mg base CX0 65 fa fd ["_law_script"] (spLawT K T (lamOf sByForms).2.2.2 lqF) := by
  have e := hfa.symm.trans (PySem.W.mg_of X G a35)
  cases e
  have F_sForm := fun_mk (st := sForm) l1 c1 k1; have b_sForm := F_sForm.binds (ps := ["above"]) fun _ _ _ _ _ _ => bl1 fun _ => rfl; have g_sForm := PySem.W.mg_of X G a1; have k_sForm := k1; have F_sKnotForms := funD_mk (st := sKnotForms) l2 c2 k2 t2; have b_sKnotForms := F_sKnotForms.binds (ps := ["above", "marked"]) fun _ _ _ _ _ _ _ => bl2 fun _ _ => ⟨_, rfl, rfl⟩; have b1_sKnotForms := F_sKnotForms.binds1 (ps := ["above", "marked"]) fun _ _ _ _ _ _ _ => bl1s fun _ => ⟨_, rfl, rfl⟩; have g_sKnotForms := PySem.W.mg_of X G a2; have k_sKnotForms := k2; have F_sOver := fun_mk (st := sOver) l3 c3 k3; have b_sOver := F_sOver.binds (ps := ["parts"]) fun _ _ _ _ _ _ => bl1 fun _ => rfl; have g_sOver := PySem.W.mg_of X G a3; have k_sOver := k3; have F_sRoot := fun_mk (st := sRoot) l4 c4 k4; have b_sRoot := F_sRoot.binds (ps := ["above"]) fun _ _ _ _ _ _ => bl1 fun _ => rfl; have g_sRoot := PySem.W.mg_of X G a4; have k_sRoot := k4; have F_sUnder := fun_mk (st := sUnder) l5 c5 k5; have b_sUnder := F_sUnder.binds (ps := ["above"]) fun _ _ _ _ _ _ => bl1 fun _ => rfl; have g_sUnder := PySem.W.mg_of X G a5; have k_sUnder := k5; have F_sDown := fun_mk (st := sDown) l6 c6 k6; have b_sDown := F_sDown.binds (ps := ["root", "under"]) fun _ _ _ _ _ _ => bl2 fun _ _ => rfl; have g_sDown := PySem.W.mg_of X G a6; have k_sDown := k6; have F_sMatched := fun_mk (st := sMatched) l7 c7 k7; have b_sMatched := F_sMatched.binds (ps := ["one", "other"]) fun _ _ _ _ _ _ => bl2 fun _ _ => rfl; have g_sMatched := PySem.W.mg_of X G a7; have k_sMatched := k7; have F_sHowMany := fun_mk (st := sHowMany) l8 c8 k8; have b_sHowMany := F_sHowMany.binds (ps := ["above"]) fun _ _ _ _ _ _ => bl1 fun _ => rfl; have g_sHowMany := PySem.W.mg_of X G a8; have k_sHowMany := k8; have FC_sByForms := funC_mk (st := sByForms) l9 c9 k9; have F_sByForms := FC_sByForms.fun; have ck : CodeK K cL T := ⟨_, lcV, lcF, lcT, lcG, lcU, lcB, lcX, lcY, lk1, rfl, rfl, lk2, lk3, lk4, lk5, lk6⟩; have b_sByForms := F_sByForms.binds (ps := ["above", "forms"]) fun _ _ _ _ _ _ => bl2 fun _ _ => rfl; have g_sByForms := PySem.W.mg_of X G a9; have k_sByForms := k9; have F_sMatesOf := fun_mk (st := sMatesOf) l10 c10 k10; have b_sMatesOf := F_sMatesOf.binds (ps := ["one_order", "other_order"]) fun _ _ _ _ _ _ => bl2 fun _ _ => rfl; have g_sMatesOf := PySem.W.mg_of X G a10; have k_sMatesOf := k10; have F_sSwaps := fun_mk (st := sSwaps) l11 c11 k11; have b_sSwaps := F_sSwaps.binds (ps := ["forms"]) fun _ _ _ _ _ _ => bl1 fun _ => rfl; have g_sSwaps := PySem.W.mg_of X G a11; have k_sSwaps := k11; have F_sGrouped := fun_mk (st := sGrouped) l12 c12 k12; have b_sGrouped := F_sGrouped.binds (ps := ["marks"]) fun _ _ _ _ _ _ => bl1 fun _ => rfl; have g_sGrouped := PySem.W.mg_of X G a12; have k_sGrouped := k12; have F_sMiddles := fun_mk (st := sMiddles) l13 c13 k13; have b_sMiddles := F_sMiddles.binds (ps := ["tree"]) fun _ _ _ _ _ _ => bl1 fun _ => rfl; have g_sMiddles := PySem.W.mg_of X G a13; have k_sMiddles := k13; have F_sRootedAt := fun_mk (st := sRootedAt) l14 c14 k14; have b_sRootedAt := F_sRootedAt.binds (ps := ["tree", "knot"]) fun _ _ _ _ _ _ => bl2 fun _ _ => rfl; have g_sRootedAt := PySem.W.mg_of X G a14; have k_sRootedAt := k14; have F_sFreeForm := fun_mk (st := sFreeForm) l15 c15 k15; have b_sFreeForm := F_sFreeForm.binds (ps := ["tree"]) fun _ _ _ _ _ _ => bl1 fun _ => rfl; have g_sFreeForm := PySem.W.mg_of X G a15; have k_sFreeForm := k15; have F_sFreeMatched := fun_mk (st := sFreeMatched) l16 c16 k16; have b_sFreeMatched := F_sFreeMatched.binds (ps := ["one", "other"]) fun _ _ _ _ _ _ => bl2 fun _ _ => rfl; have g_sFreeMatched := PySem.W.mg_of X G a16; have k_sFreeMatched := k16; have F_sFreeHowMany := fun_mk (st := sFreeHowMany) l17 c17 k17; have b_sFreeHowMany := F_sFreeHowMany.binds (ps := ["tree"]) fun _ _ _ _ _ _ => bl1 fun _ => rfl; have g_sFreeHowMany := PySem.W.mg_of X G a17; have k_sFreeHowMany := k17; have F_sFreeAlikeKnots := fun_mk (st := sFreeAlikeKnots) l18 c18 k18; have b_sFreeAlikeKnots := F_sFreeAlikeKnots.binds (ps := ["tree"]) fun _ _ _ _ _ _ => bl1 fun _ => rfl; have g_sFreeAlikeKnots := PySem.W.mg_of X G a18; have k_sFreeAlikeKnots := k18; have F_sRootedInTheMiddle := fun_mk (st := sRootedInTheMiddle) l19 c19 k19; have b_sRootedInTheMiddle := F_sRootedInTheMiddle.binds (ps := ["tree"]) fun _ _ _ _ _ _ => bl1 fun _ => rfl; have g_sRootedInTheMiddle := PySem.W.mg_of X G a19; have k_sRootedInTheMiddle := k19; have F_sFarness := fun_mk (st := sFarness) l20 c20 k20; have b_sFarness := F_sFarness.binds (ps := ["beside", "knot"]) fun _ _ _ _ _ _ => bl2 fun _ _ => rfl; have g_sFarness := PySem.W.mg_of X G a20; have k_sFarness := k20; have F_sHungUp := fun_mk (st := sHungUp) l21 c21 k21; have b_sHungUp := F_sHungUp.binds (ps := ["beside", "root"]) fun _ _ _ _ _ _ => bl2 fun _ _ => rfl; have g_sHungUp := PySem.W.mg_of X G a21; have k_sHungUp := k21; have F_sWalked := fun_mk (st := sWalked) l22 c22 k22; have b_sWalked := F_sWalked.binds (ps := ["beside", "start"]) fun _ _ _ _ _ _ => bl2 fun _ _ => rfl; have g_sWalked := PySem.W.mg_of X G a22; have k_sWalked := k22; have F_sKnotsBeside := fun_mk (st := sKnotsBeside) l23 c23 k23; have b_sKnotsBeside := F_sKnotsBeside.binds (ps := ["tree"]) fun _ _ _ _ _ _ => bl1 fun _ => rfl; have g_sKnotsBeside := PySem.W.mg_of X G a23; have k_sKnotsBeside := k23; have F_sUpto := fun_mk (st := sUpto) l24 c24 k24; have b_sUpto := F_sUpto.binds (ps := ["_law_script", "_law_small", "_law_great"]) fun _ _ _ _ _ _ => bl3 fun _ _ _ => rfl; have g_sUpto := PySem.W.mg_of X G a24; have k_sUpto := k24; have F_sWhole := fun_mk (st := sWhole) l25 c25 k25; have b_sWhole := F_sWhole.binds (ps := ["_law_found"]) fun _ _ _ _ _ _ => bl1 fun _ => rfl; have g_sWhole := PySem.W.mg_of X G a25; have k_sWhole := k25; have F_sAt := fun_mk (st := sAt) l26 c26 k26; have b_sAt := F_sAt.binds (ps := ["_law_script", "_law_k"]) fun _ _ _ _ _ _ => bl2 fun _ _ => rfl; have g_sAt := PySem.W.mg_of X G a26; have k_sAt := k26; have F_sRooted := fun_mk (st := sRooted) l27 c27 k27; have b_sRooted := F_sRooted.binds (ps := ["_law_cells"]) fun _ _ _ _ _ _ => bl1 fun _ => rfl; have g_sRooted := PySem.W.mg_of X G a27; have k_sRooted := k27; have F_sLinesOf := fun_mk (st := sLinesOf) l28 c28 k28; have b_sLinesOf := F_sLinesOf.binds (ps := ["_law_above", "_law_cells"]) fun _ _ _ _ _ _ => bl2 fun _ _ => rfl; have g_sLinesOf := PySem.W.mg_of X G a28; have k_sLinesOf := k28; have F_sAreKnots := fun_mk (st := sAreKnots) l29 c29 k29; have b_sAreKnots := F_sAreKnots.binds (ps := ["_law_found", "_law_many"]) fun _ _ _ _ _ _ => bl2 fun _ _ => rfl; have g_sAreKnots := PySem.W.mg_of X G a29; have k_sAreKnots := k29; have F_sKeptWhole := fun_mk (st := sKeptWhole) l30 c30 k30; have b_sKeptWhole := F_sKeptWhole.binds (ps := ["_law_handed", "_law_tree"]) fun _ _ _ _ _ _ => bl2 fun _ _ => rfl; have g_sKeptWhole := PySem.W.mg_of X G a30; have k_sKeptWhole := k30; have F_sIsFree := fun_mk (st := sIsFree) l31 c31 k31; have b_sIsFree := F_sIsFree.binds (ps := ["_law_many", "_law_lines"]) fun _ _ _ _ _ _ => bl2 fun _ _ => rfl; have g_sIsFree := PySem.W.mg_of X G a31; have k_sIsFree := k31; have F_sSpoilt := fun_mk (st := sSpoilt) l32 c32 k32; have b_sSpoilt := F_sSpoilt.binds (ps := ["_law_many", "_law_lines", "_law_way", "_law_cell"]) fun _ _ _ _ _ _ => bl4 fun _ _ _ _ => rfl; have g_sSpoilt := PySem.W.mg_of X G a32; have k_sSpoilt := k32; have F_sAsked := fun_mk (st := sAsked) l33 c33 k33; have b_sAsked := F_sAsked.binds (ps := ["_law_way", "_law_tree"]) fun _ _ _ _ _ _ => bl2 fun _ _ => rfl; have g_sAsked := PySem.W.mg_of X G a33; have k_sAsked := k33; have F_sRefuses := fun_mk (st := sRefuses) l34 c34 k34; have b_sRefuses := F_sRefuses.binds (ps := ["_law_way", "_law_tree"]) fun _ _ _ _ _ _ => bl2 fun _ _ => rfl; have g_sRefuses := PySem.W.mg_of X G a34; have k_sRefuses := k34; have F_sLaw := fun_mk (st := sLaw) l35 c35 k35; have m_TreeError := PySem.W.mg_of X G qTreeError; have m_NoTree := PySem.W.mg_of X G qNoTree; have m_MARK := PySem.W.mg_of X G qMARK; have m_len := PySem.W.mg_none_of X G z1; have m_enumerate := PySem.W.mg_none_of X G z2; have m_sorted := PySem.W.mg_none_of X G z3; have m_reversed := PySem.W.mg_none_of X G z4; have m_range := PySem.W.mg_none_of X G z5; have m_isinstance := PySem.W.mg_none_of X G z6; have m_int := PySem.W.mg_none_of X G z7; have m_bool := PySem.W.mg_none_of X G z8; have m_list := PySem.W.mg_none_of X G z9; have m_min := PySem.W.mg_none_of X G z10; have m_max := PySem.W.mg_none_of X G z11; have m_tuple := PySem.W.mg_none_of X G z12; have m_zip := PySem.W.mg_none_of X G z13; have m_ValueError := PySem.W.mg_none_of X G z14; refine ⟨⟨_, ck⟩, lk7, PySem.W.fnOf "law" "law" (defArgs sLaw) (defBody sLaw) (defScope sLaw) .none kV35 dc35 pm35 an35 cd35 ct35, fun s v => .of_eq rfl, fun base _ _ hbm => ?_⟩; have bk : BltK K base bm := ⟨lk8, hbm, lk10, lk11⟩; have xnt : XC K CNoTree := ⟨nt1, nt2, nt3, nt4, nt5, nt6, nt7, nt8, nt9⟩; have GO : Kit l.prog w K mg base 1 _ _ spOver _ _ := ⟨ok_over F_sOver m_sorted, b_sOver, k_sOver, g_sOver⟩; have GRt : KitE l.prog w K mg base 1 _ _ (spRootX CNoTree) _ _ := ⟨ok_rootX F_sRoot m_enumerate m_len m_NoTree xnt, b_sRoot, k_sRoot, g_sRoot⟩; have GU : KitE l.prog w K mg base 1 _ _ (spUnderX CNoTree) _ _ := ⟨ok_underX F_sUnder m_enumerate m_len m_NoTree xnt, b_sUnder, k_sUnder, g_sUnder⟩; have GD : Kit l.prog w K mg base 1 _ _ spDownK _ _ := ⟨ok_downK F_sDown m_len, b_sDown, k_sDown, g_sDown⟩; have GK : KitD l.prog w K mg base 2 _ _ (spKnots CNoTree) _ _ := ⟨ok_knots F_sKnotForms GO GRt GU GD m_len m_reversed m_NoTree xnt m_MARK, b_sKnotForms, b1_sKnotForms, k_sKnotForms, g_sKnotForms⟩; have GFX : KitE l.prog w K mg base 3 _ _ (spFormX CNoTree) _ _ := ⟨ok_formX F_sForm GK GRt, b_sForm, k_sForm, g_sForm⟩; have GFq := GFX.quiet form_quiet; have GRq := GRt.quiet root_quiet; have GUq := GU.quiet under_quiet; have GB : Kit l.prog w K mg base 2 _ _ (spByForms T (lamOf sByForms).2.2.2 lqF) _ _ := ⟨ok_byForms FC_sByForms GUq GD GRq m_sorted ck lk13 lk14 bk lk12, b_sByForms, k_sByForms, g_sByForms⟩; have GMt : Kit l.prog w K mg base 1 _ _ spMates _ _ := ⟨ok_mates F_sMatesOf m_len m_zip, b_sMatesOf, k_sMatesOf, g_sMatesOf⟩; have GMx : KitE l.prog w K mg base 3 _ _ (spMatched CNoTree T (lamOf sByForms).2.2.2 lqF) _ _ := ⟨ok_matched F_sMatched GK GRt GB GMt, b_sMatched, k_sMatched, g_sMatched⟩; have GMd := GMx.quiet matched_quiet; have GSw : Kit l.prog w K mg base 1 _ _ spSwaps _ _ := ⟨ok_swaps F_sSwaps, b_sSwaps, k_sSwaps, g_sSwaps⟩; have GHm : KitE l.prog w K mg base 3 _ _ (spHowMany CNoTree) _ _ := ⟨ok_howMany F_sHowMany GK GU GSw, b_sHowMany, k_sHowMany, g_sHowMany⟩; have GGr : Kit l.prog w K mg base 1 _ _ spGrouped _ _ := ⟨ok_grouped F_sGrouped m_enumerate m_list, b_sGrouped, k_sGrouped, g_sGrouped⟩; have GBs : KitE l.prog w K mg base 1 _ _ (spBeside CNoTree) _ _ := ⟨ok_beside F_sKnotsBeside m_len m_range m_min m_max m_NoTree xnt, b_sKnotsBeside, k_sKnotsBeside, g_sKnotsBeside⟩; have GWk : KitE l.prog w K mg base 1 _ _ (spWalked CNoTree) _ _ := ⟨ok_walked F_sWalked m_len m_NoTree xnt, b_sWalked, k_sWalked, g_sWalked⟩; have GHu : KitE l.prog w K mg base 2 _ _ (spHung CNoTree) _ _ := ⟨ok_hung F_sHungUp GWk m_len m_range, b_sHungUp, k_sHungUp, g_sHungUp⟩; have GRa : KitE l.prog w K mg base 3 _ _ (spRootedAt CNoTree) _ _ := ⟨ok_rootedAt F_sRootedAt GBs GHu, b_sRootedAt, k_sRootedAt, g_sRootedAt⟩; have GFa : KitE l.prog w K mg base 4 _ _ (spFAlike CNoTree) _ _ := ⟨ok_fAlike F_sFreeAlikeKnots GBs GHu GFX GGr m_len m_range, b_sFreeAlikeKnots, k_sFreeAlikeKnots, g_sFreeAlikeKnots⟩; have GFm : KitE l.prog w K mg base 5 _ _ (spFMany CNoTree) _ _ := ⟨ok_fMany F_sFreeHowMany GHm GRa GFa m_len, b_sFreeHowMany, k_sFreeHowMany, g_sFreeHowMany⟩; have GFn : KitE l.prog w K mg base 2 _ _ (spFarness CNoTree) _ _ := ⟨ok_farness F_sFarness GWk m_max, b_sFarness, k_sFarness, g_sFarness⟩; have GMi : KitE l.prog w K mg base 3 _ _ (spMiddles CNoTree) _ _ := ⟨ok_middles F_sMiddles GBs GFn m_len m_range m_min m_enumerate, b_sMiddles, k_sMiddles, g_sMiddles⟩; have GFf : KitE l.prog w K mg base 4 _ _ (spFreeForm CNoTree) _ _ := ⟨ok_freeForm F_sFreeForm GMi GRa GFX GK m_len m_sorted, b_sFreeForm, k_sFreeForm, g_sFreeForm⟩; have GMr : KitE l.prog w K mg base 5 _ _ spMidRoot _ _ := ⟨ok_midRoot F_sRootedInTheMiddle GMi GRa GFq m_min, b_sRootedInTheMiddle, k_sRootedInTheMiddle, g_sRootedInTheMiddle⟩; have GFx : KitE l.prog w K mg base 6 _ _ (spFMatched CNoTree T (lamOf sByForms).2.2.2 lqF) _ _ := ⟨ok_fMatched F_sFreeMatched GFf GMr GMd, b_sFreeMatched, k_sFreeMatched, g_sFreeMatched⟩; have GP : Kit l.prog w K mg base 1 _ _ (spUpto K) _ _ := ⟨ok_upto F_sUpto m_len, b_sUpto, k_sUpto, g_sUpto⟩; have GW : Kit l.prog w K mg base 1 _ _ spWhole _ _ := ⟨ok_whole F_sWhole m_isinstance m_int m_bool, b_sWhole, k_sWhole, g_sWhole⟩; have GR : Kit l.prog w K mg base 1 _ _ spRooted _ _ := ⟨ok_rooted F_sRooted m_len m_range, b_sRooted, k_sRooted, g_sRooted⟩; have GA : Kit l.prog w K mg base 1 _ _ (spAt K) _ _ := ⟨ok_at F_sAt m_len, b_sAt, k_sAt, g_sAt⟩; have GLo : Kit l.prog w K mg base 1 _ _ spLinesOf _ _ := ⟨ok_linesOf F_sLinesOf m_len m_range, b_sLinesOf, k_sLinesOf, g_sLinesOf⟩; have GAk : Kit l.prog w K mg base 2 _ _ spAreKnotsI _ _ := ⟨ok_areKnotsI F_sAreKnots GW m_len m_isinstance m_list, b_sAreKnots, k_sAreKnots, g_sAreKnots⟩; have GKp : Kit l.prog w K mg base 3 _ _ spKept _ _ := ⟨ok_kept F_sKeptWhole GW GAk m_len m_isinstance m_list m_tuple, b_sKeptWhole, k_sKeptWhole, g_sKeptWhole⟩; have GI : Kit l.prog w K mg base 1 _ _ spIsFreeL _ _ := ⟨ok_isFree F_sIsFree m_len m_range m_min m_max, b_sIsFree, k_sIsFree, g_sIsFree⟩; have GSp : Kit l.prog w K mg base 1 _ _ spSpoiltF _ _ := ⟨ok_spoiltF F_sSpoilt m_len m_list, b_sSpoilt, k_sSpoilt, g_sSpoilt⟩; have GAs : KitE l.prog w K mg base 7 _ _ (spAskedF CNoTree T (lamOf sByForms).2.2.2 lqF) _ _ := ⟨ok_asked F_sAsked GMi GRa GFf GFx GFm GFa, b_sAsked, k_sAsked, g_sAsked⟩; have GRf : Kit l.prog w K mg base 8 _ _ (spRefusesF T (lamOf sByForms).2.2.2 lqF) _ _ := ⟨ok_refuses F_sRefuses GAs m_NoTree m_TreeError xnt y2 y3 m_isinstance m_ValueError, b_sRefuses, k_sRefuses, g_sRefuses⟩; exact ok_law (by decide) F_sLaw GP GR GLo GA GSp GI GRf GKp m_len m_list m_range
theorem walk {l : PySem.W.OpenLaw} {q : Program} {loose : List Str} {XP : (Str -> Option Value) -> Heap -> Prop} {YP : World -> Heap -> Prop} {d : DefRec} {K : Params -> PySem.W.Frag} {T bm : Addr} (hn : l.most = some 63) (hdf : d.params.defaults = [])
    (hY : ∀ (w : World) (h : Heap), YP w h -> (K w.params).In h /\ h.get? T = some { cls := .none, data := .fields #[] } /\ h.get? bm = some modO)
    (F : ∀ (w : World) (mg : Str -> Option Value) (fa : Addr) (h : Heap), (K w.params).In h -> h.Ns mainGlobals mg -> mg d.name = some (.ref fa) ->
      (∃ c, CodeK (K w.params) c T) /\ (K w.params).lookup T = none /\ ∃ fd : FuncData, (∀ (s : Shared) (u : Value), BindsTo s fd ⟨[u], []⟩ [("_law_script", u)]) /\ ∀ base : Heap, (K w.params).In base -> base.Ns mainGlobals mg -> base.get? bm = some modO -> FnOk l.prog w (K w.params) mg base CX0 65 fa fd ["_law_script"] (spLawT (K w.params) T (lamOf sByForms).2.2.2 lqF)) :
    PySem.W.WalkO q loose XP YP l.row.toRowW d [] (fun f vs => PySem.call f vs) :=
  L2.walk_ofT (n := 63) (k := 65) (x := "_law_script") (P := T) (bm := bm) (pos := (lamOf sByForms).2.2.2) (lq := lqF) (CX := fun w => CX0) (sp := fun w => (spLawT (K w.params) T (lamOf sByForms).2.2.2 lqF)) hn (by decide) hdf ⟨rfl, by decide, by decide⟩ hY F (fun _ _ a ns hl hO hS => ⟨a, ns, rfl, hS, hl, .inl hO.1, fun _ t => ⟨rfl, t⟩⟩) fun _ _ _ _ _ z => z
end K08
open PySem PySem.W PyProof.Rows
local macro_rules | `(tactic| o_head ($f:ident $k $a $e $t)) => `(tactic| o_head (L2.hookT $k $a $e 90 4))
set_option maxRecDepth 100000 in
set_option maxHeartbeats 0 in
theorem PySem.Challenge.cw_shapekin_k08_no_free_trees_holds : PySem.Challenge.rw_shapekin_k08_no_free_trees.Holds := by
  w_on; o_law; k_head; (case hw => w_witness2)
  k_fill
  refine K08.walk (l := PySem.Challenge.rw_shapekin_k08_no_free_trees) rfl rfl (fun w h Y => Y) ?F
  case F =>
    intro w mg fa h KX G hmg
    refine' K08.all_mk KX G hmg ?qTreeError ?qNoTree ?qMARK ?nt1 ?nt2 ?nt3 ?nt4 ?nt5 ?nt6 ?nt7 ?nt8 ?nt9 ?y2 ?y3 ?a1 ?l1 ?c1 ?k1 ?a2 ?l2 ?c2 ?k2 ?t2 ?a3 ?l3 ?c3 ?k3 ?a4 ?l4 ?c4 ?k4 ?a5 ?l5 ?c5 ?k5 ?a6 ?l6 ?c6 ?k6 ?a7 ?l7 ?c7 ?k7 ?a8 ?l8 ?c8 ?k8 ?a9 ?l9 ?c9 ?k9 ?a10 ?l10 ?c10 ?k10 ?a11 ?l11 ?c11 ?k11 ?a12 ?l12 ?c12 ?k12 ?a13 ?l13 ?c13 ?k13 ?a14 ?l14 ?c14 ?k14 ?a15 ?l15 ?c15 ?k15 ?a16 ?l16 ?c16 ?k16 ?a17 ?l17 ?c17 ?k17 ?a18 ?l18 ?c18 ?k18 ?a19 ?l19 ?c19 ?k19 ?a20 ?l20 ?c20 ?k20 ?a21 ?l21 ?c21 ?k21 ?a22 ?l22 ?c22 ?k22 ?a23 ?l23 ?c23 ?k23 ?a24 ?l24 ?c24 ?k24 ?a25 ?l25 ?c25 ?k25 ?a26 ?l26 ?c26 ?k26 ?a27 ?l27 ?c27 ?k27 ?a28 ?l28 ?c28 ?k28 ?a29 ?l29 ?c29 ?k29 ?a30 ?l30 ?c30 ?k30 ?a31 ?l31 ?c31 ?k31 ?a32 ?l32 ?c32 ?k32 ?a33 ?l33 ?c33 ?k33 ?a34 ?l34 ?c34 ?k34 ?a35 ?l35 ?c35 ?k35 ?z1 ?z2 ?z3 ?z4 ?z5 ?z6 ?z7 ?z8 ?z9 ?z10 ?z11 ?z12 ?z13 ?z14 ?lk1 ?lk2 ?lk3 ?lk4 ?lk5 ?lk6 ?lk7 ?lk8 ?lk10 ?lk11 ?lk12 ?lk13 ?lk14
    (case qTreeError => k_is)
    (case qNoTree => k_is)
    (case qMARK => k_is)
    (case nt1 => first | k_is | k_exc | kit_is | kts_exm)
    (case nt2 => first | k_is | k_exc | kit_is | kts_exm)
    (case nt3 => first | k_is | k_exc | kit_is | kts_exm)
    (case nt4 => first | k_is | k_exc | kit_is | kts_exm)
    (case nt5 => first | k_is | k_exc | kit_is | kts_exm)
    (case nt6 => first | k_is | k_exc | kit_is | kts_exm)
    (case nt7 => first | k_is | k_exc | kit_is | kts_exm)
    (case nt8 => first | k_is | k_exc | kit_is | kts_exm)
    (case nt9 => first | k_is | k_exc | kit_is | kts_exm)
    (case y2 => first | k_is | k_exc | kit_is | kts_exm)
    (case y3 => first | k_is | k_exc | kit_is | kts_exm)
    (case a1 => k_is)
    (case l1 => k_is)
    (case c1 => k_is)
    (case k1 => k_is)
    (case a2 => k_is)
    (case l2 => k_is)
    (case c2 => k_is)
    (case k2 => k_is)
    (case t2 => k_is)
    (case a3 => k_is)
    (case l3 => k_is)
    (case c3 => k_is)
    (case k3 => k_is)
    (case a4 => k_is)
    (case l4 => k_is)
    (case c4 => k_is)
    (case k4 => k_is)
    (case a5 => k_is)
    (case l5 => k_is)
    (case c5 => k_is)
    (case k5 => k_is)
    (case a6 => k_is)
    (case l6 => k_is)
    (case c6 => k_is)
    (case k6 => k_is)
    (case a7 => k_is)
    (case l7 => k_is)
    (case c7 => k_is)
    (case k7 => k_is)
    (case a8 => k_is)
    (case l8 => k_is)
    (case c8 => k_is)
    (case k8 => k_is)
    (case a9 => k_is)
    (case l9 => k_is)
    (case c9 => k_is)
    (case k9 => k_is)
    (case a10 => k_is)
    (case l10 => k_is)
    (case c10 => k_is)
    (case k10 => k_is)
    (case a11 => k_is)
    (case l11 => k_is)
    (case c11 => k_is)
    (case k11 => k_is)
    (case a12 => k_is)
    (case l12 => k_is)
    (case c12 => k_is)
    (case k12 => k_is)
    (case a13 => k_is)
    (case l13 => k_is)
    (case c13 => k_is)
    (case k13 => k_is)
    (case a14 => k_is)
    (case l14 => k_is)
    (case c14 => k_is)
    (case k14 => k_is)
    (case a15 => k_is)
    (case l15 => k_is)
    (case c15 => k_is)
    (case k15 => k_is)
    (case a16 => k_is)
    (case l16 => k_is)
    (case c16 => k_is)
    (case k16 => k_is)
    (case a17 => k_is)
    (case l17 => k_is)
    (case c17 => k_is)
    (case k17 => k_is)
    (case a18 => k_is)
    (case l18 => k_is)
    (case c18 => k_is)
    (case k18 => k_is)
    (case a19 => k_is)
    (case l19 => k_is)
    (case c19 => k_is)
    (case k19 => k_is)
    (case a20 => k_is)
    (case l20 => k_is)
    (case c20 => k_is)
    (case k20 => k_is)
    (case a21 => k_is)
    (case l21 => k_is)
    (case c21 => k_is)
    (case k21 => k_is)
    (case a22 => k_is)
    (case l22 => k_is)
    (case c22 => k_is)
    (case k22 => k_is)
    (case a23 => k_is)
    (case l23 => k_is)
    (case c23 => k_is)
    (case k23 => k_is)
    (case a24 => k_is)
    (case l24 => k_is)
    (case c24 => k_is)
    (case k24 => k_is)
    (case a25 => k_is)
    (case l25 => k_is)
    (case c25 => k_is)
    (case k25 => k_is)
    (case a26 => k_is)
    (case l26 => k_is)
    (case c26 => k_is)
    (case k26 => k_is)
    (case a27 => k_is)
    (case l27 => k_is)
    (case c27 => k_is)
    (case k27 => k_is)
    (case a28 => k_is)
    (case l28 => k_is)
    (case c28 => k_is)
    (case k28 => k_is)
    (case a29 => k_is)
    (case l29 => k_is)
    (case c29 => k_is)
    (case k29 => k_is)
    (case a30 => k_is)
    (case l30 => k_is)
    (case c30 => k_is)
    (case k30 => k_is)
    (case a31 => k_is)
    (case l31 => k_is)
    (case c31 => k_is)
    (case k31 => k_is)
    (case a32 => k_is)
    (case l32 => k_is)
    (case c32 => k_is)
    (case k32 => k_is)
    (case a33 => k_is)
    (case l33 => k_is)
    (case c33 => k_is)
    (case k33 => k_is)
    (case a34 => k_is)
    (case l34 => k_is)
    (case c34 => k_is)
    (case k34 => k_is)
    (case a35 => k_is)
    (case l35 => k_is)
    (case c35 => k_is)
    (case k35 => k_is)
    (case z1 => k_is)
    (case z2 => k_is)
    (case z3 => k_is)
    (case z4 => k_is)
    (case z5 => k_is)
    (case z6 => k_is)
    (case z7 => k_is)
    (case z8 => k_is)
    (case z9 => k_is)
    (case z10 => k_is)
    (case z11 => k_is)
    (case z12 => k_is)
    (case z13 => k_is)
    (case z14 => k_is)
    (case lk1 => k_is)
    (case lk2 => rfl)
    (case lk3 => rfl)
    (case lk4 => rfl)
    (case lk5 => rfl)
    (case lk6 => rfl)
    (case lk7 => kernel_rfl)
    (case lk8 => k_is)
    (case lk10 => decide)
    (case lk11 => decide)
    (case lk12 => decide)
    (case lk13 => decide)
    (case lk14 => decide)
#print axioms PySem.Challenge.cw_shapekin_k08_no_free_trees_holds
